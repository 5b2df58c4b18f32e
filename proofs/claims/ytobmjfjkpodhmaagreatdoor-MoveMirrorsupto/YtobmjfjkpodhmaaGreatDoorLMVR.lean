/- Part 13 of the walks and of the mathematics under them: VY VSZ VSA CFmoved MVR. -/
import Derived.Test.YtobmjfjkpodhmaaGreatDoorA12
set_option maxHeartbeats 16000000
set_option maxRecDepth 100000
/- VY -/
namespace Go.Proofs.YtobmjfjkpodhmaaGreatDoor
open Go.RowKit Cx
theorem den_num (t : Rat) : t*(t.den : Rat)=((t.num : Int) : Rat) := by
 conv => lhs; lhs; rw [← Rat.mkRat_self t]
 have h0 : (t.den : Rat) ≠ 0 := fun h => t.den_nz (by exact_mod_cast h)
 rw [Rat.mkRat_eq_div,Rat.div_mul_cancel h0]
theorem whole {q : Rat} (h : q.den=1) : q=((q.num : Int) : Rat) := by
 have := den_num q
 rw [h] at this
 rw [← this]
 show q=q*((1 : Nat) : Rat)
 exact (Rat.mul_one q).symm
end Go.Proofs.YtobmjfjkpodhmaaGreatDoor
/- VSZ -/
namespace Go.Proofs.YtobmjfjkpodhmaaGreatDoor
open Go.RowKit Cx
structure QW (z : Nat) (x : Rat) : Prop where
 qs : QS z x
 wh : x.den=1
theorem QW.of {z : Nat} {n : Int} (h : n.natAbs < 2 ^ z) (hz : 0 < z) : QW z ((n : Int) : Rat) :=
 ⟨⟨by simpa using h,by
  show ((n : Int) : Rat).den < 2 ^ z
  rw [Rat.den_intCast]
  exact Nat.one_lt_two_pow (by omega)⟩,Rat.den_intCast n⟩
theorem QW.mono {k l : Nat} {x : Rat} (h : QW k x) (hk : k≤l) : QW l x := ⟨h.qs.mono hk,h.wh⟩
theorem two_max {a b x y : Nat} (h1 : a < 2 ^ x) (h2 : b < 2 ^ y) : a+b < 2 ^ (Nat.max x y+1) := by
 have e1 : 2 ^ x≤2 ^ Nat.max x y := Nat.pow_le_pow_right (by decide) (Nat.le_max_left x y)
 have e2 : 2 ^ y≤2 ^ Nat.max x y := Nat.pow_le_pow_right (by decide) (Nat.le_max_right x y)
 rw [Nat.pow_succ]
 omega
theorem QW.add {x y : Nat} {a b : Rat} (h1 : QW x a) (h2 : QW y b) : QW (Nat.max x y+1) (a+b) := by
 rw [whole h1.wh,whole h2.wh,← Rat.intCast_add]
 refine QW.of ?_ (by omega)
 have := two_max h1.qs.num h2.qs.num
 omega
theorem QW.sub {x y : Nat} {a b : Rat} (h1 : QW x a) (h2 : QW y b) : QW (Nat.max x y+1) (a - b) := by
 rw [whole h1.wh,whole h2.wh,← Rat.intCast_sub]
 refine QW.of ?_ (by omega)
 have := two_max h1.qs.num h2.qs.num
 omega
theorem QW.mul {x y : Nat} {a b : Rat} (h1 : QW x a) (h2 : QW y b) : QW (x+y) (a*b) := by
 refine ⟨h1.qs.mul h2.qs,?_⟩
 rw [whole h1.wh,whole h2.wh,← Rat.intCast_mul]
 exact Rat.den_intCast _
theorem QW.neg {x : Nat} {a : Rat} (h1 : QW x a) : QW x (-a) := ⟨h1.qs.neg,h1.wh⟩
theorem ten_three : ∀ n : Nat,10 ^ n≤2 ^ ((10*n+2) / 3)
 | 0 => by decide
 | 1 => by decide
 | 2 => by decide
 | n+3 => by
  have h := ten_three n
  have e : (10*(n+3)+2) / 3=(10*n+2) / 3+10 := by omega
  rw [e,Nat.pow_add,Nat.pow_add]
  exact Nat.mul_le_mul h (by decide)
theorem QS.rd3 (l : List UInt8) : QS ((10*l.length+2) / 3+5) (Cx.rd l) := by
 have key : ∀ {m : List UInt8},digs m=true→dv m < 2 ^ ((10*m.length+2) / 3) := fun {m} h => Nat.lt_of_lt_of_le (dv_lt (digs_all h)) (ten_three _)
 unfold Cx.rd
 split
 ·rename_i h
  rw [Bool.and_eq_true] at h
  have h1 := key h.1
  have h2 := key h.2
  have h3 := up_len (tailOf l)
  have h4 := low_len (tailOf l)
  have h5 := tail_len l
  apply QS.mkr
  ·rw [sg_abs]; exact Nat.lt_of_lt_of_le h1 (Nat.pow_le_pow_right (by decide) (by omega))
  ·exact Nat.lt_of_lt_of_le h2 (Nat.pow_le_pow_right (by decide) (by omega))
 ·exact QS.zero.mono (by omega)
section
variable {N : List Nd} {Z : List Nat} {I : List Bool} {q : Nat→Rat}
end
end Go.Proofs.YtobmjfjkpodhmaaGreatDoor
/- VSA -/
namespace Go.Proofs.YtobmjfjkpodhmaaGreatDoor
open Go.RowKit Cx
def inB : Nat := 3495259
abbrev Atm := Nat × Nat
def remA (x : Atm) : List Atm→Option (List Atm)
 | [] => none
 | y :: l => bif Nat.beq x.1 y.1 && Nat.beq x.2 y.2 then some l else (remA x l).map (y :: ·)
def subA : List Atm→List Atm→Option (List Atm)
 | l,[] => some l
 | l,x :: r => (remA x l).bind fun l' => subA l' r
def leftA : List Atm→List Atm→List Atm
 | _,[] => []
 | U,x :: D => match remA x U with
  | some U' => leftA U' D
  | none => x :: leftA U D
def uniA (E : List (Nat × List Atm)) : List Nat→List Atm→List Atm
 | [],U => U
 | a :: l,U => uniA E l (match E[a]? with
  | some p => U ++ leftA U p.2
  | none => U)
def bitA (E : List (Nat × List Atm)) (x : Atm) : Nat := match x.1 with
 | 0 => inB
 | 1 => (match E[x.2]? with
  | some p => p.1
  | none => 1)
 | _ => Nat.log2 x.2+1
def bitL (E : List (Nat × List Atm)) : List Atm→Nat
 | [] => 1
 | x :: l => bitA E x+bitL E l
def noneA (l : Option (List Atm)) : Bool := match l with
 | some [] => true
 | _ => false
def saN (E : List (Nat × List Atm)) (k z : Nat) (D : List Atm) (nd : Nd) : Bool := (Nat.blt 0 z && D.all fun x => !Nat.beq x.1 1 || Nat.blt x.2 k) && match nd.1,nd.2 with
 | 0,[_,n,d] => (Nat.blt n (2 ^ z) && Nat.blt 0 d) && noneA (subA D (bif Nat.beq d 1 then [] else [(2,d)]))
 | 1,[j] => Nat.ble inB z && noneA (subA D [(0,j)])
 | 2,[a,b] => (match E[a]?,E[b]? with
  | some p,some r => (match subA D p.2,subA D r.2 with
   | some c,some e => Nat.ble (Nat.max (p.1+bitL E c) (r.1+bitL E e)+1) z
   | _,_ => false)
  | _,_ => false)
 | 3,[a,b] => (match E[a]?,E[b]? with
  | some p,some r => (match subA D p.2,subA D r.2 with
   | some c,some e => Nat.ble (Nat.max (p.1+bitL E c) (r.1+bitL E e)+1) z
   | _,_ => false)
  | _,_ => false)
 | 4,[a,b] => (match E[a]?,E[b]? with
  | some p,some r => (match subA D p.2 with
   | some c => noneA (subA c r.2) && Nat.ble (p.1+r.1) z
   | _ => false)
  | _,_ => false)
 | 5,[a] => (match E[a]? with
  | some p => noneA (subA D p.2) && Nat.ble p.1 z
  | _ => false)
 | 6,[a,b] => (match E[a]?,E[b]?,remA (1,b) D with
  | some p,some r,some D' => (match subA p.2 D' with
   | some c => (match subA r.2 c with
    | some e => Nat.ble (p.1+bitL E e) z
    | none => false)
   | none => false)
  | _,_,_ => false)
 | 7,_ => Nat.beq D.length 0
 | 8,i :: xs => Nat.beq D.length 0 && (xs.all (fun a => match E[a]? with
   | some p => (subA (uniA E xs []) p.2).isSome
   | none => false) && (match xs[i]? with
   | some a => (match E[a]? with
    | some p => (match subA (uniA E xs []) p.2 with
     | some e => Nat.ble (p.1+bitL E e) z
     | none => false)
    | none => false)
   | none => false))
 | _,_ => false
def saB (E : List (Nat × List Atm)) : Nat→List Nd→List (Nat × List Atm)→List Nat→Bool
 | _,[],[],[] => true
 | k,nd :: ns,p :: ps,z :: zs => (saN E k p.1 p.2 nd && (Nat.ble p.1 z && (Nat.ble (bitL E p.2) z && Nat.ble z 1000000000000))) && saB E (k+1) ns ps zs
 | _,_,_,_ => false
theorem saB_get {E : List (Nat × List Atm)} : ∀ {ns : List Nd} {ps : List (Nat × List Atm)} {zs : List Nat} {k i : Nat} {nd : Nd},saB E k ns ps zs=true→ns[i]? = some nd→∃ p z,ps[i]? = some p∧zs[i]? = some z∧saN E (k+i) p.1 p.2 nd=true∧p.1≤z∧bitL E p.2≤z∧z≤1000000000000
 | [],_,_,_,_,_,_,h => by simp at h
 | _ :: _,[],_,_,_,_,h,_ => by cases h
 | _ :: _,_ :: _,[],_,_,_,h,_ => by cases h
 | nd' :: ns,p :: ps,z :: zs,k,0,nd,h,e => by
  have : nd'=nd := by simpa using e
  subst this
  unfold saB at h
  simp only [Bool.and_eq_true,Nat.ble_eq] at h
  exact ⟨p,z,rfl,rfl,h.1.1,h.1.2.1,h.1.2.2.1,h.1.2.2.2⟩
 | nd' :: ns,p :: ps,z :: zs,k,i+1,nd,h,e => by
  unfold saB at h
  rw [Bool.and_eq_true] at h
  obtain ⟨p',z',g1,g2,g3,g4⟩ := saB_get (k := k+1) (i := i) h.2 (by simpa using e)
  exact ⟨p',z',by simpa using g1,by simpa using g2,by rw [show k+(i+1)=k+1+i by omega]; exact g3,g4⟩
theorem saB_len {E : List (Nat × List Atm)} : ∀ {ns : List Nd} {ps : List (Nat × List Atm)} {zs : List Nat} {k : Nat},saB E k ns ps zs=true→ns.length=ps.length∧ns.length=zs.length
 | [],[],[],_,_ => ⟨rfl,rfl⟩
 | [],[],_ :: _,_,h => by cases h
 | [],_ :: _,_,_,h => by cases h
 | _ :: _,[],_,_,h => by cases h
 | _ :: _,_ :: _,[],_,h => by cases h
 | _ :: _,_ :: _,_ :: _,k,h => by
  unfold saB at h
  rw [Bool.and_eq_true] at h
  have := saB_len h.2
  exact ⟨congrArg (· + 1) this.1,congrArg (· + 1) this.2⟩
def valA (dn : Nat→Nat) (M : Nat→Rat) (x : Atm) : Rat := match x.1 with
 | 0 => ((dn x.2 : Nat) : Rat)
 | 1 => if M x.2=0 then 1 else M x.2
 | _ => if x.2=0 then 1 else ((x.2 : Nat) : Rat)
def proA (dn : Nat→Nat) (M : Nat→Rat) : List Atm→Rat
 | [] => 1
 | x :: l => valA dn M x*proA dn M l
theorem remA_pro {dn : Nat→Nat} {M : Nat→Rat} {x : Atm} : ∀ {l c : List Atm},remA x l=some c→proA dn M l=valA dn M x*proA dn M c
 | [],_,h => by cases h
 | y :: l,c,h => by
  unfold remA at h
  cases e : (Nat.beq x.1 y.1 && Nat.beq x.2 y.2) with
  | true =>
   rw [e] at h
   cases h
   rw [Bool.and_eq_true,Nat.beq_eq,Nat.beq_eq] at e
   have : x=y := Prod.ext e.1 e.2
   rw [this]
   rfl
  | false =>
   rw [e] at h
   simp only [cond_false,Option.map_eq_some_iff] at h
   obtain ⟨c',h1,rfl⟩ := h
   show valA dn M y*proA dn M l=valA dn M x*(valA dn M y*proA dn M c')
   rw [remA_pro h1]
   grind
theorem subA_pro {dn : Nat→Nat} {M : Nat→Rat} : ∀ {r l c : List Atm},subA l r=some c→proA dn M l=proA dn M r*proA dn M c
 | [],l,c,h => by
  have : l=c := by simpa [subA] using h
  rw [this]
  exact (Rat.one_mul _).symm
 | x :: r,l,c,h => by
  unfold subA at h
  rw [Option.bind_eq_some_iff] at h
  obtain ⟨l',h1,h2⟩ := h
  rw [remA_pro h1,subA_pro h2]
  exact (Rat.mul_assoc _ _ _).symm
theorem noneA_some {l : Option (List Atm)} (h : noneA l=true) : l=some [] := by
 unfold noneA at h
 split at h
 ·rfl
 ·cases h
theorem QW.one {z : Nat} (h : 0 < z) : QW z 1 := ⟨⟨by
  show (1 : Int).natAbs < 2 ^ z
  exact Nat.one_lt_two_pow (by omega),by
  show 1 < 2 ^ z
  exact Nat.one_lt_two_pow (by omega)⟩,rfl⟩
theorem QW.zero {z : Nat} (h : 0 < z) : QW z 0 := ⟨⟨by
  show (0 : Int).natAbs < 2 ^ z
  exact Nat.two_pow_pos z,by
  show 1 < 2 ^ z
  exact Nat.one_lt_two_pow (by omega)⟩,rfl⟩
theorem QW.nat {z n : Nat} (h : n < 2 ^ z) (hz : 0 < z) : QW z ((n : Nat) : Rat) := by
 have : ((n : Nat) : Rat)=(((n : Nat) : Int) : Rat) := (Rat.intCast_natCast n).symm
 rw [this]
 exact QW.of (by simpa using h) hz
section
variable {E : List (Nat × List Atm)} {dn : Nat→Nat} {M : Nat→Rat} {k : Nat}
def BelA (E : List (Nat × List Atm)) (dn : Nat→Nat) (M : Nat→Rat) (q : Nat→Rat) (k : Nat) : Prop := ∀ a,a < k→∃ p,E[a]? = some p∧QW p.1 (M a)∧0 < p.1∧(∀ x ∈ p.2,x.1=1→x.2 < a)∧q a*proA dn M p.2=M a
theorem valA_ok {q : Nat→Rat} (hdn : ∀ j,0 < dn j∧dn j < 2 ^ inB) (hM : BelA E dn M q k) {x : Atm} (hx : x.1=1→x.2 < k) : QW (bitA E x) (valA dn M x)∧valA dn M x ≠ 0 := by
 obtain ⟨i,j⟩ := x
 match i with
 | 0 =>
  show QW inB ((dn j : Nat) : Rat)∧((dn j : Nat) : Rat) ≠ 0
  refine ⟨QW.nat (hdn j).2 (by unfold inB; omega),fun h => ?_⟩
  have := (hdn j).1
  have h2 : dn j=0 := by exact_mod_cast h
  omega
 | 1 =>
  obtain ⟨p,h1,h2,h3,_⟩ := hM j (hx rfl)
  show QW (match E[j]? with
   | some p => p.1
   | none => 1) (if M j=0 then 1 else M j)∧(if M j=0 then 1 else M j) ≠ 0
  rw [h1]
  by_cases h : M j=0
  ·rw [if_pos h]
   exact ⟨QW.one h3,by decide⟩
  ·rw [if_neg h]
   exact ⟨h2,h⟩
 | i+2 =>
  show QW (Nat.log2 j+1) (if j=0 then 1 else ((j : Nat) : Rat))∧(if j=0 then 1 else ((j : Nat) : Rat)) ≠ 0
  by_cases h : j=0
  ·rw [if_pos h]
   exact ⟨QW.one (by omega),by decide⟩
  ·rw [if_neg h]
   refine ⟨QW.nat Nat.lt_log2_self (by omega),fun h2 => h ?_⟩
   exact_mod_cast h2
theorem proA_ok {q : Nat→Rat} (hdn : ∀ j,0 < dn j∧dn j < 2 ^ inB) (hM : BelA E dn M q k) : ∀ {l : List Atm},(∀ x ∈ l,x.1=1→x.2 < k)→QW (bitL E l) (proA dn M l)∧proA dn M l ≠ 0
 | [],_ => ⟨QW.one (show 0 < 1 by decide),by show (1 : Rat) ≠ 0; decide⟩
 | x :: l,h => by
  have h1 := valA_ok hdn hM (h x List.mem_cons_self)
  have h2 := proA_ok hdn hM (l := l) fun y hy => h y (List.mem_cons_of_mem _ hy)
  exact ⟨h1.1.mul h2.1,mul_ne h1.2 h2.2⟩
theorem proA_congr {M' : Nat→Rat} : ∀ {l : List Atm},(∀ x ∈ l,x.1=1→M x.2=M' x.2)→proA dn M l=proA dn M' l
 | [],_ => rfl
 | x :: l,h => by
  show valA dn M x*proA dn M l=valA dn M' x*proA dn M' l
  rw [proA_congr (l := l) fun y hy => h y (List.mem_cons_of_mem _ hy)]
  have e : valA dn M x=valA dn M' x := by
   obtain ⟨i,j⟩ := x
   match i with
   | 0 => rfl
   | 1 =>
    have := h (1,j) List.mem_cons_self rfl
    show (if M j=0 then 1 else M j)=(if M' j=0 then 1 else M' j)
    rw [this]
   | i+2 => rfl
  rw [e]
theorem remA_mem {x y : Atm} : ∀ {l c : List Atm},remA x l=some c→y ∈ c→y ∈ l
 | [],_,h,_ => by cases h
 | z :: l,c,h,hy => by
  unfold remA at h
  cases e : (Nat.beq x.1 z.1 && Nat.beq x.2 z.2) with
  | true => rw [e] at h; cases h; exact List.mem_cons_of_mem _ hy
  | false =>
   rw [e] at h
   simp only [cond_false,Option.map_eq_some_iff] at h
   obtain ⟨c',h1,rfl⟩ := h
   rcases List.mem_cons.1 hy with rfl | hy
   ·exact List.mem_cons_self
   ·exact List.mem_cons_of_mem _ (remA_mem h1 hy)
theorem subA_mem {y : Atm} : ∀ {r l c : List Atm},subA l r=some c→y ∈ c→y ∈ l
 | [],l,c,h,hy => by
  have : l=c := by simpa [subA] using h
  rw [this]; exact hy
 | x :: r,l,c,h,hy => by
  unfold subA at h
  rw [Option.bind_eq_some_iff] at h
  obtain ⟨l',h1,h2⟩ := h
  exact remA_mem h1 (subA_mem h2 hy)
theorem nat_ne {n : Nat} (h : n ≠ 0) : ((n : Nat) : Rat) ≠ 0 := fun e => h (by exact_mod_cast e)
theorem mul_low (x : Rat) : x*((x.den : Nat) : Rat)=((x.num : Int) : Rat) := by
 have e : x=((x.num : Int) : Rat) / ((x.den : Nat) : Rat) := by
  have := Rat.mkRat_self x
  rw [Rat.mkRat_eq_div] at this
  exact this.symm
 conv => lhs; lhs; rw [e]
 exact Rat.div_mul_cancel (nat_ne x.den_nz)
theorem lD_dvd_of {qs : List Rat} {m M : Nat} (hm : m ∣ M) (h : ∀ q ∈ qs,q.den ∣ M) : qs.foldl (fun m q => m*(q.den / Nat.gcd m q.den)) m ∣ M := by
 induction qs generalizing m with
 | nil => exact hm
 | cons q qs ih =>
  rw [List.foldl_cons]
  refine ih ?_ fun p hp => h p (List.mem_cons_of_mem _ hp)
  have e : m*(q.den / Nat.gcd m q.den)=Nat.lcm m q.den := by
   unfold Nat.lcm
   exact (Nat.mul_div_assoc _ (Nat.gcd_dvd_right _ _)).symm
  rw [e]
  exact Nat.lcm_dvd hm (h q List.mem_cons_self)
theorem den_dvd {x : Rat} {m : Int} (h : (x*((m : Int) : Rat)).den=1) : x.den ∣ m.natAbs := by
 have e := whole h
 generalize (x*((m : Int) : Rat)).num=n at e
 have h1 : x*((x.den : Nat) : Rat)=((x.num : Int) : Rat) := mul_low x
 have h2 : ((x.num : Int) : Rat)*((m : Int) : Rat)=((n : Int) : Rat)*(((x.den : Nat) : Int) : Rat) := by
  rw [← h1,← e,Rat.intCast_natCast]
  grind
 have h3 : x.num*m=n*(x.den : Int) := by exact_mod_cast h2
 have h4 : (x.den : Int) ∣ x.num*m := ⟨n,by rw [h3,Int.mul_comm]⟩
 have h5 : x.den ∣ x.num.natAbs*m.natAbs := by
  have := Int.natAbs_dvd_natAbs.2 h4
  rwa [Int.natAbs_mul,Int.natAbs_natCast] at this
 exact (Nat.Coprime.symm x.reduced).dvd_of_dvd_mul_left h5
theorem fac_whole {qs : List Rat} {x : Rat} {z : Nat} {m : Int} (hx : x ∈ qs) (hm : m ≠ 0) (hall : ∀ y ∈ qs,(y*((m : Int) : Rat)).den=1) (hz : QW z (x*((m : Int) : Rat))) : QW z (x*fac qs) := by
 have hl : lD qs ∣ m.natAbs := lD_dvd_of (Nat.one_dvd _) fun y hy => den_dvd (hall y hy)
 have hd := fac_den hx
 have hpos : 0 < m.natAbs := Int.natAbs_pos.2 hm
 have hle : lD qs≤m.natAbs := Nat.le_of_dvd hpos hl
 have hn : (x*fac qs).num.natAbs≤(x*((m : Int) : Rat)).num.natAbs := by
  rw [fac_abs hx]
  have e := whole hz.wh
  generalize (x*((m : Int) : Rat)).num=n at e
  have h1 : x*((x.den : Nat) : Rat)=((x.num : Int) : Rat) := mul_low x
  have h2 : ((x.num : Int) : Rat)*((m : Int) : Rat)=((n : Int) : Rat)*(((x.den : Nat) : Int) : Rat) := by
   rw [← h1,← e,Rat.intCast_natCast]
   grind
  have h3 : x.num*m=n*(x.den : Int) := by exact_mod_cast h2
  have h4 : x.num.natAbs*m.natAbs=n.natAbs*x.den := by
   have := congrArg Int.natAbs h3
   rwa [Int.natAbs_mul,Int.natAbs_mul,Int.natAbs_natCast] at this
  obtain ⟨c,hc⟩ := den_dvd (x := x) (m := m) (hall x hx)
  have h5 : n.natAbs=x.num.natAbs*c := by
   rw [hc] at h4
   refine Nat.eq_of_mul_eq_mul_right x.den_pos ?_
   rw [← h4]
   rw [Nat.mul_assoc,Nat.mul_comm c]
  show x.num.natAbs / gN qs*(lD qs / x.den)≤n.natAbs
  rw [h5]
  refine Nat.mul_le_mul (Nat.div_le_self _ _) ?_
  have : lD qs / x.den≤m.natAbs / x.den := Nat.div_le_div_right hle
  rw [hc,Nat.mul_div_cancel_left _ x.den_pos] at this
  exact this
 refine ⟨⟨Nat.lt_of_le_of_lt hn hz.qs.num,?_⟩,hd⟩
 rw [hd]
 have := hz.qs.den
 rw [hz.wh] at this
 exact this
theorem leftA_mem {y : Atm} : ∀ {D U : List Atm},y ∈ leftA U D→y ∈ D
 | [],_,h => by cases h
 | x :: D,U,h => by
  unfold leftA at h
  split at h
  ·exact List.mem_cons_of_mem _ (leftA_mem h)
  ·rcases List.mem_cons.1 h with rfl | h
   ·exact List.mem_cons_self
   ·exact List.mem_cons_of_mem _ (leftA_mem h)
theorem uniA_low {q : Nat→Rat} (hM : BelA E dn M q k) : ∀ {l : List Nat} {U : List Atm},(∀ c ∈ l,c < k)→(∀ x ∈ U,x.1=1→x.2 < k)→∀ x ∈ uniA E l U,x.1=1→x.2 < k
 | [],_,_,hU => hU
 | a :: l,U,hl,hU => by
  unfold uniA
  refine uniA_low hM (fun c hc => hl c (List.mem_cons_of_mem _ hc)) ?_
  have ha := hl a List.mem_cons_self
  obtain ⟨p,h1,_,_,h4,_⟩ := hM a ha
  rw [h1]
  intro x hx h
  rcases List.mem_append.1 hx with hx | hx
  ·exact hU x hx h
  ·exact Nat.lt_trans (h4 x (leftA_mem hx) h) ha
theorem node_ok {q : Nat→Rat} {σ : Nat→ByteArray} (hσ : ∀ j,(σ j).size≤1048576) (hdn : ∀ j,dn j=(Cx.rd (σ j).data.toList).den) (hM : BelA E dn M q k) {z : Nat} {D : List Atm} {nd : Nd} (hwf : wfN k nd=true) (hs : saN E k z D nd=true) : QW z (valN σ q nd*proA dn M D)∧0 < z∧∀ x ∈ D,x.1=1→x.2 < k := by
 have hdn' : ∀ j,0 < dn j∧dn j < 2 ^ inB := fun j => by
  rw [hdn j]
  refine ⟨Rat.den_pos _,Nat.lt_of_lt_of_le (QS.rd3 _).den (Nat.pow_le_pow_right (by decide) ?_)⟩
  have := hσ j
  rw [str_len]
  unfold inB
  omega
 obtain ⟨op,xs⟩ := nd
 unfold saN at hs
 rw [Bool.and_eq_true,Bool.and_eq_true] at hs
 obtain ⟨⟨hz0,hD⟩,hs⟩ := hs
 have hz : 0 < z := by simpa [Nat.blt_eq] using hz0
 have hD' : ∀ x ∈ D,x.1=1→x.2 < k := fun x hx h1 => by
  rw [List.all_eq_true] at hD
  have := hD x hx
  rw [h1] at this
  simpa [Nat.blt_eq] using this
 refine ⟨?_,hz,hD'⟩
 have hlow : ∀ {a : Nat} {p : Nat × List Atm},a < k→E[a]? = some p→QW p.1 (M a)∧(∀ x ∈ p.2,x.1=1→x.2 < k)∧q a*proA dn M p.2=M a := fun {a p} ha hp => by
  obtain ⟨p',h1,h2,_,h4,h5⟩ := hM a ha
  rw [hp] at h1
  cases h1
  exact ⟨h2,fun x hx h => Nat.lt_trans (h4 x hx h) ha,h5⟩
 have hpr : ∀ {l : List Atm},(∀ x ∈ l,x.1=1→x.2 < k)→QW (bitL E l) (proA dn M l)∧proA dn M l ≠ 0 := fun h => proA_ok hdn' hM h
 unfold wfN at hwf
 unfold valN
 dsimp only at hs hwf ⊢
 split at hs
 ·rename_i s n d
  simp only [Bool.and_eq_true] at hs
  obtain ⟨⟨h1,h2⟩,h3⟩ := hs
  have h1' : n < 2 ^ z := by simpa [Nat.blt_eq] using h1
  have h2' : d ≠ 0 := by
   have : 0 < d := by simpa [Nat.blt_eq] using h2
   omega
  have hp : proA dn M D=((d : Nat) : Rat) := by
   have := subA_pro (dn := dn) (M := M) (noneA_some h3)
   rw [this]
   cases e : Nat.beq d 1 with
   | true =>
    rw [Nat.beq_eq] at e
    rw [e]
    show (1 : Rat)*1=((1 : Nat) : Rat)
    rw [Rat.mul_one]
    exact_mod_cast rfl
   | false =>
    show (if d=0 then (1 : Rat) else ((d : Nat) : Rat))*1*1=_
    rw [if_neg h2',Rat.mul_one,Rat.mul_one]
  show QW z ((if s=0 then mkRat (n : Int) d else mkRat (-(n : Int)) d)*proA dn M D)
  rw [hp]
  have key : ∀ m : Int,m.natAbs < 2 ^ z→QW z (mkRat m d*((d : Nat) : Rat)) := fun m hm => by
   rw [Rat.mkRat_eq_div,Rat.div_mul_cancel (nat_ne h2')]
   exact QW.of hm hz
  by_cases hs0 : s=0
  ·rw [if_pos hs0]
   exact key _ (by simpa using h1')
  ·rw [if_neg hs0]
   exact key _ (by simpa using h1')
 ·rename_i j
  simp only [Bool.and_eq_true,Nat.ble_eq] at hs
  have hp : proA dn M D=(((Cx.rd (σ j).data.toList).den : Nat) : Rat) := by
   rw [subA_pro (dn := dn) (M := M) (noneA_some hs.2)]
   show ((dn j : Nat) : Rat)*1*1=_
   rw [Rat.mul_one,Rat.mul_one,hdn j]
  show QW z (Cx.rd (σ j).data.toList*proA dn M D)
  rw [hp,mul_low]
  refine QW.of (Nat.lt_of_lt_of_le (QS.rd3 _).num (Nat.pow_le_pow_right (by decide) ?_)) hz
  have := hσ j
  have := hs.1
  unfold inB at this
  rw [str_len]
  omega
 ·simp only [List.all_cons,List.all_nil,Bool.and_true,Bool.and_eq_true] at hwf
  rename_i a b
  have l1 : a < k := by simpa [Nat.blt_eq] using hwf.1
  have l2 : b < k := by simpa [Nat.blt_eq] using hwf.2
  split at hs
  ·rename_i p r hp hr
   split at hs
   ·rename_i c e hc he
    rw [Nat.ble_eq] at hs
    obtain ⟨a1,a2,a3⟩ := hlow l1 hp
    obtain ⟨b1,b2,b3⟩ := hlow l2 hr
    have hc' := hpr (l := c) fun x hx => hD' x (subA_mem hc hx)
    have he' := hpr (l := e) fun x hx => hD' x (subA_mem he hx)
    have e1 : (q a+q b)*proA dn M D=M a*proA dn M c+M b*proA dn M e := by
     rw [Rat.add_mul]
     congr 1
     ·rw [subA_pro hc,← Rat.mul_assoc,a3]
     ·rw [subA_pro he,← Rat.mul_assoc,b3]
    show QW z ((q a+q b)*proA dn M D)
    rw [e1]
    exact ((a1.mul hc'.1).add (b1.mul he'.1)).mono hs
   ·cases hs
  ·cases hs
 ·simp only [List.all_cons,List.all_nil,Bool.and_true,Bool.and_eq_true] at hwf
  rename_i a b
  have l1 : a < k := by simpa [Nat.blt_eq] using hwf.1
  have l2 : b < k := by simpa [Nat.blt_eq] using hwf.2
  split at hs
  ·rename_i p r hp hr
   split at hs
   ·rename_i c e hc he
    rw [Nat.ble_eq] at hs
    obtain ⟨a1,a2,a3⟩ := hlow l1 hp
    obtain ⟨b1,b2,b3⟩ := hlow l2 hr
    have hc' := hpr (l := c) fun x hx => hD' x (subA_mem hc hx)
    have he' := hpr (l := e) fun x hx => hD' x (subA_mem he hx)
    have e1 : (q a - q b)*proA dn M D=M a*proA dn M c - M b*proA dn M e := by
     rw [show (q a - q b)*proA dn M D=q a*proA dn M D - q b*proA dn M D by grind]
     congr 1
     ·rw [subA_pro hc,← Rat.mul_assoc,a3]
     ·rw [subA_pro he,← Rat.mul_assoc,b3]
    show QW z ((q a - q b)*proA dn M D)
    rw [e1]
    exact ((a1.mul hc'.1).sub (b1.mul he'.1)).mono hs
   ·cases hs
  ·cases hs
 ·simp only [List.all_cons,List.all_nil,Bool.and_true,Bool.and_eq_true] at hwf
  rename_i a b
  have l1 : a < k := by simpa [Nat.blt_eq] using hwf.1
  have l2 : b < k := by simpa [Nat.blt_eq] using hwf.2
  split at hs
  ·rename_i p r hp hr
   split at hs
   ·rename_i c hc
    rw [Bool.and_eq_true,Nat.ble_eq] at hs
    obtain ⟨a1,a2,a3⟩ := hlow l1 hp
    obtain ⟨b1,b2,b3⟩ := hlow l2 hr
    have e1 : q a*q b*proA dn M D=M a*M b := by
     rw [subA_pro hc,subA_pro (noneA_some hs.1),← a3,← b3]
     show q a*q b*(proA dn M p.2*(proA dn M r.2*1))=_
     grind
    show QW z (q a*q b*proA dn M D)
    rw [e1]
    exact (a1.mul b1).mono hs.2
   ·cases hs
  ·cases hs
 ·simp only [List.all_cons,List.all_nil,Bool.and_true] at hwf
  rename_i a
  have l1 : a < k := by simpa [Nat.blt_eq] using hwf
  split at hs
  ·rename_i p hp
   rw [Bool.and_eq_true,Nat.ble_eq] at hs
   obtain ⟨a1,a2,a3⟩ := hlow l1 hp
   have e1 : -q a*proA dn M D=-M a := by
    rw [subA_pro (noneA_some hs.1),← a3]
    show -q a*(proA dn M p.2*1)=_
    grind
   show QW z (-q a*proA dn M D)
   rw [e1]
   exact a1.neg.mono hs.2
  ·cases hs
 ·simp only [List.all_cons,List.all_nil,Bool.and_true,Bool.and_eq_true] at hwf
  rename_i a b
  have l1 : a < k := by simpa [Nat.blt_eq] using hwf.1
  have l2 : b < k := by simpa [Nat.blt_eq] using hwf.2
  split at hs
  ·rename_i p r D' hp hr hD1
   split at hs
   ·rename_i c hc
    split at hs
    ·rename_i e he
     rw [Nat.ble_eq] at hs
     obtain ⟨a1,a2,a3⟩ := hlow l1 hp
     obtain ⟨b1,b2,b3⟩ := hlow l2 hr
     have he' := hpr (l := e) fun x hx => b2 x (subA_mem he hx)
     by_cases h0 : M b=0
     ·have hb : q b=0 := by
       rw [h0] at b3
       exact (Rat.mul_eq_zero.1 b3).resolve_right (hpr b2).2
      show QW z (q a / q b*proA dn M D)
      rw [hb,Rat.div_def,Rat.inv_zero,Rat.mul_zero,Rat.zero_mul]
      exact QW.zero hz
     ·have hb : q b ≠ 0 := fun h => h0 (by rw [← b3,h,Rat.zero_mul])
      have e1 : q a / q b*proA dn M D=M a*proA dn M e := by
       have e2 : proA dn M D=M b*proA dn M D' := by
        rw [remA_pro hD1]
        show (if M b=0 then (1 : Rat) else M b)*_=_
        rw [if_neg h0]
       have e3 : q a / q b*q b=q a := Rat.div_mul_cancel hb
       rw [e2,← a3,← b3,subA_pro hc,subA_pro he]
       generalize q a / q b=t at e3
       rw [← e3]
       grind
      show QW z (q a / q b*proA dn M D)
      rw [e1]
      exact (a1.mul he'.1).mono hs
    ·cases hs
   ·cases hs
  ·cases hs
 ·have hD0 : D=[] := by
   rw [Nat.beq_eq] at hs
   exact List.length_eq_zero_iff.1 hs
  rw [hD0]
  have hv : valN σ q (7,xs)=0 ∨ valN σ q (7,xs)=1 := by
   unfold valN
   dsimp only
   split
   all_goals first | (split; exact Or.inl rfl; exact Or.inr rfl) | exact Or.inl rfl | (rename_i h; cases h)
  show QW z (valN σ q (7,xs)*1)
  rw [Rat.mul_one]
  rcases hv with h | h
  ·rw [h]
   exact QW.zero hz
  ·rw [h]
   exact QW.one hz
 ·rename_i i ys
  rw [Bool.and_eq_true,Bool.and_eq_true,List.all_eq_true] at hs
  obtain ⟨h1,h2,h3⟩ := hs
  have hD0 : D=[] := by
   rw [Nat.beq_eq] at h1
   exact List.length_eq_zero_iff.1 h1
  have hwf' : ys.all (Nat.blt · k)=true := hwf
  rw [List.all_eq_true] at hwf'
  have hlt : ∀ c ∈ ys,c < k := fun c hc => by simpa [Nat.blt_eq] using hwf' c hc
  split at h3
  ·rename_i a ha
   split at h3
   ·rename_i p hp
    split at h3
    ·rename_i e he
     rw [Nat.ble_eq] at h3
     obtain ⟨hi,ha'⟩ := List.getElem?_eq_some_iff.1 ha
     have hmem : a ∈ ys := List.mem_of_getElem? ha
     have hg : (ys.map q).getD i 0=q a := by
      rw [List.getD_eq_getElem?_getD,List.getElem?_map,ha]
      rfl
     show QW z ((ys.map q).getD i 0*fac (ys.map q)*proA dn M D)
     rw [hg,hD0]
     show QW z (q a*fac (ys.map q)*1)
     rw [Rat.mul_one]
     -- what makes all of them whole
     have hU : ∀ x ∈ uniA E ys [],x.1=1→x.2 < k := uniA_low hM hlt (fun x hx => by cases hx)
     have hUp := hpr hU
     have hw := whole hUp.1.wh
     generalize hm : (proA dn M (uniA E ys [])).num=m at hw
     have hm0 : m ≠ 0 := fun h => hUp.2 (by rw [hw,h]; rfl)
     have hall : ∀ y ∈ ys.map q,(y*((m : Int) : Rat)).den=1 := fun y hy => by
      obtain ⟨c,hc,rfl⟩ := List.mem_map.1 hy
      have h4 := h2 c hc
      split at h4
      ·rename_i r hr
       obtain ⟨c1,c2,c3⟩ := hlow (hlt c hc) hr
       cases hs2 : subA (uniA E ys []) r.2 with
       | none => rw [hs2] at h4; cases h4
       | some f =>
        have hf := hpr (l := f) fun x hx => hU x (subA_mem hs2 hx)
        rw [← hw,subA_pro hs2,← Rat.mul_assoc,c3]
        exact (c1.mul hf.1).wh
      ·cases h4
     obtain ⟨a1,a2,a3⟩ := hlow (hlt a hmem) hp
     have he' := hpr (l := e) fun x hx => hU x (subA_mem he hx)
     refine fac_whole (List.mem_map_of_mem hmem) hm0 hall ?_
     rw [← hw,subA_pro he,← Rat.mul_assoc,a3]
     exact (a1.mul he'.1).mono h3
    ·cases h3
   ·cases h3
  ·cases h3
 ·cases hs
end
theorem QS_over {x m p : Rat} {z y K : Nat} (hm : QW z m) (hp : QW y p) (h0 : p ≠ 0) (e : x*p=m) (hz : z≤K) (hy : y≤K) : QS K x := by
 have hw := whole hp.wh
 generalize p.num=P at hw
 have hP : P ≠ 0 := fun h => h0 (by rw [hw,h]; rfl)
 have hpos : 0 < P.natAbs := Int.natAbs_pos.2 hP
 have hd : x.den ∣ P.natAbs := den_dvd (x := x) (m := P) (by rw [← hw,e]; exact hm.wh)
 have hdle : x.den≤P.natAbs := Nat.le_of_dvd hpos hd
 have hPlt : P.natAbs < 2 ^ y := by
  have := hp.qs.num
  rw [hw,Rat.num_intCast] at this
  exact this
 have hmw := whole hm.wh
 have hmlt := hm.qs.num
 generalize m.num=n at hmw hmlt
 have h1 : x*((x.den : Nat) : Rat)=((x.num : Int) : Rat) := mul_low x
 have h2 : ((x.num : Int) : Rat)*((P : Int) : Rat)=((n : Int) : Rat)*(((x.den : Nat) : Int) : Rat) := by
  rw [← h1,← hw,← hmw,← e,Rat.intCast_natCast]
  grind
 have h3 : x.num*P=n*(x.den : Int) := by exact_mod_cast h2
 have h4 : x.num.natAbs*P.natAbs=n.natAbs*x.den := by
  have := congrArg Int.natAbs h3
  rwa [Int.natAbs_mul,Int.natAbs_mul,Int.natAbs_natCast] at this
 have h5 : x.num.natAbs≤n.natAbs := by
  refine Nat.le_of_mul_le_mul_right (c := P.natAbs) ?_ hpos
  rw [h4]
  exact Nat.mul_le_mul_left _ hdle
 exact ⟨Nat.lt_of_lt_of_le (Nat.lt_of_le_of_lt h5 hmlt) (Nat.pow_le_pow_right (by decide) hz),Nat.lt_of_lt_of_le (Nat.lt_of_le_of_lt hdle hPlt) (Nat.pow_le_pow_right (by decide) hy)⟩
section
variable {N : List Nd} {Z : List Nat} {E : List (Nat × List Atm)} {q : Nat→Rat}
theorem sizes_okA {σ : Nat→ByteArray} (hσ : ∀ j,(σ j).size≤1048576) (hw : wfB 0 N=true) (hz : saB E 0 N E Z=true) (hq : ∀ (a : Nat) nd,N[a]? = some nd→q a=valN σ q nd) (h0 : ∀ a,N.length≤a→q a=0) : (∀ (a : Nat) z,Z[a]? = some z→QS z (q a))∧∀ a,QS 1000000000000 (q a) := by
 have hl := saB_len hz
 have key : ∀ k,k≤N.length→∃ M,BelA E (fun j => (Cx.rd (σ j).data.toList).den) M q k := by
  intro k
  induction k with
  | zero => exact fun _ => ⟨fun _ => 0,fun a ha => by omega⟩
  | succ k ih =>
   intro hk
   obtain ⟨M,hM⟩ := ih (by omega)
   have hn : N[k]? = some N[k] := List.getElem?_eq_getElem (by omega)
   obtain ⟨p,z,h1,_,h3,_⟩ := saB_get hz hn
   rw [Nat.zero_add] at h3
   have hwf := wfB_get hw hn
   rw [Nat.zero_add] at hwf
   obtain ⟨g1,g2,g3⟩ := node_ok hσ (fun _ => rfl) hM hwf h3
   rw [← hq k _ hn] at g1
   refine ⟨fun x => if x=k then q k*proA (fun j => (Cx.rd (σ j).data.toList).den) M p.2 else M x,fun a ha => ?_⟩
   have same : ∀ {l : List Atm},(∀ x ∈ l,x.1=1→x.2 < k)→proA (fun j => (Cx.rd (σ j).data.toList).den) (fun x => if x=k then q k*proA (fun j => (Cx.rd (σ j).data.toList).den) M p.2 else M x) l=proA (fun j => (Cx.rd (σ j).data.toList).den) M l := fun hl => (proA_congr fun x hx h => by
    have := hl x hx h
    rw [if_neg (by omega)]).symm
   by_cases e : a=k
   ·subst e
    refine ⟨p,h1,?_,g2,g3,?_⟩
    ·show QW p.1 (if a=a then _ else _)
     rw [if_pos rfl]
     exact g1
    ·rw [same g3]
     show _=(if a=a then _ else _)
     rw [if_pos rfl]
   ·obtain ⟨p',f1,f2,f3,f4,f5⟩ := hM a (by omega)
    refine ⟨p',f1,?_,f3,f4,?_⟩
    ·show QW p'.1 (if a=k then _ else M a)
     rw [if_neg e]
     exact f2
    ·rw [same fun x hx h => by have := f4 x hx h; omega]
     show _=(if a=k then _ else M a)
     rw [if_neg e]
     exact f5
 obtain ⟨M,hM⟩ := key N.length (Nat.le_refl _)
 have hdn : ∀ j,0 < (Cx.rd (σ j).data.toList).den∧(Cx.rd (σ j).data.toList).den < 2 ^ inB := fun j => by
  refine ⟨Rat.den_pos _,Nat.lt_of_lt_of_le (QS.rd3 _).den (Nat.pow_le_pow_right (by decide) ?_)⟩
  have := hσ j
  rw [str_len]
  unfold inB
  omega
 have h2 : ∀ (a : Nat) z,Z[a]? = some z→QS z (q a)∧z≤1000000000000 := by
  intro a z ha
  have hlt : a < N.length := by
   have := (List.getElem?_eq_some_iff.1 ha).1
   omega
  have hn : N[a]? = some N[a] := List.getElem?_eq_getElem hlt
  obtain ⟨p,z',h1,h2,_,h4,h5,h6⟩ := saB_get hz hn
  rw [ha] at h2
  cases h2
  obtain ⟨p',f1,f2,f3,f4,f5⟩ := hM a hlt
  rw [h1] at f1
  cases f1
  have hp := proA_ok hdn hM (l := p.2) fun x hx h => Nat.lt_trans (f4 x hx h) hlt
  exact ⟨QS_over f2 hp.1 hp.2 f5 h4 h5,h6⟩
 refine ⟨fun a z h => (h2 a z h).1,fun a => ?_⟩
 by_cases ha : a < Z.length
 ·have := h2 a _ (List.getElem?_eq_getElem ha)
  exact this.1.mono this.2
 ·rw [h0 a (by omega)]
  exact QS.zero.mono (by decide)
theorem hy_ofA {L C : List (List Nat × Nat)} {σ : Nat→ByteArray} {H : List (Nat × Nat × Nat × Nat)} (hσ : ∀ j,(σ j).size≤1048576) (hw : wfB 0 N=true) (hz : saB E 0 N E Z=true) (hl : litB N L=true) (hcn : canB N C=true) (hq : ∀ (a : Nat) nd,N[a]? = some nd→q a=valN σ q nd) (h0 : ∀ a,N.length≤a→q a=0) (hH : hAll q H) : Hy N H L C Z q σ where
 nat := hq
 qs := (sizes_okA hσ hw hz hq h0).2
 zs := (sizes_okA hσ hw hz hq h0).1
 par := hσ
 lit := fun s b h => lit_rd hl hq h
 k0 := fun a r h => kn_at hH h
 k1 := fun a r h => kn_at hH h
 k2 := fun a r h => kn_at hH h
 k3 := fun a b r h => kn_at hH h
 k4 := fun l a b r h1 h2 => by
  have h3 : Nat.beq 1 r=true ↔ q a=q b := kn_at hH h2
  rw [h3,← can_tx hcn hq h1]
  exact ⟨fun e => by rw [e],fun e => tellS_inj (bytesN_inj e)⟩
 k6 := fun a b r h => kn_at hH h
 k5 := fun a r h => kn_at hH h
end
end Go.Proofs.YtobmjfjkpodhmaaGreatDoor
/- CFmoved -/
namespace Go.Proofs.YtobmjfjkpodhmaaGreatDoor
open Go.RowKit Cx
theorem closed_moved : Closed 25 :=
 closed_told (N := [(0,[0,1,1]),(0,[0,0,1]),(4,[0,1]),(4,[1,1]),(2,[2,3]),(2,[4,1]),(5,[5]),(4,[0,6]),(4,[1,6]),(4,[0,0]),(2,[9,3]),(6,[7,10]),(6,[8,10]),(0,[0,2,1]),(4,[11,13]),(4,[12,13]),(2,[1,14]),(2,[1,15]),(2,[10,1]),(5,[18]),(4,[0,19]),(4,[1,19]),(6,[20,10]),(6,[21,10]),(4,[22,13]),(4,[23,13]),(2,[0,24]),(2,[1,25]),(3,[26,16]),(3,[27,17]),(4,[1,0]),(2,[2,30]),(2,[31,1]),(5,[32]),(4,[0,33]),(4,[1,33]),(6,[34,10]),(6,[35,10]),(4,[36,13]),(4,[37,13]),(2,[1,38]),(2,[0,39]),(3,[40,16]),(3,[41,17]),(0,[1,1,1]),(2,[4,44]),(5,[45]),(4,[0,46]),(4,[1,46]),(6,[47,10]),(6,[48,10]),(4,[49,13]),(4,[50,13]),(2,[1,51]),(2,[1,52]),(2,[10,44]),(5,[55]),(4,[0,56]),(4,[1,56]),(6,[57,10]),(6,[58,10]),(4,[59,13]),(4,[60,13]),(2,[0,61]),(2,[1,62]),(3,[63,53]),(3,[64,54]),(2,[31,44]),(5,[67]),(4,[0,68]),(4,[1,68]),(6,[69,10]),(6,[70,10]),(4,[71,13]),(4,[72,13]),(2,[1,73]),(2,[0,74]),(3,[75,53]),(3,[76,54]),(4,[65,28]),(4,[66,28]),(4,[77,29]),(4,[78,29]),(2,[79,81]),(2,[80,82]),(4,[65,42]),(4,[66,42]),(4,[77,43]),(4,[78,43]),(2,[85,87]),(2,[86,88]),(4,[65,16]),(4,[66,16]),(4,[77,17]),(4,[78,17]),(2,[91,93]),(2,[92,94]),(2,[95,53]),(2,[96,54]),(4,[83,83]),(4,[84,84]),(2,[99,100]),(3,[101,0]),(4,[89,89]),(4,[90,90]),(2,[103,104]),(3,[105,0]),(4,[83,89]),(4,[84,90]),(2,[107,108]),(4,[83,90]),(4,[84,89]),(3,[110,111]),(3,[83,0]),(3,[84,1]),(0,[0,3,1]),(0,[0,4,1]),(4,[28,115]),(4,[29,115]),(4,[42,116]),(4,[43,116]),(2,[117,119]),(2,[118,120]),(2,[121,16]),(2,[122,17]),(0,[1,3,1])]) (H := [(0,0,0,0),(0,102,0,1),(0,106,0,1),(0,109,0,1),(1,112,0,0),(0,113,0,1),(0,114,0,1),(0,97,0,0),(4,83,0,1),(4,89,1,1),(4,97,13,1),(4,84,1,1),(4,90,0,1),(4,98,1,1),(4,123,125,1),(4,124,116,1)]) (K := [(174,[.inr (3,9,0,0,0)]),(174,[.inr (3,121,0,0,0)]),(107,[.inr (3,227,0,0,0)]),(107,[.inr (3,238,0,0,0)]),(107,[.inr (3,311,0,0,0)]),(108,[]),(107,[.inr (3,354,0,0,0)])]) (L := [([49],0),([48],1),([45,49],44),([50],13),([51],115),([52],116),([45,51],125)]) (C := [([49],0),([48],1),([50],13),([45,51],125),([52],116)]) (Z := [2,2,4,4,9,12,12,14,14,4,9,23,23,3,26,26,29,29,12,12,14,14,23,23,26,26,29,29,59,59,4,9,12,12,14,14,23,23,26,26,29,29,59,59,2,12,12,14,14,23,23,26,26,29,29,12,12,14,14,23,23,26,26,29,29,59,59,12,12,14,14,23,23,26,26,29,29,59,59,118,118,118,118,237,237,118,118,118,118,237,237,88,88,88,88,177,177,207,207,474,474,949,952,474,474,949,952,474,474,949,474,474,949,240,240,3,4,62,62,63,63,126,126,156,156,3]) (cl := []) 8 (fun _ h => by cases h) (by kernel_rfl) (by kernel_rfl) (by kernel_rfl) (by kernel_rfl) (by kernel_rfl) (by kernel_rfl) (by kernel_rfl)
end Go.Proofs.YtobmjfjkpodhmaaGreatDoor
/- MVR -/
namespace Go.Proofs.YtobmjfjkpodhmaaGreatDoor
open Go.RowKit Cx
def mM_N : List Nd := [(1,[0]),(1,[3]),(1,[1]),(1,[4]),(1,[2]),(1,[5]),(4,[0,0]),(4,[1,1]),(2,[6,7]),(0,[0,1,1]),(3,[8,9]),(4,[2,2]),(4,[3,3]),(2,[11,12]),(3,[13,9]),(4,[0,2]),(4,[1,3]),(2,[15,16]),(0,[0,0,1]),(4,[0,18]),(4,[1,18]),(4,[2,18]),(4,[3,18]),(2,[19,21]),(2,[20,22]),(2,[23,4]),(2,[24,5]),(3,[25,18]),(3,[26,18]),(0,[0,2,1]),(6,[27,29]),(6,[28,29]),(2,[18,30]),(2,[18,31]),(4,[27,32]),(4,[28,33]),(2,[34,35]),(5,[36]),(4,[27,18]),(4,[28,18]),(2,[38,39]),(2,[40,37]),(5,[41]),(4,[27,42]),(4,[28,42]),(4,[27,27]),(4,[28,28]),(2,[45,46]),(6,[43,47]),(6,[44,47]),(4,[48,29]),(4,[49,29]),(2,[18,50]),(2,[18,51]),(4,[27,9]),(2,[54,39]),(2,[55,37]),(5,[56]),(4,[27,57]),(4,[28,57]),(6,[58,47]),(6,[59,47]),(4,[60,29]),(4,[61,29]),(2,[9,62]),(2,[18,63]),(3,[64,52]),(3,[65,53]),(4,[28,9]),(2,[38,68]),(2,[69,37]),(5,[70]),(4,[27,71]),(4,[28,71]),(6,[72,47]),(6,[73,47]),(4,[74,29]),(4,[75,29]),(2,[18,76]),(2,[9,77]),(3,[78,52]),(3,[79,53]),(4,[66,0]),(4,[67,0]),(4,[80,1]),(4,[81,1]),(2,[82,84]),(2,[83,85]),(4,[66,2]),(4,[67,2]),(4,[80,3]),(4,[81,3]),(2,[88,90]),(2,[89,91]),(4,[66,4]),(4,[67,4]),(4,[80,5]),(4,[81,5]),(2,[94,96]),(2,[95,97]),(2,[98,52]),(2,[99,53]),(4,[86,9]),(4,[87,9]),(4,[92,18]),(4,[93,18]),(2,[102,104]),(2,[103,105]),(2,[106,100]),(2,[107,101]),(3,[108,9]),(3,[109,18]),(6,[110,29]),(6,[111,29]),(2,[9,112]),(2,[18,113]),(4,[110,114]),(4,[111,115]),(2,[116,117]),(5,[118]),(4,[110,18]),(4,[111,18]),(2,[120,121]),(2,[122,119]),(5,[123]),(4,[110,124]),(4,[111,124]),(4,[110,110]),(4,[111,111]),(2,[127,128]),(6,[125,129]),(6,[126,129]),(4,[130,29]),(4,[131,29]),(2,[18,132]),(2,[18,133]),(4,[110,9]),(2,[136,121]),(2,[137,119]),(5,[138]),(4,[110,139]),(4,[111,139]),(6,[140,129]),(6,[141,129]),(4,[142,29]),(4,[143,29]),(2,[9,144]),(2,[18,145]),(3,[146,134]),(3,[147,135]),(4,[111,9]),(2,[120,150]),(2,[151,119]),(5,[152]),(4,[110,153]),(4,[111,153]),(6,[154,129]),(6,[155,129]),(4,[156,29]),(4,[157,29]),(2,[18,158]),(2,[9,159]),(3,[160,134]),(3,[161,135]),(4,[148,86]),(4,[149,86]),(4,[162,87]),(4,[163,87]),(2,[164,166]),(2,[165,167]),(4,[148,92]),(4,[149,92]),(4,[162,93]),(4,[163,93]),(2,[170,172]),(2,[171,173]),(4,[148,100]),(4,[149,100]),(4,[162,101]),(4,[163,101]),(2,[176,178]),(2,[177,179]),(2,[180,134]),(2,[181,135]),(4,[168,18]),(4,[169,18]),(4,[174,9]),(4,[175,9]),(2,[184,186]),(2,[185,187]),(2,[188,182]),(2,[189,183]),(3,[190,18]),(3,[191,9]),(6,[192,29]),(6,[193,29]),(2,[18,194]),(2,[9,195]),(4,[192,196]),(4,[193,197]),(2,[198,199]),(5,[200]),(4,[192,18]),(4,[193,18]),(2,[202,203]),(2,[204,201]),(5,[205]),(4,[192,206]),(4,[193,206]),(4,[192,192]),(4,[193,193]),(2,[209,210]),(6,[207,211]),(6,[208,211]),(4,[212,29]),(4,[213,29]),(2,[18,214]),(2,[18,215]),(4,[192,9]),(2,[218,203]),(2,[219,201]),(5,[220]),(4,[192,221]),(4,[193,221]),(6,[222,211]),(6,[223,211]),(4,[224,29]),(4,[225,29]),(2,[9,226]),(2,[18,227]),(3,[228,216]),(3,[229,217]),(4,[193,9]),(2,[202,232]),(2,[233,201]),(5,[234]),(4,[192,235]),(4,[193,235]),(6,[236,211]),(6,[237,211]),(4,[238,29]),(4,[239,29]),(2,[18,240]),(2,[9,241]),(3,[242,216]),(3,[243,217]),(4,[230,168]),(4,[231,168]),(4,[244,169]),(4,[245,169]),(2,[246,248]),(2,[247,249]),(4,[230,174]),(4,[231,174]),(4,[244,175]),(4,[245,175]),(2,[252,254]),(2,[253,255]),(4,[230,182]),(4,[231,182]),(4,[244,183]),(4,[245,183]),(2,[258,260]),(2,[259,261]),(2,[262,216]),(2,[263,217]),(8,[0,192,193,201]),(8,[1,192,193,201]),(8,[2,192,193,201]),(8,[0,110,111,119]),(8,[1,110,111,119]),(8,[2,110,111,119]),(8,[0,27,28,37]),(8,[1,27,28,37]),(8,[2,27,28,37]),(4,[266,18]),(4,[267,18]),(2,[275,276]),(2,[277,268]),(4,[29,278]),(4,[266,266]),(4,[267,267]),(2,[280,281]),(6,[279,282]),(4,[266,283]),(4,[267,283]),(3,[18,284]),(3,[18,285]),(4,[269,286]),(4,[270,287]),(2,[288,289]),(2,[290,271]),(4,[29,291]),(4,[269,269]),(4,[270,270]),(2,[293,294]),(6,[292,295]),(4,[269,296]),(4,[270,296]),(3,[286,297]),(3,[287,298]),(4,[272,299]),(4,[273,300]),(2,[301,302]),(2,[303,274]),(4,[29,304]),(4,[272,272]),(4,[273,273]),(2,[306,307]),(6,[305,308]),(4,[272,309]),(4,[273,309]),(3,[299,310]),(3,[300,311]),(3,[312,25]),(3,[313,26]),(4,[266,9]),(2,[316,276]),(2,[317,268]),(4,[29,318]),(6,[319,282]),(4,[266,320]),(4,[267,320]),(3,[9,321]),(3,[18,322]),(4,[269,323]),(4,[270,324]),(2,[325,326]),(2,[327,271]),(4,[29,328]),(6,[329,295]),(4,[269,330]),(4,[270,330]),(3,[323,331]),(3,[324,332]),(4,[272,333]),(4,[273,334]),(2,[335,336]),(2,[337,274]),(4,[29,338]),(6,[339,308]),(4,[272,340]),(4,[273,340]),(3,[333,341]),(3,[334,342]),(4,[0,9]),(2,[345,21]),(2,[346,4]),(4,[1,9]),(2,[348,22]),(2,[349,5]),(3,[343,347]),(3,[344,350]),(4,[267,9]),(2,[275,353]),(2,[354,268]),(4,[29,355]),(6,[356,282]),(4,[266,357]),(4,[267,357]),(3,[18,358]),(3,[9,359]),(4,[269,360]),(4,[270,361]),(2,[362,363]),(2,[364,271]),(4,[29,365]),(6,[366,295]),(4,[269,367]),(4,[270,367]),(3,[360,368]),(3,[361,369]),(4,[272,370]),(4,[273,371]),(2,[372,373]),(2,[374,274]),(4,[29,375]),(6,[376,308]),(4,[272,377]),(4,[273,377]),(3,[370,378]),(3,[371,379]),(4,[2,9]),(2,[19,382]),(2,[383,4]),(4,[3,9]),(2,[20,385]),(2,[386,5]),(3,[380,384]),(3,[381,387]),(4,[269,18]),(4,[270,18]),(2,[390,391]),(2,[392,271]),(4,[29,393]),(6,[394,295]),(4,[269,395]),(4,[270,395]),(3,[18,396]),(3,[18,397]),(4,[272,398]),(4,[273,399]),(2,[400,401]),(2,[402,274]),(4,[29,403]),(6,[404,308]),(4,[272,405]),(4,[273,405]),(3,[398,406]),(3,[399,407]),(3,[408,25]),(3,[409,26]),(4,[269,9]),(2,[412,391]),(2,[413,271]),(4,[29,414]),(6,[415,295]),(4,[269,416]),(4,[270,416]),(3,[9,417]),(3,[18,418]),(4,[272,419]),(4,[273,420]),(2,[421,422]),(2,[423,274]),(4,[29,424]),(6,[425,308]),(4,[272,426]),(4,[273,426]),(3,[419,427]),(3,[420,428]),(3,[429,347]),(3,[430,350]),(4,[270,9]),(2,[390,433]),(2,[434,271]),(4,[29,435]),(6,[436,295]),(4,[269,437]),(4,[270,437]),(3,[18,438]),(3,[9,439]),(4,[272,440]),(4,[273,441]),(2,[442,443]),(2,[444,274]),(4,[29,445]),(6,[446,308]),(4,[272,447]),(4,[273,447]),(3,[440,448]),(3,[441,449]),(3,[450,384]),(3,[451,387]),(4,[86,18]),(4,[87,18]),(4,[92,9]),(4,[93,9]),(2,[454,456]),(2,[455,457]),(2,[458,100]),(2,[459,101]),(3,[460,18]),(3,[461,9]),(6,[462,29]),(6,[463,29]),(2,[18,464]),(2,[9,465]),(4,[462,466]),(4,[463,467]),(2,[468,469]),(5,[470]),(4,[462,18]),(4,[463,18]),(2,[472,473]),(2,[474,471]),(5,[475]),(4,[462,476]),(4,[463,476]),(4,[462,462]),(4,[463,463]),(2,[479,480]),(6,[477,481]),(6,[478,481]),(4,[482,29]),(4,[483,29]),(2,[18,484]),(2,[18,485]),(4,[462,9]),(2,[488,473]),(2,[489,471]),(5,[490]),(4,[462,491]),(4,[463,491]),(6,[492,481]),(6,[493,481]),(4,[494,29]),(4,[495,29]),(2,[9,496]),(2,[18,497]),(3,[498,486]),(3,[499,487]),(4,[463,9]),(2,[472,502]),(2,[503,471]),(5,[504]),(4,[462,505]),(4,[463,505]),(6,[506,481]),(6,[507,481]),(4,[508,29]),(4,[509,29]),(2,[18,510]),(2,[9,511]),(3,[512,486]),(3,[513,487]),(4,[500,86]),(4,[501,86]),(4,[514,87]),(4,[515,87]),(2,[516,518]),(2,[517,519]),(4,[500,92]),(4,[501,92]),(4,[514,93]),(4,[515,93]),(2,[522,524]),(2,[523,525]),(4,[500,100]),(4,[501,100]),(4,[514,101]),(4,[515,101]),(2,[528,530]),(2,[529,531]),(2,[532,486]),(2,[533,487]),(8,[0,462,463,471]),(8,[1,462,463,471]),(8,[2,462,463,471]),(4,[536,18]),(4,[537,18]),(2,[539,540]),(2,[541,538]),(4,[29,542]),(4,[536,536]),(4,[537,537]),(2,[544,545]),(6,[543,546]),(4,[536,547]),(4,[537,547]),(3,[18,548]),(3,[18,549]),(4,[272,550]),(4,[273,551]),(2,[552,553]),(2,[554,274]),(4,[29,555]),(6,[556,308]),(4,[272,557]),(4,[273,557]),(3,[550,558]),(3,[551,559]),(3,[560,25]),(3,[561,26]),(4,[536,9]),(2,[564,540]),(2,[565,538]),(4,[29,566]),(6,[567,546]),(4,[536,568]),(4,[537,568]),(3,[9,569]),(3,[18,570]),(4,[272,571]),(4,[273,572]),(2,[573,574]),(2,[575,274]),(4,[29,576]),(6,[577,308]),(4,[272,578]),(4,[273,578]),(3,[571,579]),(3,[572,580]),(3,[581,347]),(3,[582,350]),(4,[537,9]),(2,[539,585]),(2,[586,538]),(4,[29,587]),(6,[588,546]),(4,[536,589]),(4,[537,589]),(3,[18,590]),(3,[9,591]),(4,[272,592]),(4,[273,593]),(2,[594,595]),(2,[596,274]),(4,[29,597]),(6,[598,308]),(4,[272,599]),(4,[273,599]),(3,[592,600]),(3,[593,601]),(3,[602,384]),(3,[603,387]),(4,[272,18]),(4,[273,18]),(2,[606,607]),(2,[608,274]),(4,[29,609]),(6,[610,308]),(4,[272,611]),(4,[273,611]),(3,[18,612]),(3,[18,613]),(3,[614,25]),(3,[615,26]),(4,[272,9]),(2,[618,607]),(2,[619,274]),(4,[29,620]),(6,[621,308]),(4,[272,622]),(4,[273,622]),(3,[9,623]),(3,[18,624]),(3,[625,347]),(3,[626,350]),(4,[273,9]),(2,[606,629]),(2,[630,274]),(4,[29,631]),(6,[632,308]),(4,[272,633]),(4,[273,633]),(3,[18,634]),(3,[9,635]),(3,[636,384]),(3,[637,387]),(3,[347,9]),(3,[350,18]),(6,[640,29]),(6,[641,29]),(2,[9,642]),(2,[18,643]),(4,[640,644]),(4,[641,645]),(2,[646,647]),(5,[648]),(4,[640,18]),(4,[641,18]),(2,[650,651]),(2,[652,649]),(5,[653]),(4,[640,654]),(4,[641,654]),(4,[640,640]),(4,[641,641]),(2,[657,658]),(6,[655,659]),(6,[656,659]),(4,[660,29]),(4,[661,29]),(2,[18,662]),(2,[18,663]),(4,[640,9]),(2,[666,651]),(2,[667,649]),(5,[668]),(4,[640,669]),(4,[641,669]),(6,[670,659]),(6,[671,659]),(4,[672,29]),(4,[673,29]),(2,[9,674]),(2,[18,675]),(3,[676,664]),(3,[677,665]),(4,[641,9]),(2,[650,680]),(2,[681,649]),(5,[682]),(4,[640,683]),(4,[641,683]),(6,[684,659]),(6,[685,659]),(4,[686,29]),(4,[687,29]),(2,[18,688]),(2,[9,689]),(3,[690,664]),(3,[691,665]),(4,[678,0]),(4,[679,0]),(4,[692,1]),(4,[693,1]),(2,[694,696]),(2,[695,697]),(4,[678,2]),(4,[679,2]),(4,[692,3]),(4,[693,3]),(2,[700,702]),(2,[701,703]),(4,[678,4]),(4,[679,4]),(4,[692,5]),(4,[693,5]),(2,[706,708]),(2,[707,709]),(2,[710,664]),(2,[711,665]),(4,[698,18]),(4,[699,18]),(4,[704,9]),(4,[705,9]),(2,[714,716]),(2,[715,717]),(2,[718,712]),(2,[719,713]),(3,[720,18]),(3,[721,9]),(6,[722,29]),(6,[723,29]),(2,[18,724]),(2,[9,725]),(4,[722,726]),(4,[723,727]),(2,[728,729]),(5,[730]),(4,[722,18]),(4,[723,18]),(2,[732,733]),(2,[734,731]),(5,[735]),(4,[722,736]),(4,[723,736]),(4,[722,722]),(4,[723,723]),(2,[739,740]),(6,[737,741]),(6,[738,741]),(4,[742,29]),(4,[743,29]),(2,[18,744]),(2,[18,745]),(4,[722,9]),(2,[748,733]),(2,[749,731]),(5,[750]),(4,[722,751]),(4,[723,751]),(6,[752,741]),(6,[753,741]),(4,[754,29]),(4,[755,29]),(2,[9,756]),(2,[18,757]),(3,[758,746]),(3,[759,747]),(4,[723,9]),(2,[732,762]),(2,[763,731]),(5,[764]),(4,[722,765]),(4,[723,765]),(6,[766,741]),(6,[767,741]),(4,[768,29]),(4,[769,29]),(2,[18,770]),(2,[9,771]),(3,[772,746]),(3,[773,747]),(4,[760,698]),(4,[761,698]),(4,[774,699]),(4,[775,699]),(2,[776,778]),(2,[777,779]),(4,[760,704]),(4,[761,704]),(4,[774,705]),(4,[775,705]),(2,[782,784]),(2,[783,785]),(4,[760,712]),(4,[761,712]),(4,[774,713]),(4,[775,713]),(2,[788,790]),(2,[789,791]),(2,[792,746]),(2,[793,747]),(8,[0,722,723,731]),(8,[1,722,723,731]),(8,[2,722,723,731]),(8,[0,640,641,649]),(8,[1,640,641,649]),(8,[2,640,641,649]),(4,[796,18]),(4,[797,18]),(2,[802,803]),(2,[804,798]),(4,[29,805]),(4,[796,796]),(4,[797,797]),(2,[807,808]),(6,[806,809]),(4,[796,810]),(4,[797,810]),(3,[18,811]),(3,[18,812]),(4,[799,813]),(4,[800,814]),(2,[815,816]),(2,[817,801]),(4,[29,818]),(4,[799,799]),(4,[800,800]),(2,[820,821]),(6,[819,822]),(4,[799,823]),(4,[800,823]),(3,[813,824]),(3,[814,825]),(3,[826,25]),(3,[827,26]),(4,[796,9]),(2,[830,803]),(2,[831,798]),(4,[29,832]),(6,[833,809]),(4,[796,834]),(4,[797,834]),(3,[9,835]),(3,[18,836]),(4,[799,837]),(4,[800,838]),(2,[839,840]),(2,[841,801]),(4,[29,842]),(6,[843,822]),(4,[799,844]),(4,[800,844]),(3,[837,845]),(3,[838,846]),(3,[847,347]),(3,[848,350]),(4,[797,9]),(2,[802,851]),(2,[852,798]),(4,[29,853]),(6,[854,809]),(4,[796,855]),(4,[797,855]),(3,[18,856]),(3,[9,857]),(4,[799,858]),(4,[800,859]),(2,[860,861]),(2,[862,801]),(4,[29,863]),(6,[864,822]),(4,[799,865]),(4,[800,865]),(3,[858,866]),(3,[859,867]),(3,[868,384]),(3,[869,387]),(4,[799,18]),(4,[800,18]),(2,[872,873]),(2,[874,801]),(4,[29,875]),(6,[876,822]),(4,[799,877]),(4,[800,877]),(3,[18,878]),(3,[18,879]),(3,[880,25]),(3,[881,26]),(4,[799,9]),(2,[884,873]),(2,[885,801]),(4,[29,886]),(6,[887,822]),(4,[799,888]),(4,[800,888]),(3,[9,889]),(3,[18,890]),(3,[891,347]),(3,[892,350]),(4,[800,9]),(2,[872,895]),(2,[896,801]),(4,[29,897]),(6,[898,822]),(4,[799,899]),(4,[800,899]),(3,[18,900]),(3,[9,901]),(3,[902,384]),(3,[903,387]),(3,[384,18]),(3,[387,9]),(6,[906,29]),(6,[907,29]),(2,[18,908]),(2,[9,909]),(4,[906,910]),(4,[907,911]),(2,[912,913]),(5,[914]),(4,[906,18]),(4,[907,18]),(2,[916,917]),(2,[918,915]),(5,[919]),(4,[906,920]),(4,[907,920]),(4,[906,906]),(4,[907,907]),(2,[923,924]),(6,[921,925]),(6,[922,925]),(4,[926,29]),(4,[927,29]),(2,[18,928]),(2,[18,929]),(4,[906,9]),(2,[932,917]),(2,[933,915]),(5,[934]),(4,[906,935]),(4,[907,935]),(6,[936,925]),(6,[937,925]),(4,[938,29]),(4,[939,29]),(2,[9,940]),(2,[18,941]),(3,[942,930]),(3,[943,931]),(4,[907,9]),(2,[916,946]),(2,[947,915]),(5,[948]),(4,[906,949]),(4,[907,949]),(6,[950,925]),(6,[951,925]),(4,[952,29]),(4,[953,29]),(2,[18,954]),(2,[9,955]),(3,[956,930]),(3,[957,931]),(4,[944,0]),(4,[945,0]),(4,[958,1]),(4,[959,1]),(2,[960,962]),(2,[961,963]),(4,[944,2]),(4,[945,2]),(4,[958,3]),(4,[959,3]),(2,[966,968]),(2,[967,969]),(4,[944,4]),(4,[945,4]),(4,[958,5]),(4,[959,5]),(2,[972,974]),(2,[973,975]),(2,[976,930]),(2,[977,931]),(8,[0,906,907,915]),(8,[1,906,907,915]),(8,[2,906,907,915]),(4,[980,18]),(4,[981,18]),(2,[983,984]),(2,[985,982]),(4,[29,986]),(4,[980,980]),(4,[981,981]),(2,[988,989]),(6,[987,990]),(4,[980,991]),(4,[981,991]),(3,[18,992]),(3,[18,993]),(3,[994,25]),(3,[995,26]),(4,[980,9]),(2,[998,984]),(2,[999,982]),(4,[29,1000]),(6,[1001,990]),(4,[980,1002]),(4,[981,1002]),(3,[9,1003]),(3,[18,1004]),(3,[1005,347]),(3,[1006,350]),(4,[981,9]),(2,[983,1009]),(2,[1010,982]),(4,[29,1011]),(6,[1012,990]),(4,[980,1013]),(4,[981,1013]),(3,[18,1014]),(3,[9,1015]),(3,[1016,384]),(3,[1017,387]),(3,[18,25]),(3,[18,26]),(3,[9,347]),(3,[18,350]),(3,[18,384]),(3,[9,387])]
def mM_L : List (List Nat × Nat) := []
def mM_C : List (List Nat × Nat) := []
def mM_Z : List Nat := [3495260,3495260,3495260,3495260,3495260,3495260,6990519,6990519,13981038,1,13981040,6990519,6990519,13981038,13981040,6990519,6990519,13981038,1,3495260,3495260,3495260,3495260,6990521,6990521,10485782,10485782,10485784,10485784,2,10485785,10485785,10485787,10485787,20971571,20971571,41943127,41943127,10485785,10485785,20971564,41943129,41943129,52428913,52428913,20971568,20971568,41943124,52428914,52428914,52428916,52428916,52428918,52428918,10485785,20971564,41943129,41943129,52428913,52428913,52428914,52428914,52428916,52428916,52428918,52428918,52428920,52428920,10485785,20971564,41943129,41943129,52428913,52428913,52428914,52428914,52428916,52428916,52428918,52428918,52428920,52428920,55924179,55924179,55924179,55924179,59419440,59419440,55924179,55924179,55924179,55924179,59419440,59419440,55924179,55924179,55924179,55924179,59419440,59419440,59419442,59419442,59419441,59419441,59419441,59419441,66409961,66409961,73400481,73400481,73400483,73400483,73400484,73400484,73400486,73400486,146800969,146800969,167772525,167772525,73400484,73400484,83886263,167772527,167772527,241173010,241173010,146800966,146800966,167772522,241173011,241173011,241173013,241173013,241173015,241173015,73400484,83886263,167772527,167772527,241173010,241173010,241173011,241173011,241173013,241173013,241173015,241173015,241173017,241173017,73400484,83886263,167772527,167772527,241173010,241173010,241173011,241173011,241173013,241173013,241173015,241173015,241173017,241173017,300592457,300592457,300592457,300592457,311078236,311078236,300592457,300592457,300592457,300592457,311078236,311078236,300592459,300592459,300592459,300592459,311078238,311078238,311078240,311078240,311078237,311078237,311078237,311078237,318068757,318068757,325059278,325059278,325059280,325059280,325059281,325059281,325059283,325059283,650118563,650118563,671090119,671090119,325059281,325059281,335545060,671090121,671090121,996149401,996149401,650118560,650118560,671090116,996149402,996149402,996149404,996149404,996149406,996149406,325059281,335545060,671090121,671090121,996149401,996149401,996149402,996149402,996149404,996149404,996149406,996149406,996149408,996149408,325059281,335545060,671090121,671090121,996149401,996149401,996149402,996149402,996149404,996149404,996149406,996149406,996149408,996149408,1307227644,1307227644,1307227644,1307227644,1317713423,1317713423,1307227644,1307227644,1307227644,1307227644,1317713423,1317713423,1307227648,1307227648,1307227648,1307227648,1317713427,1317713427,1317713429,1317713429,671090052,671090052,671090120,167772497,167772497,167772526,41943118,41943118,41943128,671090053,671090053,671090055,671090122,671090124,1342180104,1342180104,1342180106,1342180107,1342180177,1342180177,1342180179,1342180179,1509952676,1509952676,1509952678,1509952680,1509952682,335544994,335544994,335544996,1677725103,1677725180,1677725180,1677725182,1677725182,1719668300,1719668300,1719668302,1719668304,1719668306,83886236,83886236,83886238,1761611341,1761611425,1761611425,1761611427,1761611427,1772097206,1772097206,671090053,671090055,671090122,671090124,1342180107,1342180177,1342180177,1342180179,1342180179,1509952676,1509952676,1509952678,1509952680,1509952682,1677725103,1677725180,1677725180,1677725182,1677725182,1719668300,1719668300,1719668302,1719668304,1719668306,1761611341,1761611425,1761611425,1761611427,1761611427,3495260,6990521,10485782,3495260,6990521,10485782,1772097206,1772097206,671090053,671090055,671090122,671090124,1342180107,1342180177,1342180177,1342180179,1342180179,1509952676,1509952676,1509952678,1509952680,1509952682,1677725103,1677725180,1677725180,1677725182,1677725182,1719668300,1719668300,1719668302,1719668304,1719668306,1761611341,1761611425,1761611425,1761611427,1761611427,3495260,6990521,10485782,3495260,6990521,10485782,1772097206,1772097206,167772498,167772498,167772500,167772528,167772530,335544997,335545028,335545028,335545030,335545030,377488148,377488148,377488150,377488152,377488154,419431235,419431273,419431273,419431275,419431275,429917054,429917054,167772498,167772500,167772528,167772530,335544997,335545028,335545028,335545030,335545030,377488148,377488148,377488150,377488152,377488154,419431235,419431273,419431273,419431275,419431275,429917054,429917054,167772498,167772500,167772528,167772530,335544997,335545028,335545028,335545030,335545030,377488148,377488148,377488150,377488152,377488154,419431235,419431273,419431273,419431275,419431275,429917054,429917054,59419441,59419441,59419441,59419441,66409961,66409961,73400481,73400481,73400483,73400483,73400484,73400484,73400486,73400486,146800969,146800969,167772525,167772525,73400484,73400484,83886263,167772527,167772527,241173010,241173010,146800966,146800966,167772522,241173011,241173011,241173013,241173013,241173015,241173015,73400484,83886263,167772527,167772527,241173010,241173010,241173011,241173011,241173013,241173013,241173015,241173015,241173017,241173017,73400484,83886263,167772527,167772527,241173010,241173010,241173011,241173011,241173013,241173013,241173015,241173015,241173017,241173017,300592457,300592457,300592457,300592457,311078236,311078236,300592457,300592457,300592457,300592457,311078236,311078236,300592459,300592459,300592459,300592459,311078238,311078238,311078240,311078240,167772497,167772497,167772526,167772498,167772498,167772500,167772528,167772530,335544994,335544994,335544996,335544997,335545028,335545028,335545030,335545030,377488148,377488148,377488150,377488152,377488154,419431235,419431273,419431273,419431275,419431275,429917054,429917054,167772498,167772500,167772528,167772530,335544997,335545028,335545028,335545030,335545030,377488148,377488148,377488150,377488152,377488154,419431235,419431273,419431273,419431275,419431275,429917054,429917054,167772498,167772500,167772528,167772530,335544997,335545028,335545028,335545030,335545030,377488148,377488148,377488150,377488152,377488154,419431235,419431273,419431273,419431275,419431275,429917054,429917054,41943119,41943119,41943121,41943130,41943132,83886239,83886251,83886251,83886253,83886253,94372032,94372032,41943119,41943121,41943130,41943132,83886239,83886251,83886251,83886253,83886253,94372032,94372032,41943119,41943121,41943130,41943132,83886239,83886251,83886251,83886253,83886253,94372032,94372032,10485784,10485784,10485785,10485785,10485787,10485787,20971571,20971571,41943127,41943127,10485785,10485785,20971564,41943129,41943129,52428913,52428913,20971568,20971568,41943124,52428914,52428914,52428916,52428916,52428918,52428918,10485785,20971564,41943129,41943129,52428913,52428913,52428914,52428914,52428916,52428916,52428918,52428918,52428920,52428920,10485785,20971564,41943129,41943129,52428913,52428913,52428914,52428914,52428916,52428916,52428918,52428918,52428920,52428920,55924179,55924179,55924179,55924179,59419440,59419440,55924179,55924179,55924179,55924179,59419440,59419440,55924179,55924179,55924179,55924179,59419440,59419440,59419442,59419442,59419441,59419441,59419441,59419441,66409961,66409961,73400481,73400481,73400483,73400483,73400484,73400484,73400486,73400486,146800969,146800969,167772525,167772525,73400484,73400484,83886263,167772527,167772527,241173010,241173010,146800966,146800966,167772522,241173011,241173011,241173013,241173013,241173015,241173015,73400484,83886263,167772527,167772527,241173010,241173010,241173011,241173011,241173013,241173013,241173015,241173015,241173017,241173017,73400484,83886263,167772527,167772527,241173010,241173010,241173011,241173011,241173013,241173013,241173015,241173015,241173017,241173017,300592457,300592457,300592457,300592457,311078236,311078236,300592457,300592457,300592457,300592457,311078236,311078236,300592459,300592459,300592459,300592459,311078238,311078238,311078240,311078240,167772497,167772497,167772526,41943118,41943118,41943128,167772498,167772498,167772500,167772528,167772530,335544994,335544994,335544996,335544997,335545028,335545028,335545030,335545030,377488148,377488148,377488150,377488152,377488154,83886236,83886236,83886238,419431235,419431273,419431273,419431275,419431275,429917054,429917054,167772498,167772500,167772528,167772530,335544997,335545028,335545028,335545030,335545030,377488148,377488148,377488150,377488152,377488154,419431235,419431273,419431273,419431275,419431275,429917054,429917054,167772498,167772500,167772528,167772530,335544997,335545028,335545028,335545030,335545030,377488148,377488148,377488150,377488152,377488154,419431235,419431273,419431273,419431275,419431275,429917054,429917054,41943119,41943119,41943121,41943130,41943132,83886239,83886251,83886251,83886253,83886253,94372032,94372032,41943119,41943121,41943130,41943132,83886239,83886251,83886251,83886253,83886253,94372032,94372032,41943119,41943121,41943130,41943132,83886239,83886251,83886251,83886253,83886253,94372032,94372032,10485784,10485784,10485785,10485785,10485787,10485787,20971571,20971571,41943127,41943127,10485785,10485785,20971564,41943129,41943129,52428913,52428913,20971568,20971568,41943124,52428914,52428914,52428916,52428916,52428918,52428918,10485785,20971564,41943129,41943129,52428913,52428913,52428914,52428914,52428916,52428916,52428918,52428918,52428920,52428920,10485785,20971564,41943129,41943129,52428913,52428913,52428914,52428914,52428916,52428916,52428918,52428918,52428920,52428920,55924179,55924179,55924179,55924179,59419440,59419440,55924179,55924179,55924179,55924179,59419440,59419440,55924179,55924179,55924179,55924179,59419440,59419440,59419442,59419442,41943118,41943118,41943128,41943119,41943119,41943121,41943130,41943132,83886236,83886236,83886238,83886239,83886251,83886251,83886253,83886253,94372032,94372032,41943119,41943121,41943130,41943132,83886239,83886251,83886251,83886253,83886253,94372032,94372032,41943119,41943121,41943130,41943132,83886239,83886251,83886251,83886253,83886253,94372032,94372032,10485784,10485784,10485784,10485784,10485784,10485784]
def mM_D0 : List Atm := [(0,0),(0,0),(0,3),(0,3)]
def mM_D1 : List Atm := [(0,1),(0,1),(0,4),(0,4)]
def mM_D2 : List Atm := [(0,0),(0,1)]
def mM_D3 : List Atm := [(0,3),(0,4)]
def mM_D4 : List Atm := [(0,0),(0,1),(0,2)]
def mM_D5 : List Atm := [(0,3),(0,4),(0,5)]
def mM_D6 : List Atm := [(0,0),(0,1),(0,2),(1,29)]
def mM_D7 : List Atm := [(0,3),(0,4),(0,5),(1,29)]
def mM_D8 : List Atm := [(0,0),(0,0),(0,1),(0,1),(0,2),(0,2),(1,29)]
def mM_D9 : List Atm := [(0,3),(0,3),(0,4),(0,4),(0,5),(0,5),(1,29)]
def mM_D10 : List Atm := [(0,0),(0,0),(0,1),(0,1),(0,2),(0,2),(0,3),(0,3),(0,4),(0,4),(0,5),(0,5),(1,29)]
def mM_D11 : List Atm := [(0,0),(0,1),(0,2),(0,3),(0,4),(0,5)]
def mM_D12 : List Atm := [(0,0),(0,0),(0,0),(0,1),(0,1),(0,1),(0,2),(0,2),(0,2),(0,3),(0,3),(0,4),(0,4),(0,5),(0,5),(1,29)]
def mM_D13 : List Atm := [(0,0),(0,0),(0,1),(0,1),(0,2),(0,2),(0,3),(0,3),(0,3),(0,4),(0,4),(0,4),(0,5),(0,5),(0,5),(1,29)]
def mM_D14 : List Atm := [(0,0),(0,0),(0,1),(0,1),(0,2),(0,2)]
def mM_D15 : List Atm := [(0,3),(0,3),(0,4),(0,4),(0,5),(0,5)]
def mM_D16 : List Atm := [(0,0),(0,0),(0,1),(0,1),(0,2),(0,2),(0,3),(0,3),(0,4),(0,4),(0,5),(0,5)]
def mM_D17 : List Atm := [(0,0),(0,1),(0,2),(1,29),(1,47)]
def mM_D18 : List Atm := [(0,3),(0,4),(0,5),(1,29),(1,47)]
def mM_D19 : List Atm := [(0,0),(0,0),(0,1),(0,2),(0,3),(1,29),(1,47)]
def mM_D20 : List Atm := [(0,0),(0,3),(0,3),(0,4),(0,5),(1,29),(1,47)]
def mM_D21 : List Atm := [(0,0),(0,1),(0,1),(0,2),(0,4),(1,29),(1,47)]
def mM_D22 : List Atm := [(0,1),(0,3),(0,4),(0,4),(0,5),(1,29),(1,47)]
def mM_D23 : List Atm := [(0,0),(0,1),(0,2),(0,2),(0,5),(1,29),(1,47)]
def mM_D24 : List Atm := [(0,2),(0,3),(0,4),(0,5),(0,5),(1,29),(1,47)]
def mM_D25 : List Atm := [(0,0),(0,0),(0,1),(0,1),(0,2),(0,3),(0,4),(1,29),(1,47)]
def mM_D26 : List Atm := [(0,0),(0,1),(0,3),(0,3),(0,4),(0,4),(0,5),(1,29),(1,47)]
def mM_D27 : List Atm := [(0,0),(0,0),(0,1),(0,1),(0,2),(0,2),(0,3),(0,4),(0,5),(1,29),(1,47)]
def mM_D28 : List Atm := [(0,0),(0,1),(0,2),(0,3),(0,3),(0,4),(0,4),(0,5),(0,5),(1,29),(1,47)]
def mM_D29 : List Atm := [(0,0),(0,0),(0,1),(0,1),(0,2),(0,2),(0,3),(0,4),(0,5),(1,29),(1,29),(1,47)]
def mM_D30 : List Atm := [(0,0),(0,1),(0,2),(0,3),(0,3),(0,4),(0,4),(0,5),(0,5),(1,29),(1,29),(1,47)]
def mM_D31 : List Atm := [(0,0),(0,0),(0,0),(0,0),(0,1),(0,1),(0,1),(0,1),(0,2),(0,2),(0,2),(0,2),(0,3),(0,3),(0,4),(0,4),(0,5),(0,5),(1,29),(1,29),(1,29),(1,47),(1,47)]
def mM_D32 : List Atm := [(0,0),(0,0),(0,1),(0,1),(0,2),(0,2),(0,3),(0,3),(0,3),(0,3),(0,4),(0,4),(0,4),(0,4),(0,5),(0,5),(0,5),(0,5),(1,29),(1,29),(1,29),(1,47),(1,47)]
def mM_D33 : List Atm := [(0,0),(0,0),(0,0),(0,0),(0,1),(0,1),(0,1),(0,1),(0,2),(0,2),(0,2),(0,2),(0,3),(0,3),(0,3),(0,3),(0,4),(0,4),(0,4),(0,4),(0,5),(0,5),(0,5),(0,5),(1,29),(1,29),(1,29),(1,47),(1,47)]
def mM_D34 : List Atm := [(0,0),(0,0),(0,1),(0,1),(0,2),(0,2),(0,3),(0,3),(0,4),(0,4),(0,5),(0,5),(1,29),(1,47)]
def mM_D35 : List Atm := [(0,0),(0,0),(0,0),(0,0),(0,0),(0,0),(0,1),(0,1),(0,1),(0,1),(0,1),(0,1),(0,2),(0,2),(0,2),(0,2),(0,2),(0,2),(0,3),(0,3),(0,3),(0,3),(0,3),(0,4),(0,4),(0,4),(0,4),(0,4),(0,5),(0,5),(0,5),(0,5),(0,5),(1,29),(1,29),(1,29),(1,29),(1,47),(1,47),(1,47)]
def mM_D36 : List Atm := [(0,0),(0,0),(0,0),(0,0),(0,0),(0,1),(0,1),(0,1),(0,1),(0,1),(0,2),(0,2),(0,2),(0,2),(0,2),(0,3),(0,3),(0,3),(0,3),(0,3),(0,3),(0,4),(0,4),(0,4),(0,4),(0,4),(0,4),(0,5),(0,5),(0,5),(0,5),(0,5),(0,5),(1,29),(1,29),(1,29),(1,29),(1,47),(1,47),(1,47)]
def mM_D37 : List Atm := [(0,0),(0,0),(0,0),(0,0),(0,1),(0,1),(0,1),(0,1),(0,2),(0,2),(0,2),(0,2),(0,3),(0,3),(0,4),(0,4),(0,5),(0,5),(1,29),(1,29),(1,47),(1,47)]
def mM_D38 : List Atm := [(0,0),(0,0),(0,1),(0,1),(0,2),(0,2),(0,3),(0,3),(0,3),(0,3),(0,4),(0,4),(0,4),(0,4),(0,5),(0,5),(0,5),(0,5),(1,29),(1,29),(1,47),(1,47)]
def mM_D39 : List Atm := [(0,0),(0,0),(0,0),(0,0),(0,1),(0,1),(0,1),(0,1),(0,2),(0,2),(0,2),(0,2),(0,3),(0,3),(0,3),(0,3),(0,4),(0,4),(0,4),(0,4),(0,5),(0,5),(0,5),(0,5),(1,29),(1,29),(1,47),(1,47)]
def mM_D40 : List Atm := [(0,0),(0,0),(0,1),(0,1),(0,2),(0,2),(0,3),(0,4),(0,5),(1,29),(1,29),(1,47),(1,129)]
def mM_D41 : List Atm := [(0,0),(0,1),(0,2),(0,3),(0,3),(0,4),(0,4),(0,5),(0,5),(1,29),(1,29),(1,47),(1,129)]
def mM_D42 : List Atm := [(0,0),(0,0),(0,0),(0,1),(0,1),(0,2),(0,2),(0,3),(0,3),(0,3),(0,4),(0,4),(0,5),(0,5),(1,29),(1,29),(1,29),(1,47),(1,47),(1,129)]
def mM_D43 : List Atm := [(0,0),(0,0),(0,0),(0,0),(0,1),(0,1),(0,1),(0,2),(0,2),(0,2),(0,3),(0,3),(0,3),(0,4),(0,4),(0,5),(0,5),(1,29),(1,29),(1,29),(1,47),(1,47),(1,129)]
def mM_D44 : List Atm := [(0,0),(0,0),(0,0),(0,1),(0,1),(0,2),(0,2),(0,3),(0,3),(0,3),(0,3),(0,4),(0,4),(0,4),(0,5),(0,5),(0,5),(1,29),(1,29),(1,29),(1,47),(1,47),(1,129)]
def mM_D45 : List Atm := [(0,0),(0,0),(0,1),(0,1),(0,1),(0,2),(0,2),(0,3),(0,3),(0,4),(0,4),(0,4),(0,5),(0,5),(1,29),(1,29),(1,29),(1,47),(1,47),(1,129)]
def mM_D46 : List Atm := [(0,0),(0,0),(0,0),(0,1),(0,1),(0,1),(0,1),(0,2),(0,2),(0,2),(0,3),(0,3),(0,4),(0,4),(0,4),(0,5),(0,5),(1,29),(1,29),(1,29),(1,47),(1,47),(1,129)]
def mM_D47 : List Atm := [(0,0),(0,0),(0,1),(0,1),(0,1),(0,2),(0,2),(0,3),(0,3),(0,3),(0,4),(0,4),(0,4),(0,4),(0,5),(0,5),(0,5),(1,29),(1,29),(1,29),(1,47),(1,47),(1,129)]
def mM_D48 : List Atm := [(0,0),(0,0),(0,1),(0,1),(0,2),(0,2),(0,2),(0,3),(0,3),(0,4),(0,4),(0,5),(0,5),(0,5),(1,29),(1,29),(1,29),(1,47),(1,47),(1,129)]
def mM_D49 : List Atm := [(0,0),(0,0),(0,0),(0,1),(0,1),(0,1),(0,2),(0,2),(0,2),(0,2),(0,3),(0,3),(0,4),(0,4),(0,5),(0,5),(0,5),(1,29),(1,29),(1,29),(1,47),(1,47),(1,129)]
def mM_D50 : List Atm := [(0,0),(0,0),(0,1),(0,1),(0,2),(0,2),(0,2),(0,3),(0,3),(0,3),(0,4),(0,4),(0,4),(0,5),(0,5),(0,5),(0,5),(1,29),(1,29),(1,29),(1,47),(1,47),(1,129)]
def mM_D51 : List Atm := [(0,0),(0,0),(0,0),(0,0),(0,1),(0,1),(0,1),(0,1),(0,2),(0,2),(0,2),(0,2),(0,3),(0,3),(0,3),(0,4),(0,4),(0,4),(0,5),(0,5),(0,5),(1,29),(1,29),(1,29),(1,47),(1,47),(1,129)]
def mM_D52 : List Atm := [(0,0),(0,0),(0,0),(0,1),(0,1),(0,1),(0,2),(0,2),(0,2),(0,3),(0,3),(0,3),(0,3),(0,4),(0,4),(0,4),(0,4),(0,5),(0,5),(0,5),(0,5),(1,29),(1,29),(1,29),(1,47),(1,47),(1,129)]
def mM_D53 : List Atm := [(0,0),(0,0),(0,0),(0,0),(0,1),(0,1),(0,1),(0,1),(0,2),(0,2),(0,2),(0,2),(0,3),(0,3),(0,3),(0,4),(0,4),(0,4),(0,5),(0,5),(0,5),(1,29),(1,29),(1,29),(1,29),(1,47),(1,47),(1,129)]
def mM_D54 : List Atm := [(0,0),(0,0),(0,0),(0,1),(0,1),(0,1),(0,2),(0,2),(0,2),(0,3),(0,3),(0,3),(0,3),(0,4),(0,4),(0,4),(0,4),(0,5),(0,5),(0,5),(0,5),(1,29),(1,29),(1,29),(1,29),(1,47),(1,47),(1,129)]
def mM_D55 : List Atm := [(0,0),(0,0),(0,0),(0,0),(0,0),(0,0),(0,0),(0,0),(0,1),(0,1),(0,1),(0,1),(0,1),(0,1),(0,1),(0,1),(0,2),(0,2),(0,2),(0,2),(0,2),(0,2),(0,2),(0,2),(0,3),(0,3),(0,3),(0,3),(0,3),(0,3),(0,3),(0,3),(0,4),(0,4),(0,4),(0,4),(0,4),(0,4),(0,4),(0,4),(0,5),(0,5),(0,5),(0,5),(0,5),(0,5),(0,5),(0,5),(1,29),(1,29),(1,29),(1,29),(1,29),(1,29),(1,29),(1,47),(1,47),(1,47),(1,47),(1,129),(1,129)]
def mM_D56 : List Atm := [(0,0),(0,0),(0,0),(0,0),(0,1),(0,1),(0,1),(0,1),(0,2),(0,2),(0,2),(0,2),(0,3),(0,3),(0,3),(0,3),(0,4),(0,4),(0,4),(0,4),(0,5),(0,5),(0,5),(0,5),(1,29),(1,29),(1,29),(1,47),(1,47),(1,129)]
def mM_D57 : List Atm := [(0,0),(0,0),(0,0),(0,0),(0,0),(0,0),(0,0),(0,0),(0,0),(0,0),(0,0),(0,0),(0,1),(0,1),(0,1),(0,1),(0,1),(0,1),(0,1),(0,1),(0,1),(0,1),(0,1),(0,1),(0,2),(0,2),(0,2),(0,2),(0,2),(0,2),(0,2),(0,2),(0,2),(0,2),(0,2),(0,2),(0,3),(0,3),(0,3),(0,3),(0,3),(0,3),(0,3),(0,3),(0,3),(0,3),(0,3),(0,4),(0,4),(0,4),(0,4),(0,4),(0,4),(0,4),(0,4),(0,4),(0,4),(0,4),(0,5),(0,5),(0,5),(0,5),(0,5),(0,5),(0,5),(0,5),(0,5),(0,5),(0,5),(1,29),(1,29),(1,29),(1,29),(1,29),(1,29),(1,29),(1,29),(1,29),(1,29),(1,47),(1,47),(1,47),(1,47),(1,47),(1,47),(1,129),(1,129),(1,129)]
def mM_D58 : List Atm := [(0,0),(0,0),(0,0),(0,0),(0,0),(0,0),(0,0),(0,0),(0,0),(0,0),(0,0),(0,1),(0,1),(0,1),(0,1),(0,1),(0,1),(0,1),(0,1),(0,1),(0,1),(0,1),(0,2),(0,2),(0,2),(0,2),(0,2),(0,2),(0,2),(0,2),(0,2),(0,2),(0,2),(0,3),(0,3),(0,3),(0,3),(0,3),(0,3),(0,3),(0,3),(0,3),(0,3),(0,3),(0,3),(0,4),(0,4),(0,4),(0,4),(0,4),(0,4),(0,4),(0,4),(0,4),(0,4),(0,4),(0,4),(0,5),(0,5),(0,5),(0,5),(0,5),(0,5),(0,5),(0,5),(0,5),(0,5),(0,5),(0,5),(1,29),(1,29),(1,29),(1,29),(1,29),(1,29),(1,29),(1,29),(1,29),(1,29),(1,47),(1,47),(1,47),(1,47),(1,47),(1,47),(1,129),(1,129),(1,129)]
def mM_D59 : List Atm := [(0,0),(0,0),(0,0),(0,0),(0,1),(0,1),(0,1),(0,1),(0,2),(0,2),(0,2),(0,2),(0,3),(0,3),(0,3),(0,4),(0,4),(0,4),(0,5),(0,5),(0,5),(1,29),(1,29),(1,29),(1,29),(1,47),(1,47),(1,129),(1,211)]
def mM_D60 : List Atm := [(0,0),(0,0),(0,0),(0,1),(0,1),(0,1),(0,2),(0,2),(0,2),(0,3),(0,3),(0,3),(0,3),(0,4),(0,4),(0,4),(0,4),(0,5),(0,5),(0,5),(0,5),(1,29),(1,29),(1,29),(1,29),(1,47),(1,47),(1,129),(1,211)]
def mM_D61 : List Atm := [(0,0),(0,0),(0,0),(0,0),(0,0),(0,0),(0,0),(0,1),(0,1),(0,1),(0,1),(0,1),(0,1),(0,2),(0,2),(0,2),(0,2),(0,2),(0,2),(0,3),(0,3),(0,3),(0,3),(0,3),(0,3),(0,3),(0,4),(0,4),(0,4),(0,4),(0,4),(0,4),(0,5),(0,5),(0,5),(0,5),(0,5),(0,5),(1,29),(1,29),(1,29),(1,29),(1,29),(1,29),(1,29),(1,47),(1,47),(1,47),(1,47),(1,129),(1,129),(1,211)]
def mM_D62 : List Atm := [(0,0),(0,0),(0,0),(0,0),(0,0),(0,0),(0,1),(0,1),(0,1),(0,1),(0,1),(0,1),(0,1),(0,2),(0,2),(0,2),(0,2),(0,2),(0,2),(0,3),(0,3),(0,3),(0,3),(0,3),(0,3),(0,4),(0,4),(0,4),(0,4),(0,4),(0,4),(0,4),(0,5),(0,5),(0,5),(0,5),(0,5),(0,5),(1,29),(1,29),(1,29),(1,29),(1,29),(1,29),(1,29),(1,47),(1,47),(1,47),(1,47),(1,129),(1,129),(1,211)]
def mM_D63 : List Atm := [(0,0),(0,0),(0,0),(0,0),(0,0),(0,0),(0,1),(0,1),(0,1),(0,1),(0,1),(0,1),(0,2),(0,2),(0,2),(0,2),(0,2),(0,2),(0,2),(0,3),(0,3),(0,3),(0,3),(0,3),(0,3),(0,4),(0,4),(0,4),(0,4),(0,4),(0,4),(0,5),(0,5),(0,5),(0,5),(0,5),(0,5),(0,5),(1,29),(1,29),(1,29),(1,29),(1,29),(1,29),(1,29),(1,47),(1,47),(1,47),(1,47),(1,129),(1,129),(1,211)]
def mM_D64 : List Atm := [(0,0),(0,0),(0,0),(0,0),(0,0),(0,0),(0,0),(0,1),(0,1),(0,1),(0,1),(0,1),(0,1),(0,1),(0,2),(0,2),(0,2),(0,2),(0,2),(0,2),(0,2),(0,2),(0,3),(0,3),(0,3),(0,3),(0,3),(0,3),(0,4),(0,4),(0,4),(0,4),(0,4),(0,4),(0,5),(0,5),(0,5),(0,5),(0,5),(0,5),(0,5),(1,29),(1,29),(1,29),(1,29),(1,29),(1,29),(1,29),(1,47),(1,47),(1,47),(1,47),(1,129),(1,129),(1,211)]
def mM_D65 : List Atm := [(0,0),(0,0),(0,0),(0,0),(0,0),(0,0),(0,1),(0,1),(0,1),(0,1),(0,1),(0,1),(0,2),(0,2),(0,2),(0,2),(0,2),(0,2),(0,2),(0,3),(0,3),(0,3),(0,3),(0,3),(0,3),(0,3),(0,4),(0,4),(0,4),(0,4),(0,4),(0,4),(0,4),(0,5),(0,5),(0,5),(0,5),(0,5),(0,5),(0,5),(0,5),(1,29),(1,29),(1,29),(1,29),(1,29),(1,29),(1,29),(1,47),(1,47),(1,47),(1,47),(1,129),(1,129),(1,211)]
def mM_D66 : List Atm := [(1,282),(1,295)]
def mM_D67 : List Atm := [(1,282),(1,295),(1,308)]
def mM_D68 : List Atm := [(0,0),(0,1),(0,2),(1,282),(1,295),(1,308)]
def mM_D69 : List Atm := [(0,3),(0,4),(0,5),(1,282),(1,295),(1,308)]
def mM_D70 : List Atm := [(1,295),(1,308)]
def mM_D71 : List Atm := [(0,0),(0,1),(0,2),(1,295),(1,308)]
def mM_D72 : List Atm := [(0,3),(0,4),(0,5),(1,295),(1,308)]
def mM_D73 : List Atm := [(0,0),(0,0),(0,1),(0,1),(0,2),(0,2),(0,3),(0,4),(0,5),(1,29),(1,29),(1,47),(1,481)]
def mM_D74 : List Atm := [(0,0),(0,1),(0,2),(0,3),(0,3),(0,4),(0,4),(0,5),(0,5),(1,29),(1,29),(1,47),(1,481)]
def mM_D75 : List Atm := [(0,0),(0,0),(0,0),(0,1),(0,1),(0,2),(0,2),(0,3),(0,3),(0,3),(0,4),(0,4),(0,5),(0,5),(1,29),(1,29),(1,29),(1,47),(1,47),(1,481)]
def mM_D76 : List Atm := [(0,0),(0,0),(0,1),(0,1),(0,1),(0,2),(0,2),(0,3),(0,3),(0,4),(0,4),(0,4),(0,5),(0,5),(1,29),(1,29),(1,29),(1,47),(1,47),(1,481)]
def mM_D77 : List Atm := [(0,0),(0,0),(0,1),(0,1),(0,2),(0,2),(0,2),(0,3),(0,3),(0,4),(0,4),(0,5),(0,5),(0,5),(1,29),(1,29),(1,29),(1,47),(1,47),(1,481)]
def mM_D78 : List Atm := [(0,0),(0,0),(0,0),(0,1),(0,1),(0,1),(0,2),(0,2),(0,2),(0,2),(0,3),(0,3),(0,4),(0,4),(0,5),(0,5),(0,5),(1,29),(1,29),(1,29),(1,47),(1,47),(1,481)]
def mM_D79 : List Atm := [(0,0),(0,0),(0,1),(0,1),(0,2),(0,2),(0,2),(0,3),(0,3),(0,3),(0,4),(0,4),(0,4),(0,5),(0,5),(0,5),(0,5),(1,29),(1,29),(1,29),(1,47),(1,47),(1,481)]
def mM_D80 : List Atm := [(1,308),(1,546)]
def mM_D81 : List Atm := [(0,0),(0,1),(0,2),(1,308),(1,546)]
def mM_D82 : List Atm := [(0,3),(0,4),(0,5),(1,308),(1,546)]
def mM_D83 : List Atm := [(0,0),(0,1),(0,2),(1,308)]
def mM_D84 : List Atm := [(0,3),(0,4),(0,5),(1,308)]
def mM_D85 : List Atm := [(0,0),(0,1),(0,2),(1,29),(1,659)]
def mM_D86 : List Atm := [(0,3),(0,4),(0,5),(1,29),(1,659)]
def mM_D87 : List Atm := [(0,0),(0,0),(0,1),(0,2),(0,3),(1,29),(1,659)]
def mM_D88 : List Atm := [(0,0),(0,3),(0,3),(0,4),(0,5),(1,29),(1,659)]
def mM_D89 : List Atm := [(0,0),(0,1),(0,1),(0,2),(0,4),(1,29),(1,659)]
def mM_D90 : List Atm := [(0,1),(0,3),(0,4),(0,4),(0,5),(1,29),(1,659)]
def mM_D91 : List Atm := [(0,0),(0,1),(0,2),(0,2),(0,5),(1,29),(1,659)]
def mM_D92 : List Atm := [(0,2),(0,3),(0,4),(0,5),(0,5),(1,29),(1,659)]
def mM_D93 : List Atm := [(0,0),(0,0),(0,1),(0,1),(0,2),(0,2),(0,3),(0,4),(0,5),(1,29),(1,659)]
def mM_D94 : List Atm := [(0,0),(0,1),(0,2),(0,3),(0,3),(0,4),(0,4),(0,5),(0,5),(1,29),(1,659)]
def mM_D95 : List Atm := [(0,0),(0,0),(0,1),(0,1),(0,2),(0,2),(0,3),(0,4),(0,5),(1,29),(1,29),(1,659)]
def mM_D96 : List Atm := [(0,0),(0,1),(0,2),(0,3),(0,3),(0,4),(0,4),(0,5),(0,5),(1,29),(1,29),(1,659)]
def mM_D97 : List Atm := [(0,0),(0,0),(0,0),(0,0),(0,1),(0,1),(0,1),(0,1),(0,2),(0,2),(0,2),(0,2),(0,3),(0,3),(0,3),(0,3),(0,4),(0,4),(0,4),(0,4),(0,5),(0,5),(0,5),(0,5),(1,29),(1,29),(1,29),(1,659),(1,659)]
def mM_D98 : List Atm := [(0,0),(0,0),(0,1),(0,1),(0,2),(0,2),(0,3),(0,3),(0,4),(0,4),(0,5),(0,5),(1,29),(1,659)]
def mM_D99 : List Atm := [(0,0),(0,0),(0,0),(0,0),(0,0),(0,0),(0,1),(0,1),(0,1),(0,1),(0,1),(0,1),(0,2),(0,2),(0,2),(0,2),(0,2),(0,2),(0,3),(0,3),(0,3),(0,3),(0,3),(0,4),(0,4),(0,4),(0,4),(0,4),(0,5),(0,5),(0,5),(0,5),(0,5),(1,29),(1,29),(1,29),(1,29),(1,659),(1,659),(1,659)]
def mM_D100 : List Atm := [(0,0),(0,0),(0,0),(0,0),(0,0),(0,1),(0,1),(0,1),(0,1),(0,1),(0,2),(0,2),(0,2),(0,2),(0,2),(0,3),(0,3),(0,3),(0,3),(0,3),(0,3),(0,4),(0,4),(0,4),(0,4),(0,4),(0,4),(0,5),(0,5),(0,5),(0,5),(0,5),(0,5),(1,29),(1,29),(1,29),(1,29),(1,659),(1,659),(1,659)]
def mM_D101 : List Atm := [(0,0),(0,0),(0,1),(0,1),(0,2),(0,2),(0,3),(0,4),(0,5),(1,29),(1,29),(1,659),(1,741)]
def mM_D102 : List Atm := [(0,0),(0,1),(0,2),(0,3),(0,3),(0,4),(0,4),(0,5),(0,5),(1,29),(1,29),(1,659),(1,741)]
def mM_D103 : List Atm := [(0,0),(0,0),(0,0),(0,1),(0,1),(0,2),(0,2),(0,3),(0,3),(0,3),(0,4),(0,4),(0,5),(0,5),(1,29),(1,29),(1,29),(1,659),(1,659),(1,741)]
def mM_D104 : List Atm := [(0,0),(0,0),(0,1),(0,1),(0,1),(0,2),(0,2),(0,3),(0,3),(0,4),(0,4),(0,4),(0,5),(0,5),(1,29),(1,29),(1,29),(1,659),(1,659),(1,741)]
def mM_D105 : List Atm := [(0,0),(0,0),(0,1),(0,1),(0,2),(0,2),(0,2),(0,3),(0,3),(0,4),(0,4),(0,5),(0,5),(0,5),(1,29),(1,29),(1,29),(1,659),(1,659),(1,741)]
def mM_D106 : List Atm := [(0,0),(0,0),(0,0),(0,1),(0,1),(0,1),(0,2),(0,2),(0,2),(0,2),(0,3),(0,3),(0,4),(0,4),(0,5),(0,5),(0,5),(1,29),(1,29),(1,29),(1,659),(1,659),(1,741)]
def mM_D107 : List Atm := [(0,0),(0,0),(0,1),(0,1),(0,2),(0,2),(0,2),(0,3),(0,3),(0,3),(0,4),(0,4),(0,4),(0,5),(0,5),(0,5),(0,5),(1,29),(1,29),(1,29),(1,659),(1,659),(1,741)]
def mM_D108 : List Atm := [(1,809),(1,822)]
def mM_D109 : List Atm := [(0,0),(0,1),(0,2),(1,809),(1,822)]
def mM_D110 : List Atm := [(0,3),(0,4),(0,5),(1,809),(1,822)]
def mM_D111 : List Atm := [(0,0),(0,1),(0,2),(1,822)]
def mM_D112 : List Atm := [(0,3),(0,4),(0,5),(1,822)]
def mM_D113 : List Atm := [(0,0),(0,1),(0,2),(1,29),(1,925)]
def mM_D114 : List Atm := [(0,3),(0,4),(0,5),(1,29),(1,925)]
def mM_D115 : List Atm := [(0,0),(0,1),(0,2),(0,2),(0,5),(1,29),(1,925)]
def mM_D116 : List Atm := [(0,2),(0,3),(0,4),(0,5),(0,5),(1,29),(1,925)]
def mM_D117 : List Atm := [(0,0),(0,1),(0,2),(1,990)]
def mM_D118 : List Atm := [(0,3),(0,4),(0,5),(1,990)]
def mM_E : List (Nat × List Atm) := [(3495259,[(0,0)]),(3495259,[(0,3)]),(3495259,[(0,1)]),(3495259,[(0,4)]),(3495259,[(0,2)]),(3495259,[(0,5)]),(6990518,[(0,0),(0,0)]),(6990518,[(0,3),(0,3)]),(13981038,mM_D0),(1,[]),(13981040,mM_D0),(6990518,[(0,1),(0,1)]),(6990518,[(0,4),(0,4)]),(13981038,mM_D1),(13981040,mM_D1),(6990518,mM_D2),(6990518,mM_D3),(13981038,[(0,0),(0,1),(0,3),(0,4)]),(1,[]),(3495260,[(0,0)]),(3495260,[(0,3)]),(3495260,[(0,1)]),(3495260,[(0,4)]),(6990521,mM_D2),(6990521,mM_D3),(10485782,mM_D4),(10485782,mM_D5),(10485784,mM_D4),(10485784,mM_D5),(2,[]),(10485785,mM_D6),(10485785,mM_D7),(10485787,mM_D6),(10485787,mM_D7),(20971571,mM_D8),(20971571,mM_D9),(41943127,mM_D10),(41943127,mM_D10),(10485785,mM_D4),(10485785,mM_D5),(20971564,mM_D11),(41943129,mM_D10),(41943129,mM_D10),(52428913,mM_D12),(52428913,mM_D13),(20971568,mM_D14),(20971568,mM_D15),(41943124,mM_D16),(52428914,mM_D17),(52428914,mM_D18),(52428916,mM_D17),(52428916,mM_D18),(52428918,mM_D17),(52428918,mM_D18),(10485785,mM_D4),(20971564,mM_D11),(41943129,mM_D10),(41943129,mM_D10),(52428913,mM_D12),(52428913,mM_D13),(52428914,mM_D17),(52428914,mM_D18),(52428916,mM_D17),(52428916,mM_D18),(52428918,mM_D17),(52428918,mM_D18),(52428920,mM_D17),(52428920,mM_D18),(10485785,mM_D5),(20971564,mM_D11),(41943129,mM_D10),(41943129,mM_D10),(52428913,mM_D12),(52428913,mM_D13),(52428914,mM_D17),(52428914,mM_D18),(52428916,mM_D17),(52428916,mM_D18),(52428918,mM_D17),(52428918,mM_D18),(52428920,mM_D17),(52428920,mM_D18),(55924179,[(0,0),(0,0),(0,1),(0,2),(1,29),(1,47)]),(55924179,[(0,0),(0,3),(0,4),(0,5),(1,29),(1,47)]),(55924179,[(0,0),(0,1),(0,2),(0,3),(1,29),(1,47)]),(55924179,[(0,3),(0,3),(0,4),(0,5),(1,29),(1,47)]),(59419440,mM_D19),(59419440,mM_D20),(55924179,[(0,0),(0,1),(0,1),(0,2),(1,29),(1,47)]),(55924179,[(0,1),(0,3),(0,4),(0,5),(1,29),(1,47)]),(55924179,[(0,0),(0,1),(0,2),(0,4),(1,29),(1,47)]),(55924179,[(0,3),(0,4),(0,4),(0,5),(1,29),(1,47)]),(59419440,mM_D21),(59419440,mM_D22),(55924179,[(0,0),(0,1),(0,2),(0,2),(1,29),(1,47)]),(55924179,[(0,2),(0,3),(0,4),(0,5),(1,29),(1,47)]),(55924179,[(0,0),(0,1),(0,2),(0,5),(1,29),(1,47)]),(55924179,[(0,3),(0,4),(0,5),(0,5),(1,29),(1,47)]),(59419440,mM_D23),(59419440,mM_D24),(59419442,mM_D23),(59419442,mM_D24),(59419441,mM_D19),(59419441,mM_D20),(59419441,mM_D21),(59419441,mM_D22),(66409961,mM_D25),(66409961,mM_D26),(73400481,mM_D27),(73400481,mM_D28),(73400483,mM_D27),(73400483,mM_D28),(73400484,mM_D29),(73400484,mM_D30),(73400486,mM_D29),(73400486,mM_D30),(146800969,mM_D31),(146800969,mM_D32),(167772525,mM_D33),(167772525,mM_D33),(73400484,mM_D27),(73400484,mM_D28),(83886263,mM_D34),(167772527,mM_D33),(167772527,mM_D33),(241173010,mM_D35),(241173010,mM_D36),(146800966,mM_D37),(146800966,mM_D38),(167772522,mM_D39),(241173011,mM_D40),(241173011,mM_D41),(241173013,mM_D40),(241173013,mM_D41),(241173015,mM_D40),(241173015,mM_D41),(73400484,mM_D27),(83886263,mM_D34),(167772527,mM_D33),(167772527,mM_D33),(241173010,mM_D35),(241173010,mM_D36),(241173011,mM_D40),(241173011,mM_D41),(241173013,mM_D40),(241173013,mM_D41),(241173015,mM_D40),(241173015,mM_D41),(241173017,mM_D40),(241173017,mM_D41),(73400484,mM_D28),(83886263,mM_D34),(167772527,mM_D33),(167772527,mM_D33),(241173010,mM_D35),(241173010,mM_D36),(241173011,mM_D40),(241173011,mM_D41),(241173013,mM_D40),(241173013,mM_D41),(241173015,mM_D40),(241173015,mM_D41),(241173017,mM_D40),(241173017,mM_D41),(300592457,[(0,0),(0,0),(0,0),(0,0),(0,1),(0,1),(0,1),(0,2),(0,2),(0,2),(0,3),(0,3),(0,4),(0,5),(1,29),(1,29),(1,29),(1,47),(1,47),(1,129)]),(300592457,mM_D42),(300592457,mM_D42),(300592457,[(0,0),(0,0),(0,1),(0,2),(0,3),(0,3),(0,3),(0,3),(0,4),(0,4),(0,4),(0,5),(0,5),(0,5),(1,29),(1,29),(1,29),(1,47),(1,47),(1,129)]),(311078236,mM_D43),(311078236,mM_D44),(300592457,[(0,0),(0,0),(0,0),(0,1),(0,1),(0,1),(0,1),(0,2),(0,2),(0,2),(0,3),(0,4),(0,4),(0,5),(1,29),(1,29),(1,29),(1,47),(1,47),(1,129)]),(300592457,mM_D45),(300592457,mM_D45),(300592457,[(0,0),(0,1),(0,1),(0,2),(0,3),(0,3),(0,3),(0,4),(0,4),(0,4),(0,4),(0,5),(0,5),(0,5),(1,29),(1,29),(1,29),(1,47),(1,47),(1,129)]),(311078236,mM_D46),(311078236,mM_D47),(300592459,[(0,0),(0,0),(0,0),(0,1),(0,1),(0,1),(0,2),(0,2),(0,2),(0,2),(0,3),(0,4),(0,5),(0,5),(1,29),(1,29),(1,29),(1,47),(1,47),(1,129)]),(300592459,mM_D48),(300592459,mM_D48),(300592459,[(0,0),(0,1),(0,2),(0,2),(0,3),(0,3),(0,3),(0,4),(0,4),(0,4),(0,5),(0,5),(0,5),(0,5),(1,29),(1,29),(1,29),(1,47),(1,47),(1,129)]),(311078238,mM_D49),(311078238,mM_D50),(311078240,mM_D49),(311078240,mM_D50),(311078237,mM_D43),(311078237,mM_D44),(311078237,mM_D46),(311078237,mM_D47),(318068757,[(0,0),(0,0),(0,0),(0,0),(0,1),(0,1),(0,1),(0,1),(0,2),(0,2),(0,2),(0,3),(0,3),(0,3),(0,4),(0,4),(0,4),(0,5),(0,5),(1,29),(1,29),(1,29),(1,47),(1,47),(1,129)]),(318068757,[(0,0),(0,0),(0,0),(0,1),(0,1),(0,1),(0,2),(0,2),(0,3),(0,3),(0,3),(0,3),(0,4),(0,4),(0,4),(0,4),(0,5),(0,5),(0,5),(1,29),(1,29),(1,29),(1,47),(1,47),(1,129)]),(325059278,mM_D51),(325059278,mM_D52),(325059280,mM_D51),(325059280,mM_D52),(325059281,mM_D53),(325059281,mM_D54),(325059283,mM_D53),(325059283,mM_D54),(650118563,[(0,0),(0,0),(0,0),(0,0),(0,0),(0,0),(0,0),(0,0),(0,1),(0,1),(0,1),(0,1),(0,1),(0,1),(0,1),(0,1),(0,2),(0,2),(0,2),(0,2),(0,2),(0,2),(0,2),(0,2),(0,3),(0,3),(0,3),(0,3),(0,3),(0,3),(0,4),(0,4),(0,4),(0,4),(0,4),(0,4),(0,5),(0,5),(0,5),(0,5),(0,5),(0,5),(1,29),(1,29),(1,29),(1,29),(1,29),(1,29),(1,29),(1,47),(1,47),(1,47),(1,47),(1,129),(1,129)]),(650118563,[(0,0),(0,0),(0,0),(0,0),(0,0),(0,0),(0,1),(0,1),(0,1),(0,1),(0,1),(0,1),(0,2),(0,2),(0,2),(0,2),(0,2),(0,2),(0,3),(0,3),(0,3),(0,3),(0,3),(0,3),(0,3),(0,3),(0,4),(0,4),(0,4),(0,4),(0,4),(0,4),(0,4),(0,4),(0,5),(0,5),(0,5),(0,5),(0,5),(0,5),(0,5),(0,5),(1,29),(1,29),(1,29),(1,29),(1,29),(1,29),(1,29),(1,47),(1,47),(1,47),(1,47),(1,129),(1,129)]),(671090119,mM_D55),(671090119,mM_D55),(325059281,mM_D51),(325059281,mM_D52),(335545060,mM_D56),(671090121,mM_D55),(671090121,mM_D55),(996149401,mM_D57),(996149401,mM_D58),(650118560,[(0,0),(0,0),(0,0),(0,0),(0,0),(0,0),(0,0),(0,0),(0,1),(0,1),(0,1),(0,1),(0,1),(0,1),(0,1),(0,1),(0,2),(0,2),(0,2),(0,2),(0,2),(0,2),(0,2),(0,2),(0,3),(0,3),(0,3),(0,3),(0,3),(0,3),(0,4),(0,4),(0,4),(0,4),(0,4),(0,4),(0,5),(0,5),(0,5),(0,5),(0,5),(0,5),(1,29),(1,29),(1,29),(1,29),(1,29),(1,29),(1,47),(1,47),(1,47),(1,47),(1,129),(1,129)]),(650118560,[(0,0),(0,0),(0,0),(0,0),(0,0),(0,0),(0,1),(0,1),(0,1),(0,1),(0,1),(0,1),(0,2),(0,2),(0,2),(0,2),(0,2),(0,2),(0,3),(0,3),(0,3),(0,3),(0,3),(0,3),(0,3),(0,3),(0,4),(0,4),(0,4),(0,4),(0,4),(0,4),(0,4),(0,4),(0,5),(0,5),(0,5),(0,5),(0,5),(0,5),(0,5),(0,5),(1,29),(1,29),(1,29),(1,29),(1,29),(1,29),(1,47),(1,47),(1,47),(1,47),(1,129),(1,129)]),(671090116,[(0,0),(0,0),(0,0),(0,0),(0,0),(0,0),(0,0),(0,0),(0,1),(0,1),(0,1),(0,1),(0,1),(0,1),(0,1),(0,1),(0,2),(0,2),(0,2),(0,2),(0,2),(0,2),(0,2),(0,2),(0,3),(0,3),(0,3),(0,3),(0,3),(0,3),(0,3),(0,3),(0,4),(0,4),(0,4),(0,4),(0,4),(0,4),(0,4),(0,4),(0,5),(0,5),(0,5),(0,5),(0,5),(0,5),(0,5),(0,5),(1,29),(1,29),(1,29),(1,29),(1,29),(1,29),(1,47),(1,47),(1,47),(1,47),(1,129),(1,129)]),(996149402,mM_D59),(996149402,mM_D60),(996149404,mM_D59),(996149404,mM_D60),(996149406,mM_D59),(996149406,mM_D60),(325059281,mM_D51),(335545060,mM_D56),(671090121,mM_D55),(671090121,mM_D55),(996149401,mM_D57),(996149401,mM_D58),(996149402,mM_D59),(996149402,mM_D60),(996149404,mM_D59),(996149404,mM_D60),(996149406,mM_D59),(996149406,mM_D60),(996149408,mM_D59),(996149408,mM_D60),(325059281,mM_D52),(335545060,mM_D56),(671090121,mM_D55),(671090121,mM_D55),(996149401,mM_D57),(996149401,mM_D58),(996149402,mM_D59),(996149402,mM_D60),(996149404,mM_D59),(996149404,mM_D60),(996149406,mM_D59),(996149406,mM_D60),(996149408,mM_D59),(996149408,mM_D60),(1307227644,[(0,0),(0,0),(0,0),(0,0),(0,0),(0,0),(0,0),(0,0),(0,1),(0,1),(0,1),(0,1),(0,1),(0,1),(0,1),(0,2),(0,2),(0,2),(0,2),(0,2),(0,2),(0,2),(0,3),(0,3),(0,3),(0,3),(0,3),(0,3),(0,4),(0,4),(0,4),(0,4),(0,4),(0,5),(0,5),(0,5),(0,5),(0,5),(1,29),(1,29),(1,29),(1,29),(1,29),(1,29),(1,29),(1,47),(1,47),(1,47),(1,47),(1,129),(1,129),(1,211)]),(1307227644,mM_D61),(1307227644,mM_D61),(1307227644,[(0,0),(0,0),(0,0),(0,0),(0,0),(0,0),(0,1),(0,1),(0,1),(0,1),(0,1),(0,2),(0,2),(0,2),(0,2),(0,2),(0,3),(0,3),(0,3),(0,3),(0,3),(0,3),(0,3),(0,3),(0,4),(0,4),(0,4),(0,4),(0,4),(0,4),(0,4),(0,5),(0,5),(0,5),(0,5),(0,5),(0,5),(0,5),(1,29),(1,29),(1,29),(1,29),(1,29),(1,29),(1,29),(1,47),(1,47),(1,47),(1,47),(1,129),(1,129),(1,211)]),(1317713423,[(0,0),(0,0),(0,0),(0,0),(0,0),(0,0),(0,0),(0,0),(0,1),(0,1),(0,1),(0,1),(0,1),(0,1),(0,1),(0,2),(0,2),(0,2),(0,2),(0,2),(0,2),(0,2),(0,3),(0,3),(0,3),(0,3),(0,3),(0,3),(0,3),(0,4),(0,4),(0,4),(0,4),(0,4),(0,4),(0,5),(0,5),(0,5),(0,5),(0,5),(0,5),(1,29),(1,29),(1,29),(1,29),(1,29),(1,29),(1,29),(1,47),(1,47),(1,47),(1,47),(1,129),(1,129),(1,211)]),(1317713423,[(0,0),(0,0),(0,0),(0,0),(0,0),(0,0),(0,0),(0,1),(0,1),(0,1),(0,1),(0,1),(0,1),(0,2),(0,2),(0,2),(0,2),(0,2),(0,2),(0,3),(0,3),(0,3),(0,3),(0,3),(0,3),(0,3),(0,3),(0,4),(0,4),(0,4),(0,4),(0,4),(0,4),(0,4),(0,5),(0,5),(0,5),(0,5),(0,5),(0,5),(0,5),(1,29),(1,29),(1,29),(1,29),(1,29),(1,29),(1,29),(1,47),(1,47),(1,47),(1,47),(1,129),(1,129),(1,211)]),(1307227644,[(0,0),(0,0),(0,0),(0,0),(0,0),(0,0),(0,0),(0,1),(0,1),(0,1),(0,1),(0,1),(0,1),(0,1),(0,1),(0,2),(0,2),(0,2),(0,2),(0,2),(0,2),(0,2),(0,3),(0,3),(0,3),(0,3),(0,3),(0,4),(0,4),(0,4),(0,4),(0,4),(0,4),(0,5),(0,5),(0,5),(0,5),(0,5),(1,29),(1,29),(1,29),(1,29),(1,29),(1,29),(1,29),(1,47),(1,47),(1,47),(1,47),(1,129),(1,129),(1,211)]),(1307227644,mM_D62),(1307227644,mM_D62),(1307227644,[(0,0),(0,0),(0,0),(0,0),(0,0),(0,1),(0,1),(0,1),(0,1),(0,1),(0,1),(0,2),(0,2),(0,2),(0,2),(0,2),(0,3),(0,3),(0,3),(0,3),(0,3),(0,3),(0,3),(0,4),(0,4),(0,4),(0,4),(0,4),(0,4),(0,4),(0,4),(0,5),(0,5),(0,5),(0,5),(0,5),(0,5),(0,5),(1,29),(1,29),(1,29),(1,29),(1,29),(1,29),(1,29),(1,47),(1,47),(1,47),(1,47),(1,129),(1,129),(1,211)]),(1317713423,[(0,0),(0,0),(0,0),(0,0),(0,0),(0,0),(0,0),(0,1),(0,1),(0,1),(0,1),(0,1),(0,1),(0,1),(0,1),(0,2),(0,2),(0,2),(0,2),(0,2),(0,2),(0,2),(0,3),(0,3),(0,3),(0,3),(0,3),(0,3),(0,4),(0,4),(0,4),(0,4),(0,4),(0,4),(0,4),(0,5),(0,5),(0,5),(0,5),(0,5),(0,5),(1,29),(1,29),(1,29),(1,29),(1,29),(1,29),(1,29),(1,47),(1,47),(1,47),(1,47),(1,129),(1,129),(1,211)]),(1317713423,[(0,0),(0,0),(0,0),(0,0),(0,0),(0,0),(0,1),(0,1),(0,1),(0,1),(0,1),(0,1),(0,1),(0,2),(0,2),(0,2),(0,2),(0,2),(0,2),(0,3),(0,3),(0,3),(0,3),(0,3),(0,3),(0,3),(0,4),(0,4),(0,4),(0,4),(0,4),(0,4),(0,4),(0,4),(0,5),(0,5),(0,5),(0,5),(0,5),(0,5),(0,5),(1,29),(1,29),(1,29),(1,29),(1,29),(1,29),(1,29),(1,47),(1,47),(1,47),(1,47),(1,129),(1,129),(1,211)]),(1307227648,[(0,0),(0,0),(0,0),(0,0),(0,0),(0,0),(0,0),(0,1),(0,1),(0,1),(0,1),(0,1),(0,1),(0,1),(0,2),(0,2),(0,2),(0,2),(0,2),(0,2),(0,2),(0,2),(0,3),(0,3),(0,3),(0,3),(0,3),(0,4),(0,4),(0,4),(0,4),(0,4),(0,5),(0,5),(0,5),(0,5),(0,5),(0,5),(1,29),(1,29),(1,29),(1,29),(1,29),(1,29),(1,29),(1,47),(1,47),(1,47),(1,47),(1,129),(1,129),(1,211)]),(1307227648,mM_D63),(1307227648,mM_D63),(1307227648,[(0,0),(0,0),(0,0),(0,0),(0,0),(0,1),(0,1),(0,1),(0,1),(0,1),(0,2),(0,2),(0,2),(0,2),(0,2),(0,2),(0,3),(0,3),(0,3),(0,3),(0,3),(0,3),(0,3),(0,4),(0,4),(0,4),(0,4),(0,4),(0,4),(0,4),(0,5),(0,5),(0,5),(0,5),(0,5),(0,5),(0,5),(0,5),(1,29),(1,29),(1,29),(1,29),(1,29),(1,29),(1,29),(1,47),(1,47),(1,47),(1,47),(1,129),(1,129),(1,211)]),(1317713427,mM_D64),(1317713427,mM_D65),(1317713429,mM_D64),(1317713429,mM_D65),(671090052,[]),(671090052,[]),(671090120,[]),(167772497,[]),(167772497,[]),(167772526,[]),(41943118,[]),(41943118,[]),(41943128,[]),(671090053,[]),(671090053,[]),(671090055,[]),(671090122,[]),(671090124,[]),(1342180104,[]),(1342180104,[]),(1342180106,[]),(671090125,[(1,282)]),(1342180177,[(1,282)]),(1342180177,[(1,282)]),(1342180179,[(1,282)]),(1342180179,[(1,282)]),(1509952676,[(1,282)]),(1509952676,[(1,282)]),(1509952678,[(1,282)]),(1509952680,[(1,282)]),(1509952682,[(1,282)]),(335544994,[]),(335544994,[]),(335544996,[]),(1509952683,mM_D66),(1677725180,mM_D66),(1677725180,mM_D66),(1677725182,mM_D66),(1677725182,mM_D66),(1719668300,mM_D66),(1719668300,mM_D66),(1719668302,mM_D66),(1719668304,mM_D66),(1719668306,mM_D66),(83886236,[]),(83886236,[]),(83886238,[]),(1719668307,mM_D67),(1761611425,mM_D67),(1761611425,mM_D67),(1761611427,mM_D67),(1761611427,mM_D67),(1772097206,mM_D68),(1772097206,mM_D69),(671090053,[]),(671090055,[]),(671090122,[]),(671090124,[]),(671090125,[(1,282)]),(1342180177,[(1,282)]),(1342180177,[(1,282)]),(1342180179,[(1,282)]),(1342180179,[(1,282)]),(1509952676,[(1,282)]),(1509952676,[(1,282)]),(1509952678,[(1,282)]),(1509952680,[(1,282)]),(1509952682,[(1,282)]),(1509952683,mM_D66),(1677725180,mM_D66),(1677725180,mM_D66),(1677725182,mM_D66),(1677725182,mM_D66),(1719668300,mM_D66),(1719668300,mM_D66),(1719668302,mM_D66),(1719668304,mM_D66),(1719668306,mM_D66),(1719668307,mM_D67),(1761611425,mM_D67),(1761611425,mM_D67),(1761611427,mM_D67),(1761611427,mM_D67),(3495260,[(0,0)]),(6990521,mM_D2),(10485782,mM_D4),(3495260,[(0,3)]),(6990521,mM_D3),(10485782,mM_D5),(1772097206,mM_D68),(1772097206,mM_D69),(671090053,[]),(671090055,[]),(671090122,[]),(671090124,[]),(671090125,[(1,282)]),(1342180177,[(1,282)]),(1342180177,[(1,282)]),(1342180179,[(1,282)]),(1342180179,[(1,282)]),(1509952676,[(1,282)]),(1509952676,[(1,282)]),(1509952678,[(1,282)]),(1509952680,[(1,282)]),(1509952682,[(1,282)]),(1509952683,mM_D66),(1677725180,mM_D66),(1677725180,mM_D66),(1677725182,mM_D66),(1677725182,mM_D66),(1719668300,mM_D66),(1719668300,mM_D66),(1719668302,mM_D66),(1719668304,mM_D66),(1719668306,mM_D66),(1719668307,mM_D67),(1761611425,mM_D67),(1761611425,mM_D67),(1761611427,mM_D67),(1761611427,mM_D67),(3495260,[(0,1)]),(6990521,mM_D2),(10485782,mM_D4),(3495260,[(0,4)]),(6990521,mM_D3),(10485782,mM_D5),(1772097206,mM_D68),(1772097206,mM_D69),(167772498,[]),(167772498,[]),(167772500,[]),(167772528,[]),(167772530,[]),(167772531,[(1,295)]),(335545028,[(1,295)]),(335545028,[(1,295)]),(335545030,[(1,295)]),(335545030,[(1,295)]),(377488148,[(1,295)]),(377488148,[(1,295)]),(377488150,[(1,295)]),(377488152,[(1,295)]),(377488154,[(1,295)]),(377488155,mM_D70),(419431273,mM_D70),(419431273,mM_D70),(419431275,mM_D70),(419431275,mM_D70),(429917054,mM_D71),(429917054,mM_D72),(167772498,[]),(167772500,[]),(167772528,[]),(167772530,[]),(167772531,[(1,295)]),(335545028,[(1,295)]),(335545028,[(1,295)]),(335545030,[(1,295)]),(335545030,[(1,295)]),(377488148,[(1,295)]),(377488148,[(1,295)]),(377488150,[(1,295)]),(377488152,[(1,295)]),(377488154,[(1,295)]),(377488155,mM_D70),(419431273,mM_D70),(419431273,mM_D70),(419431275,mM_D70),(419431275,mM_D70),(429917054,mM_D71),(429917054,mM_D72),(167772498,[]),(167772500,[]),(167772528,[]),(167772530,[]),(167772531,[(1,295)]),(335545028,[(1,295)]),(335545028,[(1,295)]),(335545030,[(1,295)]),(335545030,[(1,295)]),(377488148,[(1,295)]),(377488148,[(1,295)]),(377488150,[(1,295)]),(377488152,[(1,295)]),(377488154,[(1,295)]),(377488155,mM_D70),(419431273,mM_D70),(419431273,mM_D70),(419431275,mM_D70),(419431275,mM_D70),(429917054,mM_D71),(429917054,mM_D72),(59419441,mM_D19),(59419441,mM_D20),(59419441,mM_D21),(59419441,mM_D22),(66409961,mM_D25),(66409961,mM_D26),(73400481,mM_D27),(73400481,mM_D28),(73400483,mM_D27),(73400483,mM_D28),(73400484,mM_D29),(73400484,mM_D30),(73400486,mM_D29),(73400486,mM_D30),(146800969,mM_D31),(146800969,mM_D32),(167772525,mM_D33),(167772525,mM_D33),(73400484,mM_D27),(73400484,mM_D28),(83886263,mM_D34),(167772527,mM_D33),(167772527,mM_D33),(241173010,mM_D35),(241173010,mM_D36),(146800966,mM_D37),(146800966,mM_D38),(167772522,mM_D39),(241173011,mM_D73),(241173011,mM_D74),(241173013,mM_D73),(241173013,mM_D74),(241173015,mM_D73),(241173015,mM_D74),(73400484,mM_D27),(83886263,mM_D34),(167772527,mM_D33),(167772527,mM_D33),(241173010,mM_D35),(241173010,mM_D36),(241173011,mM_D73),(241173011,mM_D74),(241173013,mM_D73),(241173013,mM_D74),(241173015,mM_D73),(241173015,mM_D74),(241173017,mM_D73),(241173017,mM_D74),(73400484,mM_D28),(83886263,mM_D34),(167772527,mM_D33),(167772527,mM_D33),(241173010,mM_D35),(241173010,mM_D36),(241173011,mM_D73),(241173011,mM_D74),(241173013,mM_D73),(241173013,mM_D74),(241173015,mM_D73),(241173015,mM_D74),(241173017,mM_D73),(241173017,mM_D74),(300592457,[(0,0),(0,0),(0,0),(0,0),(0,1),(0,1),(0,1),(0,2),(0,2),(0,2),(0,3),(0,3),(0,4),(0,5),(1,29),(1,29),(1,29),(1,47),(1,47),(1,481)]),(300592457,mM_D75),(300592457,mM_D75),(300592457,[(0,0),(0,0),(0,1),(0,2),(0,3),(0,3),(0,3),(0,3),(0,4),(0,4),(0,4),(0,5),(0,5),(0,5),(1,29),(1,29),(1,29),(1,47),(1,47),(1,481)]),(311078236,[(0,0),(0,0),(0,0),(0,0),(0,1),(0,1),(0,1),(0,2),(0,2),(0,2),(0,3),(0,3),(0,3),(0,4),(0,4),(0,5),(0,5),(1,29),(1,29),(1,29),(1,47),(1,47),(1,481)]),(311078236,[(0,0),(0,0),(0,0),(0,1),(0,1),(0,2),(0,2),(0,3),(0,3),(0,3),(0,3),(0,4),(0,4),(0,4),(0,5),(0,5),(0,5),(1,29),(1,29),(1,29),(1,47),(1,47),(1,481)]),(300592457,[(0,0),(0,0),(0,0),(0,1),(0,1),(0,1),(0,1),(0,2),(0,2),(0,2),(0,3),(0,4),(0,4),(0,5),(1,29),(1,29),(1,29),(1,47),(1,47),(1,481)]),(300592457,mM_D76),(300592457,mM_D76),(300592457,[(0,0),(0,1),(0,1),(0,2),(0,3),(0,3),(0,3),(0,4),(0,4),(0,4),(0,4),(0,5),(0,5),(0,5),(1,29),(1,29),(1,29),(1,47),(1,47),(1,481)]),(311078236,[(0,0),(0,0),(0,0),(0,1),(0,1),(0,1),(0,1),(0,2),(0,2),(0,2),(0,3),(0,3),(0,4),(0,4),(0,4),(0,5),(0,5),(1,29),(1,29),(1,29),(1,47),(1,47),(1,481)]),(311078236,[(0,0),(0,0),(0,1),(0,1),(0,1),(0,2),(0,2),(0,3),(0,3),(0,3),(0,4),(0,4),(0,4),(0,4),(0,5),(0,5),(0,5),(1,29),(1,29),(1,29),(1,47),(1,47),(1,481)]),(300592459,[(0,0),(0,0),(0,0),(0,1),(0,1),(0,1),(0,2),(0,2),(0,2),(0,2),(0,3),(0,4),(0,5),(0,5),(1,29),(1,29),(1,29),(1,47),(1,47),(1,481)]),(300592459,mM_D77),(300592459,mM_D77),(300592459,[(0,0),(0,1),(0,2),(0,2),(0,3),(0,3),(0,3),(0,4),(0,4),(0,4),(0,5),(0,5),(0,5),(0,5),(1,29),(1,29),(1,29),(1,47),(1,47),(1,481)]),(311078238,mM_D78),(311078238,mM_D79),(311078240,mM_D78),(311078240,mM_D79),(167772497,[]),(167772497,[]),(167772526,[]),(167772498,[]),(167772498,[]),(167772500,[]),(167772528,[]),(167772530,[]),(335544994,[]),(335544994,[]),(335544996,[]),(167772531,[(1,546)]),(335545028,[(1,546)]),(335545028,[(1,546)]),(335545030,[(1,546)]),(335545030,[(1,546)]),(377488148,[(1,546)]),(377488148,[(1,546)]),(377488150,[(1,546)]),(377488152,[(1,546)]),(377488154,[(1,546)]),(377488155,mM_D80),(419431273,mM_D80),(419431273,mM_D80),(419431275,mM_D80),(419431275,mM_D80),(429917054,mM_D81),(429917054,mM_D82),(167772498,[]),(167772500,[]),(167772528,[]),(167772530,[]),(167772531,[(1,546)]),(335545028,[(1,546)]),(335545028,[(1,546)]),(335545030,[(1,546)]),(335545030,[(1,546)]),(377488148,[(1,546)]),(377488148,[(1,546)]),(377488150,[(1,546)]),(377488152,[(1,546)]),(377488154,[(1,546)]),(377488155,mM_D80),(419431273,mM_D80),(419431273,mM_D80),(419431275,mM_D80),(419431275,mM_D80),(429917054,mM_D81),(429917054,mM_D82),(167772498,[]),(167772500,[]),(167772528,[]),(167772530,[]),(167772531,[(1,546)]),(335545028,[(1,546)]),(335545028,[(1,546)]),(335545030,[(1,546)]),(335545030,[(1,546)]),(377488148,[(1,546)]),(377488148,[(1,546)]),(377488150,[(1,546)]),(377488152,[(1,546)]),(377488154,[(1,546)]),(377488155,mM_D80),(419431273,mM_D80),(419431273,mM_D80),(419431275,mM_D80),(419431275,mM_D80),(429917054,mM_D81),(429917054,mM_D82),(41943119,[]),(41943119,[]),(41943121,[]),(41943130,[]),(41943132,[]),(41943133,[(1,308)]),(83886251,[(1,308)]),(83886251,[(1,308)]),(83886253,[(1,308)]),(83886253,[(1,308)]),(94372032,mM_D83),(94372032,mM_D84),(41943119,[]),(41943121,[]),(41943130,[]),(41943132,[]),(41943133,[(1,308)]),(83886251,[(1,308)]),(83886251,[(1,308)]),(83886253,[(1,308)]),(83886253,[(1,308)]),(94372032,mM_D83),(94372032,mM_D84),(41943119,[]),(41943121,[]),(41943130,[]),(41943132,[]),(41943133,[(1,308)]),(83886251,[(1,308)]),(83886251,[(1,308)]),(83886253,[(1,308)]),(83886253,[(1,308)]),(94372032,mM_D83),(94372032,mM_D84),(10485784,mM_D4),(10485784,mM_D5),(10485785,mM_D6),(10485785,mM_D7),(10485787,mM_D6),(10485787,mM_D7),(20971571,mM_D8),(20971571,mM_D9),(41943127,mM_D10),(41943127,mM_D10),(10485785,mM_D4),(10485785,mM_D5),(20971564,mM_D11),(41943129,mM_D10),(41943129,mM_D10),(52428913,mM_D12),(52428913,mM_D13),(20971568,mM_D14),(20971568,mM_D15),(41943124,mM_D16),(52428914,mM_D85),(52428914,mM_D86),(52428916,mM_D85),(52428916,mM_D86),(52428918,mM_D85),(52428918,mM_D86),(10485785,mM_D4),(20971564,mM_D11),(41943129,mM_D10),(41943129,mM_D10),(52428913,mM_D12),(52428913,mM_D13),(52428914,mM_D85),(52428914,mM_D86),(52428916,mM_D85),(52428916,mM_D86),(52428918,mM_D85),(52428918,mM_D86),(52428920,mM_D85),(52428920,mM_D86),(10485785,mM_D5),(20971564,mM_D11),(41943129,mM_D10),(41943129,mM_D10),(52428913,mM_D12),(52428913,mM_D13),(52428914,mM_D85),(52428914,mM_D86),(52428916,mM_D85),(52428916,mM_D86),(52428918,mM_D85),(52428918,mM_D86),(52428920,mM_D85),(52428920,mM_D86),(55924179,[(0,0),(0,0),(0,1),(0,2),(1,29),(1,659)]),(55924179,[(0,0),(0,3),(0,4),(0,5),(1,29),(1,659)]),(55924179,[(0,0),(0,1),(0,2),(0,3),(1,29),(1,659)]),(55924179,[(0,3),(0,3),(0,4),(0,5),(1,29),(1,659)]),(59419440,mM_D87),(59419440,mM_D88),(55924179,[(0,0),(0,1),(0,1),(0,2),(1,29),(1,659)]),(55924179,[(0,1),(0,3),(0,4),(0,5),(1,29),(1,659)]),(55924179,[(0,0),(0,1),(0,2),(0,4),(1,29),(1,659)]),(55924179,[(0,3),(0,4),(0,4),(0,5),(1,29),(1,659)]),(59419440,mM_D89),(59419440,mM_D90),(55924179,[(0,0),(0,1),(0,2),(0,2),(1,29),(1,659)]),(55924179,[(0,2),(0,3),(0,4),(0,5),(1,29),(1,659)]),(55924179,[(0,0),(0,1),(0,2),(0,5),(1,29),(1,659)]),(55924179,[(0,3),(0,4),(0,5),(0,5),(1,29),(1,659)]),(59419440,mM_D91),(59419440,mM_D92),(59419442,mM_D91),(59419442,mM_D92),(59419441,mM_D87),(59419441,mM_D88),(59419441,mM_D89),(59419441,mM_D90),(66409961,[(0,0),(0,0),(0,1),(0,1),(0,2),(0,3),(0,4),(1,29),(1,659)]),(66409961,[(0,0),(0,1),(0,3),(0,3),(0,4),(0,4),(0,5),(1,29),(1,659)]),(73400481,mM_D93),(73400481,mM_D94),(73400483,mM_D93),(73400483,mM_D94),(73400484,mM_D95),(73400484,mM_D96),(73400486,mM_D95),(73400486,mM_D96),(146800969,[(0,0),(0,0),(0,0),(0,0),(0,1),(0,1),(0,1),(0,1),(0,2),(0,2),(0,2),(0,2),(0,3),(0,3),(0,4),(0,4),(0,5),(0,5),(1,29),(1,29),(1,29),(1,659),(1,659)]),(146800969,[(0,0),(0,0),(0,1),(0,1),(0,2),(0,2),(0,3),(0,3),(0,3),(0,3),(0,4),(0,4),(0,4),(0,4),(0,5),(0,5),(0,5),(0,5),(1,29),(1,29),(1,29),(1,659),(1,659)]),(167772525,mM_D97),(167772525,mM_D97),(73400484,mM_D93),(73400484,mM_D94),(83886263,mM_D98),(167772527,mM_D97),(167772527,mM_D97),(241173010,mM_D99),(241173010,mM_D100),(146800966,[(0,0),(0,0),(0,0),(0,0),(0,1),(0,1),(0,1),(0,1),(0,2),(0,2),(0,2),(0,2),(0,3),(0,3),(0,4),(0,4),(0,5),(0,5),(1,29),(1,29),(1,659),(1,659)]),(146800966,[(0,0),(0,0),(0,1),(0,1),(0,2),(0,2),(0,3),(0,3),(0,3),(0,3),(0,4),(0,4),(0,4),(0,4),(0,5),(0,5),(0,5),(0,5),(1,29),(1,29),(1,659),(1,659)]),(167772522,[(0,0),(0,0),(0,0),(0,0),(0,1),(0,1),(0,1),(0,1),(0,2),(0,2),(0,2),(0,2),(0,3),(0,3),(0,3),(0,3),(0,4),(0,4),(0,4),(0,4),(0,5),(0,5),(0,5),(0,5),(1,29),(1,29),(1,659),(1,659)]),(241173011,mM_D101),(241173011,mM_D102),(241173013,mM_D101),(241173013,mM_D102),(241173015,mM_D101),(241173015,mM_D102),(73400484,mM_D93),(83886263,mM_D98),(167772527,mM_D97),(167772527,mM_D97),(241173010,mM_D99),(241173010,mM_D100),(241173011,mM_D101),(241173011,mM_D102),(241173013,mM_D101),(241173013,mM_D102),(241173015,mM_D101),(241173015,mM_D102),(241173017,mM_D101),(241173017,mM_D102),(73400484,mM_D94),(83886263,mM_D98),(167772527,mM_D97),(167772527,mM_D97),(241173010,mM_D99),(241173010,mM_D100),(241173011,mM_D101),(241173011,mM_D102),(241173013,mM_D101),(241173013,mM_D102),(241173015,mM_D101),(241173015,mM_D102),(241173017,mM_D101),(241173017,mM_D102),(300592457,[(0,0),(0,0),(0,0),(0,0),(0,1),(0,1),(0,1),(0,2),(0,2),(0,2),(0,3),(0,3),(0,4),(0,5),(1,29),(1,29),(1,29),(1,659),(1,659),(1,741)]),(300592457,mM_D103),(300592457,mM_D103),(300592457,[(0,0),(0,0),(0,1),(0,2),(0,3),(0,3),(0,3),(0,3),(0,4),(0,4),(0,4),(0,5),(0,5),(0,5),(1,29),(1,29),(1,29),(1,659),(1,659),(1,741)]),(311078236,[(0,0),(0,0),(0,0),(0,0),(0,1),(0,1),(0,1),(0,2),(0,2),(0,2),(0,3),(0,3),(0,3),(0,4),(0,4),(0,5),(0,5),(1,29),(1,29),(1,29),(1,659),(1,659),(1,741)]),(311078236,[(0,0),(0,0),(0,0),(0,1),(0,1),(0,2),(0,2),(0,3),(0,3),(0,3),(0,3),(0,4),(0,4),(0,4),(0,5),(0,5),(0,5),(1,29),(1,29),(1,29),(1,659),(1,659),(1,741)]),(300592457,[(0,0),(0,0),(0,0),(0,1),(0,1),(0,1),(0,1),(0,2),(0,2),(0,2),(0,3),(0,4),(0,4),(0,5),(1,29),(1,29),(1,29),(1,659),(1,659),(1,741)]),(300592457,mM_D104),(300592457,mM_D104),(300592457,[(0,0),(0,1),(0,1),(0,2),(0,3),(0,3),(0,3),(0,4),(0,4),(0,4),(0,4),(0,5),(0,5),(0,5),(1,29),(1,29),(1,29),(1,659),(1,659),(1,741)]),(311078236,[(0,0),(0,0),(0,0),(0,1),(0,1),(0,1),(0,1),(0,2),(0,2),(0,2),(0,3),(0,3),(0,4),(0,4),(0,4),(0,5),(0,5),(1,29),(1,29),(1,29),(1,659),(1,659),(1,741)]),(311078236,[(0,0),(0,0),(0,1),(0,1),(0,1),(0,2),(0,2),(0,3),(0,3),(0,3),(0,4),(0,4),(0,4),(0,4),(0,5),(0,5),(0,5),(1,29),(1,29),(1,29),(1,659),(1,659),(1,741)]),(300592459,[(0,0),(0,0),(0,0),(0,1),(0,1),(0,1),(0,2),(0,2),(0,2),(0,2),(0,3),(0,4),(0,5),(0,5),(1,29),(1,29),(1,29),(1,659),(1,659),(1,741)]),(300592459,mM_D105),(300592459,mM_D105),(300592459,[(0,0),(0,1),(0,2),(0,2),(0,3),(0,3),(0,3),(0,4),(0,4),(0,4),(0,5),(0,5),(0,5),(0,5),(1,29),(1,29),(1,29),(1,659),(1,659),(1,741)]),(311078238,mM_D106),(311078238,mM_D107),(311078240,mM_D106),(311078240,mM_D107),(167772497,[]),(167772497,[]),(167772526,[]),(41943118,[]),(41943118,[]),(41943128,[]),(167772498,[]),(167772498,[]),(167772500,[]),(167772528,[]),(167772530,[]),(335544994,[]),(335544994,[]),(335544996,[]),(167772531,[(1,809)]),(335545028,[(1,809)]),(335545028,[(1,809)]),(335545030,[(1,809)]),(335545030,[(1,809)]),(377488148,[(1,809)]),(377488148,[(1,809)]),(377488150,[(1,809)]),(377488152,[(1,809)]),(377488154,[(1,809)]),(83886236,[]),(83886236,[]),(83886238,[]),(377488155,mM_D108),(419431273,mM_D108),(419431273,mM_D108),(419431275,mM_D108),(419431275,mM_D108),(429917054,mM_D109),(429917054,mM_D110),(167772498,[]),(167772500,[]),(167772528,[]),(167772530,[]),(167772531,[(1,809)]),(335545028,[(1,809)]),(335545028,[(1,809)]),(335545030,[(1,809)]),(335545030,[(1,809)]),(377488148,[(1,809)]),(377488148,[(1,809)]),(377488150,[(1,809)]),(377488152,[(1,809)]),(377488154,[(1,809)]),(377488155,mM_D108),(419431273,mM_D108),(419431273,mM_D108),(419431275,mM_D108),(419431275,mM_D108),(429917054,mM_D109),(429917054,mM_D110),(167772498,[]),(167772500,[]),(167772528,[]),(167772530,[]),(167772531,[(1,809)]),(335545028,[(1,809)]),(335545028,[(1,809)]),(335545030,[(1,809)]),(335545030,[(1,809)]),(377488148,[(1,809)]),(377488148,[(1,809)]),(377488150,[(1,809)]),(377488152,[(1,809)]),(377488154,[(1,809)]),(377488155,mM_D108),(419431273,mM_D108),(419431273,mM_D108),(419431275,mM_D108),(419431275,mM_D108),(429917054,mM_D109),(429917054,mM_D110),(41943119,[]),(41943119,[]),(41943121,[]),(41943130,[]),(41943132,[]),(41943133,[(1,822)]),(83886251,[(1,822)]),(83886251,[(1,822)]),(83886253,[(1,822)]),(83886253,[(1,822)]),(94372032,mM_D111),(94372032,mM_D112),(41943119,[]),(41943121,[]),(41943130,[]),(41943132,[]),(41943133,[(1,822)]),(83886251,[(1,822)]),(83886251,[(1,822)]),(83886253,[(1,822)]),(83886253,[(1,822)]),(94372032,mM_D111),(94372032,mM_D112),(41943119,[]),(41943121,[]),(41943130,[]),(41943132,[]),(41943133,[(1,822)]),(83886251,[(1,822)]),(83886251,[(1,822)]),(83886253,[(1,822)]),(83886253,[(1,822)]),(94372032,mM_D111),(94372032,mM_D112),(10485784,mM_D4),(10485784,mM_D5),(10485785,mM_D6),(10485785,mM_D7),(10485787,mM_D6),(10485787,mM_D7),(20971571,mM_D8),(20971571,mM_D9),(41943127,mM_D10),(41943127,mM_D10),(10485785,mM_D4),(10485785,mM_D5),(20971564,mM_D11),(41943129,mM_D10),(41943129,mM_D10),(52428913,mM_D12),(52428913,mM_D13),(20971568,mM_D14),(20971568,mM_D15),(41943124,mM_D16),(52428914,mM_D113),(52428914,mM_D114),(52428916,mM_D113),(52428916,mM_D114),(52428918,mM_D113),(52428918,mM_D114),(10485785,mM_D4),(20971564,mM_D11),(41943129,mM_D10),(41943129,mM_D10),(52428913,mM_D12),(52428913,mM_D13),(52428914,mM_D113),(52428914,mM_D114),(52428916,mM_D113),(52428916,mM_D114),(52428918,mM_D113),(52428918,mM_D114),(52428920,mM_D113),(52428920,mM_D114),(10485785,mM_D5),(20971564,mM_D11),(41943129,mM_D10),(41943129,mM_D10),(52428913,mM_D12),(52428913,mM_D13),(52428914,mM_D113),(52428914,mM_D114),(52428916,mM_D113),(52428916,mM_D114),(52428918,mM_D113),(52428918,mM_D114),(52428920,mM_D113),(52428920,mM_D114),(55924179,[(0,0),(0,0),(0,1),(0,2),(1,29),(1,925)]),(55924179,[(0,0),(0,3),(0,4),(0,5),(1,29),(1,925)]),(55924179,[(0,0),(0,1),(0,2),(0,3),(1,29),(1,925)]),(55924179,[(0,3),(0,3),(0,4),(0,5),(1,29),(1,925)]),(59419440,[(0,0),(0,0),(0,1),(0,2),(0,3),(1,29),(1,925)]),(59419440,[(0,0),(0,3),(0,3),(0,4),(0,5),(1,29),(1,925)]),(55924179,[(0,0),(0,1),(0,1),(0,2),(1,29),(1,925)]),(55924179,[(0,1),(0,3),(0,4),(0,5),(1,29),(1,925)]),(55924179,[(0,0),(0,1),(0,2),(0,4),(1,29),(1,925)]),(55924179,[(0,3),(0,4),(0,4),(0,5),(1,29),(1,925)]),(59419440,[(0,0),(0,1),(0,1),(0,2),(0,4),(1,29),(1,925)]),(59419440,[(0,1),(0,3),(0,4),(0,4),(0,5),(1,29),(1,925)]),(55924179,[(0,0),(0,1),(0,2),(0,2),(1,29),(1,925)]),(55924179,[(0,2),(0,3),(0,4),(0,5),(1,29),(1,925)]),(55924179,[(0,0),(0,1),(0,2),(0,5),(1,29),(1,925)]),(55924179,[(0,3),(0,4),(0,5),(0,5),(1,29),(1,925)]),(59419440,mM_D115),(59419440,mM_D116),(59419442,mM_D115),(59419442,mM_D116),(41943118,[]),(41943118,[]),(41943128,[]),(41943119,[]),(41943119,[]),(41943121,[]),(41943130,[]),(41943132,[]),(83886236,[]),(83886236,[]),(83886238,[]),(41943133,[(1,990)]),(83886251,[(1,990)]),(83886251,[(1,990)]),(83886253,[(1,990)]),(83886253,[(1,990)]),(94372032,mM_D117),(94372032,mM_D118),(41943119,[]),(41943121,[]),(41943130,[]),(41943132,[]),(41943133,[(1,990)]),(83886251,[(1,990)]),(83886251,[(1,990)]),(83886253,[(1,990)]),(83886253,[(1,990)]),(94372032,mM_D117),(94372032,mM_D118),(41943119,[]),(41943121,[]),(41943130,[]),(41943132,[]),(41943133,[(1,990)]),(83886251,[(1,990)]),(83886251,[(1,990)]),(83886253,[(1,990)]),(83886253,[(1,990)]),(94372032,mM_D117),(94372032,mM_D118),(10485784,mM_D4),(10485784,mM_D5),(10485784,mM_D4),(10485784,mM_D5),(10485784,mM_D4),(10485784,mM_D5)]
abbrev mM_Q (q : Nat→Rat) (σ : Nat→ByteArray) : Prop := ∀ (a : Nat) nd,mM_N[a]? = some nd→q a=valN σ q nd
variable {q : Nat→Rat} {σ : Nat→ByteArray}
theorem mM_wf : wfB 0 mM_N=true := by kernel_rfl
theorem mM_sz : saB mM_E 0 mM_N mM_E mM_Z=true := by kernel_rfl
theorem mM_lt : litB mM_N mM_L=true := by kernel_rfl
theorem mM_cn : canB mM_N mM_C=true := by kernel_rfl
theorem mM_c9 : cst 0 1 1=(1 : Rat) := by decide +kernel
theorem mM_c18 : cst 0 0 1=(0 : Rat) := by decide +kernel
theorem mM_c29 : cst 0 2 1=(2 : Rat) := by decide +kernel
def mM_A : List AV := [(false,[(true,[.inr (2,0,0,0,0),.inr (2,1,0,0,0),.inr (2,2,0,0,0),.inr (2,3,0,0,0),.inr (2,4,0,0,0),.inr (2,5,0,0,0)])])]
theorem mr_q {a n i : Rat} (hn : n ≠ 0) (hi : i*n=2) : a / n*2=a*i := by
 have h : a*i=a / n*(i*n) := by
  have e : a / n*n=a := Rat.div_mul_cancel hn
  have e2 : (a / n*n)*i=a / n*(i*n) := by rw [Rat.mul_assoc,Rat.mul_comm n i]
  rw [← e2,e]
 rw [h,hi]
def MIso (a b d e : Rat) : Prop := a*a+d*d=1∧b*b+e*e=1∧a*b+d*e=0
theorem mm_orth {A B i : Rat} (hi : i*(A*A+B*B)=2) : (1 - A*A*i)*(1 - A*A*i)+A*B*i*(A*B*i)=1∧A*B*i*(A*B*i)+(1 - B*B*i)*(1 - B*B*i)=1∧(1 - A*A*i)*(A*B*i)+A*B*i*(1 - B*B*i)=0 := by
 refine ⟨?_,?_,?_⟩ <;> grind
theorem mm_iso {a b d e A B i a' b' d' e' : Rat} (h : MIso a b d e) (hi : i*(A*A+B*B)=2) (ha : a'=(1 - A*A*i)*a+-(A*B*i)*d) (hd : d'=-(A*B*i)*a+(1 - B*B*i)*d) (hb : b'=(1 - A*A*i)*b+-(A*B*i)*e) (he : e'=-(A*B*i)*b+(1 - B*B*i)*e) : MIso a' b' d' e' := by
 obtain ⟨o1,o2,o3⟩ := mm_orth hi
 obtain ⟨h1,h2,h3⟩ := h
 clear hi
 generalize 1 - A*A*i=m at *
 generalize 1 - B*B*i=n at *
 generalize A*B*i=k at *
 subst ha hd hb he
 refine ⟨?_,?_,?_⟩
 ·have q : (m*a+-k*d)*(m*a+-k*d)+(-k*a+n*d)*(-k*a+n*d)=(m*m+k*k)*(a*a)+(k*k+n*n)*(d*d) - 2*(m*k+k*n)*(a*d) := by clear o1 o2 o3 h1 h2 h3; grind
  rw [q,o1,o2,o3]; clear q o1 o2 o3; grind
 ·have q : (m*b+-k*e)*(m*b+-k*e)+(-k*b+n*e)*(-k*b+n*e)=(m*m+k*k)*(b*b)+(k*k+n*n)*(e*e) - 2*(m*k+k*n)*(b*e) := by clear o1 o2 o3 h1 h2 h3; grind
  rw [q,o1,o2,o3]; clear q o1 o2 o3; grind
 ·have q : (m*a+-k*d)*(m*b+-k*e)+(-k*a+n*d)*(-k*b+n*e)=(m*m+k*k)*(a*b)+(k*k+n*n)*(d*e) - (m*k+k*n)*(a*e+d*b) := by clear o1 o2 o3 h1 h2 h3; grind
  rw [q,o1,o2,o3]; clear q o1 o2 o3; grind
theorem mm_map {A B C i a b c d e f a' b' c' d' e' f' x y : Rat} (ha : a'=(1 - A*A*i)*a+-(A*B*i)*d) (hd : d'=-(A*B*i)*a+(1 - B*B*i)*d) (hb : b'=(1 - A*A*i)*b+-(A*B*i)*e) (he : e'=-(A*B*i)*b+(1 - B*B*i)*e) (hc : c'=(1 - A*A*i)*c+-(A*B*i)*f+-(A*C*i)) (hf : f'=-(A*B*i)*c+(1 - B*B*i)*f+-(B*C*i)) : a'*x+b'*y+c'=(a*x+b*y+c) - A*i*(A*(a*x+b*y+c)+B*(d*x+e*y+f)+C)∧d'*x+e'*y+f'=(d*x+e*y+f) - B*i*(A*(a*x+b*y+c)+B*(d*x+e*y+f)+C) := by
 subst ha hd hb he hc hf
 constructor <;> grind
theorem mm_inv {A B C i x y X Y : Rat} (hi : i*(A*A+B*B)=2) (hX : X=x - A*i*(A*x+B*y+C)) (hY : Y=y - B*i*(A*x+B*y+C)) : X - A*i*(A*X+B*Y+C)=x∧Y - B*i*(A*X+B*Y+C)=y := by
 have h : A*X+B*Y+C=-(A*x+B*y+C) := by
  have q : A*X+B*Y+C=(A*x+B*y+C)*(1 - i*(A*A+B*B)) := by rw [hX,hY]; clear hi hX hY; grind
  rw [q,hi]; clear q hi hX hY; grind
 rw [h,hX,hY]; clear h hX hY hi
 constructor <;> grind
theorem mm_half {A B C i p r X Z : Rat} (hi : i*(A*A+B*B)=2) (hA : A=X - p) (hB : B=Z - r) (hC : C=-(A*(p+A / 2)+B*(r+B / 2))) : (p - A*i*(A*p+B*r+C)=X∧r - B*i*(A*p+B*r+C)=Z)∧(X - A*i*(A*X+B*Z+C)=p∧Z - B*i*(A*X+B*Z+C)=r) := by
 have k : A*p+B*r+C=-((A*A+B*B) / 2) := by rw [hC]; clear hi hA hB hC; grind
 have k2 : A*X+B*Z+C=(A*A+B*B) / 2 := by
  have e1 : X=p+A := by rw [hA]; grind
  have e2 : Z=r+B := by rw [hB]; grind
  rw [hC,e1,e2]; clear hi hA hB hC k e1 e2; grind
 rw [k,k2]
 have e1 : X=p+A := by rw [hA]; grind
 have e2 : Z=r+B := by rw [hB]; grind
 clear hA hB hC k k2
 have q1 : A*i*-((A*A+B*B) / 2)=-(A*(i*(A*A+B*B)) / 2) := by clear hi e1 e2; grind
 have q2 : B*i*-((A*A+B*B) / 2)=-(B*(i*(A*A+B*B)) / 2) := by clear hi e1 e2 q1; grind
 have q3 : A*i*((A*A+B*B) / 2)=A*(i*(A*A+B*B)) / 2 := by clear hi e1 e2 q1 q2; grind
 have q4 : B*i*((A*A+B*B) / 2)=B*(i*(A*A+B*B)) / 2 := by clear hi e1 e2 q1 q2 q3; grind
 rw [q1,q2,q3,q4,hi,e1,e2]; clear hi q1 q2 q3 q4 e1 e2
 refine ⟨⟨?_,?_⟩,?_,?_⟩ <;> grind
theorem mm_on {A B C a b c d e f p r x y : Rat} (h : MIso a b d e) (hA : A=a*p+b*r+c - p) (hB : B=d*p+e*r+f - r) (hC : C=-(A*(p+A / 2)+B*(r+B / 2))) (hx : a*x+b*y+c=x) (hy : d*x+e*y+f=y) : A*x+B*y+C=0 := by
 obtain ⟨h1,h2,h3⟩ := h
 have k1 : (p - x)+A=a*(p - x)+b*(r - y) := by rw [hA]; clear h1 h2 h3 hC hB; grind
 have k2 : (r - y)+B=d*(p - x)+e*(r - y) := by rw [hB]; clear h1 h2 h3 hC hA k1; grind
 have k3 : ((p - x)+A)*((p - x)+A)+((r - y)+B)*((r - y)+B)=(p - x)*(p - x)+(r - y)*(r - y) := by
  rw [k1,k2]; clear k1 k2 hA hB hC hx hy
  have q : (a*(p - x)+b*(r - y))*(a*(p - x)+b*(r - y))+(d*(p - x)+e*(r - y))*(d*(p - x)+e*(r - y))=(a*a+d*d)*((p - x)*(p - x))+(b*b+e*e)*((r - y)*(r - y))+2*(a*b+d*e)*((p - x)*(r - y)) := by clear h1 h2 h3; grind
  rw [q,h1,h2,h3]; clear q h1 h2 h3; grind
 have k4 : A*x+B*y+C=-((((p - x)+A)*((p - x)+A)+((r - y)+B)*((r - y)+B)) - ((p - x)*(p - x)+(r - y)*(r - y))) / 2 := by
  rw [hC]; clear k1 k2 k3 hA hB hC hx hy h1 h2 h3; grind
 rw [k4,k3]; clear k1 k2 k3 k4 hA hB hC hx hy h1 h2 h3; grind
theorem mm_stay {A B C i x y : Rat} (h : A*x+B*y+C=0) : x - A*i*(A*x+B*y+C)=x∧y - B*i*(A*x+B*y+C)=y := by
 rw [h]; constructor <;> grind
theorem mm_pl {A B C g i x y A' B' C' m1 m2 m3 at_ t k1 k2 n q r1 r2 X Y two : Rat} (hg : g ≠ 0) (hi : i*(A*A+B*B)=2) (hA : A'=A*g) (hB : B'=B*g) (hC : C'=C*g) (e1 : m1=A'*x) (e2 : m2=B'*y) (e3 : m3=m1+m2) (e4 : at_=m3+C') (e0 : two=2) (e5 : t=two*at_) (e6 : k1=A'*A') (e7 : k2=B'*B') (e8 : n=k1+k2) (e9 : q=t / n) (e10 : r1=A'*q) (e11 : r2=B'*q) (e12 : X=x - r1) (e13 : Y=y - r2) : X=x - A*i*(A*x+B*y+C)∧Y=y - B*i*(A*x+B*y+C) := by
 have hn : n=g*g*(A*A+B*B) := by rw [e8,e6,e7,hA,hB]; clear hi; grind
 have hs : A*A+B*B ≠ 0 := by intro h; rw [h] at hi; exact absurd hi (by rw [Rat.mul_zero]; decide)
 have hn0 : n ≠ 0 := by rw [hn]; exact mul_ne (mul_ne hg hg) hs
 have hq : q*n=2*(g*(A*x+B*y+C)) := by
  rw [e9,Rat.div_mul_cancel hn0,e5,e0,e4,e3,e1,e2,hA,hB,hC]; clear hi hn hs hn0 hg; grind
 have hq2 : g*q=i*(A*x+B*y+C) := by
  have z : (g*q - i*(A*x+B*y+C))*(A*A+B*B)*g=0 := by
   have w : (g*q - i*(A*x+B*y+C))*(A*A+B*B)*g=q*(g*g*(A*A+B*B)) - (i*(A*A+B*B))*(g*(A*x+B*y+C)) := by clear hi hn hs hn0 hg hq; grind
   rw [w,← hn,hq,hi]; clear w hq hi hn hs hn0 hg; grind
  have z2 := (Rat.mul_eq_zero.1 ((Rat.mul_eq_zero.1 z).resolve_right hg)).resolve_right hs
  clear z hq hi hn hs hn0 hg; grind
 have ea : r1=A*i*(A*x+B*y+C) := by
  have w : r1=A*(g*q) := by rw [e10,hA]; clear hi hn hs hn0 hg hq hq2; grind
  rw [w,hq2]; clear hi hn hs hn0 hg hq hq2 w; grind
 have eb : r2=B*i*(A*x+B*y+C) := by
  have w : r2=B*(g*q) := by rw [e11,hB]; clear hi hn hs hn0 hg hq hq2 ea; grind
  rw [w,hq2]; clear hi hn hs hn0 hg hq hq2 w ea; grind
 rw [e12,e13,ea,eb]; exact ⟨rfl,rfl⟩
theorem mm_sub {x y a b c d : Rat} (hx : x=a - c) (hy : y=b - d) (h1 : a=c) (h2 : b=d) : x=0∧y=0 := by
 rw [hx,hy,h1,h2]; constructor <;> grind
theorem mm_i {A B : Rat} (h : ¬ (A=0∧B=0)) : ∃ i,i*(A*A+B*B)=2 := by
 have hp := sq_pos h
 have hn : A*A+B*B ≠ 0 := by intro q; rw [q] at hp; exact absurd hp (by decide)
 exact ⟨2 / (A*A+B*B),Rat.div_mul_cancel hn⟩
theorem mm_b0 {a b d e : Rat} (h : MIso a b d e) (ha : a=1) (hd : d=0) : b=0 := by
 obtain ⟨_,_,h3⟩ := h
 rw [ha,hd] at h3; grind
theorem mm_a1 {a b d e A B : Rat} (h : MIso a b d e) (hA : A=a - 1) (hB : B=d) (hn : ¬ (A=0∧B=0)) : A ≠ 0 := by
 obtain ⟨h1,_,_⟩ := h
 intro q
 refine hn ⟨q,?_⟩
 have ha : a=1 := by rw [q] at hA; clear h1; grind
 rw [ha] at h1
 have h2 : d*d=0 := by clear hA hB hn ha; grind
 rw [hB]; exact (Rat.mul_eq_zero.1 h2).elim id id
theorem mm_ng {A B C : Rat} (u : ¬ (A=0∧B=0)) : fac [A,B,C] ≠ 0 := fun h => u ⟨fac_zero (by simp) h,fac_zero (by simp) h⟩
theorem mm_eq {a b : Rat} (h : a - b=0) : a=b := by grind
def MTo (A B C a b c d e f a' b' c' d' e' f' : Rat) : Prop := ∃ i,i*(A*A+B*B)=2∧a'=(1 - A*A*i)*a+-(A*B*i)*d∧d'=-(A*B*i)*a+(1 - B*B*i)*d∧b'=(1 - A*A*i)*b+-(A*B*i)*e∧e'=-(A*B*i)*b+(1 - B*B*i)*e∧c'=(1 - A*A*i)*c+-(A*B*i)*f+-(A*C*i)∧f'=-(A*B*i)*c+(1 - B*B*i)*f+-(B*C*i)
theorem mm_rs {a b c d e f a' b' c' d' e' f' v w A B C x y A' B' C' m1 m2 m3 at_ t k1 k2 n q r1 r2 X Y two : Rat} (hg : fac [A,B,C] ≠ 0) (o : MTo A B C a b c d e f a' b' c' d' e' f') (hA : A'=A*fac [A,B,C]) (hB : B'=B*fac [A,B,C]) (hC : C'=C*fac [A,B,C]) (e1 : m1=A'*x) (e2 : m2=B'*y) (e3 : m3=m1+m2) (e4 : at_=m3+C') (e0 : two=2) (e5 : t=two*at_) (e6 : k1=A'*A') (e7 : k2=B'*B') (e8 : n=k1+k2) (e9 : q=t / n) (e10 : r1=A'*q) (e11 : r2=B'*q) (e12 : X=x - r1) (e13 : Y=y - r2) (hx : x=a'*v+b'*w+c'∧y=d'*v+e'*w+f') : X=a*v+b*w+c∧Y=d*v+e*w+f := by
 obtain ⟨i,hi,s0,s1,s2,s3,s4,s5⟩ := o
 have p := mm_pl hg hi hA hB hC e1 e2 e3 e4 e0 e5 e6 e7 e8 e9 e10 e11 e12 e13
 have mp := mm_map (x := v) (y := w) s0 s1 s2 s3 s4 s5
 have iv := mm_inv hi (hx.1.trans mp.1) (hx.2.trans mp.2)
 exact ⟨p.1.trans iv.1,p.2.trans iv.2⟩
theorem mm_rp {v w V W A B C A' B' C' m1 m2 m3 at_ t k1 k2 n q r1 r2 X Y two : Rat} (u : ¬ (A=0∧B=0)) (jA : A=V - v) (jB : B=W - w) (jC : C=-(A*(v+A / 2)+B*(w+B / 2))) (hA : A'=A*fac [A,B,C]) (hB : B'=B*fac [A,B,C]) (hC : C'=C*fac [A,B,C]) (e1 : m1=A'*v) (e2 : m2=B'*w) (e3 : m3=m1+m2) (e4 : at_=m3+C') (e0 : two=2) (e5 : t=two*at_) (e6 : k1=A'*A') (e7 : k2=B'*B') (e8 : n=k1+k2) (e9 : q=t / n) (e10 : r1=A'*q) (e11 : r2=B'*q) (e12 : X=v - r1) (e13 : Y=w - r2) : X=V∧Y=W := by
 obtain ⟨i,hi⟩ := mm_i u
 have p := mm_pl (mm_ng u) hi hA hB hC e1 e2 e3 e4 e0 e5 e6 e7 e8 e9 e10 e11 e12 e13
 have ⟨⟨j1,j2⟩,_⟩ := mm_half hi jA jB jC
 exact ⟨p.1.trans j1,p.2.trans j2⟩
theorem mm_rq {a b c d e f v w p r A B C A' B' C' m1 m2 m3 at_ t k1 k2 n q r1 r2 X Y two : Rat} (u : ¬ (A=0∧B=0)) (h : MIso a b d e) (jA : A=a*p+b*r+c - p) (jB : B=d*p+e*r+f - r) (jC : C=-(A*(p+A / 2)+B*(r+B / 2))) (hA : A'=A*fac [A,B,C]) (hB : B'=B*fac [A,B,C]) (hC : C'=C*fac [A,B,C]) (e1 : m1=A'*v) (e2 : m2=B'*w) (e3 : m3=m1+m2) (e4 : at_=m3+C') (e0 : two=2) (e5 : t=two*at_) (e6 : k1=A'*A') (e7 : k2=B'*B') (e8 : n=k1+k2) (e9 : q=t / n) (e10 : r1=A'*q) (e11 : r2=B'*q) (e12 : X=v - r1) (e13 : Y=w - r2) (g0 : a*v+b*w+c=v) (g1 : d*v+e*w+f=w) : X=a*v+b*w+c∧Y=d*v+e*w+f := by
 obtain ⟨i,hi⟩ := mm_i u
 have P := mm_pl (mm_ng u) hi hA hB hC e1 e2 e3 e4 e0 e5 e6 e7 e8 e9 e10 e11 e12 e13
 have on := mm_on h jA jB jC g0 g1
 exact ⟨P.1.trans ((mm_stay on).1.trans g0.symm),P.2.trans ((mm_stay on).2.trans g1.symm)⟩
theorem mm_sw {x y a b c d s t : Rat} (hx : x=a - c) (hy : y=b - d) (hs : s=c - a) (ht : t=d - b) (h : s=0∧t=0) : x=0∧y=0 := by
 obtain ⟨h1,h2⟩ := h
 subst_vars; constructor <;> grind
theorem mM_W10 (H : mM_Q q σ) : (q 10=0)→(q 8=q 9) := by
 have e10:q 10=q 8-q 9:=H 10 _ rfl
 clear H
 intro h
 rw [e10] at h
 exact mm_eq h
theorem mM_W14 (H : mM_Q q σ) : (q 14=0)→(q 13=q 9) := by
 have e14:q 14=q 13-q 9:=H 14 _ rfl
 clear H
 intro h
 rw [e14] at h
 exact mm_eq h
theorem mM_I (H : mM_Q q σ) : (q 10=0)→(q 14=0)→(q 17=0)→(MIso (q 0) (q 2) (q 1) (q 3)) := by
 have e6:q 6=q 0*q 0:=H 6 _ rfl;have e7:q 7=q 1*q 1:=H 7 _ rfl;have e8:q 8=q 6+q 7:=H 8 _ rfl;have e9:q 9=1:=(H 9 _ rfl).trans mM_c9;have e10:q 10=q 8-q 9:=H 10 _ rfl;have e11:q 11=q 2*q 2:=H 11 _ rfl;have e12:q 12=q 3*q 3:=H 12 _ rfl;have e13:q 13=q 11+q 12:=H 13 _ rfl;have e14:q 14=q 13-q 9:=H 14 _ rfl;have e15:q 15=q 0*q 2:=H 15 _ rfl;have e16:q 16=q 1*q 3:=H 16 _ rfl;have e17:q 17=q 15+q 16:=H 17 _ rfl
 clear H
 intro u0 u1 u2
 rw [e10,e9,e8,e7,e6] at u0
 rw [e14,e13,e12,e11,e9] at u1
 rw [e17,e16,e15] at u2
 refine ⟨?_,?_,?_⟩
 ·clear u1 u2; grind
 ·clear u0 u2; grind
 ·clear u0 u1; grind
theorem mM_K27 (H : mM_Q q σ) : (MIso (q 0) (q 2) (q 1) (q 3))→(q 27=0∧q 28=0)→(MIso (q 0) (q 2) (q 1) (q 3)∧q 4=0∧q 5=0) := by
 have e18:q 18=0:=(H 18 _ rfl).trans mM_c18;have e19:q 19=q 0*q 18:=H 19 _ rfl;have e20:q 20=q 1*q 18:=H 20 _ rfl;have e21:q 21=q 2*q 18:=H 21 _ rfl;have e22:q 22=q 3*q 18:=H 22 _ rfl;have e23:q 23=q 19+q 21:=H 23 _ rfl;have e24:q 24=q 20+q 22:=H 24 _ rfl;have e25:q 25=q 23+q 4:=H 25 _ rfl;have e26:q 26=q 24+q 5:=H 26 _ rfl;have e27:q 27=q 25-q 18:=H 27 _ rfl;have e28:q 28=q 26-q 18:=H 28 _ rfl
 clear H
 intro h1 u
 have u1 := u.1
 have u2 := u.2
 rw [e27,e25,e23,e19,e21,e18] at u1
 rw [e28,e26,e24,e20,e22,e18] at u2
 refine ⟨h1,?_,?_⟩
 ·clear u2 h1 u; grind
 ·clear u1 h1 u; grind
theorem mM_K640 (H : mM_Q q σ) : (MIso (q 0) (q 2) (q 1) (q 3)∧q 4=0∧q 5=0)→(q 640=0∧q 641=0)→(MIso (q 0) (q 2) (q 1) (q 3)∧q 4=0∧q 5=0∧q 0=1∧q 1=0) := by
 have e9:q 9=1:=(H 9 _ rfl).trans mM_c9;have e18:q 18=0:=(H 18 _ rfl).trans mM_c18;have e21:q 21=q 2*q 18:=H 21 _ rfl;have e22:q 22=q 3*q 18:=H 22 _ rfl;have e345:q 345=q 0*q 9:=H 345 _ rfl;have e346:q 346=q 345+q 21:=H 346 _ rfl;have e347:q 347=q 346+q 4:=H 347 _ rfl;have e348:q 348=q 1*q 9:=H 348 _ rfl;have e349:q 349=q 348+q 22:=H 349 _ rfl;have e350:q 350=q 349+q 5:=H 350 _ rfl;have e640:q 640=q 347-q 9:=H 640 _ rfl;have e641:q 641=q 350-q 18:=H 641 _ rfl
 clear H
 intro h1 u
 have u1 := u.1
 have u2 := u.2
 rw [e640,e347,e346,e345,e21,e9,e18] at u1
 rw [e641,e350,e349,e348,e22,e9,e18] at u2
 obtain ⟨h0,h2,h3⟩ := h1
 refine ⟨h0,h2,h3,?_,?_⟩
 ·rw [h2] at u1; clear u2 h0 u; grind
 ·rw [h3] at u2; clear u1 h0 u; grind
theorem mM_O1020 (H : mM_Q q σ) : (q 27=0∧q 28=0)→(q 1020=0∧q 1021=0) := by
 have e27:q 27=q 25-q 18:=H 27 _ rfl;have e28:q 28=q 26-q 18:=H 28 _ rfl;have e1020:q 1020=q 18-q 25:=H 1020 _ rfl;have e1021:q 1021=q 18-q 26:=H 1021 _ rfl
 clear H
 intro u
 exact mm_sw e1020 e1021 e27 e28 u
theorem mM_O1022 (H : mM_Q q σ) : (q 640=0∧q 641=0)→(q 1022=0∧q 1023=0) := by
 have e640:q 640=q 347-q 9:=H 640 _ rfl;have e641:q 641=q 350-q 18:=H 641 _ rfl;have e1022:q 1022=q 9-q 347:=H 1022 _ rfl;have e1023:q 1023=q 18-q 350:=H 1023 _ rfl
 clear H
 intro u
 exact mm_sw e1022 e1023 e640 e641 u
theorem mM_O1024 (H : mM_Q q σ) : (q 906=0∧q 907=0)→(q 1024=0∧q 1025=0) := by
 have e906:q 906=q 384-q 18:=H 906 _ rfl;have e907:q 907=q 387-q 9:=H 907 _ rfl;have e1024:q 1024=q 18-q 384:=H 1024 _ rfl;have e1025:q 1025=q 9-q 387:=H 1025 _ rfl
 clear H
 intro u
 exact mm_sw e1024 e1025 e906 e907 u
theorem mM_L906 (H : mM_Q q σ) : (MIso (q 0) (q 2) (q 1) (q 3)∧q 4=0∧q 5=0∧q 0=1∧q 1=0)→(¬ (q 906=0∧q 907=0))→((q 980=0)∧(¬ (q 981=0))) := by
 have e9:q 9=1:=(H 9 _ rfl).trans mM_c9;have e18:q 18=0:=(H 18 _ rfl).trans mM_c18;have e19:q 19=q 0*q 18:=H 19 _ rfl;have e20:q 20=q 1*q 18:=H 20 _ rfl;have e382:q 382=q 2*q 9:=H 382 _ rfl;have e383:q 383=q 19+q 382:=H 383 _ rfl;have e384:q 384=q 383+q 4:=H 384 _ rfl;have e385:q 385=q 3*q 9:=H 385 _ rfl;have e386:q 386=q 20+q 385:=H 386 _ rfl;have e387:q 387=q 386+q 5:=H 387 _ rfl;have e906:q 906=q 384-q 18:=H 906 _ rfl;have e907:q 907=q 387-q 9:=H 907 _ rfl;have e980:q 980=q 906*fac [q 906,q 907,q 915]:=H 980 _ rfl;have e981:q 981=q 907*fac [q 906,q 907,q 915]:=H 981 _ rfl
 clear H
 intro h1 u
 have ng : fac [q 906,q 907,q 915] ≠ 0 := fun h => u ⟨fac_zero (by simp) h,fac_zero (by simp) h⟩
 obtain ⟨h0,h2,h3,h4,h5⟩ := h1
 have q1 : q 906=0 := by rw [e906,e384,e383,e19,e382,h2,mm_b0 h0 h4 h5,e18,e9]; grind
 rw [e980,e981]
 exact ⟨by rw [q1,Rat.zero_mul],fun h => u ⟨q1,(Rat.mul_eq_zero.1 h).resolve_right ng⟩⟩
theorem mM_E110z {z0 z1 z2 z3 z4 z5 z9 z18 z19 z20 z21 z22 z23 z24 z25 z26 z29 z345 z346 z347 z348 z349 z350 z382 z383 z384 z385 z386 z387 z906 z907 z908 z909 z910 z911 z912 z913 z914 z915 z980 z981 z982 z983 z984 z985 z986 z987 z988 z989 z990 z991 z992 z993 z994 z995 z996 z997 z998 z999 z1000 z1001 z1002 z1003 z1004 z1005 z1006 z1007 z1008 z1009 z1010 z1011 z1012 z1013 z1014 z1015 z1016 z1017 z1018 z1019 : Rat} : z9=1→z18=0→z19=z0*z18→z20=z1*z18→z21=z2*z18→z22=z3*z18→z23=z19+z21→z24=z20+z22→z25=z23+z4→z26=z24+z5→z29=2→z345=z0*z9→z346=z345+z21→z347=z346+z4→z348=z1*z9→z349=z348+z22→z350=z349+z5→z382=z2*z9→z383=z19+z382→z384=z383+z4→z385=z3*z9→z386=z20+z385→z387=z386+z5→z906=z384-z18→z907=z387-z9→z908=z906/z29→z909=z907/z29→z910=z18+z908→z911=z9+z909→z912=z906*z910→z913=z907*z911→z914=z912+z913→z915=-z914→z980=z906*fac [z906,z907,z915]→z981=z907*fac [z906,z907,z915]→z982=z915*fac [z906,z907,z915]→z983=z980*z18→z984=z981*z18→z985=z983+z984→z986=z985+z982→z987=z29*z986→z988=z980*z980→z989=z981*z981→z990=z988+z989→z991=z987/z990→z992=z980*z991→z993=z981*z991→z994=z18-z992→z995=z18-z993→z996=z994-z25→z997=z995-z26→z998=z980*z9→z999=z998+z984→z1000=z999+z982→z1001=z29*z1000→z1002=z1001/z990→z1003=z980*z1002→z1004=z981*z1002→z1005=z9-z1003→z1006=z18-z1004→z1007=z1005-z347→z1008=z1006-z350→z1009=z981*z9→z1010=z983+z1009→z1011=z1010+z982→z1012=z29*z1011→z1013=z1012/z990→z1014=z980*z1013→z1015=z981*z1013→z1016=z18-z1014→z1017=z9-z1015→z1018=z1016-z384→z1019=z1017-z387→(MIso z0 z2 z1 z3∧z4=0∧z5=0∧z0=1∧z1=0)→(¬ (z906=0∧z907=0))→((z996=0∧z997=0)∧(z1007=0∧z1008=0)∧(z1018=0∧z1019=0)) := by
 intro e9 e18 e19 e20 e21 e22 e23 e24 e25 e26 e29 e345 e346 e347 e348 e349 e350 e382 e383 e384 e385 e386 e387 e906 e907 e908 e909 e910 e911 e912 e913 e914 e915 e980 e981 e982 e983 e984 e985 e986 e987 e988 e989 e990 e991 e992 e993 e994 e995 e996 e997 e998 e999 e1000 e1001 e1002 e1003 e1004 e1005 e1006 e1007 e1008 e1009 e1010 e1011 e1012 e1013 e1014 e1015 e1016 e1017 e1018 e1019
 intro f u2
 have hA2 : z906=z0*z18+z2*z9+z4 - z18 := by rw [e906,e384,e383,e19,e382]
 have hB2 : z907=z1*z18+z3*z9+z5 - z9 := by rw [e907,e387,e386,e20,e385]
 have hC2 : z915=-(z906*(z18+z906 / 2)+z907*(z9+z907 / 2)) := by rw [e915,e914,e913,e912,e911,e910,e909,e908,e29]
 obtain ⟨f0,f1,f2,f3,f4⟩ := f
 have t02 := mm_rq u2 f0 hA2 hB2 hC2 e980 e981 e982 e983 e984 e985 e986 e29 e987 e988 e989 e990 e991 e992 e993 e994 e995 (by rw [f1,e18]; grind) (by rw [f2,e18]; grind)
 have t12 := mm_rq u2 f0 hA2 hB2 hC2 e980 e981 e982 e998 e984 e999 e1000 e29 e1001 e988 e989 e990 e1002 e1003 e1004 e1005 e1006 (by rw [f1,e9,e18,f3]; grind) (by rw [f2,e9,e18,f4]; grind)
 have t22 := mm_rp u2 hA2 hB2 hC2 e980 e981 e982 e983 e1009 e1010 e1011 e29 e1012 e988 e989 e990 e1013 e1014 e1015 e1016 e1017
 exact ⟨mm_sub e996 e997 (t02.1.trans (by rw [e25,e23,e19,e21])) (t02.2.trans (by rw [e26,e24,e20,e22])),mm_sub e1007 e1008 (t12.1.trans (by rw [e347,e346,e345,e21])) (t12.2.trans (by rw [e350,e349,e348,e22])),mm_sub e1018 e1019 (t22.1.trans (by rw [e384,e383,e19,e382])) (t22.2.trans (by rw [e387,e386,e20,e385]))⟩
theorem mM_E110 (H : mM_Q q σ) : (MIso (q 0) (q 2) (q 1) (q 3)∧q 4=0∧q 5=0∧q 0=1∧q 1=0)→(¬ (q 906=0∧q 907=0))→((q 996=0∧q 997=0)∧(q 1007=0∧q 1008=0)∧(q 1018=0∧q 1019=0)) := by
 have e9:q 9=1:=(H 9 _ rfl).trans mM_c9;have e18:q 18=0:=(H 18 _ rfl).trans mM_c18;have e19:q 19=q 0*q 18:=H 19 _ rfl;have e20:q 20=q 1*q 18:=H 20 _ rfl;have e21:q 21=q 2*q 18:=H 21 _ rfl;have e22:q 22=q 3*q 18:=H 22 _ rfl;have e23:q 23=q 19+q 21:=H 23 _ rfl;have e24:q 24=q 20+q 22:=H 24 _ rfl;have e25:q 25=q 23+q 4:=H 25 _ rfl;have e26:q 26=q 24+q 5:=H 26 _ rfl;have e29:q 29=2:=(H 29 _ rfl).trans mM_c29;have e345:q 345=q 0*q 9:=H 345 _ rfl;have e346:q 346=q 345+q 21:=H 346 _ rfl;have e347:q 347=q 346+q 4:=H 347 _ rfl;have e348:q 348=q 1*q 9:=H 348 _ rfl;have e349:q 349=q 348+q 22:=H 349 _ rfl;have e350:q 350=q 349+q 5:=H 350 _ rfl;have e382:q 382=q 2*q 9:=H 382 _ rfl;have e383:q 383=q 19+q 382:=H 383 _ rfl;have e384:q 384=q 383+q 4:=H 384 _ rfl;have e385:q 385=q 3*q 9:=H 385 _ rfl;have e386:q 386=q 20+q 385:=H 386 _ rfl;have e387:q 387=q 386+q 5:=H 387 _ rfl;have e906:q 906=q 384-q 18:=H 906 _ rfl;have e907:q 907=q 387-q 9:=H 907 _ rfl;have e908:q 908=q 906/q 29:=H 908 _ rfl;have e909:q 909=q 907/q 29:=H 909 _ rfl;have e910:q 910=q 18+q 908:=H 910 _ rfl;have e911:q 911=q 9+q 909:=H 911 _ rfl;have e912:q 912=q 906*q 910:=H 912 _ rfl;have e913:q 913=q 907*q 911:=H 913 _ rfl;have e914:q 914=q 912+q 913:=H 914 _ rfl;have e915:q 915=-q 914:=H 915 _ rfl;have e980:q 980=q 906*fac [q 906,q 907,q 915]:=H 980 _ rfl;have e981:q 981=q 907*fac [q 906,q 907,q 915]:=H 981 _ rfl;have e982:q 982=q 915*fac [q 906,q 907,q 915]:=H 982 _ rfl;have e983:q 983=q 980*q 18:=H 983 _ rfl;have e984:q 984=q 981*q 18:=H 984 _ rfl;have e985:q 985=q 983+q 984:=H 985 _ rfl;have e986:q 986=q 985+q 982:=H 986 _ rfl;have e987:q 987=q 29*q 986:=H 987 _ rfl;have e988:q 988=q 980*q 980:=H 988 _ rfl;have e989:q 989=q 981*q 981:=H 989 _ rfl;have e990:q 990=q 988+q 989:=H 990 _ rfl;have e991:q 991=q 987/q 990:=H 991 _ rfl;have e992:q 992=q 980*q 991:=H 992 _ rfl;have e993:q 993=q 981*q 991:=H 993 _ rfl;have e994:q 994=q 18-q 992:=H 994 _ rfl;have e995:q 995=q 18-q 993:=H 995 _ rfl;have e996:q 996=q 994-q 25:=H 996 _ rfl;have e997:q 997=q 995-q 26:=H 997 _ rfl;have e998:q 998=q 980*q 9:=H 998 _ rfl;have e999:q 999=q 998+q 984:=H 999 _ rfl;have e1000:q 1000=q 999+q 982:=H 1000 _ rfl;have e1001:q 1001=q 29*q 1000:=H 1001 _ rfl;have e1002:q 1002=q 1001/q 990:=H 1002 _ rfl;have e1003:q 1003=q 980*q 1002:=H 1003 _ rfl;have e1004:q 1004=q 981*q 1002:=H 1004 _ rfl;have e1005:q 1005=q 9-q 1003:=H 1005 _ rfl;have e1006:q 1006=q 18-q 1004:=H 1006 _ rfl;have e1007:q 1007=q 1005-q 347:=H 1007 _ rfl;have e1008:q 1008=q 1006-q 350:=H 1008 _ rfl;have e1009:q 1009=q 981*q 9:=H 1009 _ rfl;have e1010:q 1010=q 983+q 1009:=H 1010 _ rfl;have e1011:q 1011=q 1010+q 982:=H 1011 _ rfl;have e1012:q 1012=q 29*q 1011:=H 1012 _ rfl;have e1013:q 1013=q 1012/q 990:=H 1013 _ rfl;have e1014:q 1014=q 980*q 1013:=H 1014 _ rfl;have e1015:q 1015=q 981*q 1013:=H 1015 _ rfl;have e1016:q 1016=q 18-q 1014:=H 1016 _ rfl;have e1017:q 1017=q 9-q 1015:=H 1017 _ rfl;have e1018:q 1018=q 1016-q 384:=H 1018 _ rfl;have e1019:q 1019=q 1017-q 387:=H 1019 _ rfl
 exact mM_E110z e9 e18 e19 e20 e21 e22 e23 e24 e25 e26 e29 e345 e346 e347 e348 e349 e350 e382 e383 e384 e385 e386 e387 e906 e907 e908 e909 e910 e911 e912 e913 e914 e915 e980 e981 e982 e983 e984 e985 e986 e987 e988 e989 e990 e991 e992 e993 e994 e995 e996 e997 e998 e999 e1000 e1001 e1002 e1003 e1004 e1005 e1006 e1007 e1008 e1009 e1010 e1011 e1012 e1013 e1014 e1015 e1016 e1017 e1018 e1019
theorem mM_S640z {z0 z1 z2 z3 z4 z5 z9 z18 z21 z22 z29 z345 z346 z347 z348 z349 z350 z640 z641 z642 z643 z644 z645 z646 z647 z648 z649 z650 z651 z652 z653 z654 z655 z656 z657 z658 z659 z660 z661 z662 z663 z664 z665 z666 z667 z668 z669 z670 z671 z672 z673 z674 z675 z676 z677 z678 z679 z680 z681 z682 z683 z684 z685 z686 z687 z688 z689 z690 z691 z692 z693 z694 z695 z696 z697 z698 z699 z700 z701 z702 z703 z704 z705 z706 z707 z708 z709 z710 z711 z712 z713 : Rat} : z9=1→z18=0→z21=z2*z18→z22=z3*z18→z29=2→z345=z0*z9→z346=z345+z21→z347=z346+z4→z348=z1*z9→z349=z348+z22→z350=z349+z5→z640=z347-z9→z641=z350-z18→z642=z640/z29→z643=z641/z29→z644=z9+z642→z645=z18+z643→z646=z640*z644→z647=z641*z645→z648=z646+z647→z649=-z648→z650=z640*z18→z651=z641*z18→z652=z650+z651→z653=z652+z649→z654=-z653→z655=z640*z654→z656=z641*z654→z657=z640*z640→z658=z641*z641→z659=z657+z658→z660=z655/z659→z661=z656/z659→z662=z660*z29→z663=z661*z29→z664=z18+z662→z665=z18+z663→z666=z640*z9→z667=z666+z651→z668=z667+z649→z669=-z668→z670=z640*z669→z671=z641*z669→z672=z670/z659→z673=z671/z659→z674=z672*z29→z675=z673*z29→z676=z9+z674→z677=z18+z675→z678=z676-z664→z679=z677-z665→z680=z641*z9→z681=z650+z680→z682=z681+z649→z683=-z682→z684=z640*z683→z685=z641*z683→z686=z684/z659→z687=z685/z659→z688=z686*z29→z689=z687*z29→z690=z18+z688→z691=z9+z689→z692=z690-z664→z693=z691-z665→z694=z678*z0→z695=z679*z0→z696=z692*z1→z697=z693*z1→z698=z694+z696→z699=z695+z697→z700=z678*z2→z701=z679*z2→z702=z692*z3→z703=z693*z3→z704=z700+z702→z705=z701+z703→z706=z678*z4→z707=z679*z4→z708=z692*z5→z709=z693*z5→z710=z706+z708→z711=z707+z709→z712=z710+z664→z713=z711+z665→(MIso z0 z2 z1 z3∧z4=0∧z5=0)→(¬ (z640=0∧z641=0))→((MIso z698 z704 z699 z705∧z712=0∧z713=0∧z698=1∧z699=0)∧MTo z640 z641 z649 z0 z2 z4 z1 z3 z5 z698 z704 z712 z699 z705 z713) := by
 intro e9 e18 e21 e22 e29 e345 e346 e347 e348 e349 e350 e640 e641 e642 e643 e644 e645 e646 e647 e648 e649 e650 e651 e652 e653 e654 e655 e656 e657 e658 e659 e660 e661 e662 e663 e664 e665 e666 e667 e668 e669 e670 e671 e672 e673 e674 e675 e676 e677 e678 e679 e680 e681 e682 e683 e684 e685 e686 e687 e688 e689 e690 e691 e692 e693 e694 e695 e696 e697 e698 e699 e700 e701 e702 e703 e704 e705 e706 e707 e708 e709 e710 e711 e712 e713
 intro h1 u
 have n659 : z659 ≠ 0 := by
  have hp := sq_pos u
  rw [← e657,← e658,← e659] at hp
  intro h
  rw [h] at hp
  exact absurd hp (by decide)
 obtain ⟨i,hi0⟩ : ∃ i,i*z659=2 := ⟨2 / z659,Rat.div_mul_cancel n659⟩
 have hi : i*(z640*z640+z641*z641)=2 := by rw [← e657,← e658,← e659]; exact hi0
 have q662 : z662=z655*i := by rw [e662,e660,e29]; exact mr_q n659 hi0
 have q663 : z663=z656*i := by rw [e663,e661,e29]; exact mr_q n659 hi0
 have q674 : z674=z670*i := by rw [e674,e672,e29]; exact mr_q n659 hi0
 have q675 : z675=z671*i := by rw [e675,e673,e29]; exact mr_q n659 hi0
 have q688 : z688=z684*i := by rw [e688,e686,e29]; exact mr_q n659 hi0
 have q689 : z689=z685*i := by rw [e689,e687,e29]; exact mr_q n659 hi0
 have r678 : z678=1 - z640*z640*i := by
  rw [e678,e676,q674,e670,e669,e668,e667,e666,e664,q662,e655,e654,e653,e652,e651,e650,e18,e9]
  clear hi hi0; grind
 have r679 : z679=-(z640*z641*i) := by
  rw [e679,e677,q675,e671,e669,e668,e667,e666,e665,q663,e656,e654,e653,e652,e651,e650,e18,e9]
  clear hi hi0; grind
 have r692 : z692=-(z640*z641*i) := by
  rw [e692,e690,q688,e684,e683,e682,e681,e680,e664,q662,e655,e654,e653,e652,e651,e650,e18,e9]
  clear hi hi0; grind
 have r693 : z693=1 - z641*z641*i := by
  rw [e693,e691,q689,e685,e683,e682,e681,e680,e665,q663,e656,e654,e653,e652,e651,e650,e18,e9]
  clear hi hi0; grind
 have r664 : z664=-(z640*z649*i) := by
  rw [e664,q662,e655,e654,e653,e652,e651,e650,e18]
  clear hi hi0; grind
 have r665 : z665=-(z641*z649*i) := by
  rw [e665,q663,e656,e654,e653,e652,e651,e650,e18]
  clear hi hi0; grind
 have s0 : z698=(1 - z640*z640*i)*z0+-(z640*z641*i)*z1 := by rw [e698,e694,e696,r678,r692]
 have s1 : z699=-(z640*z641*i)*z0+(1 - z641*z641*i)*z1 := by rw [e699,e695,e697,r679,r693]
 have s2 : z704=(1 - z640*z640*i)*z2+-(z640*z641*i)*z3 := by rw [e704,e700,e702,r678,r692]
 have s3 : z705=-(z640*z641*i)*z2+(1 - z641*z641*i)*z3 := by rw [e705,e701,e703,r679,r693]
 have s4 : z712=(1 - z640*z640*i)*z4+-(z640*z641*i)*z5+-(z640*z649*i) := by rw [e712,e710,e706,e708,r678,r692,r664]
 have s5 : z713=-(z640*z641*i)*z4+(1 - z641*z641*i)*z5+-(z641*z649*i) := by rw [e713,e711,e707,e709,r679,r693,r665]
 have hA1 : z640=z0*z9+z2*z18+z4 - z9 := by rw [e640,e347,e346,e345,e21]
 have hB1 : z641=z1*z9+z3*z18+z5 - z18 := by rw [e641,e350,e349,e348,e22]
 have hC1 : z649=-(z640*(z9+z640 / 2)+z641*(z18+z641 / 2)) := by rw [e649,e648,e647,e646,e645,e644,e643,e642,e29]
 have ⟨h0,h2,h3⟩ := h1
 have is := mm_iso h0 hi s0 s1 s2 s3
 have bk := (mm_half (X := z0*z9+z2*z18+z4) (Z := z1*z9+z3*z18+z5) hi hA1 hB1 hC1).2
 have mp := mm_map (x := z9) (y := z18) s0 s1 s2 s3 s4 s5
 have fx := mp.1.trans bk.1
 have fy := mp.2.trans bk.2
 have on := mm_on (x := z18) (y := z18) h0 hA1 hB1 hC1 (by rw [h2,e18]; grind) (by rw [h3,e18]; grind)
 have mq := mm_map (x := z18) (y := z18) s0 s1 s2 s3 s4 s5
 have tx : z0*z18+z2*z18+z4=z18 := by rw [h2,e18]; grind
 have ty : z1*z18+z3*z18+z5=z18 := by rw [h3,e18]; grind
 rw [tx,ty,on] at mq
 have w1 : z712=0 := by have q1 := mq.1; rw [e18] at q1; clear fx fy mp bk mq; grind
 have w2 : z713=0 := by have q1 := mq.2; rw [e18] at q1; clear fx fy mp bk mq w1; grind
 rw [e9,e18] at fx fy
 have w3 : z698=1 := by rw [w1] at fx; clear fy mp bk mq; grind
 have w4 : z699=0 := by rw [w2] at fy; clear fx mp bk mq w3; grind
 exact ⟨⟨is,w1,w2,w3,w4⟩,i,hi,s0,s1,s2,s3,s4,s5⟩
theorem mM_S640 (H : mM_Q q σ) : (MIso (q 0) (q 2) (q 1) (q 3)∧q 4=0∧q 5=0)→(¬ (q 640=0∧q 641=0))→((MIso (q 698) (q 704) (q 699) (q 705)∧q 712=0∧q 713=0∧q 698=1∧q 699=0)∧MTo (q 640) (q 641) (q 649) (q 0) (q 2) (q 4) (q 1) (q 3) (q 5) (q 698) (q 704) (q 712) (q 699) (q 705) (q 713)) := by
 have e9:q 9=1:=(H 9 _ rfl).trans mM_c9;have e18:q 18=0:=(H 18 _ rfl).trans mM_c18;have e21:q 21=q 2*q 18:=H 21 _ rfl;have e22:q 22=q 3*q 18:=H 22 _ rfl;have e29:q 29=2:=(H 29 _ rfl).trans mM_c29;have e345:q 345=q 0*q 9:=H 345 _ rfl;have e346:q 346=q 345+q 21:=H 346 _ rfl;have e347:q 347=q 346+q 4:=H 347 _ rfl;have e348:q 348=q 1*q 9:=H 348 _ rfl;have e349:q 349=q 348+q 22:=H 349 _ rfl;have e350:q 350=q 349+q 5:=H 350 _ rfl;have e640:q 640=q 347-q 9:=H 640 _ rfl;have e641:q 641=q 350-q 18:=H 641 _ rfl;have e642:q 642=q 640/q 29:=H 642 _ rfl;have e643:q 643=q 641/q 29:=H 643 _ rfl;have e644:q 644=q 9+q 642:=H 644 _ rfl;have e645:q 645=q 18+q 643:=H 645 _ rfl;have e646:q 646=q 640*q 644:=H 646 _ rfl;have e647:q 647=q 641*q 645:=H 647 _ rfl;have e648:q 648=q 646+q 647:=H 648 _ rfl;have e649:q 649=-q 648:=H 649 _ rfl;have e650:q 650=q 640*q 18:=H 650 _ rfl;have e651:q 651=q 641*q 18:=H 651 _ rfl;have e652:q 652=q 650+q 651:=H 652 _ rfl;have e653:q 653=q 652+q 649:=H 653 _ rfl;have e654:q 654=-q 653:=H 654 _ rfl;have e655:q 655=q 640*q 654:=H 655 _ rfl;have e656:q 656=q 641*q 654:=H 656 _ rfl;have e657:q 657=q 640*q 640:=H 657 _ rfl;have e658:q 658=q 641*q 641:=H 658 _ rfl;have e659:q 659=q 657+q 658:=H 659 _ rfl;have e660:q 660=q 655/q 659:=H 660 _ rfl;have e661:q 661=q 656/q 659:=H 661 _ rfl;have e662:q 662=q 660*q 29:=H 662 _ rfl;have e663:q 663=q 661*q 29:=H 663 _ rfl;have e664:q 664=q 18+q 662:=H 664 _ rfl;have e665:q 665=q 18+q 663:=H 665 _ rfl;have e666:q 666=q 640*q 9:=H 666 _ rfl;have e667:q 667=q 666+q 651:=H 667 _ rfl;have e668:q 668=q 667+q 649:=H 668 _ rfl;have e669:q 669=-q 668:=H 669 _ rfl;have e670:q 670=q 640*q 669:=H 670 _ rfl;have e671:q 671=q 641*q 669:=H 671 _ rfl;have e672:q 672=q 670/q 659:=H 672 _ rfl;have e673:q 673=q 671/q 659:=H 673 _ rfl;have e674:q 674=q 672*q 29:=H 674 _ rfl;have e675:q 675=q 673*q 29:=H 675 _ rfl;have e676:q 676=q 9+q 674:=H 676 _ rfl;have e677:q 677=q 18+q 675:=H 677 _ rfl;have e678:q 678=q 676-q 664:=H 678 _ rfl;have e679:q 679=q 677-q 665:=H 679 _ rfl;have e680:q 680=q 641*q 9:=H 680 _ rfl;have e681:q 681=q 650+q 680:=H 681 _ rfl;have e682:q 682=q 681+q 649:=H 682 _ rfl;have e683:q 683=-q 682:=H 683 _ rfl;have e684:q 684=q 640*q 683:=H 684 _ rfl;have e685:q 685=q 641*q 683:=H 685 _ rfl;have e686:q 686=q 684/q 659:=H 686 _ rfl;have e687:q 687=q 685/q 659:=H 687 _ rfl;have e688:q 688=q 686*q 29:=H 688 _ rfl;have e689:q 689=q 687*q 29:=H 689 _ rfl;have e690:q 690=q 18+q 688:=H 690 _ rfl;have e691:q 691=q 9+q 689:=H 691 _ rfl;have e692:q 692=q 690-q 664:=H 692 _ rfl;have e693:q 693=q 691-q 665:=H 693 _ rfl;have e694:q 694=q 678*q 0:=H 694 _ rfl;have e695:q 695=q 679*q 0:=H 695 _ rfl;have e696:q 696=q 692*q 1:=H 696 _ rfl;have e697:q 697=q 693*q 1:=H 697 _ rfl;have e698:q 698=q 694+q 696:=H 698 _ rfl;have e699:q 699=q 695+q 697:=H 699 _ rfl;have e700:q 700=q 678*q 2:=H 700 _ rfl;have e701:q 701=q 679*q 2:=H 701 _ rfl;have e702:q 702=q 692*q 3:=H 702 _ rfl;have e703:q 703=q 693*q 3:=H 703 _ rfl;have e704:q 704=q 700+q 702:=H 704 _ rfl;have e705:q 705=q 701+q 703:=H 705 _ rfl;have e706:q 706=q 678*q 4:=H 706 _ rfl;have e707:q 707=q 679*q 4:=H 707 _ rfl;have e708:q 708=q 692*q 5:=H 708 _ rfl;have e709:q 709=q 693*q 5:=H 709 _ rfl;have e710:q 710=q 706+q 708:=H 710 _ rfl;have e711:q 711=q 707+q 709:=H 711 _ rfl;have e712:q 712=q 710+q 664:=H 712 _ rfl;have e713:q 713=q 711+q 665:=H 713 _ rfl
 exact mM_S640z e9 e18 e21 e22 e29 e345 e346 e347 e348 e349 e350 e640 e641 e642 e643 e644 e645 e646 e647 e648 e649 e650 e651 e652 e653 e654 e655 e656 e657 e658 e659 e660 e661 e662 e663 e664 e665 e666 e667 e668 e669 e670 e671 e672 e673 e674 e675 e676 e677 e678 e679 e680 e681 e682 e683 e684 e685 e686 e687 e688 e689 e690 e691 e692 e693 e694 e695 e696 e697 e698 e699 e700 e701 e702 e703 e704 e705 e706 e707 e708 e709 e710 e711 e712 e713
theorem mM_L640 (H : mM_Q q σ) : (MIso (q 0) (q 2) (q 1) (q 3)∧q 4=0∧q 5=0)→(¬ (q 640=0∧q 641=0))→(¬ (q 799=0)) := by
 have e9:q 9=1:=(H 9 _ rfl).trans mM_c9;have e18:q 18=0:=(H 18 _ rfl).trans mM_c18;have e21:q 21=q 2*q 18:=H 21 _ rfl;have e22:q 22=q 3*q 18:=H 22 _ rfl;have e345:q 345=q 0*q 9:=H 345 _ rfl;have e346:q 346=q 345+q 21:=H 346 _ rfl;have e347:q 347=q 346+q 4:=H 347 _ rfl;have e348:q 348=q 1*q 9:=H 348 _ rfl;have e349:q 349=q 348+q 22:=H 349 _ rfl;have e350:q 350=q 349+q 5:=H 350 _ rfl;have e640:q 640=q 347-q 9:=H 640 _ rfl;have e641:q 641=q 350-q 18:=H 641 _ rfl;have e799:q 799=q 640*fac [q 640,q 641,q 649]:=H 799 _ rfl
 clear H
 intro h1 u
 have ng : fac [q 640,q 641,q 649] ≠ 0 := fun h => u ⟨fac_zero (by simp) h,fac_zero (by simp) h⟩
 obtain ⟨h0,h2,h3⟩ := h1
 have q1 : q 640=q 0 - 1 := by rw [e640,e347,e346,e345,e21,h2,e9,e18]; grind
 have q2 : q 641=q 1 := by rw [e641,e350,e349,e348,e22,h3,e9,e18]; grind
 have na := mm_a1 h0 q1 q2 u
 rw [e799]
 exact mul_ne na ng
theorem mM_E101z {z0 z1 z2 z3 z4 z5 z9 z18 z19 z20 z21 z22 z23 z24 z25 z26 z29 z345 z346 z347 z348 z349 z350 z382 z383 z384 z385 z386 z387 z640 z641 z642 z643 z644 z645 z646 z647 z648 z649 z698 z699 z704 z705 z712 z713 z714 z715 z716 z717 z718 z719 z720 z721 z722 z723 z799 z800 z801 z820 z821 z822 z872 z873 z874 z875 z876 z877 z878 z879 z880 z881 z882 z883 z884 z885 z886 z887 z888 z889 z890 z891 z892 z893 z894 z895 z896 z897 z898 z899 z900 z901 z902 z903 z904 z905 : Rat} : z9=1→z18=0→z19=z0*z18→z20=z1*z18→z21=z2*z18→z22=z3*z18→z23=z19+z21→z24=z20+z22→z25=z23+z4→z26=z24+z5→z29=2→z345=z0*z9→z346=z345+z21→z347=z346+z4→z348=z1*z9→z349=z348+z22→z350=z349+z5→z382=z2*z9→z383=z19+z382→z384=z383+z4→z385=z3*z9→z386=z20+z385→z387=z386+z5→z640=z347-z9→z641=z350-z18→z642=z640/z29→z643=z641/z29→z644=z9+z642→z645=z18+z643→z646=z640*z644→z647=z641*z645→z648=z646+z647→z649=-z648→z714=z698*z18→z715=z699*z18→z716=z704*z9→z717=z705*z9→z718=z714+z716→z719=z715+z717→z720=z718+z712→z721=z719+z713→z722=z720-z18→z723=z721-z9→z799=z640*fac [z640,z641,z649]→z800=z641*fac [z640,z641,z649]→z801=z649*fac [z640,z641,z649]→z820=z799*z799→z821=z800*z800→z822=z820+z821→z872=z799*z18→z873=z800*z18→z874=z872+z873→z875=z874+z801→z876=z29*z875→z877=z876/z822→z878=z799*z877→z879=z800*z877→z880=z18-z878→z881=z18-z879→z882=z880-z25→z883=z881-z26→z884=z799*z9→z885=z884+z873→z886=z885+z801→z887=z29*z886→z888=z887/z822→z889=z799*z888→z890=z800*z888→z891=z9-z889→z892=z18-z890→z893=z891-z347→z894=z892-z350→z895=z800*z9→z896=z872+z895→z897=z896+z801→z898=z29*z897→z899=z898/z822→z900=z799*z899→z901=z800*z899→z902=z18-z900→z903=z9-z901→z904=z902-z384→z905=z903-z387→(MIso z0 z2 z1 z3∧z4=0∧z5=0)→(¬ (z640=0∧z641=0))→(MTo z640 z641 z649 z0 z2 z4 z1 z3 z5 z698 z704 z712 z699 z705 z713)→(z722=0∧z723=0)→((z882=0∧z883=0)∧(z893=0∧z894=0)∧(z904=0∧z905=0)) := by
 intro e9 e18 e19 e20 e21 e22 e23 e24 e25 e26 e29 e345 e346 e347 e348 e349 e350 e382 e383 e384 e385 e386 e387 e640 e641 e642 e643 e644 e645 e646 e647 e648 e649 e714 e715 e716 e717 e718 e719 e720 e721 e722 e723 e799 e800 e801 e820 e821 e822 e872 e873 e874 e875 e876 e877 e878 e879 e880 e881 e882 e883 e884 e885 e886 e887 e888 e889 e890 e891 e892 e893 e894 e895 e896 e897 e898 e899 e900 e901 e902 e903 e904 e905
 intro f u1 o1 y2
 have hA1 : z640=z0*z9+z2*z18+z4 - z9 := by rw [e640,e347,e346,e345,e21]
 have hB1 : z641=z1*z9+z3*z18+z5 - z18 := by rw [e641,e350,e349,e348,e22]
 have hC1 : z649=-(z640*(z9+z640 / 2)+z641*(z18+z641 / 2)) := by rw [e649,e648,e647,e646,e645,e644,e643,e642,e29]
 obtain ⟨f0,f1,f2⟩ := f
 have t01 := mm_rq u1 f0 hA1 hB1 hC1 e799 e800 e801 e872 e873 e874 e875 e29 e876 e820 e821 e822 e877 e878 e879 e880 e881 (by rw [f1,e18]; grind) (by rw [f2,e18]; grind)
 have t11 := mm_rp u1 hA1 hB1 hC1 e799 e800 e801 e884 e873 e885 e886 e29 e887 e820 e821 e822 e888 e889 e890 e891 e892
 have t21 := mm_rs (mm_ng u1) o1 e799 e800 e801 e872 e895 e896 e897 e29 e898 e820 e821 e822 e899 e900 e901 e902 e903 ⟨by
  have h := y2.1
  rw [e722,e720,e718,e714,e716] at h
  exact (mm_eq h).symm,by
  have h := y2.2
  rw [e723,e721,e719,e715,e717] at h
  exact (mm_eq h).symm⟩
 exact ⟨mm_sub e882 e883 (t01.1.trans (by rw [e25,e23,e19,e21])) (t01.2.trans (by rw [e26,e24,e20,e22])),mm_sub e893 e894 (t11.1.trans (by rw [e347,e346,e345,e21])) (t11.2.trans (by rw [e350,e349,e348,e22])),mm_sub e904 e905 (t21.1.trans (by rw [e384,e383,e19,e382])) (t21.2.trans (by rw [e387,e386,e20,e385]))⟩
theorem mM_E101 (H : mM_Q q σ) : (MIso (q 0) (q 2) (q 1) (q 3)∧q 4=0∧q 5=0)→(¬ (q 640=0∧q 641=0))→(MTo (q 640) (q 641) (q 649) (q 0) (q 2) (q 4) (q 1) (q 3) (q 5) (q 698) (q 704) (q 712) (q 699) (q 705) (q 713))→(q 722=0∧q 723=0)→((q 882=0∧q 883=0)∧(q 893=0∧q 894=0)∧(q 904=0∧q 905=0)) := by
 have e9:q 9=1:=(H 9 _ rfl).trans mM_c9;have e18:q 18=0:=(H 18 _ rfl).trans mM_c18;have e19:q 19=q 0*q 18:=H 19 _ rfl;have e20:q 20=q 1*q 18:=H 20 _ rfl;have e21:q 21=q 2*q 18:=H 21 _ rfl;have e22:q 22=q 3*q 18:=H 22 _ rfl;have e23:q 23=q 19+q 21:=H 23 _ rfl;have e24:q 24=q 20+q 22:=H 24 _ rfl;have e25:q 25=q 23+q 4:=H 25 _ rfl;have e26:q 26=q 24+q 5:=H 26 _ rfl;have e29:q 29=2:=(H 29 _ rfl).trans mM_c29;have e345:q 345=q 0*q 9:=H 345 _ rfl;have e346:q 346=q 345+q 21:=H 346 _ rfl;have e347:q 347=q 346+q 4:=H 347 _ rfl;have e348:q 348=q 1*q 9:=H 348 _ rfl;have e349:q 349=q 348+q 22:=H 349 _ rfl;have e350:q 350=q 349+q 5:=H 350 _ rfl;have e382:q 382=q 2*q 9:=H 382 _ rfl;have e383:q 383=q 19+q 382:=H 383 _ rfl;have e384:q 384=q 383+q 4:=H 384 _ rfl;have e385:q 385=q 3*q 9:=H 385 _ rfl;have e386:q 386=q 20+q 385:=H 386 _ rfl;have e387:q 387=q 386+q 5:=H 387 _ rfl;have e640:q 640=q 347-q 9:=H 640 _ rfl;have e641:q 641=q 350-q 18:=H 641 _ rfl;have e642:q 642=q 640/q 29:=H 642 _ rfl;have e643:q 643=q 641/q 29:=H 643 _ rfl;have e644:q 644=q 9+q 642:=H 644 _ rfl;have e645:q 645=q 18+q 643:=H 645 _ rfl;have e646:q 646=q 640*q 644:=H 646 _ rfl;have e647:q 647=q 641*q 645:=H 647 _ rfl;have e648:q 648=q 646+q 647:=H 648 _ rfl;have e649:q 649=-q 648:=H 649 _ rfl;have e714:q 714=q 698*q 18:=H 714 _ rfl;have e715:q 715=q 699*q 18:=H 715 _ rfl;have e716:q 716=q 704*q 9:=H 716 _ rfl;have e717:q 717=q 705*q 9:=H 717 _ rfl;have e718:q 718=q 714+q 716:=H 718 _ rfl;have e719:q 719=q 715+q 717:=H 719 _ rfl;have e720:q 720=q 718+q 712:=H 720 _ rfl;have e721:q 721=q 719+q 713:=H 721 _ rfl;have e722:q 722=q 720-q 18:=H 722 _ rfl;have e723:q 723=q 721-q 9:=H 723 _ rfl;have e799:q 799=q 640*fac [q 640,q 641,q 649]:=H 799 _ rfl;have e800:q 800=q 641*fac [q 640,q 641,q 649]:=H 800 _ rfl;have e801:q 801=q 649*fac [q 640,q 641,q 649]:=H 801 _ rfl;have e820:q 820=q 799*q 799:=H 820 _ rfl;have e821:q 821=q 800*q 800:=H 821 _ rfl;have e822:q 822=q 820+q 821:=H 822 _ rfl;have e872:q 872=q 799*q 18:=H 872 _ rfl;have e873:q 873=q 800*q 18:=H 873 _ rfl;have e874:q 874=q 872+q 873:=H 874 _ rfl;have e875:q 875=q 874+q 801:=H 875 _ rfl;have e876:q 876=q 29*q 875:=H 876 _ rfl;have e877:q 877=q 876/q 822:=H 877 _ rfl;have e878:q 878=q 799*q 877:=H 878 _ rfl;have e879:q 879=q 800*q 877:=H 879 _ rfl;have e880:q 880=q 18-q 878:=H 880 _ rfl;have e881:q 881=q 18-q 879:=H 881 _ rfl;have e882:q 882=q 880-q 25:=H 882 _ rfl;have e883:q 883=q 881-q 26:=H 883 _ rfl;have e884:q 884=q 799*q 9:=H 884 _ rfl;have e885:q 885=q 884+q 873:=H 885 _ rfl;have e886:q 886=q 885+q 801:=H 886 _ rfl;have e887:q 887=q 29*q 886:=H 887 _ rfl;have e888:q 888=q 887/q 822:=H 888 _ rfl;have e889:q 889=q 799*q 888:=H 889 _ rfl;have e890:q 890=q 800*q 888:=H 890 _ rfl;have e891:q 891=q 9-q 889:=H 891 _ rfl;have e892:q 892=q 18-q 890:=H 892 _ rfl;have e893:q 893=q 891-q 347:=H 893 _ rfl;have e894:q 894=q 892-q 350:=H 894 _ rfl;have e895:q 895=q 800*q 9:=H 895 _ rfl;have e896:q 896=q 872+q 895:=H 896 _ rfl;have e897:q 897=q 896+q 801:=H 897 _ rfl;have e898:q 898=q 29*q 897:=H 898 _ rfl;have e899:q 899=q 898/q 822:=H 899 _ rfl;have e900:q 900=q 799*q 899:=H 900 _ rfl;have e901:q 901=q 800*q 899:=H 901 _ rfl;have e902:q 902=q 18-q 900:=H 902 _ rfl;have e903:q 903=q 9-q 901:=H 903 _ rfl;have e904:q 904=q 902-q 384:=H 904 _ rfl;have e905:q 905=q 903-q 387:=H 905 _ rfl
 exact mM_E101z e9 e18 e19 e20 e21 e22 e23 e24 e25 e26 e29 e345 e346 e347 e348 e349 e350 e382 e383 e384 e385 e386 e387 e640 e641 e642 e643 e644 e645 e646 e647 e648 e649 e714 e715 e716 e717 e718 e719 e720 e721 e722 e723 e799 e800 e801 e820 e821 e822 e872 e873 e874 e875 e876 e877 e878 e879 e880 e881 e882 e883 e884 e885 e886 e887 e888 e889 e890 e891 e892 e893 e894 e895 e896 e897 e898 e899 e900 e901 e902 e903 e904 e905
theorem mM_L722 (H : mM_Q q σ) : (MIso (q 698) (q 704) (q 699) (q 705)∧q 712=0∧q 713=0∧q 698=1∧q 699=0)→(¬ (q 722=0∧q 723=0))→((q 796=0)∧(¬ (q 797=0))) := by
 have e9:q 9=1:=(H 9 _ rfl).trans mM_c9;have e18:q 18=0:=(H 18 _ rfl).trans mM_c18;have e714:q 714=q 698*q 18:=H 714 _ rfl;have e715:q 715=q 699*q 18:=H 715 _ rfl;have e716:q 716=q 704*q 9:=H 716 _ rfl;have e717:q 717=q 705*q 9:=H 717 _ rfl;have e718:q 718=q 714+q 716:=H 718 _ rfl;have e719:q 719=q 715+q 717:=H 719 _ rfl;have e720:q 720=q 718+q 712:=H 720 _ rfl;have e721:q 721=q 719+q 713:=H 721 _ rfl;have e722:q 722=q 720-q 18:=H 722 _ rfl;have e723:q 723=q 721-q 9:=H 723 _ rfl;have e796:q 796=q 722*fac [q 722,q 723,q 731]:=H 796 _ rfl;have e797:q 797=q 723*fac [q 722,q 723,q 731]:=H 797 _ rfl
 clear H
 intro h1 u
 have ng : fac [q 722,q 723,q 731] ≠ 0 := fun h => u ⟨fac_zero (by simp) h,fac_zero (by simp) h⟩
 obtain ⟨h0,h2,h3,h4,h5⟩ := h1
 have q1 : q 722=0 := by rw [e722,e720,e718,e714,e716,h2,mm_b0 h0 h4 h5,e18,e9]; grind
 rw [e796,e797]
 exact ⟨by rw [q1,Rat.zero_mul],fun h => u ⟨q1,(Rat.mul_eq_zero.1 h).resolve_right ng⟩⟩
theorem mM_E100z {z0 z1 z2 z3 z4 z5 z9 z18 z19 z20 z21 z22 z23 z24 z25 z26 z29 z345 z346 z347 z348 z349 z350 z382 z383 z384 z385 z386 z387 z640 z641 z649 z698 z699 z704 z705 z712 z713 z714 z715 z716 z717 z718 z719 z720 z721 z722 z723 z724 z725 z726 z727 z728 z729 z730 z731 z796 z797 z798 z799 z800 z801 z802 z803 z804 z805 z806 z807 z808 z809 z810 z811 z812 z813 z814 z815 z816 z817 z818 z819 z820 z821 z822 z823 z824 z825 z826 z827 z828 z829 z830 z831 z832 z833 z834 z835 z836 z837 z838 z839 z840 z841 z842 z843 z844 z845 z846 z847 z848 z849 z850 z851 z852 z853 z854 z855 z856 z857 z858 z859 z860 z861 z862 z863 z864 z865 z866 z867 z868 z869 z870 z871 : Rat} : z9=1→z18=0→z19=z0*z18→z20=z1*z18→z21=z2*z18→z22=z3*z18→z23=z19+z21→z24=z20+z22→z25=z23+z4→z26=z24+z5→z29=2→z345=z0*z9→z346=z345+z21→z347=z346+z4→z348=z1*z9→z349=z348+z22→z350=z349+z5→z382=z2*z9→z383=z19+z382→z384=z383+z4→z385=z3*z9→z386=z20+z385→z387=z386+z5→z714=z698*z18→z715=z699*z18→z716=z704*z9→z717=z705*z9→z718=z714+z716→z719=z715+z717→z720=z718+z712→z721=z719+z713→z722=z720-z18→z723=z721-z9→z724=z722/z29→z725=z723/z29→z726=z18+z724→z727=z9+z725→z728=z722*z726→z729=z723*z727→z730=z728+z729→z731=-z730→z796=z722*fac [z722,z723,z731]→z797=z723*fac [z722,z723,z731]→z798=z731*fac [z722,z723,z731]→z799=z640*fac [z640,z641,z649]→z800=z641*fac [z640,z641,z649]→z801=z649*fac [z640,z641,z649]→z802=z796*z18→z803=z797*z18→z804=z802+z803→z805=z804+z798→z806=z29*z805→z807=z796*z796→z808=z797*z797→z809=z807+z808→z810=z806/z809→z811=z796*z810→z812=z797*z810→z813=z18-z811→z814=z18-z812→z815=z799*z813→z816=z800*z814→z817=z815+z816→z818=z817+z801→z819=z29*z818→z820=z799*z799→z821=z800*z800→z822=z820+z821→z823=z819/z822→z824=z799*z823→z825=z800*z823→z826=z813-z824→z827=z814-z825→z828=z826-z25→z829=z827-z26→z830=z796*z9→z831=z830+z803→z832=z831+z798→z833=z29*z832→z834=z833/z809→z835=z796*z834→z836=z797*z834→z837=z9-z835→z838=z18-z836→z839=z799*z837→z840=z800*z838→z841=z839+z840→z842=z841+z801→z843=z29*z842→z844=z843/z822→z845=z799*z844→z846=z800*z844→z847=z837-z845→z848=z838-z846→z849=z847-z347→z850=z848-z350→z851=z797*z9→z852=z802+z851→z853=z852+z798→z854=z29*z853→z855=z854/z809→z856=z796*z855→z857=z797*z855→z858=z18-z856→z859=z9-z857→z860=z799*z858→z861=z800*z859→z862=z860+z861→z863=z862+z801→z864=z29*z863→z865=z864/z822→z866=z799*z865→z867=z800*z865→z868=z858-z866→z869=z859-z867→z870=z868-z384→z871=z869-z387→(MIso z698 z704 z699 z705∧z712=0∧z713=0∧z698=1∧z699=0)→(¬ (z640=0∧z641=0))→(MTo z640 z641 z649 z0 z2 z4 z1 z3 z5 z698 z704 z712 z699 z705 z713)→(¬ (z722=0∧z723=0))→((z828=0∧z829=0)∧(z849=0∧z850=0)∧(z870=0∧z871=0)) := by
 intro e9 e18 e19 e20 e21 e22 e23 e24 e25 e26 e29 e345 e346 e347 e348 e349 e350 e382 e383 e384 e385 e386 e387 e714 e715 e716 e717 e718 e719 e720 e721 e722 e723 e724 e725 e726 e727 e728 e729 e730 e731 e796 e797 e798 e799 e800 e801 e802 e803 e804 e805 e806 e807 e808 e809 e810 e811 e812 e813 e814 e815 e816 e817 e818 e819 e820 e821 e822 e823 e824 e825 e826 e827 e828 e829 e830 e831 e832 e833 e834 e835 e836 e837 e838 e839 e840 e841 e842 e843 e844 e845 e846 e847 e848 e849 e850 e851 e852 e853 e854 e855 e856 e857 e858 e859 e860 e861 e862 e863 e864 e865 e866 e867 e868 e869 e870 e871
 intro f u1 o1 u2
 have hA2 : z722=z698*z18+z704*z9+z712 - z18 := by rw [e722,e720,e718,e714,e716]
 have hB2 : z723=z699*z18+z705*z9+z713 - z9 := by rw [e723,e721,e719,e715,e717]
 have hC2 : z731=-(z722*(z18+z722 / 2)+z723*(z9+z723 / 2)) := by rw [e731,e730,e729,e728,e727,e726,e725,e724,e29]
 obtain ⟨f0,f1,f2,f3,f4⟩ := f
 have t02 := mm_rq u2 f0 hA2 hB2 hC2 e796 e797 e798 e802 e803 e804 e805 e29 e806 e807 e808 e809 e810 e811 e812 e813 e814 (by rw [f1,e18]; grind) (by rw [f2,e18]; grind)
 have t01 := mm_rs (mm_ng u1) o1 e799 e800 e801 e815 e816 e817 e818 e29 e819 e820 e821 e822 e823 e824 e825 e826 e827 t02
 have t12 := mm_rq u2 f0 hA2 hB2 hC2 e796 e797 e798 e830 e803 e831 e832 e29 e833 e807 e808 e809 e834 e835 e836 e837 e838 (by rw [f1,e9,e18,f3]; grind) (by rw [f2,e9,e18,f4]; grind)
 have t11 := mm_rs (mm_ng u1) o1 e799 e800 e801 e839 e840 e841 e842 e29 e843 e820 e821 e822 e844 e845 e846 e847 e848 t12
 have t22 := mm_rp u2 hA2 hB2 hC2 e796 e797 e798 e802 e851 e852 e853 e29 e854 e807 e808 e809 e855 e856 e857 e858 e859
 have t21 := mm_rs (mm_ng u1) o1 e799 e800 e801 e860 e861 e862 e863 e29 e864 e820 e821 e822 e865 e866 e867 e868 e869 t22
 exact ⟨mm_sub e828 e829 (t01.1.trans (by rw [e25,e23,e19,e21])) (t01.2.trans (by rw [e26,e24,e20,e22])),mm_sub e849 e850 (t11.1.trans (by rw [e347,e346,e345,e21])) (t11.2.trans (by rw [e350,e349,e348,e22])),mm_sub e870 e871 (t21.1.trans (by rw [e384,e383,e19,e382])) (t21.2.trans (by rw [e387,e386,e20,e385]))⟩
theorem mM_E100 (H : mM_Q q σ) : (MIso (q 698) (q 704) (q 699) (q 705)∧q 712=0∧q 713=0∧q 698=1∧q 699=0)→(¬ (q 640=0∧q 641=0))→(MTo (q 640) (q 641) (q 649) (q 0) (q 2) (q 4) (q 1) (q 3) (q 5) (q 698) (q 704) (q 712) (q 699) (q 705) (q 713))→(¬ (q 722=0∧q 723=0))→((q 828=0∧q 829=0)∧(q 849=0∧q 850=0)∧(q 870=0∧q 871=0)) := by
 have e9:q 9=1:=(H 9 _ rfl).trans mM_c9;have e18:q 18=0:=(H 18 _ rfl).trans mM_c18;have e19:q 19=q 0*q 18:=H 19 _ rfl;have e20:q 20=q 1*q 18:=H 20 _ rfl;have e21:q 21=q 2*q 18:=H 21 _ rfl;have e22:q 22=q 3*q 18:=H 22 _ rfl;have e23:q 23=q 19+q 21:=H 23 _ rfl;have e24:q 24=q 20+q 22:=H 24 _ rfl;have e25:q 25=q 23+q 4:=H 25 _ rfl;have e26:q 26=q 24+q 5:=H 26 _ rfl;have e29:q 29=2:=(H 29 _ rfl).trans mM_c29;have e345:q 345=q 0*q 9:=H 345 _ rfl;have e346:q 346=q 345+q 21:=H 346 _ rfl;have e347:q 347=q 346+q 4:=H 347 _ rfl;have e348:q 348=q 1*q 9:=H 348 _ rfl;have e349:q 349=q 348+q 22:=H 349 _ rfl;have e350:q 350=q 349+q 5:=H 350 _ rfl;have e382:q 382=q 2*q 9:=H 382 _ rfl;have e383:q 383=q 19+q 382:=H 383 _ rfl;have e384:q 384=q 383+q 4:=H 384 _ rfl;have e385:q 385=q 3*q 9:=H 385 _ rfl;have e386:q 386=q 20+q 385:=H 386 _ rfl;have e387:q 387=q 386+q 5:=H 387 _ rfl;have e714:q 714=q 698*q 18:=H 714 _ rfl;have e715:q 715=q 699*q 18:=H 715 _ rfl;have e716:q 716=q 704*q 9:=H 716 _ rfl;have e717:q 717=q 705*q 9:=H 717 _ rfl;have e718:q 718=q 714+q 716:=H 718 _ rfl;have e719:q 719=q 715+q 717:=H 719 _ rfl;have e720:q 720=q 718+q 712:=H 720 _ rfl;have e721:q 721=q 719+q 713:=H 721 _ rfl;have e722:q 722=q 720-q 18:=H 722 _ rfl;have e723:q 723=q 721-q 9:=H 723 _ rfl;have e724:q 724=q 722/q 29:=H 724 _ rfl;have e725:q 725=q 723/q 29:=H 725 _ rfl;have e726:q 726=q 18+q 724:=H 726 _ rfl;have e727:q 727=q 9+q 725:=H 727 _ rfl;have e728:q 728=q 722*q 726:=H 728 _ rfl;have e729:q 729=q 723*q 727:=H 729 _ rfl;have e730:q 730=q 728+q 729:=H 730 _ rfl;have e731:q 731=-q 730:=H 731 _ rfl;have e796:q 796=q 722*fac [q 722,q 723,q 731]:=H 796 _ rfl;have e797:q 797=q 723*fac [q 722,q 723,q 731]:=H 797 _ rfl;have e798:q 798=q 731*fac [q 722,q 723,q 731]:=H 798 _ rfl;have e799:q 799=q 640*fac [q 640,q 641,q 649]:=H 799 _ rfl;have e800:q 800=q 641*fac [q 640,q 641,q 649]:=H 800 _ rfl;have e801:q 801=q 649*fac [q 640,q 641,q 649]:=H 801 _ rfl;have e802:q 802=q 796*q 18:=H 802 _ rfl;have e803:q 803=q 797*q 18:=H 803 _ rfl;have e804:q 804=q 802+q 803:=H 804 _ rfl;have e805:q 805=q 804+q 798:=H 805 _ rfl;have e806:q 806=q 29*q 805:=H 806 _ rfl;have e807:q 807=q 796*q 796:=H 807 _ rfl;have e808:q 808=q 797*q 797:=H 808 _ rfl;have e809:q 809=q 807+q 808:=H 809 _ rfl;have e810:q 810=q 806/q 809:=H 810 _ rfl;have e811:q 811=q 796*q 810:=H 811 _ rfl;have e812:q 812=q 797*q 810:=H 812 _ rfl;have e813:q 813=q 18-q 811:=H 813 _ rfl;have e814:q 814=q 18-q 812:=H 814 _ rfl;have e815:q 815=q 799*q 813:=H 815 _ rfl;have e816:q 816=q 800*q 814:=H 816 _ rfl;have e817:q 817=q 815+q 816:=H 817 _ rfl;have e818:q 818=q 817+q 801:=H 818 _ rfl;have e819:q 819=q 29*q 818:=H 819 _ rfl;have e820:q 820=q 799*q 799:=H 820 _ rfl;have e821:q 821=q 800*q 800:=H 821 _ rfl;have e822:q 822=q 820+q 821:=H 822 _ rfl;have e823:q 823=q 819/q 822:=H 823 _ rfl;have e824:q 824=q 799*q 823:=H 824 _ rfl;have e825:q 825=q 800*q 823:=H 825 _ rfl;have e826:q 826=q 813-q 824:=H 826 _ rfl;have e827:q 827=q 814-q 825:=H 827 _ rfl;have e828:q 828=q 826-q 25:=H 828 _ rfl;have e829:q 829=q 827-q 26:=H 829 _ rfl;have e830:q 830=q 796*q 9:=H 830 _ rfl;have e831:q 831=q 830+q 803:=H 831 _ rfl;have e832:q 832=q 831+q 798:=H 832 _ rfl;have e833:q 833=q 29*q 832:=H 833 _ rfl;have e834:q 834=q 833/q 809:=H 834 _ rfl;have e835:q 835=q 796*q 834:=H 835 _ rfl;have e836:q 836=q 797*q 834:=H 836 _ rfl;have e837:q 837=q 9-q 835:=H 837 _ rfl;have e838:q 838=q 18-q 836:=H 838 _ rfl;have e839:q 839=q 799*q 837:=H 839 _ rfl;have e840:q 840=q 800*q 838:=H 840 _ rfl;have e841:q 841=q 839+q 840:=H 841 _ rfl;have e842:q 842=q 841+q 801:=H 842 _ rfl;have e843:q 843=q 29*q 842:=H 843 _ rfl;have e844:q 844=q 843/q 822:=H 844 _ rfl;have e845:q 845=q 799*q 844:=H 845 _ rfl;have e846:q 846=q 800*q 844:=H 846 _ rfl;have e847:q 847=q 837-q 845:=H 847 _ rfl;have e848:q 848=q 838-q 846:=H 848 _ rfl;have e849:q 849=q 847-q 347:=H 849 _ rfl;have e850:q 850=q 848-q 350:=H 850 _ rfl;have e851:q 851=q 797*q 9:=H 851 _ rfl;have e852:q 852=q 802+q 851:=H 852 _ rfl;have e853:q 853=q 852+q 798:=H 853 _ rfl;have e854:q 854=q 29*q 853:=H 854 _ rfl;have e855:q 855=q 854/q 809:=H 855 _ rfl;have e856:q 856=q 796*q 855:=H 856 _ rfl;have e857:q 857=q 797*q 855:=H 857 _ rfl;have e858:q 858=q 18-q 856:=H 858 _ rfl;have e859:q 859=q 9-q 857:=H 859 _ rfl;have e860:q 860=q 799*q 858:=H 860 _ rfl;have e861:q 861=q 800*q 859:=H 861 _ rfl;have e862:q 862=q 860+q 861:=H 862 _ rfl;have e863:q 863=q 862+q 801:=H 863 _ rfl;have e864:q 864=q 29*q 863:=H 864 _ rfl;have e865:q 865=q 864/q 822:=H 865 _ rfl;have e866:q 866=q 799*q 865:=H 866 _ rfl;have e867:q 867=q 800*q 865:=H 867 _ rfl;have e868:q 868=q 858-q 866:=H 868 _ rfl;have e869:q 869=q 859-q 867:=H 869 _ rfl;have e870:q 870=q 868-q 384:=H 870 _ rfl;have e871:q 871=q 869-q 387:=H 871 _ rfl
 exact mM_E100z e9 e18 e19 e20 e21 e22 e23 e24 e25 e26 e29 e345 e346 e347 e348 e349 e350 e382 e383 e384 e385 e386 e387 e714 e715 e716 e717 e718 e719 e720 e721 e722 e723 e724 e725 e726 e727 e728 e729 e730 e731 e796 e797 e798 e799 e800 e801 e802 e803 e804 e805 e806 e807 e808 e809 e810 e811 e812 e813 e814 e815 e816 e817 e818 e819 e820 e821 e822 e823 e824 e825 e826 e827 e828 e829 e830 e831 e832 e833 e834 e835 e836 e837 e838 e839 e840 e841 e842 e843 e844 e845 e846 e847 e848 e849 e850 e851 e852 e853 e854 e855 e856 e857 e858 e859 e860 e861 e862 e863 e864 e865 e866 e867 e868 e869 e870 e871
theorem mM_S27z {z0 z1 z2 z3 z4 z5 z9 z18 z19 z20 z21 z22 z23 z24 z25 z26 z27 z28 z29 z30 z31 z32 z33 z34 z35 z36 z37 z38 z39 z40 z41 z42 z43 z44 z45 z46 z47 z48 z49 z50 z51 z52 z53 z54 z55 z56 z57 z58 z59 z60 z61 z62 z63 z64 z65 z66 z67 z68 z69 z70 z71 z72 z73 z74 z75 z76 z77 z78 z79 z80 z81 z82 z83 z84 z85 z86 z87 z88 z89 z90 z91 z92 z93 z94 z95 z96 z97 z98 z99 z100 z101 : Rat} : z9=1→z18=0→z19=z0*z18→z20=z1*z18→z21=z2*z18→z22=z3*z18→z23=z19+z21→z24=z20+z22→z25=z23+z4→z26=z24+z5→z27=z25-z18→z28=z26-z18→z29=2→z30=z27/z29→z31=z28/z29→z32=z18+z30→z33=z18+z31→z34=z27*z32→z35=z28*z33→z36=z34+z35→z37=-z36→z38=z27*z18→z39=z28*z18→z40=z38+z39→z41=z40+z37→z42=-z41→z43=z27*z42→z44=z28*z42→z45=z27*z27→z46=z28*z28→z47=z45+z46→z48=z43/z47→z49=z44/z47→z50=z48*z29→z51=z49*z29→z52=z18+z50→z53=z18+z51→z54=z27*z9→z55=z54+z39→z56=z55+z37→z57=-z56→z58=z27*z57→z59=z28*z57→z60=z58/z47→z61=z59/z47→z62=z60*z29→z63=z61*z29→z64=z9+z62→z65=z18+z63→z66=z64-z52→z67=z65-z53→z68=z28*z9→z69=z38+z68→z70=z69+z37→z71=-z70→z72=z27*z71→z73=z28*z71→z74=z72/z47→z75=z73/z47→z76=z74*z29→z77=z75*z29→z78=z18+z76→z79=z9+z77→z80=z78-z52→z81=z79-z53→z82=z66*z0→z83=z67*z0→z84=z80*z1→z85=z81*z1→z86=z82+z84→z87=z83+z85→z88=z66*z2→z89=z67*z2→z90=z80*z3→z91=z81*z3→z92=z88+z90→z93=z89+z91→z94=z66*z4→z95=z67*z4→z96=z80*z5→z97=z81*z5→z98=z94+z96→z99=z95+z97→z100=z98+z52→z101=z99+z53→(MIso z0 z2 z1 z3)→(¬ (z27=0∧z28=0))→((MIso z86 z92 z87 z93∧z100=0∧z101=0)∧MTo z27 z28 z37 z0 z2 z4 z1 z3 z5 z86 z92 z100 z87 z93 z101) := by
 intro e9 e18 e19 e20 e21 e22 e23 e24 e25 e26 e27 e28 e29 e30 e31 e32 e33 e34 e35 e36 e37 e38 e39 e40 e41 e42 e43 e44 e45 e46 e47 e48 e49 e50 e51 e52 e53 e54 e55 e56 e57 e58 e59 e60 e61 e62 e63 e64 e65 e66 e67 e68 e69 e70 e71 e72 e73 e74 e75 e76 e77 e78 e79 e80 e81 e82 e83 e84 e85 e86 e87 e88 e89 e90 e91 e92 e93 e94 e95 e96 e97 e98 e99 e100 e101
 intro h1 u
 have n47 : z47 ≠ 0 := by
  have hp := sq_pos u
  rw [← e45,← e46,← e47] at hp
  intro h
  rw [h] at hp
  exact absurd hp (by decide)
 obtain ⟨i,hi0⟩ : ∃ i,i*z47=2 := ⟨2 / z47,Rat.div_mul_cancel n47⟩
 have hi : i*(z27*z27+z28*z28)=2 := by rw [← e45,← e46,← e47]; exact hi0
 have q50 : z50=z43*i := by rw [e50,e48,e29]; exact mr_q n47 hi0
 have q51 : z51=z44*i := by rw [e51,e49,e29]; exact mr_q n47 hi0
 have q62 : z62=z58*i := by rw [e62,e60,e29]; exact mr_q n47 hi0
 have q63 : z63=z59*i := by rw [e63,e61,e29]; exact mr_q n47 hi0
 have q76 : z76=z72*i := by rw [e76,e74,e29]; exact mr_q n47 hi0
 have q77 : z77=z73*i := by rw [e77,e75,e29]; exact mr_q n47 hi0
 have r66 : z66=1 - z27*z27*i := by
  rw [e66,e64,q62,e58,e57,e56,e55,e54,e52,q50,e43,e42,e41,e40,e39,e38,e18,e9]
  clear hi hi0; grind
 have r67 : z67=-(z27*z28*i) := by
  rw [e67,e65,q63,e59,e57,e56,e55,e54,e53,q51,e44,e42,e41,e40,e39,e38,e18,e9]
  clear hi hi0; grind
 have r80 : z80=-(z27*z28*i) := by
  rw [e80,e78,q76,e72,e71,e70,e69,e68,e52,q50,e43,e42,e41,e40,e39,e38,e18,e9]
  clear hi hi0; grind
 have r81 : z81=1 - z28*z28*i := by
  rw [e81,e79,q77,e73,e71,e70,e69,e68,e53,q51,e44,e42,e41,e40,e39,e38,e18,e9]
  clear hi hi0; grind
 have r52 : z52=-(z27*z37*i) := by
  rw [e52,q50,e43,e42,e41,e40,e39,e38,e18]
  clear hi hi0; grind
 have r53 : z53=-(z28*z37*i) := by
  rw [e53,q51,e44,e42,e41,e40,e39,e38,e18]
  clear hi hi0; grind
 have s0 : z86=(1 - z27*z27*i)*z0+-(z27*z28*i)*z1 := by rw [e86,e82,e84,r66,r80]
 have s1 : z87=-(z27*z28*i)*z0+(1 - z28*z28*i)*z1 := by rw [e87,e83,e85,r67,r81]
 have s2 : z92=(1 - z27*z27*i)*z2+-(z27*z28*i)*z3 := by rw [e92,e88,e90,r66,r80]
 have s3 : z93=-(z27*z28*i)*z2+(1 - z28*z28*i)*z3 := by rw [e93,e89,e91,r67,r81]
 have s4 : z100=(1 - z27*z27*i)*z4+-(z27*z28*i)*z5+-(z27*z37*i) := by rw [e100,e98,e94,e96,r66,r80,r52]
 have s5 : z101=-(z27*z28*i)*z4+(1 - z28*z28*i)*z5+-(z28*z37*i) := by rw [e101,e99,e95,e97,r67,r81,r53]
 have hA0 : z27=z0*z18+z2*z18+z4 - z18 := by rw [e27,e25,e23,e19,e21]
 have hB0 : z28=z1*z18+z3*z18+z5 - z18 := by rw [e28,e26,e24,e20,e22]
 have hC0 : z37=-(z27*(z18+z27 / 2)+z28*(z18+z28 / 2)) := by rw [e37,e36,e35,e34,e33,e32,e31,e30,e29]
 have h0 := h1
 have is := mm_iso h0 hi s0 s1 s2 s3
 have bk := (mm_half (X := z0*z18+z2*z18+z4) (Z := z1*z18+z3*z18+z5) hi hA0 hB0 hC0).2
 have mp := mm_map (x := z18) (y := z18) s0 s1 s2 s3 s4 s5
 have fx := mp.1.trans bk.1
 have fy := mp.2.trans bk.2
 rw [e18] at fx fy
 have w1 : z100=0 := by clear fy mp bk; grind
 have w2 : z101=0 := by clear fx mp bk w1; grind
 exact ⟨⟨is,w1,w2⟩,i,hi,s0,s1,s2,s3,s4,s5⟩
theorem mM_S27 (H : mM_Q q σ) : (MIso (q 0) (q 2) (q 1) (q 3))→(¬ (q 27=0∧q 28=0))→((MIso (q 86) (q 92) (q 87) (q 93)∧q 100=0∧q 101=0)∧MTo (q 27) (q 28) (q 37) (q 0) (q 2) (q 4) (q 1) (q 3) (q 5) (q 86) (q 92) (q 100) (q 87) (q 93) (q 101)) := by
 have e9:q 9=1:=(H 9 _ rfl).trans mM_c9;have e18:q 18=0:=(H 18 _ rfl).trans mM_c18;have e19:q 19=q 0*q 18:=H 19 _ rfl;have e20:q 20=q 1*q 18:=H 20 _ rfl;have e21:q 21=q 2*q 18:=H 21 _ rfl;have e22:q 22=q 3*q 18:=H 22 _ rfl;have e23:q 23=q 19+q 21:=H 23 _ rfl;have e24:q 24=q 20+q 22:=H 24 _ rfl;have e25:q 25=q 23+q 4:=H 25 _ rfl;have e26:q 26=q 24+q 5:=H 26 _ rfl;have e27:q 27=q 25-q 18:=H 27 _ rfl;have e28:q 28=q 26-q 18:=H 28 _ rfl;have e29:q 29=2:=(H 29 _ rfl).trans mM_c29;have e30:q 30=q 27/q 29:=H 30 _ rfl;have e31:q 31=q 28/q 29:=H 31 _ rfl;have e32:q 32=q 18+q 30:=H 32 _ rfl;have e33:q 33=q 18+q 31:=H 33 _ rfl;have e34:q 34=q 27*q 32:=H 34 _ rfl;have e35:q 35=q 28*q 33:=H 35 _ rfl;have e36:q 36=q 34+q 35:=H 36 _ rfl;have e37:q 37=-q 36:=H 37 _ rfl;have e38:q 38=q 27*q 18:=H 38 _ rfl;have e39:q 39=q 28*q 18:=H 39 _ rfl;have e40:q 40=q 38+q 39:=H 40 _ rfl;have e41:q 41=q 40+q 37:=H 41 _ rfl;have e42:q 42=-q 41:=H 42 _ rfl;have e43:q 43=q 27*q 42:=H 43 _ rfl;have e44:q 44=q 28*q 42:=H 44 _ rfl;have e45:q 45=q 27*q 27:=H 45 _ rfl;have e46:q 46=q 28*q 28:=H 46 _ rfl;have e47:q 47=q 45+q 46:=H 47 _ rfl;have e48:q 48=q 43/q 47:=H 48 _ rfl;have e49:q 49=q 44/q 47:=H 49 _ rfl;have e50:q 50=q 48*q 29:=H 50 _ rfl;have e51:q 51=q 49*q 29:=H 51 _ rfl;have e52:q 52=q 18+q 50:=H 52 _ rfl;have e53:q 53=q 18+q 51:=H 53 _ rfl;have e54:q 54=q 27*q 9:=H 54 _ rfl;have e55:q 55=q 54+q 39:=H 55 _ rfl;have e56:q 56=q 55+q 37:=H 56 _ rfl;have e57:q 57=-q 56:=H 57 _ rfl;have e58:q 58=q 27*q 57:=H 58 _ rfl;have e59:q 59=q 28*q 57:=H 59 _ rfl;have e60:q 60=q 58/q 47:=H 60 _ rfl;have e61:q 61=q 59/q 47:=H 61 _ rfl;have e62:q 62=q 60*q 29:=H 62 _ rfl;have e63:q 63=q 61*q 29:=H 63 _ rfl;have e64:q 64=q 9+q 62:=H 64 _ rfl;have e65:q 65=q 18+q 63:=H 65 _ rfl;have e66:q 66=q 64-q 52:=H 66 _ rfl;have e67:q 67=q 65-q 53:=H 67 _ rfl;have e68:q 68=q 28*q 9:=H 68 _ rfl;have e69:q 69=q 38+q 68:=H 69 _ rfl;have e70:q 70=q 69+q 37:=H 70 _ rfl;have e71:q 71=-q 70:=H 71 _ rfl;have e72:q 72=q 27*q 71:=H 72 _ rfl;have e73:q 73=q 28*q 71:=H 73 _ rfl;have e74:q 74=q 72/q 47:=H 74 _ rfl;have e75:q 75=q 73/q 47:=H 75 _ rfl;have e76:q 76=q 74*q 29:=H 76 _ rfl;have e77:q 77=q 75*q 29:=H 77 _ rfl;have e78:q 78=q 18+q 76:=H 78 _ rfl;have e79:q 79=q 9+q 77:=H 79 _ rfl;have e80:q 80=q 78-q 52:=H 80 _ rfl;have e81:q 81=q 79-q 53:=H 81 _ rfl;have e82:q 82=q 66*q 0:=H 82 _ rfl;have e83:q 83=q 67*q 0:=H 83 _ rfl;have e84:q 84=q 80*q 1:=H 84 _ rfl;have e85:q 85=q 81*q 1:=H 85 _ rfl;have e86:q 86=q 82+q 84:=H 86 _ rfl;have e87:q 87=q 83+q 85:=H 87 _ rfl;have e88:q 88=q 66*q 2:=H 88 _ rfl;have e89:q 89=q 67*q 2:=H 89 _ rfl;have e90:q 90=q 80*q 3:=H 90 _ rfl;have e91:q 91=q 81*q 3:=H 91 _ rfl;have e92:q 92=q 88+q 90:=H 92 _ rfl;have e93:q 93=q 89+q 91:=H 93 _ rfl;have e94:q 94=q 66*q 4:=H 94 _ rfl;have e95:q 95=q 67*q 4:=H 95 _ rfl;have e96:q 96=q 80*q 5:=H 96 _ rfl;have e97:q 97=q 81*q 5:=H 97 _ rfl;have e98:q 98=q 94+q 96:=H 98 _ rfl;have e99:q 99=q 95+q 97:=H 99 _ rfl;have e100:q 100=q 98+q 52:=H 100 _ rfl;have e101:q 101=q 99+q 53:=H 101 _ rfl
 exact mM_S27z e9 e18 e19 e20 e21 e22 e23 e24 e25 e26 e27 e28 e29 e30 e31 e32 e33 e34 e35 e36 e37 e38 e39 e40 e41 e42 e43 e44 e45 e46 e47 e48 e49 e50 e51 e52 e53 e54 e55 e56 e57 e58 e59 e60 e61 e62 e63 e64 e65 e66 e67 e68 e69 e70 e71 e72 e73 e74 e75 e76 e77 e78 e79 e80 e81 e82 e83 e84 e85 e86 e87 e88 e89 e90 e91 e92 e93 e94 e95 e96 e97 e98 e99 e100 e101
theorem mM_K110 (H : mM_Q q σ) : (MIso (q 86) (q 92) (q 87) (q 93)∧q 100=0∧q 101=0)→(q 110=0∧q 111=0)→(MIso (q 86) (q 92) (q 87) (q 93)∧q 100=0∧q 101=0∧q 86=1∧q 87=0) := by
 have e9:q 9=1:=(H 9 _ rfl).trans mM_c9;have e18:q 18=0:=(H 18 _ rfl).trans mM_c18;have e102:q 102=q 86*q 9:=H 102 _ rfl;have e103:q 103=q 87*q 9:=H 103 _ rfl;have e104:q 104=q 92*q 18:=H 104 _ rfl;have e105:q 105=q 93*q 18:=H 105 _ rfl;have e106:q 106=q 102+q 104:=H 106 _ rfl;have e107:q 107=q 103+q 105:=H 107 _ rfl;have e108:q 108=q 106+q 100:=H 108 _ rfl;have e109:q 109=q 107+q 101:=H 109 _ rfl;have e110:q 110=q 108-q 9:=H 110 _ rfl;have e111:q 111=q 109-q 18:=H 111 _ rfl
 clear H
 intro h1 u
 have u1 := u.1
 have u2 := u.2
 rw [e110,e108,e106,e102,e104,e9,e18] at u1
 rw [e111,e109,e107,e103,e105,e9,e18] at u2
 obtain ⟨h0,h2,h3⟩ := h1
 refine ⟨h0,h2,h3,?_,?_⟩
 ·rw [h2] at u1; clear u2 h0 u; grind
 ·rw [h3] at u2; clear u1 h0 u; grind
theorem mM_L27 (H : mM_Q q σ) : (¬ (q 27=0∧q 28=0))→(q 272=0)→(¬ (q 273=0)) := by
 have e272:q 272=q 27*fac [q 27,q 28,q 37]:=H 272 _ rfl;have e273:q 273=q 28*fac [q 27,q 28,q 37]:=H 273 _ rfl
 clear H
 intro u h
 have ng : fac [q 27,q 28,q 37] ≠ 0 := fun h => u ⟨fac_zero (by simp) h,fac_zero (by simp) h⟩
 rw [e272] at h
 rw [e273]
 exact fun q => u ⟨(Rat.mul_eq_zero.1 h).resolve_right ng,(Rat.mul_eq_zero.1 q).resolve_right ng⟩
theorem mM_E011 (H : mM_Q q σ) : (MIso (q 0) (q 2) (q 1) (q 3))→(¬ (q 27=0∧q 28=0))→(MTo (q 27) (q 28) (q 37) (q 0) (q 2) (q 4) (q 1) (q 3) (q 5) (q 86) (q 92) (q 100) (q 87) (q 93) (q 101))→(q 110=0∧q 111=0)→(q 462=0∧q 463=0)→((q 616=0∧q 617=0)∧(q 627=0∧q 628=0)∧(q 638=0∧q 639=0)) := by
 have e9:q 9=1:=(H 9 _ rfl).trans mM_c9;have e18:q 18=0:=(H 18 _ rfl).trans mM_c18;have e19:q 19=q 0*q 18:=H 19 _ rfl;have e20:q 20=q 1*q 18:=H 20 _ rfl;have e21:q 21=q 2*q 18:=H 21 _ rfl;have e22:q 22=q 3*q 18:=H 22 _ rfl;have e23:q 23=q 19+q 21:=H 23 _ rfl;have e24:q 24=q 20+q 22:=H 24 _ rfl;have e25:q 25=q 23+q 4:=H 25 _ rfl;have e26:q 26=q 24+q 5:=H 26 _ rfl;have e27:q 27=q 25-q 18:=H 27 _ rfl;have e28:q 28=q 26-q 18:=H 28 _ rfl;have e29:q 29=2:=(H 29 _ rfl).trans mM_c29;have e30:q 30=q 27/q 29:=H 30 _ rfl;have e31:q 31=q 28/q 29:=H 31 _ rfl;have e32:q 32=q 18+q 30:=H 32 _ rfl;have e33:q 33=q 18+q 31:=H 33 _ rfl;have e34:q 34=q 27*q 32:=H 34 _ rfl;have e35:q 35=q 28*q 33:=H 35 _ rfl;have e36:q 36=q 34+q 35:=H 36 _ rfl;have e37:q 37=-q 36:=H 37 _ rfl;have e102:q 102=q 86*q 9:=H 102 _ rfl;have e103:q 103=q 87*q 9:=H 103 _ rfl;have e104:q 104=q 92*q 18:=H 104 _ rfl;have e105:q 105=q 93*q 18:=H 105 _ rfl;have e106:q 106=q 102+q 104:=H 106 _ rfl;have e107:q 107=q 103+q 105:=H 107 _ rfl;have e108:q 108=q 106+q 100:=H 108 _ rfl;have e109:q 109=q 107+q 101:=H 109 _ rfl;have e110:q 110=q 108-q 9:=H 110 _ rfl;have e111:q 111=q 109-q 18:=H 111 _ rfl;have e272:q 272=q 27*fac [q 27,q 28,q 37]:=H 272 _ rfl;have e273:q 273=q 28*fac [q 27,q 28,q 37]:=H 273 _ rfl;have e274:q 274=q 37*fac [q 27,q 28,q 37]:=H 274 _ rfl;have e306:q 306=q 272*q 272:=H 306 _ rfl;have e307:q 307=q 273*q 273:=H 307 _ rfl;have e308:q 308=q 306+q 307:=H 308 _ rfl;have e345:q 345=q 0*q 9:=H 345 _ rfl;have e346:q 346=q 345+q 21:=H 346 _ rfl;have e347:q 347=q 346+q 4:=H 347 _ rfl;have e348:q 348=q 1*q 9:=H 348 _ rfl;have e349:q 349=q 348+q 22:=H 349 _ rfl;have e350:q 350=q 349+q 5:=H 350 _ rfl;have e382:q 382=q 2*q 9:=H 382 _ rfl;have e383:q 383=q 19+q 382:=H 383 _ rfl;have e384:q 384=q 383+q 4:=H 384 _ rfl;have e385:q 385=q 3*q 9:=H 385 _ rfl;have e386:q 386=q 20+q 385:=H 386 _ rfl;have e387:q 387=q 386+q 5:=H 387 _ rfl;have e454:q 454=q 86*q 18:=H 454 _ rfl;have e455:q 455=q 87*q 18:=H 455 _ rfl;have e456:q 456=q 92*q 9:=H 456 _ rfl;have e457:q 457=q 93*q 9:=H 457 _ rfl;have e458:q 458=q 454+q 456:=H 458 _ rfl;have e459:q 459=q 455+q 457:=H 459 _ rfl;have e460:q 460=q 458+q 100:=H 460 _ rfl;have e461:q 461=q 459+q 101:=H 461 _ rfl;have e462:q 462=q 460-q 18:=H 462 _ rfl;have e463:q 463=q 461-q 9:=H 463 _ rfl;have e606:q 606=q 272*q 18:=H 606 _ rfl;have e607:q 607=q 273*q 18:=H 607 _ rfl;have e608:q 608=q 606+q 607:=H 608 _ rfl;have e609:q 609=q 608+q 274:=H 609 _ rfl;have e610:q 610=q 29*q 609:=H 610 _ rfl;have e611:q 611=q 610/q 308:=H 611 _ rfl;have e612:q 612=q 272*q 611:=H 612 _ rfl;have e613:q 613=q 273*q 611:=H 613 _ rfl;have e614:q 614=q 18-q 612:=H 614 _ rfl;have e615:q 615=q 18-q 613:=H 615 _ rfl;have e616:q 616=q 614-q 25:=H 616 _ rfl;have e617:q 617=q 615-q 26:=H 617 _ rfl;have e618:q 618=q 272*q 9:=H 618 _ rfl;have e619:q 619=q 618+q 607:=H 619 _ rfl;have e620:q 620=q 619+q 274:=H 620 _ rfl;have e621:q 621=q 29*q 620:=H 621 _ rfl;have e622:q 622=q 621/q 308:=H 622 _ rfl;have e623:q 623=q 272*q 622:=H 623 _ rfl;have e624:q 624=q 273*q 622:=H 624 _ rfl;have e625:q 625=q 9-q 623:=H 625 _ rfl;have e626:q 626=q 18-q 624:=H 626 _ rfl;have e627:q 627=q 625-q 347:=H 627 _ rfl;have e628:q 628=q 626-q 350:=H 628 _ rfl;have e629:q 629=q 273*q 9:=H 629 _ rfl;have e630:q 630=q 606+q 629:=H 630 _ rfl;have e631:q 631=q 630+q 274:=H 631 _ rfl;have e632:q 632=q 29*q 631:=H 632 _ rfl;have e633:q 633=q 632/q 308:=H 633 _ rfl;have e634:q 634=q 272*q 633:=H 634 _ rfl;have e635:q 635=q 273*q 633:=H 635 _ rfl;have e636:q 636=q 18-q 634:=H 636 _ rfl;have e637:q 637=q 9-q 635:=H 637 _ rfl;have e638:q 638=q 636-q 384:=H 638 _ rfl;have e639:q 639=q 637-q 387:=H 639 _ rfl
 clear H
 intro f u0 o0 y1 y2
 have hA0 : q 27=q 0*q 18+q 2*q 18+q 4 - q 18 := by rw [e27,e25,e23,e19,e21]
 have hB0 : q 28=q 1*q 18+q 3*q 18+q 5 - q 18 := by rw [e28,e26,e24,e20,e22]
 have hC0 : q 37=-(q 27*(q 18+q 27 / 2)+q 28*(q 18+q 28 / 2)) := by rw [e37,e36,e35,e34,e33,e32,e31,e30,e29]
 have t00 := mm_rp u0 hA0 hB0 hC0 e272 e273 e274 e606 e607 e608 e609 e29 e610 e306 e307 e308 e611 e612 e613 e614 e615
 have t10 := mm_rs (mm_ng u0) o0 e272 e273 e274 e618 e607 e619 e620 e29 e621 e306 e307 e308 e622 e623 e624 e625 e626 ⟨by
  have h := y1.1
  rw [e110,e108,e106,e102,e104] at h
  exact (mm_eq h).symm,by
  have h := y1.2
  rw [e111,e109,e107,e103,e105] at h
  exact (mm_eq h).symm⟩
 have t20 := mm_rs (mm_ng u0) o0 e272 e273 e274 e606 e629 e630 e631 e29 e632 e306 e307 e308 e633 e634 e635 e636 e637 ⟨by
  have h := y2.1
  rw [e462,e460,e458,e454,e456] at h
  exact (mm_eq h).symm,by
  have h := y2.2
  rw [e463,e461,e459,e455,e457] at h
  exact (mm_eq h).symm⟩
 exact ⟨mm_sub e616 e617 (t00.1.trans (by rw [e25,e23,e19,e21])) (t00.2.trans (by rw [e26,e24,e20,e22])),mm_sub e627 e628 (t10.1.trans (by rw [e347,e346,e345,e21])) (t10.2.trans (by rw [e350,e349,e348,e22])),mm_sub e638 e639 (t20.1.trans (by rw [e384,e383,e19,e382])) (t20.2.trans (by rw [e387,e386,e20,e385]))⟩
theorem mM_L462 (H : mM_Q q σ) : (MIso (q 86) (q 92) (q 87) (q 93)∧q 100=0∧q 101=0∧q 86=1∧q 87=0)→(¬ (q 462=0∧q 463=0))→((q 536=0)∧(¬ (q 537=0))) := by
 have e9:q 9=1:=(H 9 _ rfl).trans mM_c9;have e18:q 18=0:=(H 18 _ rfl).trans mM_c18;have e454:q 454=q 86*q 18:=H 454 _ rfl;have e455:q 455=q 87*q 18:=H 455 _ rfl;have e456:q 456=q 92*q 9:=H 456 _ rfl;have e457:q 457=q 93*q 9:=H 457 _ rfl;have e458:q 458=q 454+q 456:=H 458 _ rfl;have e459:q 459=q 455+q 457:=H 459 _ rfl;have e460:q 460=q 458+q 100:=H 460 _ rfl;have e461:q 461=q 459+q 101:=H 461 _ rfl;have e462:q 462=q 460-q 18:=H 462 _ rfl;have e463:q 463=q 461-q 9:=H 463 _ rfl;have e536:q 536=q 462*fac [q 462,q 463,q 471]:=H 536 _ rfl;have e537:q 537=q 463*fac [q 462,q 463,q 471]:=H 537 _ rfl
 clear H
 intro h1 u
 have ng : fac [q 462,q 463,q 471] ≠ 0 := fun h => u ⟨fac_zero (by simp) h,fac_zero (by simp) h⟩
 obtain ⟨h0,h2,h3,h4,h5⟩ := h1
 have q1 : q 462=0 := by rw [e462,e460,e458,e454,e456,h2,mm_b0 h0 h4 h5,e18,e9]; grind
 rw [e536,e537]
 exact ⟨by rw [q1,Rat.zero_mul],fun h => u ⟨q1,(Rat.mul_eq_zero.1 h).resolve_right ng⟩⟩
theorem mM_E010z {z0 z1 z2 z3 z4 z5 z9 z18 z19 z20 z21 z22 z23 z24 z25 z26 z27 z28 z29 z37 z86 z87 z92 z93 z100 z101 z272 z273 z274 z306 z307 z308 z345 z346 z347 z348 z349 z350 z382 z383 z384 z385 z386 z387 z454 z455 z456 z457 z458 z459 z460 z461 z462 z463 z464 z465 z466 z467 z468 z469 z470 z471 z536 z537 z538 z539 z540 z541 z542 z543 z544 z545 z546 z547 z548 z549 z550 z551 z552 z553 z554 z555 z556 z557 z558 z559 z560 z561 z562 z563 z564 z565 z566 z567 z568 z569 z570 z571 z572 z573 z574 z575 z576 z577 z578 z579 z580 z581 z582 z583 z584 z585 z586 z587 z588 z589 z590 z591 z592 z593 z594 z595 z596 z597 z598 z599 z600 z601 z602 z603 z604 z605 : Rat} : z9=1→z18=0→z19=z0*z18→z20=z1*z18→z21=z2*z18→z22=z3*z18→z23=z19+z21→z24=z20+z22→z25=z23+z4→z26=z24+z5→z29=2→z272=z27*fac [z27,z28,z37]→z273=z28*fac [z27,z28,z37]→z274=z37*fac [z27,z28,z37]→z306=z272*z272→z307=z273*z273→z308=z306+z307→z345=z0*z9→z346=z345+z21→z347=z346+z4→z348=z1*z9→z349=z348+z22→z350=z349+z5→z382=z2*z9→z383=z19+z382→z384=z383+z4→z385=z3*z9→z386=z20+z385→z387=z386+z5→z454=z86*z18→z455=z87*z18→z456=z92*z9→z457=z93*z9→z458=z454+z456→z459=z455+z457→z460=z458+z100→z461=z459+z101→z462=z460-z18→z463=z461-z9→z464=z462/z29→z465=z463/z29→z466=z18+z464→z467=z9+z465→z468=z462*z466→z469=z463*z467→z470=z468+z469→z471=-z470→z536=z462*fac [z462,z463,z471]→z537=z463*fac [z462,z463,z471]→z538=z471*fac [z462,z463,z471]→z539=z536*z18→z540=z537*z18→z541=z539+z540→z542=z541+z538→z543=z29*z542→z544=z536*z536→z545=z537*z537→z546=z544+z545→z547=z543/z546→z548=z536*z547→z549=z537*z547→z550=z18-z548→z551=z18-z549→z552=z272*z550→z553=z273*z551→z554=z552+z553→z555=z554+z274→z556=z29*z555→z557=z556/z308→z558=z272*z557→z559=z273*z557→z560=z550-z558→z561=z551-z559→z562=z560-z25→z563=z561-z26→z564=z536*z9→z565=z564+z540→z566=z565+z538→z567=z29*z566→z568=z567/z546→z569=z536*z568→z570=z537*z568→z571=z9-z569→z572=z18-z570→z573=z272*z571→z574=z273*z572→z575=z573+z574→z576=z575+z274→z577=z29*z576→z578=z577/z308→z579=z272*z578→z580=z273*z578→z581=z571-z579→z582=z572-z580→z583=z581-z347→z584=z582-z350→z585=z537*z9→z586=z539+z585→z587=z586+z538→z588=z29*z587→z589=z588/z546→z590=z536*z589→z591=z537*z589→z592=z18-z590→z593=z9-z591→z594=z272*z592→z595=z273*z593→z596=z594+z595→z597=z596+z274→z598=z29*z597→z599=z598/z308→z600=z272*z599→z601=z273*z599→z602=z592-z600→z603=z593-z601→z604=z602-z384→z605=z603-z387→(MIso z86 z92 z87 z93∧z100=0∧z101=0∧z86=1∧z87=0)→(¬ (z27=0∧z28=0))→(MTo z27 z28 z37 z0 z2 z4 z1 z3 z5 z86 z92 z100 z87 z93 z101)→(¬ (z462=0∧z463=0))→((z562=0∧z563=0)∧(z583=0∧z584=0)∧(z604=0∧z605=0)) := by
 intro e9 e18 e19 e20 e21 e22 e23 e24 e25 e26 e29 e272 e273 e274 e306 e307 e308 e345 e346 e347 e348 e349 e350 e382 e383 e384 e385 e386 e387 e454 e455 e456 e457 e458 e459 e460 e461 e462 e463 e464 e465 e466 e467 e468 e469 e470 e471 e536 e537 e538 e539 e540 e541 e542 e543 e544 e545 e546 e547 e548 e549 e550 e551 e552 e553 e554 e555 e556 e557 e558 e559 e560 e561 e562 e563 e564 e565 e566 e567 e568 e569 e570 e571 e572 e573 e574 e575 e576 e577 e578 e579 e580 e581 e582 e583 e584 e585 e586 e587 e588 e589 e590 e591 e592 e593 e594 e595 e596 e597 e598 e599 e600 e601 e602 e603 e604 e605
 intro f u0 o0 u2
 have hA2 : z462=z86*z18+z92*z9+z100 - z18 := by rw [e462,e460,e458,e454,e456]
 have hB2 : z463=z87*z18+z93*z9+z101 - z9 := by rw [e463,e461,e459,e455,e457]
 have hC2 : z471=-(z462*(z18+z462 / 2)+z463*(z9+z463 / 2)) := by rw [e471,e470,e469,e468,e467,e466,e465,e464,e29]
 obtain ⟨f0,f1,f2,f3,f4⟩ := f
 have t02 := mm_rq u2 f0 hA2 hB2 hC2 e536 e537 e538 e539 e540 e541 e542 e29 e543 e544 e545 e546 e547 e548 e549 e550 e551 (by rw [f1,e18]; grind) (by rw [f2,e18]; grind)
 have t00 := mm_rs (mm_ng u0) o0 e272 e273 e274 e552 e553 e554 e555 e29 e556 e306 e307 e308 e557 e558 e559 e560 e561 t02
 have t12 := mm_rq u2 f0 hA2 hB2 hC2 e536 e537 e538 e564 e540 e565 e566 e29 e567 e544 e545 e546 e568 e569 e570 e571 e572 (by rw [f1,e9,e18,f3]; grind) (by rw [f2,e9,e18,f4]; grind)
 have t10 := mm_rs (mm_ng u0) o0 e272 e273 e274 e573 e574 e575 e576 e29 e577 e306 e307 e308 e578 e579 e580 e581 e582 t12
 have t22 := mm_rp u2 hA2 hB2 hC2 e536 e537 e538 e539 e585 e586 e587 e29 e588 e544 e545 e546 e589 e590 e591 e592 e593
 have t20 := mm_rs (mm_ng u0) o0 e272 e273 e274 e594 e595 e596 e597 e29 e598 e306 e307 e308 e599 e600 e601 e602 e603 t22
 exact ⟨mm_sub e562 e563 (t00.1.trans (by rw [e25,e23,e19,e21])) (t00.2.trans (by rw [e26,e24,e20,e22])),mm_sub e583 e584 (t10.1.trans (by rw [e347,e346,e345,e21])) (t10.2.trans (by rw [e350,e349,e348,e22])),mm_sub e604 e605 (t20.1.trans (by rw [e384,e383,e19,e382])) (t20.2.trans (by rw [e387,e386,e20,e385]))⟩
theorem mM_E010 (H : mM_Q q σ) : (MIso (q 86) (q 92) (q 87) (q 93)∧q 100=0∧q 101=0∧q 86=1∧q 87=0)→(¬ (q 27=0∧q 28=0))→(MTo (q 27) (q 28) (q 37) (q 0) (q 2) (q 4) (q 1) (q 3) (q 5) (q 86) (q 92) (q 100) (q 87) (q 93) (q 101))→(¬ (q 462=0∧q 463=0))→((q 562=0∧q 563=0)∧(q 583=0∧q 584=0)∧(q 604=0∧q 605=0)) := by
 have e9:q 9=1:=(H 9 _ rfl).trans mM_c9;have e18:q 18=0:=(H 18 _ rfl).trans mM_c18;have e19:q 19=q 0*q 18:=H 19 _ rfl;have e20:q 20=q 1*q 18:=H 20 _ rfl;have e21:q 21=q 2*q 18:=H 21 _ rfl;have e22:q 22=q 3*q 18:=H 22 _ rfl;have e23:q 23=q 19+q 21:=H 23 _ rfl;have e24:q 24=q 20+q 22:=H 24 _ rfl;have e25:q 25=q 23+q 4:=H 25 _ rfl;have e26:q 26=q 24+q 5:=H 26 _ rfl;have e29:q 29=2:=(H 29 _ rfl).trans mM_c29;have e272:q 272=q 27*fac [q 27,q 28,q 37]:=H 272 _ rfl;have e273:q 273=q 28*fac [q 27,q 28,q 37]:=H 273 _ rfl;have e274:q 274=q 37*fac [q 27,q 28,q 37]:=H 274 _ rfl;have e306:q 306=q 272*q 272:=H 306 _ rfl;have e307:q 307=q 273*q 273:=H 307 _ rfl;have e308:q 308=q 306+q 307:=H 308 _ rfl;have e345:q 345=q 0*q 9:=H 345 _ rfl;have e346:q 346=q 345+q 21:=H 346 _ rfl;have e347:q 347=q 346+q 4:=H 347 _ rfl;have e348:q 348=q 1*q 9:=H 348 _ rfl;have e349:q 349=q 348+q 22:=H 349 _ rfl;have e350:q 350=q 349+q 5:=H 350 _ rfl;have e382:q 382=q 2*q 9:=H 382 _ rfl;have e383:q 383=q 19+q 382:=H 383 _ rfl;have e384:q 384=q 383+q 4:=H 384 _ rfl;have e385:q 385=q 3*q 9:=H 385 _ rfl;have e386:q 386=q 20+q 385:=H 386 _ rfl;have e387:q 387=q 386+q 5:=H 387 _ rfl;have e454:q 454=q 86*q 18:=H 454 _ rfl;have e455:q 455=q 87*q 18:=H 455 _ rfl;have e456:q 456=q 92*q 9:=H 456 _ rfl;have e457:q 457=q 93*q 9:=H 457 _ rfl;have e458:q 458=q 454+q 456:=H 458 _ rfl;have e459:q 459=q 455+q 457:=H 459 _ rfl;have e460:q 460=q 458+q 100:=H 460 _ rfl;have e461:q 461=q 459+q 101:=H 461 _ rfl;have e462:q 462=q 460-q 18:=H 462 _ rfl;have e463:q 463=q 461-q 9:=H 463 _ rfl;have e464:q 464=q 462/q 29:=H 464 _ rfl;have e465:q 465=q 463/q 29:=H 465 _ rfl;have e466:q 466=q 18+q 464:=H 466 _ rfl;have e467:q 467=q 9+q 465:=H 467 _ rfl;have e468:q 468=q 462*q 466:=H 468 _ rfl;have e469:q 469=q 463*q 467:=H 469 _ rfl;have e470:q 470=q 468+q 469:=H 470 _ rfl;have e471:q 471=-q 470:=H 471 _ rfl;have e536:q 536=q 462*fac [q 462,q 463,q 471]:=H 536 _ rfl;have e537:q 537=q 463*fac [q 462,q 463,q 471]:=H 537 _ rfl;have e538:q 538=q 471*fac [q 462,q 463,q 471]:=H 538 _ rfl;have e539:q 539=q 536*q 18:=H 539 _ rfl;have e540:q 540=q 537*q 18:=H 540 _ rfl;have e541:q 541=q 539+q 540:=H 541 _ rfl;have e542:q 542=q 541+q 538:=H 542 _ rfl;have e543:q 543=q 29*q 542:=H 543 _ rfl;have e544:q 544=q 536*q 536:=H 544 _ rfl;have e545:q 545=q 537*q 537:=H 545 _ rfl;have e546:q 546=q 544+q 545:=H 546 _ rfl;have e547:q 547=q 543/q 546:=H 547 _ rfl;have e548:q 548=q 536*q 547:=H 548 _ rfl;have e549:q 549=q 537*q 547:=H 549 _ rfl;have e550:q 550=q 18-q 548:=H 550 _ rfl;have e551:q 551=q 18-q 549:=H 551 _ rfl;have e552:q 552=q 272*q 550:=H 552 _ rfl;have e553:q 553=q 273*q 551:=H 553 _ rfl;have e554:q 554=q 552+q 553:=H 554 _ rfl;have e555:q 555=q 554+q 274:=H 555 _ rfl;have e556:q 556=q 29*q 555:=H 556 _ rfl;have e557:q 557=q 556/q 308:=H 557 _ rfl;have e558:q 558=q 272*q 557:=H 558 _ rfl;have e559:q 559=q 273*q 557:=H 559 _ rfl;have e560:q 560=q 550-q 558:=H 560 _ rfl;have e561:q 561=q 551-q 559:=H 561 _ rfl;have e562:q 562=q 560-q 25:=H 562 _ rfl;have e563:q 563=q 561-q 26:=H 563 _ rfl;have e564:q 564=q 536*q 9:=H 564 _ rfl;have e565:q 565=q 564+q 540:=H 565 _ rfl;have e566:q 566=q 565+q 538:=H 566 _ rfl;have e567:q 567=q 29*q 566:=H 567 _ rfl;have e568:q 568=q 567/q 546:=H 568 _ rfl;have e569:q 569=q 536*q 568:=H 569 _ rfl;have e570:q 570=q 537*q 568:=H 570 _ rfl;have e571:q 571=q 9-q 569:=H 571 _ rfl;have e572:q 572=q 18-q 570:=H 572 _ rfl;have e573:q 573=q 272*q 571:=H 573 _ rfl;have e574:q 574=q 273*q 572:=H 574 _ rfl;have e575:q 575=q 573+q 574:=H 575 _ rfl;have e576:q 576=q 575+q 274:=H 576 _ rfl;have e577:q 577=q 29*q 576:=H 577 _ rfl;have e578:q 578=q 577/q 308:=H 578 _ rfl;have e579:q 579=q 272*q 578:=H 579 _ rfl;have e580:q 580=q 273*q 578:=H 580 _ rfl;have e581:q 581=q 571-q 579:=H 581 _ rfl;have e582:q 582=q 572-q 580:=H 582 _ rfl;have e583:q 583=q 581-q 347:=H 583 _ rfl;have e584:q 584=q 582-q 350:=H 584 _ rfl;have e585:q 585=q 537*q 9:=H 585 _ rfl;have e586:q 586=q 539+q 585:=H 586 _ rfl;have e587:q 587=q 586+q 538:=H 587 _ rfl;have e588:q 588=q 29*q 587:=H 588 _ rfl;have e589:q 589=q 588/q 546:=H 589 _ rfl;have e590:q 590=q 536*q 589:=H 590 _ rfl;have e591:q 591=q 537*q 589:=H 591 _ rfl;have e592:q 592=q 18-q 590:=H 592 _ rfl;have e593:q 593=q 9-q 591:=H 593 _ rfl;have e594:q 594=q 272*q 592:=H 594 _ rfl;have e595:q 595=q 273*q 593:=H 595 _ rfl;have e596:q 596=q 594+q 595:=H 596 _ rfl;have e597:q 597=q 596+q 274:=H 597 _ rfl;have e598:q 598=q 29*q 597:=H 598 _ rfl;have e599:q 599=q 598/q 308:=H 599 _ rfl;have e600:q 600=q 272*q 599:=H 600 _ rfl;have e601:q 601=q 273*q 599:=H 601 _ rfl;have e602:q 602=q 592-q 600:=H 602 _ rfl;have e603:q 603=q 593-q 601:=H 603 _ rfl;have e604:q 604=q 602-q 384:=H 604 _ rfl;have e605:q 605=q 603-q 387:=H 605 _ rfl
 exact mM_E010z e9 e18 e19 e20 e21 e22 e23 e24 e25 e26 e29 e272 e273 e274 e306 e307 e308 e345 e346 e347 e348 e349 e350 e382 e383 e384 e385 e386 e387 e454 e455 e456 e457 e458 e459 e460 e461 e462 e463 e464 e465 e466 e467 e468 e469 e470 e471 e536 e537 e538 e539 e540 e541 e542 e543 e544 e545 e546 e547 e548 e549 e550 e551 e552 e553 e554 e555 e556 e557 e558 e559 e560 e561 e562 e563 e564 e565 e566 e567 e568 e569 e570 e571 e572 e573 e574 e575 e576 e577 e578 e579 e580 e581 e582 e583 e584 e585 e586 e587 e588 e589 e590 e591 e592 e593 e594 e595 e596 e597 e598 e599 e600 e601 e602 e603 e604 e605
theorem mM_S110z {z9 z18 z29 z86 z87 z92 z93 z100 z101 z102 z103 z104 z105 z106 z107 z108 z109 z110 z111 z112 z113 z114 z115 z116 z117 z118 z119 z120 z121 z122 z123 z124 z125 z126 z127 z128 z129 z130 z131 z132 z133 z134 z135 z136 z137 z138 z139 z140 z141 z142 z143 z144 z145 z146 z147 z148 z149 z150 z151 z152 z153 z154 z155 z156 z157 z158 z159 z160 z161 z162 z163 z164 z165 z166 z167 z168 z169 z170 z171 z172 z173 z174 z175 z176 z177 z178 z179 z180 z181 z182 z183 : Rat} : z9=1→z18=0→z29=2→z102=z86*z9→z103=z87*z9→z104=z92*z18→z105=z93*z18→z106=z102+z104→z107=z103+z105→z108=z106+z100→z109=z107+z101→z110=z108-z9→z111=z109-z18→z112=z110/z29→z113=z111/z29→z114=z9+z112→z115=z18+z113→z116=z110*z114→z117=z111*z115→z118=z116+z117→z119=-z118→z120=z110*z18→z121=z111*z18→z122=z120+z121→z123=z122+z119→z124=-z123→z125=z110*z124→z126=z111*z124→z127=z110*z110→z128=z111*z111→z129=z127+z128→z130=z125/z129→z131=z126/z129→z132=z130*z29→z133=z131*z29→z134=z18+z132→z135=z18+z133→z136=z110*z9→z137=z136+z121→z138=z137+z119→z139=-z138→z140=z110*z139→z141=z111*z139→z142=z140/z129→z143=z141/z129→z144=z142*z29→z145=z143*z29→z146=z9+z144→z147=z18+z145→z148=z146-z134→z149=z147-z135→z150=z111*z9→z151=z120+z150→z152=z151+z119→z153=-z152→z154=z110*z153→z155=z111*z153→z156=z154/z129→z157=z155/z129→z158=z156*z29→z159=z157*z29→z160=z18+z158→z161=z9+z159→z162=z160-z134→z163=z161-z135→z164=z148*z86→z165=z149*z86→z166=z162*z87→z167=z163*z87→z168=z164+z166→z169=z165+z167→z170=z148*z92→z171=z149*z92→z172=z162*z93→z173=z163*z93→z174=z170+z172→z175=z171+z173→z176=z148*z100→z177=z149*z100→z178=z162*z101→z179=z163*z101→z180=z176+z178→z181=z177+z179→z182=z180+z134→z183=z181+z135→(MIso z86 z92 z87 z93∧z100=0∧z101=0)→(¬ (z110=0∧z111=0))→((MIso z168 z174 z169 z175∧z182=0∧z183=0∧z168=1∧z169=0)∧MTo z110 z111 z119 z86 z92 z100 z87 z93 z101 z168 z174 z182 z169 z175 z183) := by
 intro e9 e18 e29 e102 e103 e104 e105 e106 e107 e108 e109 e110 e111 e112 e113 e114 e115 e116 e117 e118 e119 e120 e121 e122 e123 e124 e125 e126 e127 e128 e129 e130 e131 e132 e133 e134 e135 e136 e137 e138 e139 e140 e141 e142 e143 e144 e145 e146 e147 e148 e149 e150 e151 e152 e153 e154 e155 e156 e157 e158 e159 e160 e161 e162 e163 e164 e165 e166 e167 e168 e169 e170 e171 e172 e173 e174 e175 e176 e177 e178 e179 e180 e181 e182 e183
 intro h1 u
 have n129 : z129 ≠ 0 := by
  have hp := sq_pos u
  rw [← e127,← e128,← e129] at hp
  intro h
  rw [h] at hp
  exact absurd hp (by decide)
 obtain ⟨i,hi0⟩ : ∃ i,i*z129=2 := ⟨2 / z129,Rat.div_mul_cancel n129⟩
 have hi : i*(z110*z110+z111*z111)=2 := by rw [← e127,← e128,← e129]; exact hi0
 have q132 : z132=z125*i := by rw [e132,e130,e29]; exact mr_q n129 hi0
 have q133 : z133=z126*i := by rw [e133,e131,e29]; exact mr_q n129 hi0
 have q144 : z144=z140*i := by rw [e144,e142,e29]; exact mr_q n129 hi0
 have q145 : z145=z141*i := by rw [e145,e143,e29]; exact mr_q n129 hi0
 have q158 : z158=z154*i := by rw [e158,e156,e29]; exact mr_q n129 hi0
 have q159 : z159=z155*i := by rw [e159,e157,e29]; exact mr_q n129 hi0
 have r148 : z148=1 - z110*z110*i := by
  rw [e148,e146,q144,e140,e139,e138,e137,e136,e134,q132,e125,e124,e123,e122,e121,e120,e18,e9]
  clear hi hi0; grind
 have r149 : z149=-(z110*z111*i) := by
  rw [e149,e147,q145,e141,e139,e138,e137,e136,e135,q133,e126,e124,e123,e122,e121,e120,e18,e9]
  clear hi hi0; grind
 have r162 : z162=-(z110*z111*i) := by
  rw [e162,e160,q158,e154,e153,e152,e151,e150,e134,q132,e125,e124,e123,e122,e121,e120,e18,e9]
  clear hi hi0; grind
 have r163 : z163=1 - z111*z111*i := by
  rw [e163,e161,q159,e155,e153,e152,e151,e150,e135,q133,e126,e124,e123,e122,e121,e120,e18,e9]
  clear hi hi0; grind
 have r134 : z134=-(z110*z119*i) := by
  rw [e134,q132,e125,e124,e123,e122,e121,e120,e18]
  clear hi hi0; grind
 have r135 : z135=-(z111*z119*i) := by
  rw [e135,q133,e126,e124,e123,e122,e121,e120,e18]
  clear hi hi0; grind
 have s0 : z168=(1 - z110*z110*i)*z86+-(z110*z111*i)*z87 := by rw [e168,e164,e166,r148,r162]
 have s1 : z169=-(z110*z111*i)*z86+(1 - z111*z111*i)*z87 := by rw [e169,e165,e167,r149,r163]
 have s2 : z174=(1 - z110*z110*i)*z92+-(z110*z111*i)*z93 := by rw [e174,e170,e172,r148,r162]
 have s3 : z175=-(z110*z111*i)*z92+(1 - z111*z111*i)*z93 := by rw [e175,e171,e173,r149,r163]
 have s4 : z182=(1 - z110*z110*i)*z100+-(z110*z111*i)*z101+-(z110*z119*i) := by rw [e182,e180,e176,e178,r148,r162,r134]
 have s5 : z183=-(z110*z111*i)*z100+(1 - z111*z111*i)*z101+-(z111*z119*i) := by rw [e183,e181,e177,e179,r149,r163,r135]
 have hA1 : z110=z86*z9+z92*z18+z100 - z9 := by rw [e110,e108,e106,e102,e104]
 have hB1 : z111=z87*z9+z93*z18+z101 - z18 := by rw [e111,e109,e107,e103,e105]
 have hC1 : z119=-(z110*(z9+z110 / 2)+z111*(z18+z111 / 2)) := by rw [e119,e118,e117,e116,e115,e114,e113,e112,e29]
 have ⟨h0,h2,h3⟩ := h1
 have is := mm_iso h0 hi s0 s1 s2 s3
 have bk := (mm_half (X := z86*z9+z92*z18+z100) (Z := z87*z9+z93*z18+z101) hi hA1 hB1 hC1).2
 have mp := mm_map (x := z9) (y := z18) s0 s1 s2 s3 s4 s5
 have fx := mp.1.trans bk.1
 have fy := mp.2.trans bk.2
 have on := mm_on (x := z18) (y := z18) h0 hA1 hB1 hC1 (by rw [h2,e18]; grind) (by rw [h3,e18]; grind)
 have mq := mm_map (x := z18) (y := z18) s0 s1 s2 s3 s4 s5
 have tx : z86*z18+z92*z18+z100=z18 := by rw [h2,e18]; grind
 have ty : z87*z18+z93*z18+z101=z18 := by rw [h3,e18]; grind
 rw [tx,ty,on] at mq
 have w1 : z182=0 := by have q1 := mq.1; rw [e18] at q1; clear fx fy mp bk mq; grind
 have w2 : z183=0 := by have q1 := mq.2; rw [e18] at q1; clear fx fy mp bk mq w1; grind
 rw [e9,e18] at fx fy
 have w3 : z168=1 := by rw [w1] at fx; clear fy mp bk mq; grind
 have w4 : z169=0 := by rw [w2] at fy; clear fx mp bk mq w3; grind
 exact ⟨⟨is,w1,w2,w3,w4⟩,i,hi,s0,s1,s2,s3,s4,s5⟩
theorem mM_S110 (H : mM_Q q σ) : (MIso (q 86) (q 92) (q 87) (q 93)∧q 100=0∧q 101=0)→(¬ (q 110=0∧q 111=0))→((MIso (q 168) (q 174) (q 169) (q 175)∧q 182=0∧q 183=0∧q 168=1∧q 169=0)∧MTo (q 110) (q 111) (q 119) (q 86) (q 92) (q 100) (q 87) (q 93) (q 101) (q 168) (q 174) (q 182) (q 169) (q 175) (q 183)) := by
 have e9:q 9=1:=(H 9 _ rfl).trans mM_c9;have e18:q 18=0:=(H 18 _ rfl).trans mM_c18;have e29:q 29=2:=(H 29 _ rfl).trans mM_c29;have e102:q 102=q 86*q 9:=H 102 _ rfl;have e103:q 103=q 87*q 9:=H 103 _ rfl;have e104:q 104=q 92*q 18:=H 104 _ rfl;have e105:q 105=q 93*q 18:=H 105 _ rfl;have e106:q 106=q 102+q 104:=H 106 _ rfl;have e107:q 107=q 103+q 105:=H 107 _ rfl;have e108:q 108=q 106+q 100:=H 108 _ rfl;have e109:q 109=q 107+q 101:=H 109 _ rfl;have e110:q 110=q 108-q 9:=H 110 _ rfl;have e111:q 111=q 109-q 18:=H 111 _ rfl;have e112:q 112=q 110/q 29:=H 112 _ rfl;have e113:q 113=q 111/q 29:=H 113 _ rfl;have e114:q 114=q 9+q 112:=H 114 _ rfl;have e115:q 115=q 18+q 113:=H 115 _ rfl;have e116:q 116=q 110*q 114:=H 116 _ rfl;have e117:q 117=q 111*q 115:=H 117 _ rfl;have e118:q 118=q 116+q 117:=H 118 _ rfl;have e119:q 119=-q 118:=H 119 _ rfl;have e120:q 120=q 110*q 18:=H 120 _ rfl;have e121:q 121=q 111*q 18:=H 121 _ rfl;have e122:q 122=q 120+q 121:=H 122 _ rfl;have e123:q 123=q 122+q 119:=H 123 _ rfl;have e124:q 124=-q 123:=H 124 _ rfl;have e125:q 125=q 110*q 124:=H 125 _ rfl;have e126:q 126=q 111*q 124:=H 126 _ rfl;have e127:q 127=q 110*q 110:=H 127 _ rfl;have e128:q 128=q 111*q 111:=H 128 _ rfl;have e129:q 129=q 127+q 128:=H 129 _ rfl;have e130:q 130=q 125/q 129:=H 130 _ rfl;have e131:q 131=q 126/q 129:=H 131 _ rfl;have e132:q 132=q 130*q 29:=H 132 _ rfl;have e133:q 133=q 131*q 29:=H 133 _ rfl;have e134:q 134=q 18+q 132:=H 134 _ rfl;have e135:q 135=q 18+q 133:=H 135 _ rfl;have e136:q 136=q 110*q 9:=H 136 _ rfl;have e137:q 137=q 136+q 121:=H 137 _ rfl;have e138:q 138=q 137+q 119:=H 138 _ rfl;have e139:q 139=-q 138:=H 139 _ rfl;have e140:q 140=q 110*q 139:=H 140 _ rfl;have e141:q 141=q 111*q 139:=H 141 _ rfl;have e142:q 142=q 140/q 129:=H 142 _ rfl;have e143:q 143=q 141/q 129:=H 143 _ rfl;have e144:q 144=q 142*q 29:=H 144 _ rfl;have e145:q 145=q 143*q 29:=H 145 _ rfl;have e146:q 146=q 9+q 144:=H 146 _ rfl;have e147:q 147=q 18+q 145:=H 147 _ rfl;have e148:q 148=q 146-q 134:=H 148 _ rfl;have e149:q 149=q 147-q 135:=H 149 _ rfl;have e150:q 150=q 111*q 9:=H 150 _ rfl;have e151:q 151=q 120+q 150:=H 151 _ rfl;have e152:q 152=q 151+q 119:=H 152 _ rfl;have e153:q 153=-q 152:=H 153 _ rfl;have e154:q 154=q 110*q 153:=H 154 _ rfl;have e155:q 155=q 111*q 153:=H 155 _ rfl;have e156:q 156=q 154/q 129:=H 156 _ rfl;have e157:q 157=q 155/q 129:=H 157 _ rfl;have e158:q 158=q 156*q 29:=H 158 _ rfl;have e159:q 159=q 157*q 29:=H 159 _ rfl;have e160:q 160=q 18+q 158:=H 160 _ rfl;have e161:q 161=q 9+q 159:=H 161 _ rfl;have e162:q 162=q 160-q 134:=H 162 _ rfl;have e163:q 163=q 161-q 135:=H 163 _ rfl;have e164:q 164=q 148*q 86:=H 164 _ rfl;have e165:q 165=q 149*q 86:=H 165 _ rfl;have e166:q 166=q 162*q 87:=H 166 _ rfl;have e167:q 167=q 163*q 87:=H 167 _ rfl;have e168:q 168=q 164+q 166:=H 168 _ rfl;have e169:q 169=q 165+q 167:=H 169 _ rfl;have e170:q 170=q 148*q 92:=H 170 _ rfl;have e171:q 171=q 149*q 92:=H 171 _ rfl;have e172:q 172=q 162*q 93:=H 172 _ rfl;have e173:q 173=q 163*q 93:=H 173 _ rfl;have e174:q 174=q 170+q 172:=H 174 _ rfl;have e175:q 175=q 171+q 173:=H 175 _ rfl;have e176:q 176=q 148*q 100:=H 176 _ rfl;have e177:q 177=q 149*q 100:=H 177 _ rfl;have e178:q 178=q 162*q 101:=H 178 _ rfl;have e179:q 179=q 163*q 101:=H 179 _ rfl;have e180:q 180=q 176+q 178:=H 180 _ rfl;have e181:q 181=q 177+q 179:=H 181 _ rfl;have e182:q 182=q 180+q 134:=H 182 _ rfl;have e183:q 183=q 181+q 135:=H 183 _ rfl
 exact mM_S110z e9 e18 e29 e102 e103 e104 e105 e106 e107 e108 e109 e110 e111 e112 e113 e114 e115 e116 e117 e118 e119 e120 e121 e122 e123 e124 e125 e126 e127 e128 e129 e130 e131 e132 e133 e134 e135 e136 e137 e138 e139 e140 e141 e142 e143 e144 e145 e146 e147 e148 e149 e150 e151 e152 e153 e154 e155 e156 e157 e158 e159 e160 e161 e162 e163 e164 e165 e166 e167 e168 e169 e170 e171 e172 e173 e174 e175 e176 e177 e178 e179 e180 e181 e182 e183
theorem mM_L110 (H : mM_Q q σ) : (MIso (q 86) (q 92) (q 87) (q 93)∧q 100=0∧q 101=0)→(¬ (q 110=0∧q 111=0))→(¬ (q 269=0)) := by
 have e9:q 9=1:=(H 9 _ rfl).trans mM_c9;have e18:q 18=0:=(H 18 _ rfl).trans mM_c18;have e102:q 102=q 86*q 9:=H 102 _ rfl;have e103:q 103=q 87*q 9:=H 103 _ rfl;have e104:q 104=q 92*q 18:=H 104 _ rfl;have e105:q 105=q 93*q 18:=H 105 _ rfl;have e106:q 106=q 102+q 104:=H 106 _ rfl;have e107:q 107=q 103+q 105:=H 107 _ rfl;have e108:q 108=q 106+q 100:=H 108 _ rfl;have e109:q 109=q 107+q 101:=H 109 _ rfl;have e110:q 110=q 108-q 9:=H 110 _ rfl;have e111:q 111=q 109-q 18:=H 111 _ rfl;have e269:q 269=q 110*fac [q 110,q 111,q 119]:=H 269 _ rfl
 clear H
 intro h1 u
 have ng : fac [q 110,q 111,q 119] ≠ 0 := fun h => u ⟨fac_zero (by simp) h,fac_zero (by simp) h⟩
 obtain ⟨h0,h2,h3⟩ := h1
 have q1 : q 110=q 86 - 1 := by rw [e110,e108,e106,e102,e104,h2,e9,e18]; grind
 have q2 : q 111=q 87 := by rw [e111,e109,e107,e103,e105,h3,e9,e18]; grind
 have na := mm_a1 h0 q1 q2 u
 rw [e269]
 exact mul_ne na ng
theorem mM_E001z {z0 z1 z2 z3 z4 z5 z9 z18 z19 z20 z21 z22 z23 z24 z25 z26 z27 z28 z29 z37 z86 z87 z92 z93 z100 z101 z102 z103 z104 z105 z106 z107 z108 z109 z110 z111 z112 z113 z114 z115 z116 z117 z118 z119 z168 z169 z174 z175 z182 z183 z184 z185 z186 z187 z188 z189 z190 z191 z192 z193 z269 z270 z271 z272 z273 z274 z293 z294 z295 z306 z307 z308 z345 z346 z347 z348 z349 z350 z382 z383 z384 z385 z386 z387 z390 z391 z392 z393 z394 z395 z396 z397 z398 z399 z400 z401 z402 z403 z404 z405 z406 z407 z408 z409 z410 z411 z412 z413 z414 z415 z416 z417 z418 z419 z420 z421 z422 z423 z424 z425 z426 z427 z428 z429 z430 z431 z432 z433 z434 z435 z436 z437 z438 z439 z440 z441 z442 z443 z444 z445 z446 z447 z448 z449 z450 z451 z452 z453 : Rat} : z9=1→z18=0→z19=z0*z18→z20=z1*z18→z21=z2*z18→z22=z3*z18→z23=z19+z21→z24=z20+z22→z25=z23+z4→z26=z24+z5→z29=2→z102=z86*z9→z103=z87*z9→z104=z92*z18→z105=z93*z18→z106=z102+z104→z107=z103+z105→z108=z106+z100→z109=z107+z101→z110=z108-z9→z111=z109-z18→z112=z110/z29→z113=z111/z29→z114=z9+z112→z115=z18+z113→z116=z110*z114→z117=z111*z115→z118=z116+z117→z119=-z118→z184=z168*z18→z185=z169*z18→z186=z174*z9→z187=z175*z9→z188=z184+z186→z189=z185+z187→z190=z188+z182→z191=z189+z183→z192=z190-z18→z193=z191-z9→z269=z110*fac [z110,z111,z119]→z270=z111*fac [z110,z111,z119]→z271=z119*fac [z110,z111,z119]→z272=z27*fac [z27,z28,z37]→z273=z28*fac [z27,z28,z37]→z274=z37*fac [z27,z28,z37]→z293=z269*z269→z294=z270*z270→z295=z293+z294→z306=z272*z272→z307=z273*z273→z308=z306+z307→z345=z0*z9→z346=z345+z21→z347=z346+z4→z348=z1*z9→z349=z348+z22→z350=z349+z5→z382=z2*z9→z383=z19+z382→z384=z383+z4→z385=z3*z9→z386=z20+z385→z387=z386+z5→z390=z269*z18→z391=z270*z18→z392=z390+z391→z393=z392+z271→z394=z29*z393→z395=z394/z295→z396=z269*z395→z397=z270*z395→z398=z18-z396→z399=z18-z397→z400=z272*z398→z401=z273*z399→z402=z400+z401→z403=z402+z274→z404=z29*z403→z405=z404/z308→z406=z272*z405→z407=z273*z405→z408=z398-z406→z409=z399-z407→z410=z408-z25→z411=z409-z26→z412=z269*z9→z413=z412+z391→z414=z413+z271→z415=z29*z414→z416=z415/z295→z417=z269*z416→z418=z270*z416→z419=z9-z417→z420=z18-z418→z421=z272*z419→z422=z273*z420→z423=z421+z422→z424=z423+z274→z425=z29*z424→z426=z425/z308→z427=z272*z426→z428=z273*z426→z429=z419-z427→z430=z420-z428→z431=z429-z347→z432=z430-z350→z433=z270*z9→z434=z390+z433→z435=z434+z271→z436=z29*z435→z437=z436/z295→z438=z269*z437→z439=z270*z437→z440=z18-z438→z441=z9-z439→z442=z272*z440→z443=z273*z441→z444=z442+z443→z445=z444+z274→z446=z29*z445→z447=z446/z308→z448=z272*z447→z449=z273*z447→z450=z440-z448→z451=z441-z449→z452=z450-z384→z453=z451-z387→(MIso z86 z92 z87 z93∧z100=0∧z101=0)→(¬ (z27=0∧z28=0))→(MTo z27 z28 z37 z0 z2 z4 z1 z3 z5 z86 z92 z100 z87 z93 z101)→(¬ (z110=0∧z111=0))→(MTo z110 z111 z119 z86 z92 z100 z87 z93 z101 z168 z174 z182 z169 z175 z183)→(z192=0∧z193=0)→((z410=0∧z411=0)∧(z431=0∧z432=0)∧(z452=0∧z453=0)) := by
 intro e9 e18 e19 e20 e21 e22 e23 e24 e25 e26 e29 e102 e103 e104 e105 e106 e107 e108 e109 e110 e111 e112 e113 e114 e115 e116 e117 e118 e119 e184 e185 e186 e187 e188 e189 e190 e191 e192 e193 e269 e270 e271 e272 e273 e274 e293 e294 e295 e306 e307 e308 e345 e346 e347 e348 e349 e350 e382 e383 e384 e385 e386 e387 e390 e391 e392 e393 e394 e395 e396 e397 e398 e399 e400 e401 e402 e403 e404 e405 e406 e407 e408 e409 e410 e411 e412 e413 e414 e415 e416 e417 e418 e419 e420 e421 e422 e423 e424 e425 e426 e427 e428 e429 e430 e431 e432 e433 e434 e435 e436 e437 e438 e439 e440 e441 e442 e443 e444 e445 e446 e447 e448 e449 e450 e451 e452 e453
 intro f u0 o0 u1 o1 y2
 have hA1 : z110=z86*z9+z92*z18+z100 - z9 := by rw [e110,e108,e106,e102,e104]
 have hB1 : z111=z87*z9+z93*z18+z101 - z18 := by rw [e111,e109,e107,e103,e105]
 have hC1 : z119=-(z110*(z9+z110 / 2)+z111*(z18+z111 / 2)) := by rw [e119,e118,e117,e116,e115,e114,e113,e112,e29]
 obtain ⟨f0,f1,f2⟩ := f
 have t01 := mm_rq u1 f0 hA1 hB1 hC1 e269 e270 e271 e390 e391 e392 e393 e29 e394 e293 e294 e295 e395 e396 e397 e398 e399 (by rw [f1,e18]; grind) (by rw [f2,e18]; grind)
 have t00 := mm_rs (mm_ng u0) o0 e272 e273 e274 e400 e401 e402 e403 e29 e404 e306 e307 e308 e405 e406 e407 e408 e409 t01
 have t11 := mm_rp u1 hA1 hB1 hC1 e269 e270 e271 e412 e391 e413 e414 e29 e415 e293 e294 e295 e416 e417 e418 e419 e420
 have t10 := mm_rs (mm_ng u0) o0 e272 e273 e274 e421 e422 e423 e424 e29 e425 e306 e307 e308 e426 e427 e428 e429 e430 t11
 have t21 := mm_rs (mm_ng u1) o1 e269 e270 e271 e390 e433 e434 e435 e29 e436 e293 e294 e295 e437 e438 e439 e440 e441 ⟨by
  have h := y2.1
  rw [e192,e190,e188,e184,e186] at h
  exact (mm_eq h).symm,by
  have h := y2.2
  rw [e193,e191,e189,e185,e187] at h
  exact (mm_eq h).symm⟩
 have t20 := mm_rs (mm_ng u0) o0 e272 e273 e274 e442 e443 e444 e445 e29 e446 e306 e307 e308 e447 e448 e449 e450 e451 t21
 exact ⟨mm_sub e410 e411 (t00.1.trans (by rw [e25,e23,e19,e21])) (t00.2.trans (by rw [e26,e24,e20,e22])),mm_sub e431 e432 (t10.1.trans (by rw [e347,e346,e345,e21])) (t10.2.trans (by rw [e350,e349,e348,e22])),mm_sub e452 e453 (t20.1.trans (by rw [e384,e383,e19,e382])) (t20.2.trans (by rw [e387,e386,e20,e385]))⟩
theorem mM_E001 (H : mM_Q q σ) : (MIso (q 86) (q 92) (q 87) (q 93)∧q 100=0∧q 101=0)→(¬ (q 27=0∧q 28=0))→(MTo (q 27) (q 28) (q 37) (q 0) (q 2) (q 4) (q 1) (q 3) (q 5) (q 86) (q 92) (q 100) (q 87) (q 93) (q 101))→(¬ (q 110=0∧q 111=0))→(MTo (q 110) (q 111) (q 119) (q 86) (q 92) (q 100) (q 87) (q 93) (q 101) (q 168) (q 174) (q 182) (q 169) (q 175) (q 183))→(q 192=0∧q 193=0)→((q 410=0∧q 411=0)∧(q 431=0∧q 432=0)∧(q 452=0∧q 453=0)) := by
 have e9:q 9=1:=(H 9 _ rfl).trans mM_c9;have e18:q 18=0:=(H 18 _ rfl).trans mM_c18;have e19:q 19=q 0*q 18:=H 19 _ rfl;have e20:q 20=q 1*q 18:=H 20 _ rfl;have e21:q 21=q 2*q 18:=H 21 _ rfl;have e22:q 22=q 3*q 18:=H 22 _ rfl;have e23:q 23=q 19+q 21:=H 23 _ rfl;have e24:q 24=q 20+q 22:=H 24 _ rfl;have e25:q 25=q 23+q 4:=H 25 _ rfl;have e26:q 26=q 24+q 5:=H 26 _ rfl;have e29:q 29=2:=(H 29 _ rfl).trans mM_c29;have e102:q 102=q 86*q 9:=H 102 _ rfl;have e103:q 103=q 87*q 9:=H 103 _ rfl;have e104:q 104=q 92*q 18:=H 104 _ rfl;have e105:q 105=q 93*q 18:=H 105 _ rfl;have e106:q 106=q 102+q 104:=H 106 _ rfl;have e107:q 107=q 103+q 105:=H 107 _ rfl;have e108:q 108=q 106+q 100:=H 108 _ rfl;have e109:q 109=q 107+q 101:=H 109 _ rfl;have e110:q 110=q 108-q 9:=H 110 _ rfl;have e111:q 111=q 109-q 18:=H 111 _ rfl;have e112:q 112=q 110/q 29:=H 112 _ rfl;have e113:q 113=q 111/q 29:=H 113 _ rfl;have e114:q 114=q 9+q 112:=H 114 _ rfl;have e115:q 115=q 18+q 113:=H 115 _ rfl;have e116:q 116=q 110*q 114:=H 116 _ rfl;have e117:q 117=q 111*q 115:=H 117 _ rfl;have e118:q 118=q 116+q 117:=H 118 _ rfl;have e119:q 119=-q 118:=H 119 _ rfl;have e184:q 184=q 168*q 18:=H 184 _ rfl;have e185:q 185=q 169*q 18:=H 185 _ rfl;have e186:q 186=q 174*q 9:=H 186 _ rfl;have e187:q 187=q 175*q 9:=H 187 _ rfl;have e188:q 188=q 184+q 186:=H 188 _ rfl;have e189:q 189=q 185+q 187:=H 189 _ rfl;have e190:q 190=q 188+q 182:=H 190 _ rfl;have e191:q 191=q 189+q 183:=H 191 _ rfl;have e192:q 192=q 190-q 18:=H 192 _ rfl;have e193:q 193=q 191-q 9:=H 193 _ rfl;have e269:q 269=q 110*fac [q 110,q 111,q 119]:=H 269 _ rfl;have e270:q 270=q 111*fac [q 110,q 111,q 119]:=H 270 _ rfl;have e271:q 271=q 119*fac [q 110,q 111,q 119]:=H 271 _ rfl;have e272:q 272=q 27*fac [q 27,q 28,q 37]:=H 272 _ rfl;have e273:q 273=q 28*fac [q 27,q 28,q 37]:=H 273 _ rfl;have e274:q 274=q 37*fac [q 27,q 28,q 37]:=H 274 _ rfl;have e293:q 293=q 269*q 269:=H 293 _ rfl;have e294:q 294=q 270*q 270:=H 294 _ rfl;have e295:q 295=q 293+q 294:=H 295 _ rfl;have e306:q 306=q 272*q 272:=H 306 _ rfl;have e307:q 307=q 273*q 273:=H 307 _ rfl;have e308:q 308=q 306+q 307:=H 308 _ rfl;have e345:q 345=q 0*q 9:=H 345 _ rfl;have e346:q 346=q 345+q 21:=H 346 _ rfl;have e347:q 347=q 346+q 4:=H 347 _ rfl;have e348:q 348=q 1*q 9:=H 348 _ rfl;have e349:q 349=q 348+q 22:=H 349 _ rfl;have e350:q 350=q 349+q 5:=H 350 _ rfl;have e382:q 382=q 2*q 9:=H 382 _ rfl;have e383:q 383=q 19+q 382:=H 383 _ rfl;have e384:q 384=q 383+q 4:=H 384 _ rfl;have e385:q 385=q 3*q 9:=H 385 _ rfl;have e386:q 386=q 20+q 385:=H 386 _ rfl;have e387:q 387=q 386+q 5:=H 387 _ rfl;have e390:q 390=q 269*q 18:=H 390 _ rfl;have e391:q 391=q 270*q 18:=H 391 _ rfl;have e392:q 392=q 390+q 391:=H 392 _ rfl;have e393:q 393=q 392+q 271:=H 393 _ rfl;have e394:q 394=q 29*q 393:=H 394 _ rfl;have e395:q 395=q 394/q 295:=H 395 _ rfl;have e396:q 396=q 269*q 395:=H 396 _ rfl;have e397:q 397=q 270*q 395:=H 397 _ rfl;have e398:q 398=q 18-q 396:=H 398 _ rfl;have e399:q 399=q 18-q 397:=H 399 _ rfl;have e400:q 400=q 272*q 398:=H 400 _ rfl;have e401:q 401=q 273*q 399:=H 401 _ rfl;have e402:q 402=q 400+q 401:=H 402 _ rfl;have e403:q 403=q 402+q 274:=H 403 _ rfl;have e404:q 404=q 29*q 403:=H 404 _ rfl;have e405:q 405=q 404/q 308:=H 405 _ rfl;have e406:q 406=q 272*q 405:=H 406 _ rfl;have e407:q 407=q 273*q 405:=H 407 _ rfl;have e408:q 408=q 398-q 406:=H 408 _ rfl;have e409:q 409=q 399-q 407:=H 409 _ rfl;have e410:q 410=q 408-q 25:=H 410 _ rfl;have e411:q 411=q 409-q 26:=H 411 _ rfl;have e412:q 412=q 269*q 9:=H 412 _ rfl;have e413:q 413=q 412+q 391:=H 413 _ rfl;have e414:q 414=q 413+q 271:=H 414 _ rfl;have e415:q 415=q 29*q 414:=H 415 _ rfl;have e416:q 416=q 415/q 295:=H 416 _ rfl;have e417:q 417=q 269*q 416:=H 417 _ rfl;have e418:q 418=q 270*q 416:=H 418 _ rfl;have e419:q 419=q 9-q 417:=H 419 _ rfl;have e420:q 420=q 18-q 418:=H 420 _ rfl;have e421:q 421=q 272*q 419:=H 421 _ rfl;have e422:q 422=q 273*q 420:=H 422 _ rfl;have e423:q 423=q 421+q 422:=H 423 _ rfl;have e424:q 424=q 423+q 274:=H 424 _ rfl;have e425:q 425=q 29*q 424:=H 425 _ rfl;have e426:q 426=q 425/q 308:=H 426 _ rfl;have e427:q 427=q 272*q 426:=H 427 _ rfl;have e428:q 428=q 273*q 426:=H 428 _ rfl;have e429:q 429=q 419-q 427:=H 429 _ rfl;have e430:q 430=q 420-q 428:=H 430 _ rfl;have e431:q 431=q 429-q 347:=H 431 _ rfl;have e432:q 432=q 430-q 350:=H 432 _ rfl;have e433:q 433=q 270*q 9:=H 433 _ rfl;have e434:q 434=q 390+q 433:=H 434 _ rfl;have e435:q 435=q 434+q 271:=H 435 _ rfl;have e436:q 436=q 29*q 435:=H 436 _ rfl;have e437:q 437=q 436/q 295:=H 437 _ rfl;have e438:q 438=q 269*q 437:=H 438 _ rfl;have e439:q 439=q 270*q 437:=H 439 _ rfl;have e440:q 440=q 18-q 438:=H 440 _ rfl;have e441:q 441=q 9-q 439:=H 441 _ rfl;have e442:q 442=q 272*q 440:=H 442 _ rfl;have e443:q 443=q 273*q 441:=H 443 _ rfl;have e444:q 444=q 442+q 443:=H 444 _ rfl;have e445:q 445=q 444+q 274:=H 445 _ rfl;have e446:q 446=q 29*q 445:=H 446 _ rfl;have e447:q 447=q 446/q 308:=H 447 _ rfl;have e448:q 448=q 272*q 447:=H 448 _ rfl;have e449:q 449=q 273*q 447:=H 449 _ rfl;have e450:q 450=q 440-q 448:=H 450 _ rfl;have e451:q 451=q 441-q 449:=H 451 _ rfl;have e452:q 452=q 450-q 384:=H 452 _ rfl;have e453:q 453=q 451-q 387:=H 453 _ rfl
 exact mM_E001z e9 e18 e19 e20 e21 e22 e23 e24 e25 e26 e29 e102 e103 e104 e105 e106 e107 e108 e109 e110 e111 e112 e113 e114 e115 e116 e117 e118 e119 e184 e185 e186 e187 e188 e189 e190 e191 e192 e193 e269 e270 e271 e272 e273 e274 e293 e294 e295 e306 e307 e308 e345 e346 e347 e348 e349 e350 e382 e383 e384 e385 e386 e387 e390 e391 e392 e393 e394 e395 e396 e397 e398 e399 e400 e401 e402 e403 e404 e405 e406 e407 e408 e409 e410 e411 e412 e413 e414 e415 e416 e417 e418 e419 e420 e421 e422 e423 e424 e425 e426 e427 e428 e429 e430 e431 e432 e433 e434 e435 e436 e437 e438 e439 e440 e441 e442 e443 e444 e445 e446 e447 e448 e449 e450 e451 e452 e453
theorem mM_L192 (H : mM_Q q σ) : (MIso (q 168) (q 174) (q 169) (q 175)∧q 182=0∧q 183=0∧q 168=1∧q 169=0)→(¬ (q 192=0∧q 193=0))→((q 266=0)∧(¬ (q 267=0))) := by
 have e9:q 9=1:=(H 9 _ rfl).trans mM_c9;have e18:q 18=0:=(H 18 _ rfl).trans mM_c18;have e184:q 184=q 168*q 18:=H 184 _ rfl;have e185:q 185=q 169*q 18:=H 185 _ rfl;have e186:q 186=q 174*q 9:=H 186 _ rfl;have e187:q 187=q 175*q 9:=H 187 _ rfl;have e188:q 188=q 184+q 186:=H 188 _ rfl;have e189:q 189=q 185+q 187:=H 189 _ rfl;have e190:q 190=q 188+q 182:=H 190 _ rfl;have e191:q 191=q 189+q 183:=H 191 _ rfl;have e192:q 192=q 190-q 18:=H 192 _ rfl;have e193:q 193=q 191-q 9:=H 193 _ rfl;have e266:q 266=q 192*fac [q 192,q 193,q 201]:=H 266 _ rfl;have e267:q 267=q 193*fac [q 192,q 193,q 201]:=H 267 _ rfl
 clear H
 intro h1 u
 have ng : fac [q 192,q 193,q 201] ≠ 0 := fun h => u ⟨fac_zero (by simp) h,fac_zero (by simp) h⟩
 obtain ⟨h0,h2,h3,h4,h5⟩ := h1
 have q1 : q 192=0 := by rw [e192,e190,e188,e184,e186,h2,mm_b0 h0 h4 h5,e18,e9]; grind
 rw [e266,e267]
 exact ⟨by rw [q1,Rat.zero_mul],fun h => u ⟨q1,(Rat.mul_eq_zero.1 h).resolve_right ng⟩⟩
theorem mM_E000z {z0 z1 z2 z3 z4 z5 z9 z18 z19 z20 z21 z22 z23 z24 z25 z26 z27 z28 z29 z37 z86 z87 z92 z93 z100 z101 z110 z111 z119 z168 z169 z174 z175 z182 z183 z184 z185 z186 z187 z188 z189 z190 z191 z192 z193 z194 z195 z196 z197 z198 z199 z200 z201 z266 z267 z268 z269 z270 z271 z272 z273 z274 z275 z276 z277 z278 z279 z280 z281 z282 z283 z284 z285 z286 z287 z288 z289 z290 z291 z292 z293 z294 z295 z296 z297 z298 z299 z300 z301 z302 z303 z304 z305 z306 z307 z308 z309 z310 z311 z312 z313 z314 z315 z316 z317 z318 z319 z320 z321 z322 z323 z324 z325 z326 z327 z328 z329 z330 z331 z332 z333 z334 z335 z336 z337 z338 z339 z340 z341 z342 z343 z344 z345 z346 z347 z348 z349 z350 z351 z352 z353 z354 z355 z356 z357 z358 z359 z360 z361 z362 z363 z364 z365 z366 z367 z368 z369 z370 z371 z372 z373 z374 z375 z376 z377 z378 z379 z380 z381 z382 z383 z384 z385 z386 z387 z388 z389 : Rat} : z9=1→z18=0→z19=z0*z18→z20=z1*z18→z21=z2*z18→z22=z3*z18→z23=z19+z21→z24=z20+z22→z25=z23+z4→z26=z24+z5→z29=2→z184=z168*z18→z185=z169*z18→z186=z174*z9→z187=z175*z9→z188=z184+z186→z189=z185+z187→z190=z188+z182→z191=z189+z183→z192=z190-z18→z193=z191-z9→z194=z192/z29→z195=z193/z29→z196=z18+z194→z197=z9+z195→z198=z192*z196→z199=z193*z197→z200=z198+z199→z201=-z200→z266=z192*fac [z192,z193,z201]→z267=z193*fac [z192,z193,z201]→z268=z201*fac [z192,z193,z201]→z269=z110*fac [z110,z111,z119]→z270=z111*fac [z110,z111,z119]→z271=z119*fac [z110,z111,z119]→z272=z27*fac [z27,z28,z37]→z273=z28*fac [z27,z28,z37]→z274=z37*fac [z27,z28,z37]→z275=z266*z18→z276=z267*z18→z277=z275+z276→z278=z277+z268→z279=z29*z278→z280=z266*z266→z281=z267*z267→z282=z280+z281→z283=z279/z282→z284=z266*z283→z285=z267*z283→z286=z18-z284→z287=z18-z285→z288=z269*z286→z289=z270*z287→z290=z288+z289→z291=z290+z271→z292=z29*z291→z293=z269*z269→z294=z270*z270→z295=z293+z294→z296=z292/z295→z297=z269*z296→z298=z270*z296→z299=z286-z297→z300=z287-z298→z301=z272*z299→z302=z273*z300→z303=z301+z302→z304=z303+z274→z305=z29*z304→z306=z272*z272→z307=z273*z273→z308=z306+z307→z309=z305/z308→z310=z272*z309→z311=z273*z309→z312=z299-z310→z313=z300-z311→z314=z312-z25→z315=z313-z26→z316=z266*z9→z317=z316+z276→z318=z317+z268→z319=z29*z318→z320=z319/z282→z321=z266*z320→z322=z267*z320→z323=z9-z321→z324=z18-z322→z325=z269*z323→z326=z270*z324→z327=z325+z326→z328=z327+z271→z329=z29*z328→z330=z329/z295→z331=z269*z330→z332=z270*z330→z333=z323-z331→z334=z324-z332→z335=z272*z333→z336=z273*z334→z337=z335+z336→z338=z337+z274→z339=z29*z338→z340=z339/z308→z341=z272*z340→z342=z273*z340→z343=z333-z341→z344=z334-z342→z345=z0*z9→z346=z345+z21→z347=z346+z4→z348=z1*z9→z349=z348+z22→z350=z349+z5→z351=z343-z347→z352=z344-z350→z353=z267*z9→z354=z275+z353→z355=z354+z268→z356=z29*z355→z357=z356/z282→z358=z266*z357→z359=z267*z357→z360=z18-z358→z361=z9-z359→z362=z269*z360→z363=z270*z361→z364=z362+z363→z365=z364+z271→z366=z29*z365→z367=z366/z295→z368=z269*z367→z369=z270*z367→z370=z360-z368→z371=z361-z369→z372=z272*z370→z373=z273*z371→z374=z372+z373→z375=z374+z274→z376=z29*z375→z377=z376/z308→z378=z272*z377→z379=z273*z377→z380=z370-z378→z381=z371-z379→z382=z2*z9→z383=z19+z382→z384=z383+z4→z385=z3*z9→z386=z20+z385→z387=z386+z5→z388=z380-z384→z389=z381-z387→(MIso z168 z174 z169 z175∧z182=0∧z183=0∧z168=1∧z169=0)→(¬ (z27=0∧z28=0))→(MTo z27 z28 z37 z0 z2 z4 z1 z3 z5 z86 z92 z100 z87 z93 z101)→(¬ (z110=0∧z111=0))→(MTo z110 z111 z119 z86 z92 z100 z87 z93 z101 z168 z174 z182 z169 z175 z183)→(¬ (z192=0∧z193=0))→((z314=0∧z315=0)∧(z351=0∧z352=0)∧(z388=0∧z389=0)) := by
 intro e9 e18 e19 e20 e21 e22 e23 e24 e25 e26 e29 e184 e185 e186 e187 e188 e189 e190 e191 e192 e193 e194 e195 e196 e197 e198 e199 e200 e201 e266 e267 e268 e269 e270 e271 e272 e273 e274 e275 e276 e277 e278 e279 e280 e281 e282 e283 e284 e285 e286 e287 e288 e289 e290 e291 e292 e293 e294 e295 e296 e297 e298 e299 e300 e301 e302 e303 e304 e305 e306 e307 e308 e309 e310 e311 e312 e313 e314 e315 e316 e317 e318 e319 e320 e321 e322 e323 e324 e325 e326 e327 e328 e329 e330 e331 e332 e333 e334 e335 e336 e337 e338 e339 e340 e341 e342 e343 e344 e345 e346 e347 e348 e349 e350 e351 e352 e353 e354 e355 e356 e357 e358 e359 e360 e361 e362 e363 e364 e365 e366 e367 e368 e369 e370 e371 e372 e373 e374 e375 e376 e377 e378 e379 e380 e381 e382 e383 e384 e385 e386 e387 e388 e389
 intro f u0 o0 u1 o1 u2
 have hA2 : z192=z168*z18+z174*z9+z182 - z18 := by rw [e192,e190,e188,e184,e186]
 have hB2 : z193=z169*z18+z175*z9+z183 - z9 := by rw [e193,e191,e189,e185,e187]
 have hC2 : z201=-(z192*(z18+z192 / 2)+z193*(z9+z193 / 2)) := by rw [e201,e200,e199,e198,e197,e196,e195,e194,e29]
 obtain ⟨f0,f1,f2,f3,f4⟩ := f
 have t02 := mm_rq u2 f0 hA2 hB2 hC2 e266 e267 e268 e275 e276 e277 e278 e29 e279 e280 e281 e282 e283 e284 e285 e286 e287 (by rw [f1,e18]; grind) (by rw [f2,e18]; grind)
 have t01 := mm_rs (mm_ng u1) o1 e269 e270 e271 e288 e289 e290 e291 e29 e292 e293 e294 e295 e296 e297 e298 e299 e300 t02
 have t00 := mm_rs (mm_ng u0) o0 e272 e273 e274 e301 e302 e303 e304 e29 e305 e306 e307 e308 e309 e310 e311 e312 e313 t01
 have t12 := mm_rq u2 f0 hA2 hB2 hC2 e266 e267 e268 e316 e276 e317 e318 e29 e319 e280 e281 e282 e320 e321 e322 e323 e324 (by rw [f1,e9,e18,f3]; grind) (by rw [f2,e9,e18,f4]; grind)
 have t11 := mm_rs (mm_ng u1) o1 e269 e270 e271 e325 e326 e327 e328 e29 e329 e293 e294 e295 e330 e331 e332 e333 e334 t12
 have t10 := mm_rs (mm_ng u0) o0 e272 e273 e274 e335 e336 e337 e338 e29 e339 e306 e307 e308 e340 e341 e342 e343 e344 t11
 have t22 := mm_rp u2 hA2 hB2 hC2 e266 e267 e268 e275 e353 e354 e355 e29 e356 e280 e281 e282 e357 e358 e359 e360 e361
 have t21 := mm_rs (mm_ng u1) o1 e269 e270 e271 e362 e363 e364 e365 e29 e366 e293 e294 e295 e367 e368 e369 e370 e371 t22
 have t20 := mm_rs (mm_ng u0) o0 e272 e273 e274 e372 e373 e374 e375 e29 e376 e306 e307 e308 e377 e378 e379 e380 e381 t21
 exact ⟨mm_sub e314 e315 (t00.1.trans (by rw [e25,e23,e19,e21])) (t00.2.trans (by rw [e26,e24,e20,e22])),mm_sub e351 e352 (t10.1.trans (by rw [e347,e346,e345,e21])) (t10.2.trans (by rw [e350,e349,e348,e22])),mm_sub e388 e389 (t20.1.trans (by rw [e384,e383,e19,e382])) (t20.2.trans (by rw [e387,e386,e20,e385]))⟩
theorem mM_E000 (H : mM_Q q σ) : (MIso (q 168) (q 174) (q 169) (q 175)∧q 182=0∧q 183=0∧q 168=1∧q 169=0)→(¬ (q 27=0∧q 28=0))→(MTo (q 27) (q 28) (q 37) (q 0) (q 2) (q 4) (q 1) (q 3) (q 5) (q 86) (q 92) (q 100) (q 87) (q 93) (q 101))→(¬ (q 110=0∧q 111=0))→(MTo (q 110) (q 111) (q 119) (q 86) (q 92) (q 100) (q 87) (q 93) (q 101) (q 168) (q 174) (q 182) (q 169) (q 175) (q 183))→(¬ (q 192=0∧q 193=0))→((q 314=0∧q 315=0)∧(q 351=0∧q 352=0)∧(q 388=0∧q 389=0)) := by
 have e9:q 9=1:=(H 9 _ rfl).trans mM_c9;have e18:q 18=0:=(H 18 _ rfl).trans mM_c18;have e19:q 19=q 0*q 18:=H 19 _ rfl;have e20:q 20=q 1*q 18:=H 20 _ rfl;have e21:q 21=q 2*q 18:=H 21 _ rfl;have e22:q 22=q 3*q 18:=H 22 _ rfl;have e23:q 23=q 19+q 21:=H 23 _ rfl;have e24:q 24=q 20+q 22:=H 24 _ rfl;have e25:q 25=q 23+q 4:=H 25 _ rfl;have e26:q 26=q 24+q 5:=H 26 _ rfl;have e29:q 29=2:=(H 29 _ rfl).trans mM_c29;have e184:q 184=q 168*q 18:=H 184 _ rfl;have e185:q 185=q 169*q 18:=H 185 _ rfl;have e186:q 186=q 174*q 9:=H 186 _ rfl;have e187:q 187=q 175*q 9:=H 187 _ rfl;have e188:q 188=q 184+q 186:=H 188 _ rfl;have e189:q 189=q 185+q 187:=H 189 _ rfl;have e190:q 190=q 188+q 182:=H 190 _ rfl;have e191:q 191=q 189+q 183:=H 191 _ rfl;have e192:q 192=q 190-q 18:=H 192 _ rfl;have e193:q 193=q 191-q 9:=H 193 _ rfl;have e194:q 194=q 192/q 29:=H 194 _ rfl;have e195:q 195=q 193/q 29:=H 195 _ rfl;have e196:q 196=q 18+q 194:=H 196 _ rfl;have e197:q 197=q 9+q 195:=H 197 _ rfl;have e198:q 198=q 192*q 196:=H 198 _ rfl;have e199:q 199=q 193*q 197:=H 199 _ rfl;have e200:q 200=q 198+q 199:=H 200 _ rfl;have e201:q 201=-q 200:=H 201 _ rfl;have e266:q 266=q 192*fac [q 192,q 193,q 201]:=H 266 _ rfl;have e267:q 267=q 193*fac [q 192,q 193,q 201]:=H 267 _ rfl;have e268:q 268=q 201*fac [q 192,q 193,q 201]:=H 268 _ rfl;have e269:q 269=q 110*fac [q 110,q 111,q 119]:=H 269 _ rfl;have e270:q 270=q 111*fac [q 110,q 111,q 119]:=H 270 _ rfl;have e271:q 271=q 119*fac [q 110,q 111,q 119]:=H 271 _ rfl;have e272:q 272=q 27*fac [q 27,q 28,q 37]:=H 272 _ rfl;have e273:q 273=q 28*fac [q 27,q 28,q 37]:=H 273 _ rfl;have e274:q 274=q 37*fac [q 27,q 28,q 37]:=H 274 _ rfl;have e275:q 275=q 266*q 18:=H 275 _ rfl;have e276:q 276=q 267*q 18:=H 276 _ rfl;have e277:q 277=q 275+q 276:=H 277 _ rfl;have e278:q 278=q 277+q 268:=H 278 _ rfl;have e279:q 279=q 29*q 278:=H 279 _ rfl;have e280:q 280=q 266*q 266:=H 280 _ rfl;have e281:q 281=q 267*q 267:=H 281 _ rfl;have e282:q 282=q 280+q 281:=H 282 _ rfl;have e283:q 283=q 279/q 282:=H 283 _ rfl;have e284:q 284=q 266*q 283:=H 284 _ rfl;have e285:q 285=q 267*q 283:=H 285 _ rfl;have e286:q 286=q 18-q 284:=H 286 _ rfl;have e287:q 287=q 18-q 285:=H 287 _ rfl;have e288:q 288=q 269*q 286:=H 288 _ rfl;have e289:q 289=q 270*q 287:=H 289 _ rfl;have e290:q 290=q 288+q 289:=H 290 _ rfl;have e291:q 291=q 290+q 271:=H 291 _ rfl;have e292:q 292=q 29*q 291:=H 292 _ rfl;have e293:q 293=q 269*q 269:=H 293 _ rfl;have e294:q 294=q 270*q 270:=H 294 _ rfl;have e295:q 295=q 293+q 294:=H 295 _ rfl;have e296:q 296=q 292/q 295:=H 296 _ rfl;have e297:q 297=q 269*q 296:=H 297 _ rfl;have e298:q 298=q 270*q 296:=H 298 _ rfl;have e299:q 299=q 286-q 297:=H 299 _ rfl;have e300:q 300=q 287-q 298:=H 300 _ rfl;have e301:q 301=q 272*q 299:=H 301 _ rfl;have e302:q 302=q 273*q 300:=H 302 _ rfl;have e303:q 303=q 301+q 302:=H 303 _ rfl;have e304:q 304=q 303+q 274:=H 304 _ rfl;have e305:q 305=q 29*q 304:=H 305 _ rfl;have e306:q 306=q 272*q 272:=H 306 _ rfl;have e307:q 307=q 273*q 273:=H 307 _ rfl;have e308:q 308=q 306+q 307:=H 308 _ rfl;have e309:q 309=q 305/q 308:=H 309 _ rfl;have e310:q 310=q 272*q 309:=H 310 _ rfl;have e311:q 311=q 273*q 309:=H 311 _ rfl;have e312:q 312=q 299-q 310:=H 312 _ rfl;have e313:q 313=q 300-q 311:=H 313 _ rfl;have e314:q 314=q 312-q 25:=H 314 _ rfl;have e315:q 315=q 313-q 26:=H 315 _ rfl;have e316:q 316=q 266*q 9:=H 316 _ rfl;have e317:q 317=q 316+q 276:=H 317 _ rfl;have e318:q 318=q 317+q 268:=H 318 _ rfl;have e319:q 319=q 29*q 318:=H 319 _ rfl;have e320:q 320=q 319/q 282:=H 320 _ rfl;have e321:q 321=q 266*q 320:=H 321 _ rfl;have e322:q 322=q 267*q 320:=H 322 _ rfl;have e323:q 323=q 9-q 321:=H 323 _ rfl;have e324:q 324=q 18-q 322:=H 324 _ rfl;have e325:q 325=q 269*q 323:=H 325 _ rfl;have e326:q 326=q 270*q 324:=H 326 _ rfl;have e327:q 327=q 325+q 326:=H 327 _ rfl;have e328:q 328=q 327+q 271:=H 328 _ rfl;have e329:q 329=q 29*q 328:=H 329 _ rfl;have e330:q 330=q 329/q 295:=H 330 _ rfl;have e331:q 331=q 269*q 330:=H 331 _ rfl;have e332:q 332=q 270*q 330:=H 332 _ rfl;have e333:q 333=q 323-q 331:=H 333 _ rfl;have e334:q 334=q 324-q 332:=H 334 _ rfl;have e335:q 335=q 272*q 333:=H 335 _ rfl;have e336:q 336=q 273*q 334:=H 336 _ rfl;have e337:q 337=q 335+q 336:=H 337 _ rfl;have e338:q 338=q 337+q 274:=H 338 _ rfl;have e339:q 339=q 29*q 338:=H 339 _ rfl;have e340:q 340=q 339/q 308:=H 340 _ rfl;have e341:q 341=q 272*q 340:=H 341 _ rfl;have e342:q 342=q 273*q 340:=H 342 _ rfl;have e343:q 343=q 333-q 341:=H 343 _ rfl;have e344:q 344=q 334-q 342:=H 344 _ rfl;have e345:q 345=q 0*q 9:=H 345 _ rfl;have e346:q 346=q 345+q 21:=H 346 _ rfl;have e347:q 347=q 346+q 4:=H 347 _ rfl;have e348:q 348=q 1*q 9:=H 348 _ rfl;have e349:q 349=q 348+q 22:=H 349 _ rfl;have e350:q 350=q 349+q 5:=H 350 _ rfl;have e351:q 351=q 343-q 347:=H 351 _ rfl;have e352:q 352=q 344-q 350:=H 352 _ rfl;have e353:q 353=q 267*q 9:=H 353 _ rfl;have e354:q 354=q 275+q 353:=H 354 _ rfl;have e355:q 355=q 354+q 268:=H 355 _ rfl;have e356:q 356=q 29*q 355:=H 356 _ rfl;have e357:q 357=q 356/q 282:=H 357 _ rfl;have e358:q 358=q 266*q 357:=H 358 _ rfl;have e359:q 359=q 267*q 357:=H 359 _ rfl;have e360:q 360=q 18-q 358:=H 360 _ rfl;have e361:q 361=q 9-q 359:=H 361 _ rfl;have e362:q 362=q 269*q 360:=H 362 _ rfl;have e363:q 363=q 270*q 361:=H 363 _ rfl;have e364:q 364=q 362+q 363:=H 364 _ rfl;have e365:q 365=q 364+q 271:=H 365 _ rfl;have e366:q 366=q 29*q 365:=H 366 _ rfl;have e367:q 367=q 366/q 295:=H 367 _ rfl;have e368:q 368=q 269*q 367:=H 368 _ rfl;have e369:q 369=q 270*q 367:=H 369 _ rfl;have e370:q 370=q 360-q 368:=H 370 _ rfl;have e371:q 371=q 361-q 369:=H 371 _ rfl;have e372:q 372=q 272*q 370:=H 372 _ rfl;have e373:q 373=q 273*q 371:=H 373 _ rfl;have e374:q 374=q 372+q 373:=H 374 _ rfl;have e375:q 375=q 374+q 274:=H 375 _ rfl;have e376:q 376=q 29*q 375:=H 376 _ rfl;have e377:q 377=q 376/q 308:=H 377 _ rfl;have e378:q 378=q 272*q 377:=H 378 _ rfl;have e379:q 379=q 273*q 377:=H 379 _ rfl;have e380:q 380=q 370-q 378:=H 380 _ rfl;have e381:q 381=q 371-q 379:=H 381 _ rfl;have e382:q 382=q 2*q 9:=H 382 _ rfl;have e383:q 383=q 19+q 382:=H 383 _ rfl;have e384:q 384=q 383+q 4:=H 384 _ rfl;have e385:q 385=q 3*q 9:=H 385 _ rfl;have e386:q 386=q 20+q 385:=H 386 _ rfl;have e387:q 387=q 386+q 5:=H 387 _ rfl;have e388:q 388=q 380-q 384:=H 388 _ rfl;have e389:q 389=q 381-q 387:=H 389 _ rfl
 exact mM_E000z e9 e18 e19 e20 e21 e22 e23 e24 e25 e26 e29 e184 e185 e186 e187 e188 e189 e190 e191 e192 e193 e194 e195 e196 e197 e198 e199 e200 e201 e266 e267 e268 e269 e270 e271 e272 e273 e274 e275 e276 e277 e278 e279 e280 e281 e282 e283 e284 e285 e286 e287 e288 e289 e290 e291 e292 e293 e294 e295 e296 e297 e298 e299 e300 e301 e302 e303 e304 e305 e306 e307 e308 e309 e310 e311 e312 e313 e314 e315 e316 e317 e318 e319 e320 e321 e322 e323 e324 e325 e326 e327 e328 e329 e330 e331 e332 e333 e334 e335 e336 e337 e338 e339 e340 e341 e342 e343 e344 e345 e346 e347 e348 e349 e350 e351 e352 e353 e354 e355 e356 e357 e358 e359 e360 e361 e362 e363 e364 e365 e366 e367 e368 e369 e370 e371 e372 e373 e374 e375 e376 e377 e378 e379 e380 e381 e382 e383 e384 e385 e386 e387 e388 e389
theorem mM_f1 {z2 z3 z9 z11 z12 z13 z14 : Rat} : z9=1→z11=z2*z2→z12=z3*z3→z13=z11+z12→z14=z13-z9→(¬ (z14=0))→¬ (z13=z9) := by
 intro e9 e11 e12 e13 e14 u1
 subst_vars; grind
theorem mM_f2 {z0 z1 z6 z7 z8 z9 z10 : Rat} : z6=z0*z0→z7=z1*z1→z8=z6+z7→z9=1→z10=z8-z9→(¬ (z10=0))→¬ (z8=z9) := by
 intro e6 e7 e8 e9 e10 u0
 subst_vars; grind
theorem mM_r0 : (callB (sx Tryz.prog mM_N [(0,10,0,1),(0,14,0,1),(0,17,0,1),(6,27,28,1),(6,640,641,1),(6,906,907,1),(3,8,9,1),(3,13,9,1),(6,1020,1021,1),(6,1022,1023,1),(6,1024,1025,1)] [(107,[.inr (3,2,0,0,0)]),(108,[]),(37,[])] mM_L mM_C mM_Z (prQ [25])) 7 6 mM_A [] 0).map (·.1)=some (kB true) := by kernel_rfl
theorem mM_r1 : (callB (sx Tryz.prog mM_N [(0,10,0,1),(0,14,0,1),(0,17,0,1),(6,27,28,1),(6,640,641,1),(6,906,907,0),(3,8,9,1),(3,13,9,1),(0,980,0,1),(0,981,0,0),(6,996,997,1),(6,1007,1008,1),(6,1018,1019,1)] [(107,[.inr (3,2,0,0,0)]),(108,[]),(174,[.inr (3,115,0,0,0)]),(37,[])] mM_L mM_C mM_Z (prQ [25])) 9 6 mM_A [] 0).map (·.1)=some (kB true) := by kernel_rfl
theorem mM_r2 : (callB (sx Tryz.prog mM_N [(0,10,0,1),(0,14,0,1),(0,17,0,1),(6,27,28,1),(6,640,641,0),(6,722,723,1),(3,8,9,1),(3,13,9,1),(0,799,0,0),(6,882,883,1),(6,893,894,1),(6,904,905,1)] [(107,[.inr (3,2,0,0,0)]),(108,[]),(174,[.inr (3,92,0,0,0)]),(37,[])] mM_L mM_C mM_Z (prQ [25])) 9 6 mM_A [] 0).map (·.1)=some (kB true) := by kernel_rfl
theorem mM_r3 : (callB (sx Tryz.prog mM_N [(0,10,0,1),(0,14,0,1),(0,17,0,1),(6,27,28,1),(6,640,641,0),(6,722,723,0),(3,8,9,1),(3,13,9,1),(0,796,0,1),(0,797,0,0),(0,799,0,0),(6,828,829,1),(6,849,850,1),(6,870,871,1)] [(107,[.inr (3,2,0,0,0)]),(108,[]),(174,[.inr (3,92,0,0,0)]),(174,[.inr (3,263,0,0,0)]),(37,[])] mM_L mM_C mM_Z (prQ [25])) 9 6 mM_A [] 0).map (·.1)=some (kB true) := by kernel_rfl
theorem mM_r4 : (callB (sx Tryz.prog mM_N [(0,10,0,1),(0,14,0,1),(0,17,0,1),(6,27,28,0),(6,110,111,1),(6,462,463,1),(3,8,9,1),(3,13,9,1),(0,272,0,1),(0,273,0,0),(6,616,617,1),(6,627,628,1),(6,638,639,1)] [(107,[.inr (3,2,0,0,0)]),(108,[]),(174,[.inr (3,69,0,0,0)]),(37,[])] mM_L mM_C mM_Z (prQ [25])) 9 6 mM_A [] 0).map (·.1)=some (kB true) := by kernel_rfl
theorem mM_r5 : (callB (sx Tryz.prog mM_N [(0,10,0,1),(0,14,0,1),(0,17,0,1),(6,27,28,0),(6,110,111,1),(6,462,463,1),(3,8,9,1),(3,13,9,1),(0,272,0,0),(6,616,617,1),(6,627,628,1),(6,638,639,1)] [(107,[.inr (3,2,0,0,0)]),(108,[]),(174,[.inr (3,69,0,0,0)]),(37,[])] mM_L mM_C mM_Z (prQ [25])) 9 6 mM_A [] 0).map (·.1)=some (kB true) := by kernel_rfl
theorem mM_r6 : (callB (sx Tryz.prog mM_N [(0,10,0,1),(0,14,0,1),(0,17,0,1),(6,27,28,0),(6,110,111,1),(6,462,463,0),(3,8,9,1),(3,13,9,1),(0,536,0,1),(0,537,0,0),(0,272,0,1),(0,273,0,0),(6,562,563,1),(6,583,584,1),(6,604,605,1)] [(107,[.inr (3,2,0,0,0)]),(108,[]),(174,[.inr (3,69,0,0,0)]),(174,[.inr (3,263,0,0,0)]),(37,[])] mM_L mM_C mM_Z (prQ [25])) 9 6 mM_A [] 0).map (·.1)=some (kB true) := by kernel_rfl
theorem mM_r7 : (callB (sx Tryz.prog mM_N [(0,10,0,1),(0,14,0,1),(0,17,0,1),(6,27,28,0),(6,110,111,1),(6,462,463,0),(3,8,9,1),(3,13,9,1),(0,536,0,1),(0,537,0,0),(0,272,0,0),(6,562,563,1),(6,583,584,1),(6,604,605,1)] [(107,[.inr (3,2,0,0,0)]),(108,[]),(174,[.inr (3,69,0,0,0)]),(174,[.inr (3,263,0,0,0)]),(37,[])] mM_L mM_C mM_Z (prQ [25])) 9 6 mM_A [] 0).map (·.1)=some (kB true) := by kernel_rfl
theorem mM_r8 : (callB (sx Tryz.prog mM_N [(0,10,0,1),(0,14,0,1),(0,17,0,1),(6,27,28,0),(6,110,111,0),(6,192,193,1),(3,8,9,1),(3,13,9,1),(0,269,0,0),(0,272,0,1),(0,273,0,0),(6,410,411,1),(6,431,432,1),(6,452,453,1)] [(107,[.inr (3,2,0,0,0)]),(108,[]),(174,[.inr (3,69,0,0,0)]),(174,[.inr (3,240,0,0,0)]),(37,[])] mM_L mM_C mM_Z (prQ [25])) 9 6 mM_A [] 0).map (·.1)=some (kB true) := by kernel_rfl
theorem mM_r9 : (callB (sx Tryz.prog mM_N [(0,10,0,1),(0,14,0,1),(0,17,0,1),(6,27,28,0),(6,110,111,0),(6,192,193,1),(3,8,9,1),(3,13,9,1),(0,269,0,0),(0,272,0,0),(6,410,411,1),(6,431,432,1),(6,452,453,1)] [(107,[.inr (3,2,0,0,0)]),(108,[]),(174,[.inr (3,69,0,0,0)]),(174,[.inr (3,240,0,0,0)]),(37,[])] mM_L mM_C mM_Z (prQ [25])) 9 6 mM_A [] 0).map (·.1)=some (kB true) := by kernel_rfl
theorem mM_r10 : (callB (sx Tryz.prog mM_N [(0,10,0,1),(0,14,0,1),(0,17,0,1),(6,27,28,0),(6,110,111,0),(6,192,193,0),(3,8,9,1),(3,13,9,1),(0,266,0,1),(0,267,0,0),(0,269,0,0),(0,272,0,1),(0,273,0,0),(6,314,315,1),(6,351,352,1),(6,388,389,1)] [(107,[.inr (3,2,0,0,0)]),(108,[]),(174,[.inr (3,69,0,0,0)]),(174,[.inr (3,240,0,0,0)]),(174,[.inr (3,411,0,0,0)]),(37,[])] mM_L mM_C mM_Z (prQ [25])) 9 6 mM_A [] 0).map (·.1)=some (kB true) := by kernel_rfl
theorem mM_r11 : (callB (sx Tryz.prog mM_N [(0,10,0,1),(0,14,0,1),(0,17,0,1),(6,27,28,0),(6,110,111,0),(6,192,193,0),(3,8,9,1),(3,13,9,1),(0,266,0,1),(0,267,0,0),(0,269,0,0),(0,272,0,0),(6,314,315,1),(6,351,352,1),(6,388,389,1)] [(107,[.inr (3,2,0,0,0)]),(108,[]),(174,[.inr (3,69,0,0,0)]),(174,[.inr (3,240,0,0,0)]),(174,[.inr (3,411,0,0,0)]),(37,[])] mM_L mM_C mM_Z (prQ [25])) 9 6 mM_A [] 0).map (·.1)=some (kB true) := by kernel_rfl
theorem mM_r12 : (callB (sx Tryz.prog mM_N [(0,10,0,1),(0,14,0,1),(0,17,0,0),(3,8,9,1),(3,13,9,1)] [(107,[.inr (3,2,0,0,0)]),(108,[])] mM_L mM_C mM_Z (prQ [25])) 6 6 mM_A [] 0).map (·.1)=some (kB true) := by kernel_rfl
theorem mM_r13 : (callB (sx Tryz.prog mM_N [(0,10,0,1),(0,14,0,0),(3,8,9,1),(3,13,9,0)] [(107,[.inr (3,2,0,0,0)]),(108,[])] mM_L mM_C mM_Z (prQ [25])) 6 6 mM_A [] 0).map (·.1)=some (kB true) := by kernel_rfl
theorem mM_r14 : (callB (sx Tryz.prog mM_N [(0,10,0,0),(3,8,9,0)] [(107,[.inr (3,2,0,0,0)]),(108,[])] mM_L mM_C mM_Z (prQ [25])) 6 6 mM_A [] 0).map (·.1)=some (kB true) := by kernel_rfl
theorem mM_An {a b : Prop} (x : a) (y : b) : a∧b := ⟨x,y⟩
theorem mM_leaf {H : List (Nat × Nat × Nat × Nat)} {K : List (FuncId × List AC)} {k : Nat} {q : Nat→Rat} {σ : Nat→ByteArray} {args : List AV} {vs : List Value} {w : World} (hr : (callB (sx Tryz.prog mM_N H K mM_L mM_C mM_Z (prQ [25])) k 6 args [] 0).map (·.1)=some (kB true)) (hσ : ∀ j,(σ j).size≤1048576) (hq : ∀ (a : Nat) nd,mM_N[a]? = some nd→q a=valN σ q nd) (h0 : ∀ a,mM_N.length≤a→q a=0) (hH : hAll q H) (hp : PreS w) (hA : ∀ K,A2 (avOn (cOn (evS q σ) K (fun _ => none) w)) args vs) : Calls Tryz.prog 6 vs.toArray w fun e w' => Below w.heap.size w w'∧e=.returned (.bool true) :=
 run_toldQ' k (hy_ofA hσ mM_wf mM_sz mM_lt mM_cn hq h0 hH) (by simp [closed_moved]) (by kernel_rfl) hr hp (hA K)
theorem mM_walk {w : World} {aa ab ac ad ae af : ByteArray}  (saa : aa.size≤1048576) (sab : ab.size≤1048576) (sac : ac.size≤1048576) (sad : ad.size≤1048576) (sae : ae.size≤1048576) (saf : af.size≤1048576) (tab : Tab w) (mx : MaxL w) :
  Calls Tryz.prog 6 #[.agg #[.string aa,.string ab,.string ac,.string ad,.string ae,.string af]] w fun e w' => Below w.heap.size w w'∧e=.returned (.bool true) := by
 have hσ : ∀ j,(sgOf [aa,ab,ac,ad,ae,af] j).size≤1048576 := sgOf_size (by simp [saa,sab,sac,sad,sae,saf])
 obtain ⟨q,hq,h0⟩ := nodes_exist (sgOf [aa,ab,ac,ad,ae,af]) mM_N mM_wf
 have hA : ∀ K,A2 (avOn (cOn (evS q (sgOf [aa,ab,ac,ad,ae,af])) K (fun _ => none) w)) [(false,[(true,[.inr (2,0,0,0,0),.inr (2,1,0,0,0),.inr (2,2,0,0,0),.inr (2,3,0,0,0),.inr (2,4,0,0,0),.inr (2,5,0,0,0)])])] [.agg #[.string aa,.string ab,.string ac,.string ad,.string ae,.string af]] := fun K => ⟨⟨⟨[.string aa,.string ab,.string ac,.string ad,.string ae,.string af],rfl,rfl,rfl,rfl,rfl,rfl,rfl,trivial⟩,trivial⟩,trivial⟩
 have E6 : q 6=q 0*q 0 := hq 6 _ rfl
 have E7 : q 7=q 1*q 1 := hq 7 _ rfl
 have E8 : q 8=q 6+q 7 := hq 8 _ rfl
 have E9 : q 9=1 := (hq 9 _ rfl).trans mM_c9
 have E10 : q 10=q 8 - q 9 := hq 10 _ rfl
 have E11 : q 11=q 2*q 2 := hq 11 _ rfl
 have E12 : q 12=q 3*q 3 := hq 12 _ rfl
 have E13 : q 13=q 11+q 12 := hq 13 _ rfl
 have E14 : q 14=q 13 - q 9 := hq 14 _ rfl
 by_cases b10 : q 10=0
 ·
  by_cases b14 : q 14=0
  ·
   by_cases b17 : q 17=0
   ·
    by_cases a_6_27_28 : q 27=0∧q 28=0
    ·
     by_cases a_6_640_641 : q 640=0∧q 641=0
     ·
      by_cases a_6_906_907 : q 906=0∧q 907=0
      ·
       have gW10 := mM_W10 hq b10
       have a_3_8_9 : q 8=q 9 := gW10
       have gW14 := mM_W14 hq b14
       have a_3_13_9 : q 13=q 9 := gW14
       have gO1020 := mM_O1020 hq a_6_27_28
       have a_6_1020_1021 : q 1020=0∧q 1021=0 := gO1020
       have gO1022 := mM_O1022 hq a_6_640_641
       have a_6_1022_1023 : q 1022=0∧q 1023=0 := gO1022
       have gO1024 := mM_O1024 hq a_6_906_907
       have a_6_1024_1025 : q 1024=0∧q 1025=0 := gO1024
       exact mM_leaf mM_r0 hσ hq h0 (mM_An (hT b10) (mM_An (hT b14) (mM_An (hT b17) (mM_An (hT a_6_27_28) (mM_An (hT a_6_640_641) (mM_An (hT a_6_906_907) (mM_An (hT a_3_8_9) (mM_An (hT a_3_13_9) (mM_An (hT a_6_1020_1021) (mM_An (hT a_6_1022_1023) (mM_An (hT a_6_1024_1025) trivial))))))))))) ⟨tab,mx⟩ hA
      ·
       have gW10 := mM_W10 hq b10
       have a_3_8_9 : q 8=q 9 := gW10
       have gW14 := mM_W14 hq b14
       have a_3_13_9 : q 13=q 9 := gW14
       have gL906 := mM_L906 hq (mM_K640 hq (mM_K27 hq (mM_I hq b10 b14 b17) a_6_27_28) a_6_640_641) a_6_906_907
       have b980 : q 980=0 := gL906.1
       have b981 : ¬ (q 981=0) := gL906.2
       have gE110 := mM_E110 hq (mM_K640 hq (mM_K27 hq (mM_I hq b10 b14 b17) a_6_27_28) a_6_640_641) a_6_906_907
       have a_6_996_997 : q 996=0∧q 997=0 := gE110.1
       have a_6_1007_1008 : q 1007=0∧q 1008=0 := gE110.2.1
       have a_6_1018_1019 : q 1018=0∧q 1019=0 := gE110.2.2
       exact mM_leaf mM_r1 hσ hq h0 (mM_An (hT b10) (mM_An (hT b14) (mM_An (hT b17) (mM_An (hT a_6_27_28) (mM_An (hT a_6_640_641) (mM_An (hF a_6_906_907) (mM_An (hT a_3_8_9) (mM_An (hT a_3_13_9) (mM_An (hT b980) (mM_An (hF b981) (mM_An (hT a_6_996_997) (mM_An (hT a_6_1007_1008) (mM_An (hT a_6_1018_1019) trivial))))))))))))) ⟨tab,mx⟩ hA
     ·
      by_cases a_6_722_723 : q 722=0∧q 723=0
      ·
       have gW10 := mM_W10 hq b10
       have a_3_8_9 : q 8=q 9 := gW10
       have gW14 := mM_W14 hq b14
       have a_3_13_9 : q 13=q 9 := gW14
       have gL640 := mM_L640 hq (mM_K27 hq (mM_I hq b10 b14 b17) a_6_27_28) a_6_640_641
       have b799 : ¬ (q 799=0) := gL640
       have gE101 := mM_E101 hq (mM_K27 hq (mM_I hq b10 b14 b17) a_6_27_28) a_6_640_641 (mM_S640 hq (mM_K27 hq (mM_I hq b10 b14 b17) a_6_27_28) a_6_640_641).2 a_6_722_723
       have a_6_882_883 : q 882=0∧q 883=0 := gE101.1
       have a_6_893_894 : q 893=0∧q 894=0 := gE101.2.1
       have a_6_904_905 : q 904=0∧q 905=0 := gE101.2.2
       exact mM_leaf mM_r2 hσ hq h0 (mM_An (hT b10) (mM_An (hT b14) (mM_An (hT b17) (mM_An (hT a_6_27_28) (mM_An (hF a_6_640_641) (mM_An (hT a_6_722_723) (mM_An (hT a_3_8_9) (mM_An (hT a_3_13_9) (mM_An (hF b799) (mM_An (hT a_6_882_883) (mM_An (hT a_6_893_894) (mM_An (hT a_6_904_905) trivial)))))))))))) ⟨tab,mx⟩ hA
      ·
       have gW10 := mM_W10 hq b10
       have a_3_8_9 : q 8=q 9 := gW10
       have gW14 := mM_W14 hq b14
       have a_3_13_9 : q 13=q 9 := gW14
       have gL722 := mM_L722 hq (mM_S640 hq (mM_K27 hq (mM_I hq b10 b14 b17) a_6_27_28) a_6_640_641).1 a_6_722_723
       have b796 : q 796=0 := gL722.1
       have b797 : ¬ (q 797=0) := gL722.2
       have gL640 := mM_L640 hq (mM_K27 hq (mM_I hq b10 b14 b17) a_6_27_28) a_6_640_641
       have b799 : ¬ (q 799=0) := gL640
       have gE100 := mM_E100 hq (mM_S640 hq (mM_K27 hq (mM_I hq b10 b14 b17) a_6_27_28) a_6_640_641).1 a_6_640_641 (mM_S640 hq (mM_K27 hq (mM_I hq b10 b14 b17) a_6_27_28) a_6_640_641).2 a_6_722_723
       have a_6_828_829 : q 828=0∧q 829=0 := gE100.1
       have a_6_849_850 : q 849=0∧q 850=0 := gE100.2.1
       have a_6_870_871 : q 870=0∧q 871=0 := gE100.2.2
       exact mM_leaf mM_r3 hσ hq h0 (mM_An (hT b10) (mM_An (hT b14) (mM_An (hT b17) (mM_An (hT a_6_27_28) (mM_An (hF a_6_640_641) (mM_An (hF a_6_722_723) (mM_An (hT a_3_8_9) (mM_An (hT a_3_13_9) (mM_An (hT b796) (mM_An (hF b797) (mM_An (hF b799) (mM_An (hT a_6_828_829) (mM_An (hT a_6_849_850) (mM_An (hT a_6_870_871) trivial)))))))))))))) ⟨tab,mx⟩ hA
    ·
     by_cases a_6_110_111 : q 110=0∧q 111=0
     ·
      by_cases a_6_462_463 : q 462=0∧q 463=0
      ·
       have gW10 := mM_W10 hq b10
       have a_3_8_9 : q 8=q 9 := gW10
       have gW14 := mM_W14 hq b14
       have a_3_13_9 : q 13=q 9 := gW14
       by_cases b272 : q 272=0
       ·
        have gL27 := mM_L27 hq a_6_27_28 b272
        have b273 : ¬ (q 273=0) := gL27
        have gE011 := mM_E011 hq (mM_I hq b10 b14 b17) a_6_27_28 (mM_S27 hq (mM_I hq b10 b14 b17) a_6_27_28).2 a_6_110_111 a_6_462_463
        have a_6_616_617 : q 616=0∧q 617=0 := gE011.1
        have a_6_627_628 : q 627=0∧q 628=0 := gE011.2.1
        have a_6_638_639 : q 638=0∧q 639=0 := gE011.2.2
        exact mM_leaf mM_r4 hσ hq h0 (mM_An (hT b10) (mM_An (hT b14) (mM_An (hT b17) (mM_An (hF a_6_27_28) (mM_An (hT a_6_110_111) (mM_An (hT a_6_462_463) (mM_An (hT a_3_8_9) (mM_An (hT a_3_13_9) (mM_An (hT b272) (mM_An (hF b273) (mM_An (hT a_6_616_617) (mM_An (hT a_6_627_628) (mM_An (hT a_6_638_639) trivial))))))))))))) ⟨tab,mx⟩ hA
       ·
        have gE011 := mM_E011 hq (mM_I hq b10 b14 b17) a_6_27_28 (mM_S27 hq (mM_I hq b10 b14 b17) a_6_27_28).2 a_6_110_111 a_6_462_463
        have a_6_616_617 : q 616=0∧q 617=0 := gE011.1
        have a_6_627_628 : q 627=0∧q 628=0 := gE011.2.1
        have a_6_638_639 : q 638=0∧q 639=0 := gE011.2.2
        exact mM_leaf mM_r5 hσ hq h0 (mM_An (hT b10) (mM_An (hT b14) (mM_An (hT b17) (mM_An (hF a_6_27_28) (mM_An (hT a_6_110_111) (mM_An (hT a_6_462_463) (mM_An (hT a_3_8_9) (mM_An (hT a_3_13_9) (mM_An (hF b272) (mM_An (hT a_6_616_617) (mM_An (hT a_6_627_628) (mM_An (hT a_6_638_639) trivial)))))))))))) ⟨tab,mx⟩ hA
      ·
       have gW10 := mM_W10 hq b10
       have a_3_8_9 : q 8=q 9 := gW10
       have gW14 := mM_W14 hq b14
       have a_3_13_9 : q 13=q 9 := gW14
       have gL462 := mM_L462 hq (mM_K110 hq (mM_S27 hq (mM_I hq b10 b14 b17) a_6_27_28).1 a_6_110_111) a_6_462_463
       have b536 : q 536=0 := gL462.1
       have b537 : ¬ (q 537=0) := gL462.2
       by_cases b272 : q 272=0
       ·
        have gL27 := mM_L27 hq a_6_27_28 b272
        have b273 : ¬ (q 273=0) := gL27
        have gE010 := mM_E010 hq (mM_K110 hq (mM_S27 hq (mM_I hq b10 b14 b17) a_6_27_28).1 a_6_110_111) a_6_27_28 (mM_S27 hq (mM_I hq b10 b14 b17) a_6_27_28).2 a_6_462_463
        have a_6_562_563 : q 562=0∧q 563=0 := gE010.1
        have a_6_583_584 : q 583=0∧q 584=0 := gE010.2.1
        have a_6_604_605 : q 604=0∧q 605=0 := gE010.2.2
        exact mM_leaf mM_r6 hσ hq h0 (mM_An (hT b10) (mM_An (hT b14) (mM_An (hT b17) (mM_An (hF a_6_27_28) (mM_An (hT a_6_110_111) (mM_An (hF a_6_462_463) (mM_An (hT a_3_8_9) (mM_An (hT a_3_13_9) (mM_An (hT b536) (mM_An (hF b537) (mM_An (hT b272) (mM_An (hF b273) (mM_An (hT a_6_562_563) (mM_An (hT a_6_583_584) (mM_An (hT a_6_604_605) trivial))))))))))))))) ⟨tab,mx⟩ hA
       ·
        have gE010 := mM_E010 hq (mM_K110 hq (mM_S27 hq (mM_I hq b10 b14 b17) a_6_27_28).1 a_6_110_111) a_6_27_28 (mM_S27 hq (mM_I hq b10 b14 b17) a_6_27_28).2 a_6_462_463
        have a_6_562_563 : q 562=0∧q 563=0 := gE010.1
        have a_6_583_584 : q 583=0∧q 584=0 := gE010.2.1
        have a_6_604_605 : q 604=0∧q 605=0 := gE010.2.2
        exact mM_leaf mM_r7 hσ hq h0 (mM_An (hT b10) (mM_An (hT b14) (mM_An (hT b17) (mM_An (hF a_6_27_28) (mM_An (hT a_6_110_111) (mM_An (hF a_6_462_463) (mM_An (hT a_3_8_9) (mM_An (hT a_3_13_9) (mM_An (hT b536) (mM_An (hF b537) (mM_An (hF b272) (mM_An (hT a_6_562_563) (mM_An (hT a_6_583_584) (mM_An (hT a_6_604_605) trivial)))))))))))))) ⟨tab,mx⟩ hA
     ·
      by_cases a_6_192_193 : q 192=0∧q 193=0
      ·
       have gW10 := mM_W10 hq b10
       have a_3_8_9 : q 8=q 9 := gW10
       have gW14 := mM_W14 hq b14
       have a_3_13_9 : q 13=q 9 := gW14
       have gL110 := mM_L110 hq (mM_S27 hq (mM_I hq b10 b14 b17) a_6_27_28).1 a_6_110_111
       have b269 : ¬ (q 269=0) := gL110
       by_cases b272 : q 272=0
       ·
        have gL27 := mM_L27 hq a_6_27_28 b272
        have b273 : ¬ (q 273=0) := gL27
        have gE001 := mM_E001 hq (mM_S27 hq (mM_I hq b10 b14 b17) a_6_27_28).1 a_6_27_28 (mM_S27 hq (mM_I hq b10 b14 b17) a_6_27_28).2 a_6_110_111 (mM_S110 hq (mM_S27 hq (mM_I hq b10 b14 b17) a_6_27_28).1 a_6_110_111).2 a_6_192_193
        have a_6_410_411 : q 410=0∧q 411=0 := gE001.1
        have a_6_431_432 : q 431=0∧q 432=0 := gE001.2.1
        have a_6_452_453 : q 452=0∧q 453=0 := gE001.2.2
        exact mM_leaf mM_r8 hσ hq h0 (mM_An (hT b10) (mM_An (hT b14) (mM_An (hT b17) (mM_An (hF a_6_27_28) (mM_An (hF a_6_110_111) (mM_An (hT a_6_192_193) (mM_An (hT a_3_8_9) (mM_An (hT a_3_13_9) (mM_An (hF b269) (mM_An (hT b272) (mM_An (hF b273) (mM_An (hT a_6_410_411) (mM_An (hT a_6_431_432) (mM_An (hT a_6_452_453) trivial)))))))))))))) ⟨tab,mx⟩ hA
       ·
        have gE001 := mM_E001 hq (mM_S27 hq (mM_I hq b10 b14 b17) a_6_27_28).1 a_6_27_28 (mM_S27 hq (mM_I hq b10 b14 b17) a_6_27_28).2 a_6_110_111 (mM_S110 hq (mM_S27 hq (mM_I hq b10 b14 b17) a_6_27_28).1 a_6_110_111).2 a_6_192_193
        have a_6_410_411 : q 410=0∧q 411=0 := gE001.1
        have a_6_431_432 : q 431=0∧q 432=0 := gE001.2.1
        have a_6_452_453 : q 452=0∧q 453=0 := gE001.2.2
        exact mM_leaf mM_r9 hσ hq h0 (mM_An (hT b10) (mM_An (hT b14) (mM_An (hT b17) (mM_An (hF a_6_27_28) (mM_An (hF a_6_110_111) (mM_An (hT a_6_192_193) (mM_An (hT a_3_8_9) (mM_An (hT a_3_13_9) (mM_An (hF b269) (mM_An (hF b272) (mM_An (hT a_6_410_411) (mM_An (hT a_6_431_432) (mM_An (hT a_6_452_453) trivial))))))))))))) ⟨tab,mx⟩ hA
      ·
       have gW10 := mM_W10 hq b10
       have a_3_8_9 : q 8=q 9 := gW10
       have gW14 := mM_W14 hq b14
       have a_3_13_9 : q 13=q 9 := gW14
       have gL192 := mM_L192 hq (mM_S110 hq (mM_S27 hq (mM_I hq b10 b14 b17) a_6_27_28).1 a_6_110_111).1 a_6_192_193
       have b266 : q 266=0 := gL192.1
       have b267 : ¬ (q 267=0) := gL192.2
       have gL110 := mM_L110 hq (mM_S27 hq (mM_I hq b10 b14 b17) a_6_27_28).1 a_6_110_111
       have b269 : ¬ (q 269=0) := gL110
       by_cases b272 : q 272=0
       ·
        have gL27 := mM_L27 hq a_6_27_28 b272
        have b273 : ¬ (q 273=0) := gL27
        have gE000 := mM_E000 hq (mM_S110 hq (mM_S27 hq (mM_I hq b10 b14 b17) a_6_27_28).1 a_6_110_111).1 a_6_27_28 (mM_S27 hq (mM_I hq b10 b14 b17) a_6_27_28).2 a_6_110_111 (mM_S110 hq (mM_S27 hq (mM_I hq b10 b14 b17) a_6_27_28).1 a_6_110_111).2 a_6_192_193
        have a_6_314_315 : q 314=0∧q 315=0 := gE000.1
        have a_6_351_352 : q 351=0∧q 352=0 := gE000.2.1
        have a_6_388_389 : q 388=0∧q 389=0 := gE000.2.2
        exact mM_leaf mM_r10 hσ hq h0 (mM_An (hT b10) (mM_An (hT b14) (mM_An (hT b17) (mM_An (hF a_6_27_28) (mM_An (hF a_6_110_111) (mM_An (hF a_6_192_193) (mM_An (hT a_3_8_9) (mM_An (hT a_3_13_9) (mM_An (hT b266) (mM_An (hF b267) (mM_An (hF b269) (mM_An (hT b272) (mM_An (hF b273) (mM_An (hT a_6_314_315) (mM_An (hT a_6_351_352) (mM_An (hT a_6_388_389) trivial)))))))))))))))) ⟨tab,mx⟩ hA
       ·
        have gE000 := mM_E000 hq (mM_S110 hq (mM_S27 hq (mM_I hq b10 b14 b17) a_6_27_28).1 a_6_110_111).1 a_6_27_28 (mM_S27 hq (mM_I hq b10 b14 b17) a_6_27_28).2 a_6_110_111 (mM_S110 hq (mM_S27 hq (mM_I hq b10 b14 b17) a_6_27_28).1 a_6_110_111).2 a_6_192_193
        have a_6_314_315 : q 314=0∧q 315=0 := gE000.1
        have a_6_351_352 : q 351=0∧q 352=0 := gE000.2.1
        have a_6_388_389 : q 388=0∧q 389=0 := gE000.2.2
        exact mM_leaf mM_r11 hσ hq h0 (mM_An (hT b10) (mM_An (hT b14) (mM_An (hT b17) (mM_An (hF a_6_27_28) (mM_An (hF a_6_110_111) (mM_An (hF a_6_192_193) (mM_An (hT a_3_8_9) (mM_An (hT a_3_13_9) (mM_An (hT b266) (mM_An (hF b267) (mM_An (hF b269) (mM_An (hF b272) (mM_An (hT a_6_314_315) (mM_An (hT a_6_351_352) (mM_An (hT a_6_388_389) trivial))))))))))))))) ⟨tab,mx⟩ hA
   ·
    have gW10 := mM_W10 hq b10
    have a_3_8_9 : q 8=q 9 := gW10
    have gW14 := mM_W14 hq b14
    have a_3_13_9 : q 13=q 9 := gW14
    exact mM_leaf mM_r12 hσ hq h0 (mM_An (hT b10) (mM_An (hT b14) (mM_An (hF b17) (mM_An (hT a_3_8_9) (mM_An (hT a_3_13_9) trivial))))) ⟨tab,mx⟩ hA
  ·
   have gW10 := mM_W10 hq b10
   have a_3_8_9 : q 8=q 9 := gW10
   have a_3_13_9 : ¬ (q 13=q 9) := mM_f1 E9 E11 E12 E13 E14 b14
   exact mM_leaf mM_r13 hσ hq h0 (mM_An (hT b10) (mM_An (hF b14) (mM_An (hT a_3_8_9) (mM_An (hF a_3_13_9) trivial)))) ⟨tab,mx⟩ hA
 ·
  have a_3_8_9 : ¬ (q 8=q 9) := mM_f2 E6 E7 E8 E9 E10 b10
  exact mM_leaf mM_r14 hσ hq h0 (mM_An (hF b10) (mM_An (hF a_3_8_9) trivial)) ⟨tab,mx⟩ hA
end Go.Proofs.YtobmjfjkpodhmaaGreatDoor
