/- Part 13 of the walks and of the mathematics under them: VY VSZ CFturned VSA MTG. -/
import Derived.Test.YtobmjfjkpodhmaaGreatDoorA12
set_option maxHeartbeats 16000000
set_option maxRecDepth 100000
/- VY -/
namespace Go.Proofs.YtobmjfjkpodhmaaGreatDoor
open Go.RowKit Cx
theorem den_num (t : Rat) : t*(t.den : Rat)=((t.num : Int) : Rat) := by
 conv => lhs; lhs; rw [← Rat.mkRat_self t]
 have h0 : (t.den : Rat) ≠ 0 := fun h => t.den_nz (by exact_mod_cast h)
 rw [Rat.mkRat_eq_div,Rat.div_mul_cancel h0]
theorem whole {q : Rat} (h : q.den=1) : q=((q.num : Int) : Rat) := by
 have := den_num q
 rw [h] at this
 rw [← this]
 show q=q*((1 : Nat) : Rat)
 exact (Rat.mul_one q).symm
end Go.Proofs.YtobmjfjkpodhmaaGreatDoor
/- VSZ -/
namespace Go.Proofs.YtobmjfjkpodhmaaGreatDoor
open Go.RowKit Cx
structure QW (z : Nat) (x : Rat) : Prop where
 qs : QS z x
 wh : x.den=1
theorem QW.of {z : Nat} {n : Int} (h : n.natAbs < 2 ^ z) (hz : 0 < z) : QW z ((n : Int) : Rat) :=
 ⟨⟨by simpa using h,by
  show ((n : Int) : Rat).den < 2 ^ z
  rw [Rat.den_intCast]
  exact Nat.one_lt_two_pow (by omega)⟩,Rat.den_intCast n⟩
theorem QW.mono {k l : Nat} {x : Rat} (h : QW k x) (hk : k≤l) : QW l x := ⟨h.qs.mono hk,h.wh⟩
theorem two_max {a b x y : Nat} (h1 : a < 2 ^ x) (h2 : b < 2 ^ y) : a+b < 2 ^ (Nat.max x y+1) := by
 have e1 : 2 ^ x≤2 ^ Nat.max x y := Nat.pow_le_pow_right (by decide) (Nat.le_max_left x y)
 have e2 : 2 ^ y≤2 ^ Nat.max x y := Nat.pow_le_pow_right (by decide) (Nat.le_max_right x y)
 rw [Nat.pow_succ]
 omega
theorem QW.add {x y : Nat} {a b : Rat} (h1 : QW x a) (h2 : QW y b) : QW (Nat.max x y+1) (a+b) := by
 rw [whole h1.wh,whole h2.wh,← Rat.intCast_add]
 refine QW.of ?_ (by omega)
 have := two_max h1.qs.num h2.qs.num
 omega
theorem QW.sub {x y : Nat} {a b : Rat} (h1 : QW x a) (h2 : QW y b) : QW (Nat.max x y+1) (a - b) := by
 rw [whole h1.wh,whole h2.wh,← Rat.intCast_sub]
 refine QW.of ?_ (by omega)
 have := two_max h1.qs.num h2.qs.num
 omega
theorem QW.mul {x y : Nat} {a b : Rat} (h1 : QW x a) (h2 : QW y b) : QW (x+y) (a*b) := by
 refine ⟨h1.qs.mul h2.qs,?_⟩
 rw [whole h1.wh,whole h2.wh,← Rat.intCast_mul]
 exact Rat.den_intCast _
theorem QW.neg {x : Nat} {a : Rat} (h1 : QW x a) : QW x (-a) := ⟨h1.qs.neg,h1.wh⟩
theorem ten_three : ∀ n : Nat,10 ^ n≤2 ^ ((10*n+2) / 3)
 | 0 => by decide
 | 1 => by decide
 | 2 => by decide
 | n+3 => by
  have h := ten_three n
  have e : (10*(n+3)+2) / 3=(10*n+2) / 3+10 := by omega
  rw [e,Nat.pow_add,Nat.pow_add]
  exact Nat.mul_le_mul h (by decide)
theorem QS.rd3 (l : List UInt8) : QS ((10*l.length+2) / 3+5) (Cx.rd l) := by
 have key : ∀ {m : List UInt8},digs m=true→dv m < 2 ^ ((10*m.length+2) / 3) := fun {m} h => Nat.lt_of_lt_of_le (dv_lt (digs_all h)) (ten_three _)
 unfold Cx.rd
 split
 ·rename_i h
  rw [Bool.and_eq_true] at h
  have h1 := key h.1
  have h2 := key h.2
  have h3 := up_len (tailOf l)
  have h4 := low_len (tailOf l)
  have h5 := tail_len l
  apply QS.mkr
  ·rw [sg_abs]; exact Nat.lt_of_lt_of_le h1 (Nat.pow_le_pow_right (by decide) (by omega))
  ·exact Nat.lt_of_lt_of_le h2 (Nat.pow_le_pow_right (by decide) (by omega))
 ·exact QS.zero.mono (by omega)
section
variable {N : List Nd} {Z : List Nat} {I : List Bool} {q : Nat→Rat}
end
end Go.Proofs.YtobmjfjkpodhmaaGreatDoor
/- CFturned -/
namespace Go.Proofs.YtobmjfjkpodhmaaGreatDoor
open Go.RowKit Cx
theorem closed_turned : Closed 9 :=
 closed_told (N := [(0,[0,0,1]),(0,[0,1,1]),(0,[0,2,1]),(3,[2,0]),(3,[0,0]),(4,[3,3]),(4,[4,4]),(2,[5,6]),(6,[1,7]),(4,[3,8]),(4,[4,8]),(2,[0,9]),(2,[0,10]),(0,[1,2,1]),(4,[1,1]),(4,[0,0]),(2,[14,15]),(0,[0,4,1]),(4,[17,0]),(4,[18,13]),(3,[16,19]),(5,[0]),(2,[6,6]),(3,[22,1]),(5,[23]),(5,[21]),(5,[24]),(5,[1]),(4,[21,0]),(4,[25,0]),(4,[28,2]),(4,[29,2]),(4,[27,1]),(4,[21,25]),(2,[32,33]),(4,[27,21]),(4,[25,1]),(3,[35,36]),(2,[0,30]),(2,[0,31]),(2,[38,34]),(2,[39,37]),(5,[25]),(5,[42]),(4,[40,21]),(4,[41,43]),(2,[44,45]),(5,[41]),(4,[40,42]),(4,[47,21]),(3,[48,49]),(4,[21,1]),(4,[25,42]),(2,[51,52]),(4,[42,1]),(3,[33,54]),(4,[27,13]),(4,[21,13]),(4,[56,2]),(4,[57,2]),(2,[0,53]),(2,[0,55]),(2,[60,58]),(2,[61,59]),(4,[62,27]),(4,[63,42]),(2,[64,65]),(5,[63]),(4,[62,25]),(4,[67,27]),(3,[68,69]),(2,[46,66]),(2,[50,70]),(4,[26,0]),(4,[73,2]),(4,[0,1]),(4,[0,25]),(2,[75,76]),(4,[0,21]),(3,[78,51]),(2,[0,74]),(2,[80,77]),(2,[38,79]),(4,[81,21]),(4,[82,43]),(2,[83,84]),(5,[82]),(4,[81,42]),(4,[86,21]),(3,[87,88]),(4,[26,1]),(4,[21,42]),(2,[90,91]),(4,[26,25]),(3,[93,36]),(4,[0,13]),(4,[95,2]),(2,[0,92]),(2,[0,94]),(2,[97,96]),(2,[98,96]),(4,[99,27]),(4,[100,42]),(2,[101,102]),(5,[100]),(4,[99,25]),(4,[104,27]),(3,[105,106]),(2,[85,103]),(2,[89,107]),(4,[108,2]),(4,[109,2]),(4,[81,26]),(4,[82,42]),(2,[112,113]),(4,[81,25]),(4,[86,26]),(3,[115,116]),(4,[99,0]),(4,[100,25]),(2,[118,119]),(4,[99,21]),(4,[104,0]),(3,[121,122]),(2,[114,120]),(2,[117,123]),(8,[0,71,110,111,124]),(8,[1,71,110,111,124]),(8,[2,71,110,111,124]),(8,[3,71,110,111,124]),(3,[1,0]),(3,[0,1]),(4,[130,0]),(4,[131,21]),(2,[132,133]),(5,[131]),(4,[135,0]),(3,[132,136]),(5,[134]),(5,[137]),(4,[4,27]),(2,[132,140]),(5,[4]),(4,[130,1]),(4,[142,0]),(3,[143,144]),(5,[141]),(5,[145]),(5,[138]),(5,[139]),(5,[130]),(4,[146,130]),(4,[147,135]),(2,[151,152]),(5,[147]),(4,[146,131]),(4,[154,130]),(3,[155,156]),(4,[148,130]),(4,[149,142]),(2,[158,159]),(5,[149]),(4,[148,4]),(4,[161,130]),(3,[162,163]),(2,[153,160]),(2,[157,164]),(4,[146,138]),(4,[147,149]),(2,[167,168]),(4,[146,139]),(4,[154,138]),(3,[170,171]),(4,[148,146]),(4,[149,154]),(2,[173,174]),(4,[148,147]),(4,[161,146]),(3,[176,177]),(2,[169,175]),(2,[172,178]),(4,[150,130]),(4,[142,135]),(2,[181,182]),(5,[142]),(4,[150,131]),(4,[184,130]),(3,[185,186]),(4,[130,130]),(4,[131,142]),(2,[188,189]),(4,[130,4]),(4,[135,130]),(3,[191,192]),(2,[183,190]),(2,[187,193]),(4,[150,138]),(4,[142,149]),(2,[196,197]),(4,[150,139]),(4,[184,138]),(3,[199,200]),(4,[130,146]),(4,[131,154]),(2,[202,203]),(4,[130,147]),(4,[135,146]),(3,[205,206]),(2,[198,204]),(2,[201,207]),(5,[166]),(5,[210]),(4,[165,165]),(4,[166,211]),(2,[212,213]),(4,[165,210]),(4,[210,165]),(3,[215,216]),(4,[166,166]),(2,[212,218]),(6,[214,219]),(6,[217,219]),(4,[179,165]),(4,[180,211]),(2,[222,223]),(5,[180]),(4,[179,210]),(4,[225,165]),(3,[226,227]),(6,[224,219]),(6,[228,219]),(4,[194,165]),(4,[195,211]),(2,[231,232]),(5,[195]),(4,[194,210]),(4,[234,165]),(3,[235,236]),(6,[233,219]),(6,[237,219]),(4,[208,165]),(4,[209,211]),(2,[240,241]),(5,[209]),(4,[208,210]),(4,[243,165]),(3,[244,245]),(6,[242,219]),(6,[246,219]),(0,[0,1,2]),(0,[1,1,1])]) (H := [(2,1,0,1),(0,3,0,0),(2,20,0,1),(0,130,0,0),(0,4,0,1),(0,131,0,0),(0,165,0,0),(4,11,249,1),(4,12,0,1),(4,126,2,1),(4,127,250,1),(4,128,0,1),(4,129,0,1),(4,220,1,1),(4,221,0,1),(4,229,0,1),(4,230,0,1),(4,238,0,1),(4,239,0,1),(4,247,1,1),(4,248,0,1)]) (K := [(138,[.inr (3,76,0,0,0),.inr (3,86,0,0,0)]),(75,[.inr (3,560,0,0,0),.inr (3,561,0,0,0)]),(77,[.inr (3,691,0,0,0),.inr (3,693,0,0,0)])]) (L := [([48],0),([49],1),([50],2),([45,50],13),([49,47,50],249),([45,49],250)]) (C := [([49,47,50],249),([48],0),([50],2),([45,49],250),([49],1)]) (Z := [2,2,3,6,5,12,10,23,25,31,30,34,33,3,4,4,9,4,6,9,19,2,21,24,24,2,24,2,4,4,7,7,4,4,9,4,4,9,10,10,20,20,2,2,22,22,45,20,22,22,45,4,4,9,4,9,5,5,8,8,12,12,21,21,23,23,47,21,23,23,47,93,93,26,29,4,4,9,4,9,32,42,20,44,22,67,20,44,22,67,26,4,31,26,31,5,8,34,34,43,43,45,45,91,43,45,45,91,159,159,162,162,66,22,89,44,44,89,45,45,91,45,45,91,181,181,906,906,906,906,5,5,7,7,15,5,7,15,15,15,7,15,5,7,7,15,15,15,15,15,5,20,20,41,15,20,20,41,20,20,41,15,20,20,41,83,83,30,30,61,30,30,61,30,30,61,30,30,61,123,123,10,10,21,5,10,10,21,10,10,21,10,10,21,43,43,20,20,41,20,20,41,20,20,41,20,20,41,83,83,83,83,166,166,333,166,166,333,166,333,666,666,206,206,413,123,206,206,413,746,746,126,126,253,43,126,126,253,586,586,166,166,333,83,166,166,333,666,666,3,2]) (cl := []) 8 (fun _ h => by cases h) (by kernel_rfl) (by kernel_rfl) (by kernel_rfl) (by kernel_rfl) (by kernel_rfl) (by kernel_rfl) (by kernel_rfl)
end Go.Proofs.YtobmjfjkpodhmaaGreatDoor
/- VSA -/
namespace Go.Proofs.YtobmjfjkpodhmaaGreatDoor
open Go.RowKit Cx
def inB : Nat := 3495259
abbrev Atm := Nat × Nat
def remA (x : Atm) : List Atm→Option (List Atm)
 | [] => none
 | y :: l => bif Nat.beq x.1 y.1 && Nat.beq x.2 y.2 then some l else (remA x l).map (y :: ·)
def subA : List Atm→List Atm→Option (List Atm)
 | l,[] => some l
 | l,x :: r => (remA x l).bind fun l' => subA l' r
def leftA : List Atm→List Atm→List Atm
 | _,[] => []
 | U,x :: D => match remA x U with
  | some U' => leftA U' D
  | none => x :: leftA U D
def uniA (E : List (Nat × List Atm)) : List Nat→List Atm→List Atm
 | [],U => U
 | a :: l,U => uniA E l (match E[a]? with
  | some p => U ++ leftA U p.2
  | none => U)
def bitA (E : List (Nat × List Atm)) (x : Atm) : Nat := match x.1 with
 | 0 => inB
 | 1 => (match E[x.2]? with
  | some p => p.1
  | none => 1)
 | _ => Nat.log2 x.2+1
def bitL (E : List (Nat × List Atm)) : List Atm→Nat
 | [] => 1
 | x :: l => bitA E x+bitL E l
def noneA (l : Option (List Atm)) : Bool := match l with
 | some [] => true
 | _ => false
def saN (E : List (Nat × List Atm)) (k z : Nat) (D : List Atm) (nd : Nd) : Bool := (Nat.blt 0 z && D.all fun x => !Nat.beq x.1 1 || Nat.blt x.2 k) && match nd.1,nd.2 with
 | 0,[_,n,d] => (Nat.blt n (2 ^ z) && Nat.blt 0 d) && noneA (subA D (bif Nat.beq d 1 then [] else [(2,d)]))
 | 1,[j] => Nat.ble inB z && noneA (subA D [(0,j)])
 | 2,[a,b] => (match E[a]?,E[b]? with
  | some p,some r => (match subA D p.2,subA D r.2 with
   | some c,some e => Nat.ble (Nat.max (p.1+bitL E c) (r.1+bitL E e)+1) z
   | _,_ => false)
  | _,_ => false)
 | 3,[a,b] => (match E[a]?,E[b]? with
  | some p,some r => (match subA D p.2,subA D r.2 with
   | some c,some e => Nat.ble (Nat.max (p.1+bitL E c) (r.1+bitL E e)+1) z
   | _,_ => false)
  | _,_ => false)
 | 4,[a,b] => (match E[a]?,E[b]? with
  | some p,some r => (match subA D p.2 with
   | some c => noneA (subA c r.2) && Nat.ble (p.1+r.1) z
   | _ => false)
  | _,_ => false)
 | 5,[a] => (match E[a]? with
  | some p => noneA (subA D p.2) && Nat.ble p.1 z
  | _ => false)
 | 6,[a,b] => (match E[a]?,E[b]?,remA (1,b) D with
  | some p,some r,some D' => (match subA p.2 D' with
   | some c => (match subA r.2 c with
    | some e => Nat.ble (p.1+bitL E e) z
    | none => false)
   | none => false)
  | _,_,_ => false)
 | 7,_ => Nat.beq D.length 0
 | 8,i :: xs => Nat.beq D.length 0 && (xs.all (fun a => match E[a]? with
   | some p => (subA (uniA E xs []) p.2).isSome
   | none => false) && (match xs[i]? with
   | some a => (match E[a]? with
    | some p => (match subA (uniA E xs []) p.2 with
     | some e => Nat.ble (p.1+bitL E e) z
     | none => false)
    | none => false)
   | none => false))
 | _,_ => false
def saB (E : List (Nat × List Atm)) : Nat→List Nd→List (Nat × List Atm)→List Nat→Bool
 | _,[],[],[] => true
 | k,nd :: ns,p :: ps,z :: zs => (saN E k p.1 p.2 nd && (Nat.ble p.1 z && (Nat.ble (bitL E p.2) z && Nat.ble z 1000000000000))) && saB E (k+1) ns ps zs
 | _,_,_,_ => false
theorem saB_get {E : List (Nat × List Atm)} : ∀ {ns : List Nd} {ps : List (Nat × List Atm)} {zs : List Nat} {k i : Nat} {nd : Nd},saB E k ns ps zs=true→ns[i]? = some nd→∃ p z,ps[i]? = some p∧zs[i]? = some z∧saN E (k+i) p.1 p.2 nd=true∧p.1≤z∧bitL E p.2≤z∧z≤1000000000000
 | [],_,_,_,_,_,_,h => by simp at h
 | _ :: _,[],_,_,_,_,h,_ => by cases h
 | _ :: _,_ :: _,[],_,_,_,h,_ => by cases h
 | nd' :: ns,p :: ps,z :: zs,k,0,nd,h,e => by
  have : nd'=nd := by simpa using e
  subst this
  unfold saB at h
  simp only [Bool.and_eq_true,Nat.ble_eq] at h
  exact ⟨p,z,rfl,rfl,h.1.1,h.1.2.1,h.1.2.2.1,h.1.2.2.2⟩
 | nd' :: ns,p :: ps,z :: zs,k,i+1,nd,h,e => by
  unfold saB at h
  rw [Bool.and_eq_true] at h
  obtain ⟨p',z',g1,g2,g3,g4⟩ := saB_get (k := k+1) (i := i) h.2 (by simpa using e)
  exact ⟨p',z',by simpa using g1,by simpa using g2,by rw [show k+(i+1)=k+1+i by omega]; exact g3,g4⟩
theorem saB_len {E : List (Nat × List Atm)} : ∀ {ns : List Nd} {ps : List (Nat × List Atm)} {zs : List Nat} {k : Nat},saB E k ns ps zs=true→ns.length=ps.length∧ns.length=zs.length
 | [],[],[],_,_ => ⟨rfl,rfl⟩
 | [],[],_ :: _,_,h => by cases h
 | [],_ :: _,_,_,h => by cases h
 | _ :: _,[],_,_,h => by cases h
 | _ :: _,_ :: _,[],_,h => by cases h
 | _ :: _,_ :: _,_ :: _,k,h => by
  unfold saB at h
  rw [Bool.and_eq_true] at h
  have := saB_len h.2
  exact ⟨congrArg (· + 1) this.1,congrArg (· + 1) this.2⟩
def valA (dn : Nat→Nat) (M : Nat→Rat) (x : Atm) : Rat := match x.1 with
 | 0 => ((dn x.2 : Nat) : Rat)
 | 1 => if M x.2=0 then 1 else M x.2
 | _ => if x.2=0 then 1 else ((x.2 : Nat) : Rat)
def proA (dn : Nat→Nat) (M : Nat→Rat) : List Atm→Rat
 | [] => 1
 | x :: l => valA dn M x*proA dn M l
theorem remA_pro {dn : Nat→Nat} {M : Nat→Rat} {x : Atm} : ∀ {l c : List Atm},remA x l=some c→proA dn M l=valA dn M x*proA dn M c
 | [],_,h => by cases h
 | y :: l,c,h => by
  unfold remA at h
  cases e : (Nat.beq x.1 y.1 && Nat.beq x.2 y.2) with
  | true =>
   rw [e] at h
   cases h
   rw [Bool.and_eq_true,Nat.beq_eq,Nat.beq_eq] at e
   have : x=y := Prod.ext e.1 e.2
   rw [this]
   rfl
  | false =>
   rw [e] at h
   simp only [cond_false,Option.map_eq_some_iff] at h
   obtain ⟨c',h1,rfl⟩ := h
   show valA dn M y*proA dn M l=valA dn M x*(valA dn M y*proA dn M c')
   rw [remA_pro h1]
   grind
theorem subA_pro {dn : Nat→Nat} {M : Nat→Rat} : ∀ {r l c : List Atm},subA l r=some c→proA dn M l=proA dn M r*proA dn M c
 | [],l,c,h => by
  have : l=c := by simpa [subA] using h
  rw [this]
  exact (Rat.one_mul _).symm
 | x :: r,l,c,h => by
  unfold subA at h
  rw [Option.bind_eq_some_iff] at h
  obtain ⟨l',h1,h2⟩ := h
  rw [remA_pro h1,subA_pro h2]
  exact (Rat.mul_assoc _ _ _).symm
theorem noneA_some {l : Option (List Atm)} (h : noneA l=true) : l=some [] := by
 unfold noneA at h
 split at h
 ·rfl
 ·cases h
theorem QW.one {z : Nat} (h : 0 < z) : QW z 1 := ⟨⟨by
  show (1 : Int).natAbs < 2 ^ z
  exact Nat.one_lt_two_pow (by omega),by
  show 1 < 2 ^ z
  exact Nat.one_lt_two_pow (by omega)⟩,rfl⟩
theorem QW.zero {z : Nat} (h : 0 < z) : QW z 0 := ⟨⟨by
  show (0 : Int).natAbs < 2 ^ z
  exact Nat.two_pow_pos z,by
  show 1 < 2 ^ z
  exact Nat.one_lt_two_pow (by omega)⟩,rfl⟩
theorem QW.nat {z n : Nat} (h : n < 2 ^ z) (hz : 0 < z) : QW z ((n : Nat) : Rat) := by
 have : ((n : Nat) : Rat)=(((n : Nat) : Int) : Rat) := (Rat.intCast_natCast n).symm
 rw [this]
 exact QW.of (by simpa using h) hz
section
variable {E : List (Nat × List Atm)} {dn : Nat→Nat} {M : Nat→Rat} {k : Nat}
def BelA (E : List (Nat × List Atm)) (dn : Nat→Nat) (M : Nat→Rat) (q : Nat→Rat) (k : Nat) : Prop := ∀ a,a < k→∃ p,E[a]? = some p∧QW p.1 (M a)∧0 < p.1∧(∀ x ∈ p.2,x.1=1→x.2 < a)∧q a*proA dn M p.2=M a
theorem valA_ok {q : Nat→Rat} (hdn : ∀ j,0 < dn j∧dn j < 2 ^ inB) (hM : BelA E dn M q k) {x : Atm} (hx : x.1=1→x.2 < k) : QW (bitA E x) (valA dn M x)∧valA dn M x ≠ 0 := by
 obtain ⟨i,j⟩ := x
 match i with
 | 0 =>
  show QW inB ((dn j : Nat) : Rat)∧((dn j : Nat) : Rat) ≠ 0
  refine ⟨QW.nat (hdn j).2 (by unfold inB; omega),fun h => ?_⟩
  have := (hdn j).1
  have h2 : dn j=0 := by exact_mod_cast h
  omega
 | 1 =>
  obtain ⟨p,h1,h2,h3,_⟩ := hM j (hx rfl)
  show QW (match E[j]? with
   | some p => p.1
   | none => 1) (if M j=0 then 1 else M j)∧(if M j=0 then 1 else M j) ≠ 0
  rw [h1]
  by_cases h : M j=0
  ·rw [if_pos h]
   exact ⟨QW.one h3,by decide⟩
  ·rw [if_neg h]
   exact ⟨h2,h⟩
 | i+2 =>
  show QW (Nat.log2 j+1) (if j=0 then 1 else ((j : Nat) : Rat))∧(if j=0 then 1 else ((j : Nat) : Rat)) ≠ 0
  by_cases h : j=0
  ·rw [if_pos h]
   exact ⟨QW.one (by omega),by decide⟩
  ·rw [if_neg h]
   refine ⟨QW.nat Nat.lt_log2_self (by omega),fun h2 => h ?_⟩
   exact_mod_cast h2
theorem proA_ok {q : Nat→Rat} (hdn : ∀ j,0 < dn j∧dn j < 2 ^ inB) (hM : BelA E dn M q k) : ∀ {l : List Atm},(∀ x ∈ l,x.1=1→x.2 < k)→QW (bitL E l) (proA dn M l)∧proA dn M l ≠ 0
 | [],_ => ⟨QW.one (show 0 < 1 by decide),by show (1 : Rat) ≠ 0; decide⟩
 | x :: l,h => by
  have h1 := valA_ok hdn hM (h x List.mem_cons_self)
  have h2 := proA_ok hdn hM (l := l) fun y hy => h y (List.mem_cons_of_mem _ hy)
  exact ⟨h1.1.mul h2.1,mul_ne h1.2 h2.2⟩
theorem proA_congr {M' : Nat→Rat} : ∀ {l : List Atm},(∀ x ∈ l,x.1=1→M x.2=M' x.2)→proA dn M l=proA dn M' l
 | [],_ => rfl
 | x :: l,h => by
  show valA dn M x*proA dn M l=valA dn M' x*proA dn M' l
  rw [proA_congr (l := l) fun y hy => h y (List.mem_cons_of_mem _ hy)]
  have e : valA dn M x=valA dn M' x := by
   obtain ⟨i,j⟩ := x
   match i with
   | 0 => rfl
   | 1 =>
    have := h (1,j) List.mem_cons_self rfl
    show (if M j=0 then 1 else M j)=(if M' j=0 then 1 else M' j)
    rw [this]
   | i+2 => rfl
  rw [e]
theorem remA_mem {x y : Atm} : ∀ {l c : List Atm},remA x l=some c→y ∈ c→y ∈ l
 | [],_,h,_ => by cases h
 | z :: l,c,h,hy => by
  unfold remA at h
  cases e : (Nat.beq x.1 z.1 && Nat.beq x.2 z.2) with
  | true => rw [e] at h; cases h; exact List.mem_cons_of_mem _ hy
  | false =>
   rw [e] at h
   simp only [cond_false,Option.map_eq_some_iff] at h
   obtain ⟨c',h1,rfl⟩ := h
   rcases List.mem_cons.1 hy with rfl | hy
   ·exact List.mem_cons_self
   ·exact List.mem_cons_of_mem _ (remA_mem h1 hy)
theorem subA_mem {y : Atm} : ∀ {r l c : List Atm},subA l r=some c→y ∈ c→y ∈ l
 | [],l,c,h,hy => by
  have : l=c := by simpa [subA] using h
  rw [this]; exact hy
 | x :: r,l,c,h,hy => by
  unfold subA at h
  rw [Option.bind_eq_some_iff] at h
  obtain ⟨l',h1,h2⟩ := h
  exact remA_mem h1 (subA_mem h2 hy)
theorem nat_ne {n : Nat} (h : n ≠ 0) : ((n : Nat) : Rat) ≠ 0 := fun e => h (by exact_mod_cast e)
theorem mul_low (x : Rat) : x*((x.den : Nat) : Rat)=((x.num : Int) : Rat) := by
 have e : x=((x.num : Int) : Rat) / ((x.den : Nat) : Rat) := by
  have := Rat.mkRat_self x
  rw [Rat.mkRat_eq_div] at this
  exact this.symm
 conv => lhs; lhs; rw [e]
 exact Rat.div_mul_cancel (nat_ne x.den_nz)
theorem lD_dvd_of {qs : List Rat} {m M : Nat} (hm : m ∣ M) (h : ∀ q ∈ qs,q.den ∣ M) : qs.foldl (fun m q => m*(q.den / Nat.gcd m q.den)) m ∣ M := by
 induction qs generalizing m with
 | nil => exact hm
 | cons q qs ih =>
  rw [List.foldl_cons]
  refine ih ?_ fun p hp => h p (List.mem_cons_of_mem _ hp)
  have e : m*(q.den / Nat.gcd m q.den)=Nat.lcm m q.den := by
   unfold Nat.lcm
   exact (Nat.mul_div_assoc _ (Nat.gcd_dvd_right _ _)).symm
  rw [e]
  exact Nat.lcm_dvd hm (h q List.mem_cons_self)
theorem den_dvd {x : Rat} {m : Int} (h : (x*((m : Int) : Rat)).den=1) : x.den ∣ m.natAbs := by
 have e := whole h
 generalize (x*((m : Int) : Rat)).num=n at e
 have h1 : x*((x.den : Nat) : Rat)=((x.num : Int) : Rat) := mul_low x
 have h2 : ((x.num : Int) : Rat)*((m : Int) : Rat)=((n : Int) : Rat)*(((x.den : Nat) : Int) : Rat) := by
  rw [← h1,← e,Rat.intCast_natCast]
  grind
 have h3 : x.num*m=n*(x.den : Int) := by exact_mod_cast h2
 have h4 : (x.den : Int) ∣ x.num*m := ⟨n,by rw [h3,Int.mul_comm]⟩
 have h5 : x.den ∣ x.num.natAbs*m.natAbs := by
  have := Int.natAbs_dvd_natAbs.2 h4
  rwa [Int.natAbs_mul,Int.natAbs_natCast] at this
 exact (Nat.Coprime.symm x.reduced).dvd_of_dvd_mul_left h5
theorem fac_whole {qs : List Rat} {x : Rat} {z : Nat} {m : Int} (hx : x ∈ qs) (hm : m ≠ 0) (hall : ∀ y ∈ qs,(y*((m : Int) : Rat)).den=1) (hz : QW z (x*((m : Int) : Rat))) : QW z (x*fac qs) := by
 have hl : lD qs ∣ m.natAbs := lD_dvd_of (Nat.one_dvd _) fun y hy => den_dvd (hall y hy)
 have hd := fac_den hx
 have hpos : 0 < m.natAbs := Int.natAbs_pos.2 hm
 have hle : lD qs≤m.natAbs := Nat.le_of_dvd hpos hl
 have hn : (x*fac qs).num.natAbs≤(x*((m : Int) : Rat)).num.natAbs := by
  rw [fac_abs hx]
  have e := whole hz.wh
  generalize (x*((m : Int) : Rat)).num=n at e
  have h1 : x*((x.den : Nat) : Rat)=((x.num : Int) : Rat) := mul_low x
  have h2 : ((x.num : Int) : Rat)*((m : Int) : Rat)=((n : Int) : Rat)*(((x.den : Nat) : Int) : Rat) := by
   rw [← h1,← e,Rat.intCast_natCast]
   grind
  have h3 : x.num*m=n*(x.den : Int) := by exact_mod_cast h2
  have h4 : x.num.natAbs*m.natAbs=n.natAbs*x.den := by
   have := congrArg Int.natAbs h3
   rwa [Int.natAbs_mul,Int.natAbs_mul,Int.natAbs_natCast] at this
  obtain ⟨c,hc⟩ := den_dvd (x := x) (m := m) (hall x hx)
  have h5 : n.natAbs=x.num.natAbs*c := by
   rw [hc] at h4
   refine Nat.eq_of_mul_eq_mul_right x.den_pos ?_
   rw [← h4]
   rw [Nat.mul_assoc,Nat.mul_comm c]
  show x.num.natAbs / gN qs*(lD qs / x.den)≤n.natAbs
  rw [h5]
  refine Nat.mul_le_mul (Nat.div_le_self _ _) ?_
  have : lD qs / x.den≤m.natAbs / x.den := Nat.div_le_div_right hle
  rw [hc,Nat.mul_div_cancel_left _ x.den_pos] at this
  exact this
 refine ⟨⟨Nat.lt_of_le_of_lt hn hz.qs.num,?_⟩,hd⟩
 rw [hd]
 have := hz.qs.den
 rw [hz.wh] at this
 exact this
theorem leftA_mem {y : Atm} : ∀ {D U : List Atm},y ∈ leftA U D→y ∈ D
 | [],_,h => by cases h
 | x :: D,U,h => by
  unfold leftA at h
  split at h
  ·exact List.mem_cons_of_mem _ (leftA_mem h)
  ·rcases List.mem_cons.1 h with rfl | h
   ·exact List.mem_cons_self
   ·exact List.mem_cons_of_mem _ (leftA_mem h)
theorem uniA_low {q : Nat→Rat} (hM : BelA E dn M q k) : ∀ {l : List Nat} {U : List Atm},(∀ c ∈ l,c < k)→(∀ x ∈ U,x.1=1→x.2 < k)→∀ x ∈ uniA E l U,x.1=1→x.2 < k
 | [],_,_,hU => hU
 | a :: l,U,hl,hU => by
  unfold uniA
  refine uniA_low hM (fun c hc => hl c (List.mem_cons_of_mem _ hc)) ?_
  have ha := hl a List.mem_cons_self
  obtain ⟨p,h1,_,_,h4,_⟩ := hM a ha
  rw [h1]
  intro x hx h
  rcases List.mem_append.1 hx with hx | hx
  ·exact hU x hx h
  ·exact Nat.lt_trans (h4 x (leftA_mem hx) h) ha
theorem node_ok {q : Nat→Rat} {σ : Nat→ByteArray} (hσ : ∀ j,(σ j).size≤1048576) (hdn : ∀ j,dn j=(Cx.rd (σ j).data.toList).den) (hM : BelA E dn M q k) {z : Nat} {D : List Atm} {nd : Nd} (hwf : wfN k nd=true) (hs : saN E k z D nd=true) : QW z (valN σ q nd*proA dn M D)∧0 < z∧∀ x ∈ D,x.1=1→x.2 < k := by
 have hdn' : ∀ j,0 < dn j∧dn j < 2 ^ inB := fun j => by
  rw [hdn j]
  refine ⟨Rat.den_pos _,Nat.lt_of_lt_of_le (QS.rd3 _).den (Nat.pow_le_pow_right (by decide) ?_)⟩
  have := hσ j
  rw [str_len]
  unfold inB
  omega
 obtain ⟨op,xs⟩ := nd
 unfold saN at hs
 rw [Bool.and_eq_true,Bool.and_eq_true] at hs
 obtain ⟨⟨hz0,hD⟩,hs⟩ := hs
 have hz : 0 < z := by simpa [Nat.blt_eq] using hz0
 have hD' : ∀ x ∈ D,x.1=1→x.2 < k := fun x hx h1 => by
  rw [List.all_eq_true] at hD
  have := hD x hx
  rw [h1] at this
  simpa [Nat.blt_eq] using this
 refine ⟨?_,hz,hD'⟩
 have hlow : ∀ {a : Nat} {p : Nat × List Atm},a < k→E[a]? = some p→QW p.1 (M a)∧(∀ x ∈ p.2,x.1=1→x.2 < k)∧q a*proA dn M p.2=M a := fun {a p} ha hp => by
  obtain ⟨p',h1,h2,_,h4,h5⟩ := hM a ha
  rw [hp] at h1
  cases h1
  exact ⟨h2,fun x hx h => Nat.lt_trans (h4 x hx h) ha,h5⟩
 have hpr : ∀ {l : List Atm},(∀ x ∈ l,x.1=1→x.2 < k)→QW (bitL E l) (proA dn M l)∧proA dn M l ≠ 0 := fun h => proA_ok hdn' hM h
 unfold wfN at hwf
 unfold valN
 dsimp only at hs hwf ⊢
 split at hs
 ·rename_i s n d
  simp only [Bool.and_eq_true] at hs
  obtain ⟨⟨h1,h2⟩,h3⟩ := hs
  have h1' : n < 2 ^ z := by simpa [Nat.blt_eq] using h1
  have h2' : d ≠ 0 := by
   have : 0 < d := by simpa [Nat.blt_eq] using h2
   omega
  have hp : proA dn M D=((d : Nat) : Rat) := by
   have := subA_pro (dn := dn) (M := M) (noneA_some h3)
   rw [this]
   cases e : Nat.beq d 1 with
   | true =>
    rw [Nat.beq_eq] at e
    rw [e]
    show (1 : Rat)*1=((1 : Nat) : Rat)
    rw [Rat.mul_one]
    exact_mod_cast rfl
   | false =>
    show (if d=0 then (1 : Rat) else ((d : Nat) : Rat))*1*1=_
    rw [if_neg h2',Rat.mul_one,Rat.mul_one]
  show QW z ((if s=0 then mkRat (n : Int) d else mkRat (-(n : Int)) d)*proA dn M D)
  rw [hp]
  have key : ∀ m : Int,m.natAbs < 2 ^ z→QW z (mkRat m d*((d : Nat) : Rat)) := fun m hm => by
   rw [Rat.mkRat_eq_div,Rat.div_mul_cancel (nat_ne h2')]
   exact QW.of hm hz
  by_cases hs0 : s=0
  ·rw [if_pos hs0]
   exact key _ (by simpa using h1')
  ·rw [if_neg hs0]
   exact key _ (by simpa using h1')
 ·rename_i j
  simp only [Bool.and_eq_true,Nat.ble_eq] at hs
  have hp : proA dn M D=(((Cx.rd (σ j).data.toList).den : Nat) : Rat) := by
   rw [subA_pro (dn := dn) (M := M) (noneA_some hs.2)]
   show ((dn j : Nat) : Rat)*1*1=_
   rw [Rat.mul_one,Rat.mul_one,hdn j]
  show QW z (Cx.rd (σ j).data.toList*proA dn M D)
  rw [hp,mul_low]
  refine QW.of (Nat.lt_of_lt_of_le (QS.rd3 _).num (Nat.pow_le_pow_right (by decide) ?_)) hz
  have := hσ j
  have := hs.1
  unfold inB at this
  rw [str_len]
  omega
 ·simp only [List.all_cons,List.all_nil,Bool.and_true,Bool.and_eq_true] at hwf
  rename_i a b
  have l1 : a < k := by simpa [Nat.blt_eq] using hwf.1
  have l2 : b < k := by simpa [Nat.blt_eq] using hwf.2
  split at hs
  ·rename_i p r hp hr
   split at hs
   ·rename_i c e hc he
    rw [Nat.ble_eq] at hs
    obtain ⟨a1,a2,a3⟩ := hlow l1 hp
    obtain ⟨b1,b2,b3⟩ := hlow l2 hr
    have hc' := hpr (l := c) fun x hx => hD' x (subA_mem hc hx)
    have he' := hpr (l := e) fun x hx => hD' x (subA_mem he hx)
    have e1 : (q a+q b)*proA dn M D=M a*proA dn M c+M b*proA dn M e := by
     rw [Rat.add_mul]
     congr 1
     ·rw [subA_pro hc,← Rat.mul_assoc,a3]
     ·rw [subA_pro he,← Rat.mul_assoc,b3]
    show QW z ((q a+q b)*proA dn M D)
    rw [e1]
    exact ((a1.mul hc'.1).add (b1.mul he'.1)).mono hs
   ·cases hs
  ·cases hs
 ·simp only [List.all_cons,List.all_nil,Bool.and_true,Bool.and_eq_true] at hwf
  rename_i a b
  have l1 : a < k := by simpa [Nat.blt_eq] using hwf.1
  have l2 : b < k := by simpa [Nat.blt_eq] using hwf.2
  split at hs
  ·rename_i p r hp hr
   split at hs
   ·rename_i c e hc he
    rw [Nat.ble_eq] at hs
    obtain ⟨a1,a2,a3⟩ := hlow l1 hp
    obtain ⟨b1,b2,b3⟩ := hlow l2 hr
    have hc' := hpr (l := c) fun x hx => hD' x (subA_mem hc hx)
    have he' := hpr (l := e) fun x hx => hD' x (subA_mem he hx)
    have e1 : (q a - q b)*proA dn M D=M a*proA dn M c - M b*proA dn M e := by
     rw [show (q a - q b)*proA dn M D=q a*proA dn M D - q b*proA dn M D by grind]
     congr 1
     ·rw [subA_pro hc,← Rat.mul_assoc,a3]
     ·rw [subA_pro he,← Rat.mul_assoc,b3]
    show QW z ((q a - q b)*proA dn M D)
    rw [e1]
    exact ((a1.mul hc'.1).sub (b1.mul he'.1)).mono hs
   ·cases hs
  ·cases hs
 ·simp only [List.all_cons,List.all_nil,Bool.and_true,Bool.and_eq_true] at hwf
  rename_i a b
  have l1 : a < k := by simpa [Nat.blt_eq] using hwf.1
  have l2 : b < k := by simpa [Nat.blt_eq] using hwf.2
  split at hs
  ·rename_i p r hp hr
   split at hs
   ·rename_i c hc
    rw [Bool.and_eq_true,Nat.ble_eq] at hs
    obtain ⟨a1,a2,a3⟩ := hlow l1 hp
    obtain ⟨b1,b2,b3⟩ := hlow l2 hr
    have e1 : q a*q b*proA dn M D=M a*M b := by
     rw [subA_pro hc,subA_pro (noneA_some hs.1),← a3,← b3]
     show q a*q b*(proA dn M p.2*(proA dn M r.2*1))=_
     grind
    show QW z (q a*q b*proA dn M D)
    rw [e1]
    exact (a1.mul b1).mono hs.2
   ·cases hs
  ·cases hs
 ·simp only [List.all_cons,List.all_nil,Bool.and_true] at hwf
  rename_i a
  have l1 : a < k := by simpa [Nat.blt_eq] using hwf
  split at hs
  ·rename_i p hp
   rw [Bool.and_eq_true,Nat.ble_eq] at hs
   obtain ⟨a1,a2,a3⟩ := hlow l1 hp
   have e1 : -q a*proA dn M D=-M a := by
    rw [subA_pro (noneA_some hs.1),← a3]
    show -q a*(proA dn M p.2*1)=_
    grind
   show QW z (-q a*proA dn M D)
   rw [e1]
   exact a1.neg.mono hs.2
  ·cases hs
 ·simp only [List.all_cons,List.all_nil,Bool.and_true,Bool.and_eq_true] at hwf
  rename_i a b
  have l1 : a < k := by simpa [Nat.blt_eq] using hwf.1
  have l2 : b < k := by simpa [Nat.blt_eq] using hwf.2
  split at hs
  ·rename_i p r D' hp hr hD1
   split at hs
   ·rename_i c hc
    split at hs
    ·rename_i e he
     rw [Nat.ble_eq] at hs
     obtain ⟨a1,a2,a3⟩ := hlow l1 hp
     obtain ⟨b1,b2,b3⟩ := hlow l2 hr
     have he' := hpr (l := e) fun x hx => b2 x (subA_mem he hx)
     by_cases h0 : M b=0
     ·have hb : q b=0 := by
       rw [h0] at b3
       exact (Rat.mul_eq_zero.1 b3).resolve_right (hpr b2).2
      show QW z (q a / q b*proA dn M D)
      rw [hb,Rat.div_def,Rat.inv_zero,Rat.mul_zero,Rat.zero_mul]
      exact QW.zero hz
     ·have hb : q b ≠ 0 := fun h => h0 (by rw [← b3,h,Rat.zero_mul])
      have e1 : q a / q b*proA dn M D=M a*proA dn M e := by
       have e2 : proA dn M D=M b*proA dn M D' := by
        rw [remA_pro hD1]
        show (if M b=0 then (1 : Rat) else M b)*_=_
        rw [if_neg h0]
       have e3 : q a / q b*q b=q a := Rat.div_mul_cancel hb
       rw [e2,← a3,← b3,subA_pro hc,subA_pro he]
       generalize q a / q b=t at e3
       rw [← e3]
       grind
      show QW z (q a / q b*proA dn M D)
      rw [e1]
      exact (a1.mul he'.1).mono hs
    ·cases hs
   ·cases hs
  ·cases hs
 ·have hD0 : D=[] := by
   rw [Nat.beq_eq] at hs
   exact List.length_eq_zero_iff.1 hs
  rw [hD0]
  have hv : valN σ q (7,xs)=0 ∨ valN σ q (7,xs)=1 := by
   unfold valN
   dsimp only
   split
   all_goals first | (split; exact Or.inl rfl; exact Or.inr rfl) | exact Or.inl rfl | (rename_i h; cases h)
  show QW z (valN σ q (7,xs)*1)
  rw [Rat.mul_one]
  rcases hv with h | h
  ·rw [h]
   exact QW.zero hz
  ·rw [h]
   exact QW.one hz
 ·rename_i i ys
  rw [Bool.and_eq_true,Bool.and_eq_true,List.all_eq_true] at hs
  obtain ⟨h1,h2,h3⟩ := hs
  have hD0 : D=[] := by
   rw [Nat.beq_eq] at h1
   exact List.length_eq_zero_iff.1 h1
  have hwf' : ys.all (Nat.blt · k)=true := hwf
  rw [List.all_eq_true] at hwf'
  have hlt : ∀ c ∈ ys,c < k := fun c hc => by simpa [Nat.blt_eq] using hwf' c hc
  split at h3
  ·rename_i a ha
   split at h3
   ·rename_i p hp
    split at h3
    ·rename_i e he
     rw [Nat.ble_eq] at h3
     obtain ⟨hi,ha'⟩ := List.getElem?_eq_some_iff.1 ha
     have hmem : a ∈ ys := List.mem_of_getElem? ha
     have hg : (ys.map q).getD i 0=q a := by
      rw [List.getD_eq_getElem?_getD,List.getElem?_map,ha]
      rfl
     show QW z ((ys.map q).getD i 0*fac (ys.map q)*proA dn M D)
     rw [hg,hD0]
     show QW z (q a*fac (ys.map q)*1)
     rw [Rat.mul_one]
     -- what makes all of them whole
     have hU : ∀ x ∈ uniA E ys [],x.1=1→x.2 < k := uniA_low hM hlt (fun x hx => by cases hx)
     have hUp := hpr hU
     have hw := whole hUp.1.wh
     generalize hm : (proA dn M (uniA E ys [])).num=m at hw
     have hm0 : m ≠ 0 := fun h => hUp.2 (by rw [hw,h]; rfl)
     have hall : ∀ y ∈ ys.map q,(y*((m : Int) : Rat)).den=1 := fun y hy => by
      obtain ⟨c,hc,rfl⟩ := List.mem_map.1 hy
      have h4 := h2 c hc
      split at h4
      ·rename_i r hr
       obtain ⟨c1,c2,c3⟩ := hlow (hlt c hc) hr
       cases hs2 : subA (uniA E ys []) r.2 with
       | none => rw [hs2] at h4; cases h4
       | some f =>
        have hf := hpr (l := f) fun x hx => hU x (subA_mem hs2 hx)
        rw [← hw,subA_pro hs2,← Rat.mul_assoc,c3]
        exact (c1.mul hf.1).wh
      ·cases h4
     obtain ⟨a1,a2,a3⟩ := hlow (hlt a hmem) hp
     have he' := hpr (l := e) fun x hx => hU x (subA_mem he hx)
     refine fac_whole (List.mem_map_of_mem hmem) hm0 hall ?_
     rw [← hw,subA_pro he,← Rat.mul_assoc,a3]
     exact (a1.mul he'.1).mono h3
    ·cases h3
   ·cases h3
  ·cases h3
 ·cases hs
end
theorem QS_over {x m p : Rat} {z y K : Nat} (hm : QW z m) (hp : QW y p) (h0 : p ≠ 0) (e : x*p=m) (hz : z≤K) (hy : y≤K) : QS K x := by
 have hw := whole hp.wh
 generalize p.num=P at hw
 have hP : P ≠ 0 := fun h => h0 (by rw [hw,h]; rfl)
 have hpos : 0 < P.natAbs := Int.natAbs_pos.2 hP
 have hd : x.den ∣ P.natAbs := den_dvd (x := x) (m := P) (by rw [← hw,e]; exact hm.wh)
 have hdle : x.den≤P.natAbs := Nat.le_of_dvd hpos hd
 have hPlt : P.natAbs < 2 ^ y := by
  have := hp.qs.num
  rw [hw,Rat.num_intCast] at this
  exact this
 have hmw := whole hm.wh
 have hmlt := hm.qs.num
 generalize m.num=n at hmw hmlt
 have h1 : x*((x.den : Nat) : Rat)=((x.num : Int) : Rat) := mul_low x
 have h2 : ((x.num : Int) : Rat)*((P : Int) : Rat)=((n : Int) : Rat)*(((x.den : Nat) : Int) : Rat) := by
  rw [← h1,← hw,← hmw,← e,Rat.intCast_natCast]
  grind
 have h3 : x.num*P=n*(x.den : Int) := by exact_mod_cast h2
 have h4 : x.num.natAbs*P.natAbs=n.natAbs*x.den := by
  have := congrArg Int.natAbs h3
  rwa [Int.natAbs_mul,Int.natAbs_mul,Int.natAbs_natCast] at this
 have h5 : x.num.natAbs≤n.natAbs := by
  refine Nat.le_of_mul_le_mul_right (c := P.natAbs) ?_ hpos
  rw [h4]
  exact Nat.mul_le_mul_left _ hdle
 exact ⟨Nat.lt_of_lt_of_le (Nat.lt_of_le_of_lt h5 hmlt) (Nat.pow_le_pow_right (by decide) hz),Nat.lt_of_lt_of_le (Nat.lt_of_le_of_lt hdle hPlt) (Nat.pow_le_pow_right (by decide) hy)⟩
section
variable {N : List Nd} {Z : List Nat} {E : List (Nat × List Atm)} {q : Nat→Rat}
theorem sizes_okA {σ : Nat→ByteArray} (hσ : ∀ j,(σ j).size≤1048576) (hw : wfB 0 N=true) (hz : saB E 0 N E Z=true) (hq : ∀ (a : Nat) nd,N[a]? = some nd→q a=valN σ q nd) (h0 : ∀ a,N.length≤a→q a=0) : (∀ (a : Nat) z,Z[a]? = some z→QS z (q a))∧∀ a,QS 1000000000000 (q a) := by
 have hl := saB_len hz
 have key : ∀ k,k≤N.length→∃ M,BelA E (fun j => (Cx.rd (σ j).data.toList).den) M q k := by
  intro k
  induction k with
  | zero => exact fun _ => ⟨fun _ => 0,fun a ha => by omega⟩
  | succ k ih =>
   intro hk
   obtain ⟨M,hM⟩ := ih (by omega)
   have hn : N[k]? = some N[k] := List.getElem?_eq_getElem (by omega)
   obtain ⟨p,z,h1,_,h3,_⟩ := saB_get hz hn
   rw [Nat.zero_add] at h3
   have hwf := wfB_get hw hn
   rw [Nat.zero_add] at hwf
   obtain ⟨g1,g2,g3⟩ := node_ok hσ (fun _ => rfl) hM hwf h3
   rw [← hq k _ hn] at g1
   refine ⟨fun x => if x=k then q k*proA (fun j => (Cx.rd (σ j).data.toList).den) M p.2 else M x,fun a ha => ?_⟩
   have same : ∀ {l : List Atm},(∀ x ∈ l,x.1=1→x.2 < k)→proA (fun j => (Cx.rd (σ j).data.toList).den) (fun x => if x=k then q k*proA (fun j => (Cx.rd (σ j).data.toList).den) M p.2 else M x) l=proA (fun j => (Cx.rd (σ j).data.toList).den) M l := fun hl => (proA_congr fun x hx h => by
    have := hl x hx h
    rw [if_neg (by omega)]).symm
   by_cases e : a=k
   ·subst e
    refine ⟨p,h1,?_,g2,g3,?_⟩
    ·show QW p.1 (if a=a then _ else _)
     rw [if_pos rfl]
     exact g1
    ·rw [same g3]
     show _=(if a=a then _ else _)
     rw [if_pos rfl]
   ·obtain ⟨p',f1,f2,f3,f4,f5⟩ := hM a (by omega)
    refine ⟨p',f1,?_,f3,f4,?_⟩
    ·show QW p'.1 (if a=k then _ else M a)
     rw [if_neg e]
     exact f2
    ·rw [same fun x hx h => by have := f4 x hx h; omega]
     show _=(if a=k then _ else M a)
     rw [if_neg e]
     exact f5
 obtain ⟨M,hM⟩ := key N.length (Nat.le_refl _)
 have hdn : ∀ j,0 < (Cx.rd (σ j).data.toList).den∧(Cx.rd (σ j).data.toList).den < 2 ^ inB := fun j => by
  refine ⟨Rat.den_pos _,Nat.lt_of_lt_of_le (QS.rd3 _).den (Nat.pow_le_pow_right (by decide) ?_)⟩
  have := hσ j
  rw [str_len]
  unfold inB
  omega
 have h2 : ∀ (a : Nat) z,Z[a]? = some z→QS z (q a)∧z≤1000000000000 := by
  intro a z ha
  have hlt : a < N.length := by
   have := (List.getElem?_eq_some_iff.1 ha).1
   omega
  have hn : N[a]? = some N[a] := List.getElem?_eq_getElem hlt
  obtain ⟨p,z',h1,h2,_,h4,h5,h6⟩ := saB_get hz hn
  rw [ha] at h2
  cases h2
  obtain ⟨p',f1,f2,f3,f4,f5⟩ := hM a hlt
  rw [h1] at f1
  cases f1
  have hp := proA_ok hdn hM (l := p.2) fun x hx h => Nat.lt_trans (f4 x hx h) hlt
  exact ⟨QS_over f2 hp.1 hp.2 f5 h4 h5,h6⟩
 refine ⟨fun a z h => (h2 a z h).1,fun a => ?_⟩
 by_cases ha : a < Z.length
 ·have := h2 a _ (List.getElem?_eq_getElem ha)
  exact this.1.mono this.2
 ·rw [h0 a (by omega)]
  exact QS.zero.mono (by decide)
theorem hy_ofA {L C : List (List Nat × Nat)} {σ : Nat→ByteArray} {H : List (Nat × Nat × Nat × Nat)} (hσ : ∀ j,(σ j).size≤1048576) (hw : wfB 0 N=true) (hz : saB E 0 N E Z=true) (hl : litB N L=true) (hcn : canB N C=true) (hq : ∀ (a : Nat) nd,N[a]? = some nd→q a=valN σ q nd) (h0 : ∀ a,N.length≤a→q a=0) (hH : hAll q H) : Hy N H L C Z q σ where
 nat := hq
 qs := (sizes_okA hσ hw hz hq h0).2
 zs := (sizes_okA hσ hw hz hq h0).1
 par := hσ
 lit := fun s b h => lit_rd hl hq h
 k0 := fun a r h => kn_at hH h
 k1 := fun a r h => kn_at hH h
 k2 := fun a r h => kn_at hH h
 k3 := fun a b r h => kn_at hH h
 k4 := fun l a b r h1 h2 => by
  have h3 : Nat.beq 1 r=true ↔ q a=q b := kn_at hH h2
  rw [h3,← can_tx hcn hq h1]
  exact ⟨fun e => by rw [e],fun e => tellS_inj (bytesN_inj e)⟩
 k6 := fun a b r h => kn_at hH h
 k5 := fun a r h => kn_at hH h
end
end Go.Proofs.YtobmjfjkpodhmaaGreatDoor
/- MTG -/
namespace Go.Proofs.YtobmjfjkpodhmaaGreatDoor
open Go.RowKit Cx
def tG_N : List Nd := [(1,[0]),(1,[1]),(1,[2]),(1,[3]),(1,[4]),(1,[5]),(1,[6]),(1,[7]),(5,[7]),(4,[0,6]),(4,[1,8]),(2,[9,10]),(5,[1]),(4,[0,7]),(4,[12,6]),(3,[13,14]),(5,[5]),(4,[2,4]),(4,[3,16]),(2,[17,18]),(5,[3]),(4,[2,5]),(4,[20,4]),(3,[21,22]),(3,[11,19]),(3,[15,23]),(1,[8]),(1,[9]),(1,[10]),(1,[11]),(1,[12]),(1,[13]),(1,[14]),(1,[15]),(5,[33]),(4,[26,32]),(4,[27,34]),(2,[35,36]),(5,[27]),(4,[26,33]),(4,[38,32]),(3,[39,40]),(5,[31]),(4,[28,30]),(4,[29,42]),(2,[43,44]),(5,[29]),(4,[28,31]),(4,[46,30]),(3,[47,48]),(3,[37,45]),(3,[41,49]),(5,[2]),(5,[4]),(5,[20]),(5,[54]),(4,[6,52]),(4,[7,55]),(2,[56,57]),(4,[6,54]),(4,[8,52]),(3,[59,60]),(4,[52,52]),(4,[20,20]),(2,[62,63]),(6,[58,64]),(6,[61,64]),(4,[20,55]),(2,[62,67]),(4,[52,54]),(4,[54,52]),(3,[69,70]),(6,[68,64]),(6,[71,64]),(4,[53,52]),(4,[16,55]),(2,[74,75]),(5,[16]),(4,[53,54]),(4,[77,52]),(3,[78,79]),(6,[76,64]),(6,[80,64]),(4,[0,52]),(4,[1,55]),(2,[83,84]),(4,[0,54]),(4,[12,52]),(3,[86,87]),(6,[85,64]),(6,[88,64]),(5,[8]),(4,[6,6]),(4,[7,91]),(2,[92,93]),(4,[6,8]),(4,[8,6]),(3,[95,96]),(4,[7,7]),(2,[92,98]),(6,[94,99]),(6,[97,99]),(4,[52,6]),(4,[20,91]),(2,[102,103]),(4,[52,8]),(4,[54,6]),(3,[105,106]),(6,[104,99]),(6,[107,99]),(4,[53,6]),(4,[16,91]),(2,[110,111]),(4,[53,8]),(4,[77,6]),(3,[113,114]),(6,[112,99]),(6,[115,99]),(4,[1,91]),(2,[9,118]),(4,[0,8]),(3,[120,14]),(6,[119,99]),(6,[121,99]),(4,[0,26]),(4,[1,38]),(2,[124,125]),(4,[0,27]),(4,[12,26]),(3,[127,128]),(4,[2,30]),(4,[3,42]),(2,[130,131]),(4,[2,31]),(4,[20,30]),(3,[133,134]),(2,[126,132]),(2,[129,135]),(4,[0,28]),(4,[1,46]),(2,[138,139]),(4,[0,29]),(4,[12,28]),(3,[141,142]),(4,[2,32]),(4,[3,34]),(2,[144,145]),(4,[2,33]),(4,[20,32]),(3,[147,148]),(2,[140,146]),(2,[143,149]),(4,[4,26]),(4,[5,38]),(2,[152,153]),(4,[4,27]),(4,[16,26]),(3,[155,156]),(4,[6,30]),(4,[7,42]),(2,[158,159]),(4,[6,31]),(4,[8,30]),(3,[161,162]),(2,[154,160]),(2,[157,163]),(4,[4,28]),(4,[5,46]),(2,[166,167]),(4,[4,29]),(4,[16,28]),(3,[169,170]),(4,[6,32]),(4,[7,34]),(2,[172,173]),(4,[6,33]),(4,[8,32]),(3,[175,176]),(2,[168,174]),(2,[171,177]),(5,[151]),(5,[180]),(4,[136,150]),(4,[137,181]),(2,[182,183]),(5,[137]),(4,[136,180]),(4,[185,150]),(3,[186,187]),(4,[150,150]),(4,[151,151]),(2,[189,190]),(6,[184,191]),(6,[188,191]),(4,[151,181]),(2,[189,194]),(4,[150,180]),(4,[180,150]),(3,[196,197]),(6,[195,191]),(6,[198,191]),(4,[164,150]),(4,[165,181]),(2,[201,202]),(5,[165]),(4,[164,180]),(4,[204,150]),(3,[205,206]),(6,[203,191]),(6,[207,191]),(4,[178,150]),(4,[179,181]),(2,[210,211]),(5,[179]),(4,[178,180]),(4,[213,150]),(3,[214,215]),(6,[212,191]),(6,[216,191]),(1,[16]),(1,[17]),(5,[220]),(4,[26,219]),(4,[27,221]),(2,[222,223]),(4,[26,220]),(4,[38,219]),(3,[225,226]),(2,[224,28]),(2,[227,29]),(4,[30,219]),(4,[31,221]),(2,[230,231]),(4,[30,220]),(4,[42,219]),(3,[233,234]),(2,[232,32]),(2,[235,33]),(5,[90]),(4,[65,89]),(4,[66,238]),(2,[239,240]),(5,[66]),(4,[65,90]),(4,[242,89]),(3,[243,244]),(5,[82]),(4,[72,81]),(4,[73,246]),(2,[247,248]),(5,[73]),(4,[72,82]),(4,[250,81]),(3,[251,252]),(3,[241,249]),(3,[245,253]),(4,[0,65]),(4,[1,242]),(2,[256,257]),(4,[0,66]),(4,[12,65]),(3,[259,260]),(4,[2,81]),(4,[3,246]),(2,[262,263]),(4,[2,82]),(4,[20,81]),(3,[265,266]),(2,[258,264]),(2,[261,267]),(4,[0,72]),(4,[1,250]),(2,[270,271]),(4,[0,73]),(4,[12,72]),(3,[273,274]),(4,[2,89]),(4,[3,238]),(2,[276,277]),(4,[2,90]),(4,[20,89]),(3,[279,280]),(2,[272,278]),(2,[275,281]),(4,[4,65]),(4,[5,242]),(2,[284,285]),(4,[4,66]),(4,[16,65]),(3,[287,288]),(4,[6,81]),(4,[7,246]),(2,[290,291]),(4,[6,82]),(4,[8,81]),(3,[293,294]),(2,[286,292]),(2,[289,295]),(4,[4,72]),(4,[5,250]),(2,[298,299]),(4,[4,73]),(4,[16,72]),(3,[301,302]),(4,[6,89]),(4,[7,238]),(2,[304,305]),(4,[6,90]),(4,[8,89]),(3,[307,308]),(2,[300,306]),(2,[303,309]),(5,[269]),(5,[312]),(4,[268,268]),(4,[269,313]),(2,[314,315]),(4,[268,312]),(4,[312,268]),(3,[317,318]),(4,[269,269]),(2,[314,320]),(6,[316,321]),(6,[319,321]),(4,[282,268]),(4,[283,313]),(2,[324,325]),(5,[283]),(4,[282,312]),(4,[327,268]),(3,[328,329]),(6,[326,321]),(6,[330,321]),(4,[296,268]),(4,[297,313]),(2,[333,334]),(5,[297]),(4,[296,312]),(4,[336,268]),(3,[337,338]),(6,[335,321]),(6,[339,321]),(4,[310,268]),(4,[311,313]),(2,[342,343]),(5,[311]),(4,[310,312]),(4,[345,268]),(3,[346,347]),(6,[344,321]),(6,[348,321]),(0,[0,1,1]),(0,[0,0,1]),(5,[237]),(5,[353]),(4,[228,236]),(4,[229,354]),(2,[355,356]),(5,[229]),(4,[228,353]),(4,[358,236]),(3,[359,360]),(4,[236,236]),(4,[237,237]),(2,[362,363]),(6,[357,364]),(6,[361,364]),(5,[366]),(4,[0,365]),(4,[1,367]),(2,[368,369]),(4,[0,366]),(4,[12,365]),(3,[371,372]),(2,[370,2]),(2,[373,3]),(4,[4,365]),(4,[5,367]),(2,[376,377]),(4,[4,366]),(4,[16,365]),(3,[379,380]),(2,[378,6]),(2,[381,7]),(5,[218]),(4,[192,217]),(4,[193,384]),(2,[385,386]),(5,[193]),(4,[192,218]),(4,[388,217]),(3,[389,390]),(5,[209]),(4,[199,208]),(4,[200,392]),(2,[393,394]),(5,[200]),(4,[199,209]),(4,[396,208]),(3,[397,398]),(3,[387,395]),(3,[391,399]),(4,[192,219]),(4,[193,221]),(2,[402,403]),(4,[192,220]),(4,[388,219]),(3,[405,406]),(2,[404,199]),(2,[407,200]),(4,[208,219]),(4,[209,221]),(2,[410,411]),(4,[208,220]),(4,[392,219]),(3,[413,414]),(2,[412,217]),(2,[415,218]),(5,[383]),(5,[418]),(4,[374,382]),(4,[375,419]),(2,[420,421]),(5,[375]),(4,[374,418]),(4,[423,382]),(3,[424,425]),(4,[382,382]),(4,[383,383]),(2,[427,428]),(6,[422,429]),(6,[426,429]),(5,[417]),(5,[432]),(4,[408,416]),(4,[409,433]),(2,[434,435]),(5,[409]),(4,[408,432]),(4,[437,416]),(3,[438,439]),(4,[416,416]),(4,[417,417]),(2,[441,442]),(6,[436,443]),(6,[440,443]),(5,[431]),(4,[65,430]),(4,[66,446]),(2,[447,448]),(4,[65,431]),(4,[242,430]),(3,[450,451]),(2,[449,72]),(2,[452,73]),(4,[81,430]),(4,[82,446]),(2,[455,456]),(4,[81,431]),(4,[246,430]),(3,[458,459]),(2,[457,89]),(2,[460,90]),(5,[462]),(5,[463]),(4,[453,461]),(4,[454,464]),(2,[465,466]),(5,[454]),(4,[453,463]),(4,[468,461]),(3,[469,470]),(4,[461,461]),(4,[462,462]),(2,[472,473]),(6,[467,474]),(6,[471,474]),(3,[475,365]),(3,[476,366]),(5,[123]),(4,[100,122]),(4,[101,479]),(2,[480,481]),(5,[101]),(4,[100,123]),(4,[483,122]),(3,[484,485]),(5,[117]),(4,[108,116]),(4,[109,487]),(2,[488,489]),(5,[109]),(4,[108,117]),(4,[491,116]),(3,[492,493]),(3,[482,490]),(3,[486,494]),(4,[0,100]),(4,[1,483]),(2,[497,498]),(4,[0,101]),(4,[12,100]),(3,[500,501]),(4,[2,116]),(4,[3,487]),(2,[503,504]),(4,[2,117]),(4,[20,116]),(3,[506,507]),(2,[499,505]),(2,[502,508]),(4,[0,108]),(4,[1,491]),(2,[511,512]),(4,[0,109]),(4,[12,108]),(3,[514,515]),(4,[2,122]),(4,[3,479]),(2,[517,518]),(4,[2,123]),(4,[20,122]),(3,[520,521]),(2,[513,519]),(2,[516,522]),(4,[4,100]),(4,[5,483]),(2,[525,526]),(4,[4,101]),(4,[16,100]),(3,[528,529]),(4,[6,116]),(4,[7,487]),(2,[531,532]),(4,[6,117]),(4,[8,116]),(3,[534,535]),(2,[527,533]),(2,[530,536]),(4,[4,108]),(4,[5,491]),(2,[539,540]),(4,[4,109]),(4,[16,108]),(3,[542,543]),(4,[6,122]),(4,[7,479]),(2,[545,546]),(4,[6,123]),(4,[8,122]),(3,[548,549]),(2,[541,547]),(2,[544,550]),(5,[510]),(5,[553]),(4,[509,509]),(4,[510,554]),(2,[555,556]),(4,[509,553]),(4,[553,509]),(3,[558,559]),(4,[510,510]),(2,[555,561]),(6,[557,562]),(6,[560,562]),(4,[523,509]),(4,[524,554]),(2,[565,566]),(5,[524]),(4,[523,553]),(4,[568,509]),(3,[569,570]),(6,[567,562]),(6,[571,562]),(4,[537,509]),(4,[538,554]),(2,[574,575]),(5,[538]),(4,[537,553]),(4,[577,509]),(3,[578,579]),(6,[576,562]),(6,[580,562]),(4,[551,509]),(4,[552,554]),(2,[583,584]),(5,[552]),(4,[551,553]),(4,[586,509]),(3,[587,588]),(6,[585,562]),(6,[589,562]),(4,[100,430]),(4,[101,446]),(2,[592,593]),(4,[100,431]),(4,[483,430]),(3,[595,596]),(2,[594,108]),(2,[597,109]),(4,[116,430]),(4,[117,446]),(2,[600,601]),(4,[116,431]),(4,[487,430]),(3,[603,604]),(2,[602,122]),(2,[605,123]),(5,[607]),(5,[608]),(4,[598,606]),(4,[599,609]),(2,[610,611]),(5,[599]),(4,[598,608]),(4,[613,606]),(3,[614,615]),(4,[606,606]),(4,[607,607]),(2,[617,618]),(6,[612,619]),(6,[616,619]),(3,[620,365]),(3,[621,366]),(5,[185]),(4,[136,136]),(4,[137,624]),(2,[625,626]),(4,[136,185]),(4,[185,136]),(3,[628,629]),(4,[137,137]),(2,[625,631]),(6,[627,632]),(6,[630,632]),(4,[150,136]),(4,[151,624]),(2,[635,636]),(4,[150,185]),(4,[180,136]),(3,[638,639]),(6,[637,632]),(6,[640,632]),(4,[164,136]),(4,[165,624]),(2,[643,644]),(4,[164,185]),(4,[204,136]),(3,[646,647]),(6,[645,632]),(6,[648,632]),(4,[178,136]),(4,[179,624]),(2,[651,652]),(4,[178,185]),(4,[213,136]),(3,[654,655]),(6,[653,632]),(6,[656,632]),(5,[658]),(4,[633,657]),(4,[634,659]),(2,[660,661]),(5,[634]),(4,[633,658]),(4,[663,657]),(3,[664,665]),(5,[650]),(4,[641,649]),(4,[642,667]),(2,[668,669]),(5,[642]),(4,[641,650]),(4,[671,649]),(3,[672,673]),(3,[662,670]),(3,[666,674]),(4,[633,219]),(4,[634,221]),(2,[677,678]),(4,[633,220]),(4,[663,219]),(3,[680,681]),(2,[679,641]),(2,[682,642]),(4,[649,219]),(4,[650,221]),(2,[685,686]),(4,[649,220]),(4,[667,219]),(3,[688,689]),(2,[687,657]),(2,[690,658]),(5,[692]),(5,[693]),(4,[683,691]),(4,[684,694]),(2,[695,696]),(5,[684]),(4,[683,693]),(4,[698,691]),(3,[699,700]),(4,[691,691]),(4,[692,692]),(2,[702,703]),(6,[697,704]),(6,[701,704])]
def tG_L : List (List Nat × Nat) := [([49],351),([48],352)]
def tG_C : List (List Nat × Nat) := [([49],351),([48],352)]
def tG_Z : List Nat := [3495260,3495260,3495260,3495260,3495260,3495260,3495260,3495260,3495260,6990519,6990519,13981038,3495260,6990519,6990519,13981038,3495260,6990519,6990519,13981038,3495260,6990519,6990519,13981038,27962076,27962076,3495260,3495260,3495260,3495260,3495260,3495260,3495260,3495260,3495260,6990519,6990519,13981038,3495260,6990519,6990519,13981038,3495260,6990519,6990519,13981038,3495260,6990519,6990519,13981038,27962076,27962076,3495260,3495260,3495260,3495260,6990519,6990519,13981038,6990519,6990519,13981038,6990519,6990519,13981038,20971557,20971557,6990519,13981038,6990519,6990519,6990520,13981039,13981039,6990519,6990519,13981038,3495260,6990519,6990519,13981038,20971557,20971557,6990519,6990519,13981038,6990519,6990519,13981038,20971557,20971557,3495260,6990519,6990519,13981038,6990519,6990519,6990520,6990519,13981038,13981039,13981039,6990519,6990519,13981038,6990519,6990519,13981038,20971557,20971557,6990519,6990519,13981038,6990519,6990519,13981038,20971557,20971557,6990519,13981038,6990519,13981038,20971557,20971557,6990519,6990519,13981038,6990519,6990519,13981038,6990519,6990519,13981038,6990519,6990519,13981038,27962076,27962076,6990519,6990519,13981038,6990519,6990519,13981038,6990519,6990519,13981038,6990519,6990519,13981038,27962076,27962076,6990519,6990519,13981038,6990519,6990519,13981038,6990519,6990519,13981038,6990519,6990519,13981038,27962076,27962076,6990519,6990519,13981038,6990519,6990519,13981038,6990519,6990519,13981038,6990519,6990519,13981038,27962076,27962076,27962076,27962076,55924152,55924152,55924154,27962076,55924152,55924152,55924154,55924152,55924152,55924154,69905191,69905191,55924152,55924154,55924152,55924152,55924154,55924155,55924155,55924152,55924152,55924154,27962076,55924152,55924152,55924154,83886227,83886227,55924152,55924152,55924154,27962076,55924152,55924152,55924154,69905191,69905191,3495260,3495260,3495260,6990519,6990519,13981038,6990519,6990519,13981038,17476299,17476299,6990519,6990519,13981038,6990519,6990519,13981038,17476299,17476299,20971557,41943114,41943114,41943116,20971557,41943114,41943114,41943116,20971557,34952596,34952596,34952598,13981039,34952596,34952596,34952598,48933636,48933636,24466816,24466816,27962077,24466816,24466816,27962077,24466816,24466816,27962077,24466816,24466816,27962077,41943115,41943115,17476298,17476298,20971559,17476298,17476298,20971559,24466816,24466816,27962077,24466816,24466816,27962077,27962079,27962079,24466816,24466816,27962077,24466816,24466816,27962077,24466816,24466816,27962077,24466816,24466816,27962077,27962079,27962079,17476298,17476298,20971559,17476298,17476298,20971559,24466816,24466816,27962077,24466816,24466816,27962077,34952597,34952597,41943115,41943115,83886230,83886230,83886232,83886230,83886230,83886232,83886230,83886232,83886233,83886233,69905194,69905194,69905196,27962079,69905194,69905194,69905196,83886233,83886233,69905194,69905194,69905196,27962079,69905194,69905194,69905196,83886233,83886233,76895712,76895712,76895714,34952597,76895712,76895712,76895714,83886233,83886233,1,1,17476299,17476299,34952598,34952598,41943118,17476299,34952598,34952598,41943118,34952598,34952598,41943118,55924155,55924155,55924155,59419414,59419414,62914675,59419414,59419414,62914675,66409936,66409936,59419414,59419414,62914675,59419414,59419414,62914675,66409936,66409936,69905191,139810382,139810382,139810384,69905191,139810382,139810382,139810384,83886227,139810382,139810382,139810384,55924155,139810382,139810382,139810384,139810386,139810386,73400450,73400450,76895711,73400450,73400450,76895711,76895713,76895713,87381486,87381486,90876747,87381486,87381486,90876747,90876749,90876749,66409936,66409936,132819872,132819872,139810392,66409936,132819872,132819872,139810392,132819872,132819872,139810392,153791429,153791429,90876749,90876749,167772462,167772462,167772464,76895713,167772462,167772462,167772464,181753498,181753498,181753500,181753501,181753501,153791429,174762986,174762986,174762988,174762986,174762986,174762988,174762990,174762990,174762986,174762986,174762988,174762986,174762986,174762988,174762990,174762990,174762990,174762990,349525980,349525980,349525982,174762990,349525980,349525980,349525982,349525980,349525980,349525982,356516501,356516501,412440657,412440657,20971557,34952596,34952596,34952598,13981039,34952596,34952596,34952598,20971557,41943114,41943114,41943116,20971557,41943114,41943114,41943116,48933636,48933636,17476298,17476298,20971559,17476298,17476298,20971559,24466816,24466816,27962077,24466816,24466816,27962077,34952597,34952597,24466816,24466816,27962077,24466816,24466816,27962077,24466816,24466816,27962077,24466816,24466816,27962077,27962079,27962079,17476298,17476298,20971559,17476298,17476298,20971559,24466816,24466816,27962077,24466816,24466816,27962077,27962079,27962079,24466816,24466816,27962077,24466816,24466816,27962077,24466816,24466816,27962077,24466816,24466816,27962077,41943115,41943115,34952597,34952597,69905194,69905194,69905196,69905194,69905194,69905196,69905194,69905196,69905197,69905197,62914676,62914676,62914678,27962079,62914676,62914676,62914678,69905197,69905197,62914676,62914676,62914678,27962079,62914676,62914676,62914678,76895715,76895715,76895712,76895712,76895714,41943115,76895712,76895712,76895714,76895715,76895715,167772468,167772468,167772470,167772468,167772468,167772470,167772472,167772472,174762986,174762986,174762988,174762986,174762986,174762988,174762990,174762990,174762990,174762990,342535462,342535462,342535464,167772472,342535462,342535462,342535464,349525980,349525980,349525982,349525983,349525983,405450139,405450139,27962076,55924152,55924152,55924154,55924152,55924152,55924154,55924152,55924154,55924155,55924155,55924152,55924152,55924154,55924152,55924152,55924154,69905191,69905191,55924152,55924152,55924154,55924152,55924152,55924154,69905191,69905191,55924152,55924152,55924154,55924152,55924152,55924154,83886227,83886227,83886227,139810382,139810382,139810384,55924155,139810382,139810382,139810384,69905191,139810382,139810382,139810384,69905191,139810382,139810382,139810384,139810386,139810386,59419414,59419414,62914675,59419414,59419414,62914675,76895713,76895713,73400450,73400450,76895711,73400450,73400450,76895711,90876749,90876749,90876749,90876749,167772462,167772462,167772464,76895713,167772462,167772462,167772464,181753498,181753498,181753500,181753501,181753501]
def tG_D0 : List Atm := [(0,1),(0,7)]
def tG_D1 : List Atm := [(0,0),(0,1),(0,6),(0,7)]
def tG_D2 : List Atm := [(0,0),(0,7)]
def tG_D3 : List Atm := [(0,2),(0,4)]
def tG_D4 : List Atm := [(0,3),(0,5)]
def tG_D5 : List Atm := [(0,2),(0,3),(0,4),(0,5)]
def tG_D6 : List Atm := [(0,2),(0,5)]
def tG_D7 : List Atm := [(0,3),(0,4)]
def tG_D8 : List Atm := [(0,0),(0,1),(0,2),(0,3),(0,4),(0,5),(0,6),(0,7)]
def tG_D9 : List Atm := [(0,8),(0,9),(0,14),(0,15)]
def tG_D10 : List Atm := [(0,10),(0,11),(0,12),(0,13)]
def tG_D11 : List Atm := [(0,8),(0,9),(0,10),(0,11),(0,12),(0,13),(0,14),(0,15)]
def tG_D12 : List Atm := [(0,2),(0,6)]
def tG_D13 : List Atm := [(0,3),(0,7)]
def tG_D14 : List Atm := [(0,2),(0,3),(0,6),(0,7)]
def tG_D15 : List Atm := [(0,3),(0,6)]
def tG_D16 : List Atm := [(0,2),(0,7)]
def tG_D17 : List Atm := [(0,3),(0,3)]
def tG_D18 : List Atm := [(0,2),(0,2),(0,3),(0,3)]
def tG_D19 : List Atm := [(0,6),(0,7),(1,64)]
def tG_D20 : List Atm := [(0,2),(0,3)]
def tG_D21 : List Atm := [(0,4),(0,5),(1,64)]
def tG_D22 : List Atm := [(0,0),(0,1),(0,2),(0,3)]
def tG_D23 : List Atm := [(0,0),(0,1),(1,64)]
def tG_D24 : List Atm := [(0,7),(0,7)]
def tG_D25 : List Atm := [(0,6),(0,6),(0,7),(0,7)]
def tG_D26 : List Atm := [(0,6),(0,7)]
def tG_D27 : List Atm := [(0,2),(0,3),(1,99)]
def tG_D28 : List Atm := [(0,4),(0,5),(0,6),(0,7)]
def tG_D29 : List Atm := [(0,4),(0,5),(1,99)]
def tG_D30 : List Atm := [(0,0),(0,1),(1,99)]
def tG_D31 : List Atm := [(0,0),(0,1),(0,8),(0,9)]
def tG_D32 : List Atm := [(0,2),(0,3),(0,12),(0,13)]
def tG_D33 : List Atm := [(0,0),(0,1),(0,2),(0,3),(0,8),(0,9),(0,12),(0,13)]
def tG_D34 : List Atm := [(0,0),(0,1),(0,10),(0,11)]
def tG_D35 : List Atm := [(0,2),(0,3),(0,14),(0,15)]
def tG_D36 : List Atm := [(0,0),(0,1),(0,2),(0,3),(0,10),(0,11),(0,14),(0,15)]
def tG_D37 : List Atm := [(0,4),(0,5),(0,8),(0,9)]
def tG_D38 : List Atm := [(0,6),(0,7),(0,12),(0,13)]
def tG_D39 : List Atm := [(0,4),(0,5),(0,6),(0,7),(0,8),(0,9),(0,12),(0,13)]
def tG_D40 : List Atm := [(0,4),(0,5),(0,10),(0,11)]
def tG_D41 : List Atm := [(0,6),(0,7),(0,14),(0,15)]
def tG_D42 : List Atm := [(0,4),(0,5),(0,6),(0,7),(0,10),(0,11),(0,14),(0,15)]
def tG_D43 : List Atm := [(0,0),(0,0),(0,1),(0,1),(0,2),(0,2),(0,3),(0,3),(0,8),(0,9),(0,10),(0,11),(0,12),(0,13),(0,14),(0,15)]
def tG_D44 : List Atm := [(0,0),(0,0),(0,1),(0,1),(0,2),(0,2),(0,3),(0,3),(0,10),(0,10),(0,11),(0,11),(0,14),(0,14),(0,15),(0,15)]
def tG_D45 : List Atm := [(0,8),(0,9),(0,12),(0,13),(1,191)]
def tG_D46 : List Atm := [(0,0),(0,1),(0,2),(0,3),(0,4),(0,5),(0,6),(0,7),(0,8),(0,9),(0,10),(0,11),(0,12),(0,13),(0,14),(0,15)]
def tG_D47 : List Atm := [(0,4),(0,5),(0,6),(0,7),(0,8),(0,9),(0,12),(0,13),(1,191)]
def tG_D48 : List Atm := [(0,0),(0,1),(0,2),(0,3),(0,4),(0,5),(0,6),(0,7),(0,10),(0,10),(0,11),(0,11),(0,14),(0,14),(0,15),(0,15)]
def tG_D49 : List Atm := [(0,4),(0,5),(0,6),(0,7),(1,191)]
def tG_D50 : List Atm := [(0,8),(0,9),(0,16),(0,17)]
def tG_D51 : List Atm := [(0,8),(0,9),(0,11),(0,16),(0,17)]
def tG_D52 : List Atm := [(0,12),(0,13),(0,16),(0,17)]
def tG_D53 : List Atm := [(0,12),(0,13),(0,15),(0,16),(0,17)]
def tG_D54 : List Atm := [(0,0),(0,1),(0,6),(0,7),(1,64),(1,64)]
def tG_D55 : List Atm := [(0,4),(0,5),(1,64),(1,64)]
def tG_D56 : List Atm := [(0,0),(0,1),(0,4),(0,5),(0,6),(0,7),(1,64),(1,64)]
def tG_D57 : List Atm := [(0,0),(0,6),(0,7),(1,64)]
def tG_D58 : List Atm := [(0,1),(0,6),(0,7),(1,64)]
def tG_D59 : List Atm := [(0,0),(0,1),(0,6),(0,7),(1,64)]
def tG_D60 : List Atm := [(0,2),(0,4),(0,5),(1,64)]
def tG_D61 : List Atm := [(0,3),(0,4),(0,5),(1,64)]
def tG_D62 : List Atm := [(0,2),(0,3),(0,4),(0,5),(1,64)]
def tG_D63 : List Atm := [(0,0),(0,1),(0,2),(0,3),(0,4),(0,5),(0,6),(0,7),(1,64)]
def tG_D64 : List Atm := [(0,0),(1,64)]
def tG_D65 : List Atm := [(0,1),(1,64)]
def tG_D66 : List Atm := [(0,0),(0,1),(0,2),(1,64)]
def tG_D67 : List Atm := [(0,0),(0,1),(0,3),(1,64)]
def tG_D68 : List Atm := [(0,0),(0,1),(0,2),(0,3),(1,64)]
def tG_D69 : List Atm := [(0,4),(0,6),(0,7),(1,64)]
def tG_D70 : List Atm := [(0,5),(0,6),(0,7),(1,64)]
def tG_D71 : List Atm := [(0,4),(0,5),(0,6),(0,7),(1,64)]
def tG_D72 : List Atm := [(0,4),(0,5),(0,6),(1,64)]
def tG_D73 : List Atm := [(0,4),(0,5),(0,7),(1,64)]
def tG_D74 : List Atm := [(0,4),(1,64)]
def tG_D75 : List Atm := [(0,5),(1,64)]
def tG_D76 : List Atm := [(0,0),(0,1),(0,6),(1,64)]
def tG_D77 : List Atm := [(0,0),(0,1),(0,7),(1,64)]
def tG_D78 : List Atm := [(0,0),(0,1),(0,4),(0,5),(0,6),(0,7),(1,64)]
def tG_D79 : List Atm := [(0,0),(0,0),(0,1),(0,1),(0,2),(0,2),(0,3),(0,3),(0,4),(0,4),(0,5),(0,5),(0,6),(0,6),(0,7),(0,7),(1,64),(1,64)]
def tG_D80 : List Atm := [(0,0),(0,0),(0,1),(0,1),(0,2),(0,2),(0,3),(0,3),(0,4),(0,5),(0,6),(0,7),(1,64),(1,64)]
def tG_D81 : List Atm := [(0,0),(0,1),(0,2),(0,3),(0,4),(0,4),(0,5),(0,5),(0,6),(0,6),(0,7),(0,7),(1,64),(1,64)]
def tG_D82 : List Atm := [(0,0),(0,0),(0,1),(0,1),(0,2),(0,3),(0,4),(0,4),(0,5),(0,5),(0,6),(0,6),(0,7),(0,7),(1,64),(1,64)]
def tG_D83 : List Atm := [(0,8),(0,9),(0,10),(0,11),(0,12),(0,13),(0,14),(0,15),(0,16),(0,16),(0,17),(0,17)]
def tG_D84 : List Atm := [(0,8),(0,9),(0,10),(0,11),(1,364)]
def tG_D85 : List Atm := [(0,0),(0,8),(0,9),(0,10),(0,11),(1,364)]
def tG_D86 : List Atm := [(0,1),(0,8),(0,9),(0,10),(0,11),(1,364)]
def tG_D87 : List Atm := [(0,0),(0,1),(0,8),(0,9),(0,10),(0,11),(1,364)]
def tG_D88 : List Atm := [(0,0),(0,1),(0,3),(0,8),(0,9),(0,10),(0,11),(1,364)]
def tG_D89 : List Atm := [(0,4),(0,8),(0,9),(0,10),(0,11),(1,364)]
def tG_D90 : List Atm := [(0,5),(0,8),(0,9),(0,10),(0,11),(1,364)]
def tG_D91 : List Atm := [(0,4),(0,5),(0,8),(0,9),(0,10),(0,11),(1,364)]
def tG_D92 : List Atm := [(0,4),(0,5),(0,7),(0,8),(0,9),(0,10),(0,11),(1,364)]
def tG_D93 : List Atm := [(0,4),(0,5),(0,6),(0,7),(0,8),(0,9),(0,12),(0,13),(1,191),(1,191)]
def tG_D94 : List Atm := [(0,8),(0,9),(0,12),(0,13),(0,16),(1,191)]
def tG_D95 : List Atm := [(0,8),(0,9),(0,12),(0,13),(0,17),(1,191)]
def tG_D96 : List Atm := [(0,8),(0,9),(0,12),(0,13),(0,16),(0,17),(1,191)]
def tG_D97 : List Atm := [(0,4),(0,5),(0,6),(0,7),(0,8),(0,9),(0,12),(0,13),(0,16),(1,191)]
def tG_D98 : List Atm := [(0,4),(0,5),(0,6),(0,7),(0,8),(0,9),(0,12),(0,13),(0,17),(1,191)]
def tG_D99 : List Atm := [(0,4),(0,5),(0,6),(0,7),(0,8),(0,9),(0,12),(0,13),(0,16),(0,17),(1,191)]
def tG_D100 : List Atm := [(0,0),(0,1),(0,2),(0,3),(0,4),(0,5),(0,6),(0,7),(0,8),(0,8),(0,9),(0,9),(0,10),(0,10),(0,11),(0,11),(1,364),(1,364)]
def tG_D101 : List Atm := [(0,0),(0,1),(0,2),(0,3),(1,429)]
def tG_D102 : List Atm := [(0,4),(0,5),(0,6),(0,7),(0,8),(0,8),(0,9),(0,9),(0,12),(0,12),(0,13),(0,13),(0,16),(0,16),(0,17),(0,17),(1,191),(1,191)]
def tG_D103 : List Atm := [(0,4),(0,4),(0,5),(0,5),(0,6),(0,6),(0,7),(0,7),(0,8),(0,8),(0,9),(0,9),(0,12),(0,12),(0,13),(0,13),(0,16),(0,16),(0,17),(0,17),(1,191),(1,191)]
def tG_D104 : List Atm := [(0,0),(0,1),(0,2),(0,3),(0,6),(0,7),(1,64),(1,429)]
def tG_D105 : List Atm := [(0,0),(0,1),(0,2),(0,3),(0,4),(0,5),(1,64),(1,429)]
def tG_D106 : List Atm := [(0,0),(0,0),(0,1),(0,1),(0,2),(0,2),(0,3),(0,3),(0,4),(0,5),(0,6),(0,7),(1,64),(1,64),(1,429),(1,429)]
def tG_D107 : List Atm := [(0,0),(0,0),(0,1),(0,1),(0,2),(0,2),(0,3),(0,3),(0,4),(0,4),(0,5),(0,5),(1,64),(1,64),(1,429),(1,429)]
def tG_D108 : List Atm := [(0,6),(0,7),(1,474)]
def tG_D109 : List Atm := [(0,6),(0,7),(0,8),(0,9),(0,10),(0,11),(1,364),(1,474)]
def tG_D110 : List Atm := [(0,0),(0,1),(1,99),(1,99)]
def tG_D111 : List Atm := [(0,2),(0,3),(0,4),(0,5),(1,99),(1,99)]
def tG_D112 : List Atm := [(0,0),(0,1),(0,2),(0,3),(0,4),(0,5),(1,99),(1,99)]
def tG_D113 : List Atm := [(0,0),(1,99)]
def tG_D114 : List Atm := [(0,1),(1,99)]
def tG_D115 : List Atm := [(0,2),(0,4),(0,5),(1,99)]
def tG_D116 : List Atm := [(0,3),(0,4),(0,5),(1,99)]
def tG_D117 : List Atm := [(0,2),(0,3),(0,4),(0,5),(1,99)]
def tG_D118 : List Atm := [(0,0),(0,1),(0,2),(0,3),(0,4),(0,5),(1,99)]
def tG_D119 : List Atm := [(0,0),(0,2),(0,3),(1,99)]
def tG_D120 : List Atm := [(0,1),(0,2),(0,3),(1,99)]
def tG_D121 : List Atm := [(0,0),(0,1),(0,2),(0,3),(1,99)]
def tG_D122 : List Atm := [(0,0),(0,1),(0,2),(1,99)]
def tG_D123 : List Atm := [(0,0),(0,1),(0,3),(1,99)]
def tG_D124 : List Atm := [(0,4),(1,99)]
def tG_D125 : List Atm := [(0,5),(1,99)]
def tG_D126 : List Atm := [(0,4),(0,5),(0,6),(1,99)]
def tG_D127 : List Atm := [(0,4),(0,5),(0,7),(1,99)]
def tG_D128 : List Atm := [(0,4),(0,5),(0,6),(0,7),(1,99)]
def tG_D129 : List Atm := [(0,2),(0,3),(0,4),(1,99)]
def tG_D130 : List Atm := [(0,2),(0,3),(0,5),(1,99)]
def tG_D131 : List Atm := [(0,0),(0,1),(0,6),(1,99)]
def tG_D132 : List Atm := [(0,0),(0,1),(0,7),(1,99)]
def tG_D133 : List Atm := [(0,0),(0,1),(0,6),(0,7),(1,99)]
def tG_D134 : List Atm := [(0,0),(0,1),(0,2),(0,3),(0,4),(0,5),(0,6),(0,7),(1,99)]
def tG_D135 : List Atm := [(0,0),(0,0),(0,1),(0,1),(0,2),(0,2),(0,3),(0,3),(0,4),(0,4),(0,5),(0,5),(1,99),(1,99)]
def tG_D136 : List Atm := [(0,0),(0,0),(0,1),(0,1),(0,2),(0,2),(0,3),(0,3),(0,4),(0,5),(1,99),(1,99)]
def tG_D137 : List Atm := [(0,0),(0,1),(0,2),(0,3),(0,4),(0,4),(0,5),(0,5),(0,6),(0,7),(1,99),(1,99)]
def tG_D138 : List Atm := [(0,6),(0,7),(1,562)]
def tG_D139 : List Atm := [(0,0),(0,0),(0,1),(0,1),(0,2),(0,2),(0,3),(0,3),(0,4),(0,4),(0,5),(0,5),(0,6),(0,7),(1,99),(1,99)]
def tG_D140 : List Atm := [(0,0),(0,1),(0,2),(0,3),(1,99),(1,429)]
def tG_D141 : List Atm := [(0,0),(0,1),(0,2),(0,3),(0,4),(0,5),(1,99),(1,429)]
def tG_D142 : List Atm := [(0,0),(0,0),(0,1),(0,1),(0,2),(0,2),(0,3),(0,3),(0,4),(0,5),(1,99),(1,99),(1,429),(1,429)]
def tG_D143 : List Atm := [(0,0),(0,0),(0,1),(0,1),(0,2),(0,2),(0,3),(0,3),(0,4),(0,4),(0,5),(0,5),(1,99),(1,99),(1,429),(1,429)]
def tG_D144 : List Atm := [(0,8),(0,9),(0,10),(0,11),(1,364),(1,619)]
def tG_D145 : List Atm := [(0,0),(0,0),(0,1),(0,1),(0,2),(0,2),(0,3),(0,3),(0,8),(0,8),(0,9),(0,9),(0,12),(0,12),(0,13),(0,13)]
def tG_D146 : List Atm := [(0,10),(0,11),(0,14),(0,15),(1,632)]
def tG_D147 : List Atm := [(0,0),(0,1),(0,2),(0,3),(0,4),(0,5),(0,6),(0,7),(0,8),(0,8),(0,9),(0,9),(0,12),(0,12),(0,13),(0,13)]
def tG_D148 : List Atm := [(0,4),(0,5),(0,6),(0,7),(1,632)]
def tG_D149 : List Atm := [(0,4),(0,5),(0,6),(0,7),(0,10),(0,11),(0,14),(0,15),(1,632)]
def tG_D150 : List Atm := [(0,4),(0,5),(0,6),(0,7),(0,10),(0,11),(0,14),(0,15),(1,632),(1,632)]
def tG_D151 : List Atm := [(0,16),(1,632)]
def tG_D152 : List Atm := [(0,17),(1,632)]
def tG_D153 : List Atm := [(0,16),(0,17),(1,632)]
def tG_D154 : List Atm := [(0,10),(0,11),(0,14),(0,15),(0,16),(0,17),(1,632)]
def tG_D155 : List Atm := [(0,4),(0,5),(0,6),(0,7),(0,16),(1,632)]
def tG_D156 : List Atm := [(0,4),(0,5),(0,6),(0,7),(0,17),(1,632)]
def tG_D157 : List Atm := [(0,4),(0,5),(0,6),(0,7),(0,16),(0,17),(1,632)]
def tG_D158 : List Atm := [(0,4),(0,5),(0,6),(0,7),(0,10),(0,11),(0,14),(0,15),(0,16),(0,17),(1,632)]
def tG_D159 : List Atm := [(0,4),(0,5),(0,6),(0,7),(0,10),(0,10),(0,11),(0,11),(0,14),(0,14),(0,15),(0,15),(0,16),(0,16),(0,17),(0,17),(1,632),(1,632)]
def tG_D160 : List Atm := [(0,4),(0,4),(0,5),(0,5),(0,6),(0,6),(0,7),(0,7),(0,10),(0,10),(0,11),(0,11),(0,14),(0,14),(0,15),(0,15),(0,16),(0,16),(0,17),(0,17),(1,632),(1,632)]
def tG_E : List (Nat × List Atm) := [(3495259,[(0,0)]),(3495259,[(0,1)]),(3495259,[(0,2)]),(3495259,[(0,3)]),(3495259,[(0,4)]),(3495259,[(0,5)]),(3495259,[(0,6)]),(3495259,[(0,7)]),(3495259,[(0,7)]),(6990518,[(0,0),(0,6)]),(6990518,tG_D0),(13981038,tG_D1),(3495259,[(0,1)]),(6990518,tG_D2),(6990518,[(0,1),(0,6)]),(13981038,tG_D1),(3495259,[(0,5)]),(6990518,tG_D3),(6990518,tG_D4),(13981038,tG_D5),(3495259,[(0,3)]),(6990518,tG_D6),(6990518,tG_D7),(13981038,tG_D5),(27962076,tG_D8),(27962076,tG_D8),(3495259,[(0,8)]),(3495259,[(0,9)]),(3495259,[(0,10)]),(3495259,[(0,11)]),(3495259,[(0,12)]),(3495259,[(0,13)]),(3495259,[(0,14)]),(3495259,[(0,15)]),(3495259,[(0,15)]),(6990518,[(0,8),(0,14)]),(6990518,[(0,9),(0,15)]),(13981038,tG_D9),(3495259,[(0,9)]),(6990518,[(0,8),(0,15)]),(6990518,[(0,9),(0,14)]),(13981038,tG_D9),(3495259,[(0,13)]),(6990518,[(0,10),(0,12)]),(6990518,[(0,11),(0,13)]),(13981038,tG_D10),(3495259,[(0,11)]),(6990518,[(0,10),(0,13)]),(6990518,[(0,11),(0,12)]),(13981038,tG_D10),(27962076,tG_D11),(27962076,tG_D11),(3495259,[(0,2)]),(3495259,[(0,4)]),(3495259,[(0,3)]),(3495259,[(0,3)]),(6990518,tG_D12),(6990518,tG_D13),(13981038,tG_D14),(6990518,tG_D15),(6990518,tG_D16),(13981038,tG_D14),(6990518,[(0,2),(0,2)]),(6990518,tG_D17),(13981038,tG_D18),(20971557,tG_D19),(20971557,tG_D19),(6990518,tG_D17),(13981038,tG_D18),(6990518,tG_D20),(6990518,tG_D20),(6990520,tG_D20),(13981039,[(1,64)]),(13981039,[(1,64)]),(6990518,tG_D3),(6990518,tG_D4),(13981038,tG_D5),(3495259,[(0,5)]),(6990518,tG_D7),(6990518,tG_D6),(13981038,tG_D5),(20971557,tG_D21),(20971557,tG_D21),(6990518,[(0,0),(0,2)]),(6990518,[(0,1),(0,3)]),(13981038,tG_D22),(6990518,[(0,0),(0,3)]),(6990518,[(0,1),(0,2)]),(13981038,tG_D22),(20971557,tG_D23),(20971557,tG_D23),(3495259,[(0,7)]),(6990518,[(0,6),(0,6)]),(6990518,tG_D24),(13981038,tG_D25),(6990518,tG_D26),(6990518,tG_D26),(6990520,tG_D26),(6990518,tG_D24),(13981038,tG_D25),(13981039,[(1,99)]),(13981039,[(1,99)]),(6990518,tG_D12),(6990518,tG_D13),(13981038,tG_D14),(6990518,tG_D16),(6990518,tG_D15),(13981038,tG_D14),(20971557,tG_D27),(20971557,tG_D27),(6990518,[(0,4),(0,6)]),(6990518,[(0,5),(0,7)]),(13981038,tG_D28),(6990518,[(0,4),(0,7)]),(6990518,[(0,5),(0,6)]),(13981038,tG_D28),(20971557,tG_D29),(20971557,tG_D29),(6990518,tG_D0),(13981038,tG_D1),(6990518,tG_D2),(13981038,tG_D1),(20971557,tG_D30),(20971557,tG_D30),(6990518,[(0,0),(0,8)]),(6990518,[(0,1),(0,9)]),(13981038,tG_D31),(6990518,[(0,0),(0,9)]),(6990518,[(0,1),(0,8)]),(13981038,tG_D31),(6990518,[(0,2),(0,12)]),(6990518,[(0,3),(0,13)]),(13981038,tG_D32),(6990518,[(0,2),(0,13)]),(6990518,[(0,3),(0,12)]),(13981038,tG_D32),(27962076,tG_D33),(27962076,tG_D33),(6990518,[(0,0),(0,10)]),(6990518,[(0,1),(0,11)]),(13981038,tG_D34),(6990518,[(0,0),(0,11)]),(6990518,[(0,1),(0,10)]),(13981038,tG_D34),(6990518,[(0,2),(0,14)]),(6990518,[(0,3),(0,15)]),(13981038,tG_D35),(6990518,[(0,2),(0,15)]),(6990518,[(0,3),(0,14)]),(13981038,tG_D35),(27962076,tG_D36),(27962076,tG_D36),(6990518,[(0,4),(0,8)]),(6990518,[(0,5),(0,9)]),(13981038,tG_D37),(6990518,[(0,4),(0,9)]),(6990518,[(0,5),(0,8)]),(13981038,tG_D37),(6990518,[(0,6),(0,12)]),(6990518,[(0,7),(0,13)]),(13981038,tG_D38),(6990518,[(0,6),(0,13)]),(6990518,[(0,7),(0,12)]),(13981038,tG_D38),(27962076,tG_D39),(27962076,tG_D39),(6990518,[(0,4),(0,10)]),(6990518,[(0,5),(0,11)]),(13981038,tG_D40),(6990518,[(0,4),(0,11)]),(6990518,[(0,5),(0,10)]),(13981038,tG_D40),(6990518,[(0,6),(0,14)]),(6990518,[(0,7),(0,15)]),(13981038,tG_D41),(6990518,[(0,6),(0,15)]),(6990518,[(0,7),(0,14)]),(13981038,tG_D41),(27962076,tG_D42),(27962076,tG_D42),(27962076,tG_D36),(27962076,tG_D36),(55924152,tG_D43),(55924152,tG_D43),(55924154,tG_D43),(27962076,tG_D33),(55924152,tG_D43),(55924152,tG_D43),(55924154,tG_D43),(55924152,tG_D44),(55924152,tG_D44),(55924154,tG_D44),(69905191,tG_D45),(69905191,tG_D45),(55924152,tG_D44),(55924154,tG_D44),(55924152,tG_D44),(55924152,tG_D44),(55924154,tG_D44),(55924155,[(1,191)]),(55924155,[(1,191)]),(55924152,tG_D46),(55924152,tG_D46),(55924154,tG_D46),(27962076,tG_D39),(55924152,tG_D46),(55924152,tG_D46),(55924154,tG_D46),(83886227,tG_D47),(83886227,tG_D47),(55924152,tG_D48),(55924152,tG_D48),(55924154,tG_D48),(27962076,tG_D42),(55924152,tG_D48),(55924152,tG_D48),(55924154,tG_D48),(69905191,tG_D49),(69905191,tG_D49),(3495259,[(0,16)]),(3495259,[(0,17)]),(3495259,[(0,17)]),(6990518,[(0,8),(0,16)]),(6990518,[(0,9),(0,17)]),(13981038,tG_D50),(6990518,[(0,8),(0,17)]),(6990518,[(0,9),(0,16)]),(13981038,tG_D50),(17476299,[(0,8),(0,9),(0,10),(0,16),(0,17)]),(17476299,tG_D51),(6990518,[(0,12),(0,16)]),(6990518,[(0,13),(0,17)]),(13981038,tG_D52),(6990518,[(0,12),(0,17)]),(6990518,[(0,13),(0,16)]),(13981038,tG_D52),(17476299,[(0,12),(0,13),(0,14),(0,16),(0,17)]),(17476299,tG_D53),(20971557,tG_D23),(41943114,tG_D54),(41943114,tG_D54),(41943116,tG_D54),(20971557,tG_D19),(41943114,tG_D54),(41943114,tG_D54),(41943116,tG_D54),(20971557,tG_D21),(34952596,tG_D55),(34952596,tG_D55),(34952598,tG_D55),(13981039,[(1,64)]),(34952596,tG_D55),(34952596,tG_D55),(34952598,tG_D55),(48933636,tG_D56),(48933636,tG_D56),(24466816,tG_D57),(24466816,tG_D58),(27962077,tG_D59),(24466816,tG_D57),(24466816,tG_D58),(27962077,tG_D59),(24466816,tG_D60),(24466816,tG_D61),(27962077,tG_D62),(24466816,tG_D60),(24466816,tG_D61),(27962077,tG_D62),(41943115,tG_D63),(41943115,tG_D63),(17476298,tG_D64),(17476298,tG_D65),(20971559,tG_D23),(17476298,tG_D64),(17476298,tG_D65),(20971559,tG_D23),(24466816,tG_D66),(24466816,tG_D67),(27962077,tG_D68),(24466816,tG_D66),(24466816,tG_D67),(27962077,tG_D68),(27962079,tG_D68),(27962079,tG_D68),(24466816,tG_D69),(24466816,tG_D70),(27962077,tG_D71),(24466816,tG_D69),(24466816,tG_D70),(27962077,tG_D71),(24466816,tG_D72),(24466816,tG_D73),(27962077,tG_D71),(24466816,tG_D72),(24466816,tG_D73),(27962077,tG_D71),(27962079,tG_D71),(27962079,tG_D71),(17476298,tG_D74),(17476298,tG_D75),(20971559,tG_D21),(17476298,tG_D74),(17476298,tG_D75),(20971559,tG_D21),(24466816,tG_D76),(24466816,tG_D77),(27962077,tG_D59),(24466816,tG_D76),(24466816,tG_D77),(27962077,tG_D59),(34952597,tG_D78),(34952597,tG_D78),(41943115,tG_D63),(41943115,tG_D63),(83886230,tG_D79),(83886230,tG_D79),(83886232,tG_D79),(83886230,tG_D79),(83886230,tG_D79),(83886232,tG_D79),(83886230,tG_D79),(83886232,tG_D79),(83886233,[(1,321)]),(83886233,[(1,321)]),(69905194,tG_D80),(69905194,tG_D80),(69905196,tG_D80),(27962079,tG_D68),(69905194,tG_D80),(69905194,tG_D80),(69905196,tG_D80),(83886233,[(1,321)]),(83886233,[(1,321)]),(69905194,tG_D81),(69905194,tG_D81),(69905196,tG_D81),(27962079,tG_D71),(69905194,tG_D81),(69905194,tG_D81),(69905196,tG_D81),(83886233,[(1,321)]),(83886233,[(1,321)]),(76895712,tG_D82),(76895712,tG_D82),(76895714,tG_D82),(34952597,tG_D78),(76895712,tG_D82),(76895712,tG_D82),(76895714,tG_D82),(83886233,[(1,321)]),(83886233,[(1,321)]),(1,[]),(1,[]),(17476299,tG_D53),(17476299,tG_D53),(34952598,[(0,8),(0,9),(0,10),(0,12),(0,13),(0,14),(0,16),(0,16),(0,17),(0,17)]),(34952598,[(0,8),(0,9),(0,11),(0,12),(0,13),(0,15),(0,16),(0,16),(0,17),(0,17)]),(41943118,tG_D83),(17476299,tG_D51),(34952598,[(0,8),(0,9),(0,10),(0,12),(0,13),(0,15),(0,16),(0,16),(0,17),(0,17)]),(34952598,[(0,8),(0,9),(0,11),(0,12),(0,13),(0,14),(0,16),(0,16),(0,17),(0,17)]),(41943118,tG_D83),(34952598,[(0,12),(0,12),(0,13),(0,13),(0,14),(0,14),(0,16),(0,16),(0,17),(0,17)]),(34952598,[(0,12),(0,12),(0,13),(0,13),(0,15),(0,15),(0,16),(0,16),(0,17),(0,17)]),(41943118,[(0,12),(0,12),(0,13),(0,13),(0,14),(0,14),(0,15),(0,15),(0,16),(0,16),(0,17),(0,17)]),(55924155,tG_D84),(55924155,tG_D84),(55924155,tG_D84),(59419414,tG_D85),(59419414,tG_D86),(62914675,tG_D87),(59419414,tG_D85),(59419414,tG_D86),(62914675,tG_D87),(66409936,[(0,0),(0,1),(0,2),(0,8),(0,9),(0,10),(0,11),(1,364)]),(66409936,tG_D88),(59419414,tG_D89),(59419414,tG_D90),(62914675,tG_D91),(59419414,tG_D89),(59419414,tG_D90),(62914675,tG_D91),(66409936,[(0,4),(0,5),(0,6),(0,8),(0,9),(0,10),(0,11),(1,364)]),(66409936,tG_D92),(69905191,tG_D49),(139810382,tG_D93),(139810382,tG_D93),(139810384,tG_D93),(69905191,tG_D45),(139810382,tG_D93),(139810382,tG_D93),(139810384,tG_D93),(83886227,tG_D47),(139810382,tG_D93),(139810382,tG_D93),(139810384,tG_D93),(55924155,[(1,191)]),(139810382,tG_D93),(139810382,tG_D93),(139810384,tG_D93),(139810386,tG_D93),(139810386,tG_D93),(73400450,tG_D94),(73400450,tG_D95),(76895711,tG_D96),(73400450,tG_D95),(73400450,tG_D94),(76895711,tG_D96),(76895713,tG_D96),(76895713,tG_D96),(87381486,tG_D97),(87381486,tG_D98),(90876747,tG_D99),(87381486,tG_D98),(87381486,tG_D97),(90876747,tG_D99),(90876749,tG_D99),(90876749,tG_D99),(66409936,tG_D92),(66409936,tG_D92),(132819872,[(0,0),(0,1),(0,2),(0,4),(0,5),(0,6),(0,8),(0,8),(0,9),(0,9),(0,10),(0,10),(0,11),(0,11),(1,364),(1,364)]),(132819872,[(0,0),(0,1),(0,3),(0,4),(0,5),(0,7),(0,8),(0,8),(0,9),(0,9),(0,10),(0,10),(0,11),(0,11),(1,364),(1,364)]),(139810392,tG_D100),(66409936,tG_D88),(132819872,[(0,0),(0,1),(0,2),(0,4),(0,5),(0,7),(0,8),(0,8),(0,9),(0,9),(0,10),(0,10),(0,11),(0,11),(1,364),(1,364)]),(132819872,[(0,0),(0,1),(0,3),(0,4),(0,5),(0,6),(0,8),(0,8),(0,9),(0,9),(0,10),(0,10),(0,11),(0,11),(1,364),(1,364)]),(139810392,tG_D100),(132819872,[(0,4),(0,4),(0,5),(0,5),(0,6),(0,6),(0,8),(0,8),(0,9),(0,9),(0,10),(0,10),(0,11),(0,11),(1,364),(1,364)]),(132819872,[(0,4),(0,4),(0,5),(0,5),(0,7),(0,7),(0,8),(0,8),(0,9),(0,9),(0,10),(0,10),(0,11),(0,11),(1,364),(1,364)]),(139810392,[(0,4),(0,4),(0,5),(0,5),(0,6),(0,6),(0,7),(0,7),(0,8),(0,8),(0,9),(0,9),(0,10),(0,10),(0,11),(0,11),(1,364),(1,364)]),(153791429,tG_D101),(153791429,tG_D101),(90876749,tG_D99),(90876749,tG_D99),(167772462,tG_D102),(167772462,tG_D102),(167772464,tG_D102),(76895713,tG_D96),(167772462,tG_D102),(167772462,tG_D102),(167772464,tG_D102),(181753498,tG_D103),(181753498,tG_D103),(181753500,tG_D103),(181753501,[(1,443)]),(181753501,[(1,443)]),(153791429,tG_D101),(174762986,tG_D104),(174762986,tG_D104),(174762988,tG_D104),(174762986,tG_D104),(174762986,tG_D104),(174762988,tG_D104),(174762990,tG_D104),(174762990,tG_D104),(174762986,tG_D105),(174762986,tG_D105),(174762988,tG_D105),(174762986,tG_D105),(174762986,tG_D105),(174762988,tG_D105),(174762990,tG_D105),(174762990,tG_D105),(174762990,tG_D105),(174762990,tG_D105),(349525980,tG_D106),(349525980,tG_D106),(349525982,tG_D106),(174762990,tG_D104),(349525980,tG_D106),(349525980,tG_D106),(349525982,tG_D106),(349525980,tG_D107),(349525980,tG_D107),(349525982,tG_D107),(356516501,tG_D108),(356516501,tG_D108),(412440657,tG_D109),(412440657,tG_D109),(20971557,tG_D30),(34952596,tG_D110),(34952596,tG_D110),(34952598,tG_D110),(13981039,[(1,99)]),(34952596,tG_D110),(34952596,tG_D110),(34952598,tG_D110),(20971557,tG_D29),(41943114,tG_D111),(41943114,tG_D111),(41943116,tG_D111),(20971557,tG_D27),(41943114,tG_D111),(41943114,tG_D111),(41943116,tG_D111),(48933636,tG_D112),(48933636,tG_D112),(17476298,tG_D113),(17476298,tG_D114),(20971559,tG_D30),(17476298,tG_D113),(17476298,tG_D114),(20971559,tG_D30),(24466816,tG_D115),(24466816,tG_D116),(27962077,tG_D117),(24466816,tG_D115),(24466816,tG_D116),(27962077,tG_D117),(34952597,tG_D118),(34952597,tG_D118),(24466816,tG_D119),(24466816,tG_D120),(27962077,tG_D121),(24466816,tG_D119),(24466816,tG_D120),(27962077,tG_D121),(24466816,tG_D122),(24466816,tG_D123),(27962077,tG_D121),(24466816,tG_D122),(24466816,tG_D123),(27962077,tG_D121),(27962079,tG_D121),(27962079,tG_D121),(17476298,tG_D124),(17476298,tG_D125),(20971559,tG_D29),(17476298,tG_D124),(17476298,tG_D125),(20971559,tG_D29),(24466816,tG_D126),(24466816,tG_D127),(27962077,tG_D128),(24466816,tG_D126),(24466816,tG_D127),(27962077,tG_D128),(27962079,tG_D128),(27962079,tG_D128),(24466816,tG_D129),(24466816,tG_D130),(27962077,tG_D117),(24466816,tG_D129),(24466816,tG_D130),(27962077,tG_D117),(24466816,tG_D131),(24466816,tG_D132),(27962077,tG_D133),(24466816,tG_D131),(24466816,tG_D132),(27962077,tG_D133),(41943115,tG_D134),(41943115,tG_D134),(34952597,tG_D118),(34952597,tG_D118),(69905194,tG_D135),(69905194,tG_D135),(69905196,tG_D135),(69905194,tG_D135),(69905194,tG_D135),(69905196,tG_D135),(69905194,tG_D135),(69905196,tG_D135),(69905197,[(1,562)]),(69905197,[(1,562)]),(62914676,tG_D136),(62914676,tG_D136),(62914678,tG_D136),(27962079,tG_D121),(62914676,tG_D136),(62914676,tG_D136),(62914678,tG_D136),(69905197,[(1,562)]),(69905197,[(1,562)]),(62914676,tG_D137),(62914676,tG_D137),(62914678,tG_D137),(27962079,tG_D128),(62914676,tG_D137),(62914676,tG_D137),(62914678,tG_D137),(76895715,tG_D138),(76895715,tG_D138),(76895712,tG_D139),(76895712,tG_D139),(76895714,tG_D139),(41943115,tG_D134),(76895712,tG_D139),(76895712,tG_D139),(76895714,tG_D139),(76895715,tG_D138),(76895715,tG_D138),(167772468,tG_D140),(167772468,tG_D140),(167772470,tG_D140),(167772468,tG_D140),(167772468,tG_D140),(167772470,tG_D140),(167772472,tG_D140),(167772472,tG_D140),(174762986,tG_D141),(174762986,tG_D141),(174762988,tG_D141),(174762986,tG_D141),(174762986,tG_D141),(174762988,tG_D141),(174762990,tG_D141),(174762990,tG_D141),(174762990,tG_D141),(174762990,tG_D141),(342535462,tG_D142),(342535462,tG_D142),(342535464,tG_D142),(167772472,tG_D140),(342535462,tG_D142),(342535462,tG_D142),(342535464,tG_D142),(349525980,tG_D143),(349525980,tG_D143),(349525982,tG_D143),(349525983,[(1,619)]),(349525983,[(1,619)]),(405450139,tG_D144),(405450139,tG_D144),(27962076,tG_D33),(55924152,tG_D145),(55924152,tG_D145),(55924154,tG_D145),(55924152,tG_D145),(55924152,tG_D145),(55924154,tG_D145),(55924152,tG_D145),(55924154,tG_D145),(55924155,[(1,632)]),(55924155,[(1,632)]),(55924152,tG_D43),(55924152,tG_D43),(55924154,tG_D43),(55924152,tG_D43),(55924152,tG_D43),(55924154,tG_D43),(69905191,tG_D146),(69905191,tG_D146),(55924152,tG_D147),(55924152,tG_D147),(55924154,tG_D147),(55924152,tG_D147),(55924152,tG_D147),(55924154,tG_D147),(69905191,tG_D148),(69905191,tG_D148),(55924152,tG_D46),(55924152,tG_D46),(55924154,tG_D46),(55924152,tG_D46),(55924152,tG_D46),(55924154,tG_D46),(83886227,tG_D149),(83886227,tG_D149),(83886227,tG_D149),(139810382,tG_D150),(139810382,tG_D150),(139810384,tG_D150),(55924155,[(1,632)]),(139810382,tG_D150),(139810382,tG_D150),(139810384,tG_D150),(69905191,tG_D148),(139810382,tG_D150),(139810382,tG_D150),(139810384,tG_D150),(69905191,tG_D146),(139810382,tG_D150),(139810382,tG_D150),(139810384,tG_D150),(139810386,tG_D150),(139810386,tG_D150),(59419414,tG_D151),(59419414,tG_D152),(62914675,tG_D153),(59419414,tG_D152),(59419414,tG_D151),(62914675,tG_D153),(76895713,tG_D154),(76895713,tG_D154),(73400450,tG_D155),(73400450,tG_D156),(76895711,tG_D157),(73400450,tG_D156),(73400450,tG_D155),(76895711,tG_D157),(90876749,tG_D158),(90876749,tG_D158),(90876749,tG_D158),(90876749,tG_D158),(167772462,tG_D159),(167772462,tG_D159),(167772464,tG_D159),(76895713,tG_D154),(167772462,tG_D159),(167772462,tG_D159),(167772464,tG_D159),(181753498,tG_D160),(181753498,tG_D160),(181753500,tG_D160),(181753501,[(1,704)]),(181753501,[(1,704)])]
abbrev tG_Q (q : Nat→Rat) (σ : Nat→ByteArray) : Prop := ∀ (a : Nat) nd,tG_N[a]? = some nd→q a=valN σ q nd
variable {q : Nat→Rat} {σ : Nat→ByteArray}
theorem tG_wf : wfB 0 tG_N=true := by kernel_rfl
theorem tG_sz : saB tG_E 0 tG_N tG_E tG_Z=true := by kernel_rfl
theorem tG_lt : litB tG_N tG_L=true := by kernel_rfl
theorem tG_cn : canB tG_N tG_C=true := by kernel_rfl
theorem tG_c351 : cst 0 1 1=(1 : Rat) := by decide +kernel
theorem tG_c352 : cst 0 0 1=(0 : Rat) := by decide +kernel
def tG_A : List AV := [(false,[(true,[.inr (2,0,0,0,0),.inr (2,1,0,0,0),.inr (2,2,0,0,0),.inr (2,3,0,0,0),.inr (2,4,0,0,0),.inr (2,5,0,0,0),.inr (2,6,0,0,0),.inr (2,7,0,0,0)])]),(false,[(true,[.inr (2,8,0,0,0),.inr (2,9,0,0,0),.inr (2,10,0,0,0),.inr (2,11,0,0,0),.inr (2,12,0,0,0),.inr (2,13,0,0,0),.inr (2,14,0,0,0),.inr (2,15,0,0,0)])]),(false,[(true,[.inr (2,16,0,0,0),.inr (2,17,0,0,0)])])]
structure CC where
 re : Rat
 im : Rat
def CC.ad (x y : CC) : CC := ⟨x.re+y.re,x.im+y.im⟩
def CC.sb (x y : CC) : CC := ⟨x.re - y.re,x.im - y.im⟩
def CC.ml (x y : CC) : CC := ⟨x.re*y.re - x.im*y.im,x.re*y.im+x.im*y.re⟩
def CC.ng (x : CC) : CC := ⟨-x.re,-x.im⟩
def CC.no : CC := ⟨0,0⟩
def CC.un : CC := ⟨1,0⟩
theorem CC.ext' {x y : CC} (h : x.re=y.re∧x.im=y.im) : x=y := by
 cases x; cases y; cases h.1; cases h.2; rfl
theorem CC.re_eq {a b c d : Rat} (h : (⟨a,b⟩ : CC)=⟨c,d⟩) : a=c∧b=d := ⟨congrArg CC.re h,congrArg CC.im h⟩
theorem CC.no_iff {a b : Rat} : (⟨a,b⟩ : CC)=.no ↔ (a=0∧b=0) :=
 ⟨fun h => ⟨congrArg CC.re h,congrArg CC.im h⟩,fun h => CC.ext' h⟩
theorem CC.ml_no {x y : CC} (h : x.ml y=.no) (hx : x ≠ .no) : y=.no := by
 refine Classical.byContradiction fun hy => ?_
 have h1 := congrArg CC.re h
 have h2 := congrArg CC.im h
 exact cmul_ne (a := x.re) (b := x.im) (c := y.re) (d := y.im) (fun q => hx (CC.ext' q)) (fun q => hy (CC.ext' q)) rfl rfl ⟨h1,h2⟩
theorem CC.no_ml (x : CC) : CC.no.ml x=.no := by
 apply CC.ext'; simp only [CC.ml,CC.no]; constructor <;> grind
theorem CC.cancel {x y t : CC} (ht : t ≠ .no) (h : x.ml t=y.ml t) : x=y := by
 have h1 : t.ml (x.sb y)=.no := by
  have e1 := congrArg CC.re h
  have e2 := congrArg CC.im h
  simp only [CC.ml] at e1 e2
  apply CC.ext'; simp only [CC.ml,CC.sb,CC.no]; constructor <;> grind
 have h2 := CC.ml_no h1 ht
 have e1 := congrArg CC.re h2
 have e2 := congrArg CC.im h2
 simp only [CC.sb,CC.no] at e1 e2
 apply CC.ext'; constructor <;> grind
theorem CC.ne_ml {x y : CC} (hx : x ≠ .no) (hy : y ≠ .no) : x.ml y ≠ .no := fun h => hy (CC.ml_no h hx)
theorem CC.quo {a b l m n X Y : Rat} (hl : (⟨l,m⟩ : CC) ≠ .no) (en : n=l*l+m*m) (hX : X=(a*l+b*m) / n) (hY : Y=(b*l - a*m) / n) : (⟨X,Y⟩ : CC).ml ⟨l,m⟩=⟨a,b⟩ := by
 have hp := sq_pos (x := l) (y := m) (fun q => hl (CC.ext' q))
 have hn : n ≠ 0 := by rw [en]; intro h; rw [h] at hp; exact absurd hp (by decide)
 have e1 : X*n=a*l+b*m := by rw [hX]; exact Rat.div_mul_cancel hn
 have e2 : Y*n=b*l - a*m := by rw [hY]; exact Rat.div_mul_cancel hn
 apply CC.ext'; simp only [CC.ml]
 constructor
 ·have : (X*l - Y*m - a)*n=0 := by grind
  have := (Rat.mul_eq_zero.1 this).resolve_right hn
  grind
 ·have : (X*m+Y*l - b)*n=0 := by grind
  have := (Rat.mul_eq_zero.1 this).resolve_right hn
  grind
theorem tg_den {a b c d z t A B p q W : CC} (hp : p.ml t=(A.ml a).ad (B.ml c)) (hq : q.ml t=(A.ml b).ad (B.ml d)) (hW : W.ml ((c.ml z).ad d)=(a.ml z).ad b) : ((p.ml z).ad q).ml t=((A.ml W).ad B).ml ((c.ml z).ad d) := by
 have h1 : ((p.ml z).ad q).ml t=((p.ml t).ml z).ad (q.ml t) := by apply CC.ext'; simp only [CC.ml,CC.ad]; constructor <;> grind
 have h2 : ((A.ml W).ad B).ml ((c.ml z).ad d)=(A.ml (W.ml ((c.ml z).ad d))).ad (B.ml ((c.ml z).ad d)) := by apply CC.ext'; simp only [CC.ml,CC.ad]; constructor <;> grind
 rw [h1,h2,hp,hq,hW]
 apply CC.ext'; simp only [CC.ml,CC.ad]; constructor <;> grind
theorem tg_uv {X Y P Q U V t k : CC} (hX : X.ml t=P.ml k) (hY : Y.ml t=Q.ml k) (hU : U.ml Q=P) (hV : V.ml Y=X) (hk : k ≠ .no) (hQ : Q ≠ .no) : U=V := by
 refine CC.cancel (CC.ne_ml hQ hk) ?_
 have h1 : U.ml (Q.ml k)=(U.ml Q).ml k := by apply CC.ext'; simp only [CC.ml]; constructor <;> grind
 have h2 : V.ml (Y.ml t)=(V.ml Y).ml t := by apply CC.ext'; simp only [CC.ml]; constructor <;> grind
 rw [h1,hU,← hY,h2,hV,hX]
theorem tg_yq {Y Q t k : CC} (hY : Y.ml t=Q.ml k) (ht : t ≠ .no) (hk : k ≠ .no) : (Y=.no) ↔ Q=.no := by
 constructor
 ·intro h
  rw [h,CC.no_ml] at hY
  have h1 : k.ml Q=.no := by
   rw [show k.ml Q=Q.ml k by apply CC.ext'; simp only [CC.ml]; constructor <;> grind]; exact hY.symm
  exact CC.ml_no h1 hk
 ·intro h
  rw [h,CC.no_ml] at hY
  have h1 : t.ml Y=.no := by
   rw [show t.ml Y=Y.ml t by apply CC.ext'; simp only [CC.ml]; constructor <;> grind]; exact hY
  exact CC.ml_no h1 ht
theorem CC.ne {a b : Rat} (u : ¬ (a=0∧b=0)) : (⟨a,b⟩ : CC) ≠ .no := fun h => u (CC.no_iff.1 h)
theorem CC.eq0 {a b : Rat} (u : a=0∧b=0) : (⟨a,b⟩ : CC)=.no := CC.ext' u
theorem CC.un_ne : CC.un ≠ .no := fun h => absurd (congrArg CC.re h) (by decide)
theorem CC.mk_ml {a b c d x y m1 m2 m3 m4 nd nb : Rat} (hx : x=m1+m2) (hy : y=m3 - m4) (h1 : m1=a*c) (h2 : m2=b*nd) (h3 : m3=a*d) (h4 : m4=nb*c) (hd : nd=-d) (hb : nb=-b) : (⟨x,y⟩ : CC)=CC.ml ⟨a,b⟩ ⟨c,d⟩ := by
 subst_vars; apply CC.ext'; simp only [CC.ml]; constructor <;> grind
theorem CC.mk_ad {a b c d x y : Rat} (hx : x=a+c) (hy : y=b+d) : (⟨x,y⟩ : CC)=CC.ad ⟨a,b⟩ ⟨c,d⟩ := by
 subst_vars; rfl
theorem CC.mk_sb {a b c d x y : Rat} (hx : x=a - c) (hy : y=b - d) : (⟨x,y⟩ : CC)=CC.sb ⟨a,b⟩ ⟨c,d⟩ := by
 subst_vars; rfl
theorem CC.mk_ng {a b x y : Rat} (hx : x=-a) (hy : y=-b) : (⟨x,y⟩ : CC)=CC.ng ⟨a,b⟩ := by
 subst_vars; rfl
theorem CC.mk_quo {a b l m n X Y nx ny p q r s k m' nb ll mm : Rat} (hl : (⟨l,m⟩ : CC) ≠ .no) (hX : X=nx / n) (hY : Y=ny / n) (hnx : nx=p+q) (hny : ny=r - s) (hp : p=a*l) (hq : q=b*k) (hk : k=-m') (hm : m'=-m) (hr : r=a*m') (hs : s=nb*l) (hb : nb=-b) (hn : n=ll+mm) (hll : ll=l*l) (hmm : mm=m*m) : (⟨X,Y⟩ : CC).ml ⟨l,m⟩=⟨a,b⟩ := by
 refine CC.quo hl (n := n) (by rw [hn,hll,hmm]) ?_ ?_
 ·rw [hX,hnx,hp,hq,hk,hm]; grind
 ·rw [hY,hny,hr,hs,hb,hm]; grind
theorem CC.cg_ad {a b c d : CC} (h : a=c) (k : b=d) : a.ad b=c.ad d := by rw [h,k]
theorem CC.cg_sb {a b c d : CC} (h : a=c) (k : b=d) : a.sb b=c.sb d := by rw [h,k]
theorem CC.cg_ml {a b c d : CC} (h : a=c) (k : b=d) : a.ml b=c.ml d := by rw [h,k]
theorem CC.cg_ng {a b : CC} (h : a=b) : a.ng=b.ng := by rw [h]
theorem CC.quo2 {W l m a b : CC} (h : W.ml l=a) (hl : l=m) (ha : a=b) : W.ml m=b := by rw [← hl,h,ha]
theorem tg_det {p q r s t X Y Z T : CC} (hp : p.ml t=X) (hq : q.ml t=Y) (hr : r.ml t=Z) (hs : s.ml t=T) (hd : (X.ml T).sb (Y.ml Z) ≠ .no) : (p.ml s).sb (q.ml r) ≠ .no := by
 intro h
 apply hd
 have h1 : (X.ml T).sb (Y.ml Z)=((p.ml s).sb (q.ml r)).ml (t.ml t) := by
  rw [← hp,← hq,← hr,← hs]; apply CC.ext'; simp only [CC.ml,CC.sb]; constructor <;> grind
 rw [h1,h,CC.no_ml]
theorem tg_aft {a b c d A B C D : CC} (h1 : (A.ml D).sb (B.ml C) ≠ .no) (h2 : (a.ml d).sb (b.ml c) ≠ .no) : (((A.ml a).ad (B.ml c)).ml ((C.ml b).ad (D.ml d))).sb (((A.ml b).ad (B.ml d)).ml ((C.ml a).ad (D.ml c))) ≠ .no := by
 have h : (((A.ml a).ad (B.ml c)).ml ((C.ml b).ad (D.ml d))).sb (((A.ml b).ad (B.ml d)).ml ((C.ml a).ad (D.ml c)))=((A.ml D).sb (B.ml C)).ml ((a.ml d).sb (b.ml c)) := by
  apply CC.ext'; simp only [CC.ml,CC.sb,CC.ad]; constructor <;> grind
 rw [h]; exact CC.ne_ml h1 h2
theorem tg_bak {A B C D : CC} (h1 : (A.ml D).sb (B.ml C) ≠ .no) : (D.ml A).sb (B.ng.ml C.ng) ≠ .no := by
 have h : (D.ml A).sb (B.ng.ml C.ng)=(A.ml D).sb (B.ml C) := by
  apply CC.ext'; simp only [CC.ml,CC.sb,CC.ng]; constructor <;> grind
 rw [h]; exact h1
theorem tg_fst {X Y Z T : CC} (hd : (X.ml T).sb (Y.ml Z) ≠ .no) (h : X=.no) : Y ≠ .no := by
 intro h2
 apply hd
 rw [h,h2,CC.no_ml,CC.no_ml]; apply CC.ext'; simp only [CC.sb,CC.no]; constructor <;> grind
theorem tg_bden {A B C D U W b3 b4 t : CC} (h3 : b3.ml t=C.ng) (h4 : b4.ml t=A) (hU : U.ml ((C.ml W).ad D)=(A.ml W).ad B) (hd : (A.ml D).sb (B.ml C) ≠ .no) : (b3.ml U).ad b4 ≠ .no := by
 intro h
 apply hd
 have h1 : (((b3.ml U).ad b4).ml t).ml ((C.ml W).ad D)=((b3.ml t).ml (U.ml ((C.ml W).ad D))).ad ((b4.ml t).ml ((C.ml W).ad D)) := by
  apply CC.ext'; simp only [CC.ml,CC.ad]; constructor <;> grind
 rw [h,CC.no_ml,CC.no_ml,h3,h4,hU] at h1
 rw [h1]
 apply CC.ext'; simp only [CC.ml,CC.ad,CC.ng,CC.sb]; constructor <;> grind
theorem tg_xw {A B C D U W b1 b2 b3 b4 t X : CC} (h1 : b1.ml t=D) (h2 : b2.ml t=B.ng) (h3 : b3.ml t=C.ng) (h4 : b4.ml t=A) (hU : U.ml ((C.ml W).ad D)=(A.ml W).ad B) (hd : (A.ml D).sb (B.ml C) ≠ .no) (hX : X.ml ((b3.ml U).ad b4)=(b1.ml U).ad b2) : X=W := by
 refine CC.cancel hd ?_
 have k1 : X.ml ((A.ml D).sb (B.ml C))=((X.ml ((b3.ml U).ad b4)).ml t).ml ((C.ml W).ad D) := by
  have q : ((X.ml ((b3.ml U).ad b4)).ml t).ml ((C.ml W).ad D)=X.ml (((b3.ml t).ml (U.ml ((C.ml W).ad D))).ad ((b4.ml t).ml ((C.ml W).ad D))) := by
   apply CC.ext'; simp only [CC.ml,CC.ad]; constructor <;> grind
  rw [q,h3,h4,hU]
  apply CC.ext'; simp only [CC.ml,CC.ad,CC.ng,CC.sb]; constructor <;> grind
 have k2 : (((b1.ml U).ad b2).ml t).ml ((C.ml W).ad D)=((b1.ml t).ml (U.ml ((C.ml W).ad D))).ad ((b2.ml t).ml ((C.ml W).ad D)) := by
  apply CC.ext'; simp only [CC.ml,CC.ad]; constructor <;> grind
 rw [k1,hX,k2,h1,h2,hU]
 apply CC.ext'; simp only [CC.ml,CC.ad,CC.ng,CC.sb]; constructor <;> grind
theorem tg_one {A B C D b1 b2 b3 b4 t : CC} (h1 : b1.ml t=D) (h2 : b2.ml t=B.ng) (h3 : b3.ml t=C.ng) (h4 : b4.ml t=A) (ht : t ≠ .no) (hd : (A.ml D).sb (B.ml C) ≠ .no) : (A.ml b1).ad (B.ml b3) ≠ .no∧(A.ml b2).ad (B.ml b4)=.no∧(C.ml b1).ad (D.ml b3)=.no∧(C.ml b2).ad (D.ml b4)=(A.ml b1).ad (B.ml b3) := by
 have g : ∀ x y u v : CC,((x.ml u).ad (y.ml v)).ml t=(x.ml (u.ml t)).ad (y.ml (v.ml t)) := by
  intro x y u v
  apply CC.ext'; simp only [CC.ml,CC.ad]; constructor <;> grind
 refine ⟨fun h => hd ?_,CC.cancel ht ?_,CC.cancel ht ?_,CC.cancel ht ?_⟩
 ·have q := g A B b1 b3
  rw [h,CC.no_ml,h1,h3] at q
  rw [q]
  apply CC.ext'; simp only [CC.ml,CC.ad,CC.ng,CC.sb]; constructor <;> grind
 ·rw [g,h2,h4,CC.no_ml]; apply CC.ext'; simp only [CC.ml,CC.ad,CC.ng,CC.no]; constructor <;> grind
 ·rw [g,h1,h3,CC.no_ml]; apply CC.ext'; simp only [CC.ml,CC.ad,CC.ng,CC.no]; constructor <;> grind
 ·rw [g,g,h1,h2,h3,h4]; apply CC.ext'; simp only [CC.ml,CC.ad,CC.ng]; constructor <;> grind
theorem CC.q_un {x p q : CC} (hp : p ≠ .no) (h : x.ml p=q) (e : q=p) : x=.un := by
 refine CC.cancel hp ?_
 rw [h,e]; apply CC.ext'; simp only [CC.ml,CC.un]; constructor <;> grind
theorem CC.q_no {x p q : CC} (hp : p ≠ .no) (h : x.ml p=q) (e : q=.no) : x=.no := by
 refine CC.cancel hp ?_
 rw [h,e,CC.no_ml]
theorem CC.sub0 {x y a b c d : Rat} (hx : x=a - c) (hy : y=b - d) (h : (⟨a,b⟩ : CC)=⟨c,d⟩) : x=0∧y=0 := by
 have h1 := congrArg CC.re h
 have h2 := congrArg CC.im h
 simp only at h1 h2
 rw [hx,hy,h1,h2]; constructor <;> grind
theorem tG_FB (H : tG_Q q σ) : (¬ (q 24=0∧q 25=0))→(q 6=0∧q 7=0)→((¬ (q 52=0∧q 20=0))) := by
 have e8:q 8=-q 7:=H 8 _ rfl;have e9:q 9=q 0*q 6:=H 9 _ rfl;have e10:q 10=q 1*q 8:=H 10 _ rfl;have e11:q 11=q 9+q 10:=H 11 _ rfl;have e12:q 12=-q 1:=H 12 _ rfl;have e13:q 13=q 0*q 7:=H 13 _ rfl;have e14:q 14=q 12*q 6:=H 14 _ rfl;have e15:q 15=q 13-q 14:=H 15 _ rfl;have e16:q 16=-q 5:=H 16 _ rfl;have e17:q 17=q 2*q 4:=H 17 _ rfl;have e18:q 18=q 3*q 16:=H 18 _ rfl;have e19:q 19=q 17+q 18:=H 19 _ rfl;have e20:q 20=-q 3:=H 20 _ rfl;have e21:q 21=q 2*q 5:=H 21 _ rfl;have e22:q 22=q 20*q 4:=H 22 _ rfl;have e23:q 23=q 21-q 22:=H 23 _ rfl;have e24:q 24=q 11-q 19:=H 24 _ rfl;have e25:q 25=q 15-q 23:=H 25 _ rfl;have e52:q 52=-q 2:=H 52 _ rfl
 intro u0 u1
 have hdm : (((⟨q 0,q 1⟩ : CC).ml (⟨q 6,q 7⟩ : CC)).sb ((⟨q 2,q 3⟩ : CC).ml (⟨q 4,q 5⟩ : CC))) ≠ .no := fun h => CC.ne u0 (((CC.mk_sb e24 e25).trans (CC.cg_sb (CC.mk_ml e11 e15 e9 e10 e13 e14 e8 e12) (CC.mk_ml e19 e23 e17 e18 e21 e22 e16 e20))).trans h)
 exact (fun h => tg_fst (tg_bak hdm) (CC.eq0 u1) ((CC.mk_ng e52 e20).symm.trans (CC.eq0 h)))
theorem tG_FA (H : tG_Q q σ) : (¬ (q 24=0∧q 25=0))→(¬ (q 50=0∧q 51=0))→(q 136=0∧q 137=0)→((¬ (q 150=0∧q 151=0))) := by
 have e8:q 8=-q 7:=H 8 _ rfl;have e9:q 9=q 0*q 6:=H 9 _ rfl;have e10:q 10=q 1*q 8:=H 10 _ rfl;have e11:q 11=q 9+q 10:=H 11 _ rfl;have e12:q 12=-q 1:=H 12 _ rfl;have e13:q 13=q 0*q 7:=H 13 _ rfl;have e14:q 14=q 12*q 6:=H 14 _ rfl;have e15:q 15=q 13-q 14:=H 15 _ rfl;have e16:q 16=-q 5:=H 16 _ rfl;have e17:q 17=q 2*q 4:=H 17 _ rfl;have e18:q 18=q 3*q 16:=H 18 _ rfl;have e19:q 19=q 17+q 18:=H 19 _ rfl;have e20:q 20=-q 3:=H 20 _ rfl;have e21:q 21=q 2*q 5:=H 21 _ rfl;have e22:q 22=q 20*q 4:=H 22 _ rfl;have e23:q 23=q 21-q 22:=H 23 _ rfl;have e24:q 24=q 11-q 19:=H 24 _ rfl;have e25:q 25=q 15-q 23:=H 25 _ rfl;have e34:q 34=-q 33:=H 34 _ rfl;have e35:q 35=q 26*q 32:=H 35 _ rfl;have e36:q 36=q 27*q 34:=H 36 _ rfl;have e37:q 37=q 35+q 36:=H 37 _ rfl;have e38:q 38=-q 27:=H 38 _ rfl;have e39:q 39=q 26*q 33:=H 39 _ rfl;have e40:q 40=q 38*q 32:=H 40 _ rfl;have e41:q 41=q 39-q 40:=H 41 _ rfl;have e42:q 42=-q 31:=H 42 _ rfl;have e43:q 43=q 28*q 30:=H 43 _ rfl;have e44:q 44=q 29*q 42:=H 44 _ rfl;have e45:q 45=q 43+q 44:=H 45 _ rfl;have e46:q 46=-q 29:=H 46 _ rfl;have e47:q 47=q 28*q 31:=H 47 _ rfl;have e48:q 48=q 46*q 30:=H 48 _ rfl;have e49:q 49=q 47-q 48:=H 49 _ rfl;have e50:q 50=q 37-q 45:=H 50 _ rfl;have e51:q 51=q 41-q 49:=H 51 _ rfl;have e124:q 124=q 0*q 26:=H 124 _ rfl;have e125:q 125=q 1*q 38:=H 125 _ rfl;have e126:q 126=q 124+q 125:=H 126 _ rfl;have e127:q 127=q 0*q 27:=H 127 _ rfl;have e128:q 128=q 12*q 26:=H 128 _ rfl;have e129:q 129=q 127-q 128:=H 129 _ rfl;have e130:q 130=q 2*q 30:=H 130 _ rfl;have e131:q 131=q 3*q 42:=H 131 _ rfl;have e132:q 132=q 130+q 131:=H 132 _ rfl;have e133:q 133=q 2*q 31:=H 133 _ rfl;have e134:q 134=q 20*q 30:=H 134 _ rfl;have e135:q 135=q 133-q 134:=H 135 _ rfl;have e136:q 136=q 126+q 132:=H 136 _ rfl;have e137:q 137=q 129+q 135:=H 137 _ rfl;have e138:q 138=q 0*q 28:=H 138 _ rfl;have e139:q 139=q 1*q 46:=H 139 _ rfl;have e140:q 140=q 138+q 139:=H 140 _ rfl;have e141:q 141=q 0*q 29:=H 141 _ rfl;have e142:q 142=q 12*q 28:=H 142 _ rfl;have e143:q 143=q 141-q 142:=H 143 _ rfl;have e144:q 144=q 2*q 32:=H 144 _ rfl;have e145:q 145=q 3*q 34:=H 145 _ rfl;have e146:q 146=q 144+q 145:=H 146 _ rfl;have e147:q 147=q 2*q 33:=H 147 _ rfl;have e148:q 148=q 20*q 32:=H 148 _ rfl;have e149:q 149=q 147-q 148:=H 149 _ rfl;have e150:q 150=q 140+q 146:=H 150 _ rfl;have e151:q 151=q 143+q 149:=H 151 _ rfl
 intro u0 u1 u2
 have hdm : (((⟨q 0,q 1⟩ : CC).ml (⟨q 6,q 7⟩ : CC)).sb ((⟨q 2,q 3⟩ : CC).ml (⟨q 4,q 5⟩ : CC))) ≠ .no := fun h => CC.ne u0 (((CC.mk_sb e24 e25).trans (CC.cg_sb (CC.mk_ml e11 e15 e9 e10 e13 e14 e8 e12) (CC.mk_ml e19 e23 e17 e18 e21 e22 e16 e20))).trans h)
 have hdn : (((⟨q 26,q 27⟩ : CC).ml (⟨q 32,q 33⟩ : CC)).sb ((⟨q 28,q 29⟩ : CC).ml (⟨q 30,q 31⟩ : CC))) ≠ .no := fun h => CC.ne u1 (((CC.mk_sb e50 e51).trans (CC.cg_sb (CC.mk_ml e37 e41 e35 e36 e39 e40 e34 e38) (CC.mk_ml e45 e49 e43 e44 e47 e48 e42 e46))).trans h)
 exact (fun h => tg_fst (tg_aft hdm hdn) (((CC.mk_ad e136 e137).trans (CC.cg_ad (CC.mk_ml e126 e129 e124 e125 e127 e128 e38 e12) (CC.mk_ml e132 e135 e130 e131 e133 e134 e42 e20))).symm.trans (CC.eq0 u2)) (((CC.mk_ad e150 e151).trans (CC.cg_ad (CC.mk_ml e140 e143 e138 e139 e141 e142 e46 e12) (CC.mk_ml e146 e149 e144 e145 e147 e148 e34 e20))).symm.trans (CC.eq0 h)))
theorem tG_B1 (H : tG_Q q σ) : (¬ (q 24=0∧q 25=0))→(q 6=0∧q 7=0)→((¬ (q 254=0∧q 255=0))∧(¬ (q 268=0∧q 269=0))∧(q 322=q 351)∧(q 323=q 352)∧(q 331=q 352)∧(q 332=q 352)∧(q 340=q 352)∧(q 341=q 352)∧(q 349=q 351)∧(q 350=q 352)) := by
 have e8:q 8=-q 7:=H 8 _ rfl;have e9:q 9=q 0*q 6:=H 9 _ rfl;have e10:q 10=q 1*q 8:=H 10 _ rfl;have e11:q 11=q 9+q 10:=H 11 _ rfl;have e12:q 12=-q 1:=H 12 _ rfl;have e13:q 13=q 0*q 7:=H 13 _ rfl;have e14:q 14=q 12*q 6:=H 14 _ rfl;have e15:q 15=q 13-q 14:=H 15 _ rfl;have e16:q 16=-q 5:=H 16 _ rfl;have e17:q 17=q 2*q 4:=H 17 _ rfl;have e18:q 18=q 3*q 16:=H 18 _ rfl;have e19:q 19=q 17+q 18:=H 19 _ rfl;have e20:q 20=-q 3:=H 20 _ rfl;have e21:q 21=q 2*q 5:=H 21 _ rfl;have e22:q 22=q 20*q 4:=H 22 _ rfl;have e23:q 23=q 21-q 22:=H 23 _ rfl;have e24:q 24=q 11-q 19:=H 24 _ rfl;have e25:q 25=q 15-q 23:=H 25 _ rfl;have e52:q 52=-q 2:=H 52 _ rfl;have e53:q 53=-q 4:=H 53 _ rfl;have e54:q 54=-q 20:=H 54 _ rfl;have e55:q 55=-q 54:=H 55 _ rfl;have e56:q 56=q 6*q 52:=H 56 _ rfl;have e57:q 57=q 7*q 55:=H 57 _ rfl;have e58:q 58=q 56+q 57:=H 58 _ rfl;have e59:q 59=q 6*q 54:=H 59 _ rfl;have e60:q 60=q 8*q 52:=H 60 _ rfl;have e61:q 61=q 59-q 60:=H 61 _ rfl;have e62:q 62=q 52*q 52:=H 62 _ rfl;have e63:q 63=q 20*q 20:=H 63 _ rfl;have e64:q 64=q 62+q 63:=H 64 _ rfl;have e65:q 65=q 58/q 64:=H 65 _ rfl;have e66:q 66=q 61/q 64:=H 66 _ rfl;have e67:q 67=q 20*q 55:=H 67 _ rfl;have e68:q 68=q 62+q 67:=H 68 _ rfl;have e69:q 69=q 52*q 54:=H 69 _ rfl;have e70:q 70=q 54*q 52:=H 70 _ rfl;have e71:q 71=q 69-q 70:=H 71 _ rfl;have e72:q 72=q 68/q 64:=H 72 _ rfl;have e73:q 73=q 71/q 64:=H 73 _ rfl;have e74:q 74=q 53*q 52:=H 74 _ rfl;have e75:q 75=q 16*q 55:=H 75 _ rfl;have e76:q 76=q 74+q 75:=H 76 _ rfl;have e77:q 77=-q 16:=H 77 _ rfl;have e78:q 78=q 53*q 54:=H 78 _ rfl;have e79:q 79=q 77*q 52:=H 79 _ rfl;have e80:q 80=q 78-q 79:=H 80 _ rfl;have e81:q 81=q 76/q 64:=H 81 _ rfl;have e82:q 82=q 80/q 64:=H 82 _ rfl;have e83:q 83=q 0*q 52:=H 83 _ rfl;have e84:q 84=q 1*q 55:=H 84 _ rfl;have e85:q 85=q 83+q 84:=H 85 _ rfl;have e86:q 86=q 0*q 54:=H 86 _ rfl;have e87:q 87=q 12*q 52:=H 87 _ rfl;have e88:q 88=q 86-q 87:=H 88 _ rfl;have e89:q 89=q 85/q 64:=H 89 _ rfl;have e90:q 90=q 88/q 64:=H 90 _ rfl;have e238:q 238=-q 90:=H 238 _ rfl;have e239:q 239=q 65*q 89:=H 239 _ rfl;have e240:q 240=q 66*q 238:=H 240 _ rfl;have e241:q 241=q 239+q 240:=H 241 _ rfl;have e242:q 242=-q 66:=H 242 _ rfl;have e243:q 243=q 65*q 90:=H 243 _ rfl;have e244:q 244=q 242*q 89:=H 244 _ rfl;have e245:q 245=q 243-q 244:=H 245 _ rfl;have e246:q 246=-q 82:=H 246 _ rfl;have e247:q 247=q 72*q 81:=H 247 _ rfl;have e248:q 248=q 73*q 246:=H 248 _ rfl;have e249:q 249=q 247+q 248:=H 249 _ rfl;have e250:q 250=-q 73:=H 250 _ rfl;have e251:q 251=q 72*q 82:=H 251 _ rfl;have e252:q 252=q 250*q 81:=H 252 _ rfl;have e253:q 253=q 251-q 252:=H 253 _ rfl;have e254:q 254=q 241-q 249:=H 254 _ rfl;have e255:q 255=q 245-q 253:=H 255 _ rfl;have e256:q 256=q 0*q 65:=H 256 _ rfl;have e257:q 257=q 1*q 242:=H 257 _ rfl;have e258:q 258=q 256+q 257:=H 258 _ rfl;have e259:q 259=q 0*q 66:=H 259 _ rfl;have e260:q 260=q 12*q 65:=H 260 _ rfl;have e261:q 261=q 259-q 260:=H 261 _ rfl;have e262:q 262=q 2*q 81:=H 262 _ rfl;have e263:q 263=q 3*q 246:=H 263 _ rfl;have e264:q 264=q 262+q 263:=H 264 _ rfl;have e265:q 265=q 2*q 82:=H 265 _ rfl;have e266:q 266=q 20*q 81:=H 266 _ rfl;have e267:q 267=q 265-q 266:=H 267 _ rfl;have e268:q 268=q 258+q 264:=H 268 _ rfl;have e269:q 269=q 261+q 267:=H 269 _ rfl;have e270:q 270=q 0*q 72:=H 270 _ rfl;have e271:q 271=q 1*q 250:=H 271 _ rfl;have e272:q 272=q 270+q 271:=H 272 _ rfl;have e273:q 273=q 0*q 73:=H 273 _ rfl;have e274:q 274=q 12*q 72:=H 274 _ rfl;have e275:q 275=q 273-q 274:=H 275 _ rfl;have e276:q 276=q 2*q 89:=H 276 _ rfl;have e277:q 277=q 3*q 238:=H 277 _ rfl;have e278:q 278=q 276+q 277:=H 278 _ rfl;have e279:q 279=q 2*q 90:=H 279 _ rfl;have e280:q 280=q 20*q 89:=H 280 _ rfl;have e281:q 281=q 279-q 280:=H 281 _ rfl;have e282:q 282=q 272+q 278:=H 282 _ rfl;have e283:q 283=q 275+q 281:=H 283 _ rfl;have e284:q 284=q 4*q 65:=H 284 _ rfl;have e285:q 285=q 5*q 242:=H 285 _ rfl;have e286:q 286=q 284+q 285:=H 286 _ rfl;have e287:q 287=q 4*q 66:=H 287 _ rfl;have e288:q 288=q 16*q 65:=H 288 _ rfl;have e289:q 289=q 287-q 288:=H 289 _ rfl;have e290:q 290=q 6*q 81:=H 290 _ rfl;have e291:q 291=q 7*q 246:=H 291 _ rfl;have e292:q 292=q 290+q 291:=H 292 _ rfl;have e293:q 293=q 6*q 82:=H 293 _ rfl;have e294:q 294=q 8*q 81:=H 294 _ rfl;have e295:q 295=q 293-q 294:=H 295 _ rfl;have e296:q 296=q 286+q 292:=H 296 _ rfl;have e297:q 297=q 289+q 295:=H 297 _ rfl;have e298:q 298=q 4*q 72:=H 298 _ rfl;have e299:q 299=q 5*q 250:=H 299 _ rfl;have e300:q 300=q 298+q 299:=H 300 _ rfl;have e301:q 301=q 4*q 73:=H 301 _ rfl;have e302:q 302=q 16*q 72:=H 302 _ rfl;have e303:q 303=q 301-q 302:=H 303 _ rfl;have e304:q 304=q 6*q 89:=H 304 _ rfl;have e305:q 305=q 7*q 238:=H 305 _ rfl;have e306:q 306=q 304+q 305:=H 306 _ rfl;have e307:q 307=q 6*q 90:=H 307 _ rfl;have e308:q 308=q 8*q 89:=H 308 _ rfl;have e309:q 309=q 307-q 308:=H 309 _ rfl;have e310:q 310=q 300+q 306:=H 310 _ rfl;have e311:q 311=q 303+q 309:=H 311 _ rfl;have e312:q 312=-q 269:=H 312 _ rfl;have e313:q 313=-q 312:=H 313 _ rfl;have e314:q 314=q 268*q 268:=H 314 _ rfl;have e315:q 315=q 269*q 313:=H 315 _ rfl;have e316:q 316=q 314+q 315:=H 316 _ rfl;have e317:q 317=q 268*q 312:=H 317 _ rfl;have e318:q 318=q 312*q 268:=H 318 _ rfl;have e319:q 319=q 317-q 318:=H 319 _ rfl;have e320:q 320=q 269*q 269:=H 320 _ rfl;have e321:q 321=q 314+q 320:=H 321 _ rfl;have e322:q 322=q 316/q 321:=H 322 _ rfl;have e323:q 323=q 319/q 321:=H 323 _ rfl;have e324:q 324=q 282*q 268:=H 324 _ rfl;have e325:q 325=q 283*q 313:=H 325 _ rfl;have e326:q 326=q 324+q 325:=H 326 _ rfl;have e327:q 327=-q 283:=H 327 _ rfl;have e328:q 328=q 282*q 312:=H 328 _ rfl;have e329:q 329=q 327*q 268:=H 329 _ rfl;have e330:q 330=q 328-q 329:=H 330 _ rfl;have e331:q 331=q 326/q 321:=H 331 _ rfl;have e332:q 332=q 330/q 321:=H 332 _ rfl;have e333:q 333=q 296*q 268:=H 333 _ rfl;have e334:q 334=q 297*q 313:=H 334 _ rfl;have e335:q 335=q 333+q 334:=H 335 _ rfl;have e336:q 336=-q 297:=H 336 _ rfl;have e337:q 337=q 296*q 312:=H 337 _ rfl;have e338:q 338=q 336*q 268:=H 338 _ rfl;have e339:q 339=q 337-q 338:=H 339 _ rfl;have e340:q 340=q 335/q 321:=H 340 _ rfl;have e341:q 341=q 339/q 321:=H 341 _ rfl;have e342:q 342=q 310*q 268:=H 342 _ rfl;have e343:q 343=q 311*q 313:=H 343 _ rfl;have e344:q 344=q 342+q 343:=H 344 _ rfl;have e345:q 345=-q 311:=H 345 _ rfl;have e346:q 346=q 310*q 312:=H 346 _ rfl;have e347:q 347=q 345*q 268:=H 347 _ rfl;have e348:q 348=q 346-q 347:=H 348 _ rfl;have e349:q 349=q 344/q 321:=H 349 _ rfl;have e350:q 350=q 348/q 321:=H 350 _ rfl;have e351:q 351=1:=(H 351 _ rfl).trans tG_c351;have e352:q 352=0:=(H 352 _ rfl).trans tG_c352
 intro u0 u1
 have hdm : (((⟨q 0,q 1⟩ : CC).ml (⟨q 6,q 7⟩ : CC)).sb ((⟨q 2,q 3⟩ : CC).ml (⟨q 4,q 5⟩ : CC))) ≠ .no := fun h => CC.ne u0 (((CC.mk_sb e24 e25).trans (CC.cg_sb (CC.mk_ml e11 e15 e9 e10 e13 e14 e8 e12) (CC.mk_ml e19 e23 e17 e18 e21 e22 e16 e20))).trans h)
 have nt : (⟨q 52,q 20⟩ : CC) ≠ .no := fun h => tg_fst (tg_bak hdm) (CC.eq0 u1) ((CC.mk_ng e52 e20).symm.trans h)
 have k1 := CC.quo2 (CC.mk_quo nt e65 e66 e58 e61 e56 e57 e55 e54 e59 e60 e8 e64 e62 e63) rfl rfl
 have k2 := CC.quo2 (CC.mk_quo nt e72 e73 e68 e71 e62 e67 e55 e54 e69 e70 e54 e64 e62 e63) rfl (CC.mk_ng e52 e20)
 have k3 := CC.quo2 (CC.mk_quo nt e81 e82 e76 e80 e74 e75 e55 e54 e78 e79 e77 e64 e62 e63) rfl (CC.mk_ng e53 e16)
 have k4 := CC.quo2 (CC.mk_quo nt e89 e90 e85 e88 e83 e84 e55 e54 e86 e87 e12 e64 e62 e63) rfl rfl
 have ⟨o1,o2,o3,o4⟩ := tg_one k1 k2 k3 k4 nt hdm
 have n1 : (⟨q 268,q 269⟩ : CC) ≠ .no := fun h => o1 (((CC.mk_ad e268 e269).trans (CC.cg_ad (CC.mk_ml e258 e261 e256 e257 e259 e260 e242 e12) (CC.mk_ml e264 e267 e262 e263 e265 e266 e246 e20))).symm.trans h)
 have v0 := CC.q_un n1 (CC.mk_quo n1 e322 e323 e316 e319 e314 e315 e313 e312 e317 e318 e312 e321 e314 e320) rfl
 have v1 := CC.q_no n1 (CC.mk_quo n1 e331 e332 e326 e330 e324 e325 e313 e312 e328 e329 e327 e321 e314 e320) (((CC.mk_ad e282 e283).trans (CC.cg_ad (CC.mk_ml e272 e275 e270 e271 e273 e274 e250 e12) (CC.mk_ml e278 e281 e276 e277 e279 e280 e238 e20))).trans o2)
 have v2 := CC.q_no n1 (CC.mk_quo n1 e340 e341 e335 e339 e333 e334 e313 e312 e337 e338 e336 e321 e314 e320) (((CC.mk_ad e296 e297).trans (CC.cg_ad (CC.mk_ml e286 e289 e284 e285 e287 e288 e242 e16) (CC.mk_ml e292 e295 e290 e291 e293 e294 e246 e8))).trans o3)
 have v3 := CC.q_un n1 (CC.mk_quo n1 e349 e350 e344 e348 e342 e343 e313 e312 e346 e347 e345 e321 e314 e320) (((CC.mk_ad e310 e311).trans (CC.cg_ad (CC.mk_ml e300 e303 e298 e299 e301 e302 e250 e16) (CC.mk_ml e306 e309 e304 e305 e307 e308 e238 e8))).trans (o4.trans ((CC.mk_ad e268 e269).trans (CC.cg_ad (CC.mk_ml e258 e261 e256 e257 e259 e260 e242 e12) (CC.mk_ml e264 e267 e262 e263 e265 e266 e246 e20))).symm))
 exact ⟨(fun h => tg_det k1 k2 k3 k4 (tg_bak hdm) (((CC.mk_sb e254 e255).trans (CC.cg_sb (CC.mk_ml e241 e245 e239 e240 e243 e244 e238 e242) (CC.mk_ml e249 e253 e247 e248 e251 e252 e246 e250))).symm.trans (CC.eq0 h))),(fun h => n1 (CC.eq0 h)),((congrArg CC.re v0).trans e351.symm),((congrArg CC.im v0).trans e352.symm),((congrArg CC.re v1).trans e352.symm),((congrArg CC.im v1).trans e352.symm),((congrArg CC.re v2).trans e352.symm),((congrArg CC.im v2).trans e352.symm),((congrArg CC.re v3).trans e351.symm),((congrArg CC.im v3).trans e352.symm)⟩
theorem tG_A1 (H : tG_Q q σ) : (¬ (q 24=0∧q 25=0))→(¬ (q 50=0∧q 51=0))→(q 136=0∧q 137=0)→(¬ (q 236=0∧q 237=0))→((¬ (q 400=0∧q 401=0))∧((q 382=0∧q 383=0)→q 416=0∧q 417=0)∧((¬ (q 382=0∧q 383=0))→¬ (q 416=0∧q 417=0))∧((¬ (q 382=0∧q 383=0))→q 430=q 444)∧((¬ (q 382=0∧q 383=0))→q 431=q 445)) := by
 have e8:q 8=-q 7:=H 8 _ rfl;have e9:q 9=q 0*q 6:=H 9 _ rfl;have e10:q 10=q 1*q 8:=H 10 _ rfl;have e11:q 11=q 9+q 10:=H 11 _ rfl;have e12:q 12=-q 1:=H 12 _ rfl;have e13:q 13=q 0*q 7:=H 13 _ rfl;have e14:q 14=q 12*q 6:=H 14 _ rfl;have e15:q 15=q 13-q 14:=H 15 _ rfl;have e16:q 16=-q 5:=H 16 _ rfl;have e17:q 17=q 2*q 4:=H 17 _ rfl;have e18:q 18=q 3*q 16:=H 18 _ rfl;have e19:q 19=q 17+q 18:=H 19 _ rfl;have e20:q 20=-q 3:=H 20 _ rfl;have e21:q 21=q 2*q 5:=H 21 _ rfl;have e22:q 22=q 20*q 4:=H 22 _ rfl;have e23:q 23=q 21-q 22:=H 23 _ rfl;have e24:q 24=q 11-q 19:=H 24 _ rfl;have e25:q 25=q 15-q 23:=H 25 _ rfl;have e34:q 34=-q 33:=H 34 _ rfl;have e35:q 35=q 26*q 32:=H 35 _ rfl;have e36:q 36=q 27*q 34:=H 36 _ rfl;have e37:q 37=q 35+q 36:=H 37 _ rfl;have e38:q 38=-q 27:=H 38 _ rfl;have e39:q 39=q 26*q 33:=H 39 _ rfl;have e40:q 40=q 38*q 32:=H 40 _ rfl;have e41:q 41=q 39-q 40:=H 41 _ rfl;have e42:q 42=-q 31:=H 42 _ rfl;have e43:q 43=q 28*q 30:=H 43 _ rfl;have e44:q 44=q 29*q 42:=H 44 _ rfl;have e45:q 45=q 43+q 44:=H 45 _ rfl;have e46:q 46=-q 29:=H 46 _ rfl;have e47:q 47=q 28*q 31:=H 47 _ rfl;have e48:q 48=q 46*q 30:=H 48 _ rfl;have e49:q 49=q 47-q 48:=H 49 _ rfl;have e50:q 50=q 37-q 45:=H 50 _ rfl;have e51:q 51=q 41-q 49:=H 51 _ rfl;have e124:q 124=q 0*q 26:=H 124 _ rfl;have e125:q 125=q 1*q 38:=H 125 _ rfl;have e126:q 126=q 124+q 125:=H 126 _ rfl;have e127:q 127=q 0*q 27:=H 127 _ rfl;have e128:q 128=q 12*q 26:=H 128 _ rfl;have e129:q 129=q 127-q 128:=H 129 _ rfl;have e130:q 130=q 2*q 30:=H 130 _ rfl;have e131:q 131=q 3*q 42:=H 131 _ rfl;have e132:q 132=q 130+q 131:=H 132 _ rfl;have e133:q 133=q 2*q 31:=H 133 _ rfl;have e134:q 134=q 20*q 30:=H 134 _ rfl;have e135:q 135=q 133-q 134:=H 135 _ rfl;have e136:q 136=q 126+q 132:=H 136 _ rfl;have e137:q 137=q 129+q 135:=H 137 _ rfl;have e138:q 138=q 0*q 28:=H 138 _ rfl;have e139:q 139=q 1*q 46:=H 139 _ rfl;have e140:q 140=q 138+q 139:=H 140 _ rfl;have e141:q 141=q 0*q 29:=H 141 _ rfl;have e142:q 142=q 12*q 28:=H 142 _ rfl;have e143:q 143=q 141-q 142:=H 143 _ rfl;have e144:q 144=q 2*q 32:=H 144 _ rfl;have e145:q 145=q 3*q 34:=H 145 _ rfl;have e146:q 146=q 144+q 145:=H 146 _ rfl;have e147:q 147=q 2*q 33:=H 147 _ rfl;have e148:q 148=q 20*q 32:=H 148 _ rfl;have e149:q 149=q 147-q 148:=H 149 _ rfl;have e150:q 150=q 140+q 146:=H 150 _ rfl;have e151:q 151=q 143+q 149:=H 151 _ rfl;have e152:q 152=q 4*q 26:=H 152 _ rfl;have e153:q 153=q 5*q 38:=H 153 _ rfl;have e154:q 154=q 152+q 153:=H 154 _ rfl;have e155:q 155=q 4*q 27:=H 155 _ rfl;have e156:q 156=q 16*q 26:=H 156 _ rfl;have e157:q 157=q 155-q 156:=H 157 _ rfl;have e158:q 158=q 6*q 30:=H 158 _ rfl;have e159:q 159=q 7*q 42:=H 159 _ rfl;have e160:q 160=q 158+q 159:=H 160 _ rfl;have e161:q 161=q 6*q 31:=H 161 _ rfl;have e162:q 162=q 8*q 30:=H 162 _ rfl;have e163:q 163=q 161-q 162:=H 163 _ rfl;have e164:q 164=q 154+q 160:=H 164 _ rfl;have e165:q 165=q 157+q 163:=H 165 _ rfl;have e166:q 166=q 4*q 28:=H 166 _ rfl;have e167:q 167=q 5*q 46:=H 167 _ rfl;have e168:q 168=q 166+q 167:=H 168 _ rfl;have e169:q 169=q 4*q 29:=H 169 _ rfl;have e170:q 170=q 16*q 28:=H 170 _ rfl;have e171:q 171=q 169-q 170:=H 171 _ rfl;have e172:q 172=q 6*q 32:=H 172 _ rfl;have e173:q 173=q 7*q 34:=H 173 _ rfl;have e174:q 174=q 172+q 173:=H 174 _ rfl;have e175:q 175=q 6*q 33:=H 175 _ rfl;have e176:q 176=q 8*q 32:=H 176 _ rfl;have e177:q 177=q 175-q 176:=H 177 _ rfl;have e178:q 178=q 168+q 174:=H 178 _ rfl;have e179:q 179=q 171+q 177:=H 179 _ rfl;have e180:q 180=-q 151:=H 180 _ rfl;have e181:q 181=-q 180:=H 181 _ rfl;have e182:q 182=q 136*q 150:=H 182 _ rfl;have e183:q 183=q 137*q 181:=H 183 _ rfl;have e184:q 184=q 182+q 183:=H 184 _ rfl;have e185:q 185=-q 137:=H 185 _ rfl;have e186:q 186=q 136*q 180:=H 186 _ rfl;have e187:q 187=q 185*q 150:=H 187 _ rfl;have e188:q 188=q 186-q 187:=H 188 _ rfl;have e189:q 189=q 150*q 150:=H 189 _ rfl;have e190:q 190=q 151*q 151:=H 190 _ rfl;have e191:q 191=q 189+q 190:=H 191 _ rfl;have e192:q 192=q 184/q 191:=H 192 _ rfl;have e193:q 193=q 188/q 191:=H 193 _ rfl;have e194:q 194=q 151*q 181:=H 194 _ rfl;have e195:q 195=q 189+q 194:=H 195 _ rfl;have e196:q 196=q 150*q 180:=H 196 _ rfl;have e197:q 197=q 180*q 150:=H 197 _ rfl;have e198:q 198=q 196-q 197:=H 198 _ rfl;have e199:q 199=q 195/q 191:=H 199 _ rfl;have e200:q 200=q 198/q 191:=H 200 _ rfl;have e201:q 201=q 164*q 150:=H 201 _ rfl;have e202:q 202=q 165*q 181:=H 202 _ rfl;have e203:q 203=q 201+q 202:=H 203 _ rfl;have e204:q 204=-q 165:=H 204 _ rfl;have e205:q 205=q 164*q 180:=H 205 _ rfl;have e206:q 206=q 204*q 150:=H 206 _ rfl;have e207:q 207=q 205-q 206:=H 207 _ rfl;have e208:q 208=q 203/q 191:=H 208 _ rfl;have e209:q 209=q 207/q 191:=H 209 _ rfl;have e210:q 210=q 178*q 150:=H 210 _ rfl;have e211:q 211=q 179*q 181:=H 211 _ rfl;have e212:q 212=q 210+q 211:=H 212 _ rfl;have e213:q 213=-q 179:=H 213 _ rfl;have e214:q 214=q 178*q 180:=H 214 _ rfl;have e215:q 215=q 213*q 150:=H 215 _ rfl;have e216:q 216=q 214-q 215:=H 216 _ rfl;have e217:q 217=q 212/q 191:=H 217 _ rfl;have e218:q 218=q 216/q 191:=H 218 _ rfl;have e221:q 221=-q 220:=H 221 _ rfl;have e222:q 222=q 26*q 219:=H 222 _ rfl;have e223:q 223=q 27*q 221:=H 223 _ rfl;have e224:q 224=q 222+q 223:=H 224 _ rfl;have e225:q 225=q 26*q 220:=H 225 _ rfl;have e226:q 226=q 38*q 219:=H 226 _ rfl;have e227:q 227=q 225-q 226:=H 227 _ rfl;have e228:q 228=q 224+q 28:=H 228 _ rfl;have e229:q 229=q 227+q 29:=H 229 _ rfl;have e230:q 230=q 30*q 219:=H 230 _ rfl;have e231:q 231=q 31*q 221:=H 231 _ rfl;have e232:q 232=q 230+q 231:=H 232 _ rfl;have e233:q 233=q 30*q 220:=H 233 _ rfl;have e234:q 234=q 42*q 219:=H 234 _ rfl;have e235:q 235=q 233-q 234:=H 235 _ rfl;have e236:q 236=q 232+q 32:=H 236 _ rfl;have e237:q 237=q 235+q 33:=H 237 _ rfl;have e353:q 353=-q 237:=H 353 _ rfl;have e354:q 354=-q 353:=H 354 _ rfl;have e355:q 355=q 228*q 236:=H 355 _ rfl;have e356:q 356=q 229*q 354:=H 356 _ rfl;have e357:q 357=q 355+q 356:=H 357 _ rfl;have e358:q 358=-q 229:=H 358 _ rfl;have e359:q 359=q 228*q 353:=H 359 _ rfl;have e360:q 360=q 358*q 236:=H 360 _ rfl;have e361:q 361=q 359-q 360:=H 361 _ rfl;have e362:q 362=q 236*q 236:=H 362 _ rfl;have e363:q 363=q 237*q 237:=H 363 _ rfl;have e364:q 364=q 362+q 363:=H 364 _ rfl;have e365:q 365=q 357/q 364:=H 365 _ rfl;have e366:q 366=q 361/q 364:=H 366 _ rfl;have e367:q 367=-q 366:=H 367 _ rfl;have e368:q 368=q 0*q 365:=H 368 _ rfl;have e369:q 369=q 1*q 367:=H 369 _ rfl;have e370:q 370=q 368+q 369:=H 370 _ rfl;have e371:q 371=q 0*q 366:=H 371 _ rfl;have e372:q 372=q 12*q 365:=H 372 _ rfl;have e373:q 373=q 371-q 372:=H 373 _ rfl;have e374:q 374=q 370+q 2:=H 374 _ rfl;have e375:q 375=q 373+q 3:=H 375 _ rfl;have e376:q 376=q 4*q 365:=H 376 _ rfl;have e377:q 377=q 5*q 367:=H 377 _ rfl;have e378:q 378=q 376+q 377:=H 378 _ rfl;have e379:q 379=q 4*q 366:=H 379 _ rfl;have e380:q 380=q 16*q 365:=H 380 _ rfl;have e381:q 381=q 379-q 380:=H 381 _ rfl;have e382:q 382=q 378+q 6:=H 382 _ rfl;have e383:q 383=q 381+q 7:=H 383 _ rfl;have e384:q 384=-q 218:=H 384 _ rfl;have e385:q 385=q 192*q 217:=H 385 _ rfl;have e386:q 386=q 193*q 384:=H 386 _ rfl;have e387:q 387=q 385+q 386:=H 387 _ rfl;have e388:q 388=-q 193:=H 388 _ rfl;have e389:q 389=q 192*q 218:=H 389 _ rfl;have e390:q 390=q 388*q 217:=H 390 _ rfl;have e391:q 391=q 389-q 390:=H 391 _ rfl;have e392:q 392=-q 209:=H 392 _ rfl;have e393:q 393=q 199*q 208:=H 393 _ rfl;have e394:q 394=q 200*q 392:=H 394 _ rfl;have e395:q 395=q 393+q 394:=H 395 _ rfl;have e396:q 396=-q 200:=H 396 _ rfl;have e397:q 397=q 199*q 209:=H 397 _ rfl;have e398:q 398=q 396*q 208:=H 398 _ rfl;have e399:q 399=q 397-q 398:=H 399 _ rfl;have e400:q 400=q 387-q 395:=H 400 _ rfl;have e401:q 401=q 391-q 399:=H 401 _ rfl;have e402:q 402=q 192*q 219:=H 402 _ rfl;have e403:q 403=q 193*q 221:=H 403 _ rfl;have e404:q 404=q 402+q 403:=H 404 _ rfl;have e405:q 405=q 192*q 220:=H 405 _ rfl;have e406:q 406=q 388*q 219:=H 406 _ rfl;have e407:q 407=q 405-q 406:=H 407 _ rfl;have e408:q 408=q 404+q 199:=H 408 _ rfl;have e409:q 409=q 407+q 200:=H 409 _ rfl;have e410:q 410=q 208*q 219:=H 410 _ rfl;have e411:q 411=q 209*q 221:=H 411 _ rfl;have e412:q 412=q 410+q 411:=H 412 _ rfl;have e413:q 413=q 208*q 220:=H 413 _ rfl;have e414:q 414=q 392*q 219:=H 414 _ rfl;have e415:q 415=q 413-q 414:=H 415 _ rfl;have e416:q 416=q 412+q 217:=H 416 _ rfl;have e417:q 417=q 415+q 218:=H 417 _ rfl;have e418:q 418=-q 383:=H 418 _ rfl;have e419:q 419=-q 418:=H 419 _ rfl;have e420:q 420=q 374*q 382:=H 420 _ rfl;have e421:q 421=q 375*q 419:=H 421 _ rfl;have e422:q 422=q 420+q 421:=H 422 _ rfl;have e423:q 423=-q 375:=H 423 _ rfl;have e424:q 424=q 374*q 418:=H 424 _ rfl;have e425:q 425=q 423*q 382:=H 425 _ rfl;have e426:q 426=q 424-q 425:=H 426 _ rfl;have e427:q 427=q 382*q 382:=H 427 _ rfl;have e428:q 428=q 383*q 383:=H 428 _ rfl;have e429:q 429=q 427+q 428:=H 429 _ rfl;have e430:q 430=q 422/q 429:=H 430 _ rfl;have e431:q 431=q 426/q 429:=H 431 _ rfl;have e432:q 432=-q 417:=H 432 _ rfl;have e433:q 433=-q 432:=H 433 _ rfl;have e434:q 434=q 408*q 416:=H 434 _ rfl;have e435:q 435=q 409*q 433:=H 435 _ rfl;have e436:q 436=q 434+q 435:=H 436 _ rfl;have e437:q 437=-q 409:=H 437 _ rfl;have e438:q 438=q 408*q 432:=H 438 _ rfl;have e439:q 439=q 437*q 416:=H 439 _ rfl;have e440:q 440=q 438-q 439:=H 440 _ rfl;have e441:q 441=q 416*q 416:=H 441 _ rfl;have e442:q 442=q 417*q 417:=H 442 _ rfl;have e443:q 443=q 441+q 442:=H 443 _ rfl;have e444:q 444=q 436/q 443:=H 444 _ rfl;have e445:q 445=q 440/q 443:=H 445 _ rfl
 clear H
 intro u0 u1 u2 u3
 have hdm : (((⟨q 0,q 1⟩ : CC).ml (⟨q 6,q 7⟩ : CC)).sb ((⟨q 2,q 3⟩ : CC).ml (⟨q 4,q 5⟩ : CC))) ≠ .no := fun h => CC.ne u0 (((CC.mk_sb e24 e25).trans (CC.cg_sb (CC.mk_ml e11 e15 e9 e10 e13 e14 e8 e12) (CC.mk_ml e19 e23 e17 e18 e21 e22 e16 e20))).trans h)
 have hdn : (((⟨q 26,q 27⟩ : CC).ml (⟨q 32,q 33⟩ : CC)).sb ((⟨q 28,q 29⟩ : CC).ml (⟨q 30,q 31⟩ : CC))) ≠ .no := fun h => CC.ne u1 (((CC.mk_sb e50 e51).trans (CC.cg_sb (CC.mk_ml e37 e41 e35 e36 e39 e40 e34 e38) (CC.mk_ml e45 e49 e43 e44 e47 e48 e42 e46))).trans h)
 have hk : ((⟨q 30,q 31⟩ : CC).ml (⟨q 219,q 220⟩ : CC)).ad (⟨q 32,q 33⟩ : CC) ≠ .no := fun h => CC.ne u3 (((CC.mk_ad e236 e237).trans (CC.cg_ad (CC.mk_ml e232 e235 e230 e231 e233 e234 e221 e42) rfl)).trans h)
 have hW := (CC.quo2 (CC.mk_quo (CC.ne u3) e365 e366 e357 e361 e355 e356 e354 e353 e359 e360 e358 e364 e362 e363) ((CC.mk_ad e236 e237).trans (CC.cg_ad (CC.mk_ml e232 e235 e230 e231 e233 e234 e221 e42) rfl)) ((CC.mk_ad e228 e229).trans (CC.cg_ad (CC.mk_ml e224 e227 e222 e223 e225 e226 e221 e38) rfl)))
 have nt : (⟨q 150,q 151⟩ : CC) ≠ .no := fun h => tg_fst (tg_aft hdm hdn) (((CC.mk_ad e136 e137).trans (CC.cg_ad (CC.mk_ml e126 e129 e124 e125 e127 e128 e38 e12) (CC.mk_ml e132 e135 e130 e131 e133 e134 e42 e20))).symm.trans (CC.eq0 u2)) (((CC.mk_ad e150 e151).trans (CC.cg_ad (CC.mk_ml e140 e143 e138 e139 e141 e142 e46 e12) (CC.mk_ml e146 e149 e144 e145 e147 e148 e34 e20))).symm.trans h)
 have hp := CC.quo2 (CC.mk_quo nt e192 e193 e184 e188 e182 e183 e181 e180 e186 e187 e185 e191 e189 e190) rfl ((CC.mk_ad e136 e137).trans (CC.cg_ad (CC.mk_ml e126 e129 e124 e125 e127 e128 e38 e12) (CC.mk_ml e132 e135 e130 e131 e133 e134 e42 e20)))
 have h_q := CC.quo2 (CC.mk_quo nt e199 e200 e195 e198 e189 e194 e181 e180 e196 e197 e180 e191 e189 e190) rfl ((CC.mk_ad e150 e151).trans (CC.cg_ad (CC.mk_ml e140 e143 e138 e139 e141 e142 e46 e12) (CC.mk_ml e146 e149 e144 e145 e147 e148 e34 e20)))
 have hr := CC.quo2 (CC.mk_quo nt e208 e209 e203 e207 e201 e202 e181 e180 e205 e206 e204 e191 e189 e190) rfl ((CC.mk_ad e164 e165).trans (CC.cg_ad (CC.mk_ml e154 e157 e152 e153 e155 e156 e38 e16) (CC.mk_ml e160 e163 e158 e159 e161 e162 e42 e8)))
 have hs := CC.quo2 (CC.mk_quo nt e217 e218 e212 e216 e210 e211 e181 e180 e214 e215 e213 e191 e189 e190) rfl ((CC.mk_ad e178 e179).trans (CC.cg_ad (CC.mk_ml e168 e171 e166 e167 e169 e170 e46 e16) (CC.mk_ml e174 e177 e172 e173 e175 e176 e34 e8)))
 have hX := tg_den hp h_q hW
 have hY := tg_den hr hs hW
 have nd : ¬ (q 382=0∧q 383=0)→¬ (q 416=0∧q 417=0) := fun uw h => uw (CC.no_iff.1 (((CC.mk_ad e382 e383).trans (CC.cg_ad (CC.mk_ml e378 e381 e376 e377 e379 e380 e367 e16) rfl)).trans ((tg_yq hY nt hk).1 (((CC.mk_ad e416 e417).trans (CC.cg_ad (CC.mk_ml e412 e415 e410 e411 e413 e414 e221 e392) rfl)).symm.trans (CC.eq0 h)))))
 have huv : ¬ (q 382=0∧q 383=0)→(⟨q 430,q 431⟩ : CC)=(⟨q 444,q 445⟩ : CC) := fun uw => tg_uv hX hY (CC.quo2 (CC.mk_quo (CC.ne uw) e430 e431 e422 e426 e420 e421 e419 e418 e424 e425 e423 e429 e427 e428) ((CC.mk_ad e382 e383).trans (CC.cg_ad (CC.mk_ml e378 e381 e376 e377 e379 e380 e367 e16) rfl)) ((CC.mk_ad e374 e375).trans (CC.cg_ad (CC.mk_ml e370 e373 e368 e369 e371 e372 e367 e12) rfl))) (CC.quo2 (CC.mk_quo (CC.ne (nd uw)) e444 e445 e436 e440 e434 e435 e433 e432 e438 e439 e437 e443 e441 e442) ((CC.mk_ad e416 e417).trans (CC.cg_ad (CC.mk_ml e412 e415 e410 e411 e413 e414 e221 e392) rfl)) ((CC.mk_ad e408 e409).trans (CC.cg_ad (CC.mk_ml e404 e407 e402 e403 e405 e406 e221 e388) rfl))) hk (fun h => CC.ne uw (((CC.mk_ad e382 e383).trans (CC.cg_ad (CC.mk_ml e378 e381 e376 e377 e379 e380 e367 e16) rfl)).trans h))
 exact ⟨(fun h => tg_det hp h_q hr hs (tg_aft hdm hdn) (((CC.mk_sb e400 e401).trans (CC.cg_sb (CC.mk_ml e387 e391 e385 e386 e389 e390 e384 e388) (CC.mk_ml e395 e399 e393 e394 e397 e398 e392 e396))).symm.trans (CC.eq0 h))),(fun hw => CC.no_iff.1 (((CC.mk_ad e416 e417).trans (CC.cg_ad (CC.mk_ml e412 e415 e410 e411 e413 e414 e221 e392) rfl)).trans ((tg_yq hY nt hk).2 (((CC.mk_ad e382 e383).trans (CC.cg_ad (CC.mk_ml e378 e381 e376 e377 e379 e380 e367 e16) rfl)).symm.trans (CC.eq0 hw))))),nd,(fun uw => congrArg CC.re (huv uw)),(fun uw => congrArg CC.im (huv uw))⟩
theorem tG_X1 (H : tG_Q q σ) : (¬ (q 24=0∧q 25=0))→(q 6=0∧q 7=0)→(¬ (q 236=0∧q 237=0))→(¬ (q 382=0∧q 383=0))→((¬ (q 461=0∧q 462=0))∧(q 477=0∧q 478=0)) := by
 have e8:q 8=-q 7:=H 8 _ rfl;have e9:q 9=q 0*q 6:=H 9 _ rfl;have e10:q 10=q 1*q 8:=H 10 _ rfl;have e11:q 11=q 9+q 10:=H 11 _ rfl;have e12:q 12=-q 1:=H 12 _ rfl;have e13:q 13=q 0*q 7:=H 13 _ rfl;have e14:q 14=q 12*q 6:=H 14 _ rfl;have e15:q 15=q 13-q 14:=H 15 _ rfl;have e16:q 16=-q 5:=H 16 _ rfl;have e17:q 17=q 2*q 4:=H 17 _ rfl;have e18:q 18=q 3*q 16:=H 18 _ rfl;have e19:q 19=q 17+q 18:=H 19 _ rfl;have e20:q 20=-q 3:=H 20 _ rfl;have e21:q 21=q 2*q 5:=H 21 _ rfl;have e22:q 22=q 20*q 4:=H 22 _ rfl;have e23:q 23=q 21-q 22:=H 23 _ rfl;have e24:q 24=q 11-q 19:=H 24 _ rfl;have e25:q 25=q 15-q 23:=H 25 _ rfl;have e38:q 38=-q 27:=H 38 _ rfl;have e42:q 42=-q 31:=H 42 _ rfl;have e52:q 52=-q 2:=H 52 _ rfl;have e53:q 53=-q 4:=H 53 _ rfl;have e54:q 54=-q 20:=H 54 _ rfl;have e55:q 55=-q 54:=H 55 _ rfl;have e56:q 56=q 6*q 52:=H 56 _ rfl;have e57:q 57=q 7*q 55:=H 57 _ rfl;have e58:q 58=q 56+q 57:=H 58 _ rfl;have e59:q 59=q 6*q 54:=H 59 _ rfl;have e60:q 60=q 8*q 52:=H 60 _ rfl;have e61:q 61=q 59-q 60:=H 61 _ rfl;have e62:q 62=q 52*q 52:=H 62 _ rfl;have e63:q 63=q 20*q 20:=H 63 _ rfl;have e64:q 64=q 62+q 63:=H 64 _ rfl;have e65:q 65=q 58/q 64:=H 65 _ rfl;have e66:q 66=q 61/q 64:=H 66 _ rfl;have e67:q 67=q 20*q 55:=H 67 _ rfl;have e68:q 68=q 62+q 67:=H 68 _ rfl;have e69:q 69=q 52*q 54:=H 69 _ rfl;have e70:q 70=q 54*q 52:=H 70 _ rfl;have e71:q 71=q 69-q 70:=H 71 _ rfl;have e72:q 72=q 68/q 64:=H 72 _ rfl;have e73:q 73=q 71/q 64:=H 73 _ rfl;have e74:q 74=q 53*q 52:=H 74 _ rfl;have e75:q 75=q 16*q 55:=H 75 _ rfl;have e76:q 76=q 74+q 75:=H 76 _ rfl;have e77:q 77=-q 16:=H 77 _ rfl;have e78:q 78=q 53*q 54:=H 78 _ rfl;have e79:q 79=q 77*q 52:=H 79 _ rfl;have e80:q 80=q 78-q 79:=H 80 _ rfl;have e81:q 81=q 76/q 64:=H 81 _ rfl;have e82:q 82=q 80/q 64:=H 82 _ rfl;have e83:q 83=q 0*q 52:=H 83 _ rfl;have e84:q 84=q 1*q 55:=H 84 _ rfl;have e85:q 85=q 83+q 84:=H 85 _ rfl;have e86:q 86=q 0*q 54:=H 86 _ rfl;have e87:q 87=q 12*q 52:=H 87 _ rfl;have e88:q 88=q 86-q 87:=H 88 _ rfl;have e89:q 89=q 85/q 64:=H 89 _ rfl;have e90:q 90=q 88/q 64:=H 90 _ rfl;have e221:q 221=-q 220:=H 221 _ rfl;have e222:q 222=q 26*q 219:=H 222 _ rfl;have e223:q 223=q 27*q 221:=H 223 _ rfl;have e224:q 224=q 222+q 223:=H 224 _ rfl;have e225:q 225=q 26*q 220:=H 225 _ rfl;have e226:q 226=q 38*q 219:=H 226 _ rfl;have e227:q 227=q 225-q 226:=H 227 _ rfl;have e228:q 228=q 224+q 28:=H 228 _ rfl;have e229:q 229=q 227+q 29:=H 229 _ rfl;have e230:q 230=q 30*q 219:=H 230 _ rfl;have e231:q 231=q 31*q 221:=H 231 _ rfl;have e232:q 232=q 230+q 231:=H 232 _ rfl;have e233:q 233=q 30*q 220:=H 233 _ rfl;have e234:q 234=q 42*q 219:=H 234 _ rfl;have e235:q 235=q 233-q 234:=H 235 _ rfl;have e236:q 236=q 232+q 32:=H 236 _ rfl;have e237:q 237=q 235+q 33:=H 237 _ rfl;have e242:q 242=-q 66:=H 242 _ rfl;have e246:q 246=-q 82:=H 246 _ rfl;have e353:q 353=-q 237:=H 353 _ rfl;have e354:q 354=-q 353:=H 354 _ rfl;have e355:q 355=q 228*q 236:=H 355 _ rfl;have e356:q 356=q 229*q 354:=H 356 _ rfl;have e357:q 357=q 355+q 356:=H 357 _ rfl;have e358:q 358=-q 229:=H 358 _ rfl;have e359:q 359=q 228*q 353:=H 359 _ rfl;have e360:q 360=q 358*q 236:=H 360 _ rfl;have e361:q 361=q 359-q 360:=H 361 _ rfl;have e362:q 362=q 236*q 236:=H 362 _ rfl;have e363:q 363=q 237*q 237:=H 363 _ rfl;have e364:q 364=q 362+q 363:=H 364 _ rfl;have e365:q 365=q 357/q 364:=H 365 _ rfl;have e366:q 366=q 361/q 364:=H 366 _ rfl;have e367:q 367=-q 366:=H 367 _ rfl;have e368:q 368=q 0*q 365:=H 368 _ rfl;have e369:q 369=q 1*q 367:=H 369 _ rfl;have e370:q 370=q 368+q 369:=H 370 _ rfl;have e371:q 371=q 0*q 366:=H 371 _ rfl;have e372:q 372=q 12*q 365:=H 372 _ rfl;have e373:q 373=q 371-q 372:=H 373 _ rfl;have e374:q 374=q 370+q 2:=H 374 _ rfl;have e375:q 375=q 373+q 3:=H 375 _ rfl;have e376:q 376=q 4*q 365:=H 376 _ rfl;have e377:q 377=q 5*q 367:=H 377 _ rfl;have e378:q 378=q 376+q 377:=H 378 _ rfl;have e379:q 379=q 4*q 366:=H 379 _ rfl;have e380:q 380=q 16*q 365:=H 380 _ rfl;have e381:q 381=q 379-q 380:=H 381 _ rfl;have e382:q 382=q 378+q 6:=H 382 _ rfl;have e383:q 383=q 381+q 7:=H 383 _ rfl;have e418:q 418=-q 383:=H 418 _ rfl;have e419:q 419=-q 418:=H 419 _ rfl;have e420:q 420=q 374*q 382:=H 420 _ rfl;have e421:q 421=q 375*q 419:=H 421 _ rfl;have e422:q 422=q 420+q 421:=H 422 _ rfl;have e423:q 423=-q 375:=H 423 _ rfl;have e424:q 424=q 374*q 418:=H 424 _ rfl;have e425:q 425=q 423*q 382:=H 425 _ rfl;have e426:q 426=q 424-q 425:=H 426 _ rfl;have e427:q 427=q 382*q 382:=H 427 _ rfl;have e428:q 428=q 383*q 383:=H 428 _ rfl;have e429:q 429=q 427+q 428:=H 429 _ rfl;have e430:q 430=q 422/q 429:=H 430 _ rfl;have e431:q 431=q 426/q 429:=H 431 _ rfl;have e446:q 446=-q 431:=H 446 _ rfl;have e447:q 447=q 65*q 430:=H 447 _ rfl;have e448:q 448=q 66*q 446:=H 448 _ rfl;have e449:q 449=q 447+q 448:=H 449 _ rfl;have e450:q 450=q 65*q 431:=H 450 _ rfl;have e451:q 451=q 242*q 430:=H 451 _ rfl;have e452:q 452=q 450-q 451:=H 452 _ rfl;have e453:q 453=q 449+q 72:=H 453 _ rfl;have e454:q 454=q 452+q 73:=H 454 _ rfl;have e455:q 455=q 81*q 430:=H 455 _ rfl;have e456:q 456=q 82*q 446:=H 456 _ rfl;have e457:q 457=q 455+q 456:=H 457 _ rfl;have e458:q 458=q 81*q 431:=H 458 _ rfl;have e459:q 459=q 246*q 430:=H 459 _ rfl;have e460:q 460=q 458-q 459:=H 460 _ rfl;have e461:q 461=q 457+q 89:=H 461 _ rfl;have e462:q 462=q 460+q 90:=H 462 _ rfl;have e463:q 463=-q 462:=H 463 _ rfl;have e464:q 464=-q 463:=H 464 _ rfl;have e465:q 465=q 453*q 461:=H 465 _ rfl;have e466:q 466=q 454*q 464:=H 466 _ rfl;have e467:q 467=q 465+q 466:=H 467 _ rfl;have e468:q 468=-q 454:=H 468 _ rfl;have e469:q 469=q 453*q 463:=H 469 _ rfl;have e470:q 470=q 468*q 461:=H 470 _ rfl;have e471:q 471=q 469-q 470:=H 471 _ rfl;have e472:q 472=q 461*q 461:=H 472 _ rfl;have e473:q 473=q 462*q 462:=H 473 _ rfl;have e474:q 474=q 472+q 473:=H 474 _ rfl;have e475:q 475=q 467/q 474:=H 475 _ rfl;have e476:q 476=q 471/q 474:=H 476 _ rfl;have e477:q 477=q 475-q 365:=H 477 _ rfl;have e478:q 478=q 476-q 366:=H 478 _ rfl
 intro u0 u1 u2 u3
 have hdm : (((⟨q 0,q 1⟩ : CC).ml (⟨q 6,q 7⟩ : CC)).sb ((⟨q 2,q 3⟩ : CC).ml (⟨q 4,q 5⟩ : CC))) ≠ .no := fun h => CC.ne u0 (((CC.mk_sb e24 e25).trans (CC.cg_sb (CC.mk_ml e11 e15 e9 e10 e13 e14 e8 e12) (CC.mk_ml e19 e23 e17 e18 e21 e22 e16 e20))).trans h)
 have hk : ((⟨q 30,q 31⟩ : CC).ml (⟨q 219,q 220⟩ : CC)).ad (⟨q 32,q 33⟩ : CC) ≠ .no := fun h => CC.ne u2 (((CC.mk_ad e236 e237).trans (CC.cg_ad (CC.mk_ml e232 e235 e230 e231 e233 e234 e221 e42) rfl)).trans h)
 have hW := (CC.quo2 (CC.mk_quo (CC.ne u2) e365 e366 e357 e361 e355 e356 e354 e353 e359 e360 e358 e364 e362 e363) ((CC.mk_ad e236 e237).trans (CC.cg_ad (CC.mk_ml e232 e235 e230 e231 e233 e234 e221 e42) rfl)) ((CC.mk_ad e228 e229).trans (CC.cg_ad (CC.mk_ml e224 e227 e222 e223 e225 e226 e221 e38) rfl)))
 have nt : (⟨q 52,q 20⟩ : CC) ≠ .no := fun h => tg_fst (tg_bak hdm) (CC.eq0 u1) ((CC.mk_ng e52 e20).symm.trans h)
 have k1 := CC.quo2 (CC.mk_quo nt e65 e66 e58 e61 e56 e57 e55 e54 e59 e60 e8 e64 e62 e63) rfl rfl
 have k2 := CC.quo2 (CC.mk_quo nt e72 e73 e68 e71 e62 e67 e55 e54 e69 e70 e54 e64 e62 e63) rfl (CC.mk_ng e52 e20)
 have k3 := CC.quo2 (CC.mk_quo nt e81 e82 e76 e80 e74 e75 e55 e54 e78 e79 e77 e64 e62 e63) rfl (CC.mk_ng e53 e16)
 have k4 := CC.quo2 (CC.mk_quo nt e89 e90 e85 e88 e83 e84 e55 e54 e86 e87 e12 e64 e62 e63) rfl rfl
 have hU := (CC.quo2 (CC.mk_quo (CC.ne u3) e430 e431 e422 e426 e420 e421 e419 e418 e424 e425 e423 e429 e427 e428) ((CC.mk_ad e382 e383).trans (CC.cg_ad (CC.mk_ml e378 e381 e376 e377 e379 e380 e367 e16) rfl)) ((CC.mk_ad e374 e375).trans (CC.cg_ad (CC.mk_ml e370 e373 e368 e369 e371 e372 e367 e12) rfl)))
 have nd : (⟨q 461,q 462⟩ : CC) ≠ .no := fun h => tg_bden k3 k4 hU hdm (((CC.mk_ad e461 e462).trans (CC.cg_ad (CC.mk_ml e457 e460 e455 e456 e458 e459 e446 e246) rfl)).symm.trans h)
 have hX := tg_xw k1 k2 k3 k4 hU hdm (CC.quo2 (CC.mk_quo nd e475 e476 e467 e471 e465 e466 e464 e463 e469 e470 e468 e474 e472 e473) ((CC.mk_ad e461 e462).trans (CC.cg_ad (CC.mk_ml e457 e460 e455 e456 e458 e459 e446 e246) rfl)) ((CC.mk_ad e453 e454).trans (CC.cg_ad (CC.mk_ml e449 e452 e447 e448 e450 e451 e446 e242) rfl)))
 exact ⟨(fun h => nd (CC.eq0 h)),(CC.sub0 e477 e478 hX)⟩
theorem tG_B0 (H : tG_Q q σ) : (¬ (q 24=0∧q 25=0))→(¬ (q 6=0∧q 7=0))→((¬ (q 495=0∧q 496=0))∧(¬ (q 509=0∧q 510=0))∧(q 563=q 351)∧(q 564=q 352)∧(q 572=q 352)∧(q 573=q 352)∧(q 581=q 352)∧(q 582=q 352)∧(q 590=q 351)∧(q 591=q 352)) := by
 have e8:q 8=-q 7:=H 8 _ rfl;have e9:q 9=q 0*q 6:=H 9 _ rfl;have e10:q 10=q 1*q 8:=H 10 _ rfl;have e11:q 11=q 9+q 10:=H 11 _ rfl;have e12:q 12=-q 1:=H 12 _ rfl;have e13:q 13=q 0*q 7:=H 13 _ rfl;have e14:q 14=q 12*q 6:=H 14 _ rfl;have e15:q 15=q 13-q 14:=H 15 _ rfl;have e16:q 16=-q 5:=H 16 _ rfl;have e17:q 17=q 2*q 4:=H 17 _ rfl;have e18:q 18=q 3*q 16:=H 18 _ rfl;have e19:q 19=q 17+q 18:=H 19 _ rfl;have e20:q 20=-q 3:=H 20 _ rfl;have e21:q 21=q 2*q 5:=H 21 _ rfl;have e22:q 22=q 20*q 4:=H 22 _ rfl;have e23:q 23=q 21-q 22:=H 23 _ rfl;have e24:q 24=q 11-q 19:=H 24 _ rfl;have e25:q 25=q 15-q 23:=H 25 _ rfl;have e52:q 52=-q 2:=H 52 _ rfl;have e53:q 53=-q 4:=H 53 _ rfl;have e54:q 54=-q 20:=H 54 _ rfl;have e77:q 77=-q 16:=H 77 _ rfl;have e91:q 91=-q 8:=H 91 _ rfl;have e92:q 92=q 6*q 6:=H 92 _ rfl;have e93:q 93=q 7*q 91:=H 93 _ rfl;have e94:q 94=q 92+q 93:=H 94 _ rfl;have e95:q 95=q 6*q 8:=H 95 _ rfl;have e96:q 96=q 8*q 6:=H 96 _ rfl;have e97:q 97=q 95-q 96:=H 97 _ rfl;have e98:q 98=q 7*q 7:=H 98 _ rfl;have e99:q 99=q 92+q 98:=H 99 _ rfl;have e100:q 100=q 94/q 99:=H 100 _ rfl;have e101:q 101=q 97/q 99:=H 101 _ rfl;have e102:q 102=q 52*q 6:=H 102 _ rfl;have e103:q 103=q 20*q 91:=H 103 _ rfl;have e104:q 104=q 102+q 103:=H 104 _ rfl;have e105:q 105=q 52*q 8:=H 105 _ rfl;have e106:q 106=q 54*q 6:=H 106 _ rfl;have e107:q 107=q 105-q 106:=H 107 _ rfl;have e108:q 108=q 104/q 99:=H 108 _ rfl;have e109:q 109=q 107/q 99:=H 109 _ rfl;have e110:q 110=q 53*q 6:=H 110 _ rfl;have e111:q 111=q 16*q 91:=H 111 _ rfl;have e112:q 112=q 110+q 111:=H 112 _ rfl;have e113:q 113=q 53*q 8:=H 113 _ rfl;have e114:q 114=q 77*q 6:=H 114 _ rfl;have e115:q 115=q 113-q 114:=H 115 _ rfl;have e116:q 116=q 112/q 99:=H 116 _ rfl;have e117:q 117=q 115/q 99:=H 117 _ rfl;have e118:q 118=q 1*q 91:=H 118 _ rfl;have e119:q 119=q 9+q 118:=H 119 _ rfl;have e120:q 120=q 0*q 8:=H 120 _ rfl;have e121:q 121=q 120-q 14:=H 121 _ rfl;have e122:q 122=q 119/q 99:=H 122 _ rfl;have e123:q 123=q 121/q 99:=H 123 _ rfl;have e351:q 351=1:=(H 351 _ rfl).trans tG_c351;have e352:q 352=0:=(H 352 _ rfl).trans tG_c352;have e479:q 479=-q 123:=H 479 _ rfl;have e480:q 480=q 100*q 122:=H 480 _ rfl;have e481:q 481=q 101*q 479:=H 481 _ rfl;have e482:q 482=q 480+q 481:=H 482 _ rfl;have e483:q 483=-q 101:=H 483 _ rfl;have e484:q 484=q 100*q 123:=H 484 _ rfl;have e485:q 485=q 483*q 122:=H 485 _ rfl;have e486:q 486=q 484-q 485:=H 486 _ rfl;have e487:q 487=-q 117:=H 487 _ rfl;have e488:q 488=q 108*q 116:=H 488 _ rfl;have e489:q 489=q 109*q 487:=H 489 _ rfl;have e490:q 490=q 488+q 489:=H 490 _ rfl;have e491:q 491=-q 109:=H 491 _ rfl;have e492:q 492=q 108*q 117:=H 492 _ rfl;have e493:q 493=q 491*q 116:=H 493 _ rfl;have e494:q 494=q 492-q 493:=H 494 _ rfl;have e495:q 495=q 482-q 490:=H 495 _ rfl;have e496:q 496=q 486-q 494:=H 496 _ rfl;have e497:q 497=q 0*q 100:=H 497 _ rfl;have e498:q 498=q 1*q 483:=H 498 _ rfl;have e499:q 499=q 497+q 498:=H 499 _ rfl;have e500:q 500=q 0*q 101:=H 500 _ rfl;have e501:q 501=q 12*q 100:=H 501 _ rfl;have e502:q 502=q 500-q 501:=H 502 _ rfl;have e503:q 503=q 2*q 116:=H 503 _ rfl;have e504:q 504=q 3*q 487:=H 504 _ rfl;have e505:q 505=q 503+q 504:=H 505 _ rfl;have e506:q 506=q 2*q 117:=H 506 _ rfl;have e507:q 507=q 20*q 116:=H 507 _ rfl;have e508:q 508=q 506-q 507:=H 508 _ rfl;have e509:q 509=q 499+q 505:=H 509 _ rfl;have e510:q 510=q 502+q 508:=H 510 _ rfl;have e511:q 511=q 0*q 108:=H 511 _ rfl;have e512:q 512=q 1*q 491:=H 512 _ rfl;have e513:q 513=q 511+q 512:=H 513 _ rfl;have e514:q 514=q 0*q 109:=H 514 _ rfl;have e515:q 515=q 12*q 108:=H 515 _ rfl;have e516:q 516=q 514-q 515:=H 516 _ rfl;have e517:q 517=q 2*q 122:=H 517 _ rfl;have e518:q 518=q 3*q 479:=H 518 _ rfl;have e519:q 519=q 517+q 518:=H 519 _ rfl;have e520:q 520=q 2*q 123:=H 520 _ rfl;have e521:q 521=q 20*q 122:=H 521 _ rfl;have e522:q 522=q 520-q 521:=H 522 _ rfl;have e523:q 523=q 513+q 519:=H 523 _ rfl;have e524:q 524=q 516+q 522:=H 524 _ rfl;have e525:q 525=q 4*q 100:=H 525 _ rfl;have e526:q 526=q 5*q 483:=H 526 _ rfl;have e527:q 527=q 525+q 526:=H 527 _ rfl;have e528:q 528=q 4*q 101:=H 528 _ rfl;have e529:q 529=q 16*q 100:=H 529 _ rfl;have e530:q 530=q 528-q 529:=H 530 _ rfl;have e531:q 531=q 6*q 116:=H 531 _ rfl;have e532:q 532=q 7*q 487:=H 532 _ rfl;have e533:q 533=q 531+q 532:=H 533 _ rfl;have e534:q 534=q 6*q 117:=H 534 _ rfl;have e535:q 535=q 8*q 116:=H 535 _ rfl;have e536:q 536=q 534-q 535:=H 536 _ rfl;have e537:q 537=q 527+q 533:=H 537 _ rfl;have e538:q 538=q 530+q 536:=H 538 _ rfl;have e539:q 539=q 4*q 108:=H 539 _ rfl;have e540:q 540=q 5*q 491:=H 540 _ rfl;have e541:q 541=q 539+q 540:=H 541 _ rfl;have e542:q 542=q 4*q 109:=H 542 _ rfl;have e543:q 543=q 16*q 108:=H 543 _ rfl;have e544:q 544=q 542-q 543:=H 544 _ rfl;have e545:q 545=q 6*q 122:=H 545 _ rfl;have e546:q 546=q 7*q 479:=H 546 _ rfl;have e547:q 547=q 545+q 546:=H 547 _ rfl;have e548:q 548=q 6*q 123:=H 548 _ rfl;have e549:q 549=q 8*q 122:=H 549 _ rfl;have e550:q 550=q 548-q 549:=H 550 _ rfl;have e551:q 551=q 541+q 547:=H 551 _ rfl;have e552:q 552=q 544+q 550:=H 552 _ rfl;have e553:q 553=-q 510:=H 553 _ rfl;have e554:q 554=-q 553:=H 554 _ rfl;have e555:q 555=q 509*q 509:=H 555 _ rfl;have e556:q 556=q 510*q 554:=H 556 _ rfl;have e557:q 557=q 555+q 556:=H 557 _ rfl;have e558:q 558=q 509*q 553:=H 558 _ rfl;have e559:q 559=q 553*q 509:=H 559 _ rfl;have e560:q 560=q 558-q 559:=H 560 _ rfl;have e561:q 561=q 510*q 510:=H 561 _ rfl;have e562:q 562=q 555+q 561:=H 562 _ rfl;have e563:q 563=q 557/q 562:=H 563 _ rfl;have e564:q 564=q 560/q 562:=H 564 _ rfl;have e565:q 565=q 523*q 509:=H 565 _ rfl;have e566:q 566=q 524*q 554:=H 566 _ rfl;have e567:q 567=q 565+q 566:=H 567 _ rfl;have e568:q 568=-q 524:=H 568 _ rfl;have e569:q 569=q 523*q 553:=H 569 _ rfl;have e570:q 570=q 568*q 509:=H 570 _ rfl;have e571:q 571=q 569-q 570:=H 571 _ rfl;have e572:q 572=q 567/q 562:=H 572 _ rfl;have e573:q 573=q 571/q 562:=H 573 _ rfl;have e574:q 574=q 537*q 509:=H 574 _ rfl;have e575:q 575=q 538*q 554:=H 575 _ rfl;have e576:q 576=q 574+q 575:=H 576 _ rfl;have e577:q 577=-q 538:=H 577 _ rfl;have e578:q 578=q 537*q 553:=H 578 _ rfl;have e579:q 579=q 577*q 509:=H 579 _ rfl;have e580:q 580=q 578-q 579:=H 580 _ rfl;have e581:q 581=q 576/q 562:=H 581 _ rfl;have e582:q 582=q 580/q 562:=H 582 _ rfl;have e583:q 583=q 551*q 509:=H 583 _ rfl;have e584:q 584=q 552*q 554:=H 584 _ rfl;have e585:q 585=q 583+q 584:=H 585 _ rfl;have e586:q 586=-q 552:=H 586 _ rfl;have e587:q 587=q 551*q 553:=H 587 _ rfl;have e588:q 588=q 586*q 509:=H 588 _ rfl;have e589:q 589=q 587-q 588:=H 589 _ rfl;have e590:q 590=q 585/q 562:=H 590 _ rfl;have e591:q 591=q 589/q 562:=H 591 _ rfl
 intro u0 u1
 have hdm : (((⟨q 0,q 1⟩ : CC).ml (⟨q 6,q 7⟩ : CC)).sb ((⟨q 2,q 3⟩ : CC).ml (⟨q 4,q 5⟩ : CC))) ≠ .no := fun h => CC.ne u0 (((CC.mk_sb e24 e25).trans (CC.cg_sb (CC.mk_ml e11 e15 e9 e10 e13 e14 e8 e12) (CC.mk_ml e19 e23 e17 e18 e21 e22 e16 e20))).trans h)
 have nt : (⟨q 6,q 7⟩ : CC) ≠ .no := CC.ne u1
 have k1 := CC.quo2 (CC.mk_quo nt e100 e101 e94 e97 e92 e93 e91 e8 e95 e96 e8 e99 e92 e98) rfl rfl
 have k2 := CC.quo2 (CC.mk_quo nt e108 e109 e104 e107 e102 e103 e91 e8 e105 e106 e54 e99 e92 e98) rfl (CC.mk_ng e52 e20)
 have k3 := CC.quo2 (CC.mk_quo nt e116 e117 e112 e115 e110 e111 e91 e8 e113 e114 e77 e99 e92 e98) rfl (CC.mk_ng e53 e16)
 have k4 := CC.quo2 (CC.mk_quo nt e122 e123 e119 e121 e9 e118 e91 e8 e120 e14 e12 e99 e92 e98) rfl rfl
 have ⟨o1,o2,o3,o4⟩ := tg_one k1 k2 k3 k4 nt hdm
 have n1 : (⟨q 509,q 510⟩ : CC) ≠ .no := fun h => o1 (((CC.mk_ad e509 e510).trans (CC.cg_ad (CC.mk_ml e499 e502 e497 e498 e500 e501 e483 e12) (CC.mk_ml e505 e508 e503 e504 e506 e507 e487 e20))).symm.trans h)
 have v0 := CC.q_un n1 (CC.mk_quo n1 e563 e564 e557 e560 e555 e556 e554 e553 e558 e559 e553 e562 e555 e561) rfl
 have v1 := CC.q_no n1 (CC.mk_quo n1 e572 e573 e567 e571 e565 e566 e554 e553 e569 e570 e568 e562 e555 e561) (((CC.mk_ad e523 e524).trans (CC.cg_ad (CC.mk_ml e513 e516 e511 e512 e514 e515 e491 e12) (CC.mk_ml e519 e522 e517 e518 e520 e521 e479 e20))).trans o2)
 have v2 := CC.q_no n1 (CC.mk_quo n1 e581 e582 e576 e580 e574 e575 e554 e553 e578 e579 e577 e562 e555 e561) (((CC.mk_ad e537 e538).trans (CC.cg_ad (CC.mk_ml e527 e530 e525 e526 e528 e529 e483 e16) (CC.mk_ml e533 e536 e531 e532 e534 e535 e487 e8))).trans o3)
 have v3 := CC.q_un n1 (CC.mk_quo n1 e590 e591 e585 e589 e583 e584 e554 e553 e587 e588 e586 e562 e555 e561) (((CC.mk_ad e551 e552).trans (CC.cg_ad (CC.mk_ml e541 e544 e539 e540 e542 e543 e491 e16) (CC.mk_ml e547 e550 e545 e546 e548 e549 e479 e8))).trans (o4.trans ((CC.mk_ad e509 e510).trans (CC.cg_ad (CC.mk_ml e499 e502 e497 e498 e500 e501 e483 e12) (CC.mk_ml e505 e508 e503 e504 e506 e507 e487 e20))).symm))
 exact ⟨(fun h => tg_det k1 k2 k3 k4 (tg_bak hdm) (((CC.mk_sb e495 e496).trans (CC.cg_sb (CC.mk_ml e482 e486 e480 e481 e484 e485 e479 e483) (CC.mk_ml e490 e494 e488 e489 e492 e493 e487 e491))).symm.trans (CC.eq0 h))),(fun h => n1 (CC.eq0 h)),((congrArg CC.re v0).trans e351.symm),((congrArg CC.im v0).trans e352.symm),((congrArg CC.re v1).trans e352.symm),((congrArg CC.im v1).trans e352.symm),((congrArg CC.re v2).trans e352.symm),((congrArg CC.im v2).trans e352.symm),((congrArg CC.re v3).trans e351.symm),((congrArg CC.im v3).trans e352.symm)⟩
theorem tG_X0 (H : tG_Q q σ) : (¬ (q 24=0∧q 25=0))→(¬ (q 6=0∧q 7=0))→(¬ (q 236=0∧q 237=0))→(¬ (q 382=0∧q 383=0))→((¬ (q 606=0∧q 607=0))∧(q 622=0∧q 623=0)) := by
 have e8:q 8=-q 7:=H 8 _ rfl;have e9:q 9=q 0*q 6:=H 9 _ rfl;have e10:q 10=q 1*q 8:=H 10 _ rfl;have e11:q 11=q 9+q 10:=H 11 _ rfl;have e12:q 12=-q 1:=H 12 _ rfl;have e13:q 13=q 0*q 7:=H 13 _ rfl;have e14:q 14=q 12*q 6:=H 14 _ rfl;have e15:q 15=q 13-q 14:=H 15 _ rfl;have e16:q 16=-q 5:=H 16 _ rfl;have e17:q 17=q 2*q 4:=H 17 _ rfl;have e18:q 18=q 3*q 16:=H 18 _ rfl;have e19:q 19=q 17+q 18:=H 19 _ rfl;have e20:q 20=-q 3:=H 20 _ rfl;have e21:q 21=q 2*q 5:=H 21 _ rfl;have e22:q 22=q 20*q 4:=H 22 _ rfl;have e23:q 23=q 21-q 22:=H 23 _ rfl;have e24:q 24=q 11-q 19:=H 24 _ rfl;have e25:q 25=q 15-q 23:=H 25 _ rfl;have e38:q 38=-q 27:=H 38 _ rfl;have e42:q 42=-q 31:=H 42 _ rfl;have e52:q 52=-q 2:=H 52 _ rfl;have e53:q 53=-q 4:=H 53 _ rfl;have e54:q 54=-q 20:=H 54 _ rfl;have e77:q 77=-q 16:=H 77 _ rfl;have e91:q 91=-q 8:=H 91 _ rfl;have e92:q 92=q 6*q 6:=H 92 _ rfl;have e93:q 93=q 7*q 91:=H 93 _ rfl;have e94:q 94=q 92+q 93:=H 94 _ rfl;have e95:q 95=q 6*q 8:=H 95 _ rfl;have e96:q 96=q 8*q 6:=H 96 _ rfl;have e97:q 97=q 95-q 96:=H 97 _ rfl;have e98:q 98=q 7*q 7:=H 98 _ rfl;have e99:q 99=q 92+q 98:=H 99 _ rfl;have e100:q 100=q 94/q 99:=H 100 _ rfl;have e101:q 101=q 97/q 99:=H 101 _ rfl;have e102:q 102=q 52*q 6:=H 102 _ rfl;have e103:q 103=q 20*q 91:=H 103 _ rfl;have e104:q 104=q 102+q 103:=H 104 _ rfl;have e105:q 105=q 52*q 8:=H 105 _ rfl;have e106:q 106=q 54*q 6:=H 106 _ rfl;have e107:q 107=q 105-q 106:=H 107 _ rfl;have e108:q 108=q 104/q 99:=H 108 _ rfl;have e109:q 109=q 107/q 99:=H 109 _ rfl;have e110:q 110=q 53*q 6:=H 110 _ rfl;have e111:q 111=q 16*q 91:=H 111 _ rfl;have e112:q 112=q 110+q 111:=H 112 _ rfl;have e113:q 113=q 53*q 8:=H 113 _ rfl;have e114:q 114=q 77*q 6:=H 114 _ rfl;have e115:q 115=q 113-q 114:=H 115 _ rfl;have e116:q 116=q 112/q 99:=H 116 _ rfl;have e117:q 117=q 115/q 99:=H 117 _ rfl;have e118:q 118=q 1*q 91:=H 118 _ rfl;have e119:q 119=q 9+q 118:=H 119 _ rfl;have e120:q 120=q 0*q 8:=H 120 _ rfl;have e121:q 121=q 120-q 14:=H 121 _ rfl;have e122:q 122=q 119/q 99:=H 122 _ rfl;have e123:q 123=q 121/q 99:=H 123 _ rfl;have e221:q 221=-q 220:=H 221 _ rfl;have e222:q 222=q 26*q 219:=H 222 _ rfl;have e223:q 223=q 27*q 221:=H 223 _ rfl;have e224:q 224=q 222+q 223:=H 224 _ rfl;have e225:q 225=q 26*q 220:=H 225 _ rfl;have e226:q 226=q 38*q 219:=H 226 _ rfl;have e227:q 227=q 225-q 226:=H 227 _ rfl;have e228:q 228=q 224+q 28:=H 228 _ rfl;have e229:q 229=q 227+q 29:=H 229 _ rfl;have e230:q 230=q 30*q 219:=H 230 _ rfl;have e231:q 231=q 31*q 221:=H 231 _ rfl;have e232:q 232=q 230+q 231:=H 232 _ rfl;have e233:q 233=q 30*q 220:=H 233 _ rfl;have e234:q 234=q 42*q 219:=H 234 _ rfl;have e235:q 235=q 233-q 234:=H 235 _ rfl;have e236:q 236=q 232+q 32:=H 236 _ rfl;have e237:q 237=q 235+q 33:=H 237 _ rfl;have e353:q 353=-q 237:=H 353 _ rfl;have e354:q 354=-q 353:=H 354 _ rfl;have e355:q 355=q 228*q 236:=H 355 _ rfl;have e356:q 356=q 229*q 354:=H 356 _ rfl;have e357:q 357=q 355+q 356:=H 357 _ rfl;have e358:q 358=-q 229:=H 358 _ rfl;have e359:q 359=q 228*q 353:=H 359 _ rfl;have e360:q 360=q 358*q 236:=H 360 _ rfl;have e361:q 361=q 359-q 360:=H 361 _ rfl;have e362:q 362=q 236*q 236:=H 362 _ rfl;have e363:q 363=q 237*q 237:=H 363 _ rfl;have e364:q 364=q 362+q 363:=H 364 _ rfl;have e365:q 365=q 357/q 364:=H 365 _ rfl;have e366:q 366=q 361/q 364:=H 366 _ rfl;have e367:q 367=-q 366:=H 367 _ rfl;have e368:q 368=q 0*q 365:=H 368 _ rfl;have e369:q 369=q 1*q 367:=H 369 _ rfl;have e370:q 370=q 368+q 369:=H 370 _ rfl;have e371:q 371=q 0*q 366:=H 371 _ rfl;have e372:q 372=q 12*q 365:=H 372 _ rfl;have e373:q 373=q 371-q 372:=H 373 _ rfl;have e374:q 374=q 370+q 2:=H 374 _ rfl;have e375:q 375=q 373+q 3:=H 375 _ rfl;have e376:q 376=q 4*q 365:=H 376 _ rfl;have e377:q 377=q 5*q 367:=H 377 _ rfl;have e378:q 378=q 376+q 377:=H 378 _ rfl;have e379:q 379=q 4*q 366:=H 379 _ rfl;have e380:q 380=q 16*q 365:=H 380 _ rfl;have e381:q 381=q 379-q 380:=H 381 _ rfl;have e382:q 382=q 378+q 6:=H 382 _ rfl;have e383:q 383=q 381+q 7:=H 383 _ rfl;have e418:q 418=-q 383:=H 418 _ rfl;have e419:q 419=-q 418:=H 419 _ rfl;have e420:q 420=q 374*q 382:=H 420 _ rfl;have e421:q 421=q 375*q 419:=H 421 _ rfl;have e422:q 422=q 420+q 421:=H 422 _ rfl;have e423:q 423=-q 375:=H 423 _ rfl;have e424:q 424=q 374*q 418:=H 424 _ rfl;have e425:q 425=q 423*q 382:=H 425 _ rfl;have e426:q 426=q 424-q 425:=H 426 _ rfl;have e427:q 427=q 382*q 382:=H 427 _ rfl;have e428:q 428=q 383*q 383:=H 428 _ rfl;have e429:q 429=q 427+q 428:=H 429 _ rfl;have e430:q 430=q 422/q 429:=H 430 _ rfl;have e431:q 431=q 426/q 429:=H 431 _ rfl;have e446:q 446=-q 431:=H 446 _ rfl;have e483:q 483=-q 101:=H 483 _ rfl;have e487:q 487=-q 117:=H 487 _ rfl;have e592:q 592=q 100*q 430:=H 592 _ rfl;have e593:q 593=q 101*q 446:=H 593 _ rfl;have e594:q 594=q 592+q 593:=H 594 _ rfl;have e595:q 595=q 100*q 431:=H 595 _ rfl;have e596:q 596=q 483*q 430:=H 596 _ rfl;have e597:q 597=q 595-q 596:=H 597 _ rfl;have e598:q 598=q 594+q 108:=H 598 _ rfl;have e599:q 599=q 597+q 109:=H 599 _ rfl;have e600:q 600=q 116*q 430:=H 600 _ rfl;have e601:q 601=q 117*q 446:=H 601 _ rfl;have e602:q 602=q 600+q 601:=H 602 _ rfl;have e603:q 603=q 116*q 431:=H 603 _ rfl;have e604:q 604=q 487*q 430:=H 604 _ rfl;have e605:q 605=q 603-q 604:=H 605 _ rfl;have e606:q 606=q 602+q 122:=H 606 _ rfl;have e607:q 607=q 605+q 123:=H 607 _ rfl;have e608:q 608=-q 607:=H 608 _ rfl;have e609:q 609=-q 608:=H 609 _ rfl;have e610:q 610=q 598*q 606:=H 610 _ rfl;have e611:q 611=q 599*q 609:=H 611 _ rfl;have e612:q 612=q 610+q 611:=H 612 _ rfl;have e613:q 613=-q 599:=H 613 _ rfl;have e614:q 614=q 598*q 608:=H 614 _ rfl;have e615:q 615=q 613*q 606:=H 615 _ rfl;have e616:q 616=q 614-q 615:=H 616 _ rfl;have e617:q 617=q 606*q 606:=H 617 _ rfl;have e618:q 618=q 607*q 607:=H 618 _ rfl;have e619:q 619=q 617+q 618:=H 619 _ rfl;have e620:q 620=q 612/q 619:=H 620 _ rfl;have e621:q 621=q 616/q 619:=H 621 _ rfl;have e622:q 622=q 620-q 365:=H 622 _ rfl;have e623:q 623=q 621-q 366:=H 623 _ rfl
 intro u0 u1 u2 u3
 have hdm : (((⟨q 0,q 1⟩ : CC).ml (⟨q 6,q 7⟩ : CC)).sb ((⟨q 2,q 3⟩ : CC).ml (⟨q 4,q 5⟩ : CC))) ≠ .no := fun h => CC.ne u0 (((CC.mk_sb e24 e25).trans (CC.cg_sb (CC.mk_ml e11 e15 e9 e10 e13 e14 e8 e12) (CC.mk_ml e19 e23 e17 e18 e21 e22 e16 e20))).trans h)
 have hk : ((⟨q 30,q 31⟩ : CC).ml (⟨q 219,q 220⟩ : CC)).ad (⟨q 32,q 33⟩ : CC) ≠ .no := fun h => CC.ne u2 (((CC.mk_ad e236 e237).trans (CC.cg_ad (CC.mk_ml e232 e235 e230 e231 e233 e234 e221 e42) rfl)).trans h)
 have hW := (CC.quo2 (CC.mk_quo (CC.ne u2) e365 e366 e357 e361 e355 e356 e354 e353 e359 e360 e358 e364 e362 e363) ((CC.mk_ad e236 e237).trans (CC.cg_ad (CC.mk_ml e232 e235 e230 e231 e233 e234 e221 e42) rfl)) ((CC.mk_ad e228 e229).trans (CC.cg_ad (CC.mk_ml e224 e227 e222 e223 e225 e226 e221 e38) rfl)))
 have nt : (⟨q 6,q 7⟩ : CC) ≠ .no := CC.ne u1
 have k1 := CC.quo2 (CC.mk_quo nt e100 e101 e94 e97 e92 e93 e91 e8 e95 e96 e8 e99 e92 e98) rfl rfl
 have k2 := CC.quo2 (CC.mk_quo nt e108 e109 e104 e107 e102 e103 e91 e8 e105 e106 e54 e99 e92 e98) rfl (CC.mk_ng e52 e20)
 have k3 := CC.quo2 (CC.mk_quo nt e116 e117 e112 e115 e110 e111 e91 e8 e113 e114 e77 e99 e92 e98) rfl (CC.mk_ng e53 e16)
 have k4 := CC.quo2 (CC.mk_quo nt e122 e123 e119 e121 e9 e118 e91 e8 e120 e14 e12 e99 e92 e98) rfl rfl
 have hU := (CC.quo2 (CC.mk_quo (CC.ne u3) e430 e431 e422 e426 e420 e421 e419 e418 e424 e425 e423 e429 e427 e428) ((CC.mk_ad e382 e383).trans (CC.cg_ad (CC.mk_ml e378 e381 e376 e377 e379 e380 e367 e16) rfl)) ((CC.mk_ad e374 e375).trans (CC.cg_ad (CC.mk_ml e370 e373 e368 e369 e371 e372 e367 e12) rfl)))
 have nd : (⟨q 606,q 607⟩ : CC) ≠ .no := fun h => tg_bden k3 k4 hU hdm (((CC.mk_ad e606 e607).trans (CC.cg_ad (CC.mk_ml e602 e605 e600 e601 e603 e604 e446 e487) rfl)).symm.trans h)
 have hX := tg_xw k1 k2 k3 k4 hU hdm (CC.quo2 (CC.mk_quo nd e620 e621 e612 e616 e610 e611 e609 e608 e614 e615 e613 e619 e617 e618) ((CC.mk_ad e606 e607).trans (CC.cg_ad (CC.mk_ml e602 e605 e600 e601 e603 e604 e446 e487) rfl)) ((CC.mk_ad e598 e599).trans (CC.cg_ad (CC.mk_ml e594 e597 e592 e593 e595 e596 e446 e483) rfl)))
 exact ⟨(fun h => nd (CC.eq0 h)),(CC.sub0 e622 e623 hX)⟩
theorem tG_A0 (H : tG_Q q σ) : (¬ (q 24=0∧q 25=0))→(¬ (q 50=0∧q 51=0))→(¬ (q 136=0∧q 137=0))→(¬ (q 236=0∧q 237=0))→((¬ (q 675=0∧q 676=0))∧((q 382=0∧q 383=0)→q 691=0∧q 692=0)∧((¬ (q 382=0∧q 383=0))→¬ (q 691=0∧q 692=0))∧((¬ (q 382=0∧q 383=0))→q 430=q 705)∧((¬ (q 382=0∧q 383=0))→q 431=q 706)) := by
 have e8:q 8=-q 7:=H 8 _ rfl;have e9:q 9=q 0*q 6:=H 9 _ rfl;have e10:q 10=q 1*q 8:=H 10 _ rfl;have e11:q 11=q 9+q 10:=H 11 _ rfl;have e12:q 12=-q 1:=H 12 _ rfl;have e13:q 13=q 0*q 7:=H 13 _ rfl;have e14:q 14=q 12*q 6:=H 14 _ rfl;have e15:q 15=q 13-q 14:=H 15 _ rfl;have e16:q 16=-q 5:=H 16 _ rfl;have e17:q 17=q 2*q 4:=H 17 _ rfl;have e18:q 18=q 3*q 16:=H 18 _ rfl;have e19:q 19=q 17+q 18:=H 19 _ rfl;have e20:q 20=-q 3:=H 20 _ rfl;have e21:q 21=q 2*q 5:=H 21 _ rfl;have e22:q 22=q 20*q 4:=H 22 _ rfl;have e23:q 23=q 21-q 22:=H 23 _ rfl;have e24:q 24=q 11-q 19:=H 24 _ rfl;have e25:q 25=q 15-q 23:=H 25 _ rfl;have e34:q 34=-q 33:=H 34 _ rfl;have e35:q 35=q 26*q 32:=H 35 _ rfl;have e36:q 36=q 27*q 34:=H 36 _ rfl;have e37:q 37=q 35+q 36:=H 37 _ rfl;have e38:q 38=-q 27:=H 38 _ rfl;have e39:q 39=q 26*q 33:=H 39 _ rfl;have e40:q 40=q 38*q 32:=H 40 _ rfl;have e41:q 41=q 39-q 40:=H 41 _ rfl;have e42:q 42=-q 31:=H 42 _ rfl;have e43:q 43=q 28*q 30:=H 43 _ rfl;have e44:q 44=q 29*q 42:=H 44 _ rfl;have e45:q 45=q 43+q 44:=H 45 _ rfl;have e46:q 46=-q 29:=H 46 _ rfl;have e47:q 47=q 28*q 31:=H 47 _ rfl;have e48:q 48=q 46*q 30:=H 48 _ rfl;have e49:q 49=q 47-q 48:=H 49 _ rfl;have e50:q 50=q 37-q 45:=H 50 _ rfl;have e51:q 51=q 41-q 49:=H 51 _ rfl;have e124:q 124=q 0*q 26:=H 124 _ rfl;have e125:q 125=q 1*q 38:=H 125 _ rfl;have e126:q 126=q 124+q 125:=H 126 _ rfl;have e127:q 127=q 0*q 27:=H 127 _ rfl;have e128:q 128=q 12*q 26:=H 128 _ rfl;have e129:q 129=q 127-q 128:=H 129 _ rfl;have e130:q 130=q 2*q 30:=H 130 _ rfl;have e131:q 131=q 3*q 42:=H 131 _ rfl;have e132:q 132=q 130+q 131:=H 132 _ rfl;have e133:q 133=q 2*q 31:=H 133 _ rfl;have e134:q 134=q 20*q 30:=H 134 _ rfl;have e135:q 135=q 133-q 134:=H 135 _ rfl;have e136:q 136=q 126+q 132:=H 136 _ rfl;have e137:q 137=q 129+q 135:=H 137 _ rfl;have e138:q 138=q 0*q 28:=H 138 _ rfl;have e139:q 139=q 1*q 46:=H 139 _ rfl;have e140:q 140=q 138+q 139:=H 140 _ rfl;have e141:q 141=q 0*q 29:=H 141 _ rfl;have e142:q 142=q 12*q 28:=H 142 _ rfl;have e143:q 143=q 141-q 142:=H 143 _ rfl;have e144:q 144=q 2*q 32:=H 144 _ rfl;have e145:q 145=q 3*q 34:=H 145 _ rfl;have e146:q 146=q 144+q 145:=H 146 _ rfl;have e147:q 147=q 2*q 33:=H 147 _ rfl;have e148:q 148=q 20*q 32:=H 148 _ rfl;have e149:q 149=q 147-q 148:=H 149 _ rfl;have e150:q 150=q 140+q 146:=H 150 _ rfl;have e151:q 151=q 143+q 149:=H 151 _ rfl;have e152:q 152=q 4*q 26:=H 152 _ rfl;have e153:q 153=q 5*q 38:=H 153 _ rfl;have e154:q 154=q 152+q 153:=H 154 _ rfl;have e155:q 155=q 4*q 27:=H 155 _ rfl;have e156:q 156=q 16*q 26:=H 156 _ rfl;have e157:q 157=q 155-q 156:=H 157 _ rfl;have e158:q 158=q 6*q 30:=H 158 _ rfl;have e159:q 159=q 7*q 42:=H 159 _ rfl;have e160:q 160=q 158+q 159:=H 160 _ rfl;have e161:q 161=q 6*q 31:=H 161 _ rfl;have e162:q 162=q 8*q 30:=H 162 _ rfl;have e163:q 163=q 161-q 162:=H 163 _ rfl;have e164:q 164=q 154+q 160:=H 164 _ rfl;have e165:q 165=q 157+q 163:=H 165 _ rfl;have e166:q 166=q 4*q 28:=H 166 _ rfl;have e167:q 167=q 5*q 46:=H 167 _ rfl;have e168:q 168=q 166+q 167:=H 168 _ rfl;have e169:q 169=q 4*q 29:=H 169 _ rfl;have e170:q 170=q 16*q 28:=H 170 _ rfl;have e171:q 171=q 169-q 170:=H 171 _ rfl;have e172:q 172=q 6*q 32:=H 172 _ rfl;have e173:q 173=q 7*q 34:=H 173 _ rfl;have e174:q 174=q 172+q 173:=H 174 _ rfl;have e175:q 175=q 6*q 33:=H 175 _ rfl;have e176:q 176=q 8*q 32:=H 176 _ rfl;have e177:q 177=q 175-q 176:=H 177 _ rfl;have e178:q 178=q 168+q 174:=H 178 _ rfl;have e179:q 179=q 171+q 177:=H 179 _ rfl;have e180:q 180=-q 151:=H 180 _ rfl;have e185:q 185=-q 137:=H 185 _ rfl;have e204:q 204=-q 165:=H 204 _ rfl;have e213:q 213=-q 179:=H 213 _ rfl;have e221:q 221=-q 220:=H 221 _ rfl;have e222:q 222=q 26*q 219:=H 222 _ rfl;have e223:q 223=q 27*q 221:=H 223 _ rfl;have e224:q 224=q 222+q 223:=H 224 _ rfl;have e225:q 225=q 26*q 220:=H 225 _ rfl;have e226:q 226=q 38*q 219:=H 226 _ rfl;have e227:q 227=q 225-q 226:=H 227 _ rfl;have e228:q 228=q 224+q 28:=H 228 _ rfl;have e229:q 229=q 227+q 29:=H 229 _ rfl;have e230:q 230=q 30*q 219:=H 230 _ rfl;have e231:q 231=q 31*q 221:=H 231 _ rfl;have e232:q 232=q 230+q 231:=H 232 _ rfl;have e233:q 233=q 30*q 220:=H 233 _ rfl;have e234:q 234=q 42*q 219:=H 234 _ rfl;have e235:q 235=q 233-q 234:=H 235 _ rfl;have e236:q 236=q 232+q 32:=H 236 _ rfl;have e237:q 237=q 235+q 33:=H 237 _ rfl;have e353:q 353=-q 237:=H 353 _ rfl;have e354:q 354=-q 353:=H 354 _ rfl;have e355:q 355=q 228*q 236:=H 355 _ rfl;have e356:q 356=q 229*q 354:=H 356 _ rfl;have e357:q 357=q 355+q 356:=H 357 _ rfl;have e358:q 358=-q 229:=H 358 _ rfl;have e359:q 359=q 228*q 353:=H 359 _ rfl;have e360:q 360=q 358*q 236:=H 360 _ rfl;have e361:q 361=q 359-q 360:=H 361 _ rfl;have e362:q 362=q 236*q 236:=H 362 _ rfl;have e363:q 363=q 237*q 237:=H 363 _ rfl;have e364:q 364=q 362+q 363:=H 364 _ rfl;have e365:q 365=q 357/q 364:=H 365 _ rfl;have e366:q 366=q 361/q 364:=H 366 _ rfl;have e367:q 367=-q 366:=H 367 _ rfl;have e368:q 368=q 0*q 365:=H 368 _ rfl;have e369:q 369=q 1*q 367:=H 369 _ rfl;have e370:q 370=q 368+q 369:=H 370 _ rfl;have e371:q 371=q 0*q 366:=H 371 _ rfl;have e372:q 372=q 12*q 365:=H 372 _ rfl;have e373:q 373=q 371-q 372:=H 373 _ rfl;have e374:q 374=q 370+q 2:=H 374 _ rfl;have e375:q 375=q 373+q 3:=H 375 _ rfl;have e376:q 376=q 4*q 365:=H 376 _ rfl;have e377:q 377=q 5*q 367:=H 377 _ rfl;have e378:q 378=q 376+q 377:=H 378 _ rfl;have e379:q 379=q 4*q 366:=H 379 _ rfl;have e380:q 380=q 16*q 365:=H 380 _ rfl;have e381:q 381=q 379-q 380:=H 381 _ rfl;have e382:q 382=q 378+q 6:=H 382 _ rfl;have e383:q 383=q 381+q 7:=H 383 _ rfl;have e418:q 418=-q 383:=H 418 _ rfl;have e419:q 419=-q 418:=H 419 _ rfl;have e420:q 420=q 374*q 382:=H 420 _ rfl;have e421:q 421=q 375*q 419:=H 421 _ rfl;have e422:q 422=q 420+q 421:=H 422 _ rfl;have e423:q 423=-q 375:=H 423 _ rfl;have e424:q 424=q 374*q 418:=H 424 _ rfl;have e425:q 425=q 423*q 382:=H 425 _ rfl;have e426:q 426=q 424-q 425:=H 426 _ rfl;have e427:q 427=q 382*q 382:=H 427 _ rfl;have e428:q 428=q 383*q 383:=H 428 _ rfl;have e429:q 429=q 427+q 428:=H 429 _ rfl;have e430:q 430=q 422/q 429:=H 430 _ rfl;have e431:q 431=q 426/q 429:=H 431 _ rfl;have e624:q 624=-q 185:=H 624 _ rfl;have e625:q 625=q 136*q 136:=H 625 _ rfl;have e626:q 626=q 137*q 624:=H 626 _ rfl;have e627:q 627=q 625+q 626:=H 627 _ rfl;have e628:q 628=q 136*q 185:=H 628 _ rfl;have e629:q 629=q 185*q 136:=H 629 _ rfl;have e630:q 630=q 628-q 629:=H 630 _ rfl;have e631:q 631=q 137*q 137:=H 631 _ rfl;have e632:q 632=q 625+q 631:=H 632 _ rfl;have e633:q 633=q 627/q 632:=H 633 _ rfl;have e634:q 634=q 630/q 632:=H 634 _ rfl;have e635:q 635=q 150*q 136:=H 635 _ rfl;have e636:q 636=q 151*q 624:=H 636 _ rfl;have e637:q 637=q 635+q 636:=H 637 _ rfl;have e638:q 638=q 150*q 185:=H 638 _ rfl;have e639:q 639=q 180*q 136:=H 639 _ rfl;have e640:q 640=q 638-q 639:=H 640 _ rfl;have e641:q 641=q 637/q 632:=H 641 _ rfl;have e642:q 642=q 640/q 632:=H 642 _ rfl;have e643:q 643=q 164*q 136:=H 643 _ rfl;have e644:q 644=q 165*q 624:=H 644 _ rfl;have e645:q 645=q 643+q 644:=H 645 _ rfl;have e646:q 646=q 164*q 185:=H 646 _ rfl;have e647:q 647=q 204*q 136:=H 647 _ rfl;have e648:q 648=q 646-q 647:=H 648 _ rfl;have e649:q 649=q 645/q 632:=H 649 _ rfl;have e650:q 650=q 648/q 632:=H 650 _ rfl;have e651:q 651=q 178*q 136:=H 651 _ rfl;have e652:q 652=q 179*q 624:=H 652 _ rfl;have e653:q 653=q 651+q 652:=H 653 _ rfl;have e654:q 654=q 178*q 185:=H 654 _ rfl;have e655:q 655=q 213*q 136:=H 655 _ rfl;have e656:q 656=q 654-q 655:=H 656 _ rfl;have e657:q 657=q 653/q 632:=H 657 _ rfl;have e658:q 658=q 656/q 632:=H 658 _ rfl;have e659:q 659=-q 658:=H 659 _ rfl;have e660:q 660=q 633*q 657:=H 660 _ rfl;have e661:q 661=q 634*q 659:=H 661 _ rfl;have e662:q 662=q 660+q 661:=H 662 _ rfl;have e663:q 663=-q 634:=H 663 _ rfl;have e664:q 664=q 633*q 658:=H 664 _ rfl;have e665:q 665=q 663*q 657:=H 665 _ rfl;have e666:q 666=q 664-q 665:=H 666 _ rfl;have e667:q 667=-q 650:=H 667 _ rfl;have e668:q 668=q 641*q 649:=H 668 _ rfl;have e669:q 669=q 642*q 667:=H 669 _ rfl;have e670:q 670=q 668+q 669:=H 670 _ rfl;have e671:q 671=-q 642:=H 671 _ rfl;have e672:q 672=q 641*q 650:=H 672 _ rfl;have e673:q 673=q 671*q 649:=H 673 _ rfl;have e674:q 674=q 672-q 673:=H 674 _ rfl;have e675:q 675=q 662-q 670:=H 675 _ rfl;have e676:q 676=q 666-q 674:=H 676 _ rfl;have e677:q 677=q 633*q 219:=H 677 _ rfl;have e678:q 678=q 634*q 221:=H 678 _ rfl;have e679:q 679=q 677+q 678:=H 679 _ rfl;have e680:q 680=q 633*q 220:=H 680 _ rfl;have e681:q 681=q 663*q 219:=H 681 _ rfl;have e682:q 682=q 680-q 681:=H 682 _ rfl;have e683:q 683=q 679+q 641:=H 683 _ rfl;have e684:q 684=q 682+q 642:=H 684 _ rfl;have e685:q 685=q 649*q 219:=H 685 _ rfl;have e686:q 686=q 650*q 221:=H 686 _ rfl;have e687:q 687=q 685+q 686:=H 687 _ rfl;have e688:q 688=q 649*q 220:=H 688 _ rfl;have e689:q 689=q 667*q 219:=H 689 _ rfl;have e690:q 690=q 688-q 689:=H 690 _ rfl;have e691:q 691=q 687+q 657:=H 691 _ rfl;have e692:q 692=q 690+q 658:=H 692 _ rfl;have e693:q 693=-q 692:=H 693 _ rfl;have e694:q 694=-q 693:=H 694 _ rfl;have e695:q 695=q 683*q 691:=H 695 _ rfl;have e696:q 696=q 684*q 694:=H 696 _ rfl;have e697:q 697=q 695+q 696:=H 697 _ rfl;have e698:q 698=-q 684:=H 698 _ rfl;have e699:q 699=q 683*q 693:=H 699 _ rfl;have e700:q 700=q 698*q 691:=H 700 _ rfl;have e701:q 701=q 699-q 700:=H 701 _ rfl;have e702:q 702=q 691*q 691:=H 702 _ rfl;have e703:q 703=q 692*q 692:=H 703 _ rfl;have e704:q 704=q 702+q 703:=H 704 _ rfl;have e705:q 705=q 697/q 704:=H 705 _ rfl;have e706:q 706=q 701/q 704:=H 706 _ rfl
 clear H
 intro u0 u1 u2 u3
 have hdm : (((⟨q 0,q 1⟩ : CC).ml (⟨q 6,q 7⟩ : CC)).sb ((⟨q 2,q 3⟩ : CC).ml (⟨q 4,q 5⟩ : CC))) ≠ .no := fun h => CC.ne u0 (((CC.mk_sb e24 e25).trans (CC.cg_sb (CC.mk_ml e11 e15 e9 e10 e13 e14 e8 e12) (CC.mk_ml e19 e23 e17 e18 e21 e22 e16 e20))).trans h)
 have hdn : (((⟨q 26,q 27⟩ : CC).ml (⟨q 32,q 33⟩ : CC)).sb ((⟨q 28,q 29⟩ : CC).ml (⟨q 30,q 31⟩ : CC))) ≠ .no := fun h => CC.ne u1 (((CC.mk_sb e50 e51).trans (CC.cg_sb (CC.mk_ml e37 e41 e35 e36 e39 e40 e34 e38) (CC.mk_ml e45 e49 e43 e44 e47 e48 e42 e46))).trans h)
 have hk : ((⟨q 30,q 31⟩ : CC).ml (⟨q 219,q 220⟩ : CC)).ad (⟨q 32,q 33⟩ : CC) ≠ .no := fun h => CC.ne u3 (((CC.mk_ad e236 e237).trans (CC.cg_ad (CC.mk_ml e232 e235 e230 e231 e233 e234 e221 e42) rfl)).trans h)
 have hW := (CC.quo2 (CC.mk_quo (CC.ne u3) e365 e366 e357 e361 e355 e356 e354 e353 e359 e360 e358 e364 e362 e363) ((CC.mk_ad e236 e237).trans (CC.cg_ad (CC.mk_ml e232 e235 e230 e231 e233 e234 e221 e42) rfl)) ((CC.mk_ad e228 e229).trans (CC.cg_ad (CC.mk_ml e224 e227 e222 e223 e225 e226 e221 e38) rfl)))
 have nt : (⟨q 136,q 137⟩ : CC) ≠ .no := CC.ne u2
 have hp := CC.quo2 (CC.mk_quo nt e633 e634 e627 e630 e625 e626 e624 e185 e628 e629 e185 e632 e625 e631) rfl ((CC.mk_ad e136 e137).trans (CC.cg_ad (CC.mk_ml e126 e129 e124 e125 e127 e128 e38 e12) (CC.mk_ml e132 e135 e130 e131 e133 e134 e42 e20)))
 have h_q := CC.quo2 (CC.mk_quo nt e641 e642 e637 e640 e635 e636 e624 e185 e638 e639 e180 e632 e625 e631) rfl ((CC.mk_ad e150 e151).trans (CC.cg_ad (CC.mk_ml e140 e143 e138 e139 e141 e142 e46 e12) (CC.mk_ml e146 e149 e144 e145 e147 e148 e34 e20)))
 have hr := CC.quo2 (CC.mk_quo nt e649 e650 e645 e648 e643 e644 e624 e185 e646 e647 e204 e632 e625 e631) rfl ((CC.mk_ad e164 e165).trans (CC.cg_ad (CC.mk_ml e154 e157 e152 e153 e155 e156 e38 e16) (CC.mk_ml e160 e163 e158 e159 e161 e162 e42 e8)))
 have hs := CC.quo2 (CC.mk_quo nt e657 e658 e653 e656 e651 e652 e624 e185 e654 e655 e213 e632 e625 e631) rfl ((CC.mk_ad e178 e179).trans (CC.cg_ad (CC.mk_ml e168 e171 e166 e167 e169 e170 e46 e16) (CC.mk_ml e174 e177 e172 e173 e175 e176 e34 e8)))
 have hX := tg_den hp h_q hW
 have hY := tg_den hr hs hW
 have nd : ¬ (q 382=0∧q 383=0)→¬ (q 691=0∧q 692=0) := fun uw h => uw (CC.no_iff.1 (((CC.mk_ad e382 e383).trans (CC.cg_ad (CC.mk_ml e378 e381 e376 e377 e379 e380 e367 e16) rfl)).trans ((tg_yq hY nt hk).1 (((CC.mk_ad e691 e692).trans (CC.cg_ad (CC.mk_ml e687 e690 e685 e686 e688 e689 e221 e667) rfl)).symm.trans (CC.eq0 h)))))
 have huv : ¬ (q 382=0∧q 383=0)→(⟨q 430,q 431⟩ : CC)=(⟨q 705,q 706⟩ : CC) := fun uw => tg_uv hX hY (CC.quo2 (CC.mk_quo (CC.ne uw) e430 e431 e422 e426 e420 e421 e419 e418 e424 e425 e423 e429 e427 e428) ((CC.mk_ad e382 e383).trans (CC.cg_ad (CC.mk_ml e378 e381 e376 e377 e379 e380 e367 e16) rfl)) ((CC.mk_ad e374 e375).trans (CC.cg_ad (CC.mk_ml e370 e373 e368 e369 e371 e372 e367 e12) rfl))) (CC.quo2 (CC.mk_quo (CC.ne (nd uw)) e705 e706 e697 e701 e695 e696 e694 e693 e699 e700 e698 e704 e702 e703) ((CC.mk_ad e691 e692).trans (CC.cg_ad (CC.mk_ml e687 e690 e685 e686 e688 e689 e221 e667) rfl)) ((CC.mk_ad e683 e684).trans (CC.cg_ad (CC.mk_ml e679 e682 e677 e678 e680 e681 e221 e663) rfl))) hk (fun h => CC.ne uw (((CC.mk_ad e382 e383).trans (CC.cg_ad (CC.mk_ml e378 e381 e376 e377 e379 e380 e367 e16) rfl)).trans h))
 exact ⟨(fun h => tg_det hp h_q hr hs (tg_aft hdm hdn) (((CC.mk_sb e675 e676).trans (CC.cg_sb (CC.mk_ml e662 e666 e660 e661 e664 e665 e659 e663) (CC.mk_ml e670 e674 e668 e669 e672 e673 e667 e671))).symm.trans (CC.eq0 h))),(fun hw => CC.no_iff.1 (((CC.mk_ad e691 e692).trans (CC.cg_ad (CC.mk_ml e687 e690 e685 e686 e688 e689 e221 e667) rfl)).trans ((tg_yq hY nt hk).2 (((CC.mk_ad e382 e383).trans (CC.cg_ad (CC.mk_ml e378 e381 e376 e377 e379 e380 e367 e16) rfl)).symm.trans (CC.eq0 hw))))),nd,(fun uw => congrArg CC.re (huv uw)),(fun uw => congrArg CC.im (huv uw))⟩
theorem tG_r0 : (callB (sx Tryz.prog tG_N [(6,24,25,1)] [] tG_L tG_C tG_Z (prQ [9])) 6 5 tG_A [] 0).map (·.1)=some (kB true) := by kernel_rfl
theorem tG_r1 : (callB (sx Tryz.prog tG_N [(6,24,25,0),(6,50,51,1),(6,6,7,1),(6,52,20,0)] [(77,[.inr (3,144,0,0,0),.inr (3,146,0,0,0)])] tG_L tG_C tG_Z (prQ [9])) 8 5 tG_A [] 0).map (·.1)=some (kB true) := by kernel_rfl
theorem tG_r2 : (callB (sx Tryz.prog tG_N [(6,24,25,0),(6,50,51,1),(6,6,7,0)] [(77,[.inr (3,144,0,0,0),.inr (3,146,0,0,0)])] tG_L tG_C tG_Z (prQ [9])) 8 5 tG_A [] 0).map (·.1)=some (kB true) := by kernel_rfl
theorem tG_r3 : (callB (sx Tryz.prog tG_N [(6,24,25,0),(6,50,51,0),(6,136,137,1),(6,150,151,0),(6,6,7,1),(6,52,20,0),(6,236,237,1),(6,254,255,0),(6,268,269,0),(4,322,351,1),(4,323,352,1),(4,331,352,1),(4,332,352,1),(4,340,352,1),(4,341,352,1),(4,349,351,1),(4,350,352,1)] [(75,[.inr (3,92,0,0,0),.inr (3,93,0,0,0)]),(77,[.inr (3,223,0,0,0),.inr (3,225,0,0,0)]),(77,[.inr (3,396,0,0,0),.inr (3,398,0,0,0)]),(75,[.inr (3,696,0,0,0),.inr (3,697,0,0,0)]),(77,[.inr (3,827,0,0,0),.inr (3,829,0,0,0)])] tG_L tG_C tG_Z (prQ [9])) 8 5 tG_A [] 0).map (·.1)=some (kB true) := by kernel_rfl
theorem tG_r4 : (callB (sx Tryz.prog tG_N [(6,24,25,0),(6,50,51,0),(6,136,137,1),(6,150,151,0),(6,6,7,1),(6,52,20,0),(6,236,237,0),(6,382,383,1),(6,400,401,0),(6,416,417,1),(6,254,255,0),(6,268,269,0),(4,322,351,1),(4,323,352,1),(4,331,352,1),(4,332,352,1),(4,340,352,1),(4,341,352,1),(4,349,351,1),(4,350,352,1)] [(75,[.inr (3,92,0,0,0),.inr (3,93,0,0,0)]),(77,[.inr (3,223,0,0,0),.inr (3,225,0,0,0)]),(77,[.inr (3,396,0,0,0),.inr (3,398,0,0,0)]),(75,[.inr (3,902,0,0,0),.inr (3,903,0,0,0)]),(77,[.inr (3,1033,0,0,0),.inr (3,1035,0,0,0)])] tG_L tG_C tG_Z (prQ [9])) 8 5 tG_A [] 0).map (·.1)=some (kB true) := by kernel_rfl
theorem tG_r5 : (callB (sx Tryz.prog tG_N [(6,24,25,0),(6,50,51,0),(6,136,137,1),(6,150,151,0),(6,6,7,1),(6,52,20,0),(6,236,237,0),(6,382,383,0),(6,400,401,0),(6,416,417,0),(3,430,444,1),(3,431,445,1),(6,254,255,0),(6,461,462,0),(6,477,478,1),(6,268,269,0),(4,322,351,1),(4,323,352,1),(4,331,352,1),(4,332,352,1),(4,340,352,1),(4,341,352,1),(4,349,351,1),(4,350,352,1)] [(75,[.inr (3,92,0,0,0),.inr (3,93,0,0,0)]),(77,[.inr (3,223,0,0,0),.inr (3,225,0,0,0)]),(77,[.inr (3,396,0,0,0),.inr (3,398,0,0,0)]),(75,[.inr (3,1079,0,0,0),.inr (3,1080,0,0,0)]),(77,[.inr (3,1210,0,0,0),.inr (3,1212,0,0,0)])] tG_L tG_C tG_Z (prQ [9])) 8 5 tG_A [] 0).map (·.1)=some (kB true) := by kernel_rfl
theorem tG_r6 : (callB (sx Tryz.prog tG_N [(6,24,25,0),(6,50,51,0),(6,136,137,1),(6,150,151,0),(6,6,7,0),(6,236,237,1),(6,495,496,0),(6,509,510,0),(4,563,351,1),(4,564,352,1),(4,572,352,1),(4,573,352,1),(4,581,352,1),(4,582,352,1),(4,590,351,1),(4,591,352,1)] [(75,[.inr (3,92,0,0,0),.inr (3,93,0,0,0)]),(77,[.inr (3,223,0,0,0),.inr (3,225,0,0,0)]),(77,[.inr (3,396,0,0,0),.inr (3,398,0,0,0)]),(75,[.inr (3,695,0,0,0),.inr (3,696,0,0,0)]),(77,[.inr (3,826,0,0,0),.inr (3,828,0,0,0)])] tG_L tG_C tG_Z (prQ [9])) 8 5 tG_A [] 0).map (·.1)=some (kB true) := by kernel_rfl
theorem tG_r7 : (callB (sx Tryz.prog tG_N [(6,24,25,0),(6,50,51,0),(6,136,137,1),(6,150,151,0),(6,6,7,0),(6,236,237,0),(6,382,383,1),(6,400,401,0),(6,416,417,1),(6,495,496,0),(6,509,510,0),(4,563,351,1),(4,564,352,1),(4,572,352,1),(4,573,352,1),(4,581,352,1),(4,582,352,1),(4,590,351,1),(4,591,352,1)] [(75,[.inr (3,92,0,0,0),.inr (3,93,0,0,0)]),(77,[.inr (3,223,0,0,0),.inr (3,225,0,0,0)]),(77,[.inr (3,396,0,0,0),.inr (3,398,0,0,0)]),(75,[.inr (3,901,0,0,0),.inr (3,902,0,0,0)]),(77,[.inr (3,1032,0,0,0),.inr (3,1034,0,0,0)])] tG_L tG_C tG_Z (prQ [9])) 8 5 tG_A [] 0).map (·.1)=some (kB true) := by kernel_rfl
theorem tG_r8 : (callB (sx Tryz.prog tG_N [(6,24,25,0),(6,50,51,0),(6,136,137,1),(6,150,151,0),(6,6,7,0),(6,236,237,0),(6,382,383,0),(6,400,401,0),(6,416,417,0),(3,430,444,1),(3,431,445,1),(6,495,496,0),(6,606,607,0),(6,622,623,1),(6,509,510,0),(4,563,351,1),(4,564,352,1),(4,572,352,1),(4,573,352,1),(4,581,352,1),(4,582,352,1),(4,590,351,1),(4,591,352,1)] [(75,[.inr (3,92,0,0,0),.inr (3,93,0,0,0)]),(77,[.inr (3,223,0,0,0),.inr (3,225,0,0,0)]),(77,[.inr (3,396,0,0,0),.inr (3,398,0,0,0)]),(75,[.inr (3,1078,0,0,0),.inr (3,1079,0,0,0)]),(77,[.inr (3,1209,0,0,0),.inr (3,1211,0,0,0)])] tG_L tG_C tG_Z (prQ [9])) 8 5 tG_A [] 0).map (·.1)=some (kB true) := by kernel_rfl
theorem tG_r9 : (callB (sx Tryz.prog tG_N [(6,24,25,0),(6,50,51,0),(6,136,137,0),(6,6,7,1),(6,52,20,0),(6,236,237,1),(6,254,255,0),(6,268,269,0),(4,322,351,1),(4,323,352,1),(4,331,352,1),(4,332,352,1),(4,340,352,1),(4,341,352,1),(4,349,351,1),(4,350,352,1)] [(75,[.inr (3,92,0,0,0),.inr (3,93,0,0,0)]),(77,[.inr (3,223,0,0,0),.inr (3,225,0,0,0)]),(77,[.inr (3,395,0,0,0),.inr (3,397,0,0,0)]),(75,[.inr (3,695,0,0,0),.inr (3,696,0,0,0)]),(77,[.inr (3,826,0,0,0),.inr (3,828,0,0,0)])] tG_L tG_C tG_Z (prQ [9])) 8 5 tG_A [] 0).map (·.1)=some (kB true) := by kernel_rfl
theorem tG_r10 : (callB (sx Tryz.prog tG_N [(6,24,25,0),(6,50,51,0),(6,136,137,0),(6,6,7,1),(6,52,20,0),(6,236,237,0),(6,382,383,1),(6,675,676,0),(6,691,692,1),(6,254,255,0),(6,268,269,0),(4,322,351,1),(4,323,352,1),(4,331,352,1),(4,332,352,1),(4,340,352,1),(4,341,352,1),(4,349,351,1),(4,350,352,1)] [(75,[.inr (3,92,0,0,0),.inr (3,93,0,0,0)]),(77,[.inr (3,223,0,0,0),.inr (3,225,0,0,0)]),(77,[.inr (3,395,0,0,0),.inr (3,397,0,0,0)]),(75,[.inr (3,901,0,0,0),.inr (3,902,0,0,0)]),(77,[.inr (3,1032,0,0,0),.inr (3,1034,0,0,0)])] tG_L tG_C tG_Z (prQ [9])) 8 5 tG_A [] 0).map (·.1)=some (kB true) := by kernel_rfl
theorem tG_r11 : (callB (sx Tryz.prog tG_N [(6,24,25,0),(6,50,51,0),(6,136,137,0),(6,6,7,1),(6,52,20,0),(6,236,237,0),(6,382,383,0),(6,675,676,0),(6,691,692,0),(3,430,705,1),(3,431,706,1),(6,254,255,0),(6,461,462,0),(6,477,478,1),(6,268,269,0),(4,322,351,1),(4,323,352,1),(4,331,352,1),(4,332,352,1),(4,340,352,1),(4,341,352,1),(4,349,351,1),(4,350,352,1)] [(75,[.inr (3,92,0,0,0),.inr (3,93,0,0,0)]),(77,[.inr (3,223,0,0,0),.inr (3,225,0,0,0)]),(77,[.inr (3,395,0,0,0),.inr (3,397,0,0,0)]),(75,[.inr (3,1078,0,0,0),.inr (3,1079,0,0,0)]),(77,[.inr (3,1209,0,0,0),.inr (3,1211,0,0,0)])] tG_L tG_C tG_Z (prQ [9])) 8 5 tG_A [] 0).map (·.1)=some (kB true) := by kernel_rfl
theorem tG_r12 : (callB (sx Tryz.prog tG_N [(6,24,25,0),(6,50,51,0),(6,136,137,0),(6,6,7,0),(6,236,237,1),(6,495,496,0),(6,509,510,0),(4,563,351,1),(4,564,352,1),(4,572,352,1),(4,573,352,1),(4,581,352,1),(4,582,352,1),(4,590,351,1),(4,591,352,1)] [(75,[.inr (3,92,0,0,0),.inr (3,93,0,0,0)]),(77,[.inr (3,223,0,0,0),.inr (3,225,0,0,0)]),(77,[.inr (3,395,0,0,0),.inr (3,397,0,0,0)]),(75,[.inr (3,694,0,0,0),.inr (3,695,0,0,0)]),(77,[.inr (3,825,0,0,0),.inr (3,827,0,0,0)])] tG_L tG_C tG_Z (prQ [9])) 8 5 tG_A [] 0).map (·.1)=some (kB true) := by kernel_rfl
theorem tG_r13 : (callB (sx Tryz.prog tG_N [(6,24,25,0),(6,50,51,0),(6,136,137,0),(6,6,7,0),(6,236,237,0),(6,382,383,1),(6,675,676,0),(6,691,692,1),(6,495,496,0),(6,509,510,0),(4,563,351,1),(4,564,352,1),(4,572,352,1),(4,573,352,1),(4,581,352,1),(4,582,352,1),(4,590,351,1),(4,591,352,1)] [(75,[.inr (3,92,0,0,0),.inr (3,93,0,0,0)]),(77,[.inr (3,223,0,0,0),.inr (3,225,0,0,0)]),(77,[.inr (3,395,0,0,0),.inr (3,397,0,0,0)]),(75,[.inr (3,900,0,0,0),.inr (3,901,0,0,0)]),(77,[.inr (3,1031,0,0,0),.inr (3,1033,0,0,0)])] tG_L tG_C tG_Z (prQ [9])) 8 5 tG_A [] 0).map (·.1)=some (kB true) := by kernel_rfl
theorem tG_r14 : (callB (sx Tryz.prog tG_N [(6,24,25,0),(6,50,51,0),(6,136,137,0),(6,6,7,0),(6,236,237,0),(6,382,383,0),(6,675,676,0),(6,691,692,0),(3,430,705,1),(3,431,706,1),(6,495,496,0),(6,606,607,0),(6,622,623,1),(6,509,510,0),(4,563,351,1),(4,564,352,1),(4,572,352,1),(4,573,352,1),(4,581,352,1),(4,582,352,1),(4,590,351,1),(4,591,352,1)] [(75,[.inr (3,92,0,0,0),.inr (3,93,0,0,0)]),(77,[.inr (3,223,0,0,0),.inr (3,225,0,0,0)]),(77,[.inr (3,395,0,0,0),.inr (3,397,0,0,0)]),(75,[.inr (3,1077,0,0,0),.inr (3,1078,0,0,0)]),(77,[.inr (3,1208,0,0,0),.inr (3,1210,0,0,0)])] tG_L tG_C tG_Z (prQ [9])) 8 5 tG_A [] 0).map (·.1)=some (kB true) := by kernel_rfl
theorem tG_An {a b : Prop} (x : a) (y : b) : a∧b := ⟨x,y⟩
theorem tG_leaf {H : List (Nat × Nat × Nat × Nat)} {K : List (FuncId × List AC)} {k : Nat} {q : Nat→Rat} {σ : Nat→ByteArray} {args : List AV} {vs : List Value} {w : World} (hr : (callB (sx Tryz.prog tG_N H K tG_L tG_C tG_Z (prQ [9])) k 5 args [] 0).map (·.1)=some (kB true)) (hσ : ∀ j,(σ j).size≤1048576) (hq : ∀ (a : Nat) nd,tG_N[a]? = some nd→q a=valN σ q nd) (h0 : ∀ a,tG_N.length≤a→q a=0) (hH : hAll q H) (hp : PreS w) (hA : ∀ K,A2 (avOn (cOn (evS q σ) K (fun _ => none) w)) args vs) : Calls Tryz.prog 5 vs.toArray w fun e w' => Below w.heap.size w w'∧e=.returned (.bool true) :=
 run_toldQ' k (hy_ofA hσ tG_wf tG_sz tG_lt tG_cn hq h0 hH) (by simp [closed_turned]) (by kernel_rfl) hr hp (hA K)
theorem tG_walk {w : World} {kax kaz kbx kbz kcx kcz kdx kdz nax naz nbx nbz ncx ncz ndx ndz vx vz : ByteArray}  (skax : kax.size≤1048576) (skaz : kaz.size≤1048576) (skbx : kbx.size≤1048576) (skbz : kbz.size≤1048576) (skcx : kcx.size≤1048576) (skcz : kcz.size≤1048576) (skdx : kdx.size≤1048576) (skdz : kdz.size≤1048576) (snax : nax.size≤1048576) (snaz : naz.size≤1048576) (snbx : nbx.size≤1048576) (snbz : nbz.size≤1048576) (sncx : ncx.size≤1048576) (sncz : ncz.size≤1048576) (sndx : ndx.size≤1048576) (sndz : ndz.size≤1048576) (svx : vx.size≤1048576) (svz : vz.size≤1048576) (tab : Tab w) (mx : MaxL w) :
  Calls Tryz.prog 5 #[.agg #[.string kax,.string kaz,.string kbx,.string kbz,.string kcx,.string kcz,.string kdx,.string kdz],.agg #[.string nax,.string naz,.string nbx,.string nbz,.string ncx,.string ncz,.string ndx,.string ndz],.agg #[.string vx,.string vz]] w fun e w' => Below w.heap.size w w'∧e=.returned (.bool true) := by
 have hσ : ∀ j,(sgOf [kax,kaz,kbx,kbz,kcx,kcz,kdx,kdz,nax,naz,nbx,nbz,ncx,ncz,ndx,ndz,vx,vz] j).size≤1048576 := sgOf_size (by simp [skax,skaz,skbx,skbz,skcx,skcz,skdx,skdz,snax,snaz,snbx,snbz,sncx,sncz,sndx,sndz,svx,svz])
 obtain ⟨q,hq,h0⟩ := nodes_exist (sgOf [kax,kaz,kbx,kbz,kcx,kcz,kdx,kdz,nax,naz,nbx,nbz,ncx,ncz,ndx,ndz,vx,vz]) tG_N tG_wf
 have hA : ∀ K,A2 (avOn (cOn (evS q (sgOf [kax,kaz,kbx,kbz,kcx,kcz,kdx,kdz,nax,naz,nbx,nbz,ncx,ncz,ndx,ndz,vx,vz])) K (fun _ => none) w)) [(false,[(true,[.inr (2,0,0,0,0),.inr (2,1,0,0,0),.inr (2,2,0,0,0),.inr (2,3,0,0,0),.inr (2,4,0,0,0),.inr (2,5,0,0,0),.inr (2,6,0,0,0),.inr (2,7,0,0,0)])]),(false,[(true,[.inr (2,8,0,0,0),.inr (2,9,0,0,0),.inr (2,10,0,0,0),.inr (2,11,0,0,0),.inr (2,12,0,0,0),.inr (2,13,0,0,0),.inr (2,14,0,0,0),.inr (2,15,0,0,0)])]),(false,[(true,[.inr (2,16,0,0,0),.inr (2,17,0,0,0)])])] [.agg #[.string kax,.string kaz,.string kbx,.string kbz,.string kcx,.string kcz,.string kdx,.string kdz],.agg #[.string nax,.string naz,.string nbx,.string nbz,.string ncx,.string ncz,.string ndx,.string ndz],.agg #[.string vx,.string vz]] := fun K => ⟨⟨⟨[.string kax,.string kaz,.string kbx,.string kbz,.string kcx,.string kcz,.string kdx,.string kdz],rfl,rfl,rfl,rfl,rfl,rfl,rfl,rfl,rfl,trivial⟩,trivial⟩,⟨⟨[.string nax,.string naz,.string nbx,.string nbz,.string ncx,.string ncz,.string ndx,.string ndz],rfl,rfl,rfl,rfl,rfl,rfl,rfl,rfl,rfl,trivial⟩,trivial⟩,⟨⟨[.string vx,.string vz],rfl,rfl,rfl,trivial⟩,trivial⟩,trivial⟩
 by_cases a_6_24_25 : q 24=0∧q 25=0
 ·
  exact tG_leaf tG_r0 hσ hq h0 (tG_An (hT a_6_24_25) trivial) ⟨tab,mx⟩ hA
 ·
  by_cases a_6_50_51 : q 50=0∧q 51=0
  ·
   by_cases a_6_6_7 : q 6=0∧q 7=0
   ·
    have gFB := tG_FB hq a_6_24_25 a_6_6_7
    have a_6_52_20 : ¬ (q 52=0∧q 20=0) := gFB
    exact tG_leaf tG_r1 hσ hq h0 (tG_An (hF a_6_24_25) (tG_An (hT a_6_50_51) (tG_An (hT a_6_6_7) (tG_An (hF a_6_52_20) trivial)))) ⟨tab,mx⟩ hA
   ·
    exact tG_leaf tG_r2 hσ hq h0 (tG_An (hF a_6_24_25) (tG_An (hT a_6_50_51) (tG_An (hF a_6_6_7) trivial))) ⟨tab,mx⟩ hA
  ·
   by_cases a_6_136_137 : q 136=0∧q 137=0
   ·
    have gFA := tG_FA hq a_6_24_25 a_6_50_51 a_6_136_137
    have a_6_150_151 : ¬ (q 150=0∧q 151=0) := gFA
    by_cases a_6_6_7 : q 6=0∧q 7=0
    ·
     have gFB := tG_FB hq a_6_24_25 a_6_6_7
     have a_6_52_20 : ¬ (q 52=0∧q 20=0) := gFB
     by_cases a_6_236_237 : q 236=0∧q 237=0
     ·
      have gB1 := tG_B1 hq a_6_24_25 a_6_6_7
      have a_6_254_255 : ¬ (q 254=0∧q 255=0) := gB1.1
      have a_6_268_269 : ¬ (q 268=0∧q 269=0) := gB1.2.1
      have a_4_322_351 : q 322=q 351 := gB1.2.2.1
      have a_4_323_352 : q 323=q 352 := gB1.2.2.2.1
      have a_4_331_352 : q 331=q 352 := gB1.2.2.2.2.1
      have a_4_332_352 : q 332=q 352 := gB1.2.2.2.2.2.1
      have a_4_340_352 : q 340=q 352 := gB1.2.2.2.2.2.2.1
      have a_4_341_352 : q 341=q 352 := gB1.2.2.2.2.2.2.2.1
      have a_4_349_351 : q 349=q 351 := gB1.2.2.2.2.2.2.2.2.1
      have a_4_350_352 : q 350=q 352 := gB1.2.2.2.2.2.2.2.2.2
      exact tG_leaf tG_r3 hσ hq h0 (tG_An (hF a_6_24_25) (tG_An (hF a_6_50_51) (tG_An (hT a_6_136_137) (tG_An (hF a_6_150_151) (tG_An (hT a_6_6_7) (tG_An (hF a_6_52_20) (tG_An (hT a_6_236_237) (tG_An (hF a_6_254_255) (tG_An (hF a_6_268_269) (tG_An (hT a_4_322_351) (tG_An (hT a_4_323_352) (tG_An (hT a_4_331_352) (tG_An (hT a_4_332_352) (tG_An (hT a_4_340_352) (tG_An (hT a_4_341_352) (tG_An (hT a_4_349_351) (tG_An (hT a_4_350_352) trivial))))))))))))))))) ⟨tab,mx⟩ hA
     ·
      by_cases a_6_382_383 : q 382=0∧q 383=0
      ·
       have gA1 := tG_A1 hq a_6_24_25 a_6_50_51 a_6_136_137 a_6_236_237
       have a_6_400_401 : ¬ (q 400=0∧q 401=0) := gA1.1
       have a_6_416_417 : q 416=0∧q 417=0 := gA1.2.1 a_6_382_383
       have gB1 := tG_B1 hq a_6_24_25 a_6_6_7
       have a_6_254_255 : ¬ (q 254=0∧q 255=0) := gB1.1
       have a_6_268_269 : ¬ (q 268=0∧q 269=0) := gB1.2.1
       have a_4_322_351 : q 322=q 351 := gB1.2.2.1
       have a_4_323_352 : q 323=q 352 := gB1.2.2.2.1
       have a_4_331_352 : q 331=q 352 := gB1.2.2.2.2.1
       have a_4_332_352 : q 332=q 352 := gB1.2.2.2.2.2.1
       have a_4_340_352 : q 340=q 352 := gB1.2.2.2.2.2.2.1
       have a_4_341_352 : q 341=q 352 := gB1.2.2.2.2.2.2.2.1
       have a_4_349_351 : q 349=q 351 := gB1.2.2.2.2.2.2.2.2.1
       have a_4_350_352 : q 350=q 352 := gB1.2.2.2.2.2.2.2.2.2
       exact tG_leaf tG_r4 hσ hq h0 (tG_An (hF a_6_24_25) (tG_An (hF a_6_50_51) (tG_An (hT a_6_136_137) (tG_An (hF a_6_150_151) (tG_An (hT a_6_6_7) (tG_An (hF a_6_52_20) (tG_An (hF a_6_236_237) (tG_An (hT a_6_382_383) (tG_An (hF a_6_400_401) (tG_An (hT a_6_416_417) (tG_An (hF a_6_254_255) (tG_An (hF a_6_268_269) (tG_An (hT a_4_322_351) (tG_An (hT a_4_323_352) (tG_An (hT a_4_331_352) (tG_An (hT a_4_332_352) (tG_An (hT a_4_340_352) (tG_An (hT a_4_341_352) (tG_An (hT a_4_349_351) (tG_An (hT a_4_350_352) trivial)))))))))))))))))))) ⟨tab,mx⟩ hA
      ·
       have gA1 := tG_A1 hq a_6_24_25 a_6_50_51 a_6_136_137 a_6_236_237
       have a_6_400_401 : ¬ (q 400=0∧q 401=0) := gA1.1
       have a_6_416_417 : ¬ (q 416=0∧q 417=0) := gA1.2.2.1 a_6_382_383
       have a_3_430_444 : q 430=q 444 := gA1.2.2.2.1 a_6_382_383
       have a_3_431_445 : q 431=q 445 := gA1.2.2.2.2 a_6_382_383
       have gB1 := tG_B1 hq a_6_24_25 a_6_6_7
       have a_6_254_255 : ¬ (q 254=0∧q 255=0) := gB1.1
       have gX1 := tG_X1 hq a_6_24_25 a_6_6_7 a_6_236_237 a_6_382_383
       have a_6_461_462 : ¬ (q 461=0∧q 462=0) := gX1.1
       have a_6_477_478 : q 477=0∧q 478=0 := gX1.2
       have a_6_268_269 : ¬ (q 268=0∧q 269=0) := gB1.2.1
       have a_4_322_351 : q 322=q 351 := gB1.2.2.1
       have a_4_323_352 : q 323=q 352 := gB1.2.2.2.1
       have a_4_331_352 : q 331=q 352 := gB1.2.2.2.2.1
       have a_4_332_352 : q 332=q 352 := gB1.2.2.2.2.2.1
       have a_4_340_352 : q 340=q 352 := gB1.2.2.2.2.2.2.1
       have a_4_341_352 : q 341=q 352 := gB1.2.2.2.2.2.2.2.1
       have a_4_349_351 : q 349=q 351 := gB1.2.2.2.2.2.2.2.2.1
       have a_4_350_352 : q 350=q 352 := gB1.2.2.2.2.2.2.2.2.2
       exact tG_leaf tG_r5 hσ hq h0 (tG_An (hF a_6_24_25) (tG_An (hF a_6_50_51) (tG_An (hT a_6_136_137) (tG_An (hF a_6_150_151) (tG_An (hT a_6_6_7) (tG_An (hF a_6_52_20) (tG_An (hF a_6_236_237) (tG_An (hF a_6_382_383) (tG_An (hF a_6_400_401) (tG_An (hF a_6_416_417) (tG_An (hT a_3_430_444) (tG_An (hT a_3_431_445) (tG_An (hF a_6_254_255) (tG_An (hF a_6_461_462) (tG_An (hT a_6_477_478) (tG_An (hF a_6_268_269) (tG_An (hT a_4_322_351) (tG_An (hT a_4_323_352) (tG_An (hT a_4_331_352) (tG_An (hT a_4_332_352) (tG_An (hT a_4_340_352) (tG_An (hT a_4_341_352) (tG_An (hT a_4_349_351) (tG_An (hT a_4_350_352) trivial)))))))))))))))))))))))) ⟨tab,mx⟩ hA
    ·
     by_cases a_6_236_237 : q 236=0∧q 237=0
     ·
      have gB0 := tG_B0 hq a_6_24_25 a_6_6_7
      have a_6_495_496 : ¬ (q 495=0∧q 496=0) := gB0.1
      have a_6_509_510 : ¬ (q 509=0∧q 510=0) := gB0.2.1
      have a_4_563_351 : q 563=q 351 := gB0.2.2.1
      have a_4_564_352 : q 564=q 352 := gB0.2.2.2.1
      have a_4_572_352 : q 572=q 352 := gB0.2.2.2.2.1
      have a_4_573_352 : q 573=q 352 := gB0.2.2.2.2.2.1
      have a_4_581_352 : q 581=q 352 := gB0.2.2.2.2.2.2.1
      have a_4_582_352 : q 582=q 352 := gB0.2.2.2.2.2.2.2.1
      have a_4_590_351 : q 590=q 351 := gB0.2.2.2.2.2.2.2.2.1
      have a_4_591_352 : q 591=q 352 := gB0.2.2.2.2.2.2.2.2.2
      exact tG_leaf tG_r6 hσ hq h0 (tG_An (hF a_6_24_25) (tG_An (hF a_6_50_51) (tG_An (hT a_6_136_137) (tG_An (hF a_6_150_151) (tG_An (hF a_6_6_7) (tG_An (hT a_6_236_237) (tG_An (hF a_6_495_496) (tG_An (hF a_6_509_510) (tG_An (hT a_4_563_351) (tG_An (hT a_4_564_352) (tG_An (hT a_4_572_352) (tG_An (hT a_4_573_352) (tG_An (hT a_4_581_352) (tG_An (hT a_4_582_352) (tG_An (hT a_4_590_351) (tG_An (hT a_4_591_352) trivial)))))))))))))))) ⟨tab,mx⟩ hA
     ·
      by_cases a_6_382_383 : q 382=0∧q 383=0
      ·
       have gA1 := tG_A1 hq a_6_24_25 a_6_50_51 a_6_136_137 a_6_236_237
       have a_6_400_401 : ¬ (q 400=0∧q 401=0) := gA1.1
       have a_6_416_417 : q 416=0∧q 417=0 := gA1.2.1 a_6_382_383
       have gB0 := tG_B0 hq a_6_24_25 a_6_6_7
       have a_6_495_496 : ¬ (q 495=0∧q 496=0) := gB0.1
       have a_6_509_510 : ¬ (q 509=0∧q 510=0) := gB0.2.1
       have a_4_563_351 : q 563=q 351 := gB0.2.2.1
       have a_4_564_352 : q 564=q 352 := gB0.2.2.2.1
       have a_4_572_352 : q 572=q 352 := gB0.2.2.2.2.1
       have a_4_573_352 : q 573=q 352 := gB0.2.2.2.2.2.1
       have a_4_581_352 : q 581=q 352 := gB0.2.2.2.2.2.2.1
       have a_4_582_352 : q 582=q 352 := gB0.2.2.2.2.2.2.2.1
       have a_4_590_351 : q 590=q 351 := gB0.2.2.2.2.2.2.2.2.1
       have a_4_591_352 : q 591=q 352 := gB0.2.2.2.2.2.2.2.2.2
       exact tG_leaf tG_r7 hσ hq h0 (tG_An (hF a_6_24_25) (tG_An (hF a_6_50_51) (tG_An (hT a_6_136_137) (tG_An (hF a_6_150_151) (tG_An (hF a_6_6_7) (tG_An (hF a_6_236_237) (tG_An (hT a_6_382_383) (tG_An (hF a_6_400_401) (tG_An (hT a_6_416_417) (tG_An (hF a_6_495_496) (tG_An (hF a_6_509_510) (tG_An (hT a_4_563_351) (tG_An (hT a_4_564_352) (tG_An (hT a_4_572_352) (tG_An (hT a_4_573_352) (tG_An (hT a_4_581_352) (tG_An (hT a_4_582_352) (tG_An (hT a_4_590_351) (tG_An (hT a_4_591_352) trivial))))))))))))))))))) ⟨tab,mx⟩ hA
      ·
       have gA1 := tG_A1 hq a_6_24_25 a_6_50_51 a_6_136_137 a_6_236_237
       have a_6_400_401 : ¬ (q 400=0∧q 401=0) := gA1.1
       have a_6_416_417 : ¬ (q 416=0∧q 417=0) := gA1.2.2.1 a_6_382_383
       have a_3_430_444 : q 430=q 444 := gA1.2.2.2.1 a_6_382_383
       have a_3_431_445 : q 431=q 445 := gA1.2.2.2.2 a_6_382_383
       have gB0 := tG_B0 hq a_6_24_25 a_6_6_7
       have a_6_495_496 : ¬ (q 495=0∧q 496=0) := gB0.1
       have gX0 := tG_X0 hq a_6_24_25 a_6_6_7 a_6_236_237 a_6_382_383
       have a_6_606_607 : ¬ (q 606=0∧q 607=0) := gX0.1
       have a_6_622_623 : q 622=0∧q 623=0 := gX0.2
       have a_6_509_510 : ¬ (q 509=0∧q 510=0) := gB0.2.1
       have a_4_563_351 : q 563=q 351 := gB0.2.2.1
       have a_4_564_352 : q 564=q 352 := gB0.2.2.2.1
       have a_4_572_352 : q 572=q 352 := gB0.2.2.2.2.1
       have a_4_573_352 : q 573=q 352 := gB0.2.2.2.2.2.1
       have a_4_581_352 : q 581=q 352 := gB0.2.2.2.2.2.2.1
       have a_4_582_352 : q 582=q 352 := gB0.2.2.2.2.2.2.2.1
       have a_4_590_351 : q 590=q 351 := gB0.2.2.2.2.2.2.2.2.1
       have a_4_591_352 : q 591=q 352 := gB0.2.2.2.2.2.2.2.2.2
       exact tG_leaf tG_r8 hσ hq h0 (tG_An (hF a_6_24_25) (tG_An (hF a_6_50_51) (tG_An (hT a_6_136_137) (tG_An (hF a_6_150_151) (tG_An (hF a_6_6_7) (tG_An (hF a_6_236_237) (tG_An (hF a_6_382_383) (tG_An (hF a_6_400_401) (tG_An (hF a_6_416_417) (tG_An (hT a_3_430_444) (tG_An (hT a_3_431_445) (tG_An (hF a_6_495_496) (tG_An (hF a_6_606_607) (tG_An (hT a_6_622_623) (tG_An (hF a_6_509_510) (tG_An (hT a_4_563_351) (tG_An (hT a_4_564_352) (tG_An (hT a_4_572_352) (tG_An (hT a_4_573_352) (tG_An (hT a_4_581_352) (tG_An (hT a_4_582_352) (tG_An (hT a_4_590_351) (tG_An (hT a_4_591_352) trivial))))))))))))))))))))))) ⟨tab,mx⟩ hA
   ·
    by_cases a_6_6_7 : q 6=0∧q 7=0
    ·
     have gFB := tG_FB hq a_6_24_25 a_6_6_7
     have a_6_52_20 : ¬ (q 52=0∧q 20=0) := gFB
     by_cases a_6_236_237 : q 236=0∧q 237=0
     ·
      have gB1 := tG_B1 hq a_6_24_25 a_6_6_7
      have a_6_254_255 : ¬ (q 254=0∧q 255=0) := gB1.1
      have a_6_268_269 : ¬ (q 268=0∧q 269=0) := gB1.2.1
      have a_4_322_351 : q 322=q 351 := gB1.2.2.1
      have a_4_323_352 : q 323=q 352 := gB1.2.2.2.1
      have a_4_331_352 : q 331=q 352 := gB1.2.2.2.2.1
      have a_4_332_352 : q 332=q 352 := gB1.2.2.2.2.2.1
      have a_4_340_352 : q 340=q 352 := gB1.2.2.2.2.2.2.1
      have a_4_341_352 : q 341=q 352 := gB1.2.2.2.2.2.2.2.1
      have a_4_349_351 : q 349=q 351 := gB1.2.2.2.2.2.2.2.2.1
      have a_4_350_352 : q 350=q 352 := gB1.2.2.2.2.2.2.2.2.2
      exact tG_leaf tG_r9 hσ hq h0 (tG_An (hF a_6_24_25) (tG_An (hF a_6_50_51) (tG_An (hF a_6_136_137) (tG_An (hT a_6_6_7) (tG_An (hF a_6_52_20) (tG_An (hT a_6_236_237) (tG_An (hF a_6_254_255) (tG_An (hF a_6_268_269) (tG_An (hT a_4_322_351) (tG_An (hT a_4_323_352) (tG_An (hT a_4_331_352) (tG_An (hT a_4_332_352) (tG_An (hT a_4_340_352) (tG_An (hT a_4_341_352) (tG_An (hT a_4_349_351) (tG_An (hT a_4_350_352) trivial)))))))))))))))) ⟨tab,mx⟩ hA
     ·
      by_cases a_6_382_383 : q 382=0∧q 383=0
      ·
       have gA0 := tG_A0 hq a_6_24_25 a_6_50_51 a_6_136_137 a_6_236_237
       have a_6_675_676 : ¬ (q 675=0∧q 676=0) := gA0.1
       have a_6_691_692 : q 691=0∧q 692=0 := gA0.2.1 a_6_382_383
       have gB1 := tG_B1 hq a_6_24_25 a_6_6_7
       have a_6_254_255 : ¬ (q 254=0∧q 255=0) := gB1.1
       have a_6_268_269 : ¬ (q 268=0∧q 269=0) := gB1.2.1
       have a_4_322_351 : q 322=q 351 := gB1.2.2.1
       have a_4_323_352 : q 323=q 352 := gB1.2.2.2.1
       have a_4_331_352 : q 331=q 352 := gB1.2.2.2.2.1
       have a_4_332_352 : q 332=q 352 := gB1.2.2.2.2.2.1
       have a_4_340_352 : q 340=q 352 := gB1.2.2.2.2.2.2.1
       have a_4_341_352 : q 341=q 352 := gB1.2.2.2.2.2.2.2.1
       have a_4_349_351 : q 349=q 351 := gB1.2.2.2.2.2.2.2.2.1
       have a_4_350_352 : q 350=q 352 := gB1.2.2.2.2.2.2.2.2.2
       exact tG_leaf tG_r10 hσ hq h0 (tG_An (hF a_6_24_25) (tG_An (hF a_6_50_51) (tG_An (hF a_6_136_137) (tG_An (hT a_6_6_7) (tG_An (hF a_6_52_20) (tG_An (hF a_6_236_237) (tG_An (hT a_6_382_383) (tG_An (hF a_6_675_676) (tG_An (hT a_6_691_692) (tG_An (hF a_6_254_255) (tG_An (hF a_6_268_269) (tG_An (hT a_4_322_351) (tG_An (hT a_4_323_352) (tG_An (hT a_4_331_352) (tG_An (hT a_4_332_352) (tG_An (hT a_4_340_352) (tG_An (hT a_4_341_352) (tG_An (hT a_4_349_351) (tG_An (hT a_4_350_352) trivial))))))))))))))))))) ⟨tab,mx⟩ hA
      ·
       have gA0 := tG_A0 hq a_6_24_25 a_6_50_51 a_6_136_137 a_6_236_237
       have a_6_675_676 : ¬ (q 675=0∧q 676=0) := gA0.1
       have a_6_691_692 : ¬ (q 691=0∧q 692=0) := gA0.2.2.1 a_6_382_383
       have a_3_430_705 : q 430=q 705 := gA0.2.2.2.1 a_6_382_383
       have a_3_431_706 : q 431=q 706 := gA0.2.2.2.2 a_6_382_383
       have gB1 := tG_B1 hq a_6_24_25 a_6_6_7
       have a_6_254_255 : ¬ (q 254=0∧q 255=0) := gB1.1
       have gX1 := tG_X1 hq a_6_24_25 a_6_6_7 a_6_236_237 a_6_382_383
       have a_6_461_462 : ¬ (q 461=0∧q 462=0) := gX1.1
       have a_6_477_478 : q 477=0∧q 478=0 := gX1.2
       have a_6_268_269 : ¬ (q 268=0∧q 269=0) := gB1.2.1
       have a_4_322_351 : q 322=q 351 := gB1.2.2.1
       have a_4_323_352 : q 323=q 352 := gB1.2.2.2.1
       have a_4_331_352 : q 331=q 352 := gB1.2.2.2.2.1
       have a_4_332_352 : q 332=q 352 := gB1.2.2.2.2.2.1
       have a_4_340_352 : q 340=q 352 := gB1.2.2.2.2.2.2.1
       have a_4_341_352 : q 341=q 352 := gB1.2.2.2.2.2.2.2.1
       have a_4_349_351 : q 349=q 351 := gB1.2.2.2.2.2.2.2.2.1
       have a_4_350_352 : q 350=q 352 := gB1.2.2.2.2.2.2.2.2.2
       exact tG_leaf tG_r11 hσ hq h0 (tG_An (hF a_6_24_25) (tG_An (hF a_6_50_51) (tG_An (hF a_6_136_137) (tG_An (hT a_6_6_7) (tG_An (hF a_6_52_20) (tG_An (hF a_6_236_237) (tG_An (hF a_6_382_383) (tG_An (hF a_6_675_676) (tG_An (hF a_6_691_692) (tG_An (hT a_3_430_705) (tG_An (hT a_3_431_706) (tG_An (hF a_6_254_255) (tG_An (hF a_6_461_462) (tG_An (hT a_6_477_478) (tG_An (hF a_6_268_269) (tG_An (hT a_4_322_351) (tG_An (hT a_4_323_352) (tG_An (hT a_4_331_352) (tG_An (hT a_4_332_352) (tG_An (hT a_4_340_352) (tG_An (hT a_4_341_352) (tG_An (hT a_4_349_351) (tG_An (hT a_4_350_352) trivial))))))))))))))))))))))) ⟨tab,mx⟩ hA
    ·
     by_cases a_6_236_237 : q 236=0∧q 237=0
     ·
      have gB0 := tG_B0 hq a_6_24_25 a_6_6_7
      have a_6_495_496 : ¬ (q 495=0∧q 496=0) := gB0.1
      have a_6_509_510 : ¬ (q 509=0∧q 510=0) := gB0.2.1
      have a_4_563_351 : q 563=q 351 := gB0.2.2.1
      have a_4_564_352 : q 564=q 352 := gB0.2.2.2.1
      have a_4_572_352 : q 572=q 352 := gB0.2.2.2.2.1
      have a_4_573_352 : q 573=q 352 := gB0.2.2.2.2.2.1
      have a_4_581_352 : q 581=q 352 := gB0.2.2.2.2.2.2.1
      have a_4_582_352 : q 582=q 352 := gB0.2.2.2.2.2.2.2.1
      have a_4_590_351 : q 590=q 351 := gB0.2.2.2.2.2.2.2.2.1
      have a_4_591_352 : q 591=q 352 := gB0.2.2.2.2.2.2.2.2.2
      exact tG_leaf tG_r12 hσ hq h0 (tG_An (hF a_6_24_25) (tG_An (hF a_6_50_51) (tG_An (hF a_6_136_137) (tG_An (hF a_6_6_7) (tG_An (hT a_6_236_237) (tG_An (hF a_6_495_496) (tG_An (hF a_6_509_510) (tG_An (hT a_4_563_351) (tG_An (hT a_4_564_352) (tG_An (hT a_4_572_352) (tG_An (hT a_4_573_352) (tG_An (hT a_4_581_352) (tG_An (hT a_4_582_352) (tG_An (hT a_4_590_351) (tG_An (hT a_4_591_352) trivial))))))))))))))) ⟨tab,mx⟩ hA
     ·
      by_cases a_6_382_383 : q 382=0∧q 383=0
      ·
       have gA0 := tG_A0 hq a_6_24_25 a_6_50_51 a_6_136_137 a_6_236_237
       have a_6_675_676 : ¬ (q 675=0∧q 676=0) := gA0.1
       have a_6_691_692 : q 691=0∧q 692=0 := gA0.2.1 a_6_382_383
       have gB0 := tG_B0 hq a_6_24_25 a_6_6_7
       have a_6_495_496 : ¬ (q 495=0∧q 496=0) := gB0.1
       have a_6_509_510 : ¬ (q 509=0∧q 510=0) := gB0.2.1
       have a_4_563_351 : q 563=q 351 := gB0.2.2.1
       have a_4_564_352 : q 564=q 352 := gB0.2.2.2.1
       have a_4_572_352 : q 572=q 352 := gB0.2.2.2.2.1
       have a_4_573_352 : q 573=q 352 := gB0.2.2.2.2.2.1
       have a_4_581_352 : q 581=q 352 := gB0.2.2.2.2.2.2.1
       have a_4_582_352 : q 582=q 352 := gB0.2.2.2.2.2.2.2.1
       have a_4_590_351 : q 590=q 351 := gB0.2.2.2.2.2.2.2.2.1
       have a_4_591_352 : q 591=q 352 := gB0.2.2.2.2.2.2.2.2.2
       exact tG_leaf tG_r13 hσ hq h0 (tG_An (hF a_6_24_25) (tG_An (hF a_6_50_51) (tG_An (hF a_6_136_137) (tG_An (hF a_6_6_7) (tG_An (hF a_6_236_237) (tG_An (hT a_6_382_383) (tG_An (hF a_6_675_676) (tG_An (hT a_6_691_692) (tG_An (hF a_6_495_496) (tG_An (hF a_6_509_510) (tG_An (hT a_4_563_351) (tG_An (hT a_4_564_352) (tG_An (hT a_4_572_352) (tG_An (hT a_4_573_352) (tG_An (hT a_4_581_352) (tG_An (hT a_4_582_352) (tG_An (hT a_4_590_351) (tG_An (hT a_4_591_352) trivial)))))))))))))))))) ⟨tab,mx⟩ hA
      ·
       have gA0 := tG_A0 hq a_6_24_25 a_6_50_51 a_6_136_137 a_6_236_237
       have a_6_675_676 : ¬ (q 675=0∧q 676=0) := gA0.1
       have a_6_691_692 : ¬ (q 691=0∧q 692=0) := gA0.2.2.1 a_6_382_383
       have a_3_430_705 : q 430=q 705 := gA0.2.2.2.1 a_6_382_383
       have a_3_431_706 : q 431=q 706 := gA0.2.2.2.2 a_6_382_383
       have gB0 := tG_B0 hq a_6_24_25 a_6_6_7
       have a_6_495_496 : ¬ (q 495=0∧q 496=0) := gB0.1
       have gX0 := tG_X0 hq a_6_24_25 a_6_6_7 a_6_236_237 a_6_382_383
       have a_6_606_607 : ¬ (q 606=0∧q 607=0) := gX0.1
       have a_6_622_623 : q 622=0∧q 623=0 := gX0.2
       have a_6_509_510 : ¬ (q 509=0∧q 510=0) := gB0.2.1
       have a_4_563_351 : q 563=q 351 := gB0.2.2.1
       have a_4_564_352 : q 564=q 352 := gB0.2.2.2.1
       have a_4_572_352 : q 572=q 352 := gB0.2.2.2.2.1
       have a_4_573_352 : q 573=q 352 := gB0.2.2.2.2.2.1
       have a_4_581_352 : q 581=q 352 := gB0.2.2.2.2.2.2.1
       have a_4_582_352 : q 582=q 352 := gB0.2.2.2.2.2.2.2.1
       have a_4_590_351 : q 590=q 351 := gB0.2.2.2.2.2.2.2.2.1
       have a_4_591_352 : q 591=q 352 := gB0.2.2.2.2.2.2.2.2.2
       exact tG_leaf tG_r14 hσ hq h0 (tG_An (hF a_6_24_25) (tG_An (hF a_6_50_51) (tG_An (hF a_6_136_137) (tG_An (hF a_6_6_7) (tG_An (hF a_6_236_237) (tG_An (hF a_6_382_383) (tG_An (hF a_6_675_676) (tG_An (hF a_6_691_692) (tG_An (hT a_3_430_705) (tG_An (hT a_3_431_706) (tG_An (hF a_6_495_496) (tG_An (hF a_6_606_607) (tG_An (hT a_6_622_623) (tG_An (hF a_6_509_510) (tG_An (hT a_4_563_351) (tG_An (hT a_4_564_352) (tG_An (hT a_4_572_352) (tG_An (hT a_4_573_352) (tG_An (hT a_4_581_352) (tG_An (hT a_4_582_352) (tG_An (hT a_4_590_351) (tG_An (hT a_4_591_352) trivial)))))))))))))))))))))) ⟨tab,mx⟩ hA
end Go.Proofs.YtobmjfjkpodhmaaGreatDoor
