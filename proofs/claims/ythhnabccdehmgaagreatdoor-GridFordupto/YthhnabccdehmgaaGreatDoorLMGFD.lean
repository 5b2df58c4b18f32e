/- Part 15 of the walks and of the mathematics under them: CFgridded MGFD. -/
import Derived.Test.YthhnabccdehmgaaGreatDoorA14
set_option maxHeartbeats 16000000
set_option maxRecDepth 100000
/- CFgridded -/
namespace Go.Proofs.YthhnabccdehmgaaGreatDoor
open Go.RowKit Cx
theorem GH : Closed 6 :=
 Sa (N := [(0,[0,3,1]),(0,[0,1,1]),(0,[0,0,1]),(2,[1,1]),(2,[2,1]),(3,[3,0]),(2,[1,3]),(2,[2,4]),(3,[6,0]),(2,[1,6]),(2,[2,7]),(3,[9,0]),(2,[6,3]),(2,[7,4]),(3,[12,0]),(2,[3,1]),(2,[4,1]),(3,[15,0]),(2,[3,15]),(2,[4,16]),(3,[18,0]),(2,[15,1]),(2,[16,1]),(3,[21,0]),(6,[2,1]),(6,[7,6]),(6,[4,3]),(6,[16,15]),(6,[1,1]),(0,[0,5,3]),(9,[29]),(10,[29]),(11,[30,31]),(4,[31,32]),(3,[30,33]),(11,[31,34]),(4,[34,35]),(3,[31,36]),(11,[34,37]),(4,[37,38]),(3,[34,39]),(3,[38,1]),(4,[2,1]),(4,[1,1]),(2,[1,42]),(2,[2,43]),(2,[44,2]),(2,[45,1]),(6,[47,46]),(4,[44,1]),(4,[45,1]),(2,[2,49]),(2,[1,50]),(2,[51,44]),(2,[52,45]),(6,[54,53]),(4,[51,1]),(4,[52,1]),(2,[44,56]),(2,[45,57]),(2,[58,51]),(2,[59,52]),(6,[61,60]),(0,[0,5,1]),(9,[1]),(10,[1]),(3,[65,1]),(9,[2]),(10,[2]),(3,[68,1]),(9,[63]),(10,[63]),(3,[71,1]),(4,[2,63]),(3,[43,73]),(4,[2,2]),(2,[43,75]),(4,[1,63]),(2,[77,42]),(4,[63,63]),(2,[79,43]),(3,[76,80]),(0,[0,2,1]),(4,[78,82]),(3,[76,83]),(4,[76,82]),(11,[84,85]),(5,[86]),(4,[1,87]),(4,[2,87]),(3,[63,88]),(3,[1,89]),(4,[76,87]),(3,[78,92]),(2,[78,93]),(4,[94,87]),(3,[80,95]),(3,[76,96]),(4,[93,82]),(3,[76,98]),(11,[99,85]),(5,[100]),(0,[0,7,5]),(9,[102]),(10,[102]),(11,[103,104]),(4,[104,105]),(3,[103,106]),(11,[104,107]),(4,[107,108]),(3,[104,109]),(11,[107,110]),(4,[110,111]),(3,[107,112]),(4,[2,105]),(4,[1,105]),(2,[1,114]),(2,[2,115]),(4,[116,108]),(4,[117,108]),(2,[2,118]),(2,[1,119]),(4,[120,111]),(4,[121,111]),(2,[116,122]),(2,[117,123]),(6,[117,116]),(6,[121,120]),(6,[125,124]),(0,[0,1,3]),(0,[0,1,2]),(0,[0,2,3]),(0,[0,3,2])]) (H := [(2,5,0,0),(2,8,0,0),(2,11,0,1),(2,14,0,1),(2,17,0,0),(2,20,0,1),(2,23,0,1),(2,29,0,1),(0,31,0,0),(0,34,0,0),(0,37,0,0),(0,40,0,1),(3,32,1,1),(3,35,1,1),(3,41,1,1),(0,66,0,1),(0,69,0,1),(0,72,0,1),(0,74,0,0),(2,81,0,0),(0,87,0,0),(2,97,0,0),(0,101,0,1),(0,104,0,0),(0,107,0,0),(0,110,0,0),(0,113,0,1),(4,24,2,1),(4,25,129,1),(4,26,130,1),(4,27,131,1),(4,28,1,1),(4,62,29,1),(4,1,1,1),(4,2,2,1),(4,90,2,1),(4,91,1,1),(4,126,1,1),(4,127,132,1),(4,128,102,1)]) (K := [(122,[.inr (3,0,0,0,0),.inr (3,7,0,0,0),.inr (3,6,0,0,0)]),(71,[.inr (3,97,0,0,0),.inr (3,96,0,0,0)]),(71,[.inr (3,219,0,0,0),.inr (3,218,0,0,0)])]) (L := [([53,47,51],29),([49],1),([48],2),([53],63),([55,47,53],102),([49,47,51],129),([49,47,50],130),([50,47,51],131),([51,47,50],132)]) (C := [([48],2),([49,47,51],129),([49,47,50],130),([50,47,51],131),([49],1),([53,47,51],29),([51,47,50],132),([55,47,53],102)]) (Z := [3,2,2,5,5,9,8,8,12,11,11,15,14,14,18,8,8,12,14,14,18,11,11,15,4,16,10,16,4,4,4,4,8,12,17,21,38,43,60,103,121,63,4,4,7,7,10,10,20,9,9,12,12,20,20,40,14,14,22,22,35,35,70,4,2,2,5,2,2,5,4,4,7,6,11,4,9,6,11,8,13,23,3,14,24,12,36,36,38,38,43,41,45,57,69,105,119,129,60,70,82,82,4,4,4,8,12,17,21,38,43,60,103,121,10,10,13,13,34,34,37,37,97,97,111,111,26,74,222,3,3,3,3]) (cl := []) 8 (fun _ h => by cases h) (by kernel_rfl) (by kernel_rfl) (by kernel_rfl) (by kernel_rfl) (by kernel_rfl) (by kernel_rfl) (by kernel_rfl)
end Go.Proofs.YthhnabccdehmgaaGreatDoor
/- MGFD -/
namespace Go.Proofs.YthhnabccdehmgaaGreatDoor
open Go.RowKit Cx
theorem Wx : Con Tryz.prog QY 6 [] (Bo true) := fun w vs hp h => by
 obtain rfl := (show vs=[] from by match vs,h with | [],_ => rfl)
 exact (GH w hp).mono fun e w' ⟨hb,e1⟩ => ⟨hb,_,e1,rfl⟩
theorem Pr (x : Rat) : x=(x.num : Rat) / ((x.den : Int) : Rat) := by
 have h : ((x.den : Int) : Rat) ≠ 0 := fun e => by
  have := x.den_nz
  have h2 : (x.den : Int)=0 := by exact_mod_cast e
  omega
 have hm' : x*((x.den : Int) : Rat)=(x.num : Rat) := by
  have e1 : ((x.den : Int) : Rat)=mkRat (x.den : Int) 1 := (Rat.mkRat_one _).symm
  have e2 : (x.num : Rat)=mkRat x.num 1 := (Rat.mkRat_one _).symm
  rw [e1,e2]
  conv => lhs; lhs; rw [← Rat.mkRat_self x]
  rw [Rat.mkRat_mul_mkRat,Rat.mkRat_eq_iff (by have := x.den_nz; omega) (by decide)]
  push_cast
  grind
 rw [← hm']
 grind
theorem rad_pos (x : Rat) : 0 < rad x := by
 have h : (0 : Rat) < ((x.den : Int) : Rat) := by
  have := x.den_pos
  exact_mod_cast this
 unfold rad
 have h2 : (0 : Rat) < ((2 : Int) : Rat)*((x.den : Int) : Rat)*((x.den : Int) : Rat) := Rat.mul_pos (Rat.mul_pos (by decide) h) h
 rw [Rat.div_def]
 exact Rat.mul_pos (by decide) (Rat.inv_pos.2 h2)
theorem LK {x y : Rat} {c : Int} (hc : x.num*(y.den : Int) - y.num*(x.den : Int)=c) : ((x - y)*(x - y)+(rad x - rad y)*(rad x - rad y)) - (rad x+rad y)*(rad x+rad y)=((c : Rat)*(c : Rat) - 1) / (((x.den : Int) : Rat)*((y.den : Int) : Rat)*(((x.den : Int) : Rat)*((y.den : Int) : Rat))) := by
 have hx := Pr x
 have hy := Pr y
 have hq : ((x.den : Int) : Rat) ≠ 0 := fun e => by
  have := x.den_nz
  have h2 : (x.den : Int)=0 := by exact_mod_cast e
  omega
 have hs : ((y.den : Int) : Rat) ≠ 0 := fun e => by
  have := y.den_nz
  have h2 : (y.den : Int)=0 := by exact_mod_cast e
  omega
 have hc' : (x.num : Rat)*((y.den : Int) : Rat) - (y.num : Rat)*((x.den : Int) : Rat)=(c : Rat) := by
  rw [← hc,Rat.intCast_sub,Rat.intCast_mul,Rat.intCast_mul]
 have e2 : (((2 : Int)) : Rat)=2 := rfl
 have e1 : (((1 : Int)) : Rat)=1 := rfl
 unfold rad
 rw [e1,e2]
 generalize (x.num : Rat)=X at *
 generalize (y.num : Rat)=Y at *
 generalize ((x.den : Int) : Rat)=p at *
 generalize ((y.den : Int) : Rat)=q at *
 generalize (c : Rat)=d at *
 rw [hx,hy,← hc']
 clear hx hy hc' hc e1 e2
 grind
theorem SW {x y : Rat} (hne : ¬ x=y) {c : Int} (hc : x.num*(y.den : Int) - y.num*(x.den : Int)=c) : ¬ ((x - y)*(x - y)+(rad x - rad y)*(rad x - rad y)) < (rad x+rad y)*(rad x+rad y)∧(((x - y)*(x - y)+(rad x - rad y)*(rad x - rad y))=(rad x+rad y)*(rad x+rad y) ↔ c.natAbs=1) := by
 have key0 := LK hc
 have key : ((x - y)*(x - y)+(rad x - rad y)*(rad x - rad y)) - (rad x+rad y)*(rad x+rad y)=(((c*c - 1 : Int)) : Rat) / ((((x.den : Int)*(y.den : Int)*((x.den : Int)*(y.den : Int)) : Int)) : Rat) := by
  rw [key0,Rat.intCast_sub,Rat.intCast_mul,Rat.intCast_mul,Rat.intCast_mul]
  rfl
 clear key0
 have c0 : c ≠ 0 := fun e => by
  subst e
  refine hne ((cq_eq x y).2 (by omega))
 have hp : (0 : Rat) < ((((x.den : Int)*(y.den : Int)*((x.den : Int)*(y.den : Int)) : Int)) : Rat) := by
  have h1 : (0 : Int) < x.den := by have := x.den_pos; omega
  have h2 : (0 : Int) < y.den := by have := y.den_pos; omega
  have h3 : (0 : Int) < (x.den : Int)*(y.den : Int) := Int.mul_pos h1 h2
  have h4 := Int.mul_pos h3 h3
  exact_mod_cast h4
 have hn : (0 : Int)≤c*c - 1 := by
  have : 0 < c*c := by
   rcases Int.lt_or_gt_of_ne c0 with h | h
   ·exact Int.mul_pos_of_neg_of_neg h h
   ·exact Int.mul_pos h h
  omega
 have hn' : (0 : Rat)≤(((c*c - 1 : Int)) : Rat) := by exact_mod_cast hn
 generalize hA : ((x - y)*(x - y)+(rad x - rad y)*(rad x - rad y))=A at *
 generalize hB : (rad x+rad y)*(rad x+rad y)=B at *
 generalize hD : ((((x.den : Int)*(y.den : Int)*((x.den : Int)*(y.den : Int)) : Int)) : Rat)=d at *
 have hge : 0≤A - B := by
  rw [key,Rat.div_def]
  exact Rat.mul_nonneg hn' (Rat.le_of_lt (Rat.inv_pos.2 hp))
 refine ⟨fun h => by grind,fun h => ?_,fun h => ?_⟩
 ·have h0 : (((c*c - 1 : Int)) : Rat)=0 := by
   have hd : d ≠ 0 := fun e => by rw [e] at hp; exact absurd hp (by decide)
   have h1 : (((c*c - 1 : Int)) : Rat) / d=0 := by rw [← key,h]; grind
   grind
  have h1 : c*c - 1=0 := by exact_mod_cast h0
  have h2 : c.natAbs*c.natAbs=1 := by
   have := Int.natAbs_mul_self (a := c)
   omega
  exact Nat.eq_one_of_mul_eq_one_left h2 |> fun h => by first | exact h | omega
 ·have h2 : c*c - 1=0 := by
   have := Int.natAbs_mul_self (a := c)
   rw [h] at this
   omega
  rw [h2] at key
  have h3 : A - B=0 := by
   rw [key]
   show ((0 : Int) : Rat) / d=0
   rw [Rat.div_def]
   exact Rat.zero_mul _
  grind
section
variable {P : Program} {Q : Exit→Act→World→Prop} {w0 : World} {n : Nat} {tm : List (Nat × Fact)} {bx : List (Nat × TypeId × Fact)} {a0 : Act} {wr : World} {os : List Oper} {pl : List Plan}
theorem t3_same {a b c : Rat} {u v : Value} {w : World} (h1 : (T3 a b c).on u w) (h2 : (T3 a b c).on v w) : u=v := by
 obtain ⟨cs,rfl,hc⟩ := h1
 obtain ⟨ds,rfl,hd⟩ := h2
 obtain ⟨_,_,_,rfl,⟨s,rfl,e1⟩,⟨t,rfl,e2⟩,⟨x,rfl,e3⟩⟩ := Yv hc
 obtain ⟨_,_,_,rfl,⟨s',rfl,f1⟩,⟨t',rfl,f2⟩,⟨x',rfl,f3⟩⟩ := Yv hd
 have g : ∀ {s t : ByteArray} {l : List UInt8},s.data.toList=l→t.data.toList=l→s=t := fun h1 h2 => ByteArray.ext (Array.ext' (h1.trans h2.symm))
 rw [g e1 f1,g e2 f2,g e3 f3]
theorem ZW {a b c : Rat} {v : Value} {w w' : World} (h : (T3 a b c).on v w) : (T3 a b c).on v w' := by
 obtain ⟨cs,rfl,hc⟩ := h
 obtain ⟨_,_,_,rfl,h1,h2,h3⟩ := Yv hc
 exact ⟨[_,_,_],rfl,h1,h2,h3,trivial⟩
theorem Ke {i : Nat} {o : Oper} {op : BinOp} {bb : Bool} {x y : Operand} {a b c a' b' c' : Rat} (ho : os[i]? = some o) (hp : pl[i]? = some (.pure (Jus (.bool bb)))) (hw : XJ w0 bx a0 wr os pl o true) (hop : o.op=.binOp op 43 x y 43) (hx : Opn w0 bx a0 wr os pl i o x (T3 a b c)) (hy : Opn w0 bx a0 wr os pl i o y (T3 a' b' c')) (hb : (op=.eql∧bb=true) ∨ (op=.neq∧bb=false)) (he : a=a'∧b=b'∧c=c') : AStep Tryz.prog Q os a0 (RInv w0 bx a0 wr os pl) i o := Jd ho hp hw fun d τ w hri hd hn => by
 obtain ⟨rfl,rfl,rfl⟩ := he
 have hX := hx d τ w hri hd hn
 have hY := hy d τ w hri hd hn
 have e := t3_same hX hY
 obtain ⟨cs,ex,hc⟩ := hX
 obtain ⟨_,_,_,rfl,⟨s,rfl,_⟩,⟨t,rfl,_⟩,⟨u,rfl,_⟩⟩ := Yv hc
 refine ⟨.bool bb,w,?_,Below.refl _ _,rfl⟩
 unfold execOp
 rw [hop]
 show (do pure (Next.value (← (do eqGuard op 43 x y ((Qn a0 τ 0 os).eval x) ((Qn a0 τ 0 os).eval y); binOp op 43 ((Qn a0 τ 0 os).eval x) ((Qn a0 τ 0 os).eval y) : Sem Value))) : Sem Next).run Tryz.prog w=_
 rw [← e,ex]
 clear hY hx hy e ex hc
 rcases hb with ⟨rfl,rfl⟩ | ⟨rfl,rfl⟩ <;> simp [go_sem]
theorem PO {i : Nat} {o : Oper} {xT yT : TypeId} {x y : Operand} {p : Prop} (h : ¬ p) (ho : os[i]? = some o) (hp : pl[i]? = some (.pure (Jus (.bool true)))) (hw : XJ w0 bx a0 wr os pl o true) (hop : o.op=.binOp .geq xT x y yT) (hx : Opn w0 bx a0 wr os pl i o x (Cl p)) (hy : Opn w0 bx a0 wr os pl i o y (Jus (.int .i64 0))) : AStep Tryz.prog Q os a0 (RInv w0 bx a0 wr os pl) i o := Jd ho hp hw fun d τ w hri hd hn => by
 obtain ⟨c,ex,hc⟩ := hx d τ w hri hd hn
 have ey : (Qn a0 τ 0 os).eval y=.int .i64 0 := hy d τ w hri hd hn
 have h0 : 0≤c := by
  by_cases h1 : 0≤c
  ·exact h1
  ·exact absurd (hc.1 (by omega)) h
 refine ⟨.bool true,w,?_,Below.refl _ _,rfl⟩
 unfold execOp
 rw [hop]
 show (do pure (Next.value (← (do eqGuard .geq xT x y ((Qn a0 τ 0 os).eval x) ((Qn a0 τ 0 os).eval y); binOp .geq xT ((Qn a0 τ 0 os).eval x) ((Qn a0 τ 0 os).eval y) : Sem Value))) : Sem Next).run Tryz.prog w=_
 rw [ex,ey]
 clear hx hy ex ey
 simp [go_sem,h0]
theorem Er {i : Nat} {o : Oper} {xT yT : TypeId} {x y : Operand} {p : Prop} (b : Bool) (h : p ↔ b=true) (ho : os[i]? = some o) (hp : pl[i]? = some (.pure (Jus (.bool b)))) (hw : XJ w0 bx a0 wr os pl o true) (hop : o.op=.binOp .eql xT x y yT) (hx : Opn w0 bx a0 wr os pl i o x (Cz p)) (hy : Opn w0 bx a0 wr os pl i o y (Jus (.int .i64 0))) : AStep Tryz.prog Q os a0 (RInv w0 bx a0 wr os pl) i o := Jd ho hp hw fun d τ w hri hd hn => by
 obtain ⟨c,ex,hc⟩ := hx d τ w hri hd hn
 have ey : (Qn a0 τ 0 os).eval y=.int .i64 0 := hy d τ w hri hd hn
 have e : (c == 0)=b := by
  cases b with
  | true => rw [beq_iff_eq]; exact hc.2 (h.2 rfl)
  | false => rw [beq_eq_false_iff_ne]; intro q; have := h.1 (hc.1 q); cases this
 refine ⟨.bool b,w,?_,Below.refl _ _,rfl⟩
 unfold execOp
 rw [hop]
 show (do pure (Next.value (← (do eqGuard .eql xT x y ((Qn a0 τ 0 os).eval x) ((Qn a0 τ 0 os).eval y); binOp .eql xT ((Qn a0 τ 0 os).eval x) ((Qn a0 τ 0 os).eval y) : Sem Value))) : Sem Next).run Tryz.prog w=_
 rw [ex,ey]
 clear hx hy ex ey
 simp [go_sem,e]
end
theorem IP (x y : Operand) (a b : Bool) (c : Bool) (h : (a == b)=c) (w : World) : (do eqGuard .eql 4 x y (.bool a) (.bool b); binOp .eql 4 (.bool a) (.bool b) : Sem Value).run Tryz.prog w=.ok (.bool c) w := by
 subst h
 cases a <;> cases b <;> simp [go_sem]
theorem Ek {x y : Rat} {k l : Nat} (h : x=y) (fx : QS k x) (fy : QS l y) (hk : k+l+1≤35184372088640) : Con Tryz.prog QY 20 [Rt x,Rt y] (Bo true) := by
 have := Le fx fy hk
 rwa [decide_eq_true h] at this
theorem Dw {x y : Rat} {k l : Nat} (h : ¬ x=y) (fx : QS k x) (fy : QS l y) (hk : k+l+1≤35184372088640) : Con Tryz.prog QY 20 [Rt x,Rt y] (Bo false) := by
 have := Le fx fy hk
 rwa [decide_eq_false h] at this
theorem con_EqB {x y : Rat} {k l : Nat} {b : Bool} (h : x=y ↔ b=true) (fx : QS k x) (fy : QS l y) (hk : k+l+1≤35184372088640) : Con Tryz.prog QY 20 [Rt x,Rt y] (Bo b) := by
 have := Le fx fy hk
 have e : decide (x=y)=b := by
  cases b with
  | true => exact decide_eq_true (h.2 rfl)
  | false => exact decide_eq_false fun q => by have := h.1 q; cases this
 rwa [e] at this
theorem IY {G : Nat} {x : Rat} : Con Tryz.prog QY 24 [Rb G x] (Ib G x.num) := fun w vs hp hall => by
 obtain ⟨v0,rfl,g,rfl,hg,h⟩ := JG hall
 refine (UY g w).mono ?_
 rintro _ w' ⟨rfl,rfl⟩
 exact ⟨Below.refl _ _,_,rfl,g,rfl,hg,Or.inr ⟨x,h,rfl⟩⟩
theorem FK (x : Rat) : rad x=((1 : Nat) : Rat) / (((2 : Nat) : Rat)*((((x.den : Int)*(x.den : Int) : Int)) : Rat)) := by
 unfold rad
 rw [Rat.intCast_mul,← Rat.mul_assoc]
 rfl
theorem UI {s : ByteArray} {x : Rat} (hs : s.size≤4294967280) (hx : Cx.rd s.data.toList=x) : Con Tryz.prog QY 13 [Tx s] (Rt x) := hx ▸ con_Of hs
theorem Ij {x y : Rat} (h1 : x.num.natAbs < 2 ^ 4194309) (h2 : x.den < 2 ^ 4194309) (h3 : y.num.natAbs < 2 ^ 4194309) (h4 : y.den < 2 ^ 4194309) : Small (x.num*(y.den : Int) - y.num*(x.den : Int)).natAbs := by
 have key : ∀ {k : Nat},x.num.natAbs < 2 ^ k→x.den < 2 ^ k→y.num.natAbs < 2 ^ k→y.den < 2 ^ k→(x.num*(y.den : Int) - y.num*(x.den : Int)).natAbs < 2 ^ (k+k+1) := fun {k} h1 h2 h3 h4 => by
  have a1 : x.num.natAbs*y.den < 2 ^ k*2 ^ k := Nat.mul_lt_mul'' h1 h4
  have a2 : y.num.natAbs*x.den < 2 ^ k*2 ^ k := Nat.mul_lt_mul'' h3 h2
  have b1 : (x.num*(y.den : Int)).natAbs=x.num.natAbs*y.den := by rw [Int.natAbs_mul,Int.natAbs_natCast]
  have b2 : (y.num*(x.den : Int)).natAbs=y.num.natAbs*x.den := by rw [Int.natAbs_mul,Int.natAbs_natCast]
  have e : 2 ^ (k+k+1)=2 ^ k*2 ^ k+2 ^ k*2 ^ k := by rw [Nat.pow_succ,Nat.pow_add]; omega
  rw [e]
  omega
 exact Qm (key h1 h2 h3 h4) (by decide)
theorem fd_eq {w : World} {s t : ByteArray} {x y : Rat} (hsx : s.size≤1048576) (hsy : t.size≤1048576) (hx : Cx.rd s.data.toList=x) (hy : Cx.rd t.data.toList=y) (fx : QS 4194309 x) (fy : QS 4194309 y) (hxy : x=y) (hp : QY w) : Calls Tryz.prog 4 #[.string s,.string t] w fun e w' => Below w.heap.size w w'∧e=.returned (.bool true) := by
 have fl : QS 4194309 ((x.den : Int) : Rat) := QS.low fx
 have frx := Ys fx
 have fry := Ys fy
 have frrx := QS.mul frx frx
 have fsum : QS 16777243 (rad x+rad y) := QS.add frx fry
 have fsq := QS.mul fsum fsum
 have fd1 := QS.sub fx fy
 have fd2 := QS.sub frx fry
 have ffar := QS.add (QS.mul fd1 fd1) (QS.mul fd2 fd2)
 have f1n : QS 1 ((1 : Nat) : Rat) := ⟨by decide,by decide⟩
 have f2n : QS 8388620 ((2 : Nat) : Rat) := QS.mono (⟨by decide,by decide⟩ : QS 2 ((2 : Nat) : Rat)) (by decide)
 have fdd : QS 8388620 ((((x.den : Int)*(x.den : Int) : Int)) : Rat) := by rw [Rat.intCast_mul]; exact QS.mono (QS.mul fl fl) (by decide)
 have f2dd := QS.mul f2n fdd
 have hdd : 0 < ((2 : Nat) : Rat)*((((x.den : Int)*(x.den : Int) : Int)) : Rat) := by
  have h : (0 : Int) < x.den := by have := x.den_pos; omega
  have h2 : (0 : Rat) < ((((x.den : Int)*(x.den : Int) : Int)) : Rat) := by exact_mod_cast Int.mul_pos h h
  exact Rat.mul_pos (by decide) h2
 have sdx : Small ((x.den : Int)).natAbs := by rw [Int.natAbs_natCast]; exact Qm fx.den (by decide)
 have sdy : Small ((y.den : Int)).natAbs := by rw [Int.natAbs_natCast]; exact Qm fy.den (by decide)
 have snx : Small x.num.natAbs := Qm fx.num (by decide)
 have sny : Small y.num.natAbs := Qm fy.num (by decide)
 have sdd : Small ((x.den : Int)*(x.den : Int)).natAbs := by rw [Int.natAbs_mul,Int.natAbs_natCast]; exact ZI fx.den fx.den (by decide)
 have sp1 : Small (x.num*(y.den : Int)).natAbs := by rw [Int.natAbs_mul,Int.natAbs_natCast]; exact ZI fx.num fy.den (by decide)
 have sp2 : Small (y.num*(x.den : Int)).natAbs := by rw [Int.natAbs_mul,Int.natAbs_natCast]; exact ZI fy.num fx.den (by decide)
 have sC : Small (x.num*(y.den : Int) - y.num*(x.den : Int)).natAbs := Ij fx.num fx.den fy.num fy.den
 have s1 : Small (((1 : Nat) : Int)).natAbs := Qm (k := 1) (by decide) (by decide)
 refine Wz (w0 := w) (n := 99) (Fs := [Tx s,Tx t]) (vs := [.string s,.string t]) (bx := []) Tryz.func4 rfl rfl (Nat.le_of_ble_eq_true rfl) (Below.refl _ _) ⟨rfl,rfl,trivial⟩ (fun k G t F h => by simp at h) List.nodup_nil ?_
 intro a0 S0
 have HPRE : ∀ w',Below w.heap.size w w'→QY w' := fun w' hb => Vq hp hb
 refine wp_seq ?_
 refine Qz [.pure (Bo false)] ⟨S0,by decide +kernel⟩ (by kernel_rfl) (by kernel_rfl) rfl (by kernel_rfl) ?_ ?_
 ·intro C
  refine ASteps.cons ?_ (ASteps.nil)
  ·exact Qr rfl rfl (Qb rfl) rfl (QN _)
 intro γ a1 w1 Z1 S1
 replace S1 : AS w 99 [(4,Bo false),(0,Tx s),(1,Tx t)] [] a1 w1 := cast (by kernel_rfl) (S1.keep [0,1,4])
 clear S0
 refine Qh ?_
 refine wp_seq ?_
 refine Qz [.pure (Tx s),.pure (Agg [Tt (x),Tt ((rad x)),Tt ((rad x*rad x))]),.pure (Tx t),.pure (Agg [Tt (y),Tt ((rad y)),Tt ((rad y*rad y))]),.alloc 43 (Agg [Tx ⟨#[]⟩,Tx ⟨#[]⟩,Tx ⟨#[]⟩]),.alloc 43 (Agg [Tx ⟨#[]⟩,Tx ⟨#[]⟩,Tx ⟨#[]⟩]),.fill 4 (Agg [Tt (x),Tt ((rad x)),Tt ((rad x*rad x))]),.fill 5 (Agg [Tt (y),Tt ((rad y)),Tt ((rad y*rad y))])] ⟨S1,by decide +kernel⟩ (by kernel_rfl) (by kernel_rfl) rfl (by kernel_rfl) ?_ ?_
 ·intro C
  refine ASteps.cons ?_ (ASteps.cons ?_ (ASteps.cons ?_ (ASteps.cons ?_ (ASteps.cons ?_ (ASteps.cons ?_ (ASteps.cons ?_ (ASteps.cons ?_ (ASteps.nil))))))))
  ·exact Qk rfl rfl (Qb rfl) rfl (Qi C 1 (by kernel_rfl) rfl)
  ·exact Qj HPRE rfl rfl (Qb rfl) rfl Xl (Opns.cons (Qc C 0 0 rfl rfl rfl rfl rfl rfl) Opns.nil) ((UF hsx hx fx))
  ·exact Qk rfl rfl (Qb rfl) rfl (Qi C 2 (by kernel_rfl) rfl)
  ·exact Qj HPRE rfl rfl (Qb rfl) rfl Xl (Opns.cons (Qc C 2 0 rfl rfl rfl rfl rfl rfl) Opns.nil) ((UF hsy hy fy))
  ·exact ZF [.string ⟨#[]⟩,.string ⟨#[]⟩,.string ⟨#[]⟩] WS rfl rfl (Qb rfl) rfl (Jy (s0 := 6) (k := 0) (by kernel_rfl) rfl rfl rfl rfl) YR (by simp [Ql]) (by kernel_rfl)
  ·exact ZF [.string ⟨#[]⟩,.string ⟨#[]⟩,.string ⟨#[]⟩] WS rfl rfl (Qb rfl) rfl (Jy (s0 := 7) (k := 0) (by kernel_rfl) rfl rfl rfl rfl) YR (by simp [Ql]) (by kernel_rfl)
  ·exact JU C (a := 4) (k := 0) rfl rfl rfl rfl (Qb rfl) rfl rfl rfl rfl rfl (by decide) (Xf (by kernel_rfl)) (Qc C 1 1 rfl rfl rfl rfl rfl rfl) (YG (Sk (JY x) (JY (rad x)) (JY (rad x*rad x))))
  ·exact JU C (a := 5) (k := 0) rfl rfl rfl rfl (Qb rfl) rfl rfl rfl rfl rfl (by decide) (Xf (by kernel_rfl)) (Qc C 3 1 rfl rfl rfl rfl rfl rfl) (YG (Sk (JY y) (JY (rad y)) (JY (rad y*rad y))))
 intro γ a2 w2 Z2 S2
 replace S2 : AS w 99 [(6,Jus (.pointer (some ⟨γ 5,0,none⟩))),(5,Jus (.pointer (some ⟨γ 4,0,none⟩))),(4,Bo false),(0,Tx s),(1,Tx t)] [(γ 4,43,Agg [Tt (x),Tt ((rad x)),Tt ((rad x*rad x))]),(γ 5,43,Agg [Tt (y),Tt ((rad y)),Tt ((rad y*rad y))])] a2 w2 := cast (by kernel_rfl) (S2.keep [0,1,4,5,6])
 generalize γ 4=G2_4 at S2
 generalize γ 5=G2_5 at S2
 clear S1
 refine Qh ?_
 refine wp_seq ?_
 refine Qz [.pure (Tx s),.pure (Rt x),.pure (Tx t),.pure (Rt y),.pure (Rt x),.pure (Rt y)] ⟨S2,by decide +kernel⟩ (by kernel_rfl) (by kernel_rfl) rfl (by kernel_rfl) ?_ ?_
 ·intro C
  refine ASteps.cons ?_ (ASteps.cons ?_ (ASteps.cons ?_ (ASteps.cons ?_ (ASteps.cons ?_ (ASteps.cons ?_ (ASteps.nil))))))
  ·exact Qk rfl rfl (Qb rfl) rfl (Qi C 3 (by kernel_rfl) rfl)
  ·exact Qj HPRE rfl rfl (Qb rfl) rfl Zt (Opns.cons (Qc C 0 0 rfl rfl rfl rfl rfl rfl) Opns.nil) ((UI (by omega) hx))
  ·exact Qk rfl rfl (Qb rfl) rfl (Qi C 4 (by kernel_rfl) rfl)
  ·exact Qj HPRE rfl rfl (Qb rfl) rfl Zt (Opns.cons (Qc C 2 0 rfl rfl rfl rfl rfl rfl) Opns.nil) ((UI (by omega) hy))
  ·exact Qr rfl rfl (Qb rfl) rfl (Qc C 1 0 rfl rfl rfl rfl rfl rfl)
  ·exact Qr rfl rfl (Qb rfl) rfl (Qc C 3 0 rfl rfl rfl rfl rfl rfl)
 intro γ a3 w3 Z3 S3
 replace S3 : AS w 99 [(8,Rt y),(7,Rt x),(6,Jus (.pointer (some ⟨G2_5,0,none⟩))),(5,Jus (.pointer (some ⟨G2_4,0,none⟩))),(4,Bo false)] [(G2_4,43,Agg [Tt (x),Tt ((rad x)),Tt ((rad x*rad x))]),(G2_5,43,Agg [Tt (y),Tt ((rad y)),Tt ((rad y*rad y))])] a3 w3 := cast (by kernel_rfl) (S3.keep [4,5,6,7,8])
 clear S2
 refine Qh ?_
 refine wp_seq ?_
 refine Io 2 ?_
 refine ZD [.pure (Rt (((1 : Nat)) : Rat)),.pure (Rt (((2 : Nat)) : Rat))] ⟨S3,by decide +kernel⟩ (by kernel_rfl) (by kernel_rfl) rfl (by kernel_rfl) ?_ ?_
 ·intro C
  refine ASteps.cons ?_ (ASteps.cons ?_ (ASteps.nil))
  ·exact Qj HPRE rfl rfl (Qb rfl) rfl Jj (Opns.cons (QN _) Opns.nil) ((PL 1 (by decide) rfl))
  ·exact Qj HPRE rfl rfl (Qb rfl) rfl Jj (Opns.cons (QN _) Opns.nil) ((PL 2 (by decide) rfl))
 intro γ a4 w4 Z4 S4
 replace S4 : AS w 99 [(23,Rt (((2 : Nat)) : Rat)),(22,Rt (((1 : Nat)) : Rat)),(8,Rt y),(7,Rt x),(6,Jus (.pointer (some ⟨G2_5,0,none⟩))),(5,Jus (.pointer (some ⟨G2_4,0,none⟩))),(4,Bo false)] [(G2_4,43,Agg [Tt (x),Tt ((rad x)),Tt ((rad x*rad x))]),(G2_5,43,Agg [Tt (y),Tt ((rad y)),Tt ((rad y*rad y))])] a4 w4 := cast (by kernel_rfl) (S4.keep [4,5,6,7,8,22,23])
 clear S3
 refine Qh ?_
 refine Up rfl rfl ?_
 have hbn := Qf w4 (.cells #[.bool false,.slice none 0 0,.bool false,.slice none 0 0] 34)
 have hB5_0 : G2_4 < w4.heap.size := (S4.box 0 _ _ _ rfl).2.lt
 have hB5_1 : G2_5 < w4.heap.size := (S4.box 1 _ _ _ rfl).2.lt
 have hW5 : w.heap.size≤w4.heap.size := S4.bel.size
 have S5 : AS w 99 [(24,Dr w4.heap.size),(23,Rb w4.heap.size (((2 : Nat)) : Rat)),(22,Rb w4.heap.size (((1 : Nat)) : Rat)),(8,Rb w4.heap.size y),(7,Rb w4.heap.size x),(6,Jus (.pointer (some ⟨G2_5,0,none⟩))),(5,Jus (.pointer (some ⟨G2_4,0,none⟩))),(4,Bo false)] [(G2_4,43,Agg [Tt (x),Tt ((rad x)),Tt ((rad x*rad x))]),(G2_5,43,Agg [Tt (y),Tt ((rad y)),Tt ((rad y*rad y))])] (a4.put (some 24) (.pointer (some ⟨w4.heap.size,0,none⟩))) (w4.alloc (.cells #[.bool false,.slice none 0 0,.bool false,.slice none 0 0] 34)) := S4.put (by decide) (S4.bel.trans (hbn.mono S4.bel.size)) ⟨rfl,Blk.new _ _ _⟩ (by simp) (Qe (XU (S4.fact 0 rfl) hbn) (Qe (XU (S4.fact 1 rfl) hbn) (Qe (XU (S4.fact 2 rfl) hbn) (Qe (XU (S4.fact 3 rfl) hbn) (Qe ((Jus (.pointer (some ⟨G2_5,0,none⟩)) : Fact).st (Grows.of hbn) (S4.fact 4 rfl)) (Qe ((Jus (.pointer (some ⟨G2_4,0,none⟩)) : Fact).st (Grows.of hbn) (S4.fact 5 rfl)) (Qe ((Bo false : Fact).st (Grows.of hbn) (S4.fact 6 rfl)) Zm))))))) (Qs ⟨(S4.box 0 _ _ _ rfl).1,(S4.box 0 _ _ _ rfl).2.below hbn⟩ (Qs ⟨(S4.box 1 _ _ _ rfl).1,(S4.box 1 _ _ _ rfl).2.below hbn⟩ Zn)) S4.dis
 generalize hGe5 : w4.heap.size=G5 at *
 obtain ⟨a5,ea5⟩ : ∃ a : Act,a=a4.put (some 24) (.pointer (some ⟨G5,0,none⟩)) := ⟨_,rfl⟩
 obtain ⟨w5,ew5⟩ : ∃ w' : World,w'=w4.alloc (.cells #[.bool false,.slice none 0 0,.bool false,.slice none 0 0] 34) := ⟨_,rfl⟩
 show wpList _ _ _ _ (a4.put (some 24) (.pointer (some ⟨G5,0,none⟩))) _
 rw [← ea5,← ew5]
 rw [← ea5,← ew5] at S5
 clear S4 ea5 ew5 hbn hGe5
 refine ZK rfl rfl ?_
 have hbn := Qf w5 (.cells #[.bool false,.slice none 0 0] 32)
 have hB6_0 : G2_4 < w5.heap.size := (S5.box 0 _ _ _ rfl).2.lt
 have hB6_1 : G2_5 < w5.heap.size := (S5.box 1 _ _ _ rfl).2.lt
 have hD6_24 : G5 < w5.heap.size := (show (Dr G5).on _ _ from S5.fact 0 rfl).2.lt
 have hW6 : w.heap.size≤w5.heap.size := S5.bel.size
 have S6 : AS w 99 [(25,Di w5.heap.size),(24,Dr G5),(23,Rb G5 (((2 : Nat)) : Rat)),(22,Rb G5 (((1 : Nat)) : Rat)),(8,Rb G5 y),(7,Rb G5 x),(6,Jus (.pointer (some ⟨G2_5,0,none⟩))),(5,Jus (.pointer (some ⟨G2_4,0,none⟩))),(4,Bo false)] [(G2_4,43,Agg [Tt (x),Tt ((rad x)),Tt ((rad x*rad x))]),(G2_5,43,Agg [Tt (y),Tt ((rad y)),Tt ((rad y*rad y))])] (a5.put (some 25) (.pointer (some ⟨w5.heap.size,0,none⟩))) (w5.alloc (.cells #[.bool false,.slice none 0 0] 32)) := S5.put (by decide) (S5.bel.trans (hbn.mono S5.bel.size)) ⟨rfl,Blk.new _ _ _⟩ (by simp) (Qe ((Dr G5 : Fact).st (Grows.of hbn) (S5.fact 0 rfl)) (Qe ((Rb G5 (((2 : Nat)) : Rat) : Fact).st (Grows.of hbn) (S5.fact 1 rfl)) (Qe ((Rb G5 (((1 : Nat)) : Rat) : Fact).st (Grows.of hbn) (S5.fact 2 rfl)) (Qe ((Rb G5 y : Fact).st (Grows.of hbn) (S5.fact 3 rfl)) (Qe ((Rb G5 x : Fact).st (Grows.of hbn) (S5.fact 4 rfl)) (Qe ((Jus (.pointer (some ⟨G2_5,0,none⟩)) : Fact).st (Grows.of hbn) (S5.fact 5 rfl)) (Qe ((Jus (.pointer (some ⟨G2_4,0,none⟩)) : Fact).st (Grows.of hbn) (S5.fact 6 rfl)) (Qe ((Bo false : Fact).st (Grows.of hbn) (S5.fact 7 rfl)) Zm)))))))) (Qs ⟨(S5.box 0 _ _ _ rfl).1,(S5.box 0 _ _ _ rfl).2.below hbn⟩ (Qs ⟨(S5.box 1 _ _ _ rfl).1,(S5.box 1 _ _ _ rfl).2.below hbn⟩ Zn)) S5.dis
 generalize hGe6 : w5.heap.size=G6 at *
 obtain ⟨a6,ea6⟩ : ∃ a : Act,a=a5.put (some 25) (.pointer (some ⟨G6,0,none⟩)) := ⟨_,rfl⟩
 obtain ⟨w6,ew6⟩ : ∃ w' : World,w'=w5.alloc (.cells #[.bool false,.slice none 0 0] 32) := ⟨_,rfl⟩
 show wpList _ _ _ _ (a5.put (some 25) (.pointer (some ⟨G6,0,none⟩))) _
 rw [← ea6,← ew6]
 rw [← ea6,← ew6] at S6
 clear S5 ea6 ew6 hbn hGe6
 refine Xy 1 ?_
 refine Zr 4 ?_
 refine ZD [.pure (Rb G5 x)] ⟨S6,by decide +kernel⟩ (by kernel_rfl) (by kernel_rfl) rfl (by kernel_rfl) ?_ ?_
 ·intro C
  refine ASteps.cons ?_ (ASteps.nil)
  ·exact Qk rfl rfl (Qb rfl) rfl (Qi C 5 (by kernel_rfl) rfl)
 intro γ a7 w7 Z7 S7
 replace S7 : AS w 99 [(26,Rb G5 x),(25,Di G6),(24,Dr G5),(23,Rb G5 (((2 : Nat)) : Rat)),(22,Rb G5 (((1 : Nat)) : Rat)),(8,Rb G5 y),(7,Rb G5 x),(6,Jus (.pointer (some ⟨G2_5,0,none⟩))),(5,Jus (.pointer (some ⟨G2_4,0,none⟩))),(4,Bo false)] [(G2_4,43,Agg [Tt (x),Tt ((rad x)),Tt ((rad x*rad x))]),(G2_5,43,Agg [Tt (y),Tt ((rad y)),Tt ((rad y*rad y))])] a7 w7 := cast (by kernel_rfl) (S7.keep [4,5,6,7,8,22,23,24,25,26])
 clear S6
 refine Qh ?_
 refine QL rfl rfl QK ?_
 have hx0 : (Rt x).on (a7.eval (.tmp 26)) w7 := JJ (S7.fact 0 rfl)
 obtain ⟨gx,hx1,hx2⟩ := hx0
 rw [show (#[Operand.tmp 26] : Array Operand).map a7.eval=#[.pointer (some ⟨gx,0,none⟩)] from by simp [hx1]]
 refine (ZX hx2 fx (by decide)).mono ?_
 rintro _ wc ⟨hbc,gc,rfl,hgc,hoc⟩
 refine ⟨_,rfl,?_⟩
 have hD8_25 : G6 < w7.heap.size := (show (Di G6).on _ _ from S7.fact 1 rfl).2.lt
 have hD8_24 : G5 < w7.heap.size := (show (Dr G5).on _ _ from S7.fact 2 rfl).2.lt
 have S8 : AS w 99 [(27,Ia w7.heap.size ((x.den : Int))),(25,Di G6),(24,Dr G5),(23,Rb G5 (((2 : Nat)) : Rat)),(22,Rb G5 (((1 : Nat)) : Rat)),(8,Rb G5 y),(7,Rb G5 x),(6,Jus (.pointer (some ⟨G2_5,0,none⟩))),(5,Jus (.pointer (some ⟨G2_4,0,none⟩))),(4,Bo false)] [(G2_4,43,Agg [Tt (x),Tt ((rad x)),Tt ((rad x*rad x))]),(G2_5,43,Agg [Tt (y),Tt ((rad y)),Tt ((rad y*rad y))])] (a7.put (some 27) (.pointer (some ⟨gc,0,none⟩))) wc := S7.put (by decide) (S7.bel.trans (hbc.mono S7.bel.size)) ⟨gc,rfl,hgc,hoc⟩ (by simp) (Qe ((Di G6 : Fact).st (Grows.of hbc) (S7.fact 1 rfl)) (Qe ((Dr G5 : Fact).st (Grows.of hbc) (S7.fact 2 rfl)) (Qe ((Rb G5 (((2 : Nat)) : Rat) : Fact).st (Grows.of hbc) (S7.fact 3 rfl)) (Qe ((Rb G5 (((1 : Nat)) : Rat) : Fact).st (Grows.of hbc) (S7.fact 4 rfl)) (Qe ((Rb G5 y : Fact).st (Grows.of hbc) (S7.fact 5 rfl)) (Qe ((Rb G5 x : Fact).st (Grows.of hbc) (S7.fact 6 rfl)) (Qe ((Jus (.pointer (some ⟨G2_5,0,none⟩)) : Fact).st (Grows.of hbc) (S7.fact 7 rfl)) (Qe ((Jus (.pointer (some ⟨G2_4,0,none⟩)) : Fact).st (Grows.of hbc) (S7.fact 8 rfl)) (Qe ((Bo false : Fact).st (Grows.of hbc) (S7.fact 9 rfl)) Zm))))))))) (Qs ⟨(S7.box 0 _ _ _ rfl).1,(S7.box 0 _ _ _ rfl).2.below hbc⟩ (Qs ⟨(S7.box 1 _ _ _ rfl).1,(S7.box 1 _ _ _ rfl).2.below hbc⟩ Zn)) S7.dis
 generalize hBe8 : w7.heap.size=B8 at *
 obtain ⟨a8,ea8⟩ : ∃ a : Act,a=a7.put (some 27) (.pointer (some ⟨gc,0,none⟩)) := ⟨_,rfl⟩
 obtain ⟨w8,ew8⟩ : ∃ w' : World,w'=wc := ⟨_,rfl⟩
 subst ew8
 show wpList _ _ _ _ (a7.put (some 27) (.pointer (some ⟨gc,0,none⟩))) _
 rw [← ea8]
 rw [← ea8] at S8
 clear S7 ea8 hx1 hx2 hbc hgc hoc hBe8
 refine Xy 1 ?_
 refine Zr 6 ?_
 refine ZD [.pure (Rb G5 x)] ⟨S8,by decide +kernel⟩ (by kernel_rfl) (by kernel_rfl) rfl (by kernel_rfl) ?_ ?_
 ·intro C
  refine ASteps.cons ?_ (ASteps.nil)
  ·exact Qk rfl rfl (Qb rfl) rfl (Qi C 6 (by kernel_rfl) rfl)
 intro γ a9 w9 Z9 S9
 replace S9 : AS w 99 [(28,Rb G5 x),(27,Ia B8 ((x.den : Int))),(25,Di G6),(24,Dr G5),(23,Rb G5 (((2 : Nat)) : Rat)),(22,Rb G5 (((1 : Nat)) : Rat)),(8,Rb G5 y),(7,Rb G5 x),(6,Jus (.pointer (some ⟨G2_5,0,none⟩))),(5,Jus (.pointer (some ⟨G2_4,0,none⟩))),(4,Bo false)] [(G2_4,43,Agg [Tt (x),Tt ((rad x)),Tt ((rad x*rad x))]),(G2_5,43,Agg [Tt (y),Tt ((rad y)),Tt ((rad y*rad y))])] a9 w9 := cast (by kernel_rfl) (S9.keep [4,5,6,7,8,22,23,24,25,27,28])
 clear S8
 refine Qh ?_
 refine QL rfl rfl QK ?_
 have hx0 : (Rt x).on (a9.eval (.tmp 28)) w9 := JJ (S9.fact 0 rfl)
 obtain ⟨gx,hx1,hx2⟩ := hx0
 rw [show (#[Operand.tmp 28] : Array Operand).map a9.eval=#[.pointer (some ⟨gx,0,none⟩)] from by simp [hx1]]
 refine (ZX hx2 fx (by decide)).mono ?_
 rintro _ wc ⟨hbc,gc,rfl,hgc,hoc⟩
 refine ⟨_,rfl,?_⟩
 have hD10_25 : G6 < w9.heap.size := (show (Di G6).on _ _ from S9.fact 2 rfl).2.lt
 have hD10_24 : G5 < w9.heap.size := (show (Dr G5).on _ _ from S9.fact 3 rfl).2.lt
 have S10 : AS w 99 [(29,Ia w9.heap.size ((x.den : Int))),(27,Ia B8 ((x.den : Int))),(25,Di G6),(24,Dr G5),(23,Rb G5 (((2 : Nat)) : Rat)),(22,Rb G5 (((1 : Nat)) : Rat)),(8,Rb G5 y),(7,Rb G5 x),(6,Jus (.pointer (some ⟨G2_5,0,none⟩))),(5,Jus (.pointer (some ⟨G2_4,0,none⟩))),(4,Bo false)] [(G2_4,43,Agg [Tt (x),Tt ((rad x)),Tt ((rad x*rad x))]),(G2_5,43,Agg [Tt (y),Tt ((rad y)),Tt ((rad y*rad y))])] (a9.put (some 29) (.pointer (some ⟨gc,0,none⟩))) wc := S9.put (by decide) (S9.bel.trans (hbc.mono S9.bel.size)) ⟨gc,rfl,hgc,hoc⟩ (by simp) (Qe ((Ia B8 ((x.den : Int)) : Fact).st (Grows.of hbc) (S9.fact 1 rfl)) (Qe ((Di G6 : Fact).st (Grows.of hbc) (S9.fact 2 rfl)) (Qe ((Dr G5 : Fact).st (Grows.of hbc) (S9.fact 3 rfl)) (Qe ((Rb G5 (((2 : Nat)) : Rat) : Fact).st (Grows.of hbc) (S9.fact 4 rfl)) (Qe ((Rb G5 (((1 : Nat)) : Rat) : Fact).st (Grows.of hbc) (S9.fact 5 rfl)) (Qe ((Rb G5 y : Fact).st (Grows.of hbc) (S9.fact 6 rfl)) (Qe ((Rb G5 x : Fact).st (Grows.of hbc) (S9.fact 7 rfl)) (Qe ((Jus (.pointer (some ⟨G2_5,0,none⟩)) : Fact).st (Grows.of hbc) (S9.fact 8 rfl)) (Qe ((Jus (.pointer (some ⟨G2_4,0,none⟩)) : Fact).st (Grows.of hbc) (S9.fact 9 rfl)) (Qe ((Bo false : Fact).st (Grows.of hbc) (S9.fact 10 rfl)) Zm)))))))))) (Qs ⟨(S9.box 0 _ _ _ rfl).1,(S9.box 0 _ _ _ rfl).2.below hbc⟩ (Qs ⟨(S9.box 1 _ _ _ rfl).1,(S9.box 1 _ _ _ rfl).2.below hbc⟩ Zn)) S9.dis
 generalize hBe10 : w9.heap.size=B10 at *
 obtain ⟨a10,ea10⟩ : ∃ a : Act,a=a9.put (some 29) (.pointer (some ⟨gc,0,none⟩)) := ⟨_,rfl⟩
 obtain ⟨w10,ew10⟩ : ∃ w' : World,w'=wc := ⟨_,rfl⟩
 subst ew10
 show wpList _ _ _ _ (a9.put (some 29) (.pointer (some ⟨gc,0,none⟩))) _
 rw [← ea10]
 rw [← ea10] at S10
 clear S9 ea10 hx1 hx2 hbc hgc hoc hBe10
 refine QL rfl rfl Zh ?_
 have hz0 : (Di G6).on (a10.eval (.tmp 25)) w10 := S10.fact 2 rfl
 have hblk := hz0.2
 have hh : JQ w10 G6 := ⟨_,_,hblk,by simp [Ql]⟩
 rw [show (#[Operand.tmp 25,Operand.tmp 27,Operand.tmp 29] : Array Operand).map a10.eval=#[.pointer (some ⟨G6,0,none⟩),a10.eval (.tmp 27),a10.eval (.tmp 29)] from by simp [hz0.1]]
 refine (Jn (At2.blk hblk) (Xa (OB (S10.fact 1 rfl))) (Xa (OB (S10.fact 0 rfl))) (Xs (S10.fact 1 rfl) (by omega)) (Xs (S10.fact 0 rfl) (by omega)) sdx sdx).mono ?_
 rintro _ wc ⟨rfl,hgv⟩
 refine ⟨_,rfl,?_⟩
 have hsv := hgv.save
 obtain ⟨hoc,hbl⟩ := hgv.own hblk
 have hGw : w.heap.size≤G6 := by omega
 have S11 : AS w 99 [(30,Ig G6 ((x.den : Int)*(x.den : Int))),(24,Dr G5),(23,Rb G5 (((2 : Nat)) : Rat)),(22,Rb G5 (((1 : Nat)) : Rat)),(8,Rb G5 y),(7,Rb G5 x),(6,Jus (.pointer (some ⟨G2_5,0,none⟩))),(5,Jus (.pointer (some ⟨G2_4,0,none⟩))),(4,Bo false)] [(G2_4,43,Agg [Tt (x),Tt ((rad x)),Tt ((rad x*rad x))]),(G2_5,43,Agg [Tt (y),Tt ((rad y)),Tt ((rad y*rad y))])] (a10.put (some 30) (.pointer (some ⟨G6,0,none⟩))) wc := S10.put (by decide) (S10.bel.trans (hsv.below hGw S10.bel.size)) ⟨rfl,hoc⟩ (by simp) (Qe (Dq (S10.fact 3 rfl) (by omega) hsv) (Qe (QR (S10.fact 4 rfl) (by omega) hh hsv) (Qe (QR (S10.fact 5 rfl) (by omega) hh hsv) (Qe (QR (S10.fact 6 rfl) (by omega) hh hsv) (Qe (QR (S10.fact 7 rfl) (by omega) hh hsv) (Qe (show (Jus (.pointer (some ⟨G2_5,0,none⟩))).on _ _ from (S10.fact 8 rfl)) (Qe (show (Jus (.pointer (some ⟨G2_4,0,none⟩))).on _ _ from (S10.fact 9 rfl)) (Qe (show (Bo false).on _ _ from (S10.fact 10 rfl)) Zm)))))))) (Qs ⟨(S10.box 0 _ _ _ rfl).1,(S10.box 0 _ _ _ rfl).2.save2 hsv (by omega) (fun _ h => ZW h)⟩ (Qs ⟨(S10.box 1 _ _ _ rfl).1,(S10.box 1 _ _ _ rfl).2.save2 hsv (by omega) (fun _ h => ZW h)⟩ Zn)) S10.dis
 obtain ⟨a11,ea11⟩ : ∃ a : Act,a=a10.put (some 30) (.pointer (some ⟨G6,0,none⟩)) := ⟨_,rfl⟩
 obtain ⟨w11,ew11⟩ : ∃ w' : World,w'=wc := ⟨_,rfl⟩
 subst ew11
 show wpList _ _ _ _ (a10.put (some 30) (.pointer (some ⟨G6,0,none⟩))) _
 rw [← ea11]
 rw [← ea11] at S11
 clear S10 ea11 hblk hh hgv hsv hoc hbl
 refine QL rfl rfl Ju ?_
 have hz0 : (Dr G5).on (a11.eval (.tmp 24)) w11 := S11.fact 1 rfl
 have hh : JQ w11 G5 := ⟨_,_,hz0.2,by simp [Ql]⟩
 rw [show (#[Operand.tmp 24,Operand.tmp 30] : Array Operand).map a11.eval=#[.pointer (some ⟨G5,0,none⟩),a11.eval (.tmp 30)] from by simp [hz0.1]]
 refine (YX hz0.2 (by simp [Ql]) (Xa (KQ (S11.fact 0 rfl))) sdd).mono ?_
 rintro _ wc ⟨rfl,hsv,hrv⟩
 refine ⟨_,rfl,?_⟩
 have hGw : w.heap.size≤G5 := by omega
 have S12 : AS w 99 [(31,Rt ((((x.den : Int)*(x.den : Int) : Int)) : Rat)),(23,Rt (((2 : Nat)) : Rat)),(22,Rt (((1 : Nat)) : Rat)),(8,Rt y),(7,Rt x),(6,Jus (.pointer (some ⟨G2_5,0,none⟩))),(5,Jus (.pointer (some ⟨G2_4,0,none⟩))),(4,Bo false)] [(G2_4,43,Agg [Tt (x),Tt ((rad x)),Tt ((rad x*rad x))]),(G2_5,43,Agg [Tt (y),Tt ((rad y)),Tt ((rad y*rad y))])] (a11.put (some 31) (.pointer (some ⟨G5,0,none⟩))) wc := S11.put (by decide) (S11.bel.trans (hsv.below hGw S11.bel.size)) ⟨G5,rfl,hrv⟩ (by simp) (Qe (JJ (QR (S11.fact 2 rfl) (by omega) hh hsv)) (Qe (JJ (QR (S11.fact 3 rfl) (by omega) hh hsv)) (Qe (JJ (QR (S11.fact 4 rfl) (by omega) hh hsv)) (Qe (JJ (QR (S11.fact 5 rfl) (by omega) hh hsv)) (Qe (show (Jus (.pointer (some ⟨G2_5,0,none⟩))).on _ _ from (S11.fact 6 rfl)) (Qe (show (Jus (.pointer (some ⟨G2_4,0,none⟩))).on _ _ from (S11.fact 7 rfl)) (Qe (show (Bo false).on _ _ from (S11.fact 8 rfl)) Zm))))))) (Qs ⟨(S11.box 0 _ _ _ rfl).1,(S11.box 0 _ _ _ rfl).2.save2 hsv (by omega) (fun _ h => ZW h)⟩ (Qs ⟨(S11.box 1 _ _ _ rfl).1,(S11.box 1 _ _ _ rfl).2.save2 hsv (by omega) (fun _ h => ZW h)⟩ Zn)) S11.dis
 obtain ⟨a12,ea12⟩ : ∃ a : Act,a=a11.put (some 31) (.pointer (some ⟨G5,0,none⟩)) := ⟨_,rfl⟩
 obtain ⟨w12,ew12⟩ : ∃ w' : World,w'=wc := ⟨_,rfl⟩
 subst ew12
 show wpList _ _ _ _ (a11.put (some 31) (.pointer (some ⟨G5,0,none⟩))) _
 rw [← ea12]
 rw [← ea12] at S12
 clear S11 ea12 hz0 hh hsv hrv
 refine Zr 10 ?_
 refine ZD [.soft (Dm 28 2 [Rt (((2 : Nat)) : Rat),Rt ((((x.den : Int)*(x.den : Int) : Int)) : Rat)]),.pure (Rt (((2 : Nat) : Rat)*((((x.den : Int)*(x.den : Int) : Int)) : Rat))),.pure (Rt (rad x)),.pure (Rt (rad x))] ⟨S12,by decide +kernel⟩ (by kernel_rfl) (by kernel_rfl) rfl (by kernel_rfl) ?_ ?_
 ·intro C
  refine ASteps.cons ?_ (ASteps.cons ?_ (ASteps.cons ?_ (ASteps.cons ?_ (ASteps.nil))))
  ·exact YK rfl rfl (Qb rfl) rfl (Opns.cons (Qi C 1 (by kernel_rfl) rfl) (Opns.cons (Qi C 0 (by kernel_rfl) rfl) Opns.nil)) (Us _ _)
  ·exact Vj HPRE rfl rfl (Qb rfl) rfl XY (OpnsS.cons (WZ C 0 0 rfl rfl rfl rfl rfl rfl (by kernel_rfl)) OpnsS.nil) ((KO rfl f2n fdd (by decide)))
  ·exact Qj HPRE rfl rfl (Qb rfl) rfl Yf (Opns.cons (Qi C 2 (by kernel_rfl) rfl) (Opns.cons (Qc C 1 0 rfl rfl rfl rfl rfl rfl) Opns.nil)) ((DP (FK x) f1n f2dd (by decide) hdd))
  ·exact Qr rfl rfl (Qb rfl) rfl (Qc C 2 0 rfl rfl rfl rfl rfl rfl)
 intro γ a13 w13 Z13 S13
 replace S13 : AS w 99 [(9,Rt (rad x)),(8,Rt y),(7,Rt x),(6,Jus (.pointer (some ⟨G2_5,0,none⟩))),(5,Jus (.pointer (some ⟨G2_4,0,none⟩))),(4,Bo false)] [(G2_4,43,Agg [Tt (x),Tt ((rad x)),Tt ((rad x*rad x))]),(G2_5,43,Agg [Tt (y),Tt ((rad y)),Tt ((rad y*rad y))])] a13 w13 := cast (by kernel_rfl) (S13.keep [4,5,6,7,8,9])
 clear S12
 refine Qh ?_
 refine wp_seq ?_
 refine wp_seq ?_
 refine Qz [.pure (Bo true),.pure (Bo false),.pure (Bo false),.pure (Agg [Tt (x),Tt ((rad x)),Tt ((rad x*rad x))]),.pure (Rt x),.pure (Rt (rad x)),.pure (Agg [Rt x,Rt (rad x)]),.pure (Agg [Tt (x),Tt ((rad x))]),.pure (Rt (rad x)),.pure (Rt (rad x*rad x)),.pure (Tt ((rad x*rad x))),.pure (Agg [Tt (x),Tt ((rad x)),Tt ((rad x*rad x))]),.pure (Bo false),.pure (Bo false)] ⟨S13,by decide +kernel⟩ (by kernel_rfl) (by kernel_rfl) rfl (by kernel_rfl) ?_ ?_
 ·intro C
  refine ASteps.cons ?_ (ASteps.cons ?_ (ASteps.cons ?_ (ASteps.cons ?_ (ASteps.cons ?_ (ASteps.cons ?_ (ASteps.cons ?_ (ASteps.cons ?_ (ASteps.cons ?_ (ASteps.cons ?_ (ASteps.cons ?_ (ASteps.cons ?_ (ASteps.cons ?_ (ASteps.cons ?_ (ASteps.nil))))))))))))))
  ·exact Qj HPRE rfl rfl (Qb rfl) rfl JW Opns.nil (Wx)
  ·exact Gc true rfl rfl (Qb rfl) rfl (Qc C 0 0 rfl rfl rfl rfl rfl rfl)
  ·exact Qk rfl rfl (Qb rfl) rfl (Qc C 1 0 rfl rfl rfl rfl rfl rfl)
  ·exact QX (k := 0) rfl rfl rfl (Qt C 2 0 false rfl rfl rfl rfl rfl rfl rfl) rfl (Qi C 4 (by kernel_rfl) rfl) (Qy (by kernel_rfl)) UV
  ·exact Qk rfl rfl (Qt C 2 0 false rfl rfl rfl rfl rfl rfl rfl) rfl (Qi C 2 (by kernel_rfl) rfl)
  ·exact Qk rfl rfl (Qt C 2 0 false rfl rfl rfl rfl rfl rfl rfl) rfl (Qi C 0 (by kernel_rfl) rfl)
  ·exact Jt rfl rfl (Qt C 2 2 false rfl rfl rfl rfl rfl rfl rfl) rfl (Opns.cons (Qc C 4 0 rfl rfl rfl rfl rfl rfl) (Opns.cons (Qc C 5 1 rfl rfl rfl rfl rfl rfl) Opns.nil)) (Kq _ _)
  ·exact Qj HPRE rfl rfl (Qt C 2 1 false rfl rfl rfl rfl rfl rfl rfl) rfl Xi (Opns.cons (Qc C 6 0 rfl rfl rfl rfl rfl rfl) Opns.nil) ((RH (QS.mono fx (by decide) : QS 8388621 x) frx (by decide)))
  ·exact Qk rfl rfl (Qt C 2 0 false rfl rfl rfl rfl rfl rfl rfl) rfl (Qi C 0 (by kernel_rfl) rfl)
  ·exact Qj HPRE rfl rfl (Qt C 2 2 false rfl rfl rfl rfl rfl rfl rfl) rfl JF (Opns.cons (Qc C 8 0 rfl rfl rfl rfl rfl rfl) Opns.nil) ((Gh frx (by decide)))
  ·exact Qj HPRE rfl rfl (Qt C 2 2 false rfl rfl rfl rfl rfl rfl rfl) rfl YV (Opns.cons (Qc C 9 0 rfl rfl rfl rfl rfl rfl) Opns.nil) ((LP frrx (by decide)))
  ·exact Jt rfl rfl (Qt C 2 2 false rfl rfl rfl rfl rfl rfl rfl) rfl (Opns.cons (Qc C 7 0 rfl rfl rfl rfl rfl rfl) (Opns.cons (Qc C 10 1 rfl rfl rfl rfl rfl rfl) Opns.nil)) (Oi _ _)
  ·exact Ke rfl rfl (Qt C 2 2 false rfl rfl rfl rfl rfl rfl rfl) rfl (Qc C 3 0 rfl rfl rfl rfl rfl rfl) (Qc C 11 1 rfl rfl rfl rfl rfl rfl) (Or.inr ⟨rfl,rfl⟩) ⟨rfl,rfl,rfl⟩
  ·exact XQ false rfl rfl (Qb rfl) rfl (Qc C 2 0 rfl rfl rfl rfl rfl rfl) (Qc C 12 1 rfl rfl rfl rfl rfl rfl)
 intro γ a14 w14 Z14 S14
 replace S14 : AS w 99 [(48,Bo false),(9,Rt (rad x)),(8,Rt y),(7,Rt x),(6,Jus (.pointer (some ⟨G2_5,0,none⟩))),(5,Jus (.pointer (some ⟨G2_4,0,none⟩))),(4,Bo false)] [(G2_4,43,Agg [Tt (x),Tt ((rad x)),Tt ((rad x*rad x))]),(G2_5,43,Agg [Tt (y),Tt ((rad y)),Tt ((rad y*rad y))])] a14 w14 := cast (by kernel_rfl) (S14.keep [4,5,6,7,8,9,48])
 clear S13
 refine Qh ?_
 refine wp_cond_false (S14.val 0 rfl) ?_
 refine wp_skip ?_
 refine Qh ?_
 refine wp_seq ?_
 refine wp_seq ?_
 refine Qz [.pure (Rt x),.pure (Rt y),.pure (Bo true)] ⟨S14,by decide +kernel⟩ (by kernel_rfl) (by kernel_rfl) rfl (by kernel_rfl) ?_ ?_
 ·intro C
  refine ASteps.cons ?_ (ASteps.cons ?_ (ASteps.cons ?_ (ASteps.nil)))
  ·exact Qk rfl rfl (Qb rfl) rfl (Qi C 3 (by kernel_rfl) rfl)
  ·exact Qk rfl rfl (Qb rfl) rfl (Qi C 2 (by kernel_rfl) rfl)
  ·exact Qj HPRE rfl rfl (Qb rfl) rfl JA (Opns.cons (Qc C 0 0 rfl rfl rfl rfl rfl rfl) (Opns.cons (Qc C 1 1 rfl rfl rfl rfl rfl rfl) Opns.nil)) ((Ek hxy fx fy (by decide)))
 intro γ a15 w15 Z15 S15
 replace S15 : AS w 99 [(51,Bo true),(9,Rt (rad x)),(8,Rt y),(7,Rt x),(6,Jus (.pointer (some ⟨G2_5,0,none⟩))),(5,Jus (.pointer (some ⟨G2_4,0,none⟩))),(4,Bo false)] [(G2_4,43,Agg [Tt (x),Tt ((rad x)),Tt ((rad x*rad x))]),(G2_5,43,Agg [Tt (y),Tt ((rad y)),Tt ((rad y*rad y))])] a15 w15 := cast (by kernel_rfl) (S15.keep [4,5,6,7,8,9,51])
 clear S14
 refine Qh ?_
 refine wp_cond_true (S15.val 0 rfl) ?_
 refine wp_seq ?_
 refine Qz [.pure (Agg [Tt (x),Tt ((rad x)),Tt ((rad x*rad x))]),.pure (Agg [Tt (y),Tt ((rad y)),Tt ((rad y*rad y))]),.pure (Bo true),.pure (Bo true)] ⟨S15,by decide +kernel⟩ (by kernel_rfl) (by kernel_rfl) rfl (by kernel_rfl) ?_ ?_
 ·intro C
  refine ASteps.cons ?_ (ASteps.cons ?_ (ASteps.cons ?_ (ASteps.cons ?_ (ASteps.nil))))
  ·exact QX (k := 0) rfl rfl rfl (Qb rfl) rfl (Qi C 5 (by kernel_rfl) rfl) (Qy (by kernel_rfl)) UV
  ·exact QX (k := 1) rfl rfl rfl (Qb rfl) rfl (Qi C 4 (by kernel_rfl) rfl) (Qy (by kernel_rfl)) UV
  ·exact Ke rfl rfl (Qb rfl) rfl (Qc C 0 0 rfl rfl rfl rfl rfl rfl) (Qc C 1 1 rfl rfl rfl rfl rfl rfl) (Or.inl ⟨rfl,rfl⟩) ⟨hxy,by rw [hxy],by rw [hxy]⟩
  ·exact Qr rfl rfl (Qb rfl) rfl (Qc C 2 0 rfl rfl rfl rfl rfl rfl)
 intro γ a16 w16 Z16 S16
 replace S16 : AS w 99 [(4,Bo true),(9,Rt (rad x)),(8,Rt y),(7,Rt x),(6,Jus (.pointer (some ⟨G2_5,0,none⟩))),(5,Jus (.pointer (some ⟨G2_4,0,none⟩)))] [(G2_4,43,Agg [Tt (x),Tt ((rad x)),Tt ((rad x*rad x))]),(G2_5,43,Agg [Tt (y),Tt ((rad y)),Tt ((rad y*rad y))])] a16 w16 := cast (by kernel_rfl) (S16.keep [4,5,6,7,8,9])
 clear S15
 refine Qh ?_
 refine wp_ret ?_
 refine Gq ?_
 exact S16.ret 0 rfl rfl fun v hv => ⟨S16.bel,by rw [show v=_ from hv]⟩
theorem fd_ne {w : World} {s t : ByteArray} {x y : Rat} (hsx : s.size≤1048576) (hsy : t.size≤1048576) (hx : Cx.rd s.data.toList=x) (hy : Cx.rd t.data.toList=y) (fx : QS 4194309 x) (fy : QS 4194309 y) (hxy : ¬ x=y) {b : Bool} (hcb : (x.num*(y.den : Int) - y.num*(x.den : Int)).natAbs=1 ↔ b=true) (hp : QY w) : Calls Tryz.prog 4 #[.string s,.string t] w fun e w' => Below w.heap.size w w'∧e=.returned (.bool true) := by
 have fl : QS 4194309 ((x.den : Int) : Rat) := QS.low fx
 have frx := Ys fx
 have fry := Ys fy
 have frrx := QS.mul frx frx
 have fsum : QS 16777243 (rad x+rad y) := QS.add frx fry
 have fsq := QS.mul fsum fsum
 have fd1 := QS.sub fx fy
 have fd2 := QS.sub frx fry
 have ffar := QS.add (QS.mul fd1 fd1) (QS.mul fd2 fd2)
 have f1n : QS 1 ((1 : Nat) : Rat) := ⟨by decide,by decide⟩
 have f2n : QS 8388620 ((2 : Nat) : Rat) := QS.mono (⟨by decide,by decide⟩ : QS 2 ((2 : Nat) : Rat)) (by decide)
 have fdd : QS 8388620 ((((x.den : Int)*(x.den : Int) : Int)) : Rat) := by rw [Rat.intCast_mul]; exact QS.mono (QS.mul fl fl) (by decide)
 have f2dd := QS.mul f2n fdd
 have hdd : 0 < ((2 : Nat) : Rat)*((((x.den : Int)*(x.den : Int) : Int)) : Rat) := by
  have h : (0 : Int) < x.den := by have := x.den_pos; omega
  have h2 : (0 : Rat) < ((((x.den : Int)*(x.den : Int) : Int)) : Rat) := by exact_mod_cast Int.mul_pos h h
  exact Rat.mul_pos (by decide) h2
 have sdx : Small ((x.den : Int)).natAbs := by rw [Int.natAbs_natCast]; exact Qm fx.den (by decide)
 have sdy : Small ((y.den : Int)).natAbs := by rw [Int.natAbs_natCast]; exact Qm fy.den (by decide)
 have snx : Small x.num.natAbs := Qm fx.num (by decide)
 have sny : Small y.num.natAbs := Qm fy.num (by decide)
 have sdd : Small ((x.den : Int)*(x.den : Int)).natAbs := by rw [Int.natAbs_mul,Int.natAbs_natCast]; exact ZI fx.den fx.den (by decide)
 have sp1 : Small (x.num*(y.den : Int)).natAbs := by rw [Int.natAbs_mul,Int.natAbs_natCast]; exact ZI fx.num fy.den (by decide)
 have sp2 : Small (y.num*(x.den : Int)).natAbs := by rw [Int.natAbs_mul,Int.natAbs_natCast]; exact ZI fy.num fx.den (by decide)
 have sC : Small (x.num*(y.den : Int) - y.num*(x.den : Int)).natAbs := Ij fx.num fx.den fy.num fy.den
 have s1 : Small (((1 : Nat) : Int)).natAbs := Qm (k := 1) (by decide) (by decide)
 have hf2 := SW hxy (c := x.num*(y.den : Int) - y.num*(x.den : Int)) rfl
 have hge := hf2.1
 have hfs := hf2.2.trans hcb
 have hcz : (x.num*(y.den : Int) - y.num*(x.den : Int)).natAbs=(((1 : Nat) : Int)).natAbs ↔ b=true := hcb
 refine Wz (w0 := w) (n := 99) (Fs := [Tx s,Tx t]) (vs := [.string s,.string t]) (bx := []) Tryz.func4 rfl rfl (Nat.le_of_ble_eq_true rfl) (Below.refl _ _) ⟨rfl,rfl,trivial⟩ (fun k G t F h => by simp at h) List.nodup_nil ?_
 intro a0 S0
 have HPRE : ∀ w',Below w.heap.size w w'→QY w' := fun w' hb => Vq hp hb
 refine wp_seq ?_
 refine Qz [.pure (Bo false)] ⟨S0,by decide +kernel⟩ (by kernel_rfl) (by kernel_rfl) rfl (by kernel_rfl) ?_ ?_
 ·intro C
  refine ASteps.cons ?_ (ASteps.nil)
  ·exact Qr rfl rfl (Qb rfl) rfl (QN _)
 intro γ a1 w1 Z1 S1
 replace S1 : AS w 99 [(4,Bo false),(0,Tx s),(1,Tx t)] [] a1 w1 := cast (by kernel_rfl) (S1.keep [0,1,4])
 clear S0
 refine Qh ?_
 refine wp_seq ?_
 refine Qz [.pure (Tx s),.pure (Agg [Tt (x),Tt ((rad x)),Tt ((rad x*rad x))]),.pure (Tx t),.pure (Agg [Tt (y),Tt ((rad y)),Tt ((rad y*rad y))]),.alloc 43 (Agg [Tx ⟨#[]⟩,Tx ⟨#[]⟩,Tx ⟨#[]⟩]),.alloc 43 (Agg [Tx ⟨#[]⟩,Tx ⟨#[]⟩,Tx ⟨#[]⟩]),.fill 4 (Agg [Tt (x),Tt ((rad x)),Tt ((rad x*rad x))]),.fill 5 (Agg [Tt (y),Tt ((rad y)),Tt ((rad y*rad y))])] ⟨S1,by decide +kernel⟩ (by kernel_rfl) (by kernel_rfl) rfl (by kernel_rfl) ?_ ?_
 ·intro C
  refine ASteps.cons ?_ (ASteps.cons ?_ (ASteps.cons ?_ (ASteps.cons ?_ (ASteps.cons ?_ (ASteps.cons ?_ (ASteps.cons ?_ (ASteps.cons ?_ (ASteps.nil))))))))
  ·exact Qk rfl rfl (Qb rfl) rfl (Qi C 1 (by kernel_rfl) rfl)
  ·exact Qj HPRE rfl rfl (Qb rfl) rfl Xl (Opns.cons (Qc C 0 0 rfl rfl rfl rfl rfl rfl) Opns.nil) ((UF hsx hx fx))
  ·exact Qk rfl rfl (Qb rfl) rfl (Qi C 2 (by kernel_rfl) rfl)
  ·exact Qj HPRE rfl rfl (Qb rfl) rfl Xl (Opns.cons (Qc C 2 0 rfl rfl rfl rfl rfl rfl) Opns.nil) ((UF hsy hy fy))
  ·exact ZF [.string ⟨#[]⟩,.string ⟨#[]⟩,.string ⟨#[]⟩] WS rfl rfl (Qb rfl) rfl (Jy (s0 := 6) (k := 0) (by kernel_rfl) rfl rfl rfl rfl) YR (by simp [Ql]) (by kernel_rfl)
  ·exact ZF [.string ⟨#[]⟩,.string ⟨#[]⟩,.string ⟨#[]⟩] WS rfl rfl (Qb rfl) rfl (Jy (s0 := 7) (k := 0) (by kernel_rfl) rfl rfl rfl rfl) YR (by simp [Ql]) (by kernel_rfl)
  ·exact JU C (a := 4) (k := 0) rfl rfl rfl rfl (Qb rfl) rfl rfl rfl rfl rfl (by decide) (Xf (by kernel_rfl)) (Qc C 1 1 rfl rfl rfl rfl rfl rfl) (YG (Sk (JY x) (JY (rad x)) (JY (rad x*rad x))))
  ·exact JU C (a := 5) (k := 0) rfl rfl rfl rfl (Qb rfl) rfl rfl rfl rfl rfl (by decide) (Xf (by kernel_rfl)) (Qc C 3 1 rfl rfl rfl rfl rfl rfl) (YG (Sk (JY y) (JY (rad y)) (JY (rad y*rad y))))
 intro γ a2 w2 Z2 S2
 replace S2 : AS w 99 [(6,Jus (.pointer (some ⟨γ 5,0,none⟩))),(5,Jus (.pointer (some ⟨γ 4,0,none⟩))),(4,Bo false),(0,Tx s),(1,Tx t)] [(γ 4,43,Agg [Tt (x),Tt ((rad x)),Tt ((rad x*rad x))]),(γ 5,43,Agg [Tt (y),Tt ((rad y)),Tt ((rad y*rad y))])] a2 w2 := cast (by kernel_rfl) (S2.keep [0,1,4,5,6])
 generalize γ 4=G2_4 at S2
 generalize γ 5=G2_5 at S2
 clear S1
 refine Qh ?_
 refine wp_seq ?_
 refine Qz [.pure (Tx s),.pure (Rt x),.pure (Tx t),.pure (Rt y),.pure (Rt x),.pure (Rt y)] ⟨S2,by decide +kernel⟩ (by kernel_rfl) (by kernel_rfl) rfl (by kernel_rfl) ?_ ?_
 ·intro C
  refine ASteps.cons ?_ (ASteps.cons ?_ (ASteps.cons ?_ (ASteps.cons ?_ (ASteps.cons ?_ (ASteps.cons ?_ (ASteps.nil))))))
  ·exact Qk rfl rfl (Qb rfl) rfl (Qi C 3 (by kernel_rfl) rfl)
  ·exact Qj HPRE rfl rfl (Qb rfl) rfl Zt (Opns.cons (Qc C 0 0 rfl rfl rfl rfl rfl rfl) Opns.nil) ((UI (by omega) hx))
  ·exact Qk rfl rfl (Qb rfl) rfl (Qi C 4 (by kernel_rfl) rfl)
  ·exact Qj HPRE rfl rfl (Qb rfl) rfl Zt (Opns.cons (Qc C 2 0 rfl rfl rfl rfl rfl rfl) Opns.nil) ((UI (by omega) hy))
  ·exact Qr rfl rfl (Qb rfl) rfl (Qc C 1 0 rfl rfl rfl rfl rfl rfl)
  ·exact Qr rfl rfl (Qb rfl) rfl (Qc C 3 0 rfl rfl rfl rfl rfl rfl)
 intro γ a3 w3 Z3 S3
 replace S3 : AS w 99 [(8,Rt y),(7,Rt x),(6,Jus (.pointer (some ⟨G2_5,0,none⟩))),(5,Jus (.pointer (some ⟨G2_4,0,none⟩))),(4,Bo false)] [(G2_4,43,Agg [Tt (x),Tt ((rad x)),Tt ((rad x*rad x))]),(G2_5,43,Agg [Tt (y),Tt ((rad y)),Tt ((rad y*rad y))])] a3 w3 := cast (by kernel_rfl) (S3.keep [4,5,6,7,8])
 clear S2
 refine Qh ?_
 refine wp_seq ?_
 refine Io 2 ?_
 refine ZD [.pure (Rt (((1 : Nat)) : Rat)),.pure (Rt (((2 : Nat)) : Rat))] ⟨S3,by decide +kernel⟩ (by kernel_rfl) (by kernel_rfl) rfl (by kernel_rfl) ?_ ?_
 ·intro C
  refine ASteps.cons ?_ (ASteps.cons ?_ (ASteps.nil))
  ·exact Qj HPRE rfl rfl (Qb rfl) rfl Jj (Opns.cons (QN _) Opns.nil) ((PL 1 (by decide) rfl))
  ·exact Qj HPRE rfl rfl (Qb rfl) rfl Jj (Opns.cons (QN _) Opns.nil) ((PL 2 (by decide) rfl))
 intro γ a4 w4 Z4 S4
 replace S4 : AS w 99 [(23,Rt (((2 : Nat)) : Rat)),(22,Rt (((1 : Nat)) : Rat)),(8,Rt y),(7,Rt x),(6,Jus (.pointer (some ⟨G2_5,0,none⟩))),(5,Jus (.pointer (some ⟨G2_4,0,none⟩))),(4,Bo false)] [(G2_4,43,Agg [Tt (x),Tt ((rad x)),Tt ((rad x*rad x))]),(G2_5,43,Agg [Tt (y),Tt ((rad y)),Tt ((rad y*rad y))])] a4 w4 := cast (by kernel_rfl) (S4.keep [4,5,6,7,8,22,23])
 clear S3
 refine Qh ?_
 refine Up rfl rfl ?_
 have hbn := Qf w4 (.cells #[.bool false,.slice none 0 0,.bool false,.slice none 0 0] 34)
 have hB5_0 : G2_4 < w4.heap.size := (S4.box 0 _ _ _ rfl).2.lt
 have hB5_1 : G2_5 < w4.heap.size := (S4.box 1 _ _ _ rfl).2.lt
 have hW5 : w.heap.size≤w4.heap.size := S4.bel.size
 have S5 : AS w 99 [(24,Dr w4.heap.size),(23,Rb w4.heap.size (((2 : Nat)) : Rat)),(22,Rb w4.heap.size (((1 : Nat)) : Rat)),(8,Rb w4.heap.size y),(7,Rb w4.heap.size x),(6,Jus (.pointer (some ⟨G2_5,0,none⟩))),(5,Jus (.pointer (some ⟨G2_4,0,none⟩))),(4,Bo false)] [(G2_4,43,Agg [Tt (x),Tt ((rad x)),Tt ((rad x*rad x))]),(G2_5,43,Agg [Tt (y),Tt ((rad y)),Tt ((rad y*rad y))])] (a4.put (some 24) (.pointer (some ⟨w4.heap.size,0,none⟩))) (w4.alloc (.cells #[.bool false,.slice none 0 0,.bool false,.slice none 0 0] 34)) := S4.put (by decide) (S4.bel.trans (hbn.mono S4.bel.size)) ⟨rfl,Blk.new _ _ _⟩ (by simp) (Qe (XU (S4.fact 0 rfl) hbn) (Qe (XU (S4.fact 1 rfl) hbn) (Qe (XU (S4.fact 2 rfl) hbn) (Qe (XU (S4.fact 3 rfl) hbn) (Qe ((Jus (.pointer (some ⟨G2_5,0,none⟩)) : Fact).st (Grows.of hbn) (S4.fact 4 rfl)) (Qe ((Jus (.pointer (some ⟨G2_4,0,none⟩)) : Fact).st (Grows.of hbn) (S4.fact 5 rfl)) (Qe ((Bo false : Fact).st (Grows.of hbn) (S4.fact 6 rfl)) Zm))))))) (Qs ⟨(S4.box 0 _ _ _ rfl).1,(S4.box 0 _ _ _ rfl).2.below hbn⟩ (Qs ⟨(S4.box 1 _ _ _ rfl).1,(S4.box 1 _ _ _ rfl).2.below hbn⟩ Zn)) S4.dis
 generalize hGe5 : w4.heap.size=G5 at *
 obtain ⟨a5,ea5⟩ : ∃ a : Act,a=a4.put (some 24) (.pointer (some ⟨G5,0,none⟩)) := ⟨_,rfl⟩
 obtain ⟨w5,ew5⟩ : ∃ w' : World,w'=w4.alloc (.cells #[.bool false,.slice none 0 0,.bool false,.slice none 0 0] 34) := ⟨_,rfl⟩
 show wpList _ _ _ _ (a4.put (some 24) (.pointer (some ⟨G5,0,none⟩))) _
 rw [← ea5,← ew5]
 rw [← ea5,← ew5] at S5
 clear S4 ea5 ew5 hbn hGe5
 refine ZK rfl rfl ?_
 have hbn := Qf w5 (.cells #[.bool false,.slice none 0 0] 32)
 have hB6_0 : G2_4 < w5.heap.size := (S5.box 0 _ _ _ rfl).2.lt
 have hB6_1 : G2_5 < w5.heap.size := (S5.box 1 _ _ _ rfl).2.lt
 have hD6_24 : G5 < w5.heap.size := (show (Dr G5).on _ _ from S5.fact 0 rfl).2.lt
 have hW6 : w.heap.size≤w5.heap.size := S5.bel.size
 have S6 : AS w 99 [(25,Di w5.heap.size),(24,Dr G5),(23,Rb G5 (((2 : Nat)) : Rat)),(22,Rb G5 (((1 : Nat)) : Rat)),(8,Rb G5 y),(7,Rb G5 x),(6,Jus (.pointer (some ⟨G2_5,0,none⟩))),(5,Jus (.pointer (some ⟨G2_4,0,none⟩))),(4,Bo false)] [(G2_4,43,Agg [Tt (x),Tt ((rad x)),Tt ((rad x*rad x))]),(G2_5,43,Agg [Tt (y),Tt ((rad y)),Tt ((rad y*rad y))])] (a5.put (some 25) (.pointer (some ⟨w5.heap.size,0,none⟩))) (w5.alloc (.cells #[.bool false,.slice none 0 0] 32)) := S5.put (by decide) (S5.bel.trans (hbn.mono S5.bel.size)) ⟨rfl,Blk.new _ _ _⟩ (by simp) (Qe ((Dr G5 : Fact).st (Grows.of hbn) (S5.fact 0 rfl)) (Qe ((Rb G5 (((2 : Nat)) : Rat) : Fact).st (Grows.of hbn) (S5.fact 1 rfl)) (Qe ((Rb G5 (((1 : Nat)) : Rat) : Fact).st (Grows.of hbn) (S5.fact 2 rfl)) (Qe ((Rb G5 y : Fact).st (Grows.of hbn) (S5.fact 3 rfl)) (Qe ((Rb G5 x : Fact).st (Grows.of hbn) (S5.fact 4 rfl)) (Qe ((Jus (.pointer (some ⟨G2_5,0,none⟩)) : Fact).st (Grows.of hbn) (S5.fact 5 rfl)) (Qe ((Jus (.pointer (some ⟨G2_4,0,none⟩)) : Fact).st (Grows.of hbn) (S5.fact 6 rfl)) (Qe ((Bo false : Fact).st (Grows.of hbn) (S5.fact 7 rfl)) Zm)))))))) (Qs ⟨(S5.box 0 _ _ _ rfl).1,(S5.box 0 _ _ _ rfl).2.below hbn⟩ (Qs ⟨(S5.box 1 _ _ _ rfl).1,(S5.box 1 _ _ _ rfl).2.below hbn⟩ Zn)) S5.dis
 generalize hGe6 : w5.heap.size=G6 at *
 obtain ⟨a6,ea6⟩ : ∃ a : Act,a=a5.put (some 25) (.pointer (some ⟨G6,0,none⟩)) := ⟨_,rfl⟩
 obtain ⟨w6,ew6⟩ : ∃ w' : World,w'=w5.alloc (.cells #[.bool false,.slice none 0 0] 32) := ⟨_,rfl⟩
 show wpList _ _ _ _ (a5.put (some 25) (.pointer (some ⟨G6,0,none⟩))) _
 rw [← ea6,← ew6]
 rw [← ea6,← ew6] at S6
 clear S5 ea6 ew6 hbn hGe6
 refine Xy 1 ?_
 refine Zr 4 ?_
 refine ZD [.pure (Rb G5 x)] ⟨S6,by decide +kernel⟩ (by kernel_rfl) (by kernel_rfl) rfl (by kernel_rfl) ?_ ?_
 ·intro C
  refine ASteps.cons ?_ (ASteps.nil)
  ·exact Qk rfl rfl (Qb rfl) rfl (Qi C 5 (by kernel_rfl) rfl)
 intro γ a7 w7 Z7 S7
 replace S7 : AS w 99 [(26,Rb G5 x),(25,Di G6),(24,Dr G5),(23,Rb G5 (((2 : Nat)) : Rat)),(22,Rb G5 (((1 : Nat)) : Rat)),(8,Rb G5 y),(7,Rb G5 x),(6,Jus (.pointer (some ⟨G2_5,0,none⟩))),(5,Jus (.pointer (some ⟨G2_4,0,none⟩))),(4,Bo false)] [(G2_4,43,Agg [Tt (x),Tt ((rad x)),Tt ((rad x*rad x))]),(G2_5,43,Agg [Tt (y),Tt ((rad y)),Tt ((rad y*rad y))])] a7 w7 := cast (by kernel_rfl) (S7.keep [4,5,6,7,8,22,23,24,25,26])
 clear S6
 refine Qh ?_
 refine QL rfl rfl QK ?_
 have hx0 : (Rt x).on (a7.eval (.tmp 26)) w7 := JJ (S7.fact 0 rfl)
 obtain ⟨gx,hx1,hx2⟩ := hx0
 rw [show (#[Operand.tmp 26] : Array Operand).map a7.eval=#[.pointer (some ⟨gx,0,none⟩)] from by simp [hx1]]
 refine (ZX hx2 fx (by decide)).mono ?_
 rintro _ wc ⟨hbc,gc,rfl,hgc,hoc⟩
 refine ⟨_,rfl,?_⟩
 have hD8_25 : G6 < w7.heap.size := (show (Di G6).on _ _ from S7.fact 1 rfl).2.lt
 have hD8_24 : G5 < w7.heap.size := (show (Dr G5).on _ _ from S7.fact 2 rfl).2.lt
 have S8 : AS w 99 [(27,Ia w7.heap.size ((x.den : Int))),(25,Di G6),(24,Dr G5),(23,Rb G5 (((2 : Nat)) : Rat)),(22,Rb G5 (((1 : Nat)) : Rat)),(8,Rb G5 y),(7,Rb G5 x),(6,Jus (.pointer (some ⟨G2_5,0,none⟩))),(5,Jus (.pointer (some ⟨G2_4,0,none⟩))),(4,Bo false)] [(G2_4,43,Agg [Tt (x),Tt ((rad x)),Tt ((rad x*rad x))]),(G2_5,43,Agg [Tt (y),Tt ((rad y)),Tt ((rad y*rad y))])] (a7.put (some 27) (.pointer (some ⟨gc,0,none⟩))) wc := S7.put (by decide) (S7.bel.trans (hbc.mono S7.bel.size)) ⟨gc,rfl,hgc,hoc⟩ (by simp) (Qe ((Di G6 : Fact).st (Grows.of hbc) (S7.fact 1 rfl)) (Qe ((Dr G5 : Fact).st (Grows.of hbc) (S7.fact 2 rfl)) (Qe ((Rb G5 (((2 : Nat)) : Rat) : Fact).st (Grows.of hbc) (S7.fact 3 rfl)) (Qe ((Rb G5 (((1 : Nat)) : Rat) : Fact).st (Grows.of hbc) (S7.fact 4 rfl)) (Qe ((Rb G5 y : Fact).st (Grows.of hbc) (S7.fact 5 rfl)) (Qe ((Rb G5 x : Fact).st (Grows.of hbc) (S7.fact 6 rfl)) (Qe ((Jus (.pointer (some ⟨G2_5,0,none⟩)) : Fact).st (Grows.of hbc) (S7.fact 7 rfl)) (Qe ((Jus (.pointer (some ⟨G2_4,0,none⟩)) : Fact).st (Grows.of hbc) (S7.fact 8 rfl)) (Qe ((Bo false : Fact).st (Grows.of hbc) (S7.fact 9 rfl)) Zm))))))))) (Qs ⟨(S7.box 0 _ _ _ rfl).1,(S7.box 0 _ _ _ rfl).2.below hbc⟩ (Qs ⟨(S7.box 1 _ _ _ rfl).1,(S7.box 1 _ _ _ rfl).2.below hbc⟩ Zn)) S7.dis
 generalize hBe8 : w7.heap.size=B8 at *
 obtain ⟨a8,ea8⟩ : ∃ a : Act,a=a7.put (some 27) (.pointer (some ⟨gc,0,none⟩)) := ⟨_,rfl⟩
 obtain ⟨w8,ew8⟩ : ∃ w' : World,w'=wc := ⟨_,rfl⟩
 subst ew8
 show wpList _ _ _ _ (a7.put (some 27) (.pointer (some ⟨gc,0,none⟩))) _
 rw [← ea8]
 rw [← ea8] at S8
 clear S7 ea8 hx1 hx2 hbc hgc hoc hBe8
 refine Xy 1 ?_
 refine Zr 6 ?_
 refine ZD [.pure (Rb G5 x)] ⟨S8,by decide +kernel⟩ (by kernel_rfl) (by kernel_rfl) rfl (by kernel_rfl) ?_ ?_
 ·intro C
  refine ASteps.cons ?_ (ASteps.nil)
  ·exact Qk rfl rfl (Qb rfl) rfl (Qi C 6 (by kernel_rfl) rfl)
 intro γ a9 w9 Z9 S9
 replace S9 : AS w 99 [(28,Rb G5 x),(27,Ia B8 ((x.den : Int))),(25,Di G6),(24,Dr G5),(23,Rb G5 (((2 : Nat)) : Rat)),(22,Rb G5 (((1 : Nat)) : Rat)),(8,Rb G5 y),(7,Rb G5 x),(6,Jus (.pointer (some ⟨G2_5,0,none⟩))),(5,Jus (.pointer (some ⟨G2_4,0,none⟩))),(4,Bo false)] [(G2_4,43,Agg [Tt (x),Tt ((rad x)),Tt ((rad x*rad x))]),(G2_5,43,Agg [Tt (y),Tt ((rad y)),Tt ((rad y*rad y))])] a9 w9 := cast (by kernel_rfl) (S9.keep [4,5,6,7,8,22,23,24,25,27,28])
 clear S8
 refine Qh ?_
 refine QL rfl rfl QK ?_
 have hx0 : (Rt x).on (a9.eval (.tmp 28)) w9 := JJ (S9.fact 0 rfl)
 obtain ⟨gx,hx1,hx2⟩ := hx0
 rw [show (#[Operand.tmp 28] : Array Operand).map a9.eval=#[.pointer (some ⟨gx,0,none⟩)] from by simp [hx1]]
 refine (ZX hx2 fx (by decide)).mono ?_
 rintro _ wc ⟨hbc,gc,rfl,hgc,hoc⟩
 refine ⟨_,rfl,?_⟩
 have hD10_25 : G6 < w9.heap.size := (show (Di G6).on _ _ from S9.fact 2 rfl).2.lt
 have hD10_24 : G5 < w9.heap.size := (show (Dr G5).on _ _ from S9.fact 3 rfl).2.lt
 have S10 : AS w 99 [(29,Ia w9.heap.size ((x.den : Int))),(27,Ia B8 ((x.den : Int))),(25,Di G6),(24,Dr G5),(23,Rb G5 (((2 : Nat)) : Rat)),(22,Rb G5 (((1 : Nat)) : Rat)),(8,Rb G5 y),(7,Rb G5 x),(6,Jus (.pointer (some ⟨G2_5,0,none⟩))),(5,Jus (.pointer (some ⟨G2_4,0,none⟩))),(4,Bo false)] [(G2_4,43,Agg [Tt (x),Tt ((rad x)),Tt ((rad x*rad x))]),(G2_5,43,Agg [Tt (y),Tt ((rad y)),Tt ((rad y*rad y))])] (a9.put (some 29) (.pointer (some ⟨gc,0,none⟩))) wc := S9.put (by decide) (S9.bel.trans (hbc.mono S9.bel.size)) ⟨gc,rfl,hgc,hoc⟩ (by simp) (Qe ((Ia B8 ((x.den : Int)) : Fact).st (Grows.of hbc) (S9.fact 1 rfl)) (Qe ((Di G6 : Fact).st (Grows.of hbc) (S9.fact 2 rfl)) (Qe ((Dr G5 : Fact).st (Grows.of hbc) (S9.fact 3 rfl)) (Qe ((Rb G5 (((2 : Nat)) : Rat) : Fact).st (Grows.of hbc) (S9.fact 4 rfl)) (Qe ((Rb G5 (((1 : Nat)) : Rat) : Fact).st (Grows.of hbc) (S9.fact 5 rfl)) (Qe ((Rb G5 y : Fact).st (Grows.of hbc) (S9.fact 6 rfl)) (Qe ((Rb G5 x : Fact).st (Grows.of hbc) (S9.fact 7 rfl)) (Qe ((Jus (.pointer (some ⟨G2_5,0,none⟩)) : Fact).st (Grows.of hbc) (S9.fact 8 rfl)) (Qe ((Jus (.pointer (some ⟨G2_4,0,none⟩)) : Fact).st (Grows.of hbc) (S9.fact 9 rfl)) (Qe ((Bo false : Fact).st (Grows.of hbc) (S9.fact 10 rfl)) Zm)))))))))) (Qs ⟨(S9.box 0 _ _ _ rfl).1,(S9.box 0 _ _ _ rfl).2.below hbc⟩ (Qs ⟨(S9.box 1 _ _ _ rfl).1,(S9.box 1 _ _ _ rfl).2.below hbc⟩ Zn)) S9.dis
 generalize hBe10 : w9.heap.size=B10 at *
 obtain ⟨a10,ea10⟩ : ∃ a : Act,a=a9.put (some 29) (.pointer (some ⟨gc,0,none⟩)) := ⟨_,rfl⟩
 obtain ⟨w10,ew10⟩ : ∃ w' : World,w'=wc := ⟨_,rfl⟩
 subst ew10
 show wpList _ _ _ _ (a9.put (some 29) (.pointer (some ⟨gc,0,none⟩))) _
 rw [← ea10]
 rw [← ea10] at S10
 clear S9 ea10 hx1 hx2 hbc hgc hoc hBe10
 refine QL rfl rfl Zh ?_
 have hz0 : (Di G6).on (a10.eval (.tmp 25)) w10 := S10.fact 2 rfl
 have hblk := hz0.2
 have hh : JQ w10 G6 := ⟨_,_,hblk,by simp [Ql]⟩
 rw [show (#[Operand.tmp 25,Operand.tmp 27,Operand.tmp 29] : Array Operand).map a10.eval=#[.pointer (some ⟨G6,0,none⟩),a10.eval (.tmp 27),a10.eval (.tmp 29)] from by simp [hz0.1]]
 refine (Jn (At2.blk hblk) (Xa (OB (S10.fact 1 rfl))) (Xa (OB (S10.fact 0 rfl))) (Xs (S10.fact 1 rfl) (by omega)) (Xs (S10.fact 0 rfl) (by omega)) sdx sdx).mono ?_
 rintro _ wc ⟨rfl,hgv⟩
 refine ⟨_,rfl,?_⟩
 have hsv := hgv.save
 obtain ⟨hoc,hbl⟩ := hgv.own hblk
 have hGw : w.heap.size≤G6 := by omega
 have S11 : AS w 99 [(30,Ig G6 ((x.den : Int)*(x.den : Int))),(24,Dr G5),(23,Rb G5 (((2 : Nat)) : Rat)),(22,Rb G5 (((1 : Nat)) : Rat)),(8,Rb G5 y),(7,Rb G5 x),(6,Jus (.pointer (some ⟨G2_5,0,none⟩))),(5,Jus (.pointer (some ⟨G2_4,0,none⟩))),(4,Bo false)] [(G2_4,43,Agg [Tt (x),Tt ((rad x)),Tt ((rad x*rad x))]),(G2_5,43,Agg [Tt (y),Tt ((rad y)),Tt ((rad y*rad y))])] (a10.put (some 30) (.pointer (some ⟨G6,0,none⟩))) wc := S10.put (by decide) (S10.bel.trans (hsv.below hGw S10.bel.size)) ⟨rfl,hoc⟩ (by simp) (Qe (Dq (S10.fact 3 rfl) (by omega) hsv) (Qe (QR (S10.fact 4 rfl) (by omega) hh hsv) (Qe (QR (S10.fact 5 rfl) (by omega) hh hsv) (Qe (QR (S10.fact 6 rfl) (by omega) hh hsv) (Qe (QR (S10.fact 7 rfl) (by omega) hh hsv) (Qe (show (Jus (.pointer (some ⟨G2_5,0,none⟩))).on _ _ from (S10.fact 8 rfl)) (Qe (show (Jus (.pointer (some ⟨G2_4,0,none⟩))).on _ _ from (S10.fact 9 rfl)) (Qe (show (Bo false).on _ _ from (S10.fact 10 rfl)) Zm)))))))) (Qs ⟨(S10.box 0 _ _ _ rfl).1,(S10.box 0 _ _ _ rfl).2.save2 hsv (by omega) (fun _ h => ZW h)⟩ (Qs ⟨(S10.box 1 _ _ _ rfl).1,(S10.box 1 _ _ _ rfl).2.save2 hsv (by omega) (fun _ h => ZW h)⟩ Zn)) S10.dis
 obtain ⟨a11,ea11⟩ : ∃ a : Act,a=a10.put (some 30) (.pointer (some ⟨G6,0,none⟩)) := ⟨_,rfl⟩
 obtain ⟨w11,ew11⟩ : ∃ w' : World,w'=wc := ⟨_,rfl⟩
 subst ew11
 show wpList _ _ _ _ (a10.put (some 30) (.pointer (some ⟨G6,0,none⟩))) _
 rw [← ea11]
 rw [← ea11] at S11
 clear S10 ea11 hblk hh hgv hsv hoc hbl
 refine QL rfl rfl Ju ?_
 have hz0 : (Dr G5).on (a11.eval (.tmp 24)) w11 := S11.fact 1 rfl
 have hh : JQ w11 G5 := ⟨_,_,hz0.2,by simp [Ql]⟩
 rw [show (#[Operand.tmp 24,Operand.tmp 30] : Array Operand).map a11.eval=#[.pointer (some ⟨G5,0,none⟩),a11.eval (.tmp 30)] from by simp [hz0.1]]
 refine (YX hz0.2 (by simp [Ql]) (Xa (KQ (S11.fact 0 rfl))) sdd).mono ?_
 rintro _ wc ⟨rfl,hsv,hrv⟩
 refine ⟨_,rfl,?_⟩
 have hGw : w.heap.size≤G5 := by omega
 have S12 : AS w 99 [(31,Rt ((((x.den : Int)*(x.den : Int) : Int)) : Rat)),(23,Rt (((2 : Nat)) : Rat)),(22,Rt (((1 : Nat)) : Rat)),(8,Rt y),(7,Rt x),(6,Jus (.pointer (some ⟨G2_5,0,none⟩))),(5,Jus (.pointer (some ⟨G2_4,0,none⟩))),(4,Bo false)] [(G2_4,43,Agg [Tt (x),Tt ((rad x)),Tt ((rad x*rad x))]),(G2_5,43,Agg [Tt (y),Tt ((rad y)),Tt ((rad y*rad y))])] (a11.put (some 31) (.pointer (some ⟨G5,0,none⟩))) wc := S11.put (by decide) (S11.bel.trans (hsv.below hGw S11.bel.size)) ⟨G5,rfl,hrv⟩ (by simp) (Qe (JJ (QR (S11.fact 2 rfl) (by omega) hh hsv)) (Qe (JJ (QR (S11.fact 3 rfl) (by omega) hh hsv)) (Qe (JJ (QR (S11.fact 4 rfl) (by omega) hh hsv)) (Qe (JJ (QR (S11.fact 5 rfl) (by omega) hh hsv)) (Qe (show (Jus (.pointer (some ⟨G2_5,0,none⟩))).on _ _ from (S11.fact 6 rfl)) (Qe (show (Jus (.pointer (some ⟨G2_4,0,none⟩))).on _ _ from (S11.fact 7 rfl)) (Qe (show (Bo false).on _ _ from (S11.fact 8 rfl)) Zm))))))) (Qs ⟨(S11.box 0 _ _ _ rfl).1,(S11.box 0 _ _ _ rfl).2.save2 hsv (by omega) (fun _ h => ZW h)⟩ (Qs ⟨(S11.box 1 _ _ _ rfl).1,(S11.box 1 _ _ _ rfl).2.save2 hsv (by omega) (fun _ h => ZW h)⟩ Zn)) S11.dis
 obtain ⟨a12,ea12⟩ : ∃ a : Act,a=a11.put (some 31) (.pointer (some ⟨G5,0,none⟩)) := ⟨_,rfl⟩
 obtain ⟨w12,ew12⟩ : ∃ w' : World,w'=wc := ⟨_,rfl⟩
 subst ew12
 show wpList _ _ _ _ (a11.put (some 31) (.pointer (some ⟨G5,0,none⟩))) _
 rw [← ea12]
 rw [← ea12] at S12
 clear S11 ea12 hz0 hh hsv hrv
 refine Zr 10 ?_
 refine ZD [.soft (Dm 28 2 [Rt (((2 : Nat)) : Rat),Rt ((((x.den : Int)*(x.den : Int) : Int)) : Rat)]),.pure (Rt (((2 : Nat) : Rat)*((((x.den : Int)*(x.den : Int) : Int)) : Rat))),.pure (Rt (rad x)),.pure (Rt (rad x))] ⟨S12,by decide +kernel⟩ (by kernel_rfl) (by kernel_rfl) rfl (by kernel_rfl) ?_ ?_
 ·intro C
  refine ASteps.cons ?_ (ASteps.cons ?_ (ASteps.cons ?_ (ASteps.cons ?_ (ASteps.nil))))
  ·exact YK rfl rfl (Qb rfl) rfl (Opns.cons (Qi C 1 (by kernel_rfl) rfl) (Opns.cons (Qi C 0 (by kernel_rfl) rfl) Opns.nil)) (Us _ _)
  ·exact Vj HPRE rfl rfl (Qb rfl) rfl XY (OpnsS.cons (WZ C 0 0 rfl rfl rfl rfl rfl rfl (by kernel_rfl)) OpnsS.nil) ((KO rfl f2n fdd (by decide)))
  ·exact Qj HPRE rfl rfl (Qb rfl) rfl Yf (Opns.cons (Qi C 2 (by kernel_rfl) rfl) (Opns.cons (Qc C 1 0 rfl rfl rfl rfl rfl rfl) Opns.nil)) ((DP (FK x) f1n f2dd (by decide) hdd))
  ·exact Qr rfl rfl (Qb rfl) rfl (Qc C 2 0 rfl rfl rfl rfl rfl rfl)
 intro γ a13 w13 Z13 S13
 replace S13 : AS w 99 [(9,Rt (rad x)),(8,Rt y),(7,Rt x),(6,Jus (.pointer (some ⟨G2_5,0,none⟩))),(5,Jus (.pointer (some ⟨G2_4,0,none⟩))),(4,Bo false)] [(G2_4,43,Agg [Tt (x),Tt ((rad x)),Tt ((rad x*rad x))]),(G2_5,43,Agg [Tt (y),Tt ((rad y)),Tt ((rad y*rad y))])] a13 w13 := cast (by kernel_rfl) (S13.keep [4,5,6,7,8,9])
 clear S12
 refine Qh ?_
 refine wp_seq ?_
 refine wp_seq ?_
 refine Qz [.pure (Bo true),.pure (Bo false),.pure (Bo false),.pure (Agg [Tt (x),Tt ((rad x)),Tt ((rad x*rad x))]),.pure (Rt x),.pure (Rt (rad x)),.pure (Agg [Rt x,Rt (rad x)]),.pure (Agg [Tt (x),Tt ((rad x))]),.pure (Rt (rad x)),.pure (Rt (rad x*rad x)),.pure (Tt ((rad x*rad x))),.pure (Agg [Tt (x),Tt ((rad x)),Tt ((rad x*rad x))]),.pure (Bo false),.pure (Bo false)] ⟨S13,by decide +kernel⟩ (by kernel_rfl) (by kernel_rfl) rfl (by kernel_rfl) ?_ ?_
 ·intro C
  refine ASteps.cons ?_ (ASteps.cons ?_ (ASteps.cons ?_ (ASteps.cons ?_ (ASteps.cons ?_ (ASteps.cons ?_ (ASteps.cons ?_ (ASteps.cons ?_ (ASteps.cons ?_ (ASteps.cons ?_ (ASteps.cons ?_ (ASteps.cons ?_ (ASteps.cons ?_ (ASteps.cons ?_ (ASteps.nil))))))))))))))
  ·exact Qj HPRE rfl rfl (Qb rfl) rfl JW Opns.nil (Wx)
  ·exact Gc true rfl rfl (Qb rfl) rfl (Qc C 0 0 rfl rfl rfl rfl rfl rfl)
  ·exact Qk rfl rfl (Qb rfl) rfl (Qc C 1 0 rfl rfl rfl rfl rfl rfl)
  ·exact QX (k := 0) rfl rfl rfl (Qt C 2 0 false rfl rfl rfl rfl rfl rfl rfl) rfl (Qi C 4 (by kernel_rfl) rfl) (Qy (by kernel_rfl)) UV
  ·exact Qk rfl rfl (Qt C 2 0 false rfl rfl rfl rfl rfl rfl rfl) rfl (Qi C 2 (by kernel_rfl) rfl)
  ·exact Qk rfl rfl (Qt C 2 0 false rfl rfl rfl rfl rfl rfl rfl) rfl (Qi C 0 (by kernel_rfl) rfl)
  ·exact Jt rfl rfl (Qt C 2 2 false rfl rfl rfl rfl rfl rfl rfl) rfl (Opns.cons (Qc C 4 0 rfl rfl rfl rfl rfl rfl) (Opns.cons (Qc C 5 1 rfl rfl rfl rfl rfl rfl) Opns.nil)) (Kq _ _)
  ·exact Qj HPRE rfl rfl (Qt C 2 1 false rfl rfl rfl rfl rfl rfl rfl) rfl Xi (Opns.cons (Qc C 6 0 rfl rfl rfl rfl rfl rfl) Opns.nil) ((RH (QS.mono fx (by decide) : QS 8388621 x) frx (by decide)))
  ·exact Qk rfl rfl (Qt C 2 0 false rfl rfl rfl rfl rfl rfl rfl) rfl (Qi C 0 (by kernel_rfl) rfl)
  ·exact Qj HPRE rfl rfl (Qt C 2 2 false rfl rfl rfl rfl rfl rfl rfl) rfl JF (Opns.cons (Qc C 8 0 rfl rfl rfl rfl rfl rfl) Opns.nil) ((Gh frx (by decide)))
  ·exact Qj HPRE rfl rfl (Qt C 2 2 false rfl rfl rfl rfl rfl rfl rfl) rfl YV (Opns.cons (Qc C 9 0 rfl rfl rfl rfl rfl rfl) Opns.nil) ((LP frrx (by decide)))
  ·exact Jt rfl rfl (Qt C 2 2 false rfl rfl rfl rfl rfl rfl rfl) rfl (Opns.cons (Qc C 7 0 rfl rfl rfl rfl rfl rfl) (Opns.cons (Qc C 10 1 rfl rfl rfl rfl rfl rfl) Opns.nil)) (Oi _ _)
  ·exact Ke rfl rfl (Qt C 2 2 false rfl rfl rfl rfl rfl rfl rfl) rfl (Qc C 3 0 rfl rfl rfl rfl rfl rfl) (Qc C 11 1 rfl rfl rfl rfl rfl rfl) (Or.inr ⟨rfl,rfl⟩) ⟨rfl,rfl,rfl⟩
  ·exact XQ false rfl rfl (Qb rfl) rfl (Qc C 2 0 rfl rfl rfl rfl rfl rfl) (Qc C 12 1 rfl rfl rfl rfl rfl rfl)
 intro γ a14 w14 Z14 S14
 replace S14 : AS w 99 [(48,Bo false),(9,Rt (rad x)),(8,Rt y),(7,Rt x),(6,Jus (.pointer (some ⟨G2_5,0,none⟩))),(5,Jus (.pointer (some ⟨G2_4,0,none⟩))),(4,Bo false)] [(G2_4,43,Agg [Tt (x),Tt ((rad x)),Tt ((rad x*rad x))]),(G2_5,43,Agg [Tt (y),Tt ((rad y)),Tt ((rad y*rad y))])] a14 w14 := cast (by kernel_rfl) (S14.keep [4,5,6,7,8,9,48])
 clear S13
 refine Qh ?_
 refine wp_cond_false (S14.val 0 rfl) ?_
 refine wp_skip ?_
 refine Qh ?_
 refine wp_seq ?_
 refine wp_seq ?_
 refine Qz [.pure (Rt x),.pure (Rt y),.pure (Bo false)] ⟨S14,by decide +kernel⟩ (by kernel_rfl) (by kernel_rfl) rfl (by kernel_rfl) ?_ ?_
 ·intro C
  refine ASteps.cons ?_ (ASteps.cons ?_ (ASteps.cons ?_ (ASteps.nil)))
  ·exact Qk rfl rfl (Qb rfl) rfl (Qi C 3 (by kernel_rfl) rfl)
  ·exact Qk rfl rfl (Qb rfl) rfl (Qi C 2 (by kernel_rfl) rfl)
  ·exact Qj HPRE rfl rfl (Qb rfl) rfl JA (Opns.cons (Qc C 0 0 rfl rfl rfl rfl rfl rfl) (Opns.cons (Qc C 1 1 rfl rfl rfl rfl rfl rfl) Opns.nil)) ((Dw hxy fx fy (by decide)))
 intro γ a15 w15 Z15 S15
 replace S15 : AS w 99 [(51,Bo false),(9,Rt (rad x)),(8,Rt y),(7,Rt x),(6,Jus (.pointer (some ⟨G2_5,0,none⟩))),(5,Jus (.pointer (some ⟨G2_4,0,none⟩))),(4,Bo false)] [(G2_4,43,Agg [Tt (x),Tt ((rad x)),Tt ((rad x*rad x))]),(G2_5,43,Agg [Tt (y),Tt ((rad y)),Tt ((rad y*rad y))])] a15 w15 := cast (by kernel_rfl) (S15.keep [4,5,6,7,8,9,51])
 clear S14
 refine Qh ?_
 refine wp_cond_false (S15.val 0 rfl) ?_
 refine wp_skip ?_
 refine Qh ?_
 refine wp_seq ?_
 refine Qz [.pure (Jus (.pointer (some ⟨G2_5,0,none⟩))),.pure (Jus (.pointer (some ⟨G2_5,1,none⟩))),.pure (Tt ((rad y))),.pure (Rt (rad y)),.pure (Rt (rad y))] ⟨S15,by decide +kernel⟩ (by kernel_rfl) (by kernel_rfl) rfl (by kernel_rfl) ?_ ?_
 ·intro C
  refine ASteps.cons ?_ (ASteps.cons ?_ (ASteps.cons ?_ (ASteps.cons ?_ (ASteps.cons ?_ (ASteps.nil)))))
  ·exact Qp rfl rfl (Qb rfl) rfl (Qi C 4 (by kernel_rfl) rfl) (Vg _)
  ·exact Qp rfl rfl (Qb rfl) rfl (Qc C 0 0 rfl rfl rfl rfl rfl rfl) (PJ _)
  ·exact QJ (k := 1) rfl rfl rfl (Qb rfl) rfl (Qc C 1 0 rfl rfl rfl rfl rfl rfl) (Qy (by kernel_rfl)) (Bz rfl one_Q)
  ·exact Qj HPRE rfl rfl (Qb rfl) rfl Zt (Opns.cons (Qc C 2 0 rfl rfl rfl rfl rfl rfl) Opns.nil) ((EL fry (by decide)))
  ·exact Qr rfl rfl (Qb rfl) rfl (Qc C 3 0 rfl rfl rfl rfl rfl rfl)
 intro γ a16 w16 Z16 S16
 replace S16 : AS w 99 [(10,Rt (rad y)),(9,Rt (rad x)),(8,Rt y),(7,Rt x),(6,Jus (.pointer (some ⟨G2_5,0,none⟩))),(5,Jus (.pointer (some ⟨G2_4,0,none⟩))),(4,Bo false)] [(G2_4,43,Agg [Tt (x),Tt ((rad x)),Tt ((rad x*rad x))]),(G2_5,43,Agg [Tt (y),Tt ((rad y)),Tt ((rad y*rad y))])] a16 w16 := cast (by kernel_rfl) (S16.keep [4,5,6,7,8,9,10])
 clear S15
 refine Qh ?_
 refine wp_seq ?_
 refine Qz [.pure (Jus (.pointer (some ⟨G2_4,0,none⟩))),.pure (Agg [Tt (x),Tt ((rad x))]),.pure (Agg [Rt x,Rt (rad x)]),.pure (Jus (.pointer (some ⟨G2_5,0,none⟩))),.pure (Agg [Tt (y),Tt ((rad y))]),.pure (Agg [Rt y,Rt (rad y)]),.pure (Rt ((x - y)*(x - y)+(rad x - rad y)*(rad x - rad y))),.pure (Rt (rad x)),.pure (Rt (rad y)),.soft (Dm 28 2 [Rt (rad x),Rt (rad y)]),.pure (Rt (rad x+rad y)),.pure (Rt ((rad x+rad y)*(rad x+rad y))),.pure (Rt ((x - y)*(x - y)+(rad x - rad y)*(rad x - rad y))),.pure (Rt ((rad x+rad y)*(rad x+rad y)))] ⟨S16,by decide +kernel⟩ (by kernel_rfl) (by kernel_rfl) rfl (by kernel_rfl) ?_ ?_
 ·intro C
  refine ASteps.cons ?_ (ASteps.cons ?_ (ASteps.cons ?_ (ASteps.cons ?_ (ASteps.cons ?_ (ASteps.cons ?_ (ASteps.cons ?_ (ASteps.cons ?_ (ASteps.cons ?_ (ASteps.cons ?_ (ASteps.cons ?_ (ASteps.cons ?_ (ASteps.cons ?_ (ASteps.cons ?_ (ASteps.nil))))))))))))))
  ·exact Qp rfl rfl (Qb rfl) rfl (Qi C 5 (by kernel_rfl) rfl) (Vg _)
  ·exact QJ (k := 0) rfl rfl rfl (Qb rfl) rfl (Qc C 0 0 rfl rfl rfl rfl rfl rfl) (Qy (by kernel_rfl)) Kf
  ·exact Qj HPRE rfl rfl (Qb rfl) rfl XH (Opns.cons (Qc C 1 0 rfl rfl rfl rfl rfl rfl) Opns.nil) ((DK fx frx (by decide) (by decide)))
  ·exact Qp rfl rfl (Qb rfl) rfl (Qi C 4 (by kernel_rfl) rfl) (Vg _)
  ·exact QJ (k := 1) rfl rfl rfl (Qb rfl) rfl (Qc C 3 0 rfl rfl rfl rfl rfl rfl) (Qy (by kernel_rfl)) Kf
  ·exact Qj HPRE rfl rfl (Qb rfl) rfl XH (Opns.cons (Qc C 4 0 rfl rfl rfl rfl rfl rfl) Opns.nil) ((DK fy fry (by decide) (by decide)))
  ·exact Qj HPRE rfl rfl (Qb rfl) rfl YJ (Opns.cons (Qc C 2 0 rfl rfl rfl rfl rfl rfl) (Opns.cons (Qc C 5 1 rfl rfl rfl rfl rfl rfl) Opns.nil)) ((Sc (QS.mono fx (by decide) : QS 8388621 x) frx (QS.mono fy (by decide) : QS 8388621 y) fry (by decide)))
  ·exact Qk rfl rfl (Qb rfl) rfl (Qi C 1 (by kernel_rfl) rfl)
  ·exact Qk rfl rfl (Qb rfl) rfl (Qi C 0 (by kernel_rfl) rfl)
  ·exact YK rfl rfl (Qb rfl) rfl (Opns.cons (Qc C 7 0 rfl rfl rfl rfl rfl rfl) (Opns.cons (Qc C 8 1 rfl rfl rfl rfl rfl rfl) Opns.nil)) (Us _ _)
  ·exact Vj HPRE rfl rfl (Qb rfl) rfl VZ (OpnsS.cons (WZ C 9 0 rfl rfl rfl rfl rfl rfl (by kernel_rfl)) OpnsS.nil) ((SF rfl frx fry (by decide)))
  ·exact Qj HPRE rfl rfl (Qb rfl) rfl JF (Opns.cons (Qc C 10 0 rfl rfl rfl rfl rfl rfl) Opns.nil) ((Gh fsum (by decide)))
  ·exact Qr rfl rfl (Qb rfl) rfl (Qc C 6 0 rfl rfl rfl rfl rfl rfl)
  ·exact Qr rfl rfl (Qb rfl) rfl (Qc C 11 0 rfl rfl rfl rfl rfl rfl)
 intro γ a17 w17 Z17 S17
 replace S17 : AS w 99 [(12,Rt ((rad x+rad y)*(rad x+rad y))),(11,Rt ((x - y)*(x - y)+(rad x - rad y)*(rad x - rad y))),(8,Rt y),(7,Rt x),(4,Bo false)] [(G2_4,43,Agg [Tt (x),Tt ((rad x)),Tt ((rad x*rad x))]),(G2_5,43,Agg [Tt (y),Tt ((rad y)),Tt ((rad y*rad y))])] a17 w17 := cast (by kernel_rfl) (S17.keep [4,7,8,11,12])
 clear S16
 refine Qh ?_
 refine wp_seq ?_
 refine wp_region_lit ?_
 refine ZK rfl rfl ?_
 have hbn := Qf w17 (.cells #[.bool false,.slice none 0 0] 32)
 have hB18_0 : G2_4 < w17.heap.size := (S17.box 0 _ _ _ rfl).2.lt
 have hB18_1 : G2_5 < w17.heap.size := (S17.box 1 _ _ _ rfl).2.lt
 have hW18 : w.heap.size≤w17.heap.size := S17.bel.size
 have S18 : AS w 99 [(71,Di w17.heap.size),(12,Rb w17.heap.size ((rad x+rad y)*(rad x+rad y))),(11,Rb w17.heap.size ((x - y)*(x - y)+(rad x - rad y)*(rad x - rad y))),(8,Rb w17.heap.size y),(7,Rb w17.heap.size x),(4,Bo false)] [(G2_4,43,Agg [Tt (x),Tt ((rad x)),Tt ((rad x*rad x))]),(G2_5,43,Agg [Tt (y),Tt ((rad y)),Tt ((rad y*rad y))])] (a17.put (some 71) (.pointer (some ⟨w17.heap.size,0,none⟩))) (w17.alloc (.cells #[.bool false,.slice none 0 0] 32)) := S17.put (by decide) (S17.bel.trans (hbn.mono S17.bel.size)) ⟨rfl,Blk.new _ _ _⟩ (by simp) (Qe (XU (S17.fact 0 rfl) hbn) (Qe (XU (S17.fact 1 rfl) hbn) (Qe (XU (S17.fact 2 rfl) hbn) (Qe (XU (S17.fact 3 rfl) hbn) (Qe ((Bo false : Fact).st (Grows.of hbn) (S17.fact 4 rfl)) Zm))))) (Qs ⟨(S17.box 0 _ _ _ rfl).1,(S17.box 0 _ _ _ rfl).2.below hbn⟩ (Qs ⟨(S17.box 1 _ _ _ rfl).1,(S17.box 1 _ _ _ rfl).2.below hbn⟩ Zn)) S17.dis
 generalize hGe18 : w17.heap.size=G18 at *
 obtain ⟨a18,ea18⟩ : ∃ a : Act,a=a17.put (some 71) (.pointer (some ⟨G18,0,none⟩)) := ⟨_,rfl⟩
 obtain ⟨w18,ew18⟩ : ∃ w' : World,w'=w17.alloc (.cells #[.bool false,.slice none 0 0] 32) := ⟨_,rfl⟩
 show wpList _ _ _ _ (a17.put (some 71) (.pointer (some ⟨G18,0,none⟩))) _
 rw [← ea18,← ew18]
 rw [← ea18,← ew18] at S18
 clear S17 ea18 ew18 hbn hGe18
 refine ZK rfl rfl ?_
 have hbn := Qf w18 (.cells #[.bool false,.slice none 0 0] 32)
 have hB19_0 : G2_4 < w18.heap.size := (S18.box 0 _ _ _ rfl).2.lt
 have hB19_1 : G2_5 < w18.heap.size := (S18.box 1 _ _ _ rfl).2.lt
 have hD19_71 : G18 < w18.heap.size := (show (Di G18).on _ _ from S18.fact 0 rfl).2.lt
 have hW19 : w.heap.size≤w18.heap.size := S18.bel.size
 have S19 : AS w 99 [(72,Di w18.heap.size),(71,Di G18),(12,Rb G18 ((rad x+rad y)*(rad x+rad y))),(11,Rb G18 ((x - y)*(x - y)+(rad x - rad y)*(rad x - rad y))),(8,Rb G18 y),(7,Rb G18 x),(4,Bo false)] [(G2_4,43,Agg [Tt (x),Tt ((rad x)),Tt ((rad x*rad x))]),(G2_5,43,Agg [Tt (y),Tt ((rad y)),Tt ((rad y*rad y))])] (a18.put (some 72) (.pointer (some ⟨w18.heap.size,0,none⟩))) (w18.alloc (.cells #[.bool false,.slice none 0 0] 32)) := S18.put (by decide) (S18.bel.trans (hbn.mono S18.bel.size)) ⟨rfl,Blk.new _ _ _⟩ (by simp) (Qe ((Di G18 : Fact).st (Grows.of hbn) (S18.fact 0 rfl)) (Qe ((Rb G18 ((rad x+rad y)*(rad x+rad y)) : Fact).st (Grows.of hbn) (S18.fact 1 rfl)) (Qe ((Rb G18 ((x - y)*(x - y)+(rad x - rad y)*(rad x - rad y)) : Fact).st (Grows.of hbn) (S18.fact 2 rfl)) (Qe ((Rb G18 y : Fact).st (Grows.of hbn) (S18.fact 3 rfl)) (Qe ((Rb G18 x : Fact).st (Grows.of hbn) (S18.fact 4 rfl)) (Qe ((Bo false : Fact).st (Grows.of hbn) (S18.fact 5 rfl)) Zm)))))) (Qs ⟨(S18.box 0 _ _ _ rfl).1,(S18.box 0 _ _ _ rfl).2.below hbn⟩ (Qs ⟨(S18.box 1 _ _ _ rfl).1,(S18.box 1 _ _ _ rfl).2.below hbn⟩ Zn)) S18.dis
 generalize hGe19 : w18.heap.size=G19 at *
 obtain ⟨a19,ea19⟩ : ∃ a : Act,a=a18.put (some 72) (.pointer (some ⟨G19,0,none⟩)) := ⟨_,rfl⟩
 obtain ⟨w19,ew19⟩ : ∃ w' : World,w'=w18.alloc (.cells #[.bool false,.slice none 0 0] 32) := ⟨_,rfl⟩
 show wpList _ _ _ _ (a18.put (some 72) (.pointer (some ⟨G19,0,none⟩))) _
 rw [← ea19,← ew19]
 rw [← ea19,← ew19] at S19
 clear S18 ea19 ew19 hbn hGe19
 refine Xy 3 ?_
 refine Zr 2 ?_
 refine ZD [.pure (Rb G18 x),.pure (Ib G18 (x.num)),.pure (Rb G18 y)] ⟨S19,by decide +kernel⟩ (by kernel_rfl) (by kernel_rfl) rfl (by kernel_rfl) ?_ ?_
 ·intro C
  refine ASteps.cons ?_ (ASteps.cons ?_ (ASteps.cons ?_ (ASteps.nil)))
  ·exact Qk rfl rfl (Qb rfl) rfl (Qi C 5 (by kernel_rfl) rfl)
  ·exact Qj HPRE rfl rfl (Qb rfl) rfl Jg (Opns.cons (Qc C 0 0 rfl rfl rfl rfl rfl rfl) Opns.nil) (IY)
  ·exact Qk rfl rfl (Qb rfl) rfl (Qi C 4 (by kernel_rfl) rfl)
 intro γ a20 w20 Z20 S20
 replace S20 : AS w 99 [(75,Rb G18 y),(74,Ib G18 (x.num)),(72,Di G19),(71,Di G18),(12,Rb G18 ((rad x+rad y)*(rad x+rad y))),(11,Rb G18 ((x - y)*(x - y)+(rad x - rad y)*(rad x - rad y))),(8,Rb G18 y),(7,Rb G18 x),(4,Bo false)] [(G2_4,43,Agg [Tt (x),Tt ((rad x)),Tt ((rad x*rad x))]),(G2_5,43,Agg [Tt (y),Tt ((rad y)),Tt ((rad y*rad y))])] a20 w20 := cast (by kernel_rfl) (S20.keep [4,7,8,11,12,71,72,74,75])
 clear S19
 refine Qh ?_
 refine QL rfl rfl QK ?_
 have hx0 : (Rt y).on (a20.eval (.tmp 75)) w20 := JJ (S20.fact 0 rfl)
 obtain ⟨gx,hx1,hx2⟩ := hx0
 rw [show (#[Operand.tmp 75] : Array Operand).map a20.eval=#[.pointer (some ⟨gx,0,none⟩)] from by simp [hx1]]
 refine (ZX hx2 fy (by decide)).mono ?_
 rintro _ wc ⟨hbc,gc,rfl,hgc,hoc⟩
 refine ⟨_,rfl,?_⟩
 have hD21_72 : G19 < w20.heap.size := (show (Di G19).on _ _ from S20.fact 2 rfl).2.lt
 have hD21_71 : G18 < w20.heap.size := (show (Di G18).on _ _ from S20.fact 3 rfl).2.lt
 have S21 : AS w 99 [(76,Ia w20.heap.size ((y.den : Int))),(74,Ib G18 (x.num)),(72,Di G19),(71,Di G18),(12,Rb G18 ((rad x+rad y)*(rad x+rad y))),(11,Rb G18 ((x - y)*(x - y)+(rad x - rad y)*(rad x - rad y))),(8,Rb G18 y),(7,Rb G18 x),(4,Bo false)] [(G2_4,43,Agg [Tt (x),Tt ((rad x)),Tt ((rad x*rad x))]),(G2_5,43,Agg [Tt (y),Tt ((rad y)),Tt ((rad y*rad y))])] (a20.put (some 76) (.pointer (some ⟨gc,0,none⟩))) wc := S20.put (by decide) (S20.bel.trans (hbc.mono S20.bel.size)) ⟨gc,rfl,hgc,hoc⟩ (by simp) (Qe ((Ib G18 (x.num) : Fact).st (Grows.of hbc) (S20.fact 1 rfl)) (Qe ((Di G19 : Fact).st (Grows.of hbc) (S20.fact 2 rfl)) (Qe ((Di G18 : Fact).st (Grows.of hbc) (S20.fact 3 rfl)) (Qe ((Rb G18 ((rad x+rad y)*(rad x+rad y)) : Fact).st (Grows.of hbc) (S20.fact 4 rfl)) (Qe ((Rb G18 ((x - y)*(x - y)+(rad x - rad y)*(rad x - rad y)) : Fact).st (Grows.of hbc) (S20.fact 5 rfl)) (Qe ((Rb G18 y : Fact).st (Grows.of hbc) (S20.fact 6 rfl)) (Qe ((Rb G18 x : Fact).st (Grows.of hbc) (S20.fact 7 rfl)) (Qe ((Bo false : Fact).st (Grows.of hbc) (S20.fact 8 rfl)) Zm)))))))) (Qs ⟨(S20.box 0 _ _ _ rfl).1,(S20.box 0 _ _ _ rfl).2.below hbc⟩ (Qs ⟨(S20.box 1 _ _ _ rfl).1,(S20.box 1 _ _ _ rfl).2.below hbc⟩ Zn)) S20.dis
 generalize hBe21 : w20.heap.size=B21 at *
 obtain ⟨a21,ea21⟩ : ∃ a : Act,a=a20.put (some 76) (.pointer (some ⟨gc,0,none⟩)) := ⟨_,rfl⟩
 obtain ⟨w21,ew21⟩ : ∃ w' : World,w'=wc := ⟨_,rfl⟩
 subst ew21
 show wpList _ _ _ _ (a20.put (some 76) (.pointer (some ⟨gc,0,none⟩))) _
 rw [← ea21]
 rw [← ea21] at S21
 clear S20 ea21 hx1 hx2 hbc hgc hoc hBe21
 refine QL rfl rfl Zh ?_
 have hz0 : (Di G19).on (a21.eval (.tmp 72)) w21 := S21.fact 2 rfl
 have hblk := hz0.2
 have hh : JQ w21 G19 := ⟨_,_,hblk,by simp [Ql]⟩
 rw [show (#[Operand.tmp 72,Operand.tmp 74,Operand.tmp 76] : Array Operand).map a21.eval=#[.pointer (some ⟨G19,0,none⟩),a21.eval (.tmp 74),a21.eval (.tmp 76)] from by simp [hz0.1]]
 refine (Jn (At2.blk hblk) (Xa (MZ (S21.fact 1 rfl))) (Xa (OB (S21.fact 0 rfl))) (IB (S21.fact 1 rfl) (by omega)) (Xs (S21.fact 0 rfl) (by omega)) snx sdy).mono ?_
 rintro _ wc ⟨rfl,hgv⟩
 refine ⟨_,rfl,?_⟩
 have hsv := hgv.save
 obtain ⟨hoc,hbl⟩ := hgv.own hblk
 have hGw : w.heap.size≤G19 := by omega
 have S22 : AS w 99 [(77,Ig G19 (x.num*(y.den : Int))),(71,Di G18),(12,Rb G18 ((rad x+rad y)*(rad x+rad y))),(11,Rb G18 ((x - y)*(x - y)+(rad x - rad y)*(rad x - rad y))),(8,Rb G18 y),(7,Rb G18 x),(4,Bo false)] [(G2_4,43,Agg [Tt (x),Tt ((rad x)),Tt ((rad x*rad x))]),(G2_5,43,Agg [Tt (y),Tt ((rad y)),Tt ((rad y*rad y))])] (a21.put (some 77) (.pointer (some ⟨G19,0,none⟩))) wc := S21.put (by decide) (S21.bel.trans (hsv.below hGw S21.bel.size)) ⟨rfl,hoc⟩ (by simp) (Qe (Ko (S21.fact 3 rfl) (by omega) hsv) (Qe (QR (S21.fact 4 rfl) (by omega) hh hsv) (Qe (QR (S21.fact 5 rfl) (by omega) hh hsv) (Qe (QR (S21.fact 6 rfl) (by omega) hh hsv) (Qe (QR (S21.fact 7 rfl) (by omega) hh hsv) (Qe (show (Bo false).on _ _ from (S21.fact 8 rfl)) Zm)))))) (Qs ⟨(S21.box 0 _ _ _ rfl).1,(S21.box 0 _ _ _ rfl).2.save2 hsv (by omega) (fun _ h => ZW h)⟩ (Qs ⟨(S21.box 1 _ _ _ rfl).1,(S21.box 1 _ _ _ rfl).2.save2 hsv (by omega) (fun _ h => ZW h)⟩ Zn)) S21.dis
 obtain ⟨a22,ea22⟩ : ∃ a : Act,a=a21.put (some 77) (.pointer (some ⟨G19,0,none⟩)) := ⟨_,rfl⟩
 obtain ⟨w22,ew22⟩ : ∃ w' : World,w'=wc := ⟨_,rfl⟩
 subst ew22
 show wpList _ _ _ _ (a21.put (some 77) (.pointer (some ⟨G19,0,none⟩))) _
 rw [← ea22]
 rw [← ea22] at S22
 clear S21 ea22 hblk hh hgv hsv hoc hbl
 refine ZK rfl rfl ?_
 have hbn := Qf w22 (.cells #[.bool false,.slice none 0 0] 32)
 have hB23_0 : G2_4 < w22.heap.size := (S22.box 0 _ _ _ rfl).2.lt
 have hB23_1 : G2_5 < w22.heap.size := (S22.box 1 _ _ _ rfl).2.lt
 have hD23_77 : G19 < w22.heap.size := (show (Ig G19 (x.num*(y.den : Int))).on _ _ from S22.fact 0 rfl).2.lt
 have hD23_71 : G18 < w22.heap.size := (show (Di G18).on _ _ from S22.fact 1 rfl).2.lt
 have hW23 : w.heap.size≤w22.heap.size := S22.bel.size
 have S23 : AS w 99 [(78,Di w22.heap.size),(77,Ig G19 (x.num*(y.den : Int))),(71,Di G18),(12,Rb G18 ((rad x+rad y)*(rad x+rad y))),(11,Rb G18 ((x - y)*(x - y)+(rad x - rad y)*(rad x - rad y))),(8,Rb G18 y),(7,Rb G18 x),(4,Bo false)] [(G2_4,43,Agg [Tt (x),Tt ((rad x)),Tt ((rad x*rad x))]),(G2_5,43,Agg [Tt (y),Tt ((rad y)),Tt ((rad y*rad y))])] (a22.put (some 78) (.pointer (some ⟨w22.heap.size,0,none⟩))) (w22.alloc (.cells #[.bool false,.slice none 0 0] 32)) := S22.put (by decide) (S22.bel.trans (hbn.mono S22.bel.size)) ⟨rfl,Blk.new _ _ _⟩ (by simp) (Qe ((Ig G19 (x.num*(y.den : Int)) : Fact).st (Grows.of hbn) (S22.fact 0 rfl)) (Qe ((Di G18 : Fact).st (Grows.of hbn) (S22.fact 1 rfl)) (Qe ((Rb G18 ((rad x+rad y)*(rad x+rad y)) : Fact).st (Grows.of hbn) (S22.fact 2 rfl)) (Qe ((Rb G18 ((x - y)*(x - y)+(rad x - rad y)*(rad x - rad y)) : Fact).st (Grows.of hbn) (S22.fact 3 rfl)) (Qe ((Rb G18 y : Fact).st (Grows.of hbn) (S22.fact 4 rfl)) (Qe ((Rb G18 x : Fact).st (Grows.of hbn) (S22.fact 5 rfl)) (Qe ((Bo false : Fact).st (Grows.of hbn) (S22.fact 6 rfl)) Zm))))))) (Qs ⟨(S22.box 0 _ _ _ rfl).1,(S22.box 0 _ _ _ rfl).2.below hbn⟩ (Qs ⟨(S22.box 1 _ _ _ rfl).1,(S22.box 1 _ _ _ rfl).2.below hbn⟩ Zn)) S22.dis
 generalize hGe23 : w22.heap.size=G23 at *
 obtain ⟨a23,ea23⟩ : ∃ a : Act,a=a22.put (some 78) (.pointer (some ⟨G23,0,none⟩)) := ⟨_,rfl⟩
 obtain ⟨w23,ew23⟩ : ∃ w' : World,w'=w22.alloc (.cells #[.bool false,.slice none 0 0] 32) := ⟨_,rfl⟩
 show wpList _ _ _ _ (a22.put (some 78) (.pointer (some ⟨G23,0,none⟩))) _
 rw [← ea23,← ew23]
 rw [← ea23,← ew23] at S23
 clear S22 ea23 ew23 hbn hGe23
 refine Xy 3 ?_
 refine Zr 8 ?_
 refine ZD [.pure (Rb G18 y),.pure (Ib G18 (y.num)),.pure (Rb G18 x)] ⟨S23,by decide +kernel⟩ (by kernel_rfl) (by kernel_rfl) rfl (by kernel_rfl) ?_ ?_
 ·intro C
  refine ASteps.cons ?_ (ASteps.cons ?_ (ASteps.cons ?_ (ASteps.nil)))
  ·exact Qk rfl rfl (Qb rfl) rfl (Qi C 5 (by kernel_rfl) rfl)
  ·exact Qj HPRE rfl rfl (Qb rfl) rfl Jg (Opns.cons (Qc C 0 0 rfl rfl rfl rfl rfl rfl) Opns.nil) (IY)
  ·exact Qk rfl rfl (Qb rfl) rfl (Qi C 6 (by kernel_rfl) rfl)
 intro γ a24 w24 Z24 S24
 replace S24 : AS w 99 [(81,Rb G18 x),(80,Ib G18 (y.num)),(78,Di G23),(77,Ig G19 (x.num*(y.den : Int))),(71,Di G18),(12,Rb G18 ((rad x+rad y)*(rad x+rad y))),(11,Rb G18 ((x - y)*(x - y)+(rad x - rad y)*(rad x - rad y))),(4,Bo false)] [(G2_4,43,Agg [Tt (x),Tt ((rad x)),Tt ((rad x*rad x))]),(G2_5,43,Agg [Tt (y),Tt ((rad y)),Tt ((rad y*rad y))])] a24 w24 := cast (by kernel_rfl) (S24.keep [4,11,12,71,77,78,80,81])
 clear S23
 refine Qh ?_
 refine QL rfl rfl QK ?_
 have hx0 : (Rt x).on (a24.eval (.tmp 81)) w24 := JJ (S24.fact 0 rfl)
 obtain ⟨gx,hx1,hx2⟩ := hx0
 rw [show (#[Operand.tmp 81] : Array Operand).map a24.eval=#[.pointer (some ⟨gx,0,none⟩)] from by simp [hx1]]
 refine (ZX hx2 fx (by decide)).mono ?_
 rintro _ wc ⟨hbc,gc,rfl,hgc,hoc⟩
 refine ⟨_,rfl,?_⟩
 have hD25_78 : G23 < w24.heap.size := (show (Di G23).on _ _ from S24.fact 2 rfl).2.lt
 have hD25_77 : G19 < w24.heap.size := (show (Ig G19 (x.num*(y.den : Int))).on _ _ from S24.fact 3 rfl).2.lt
 have hD25_71 : G18 < w24.heap.size := (show (Di G18).on _ _ from S24.fact 4 rfl).2.lt
 have S25 : AS w 99 [(82,Ia w24.heap.size ((x.den : Int))),(80,Ib G18 (y.num)),(78,Di G23),(77,Ig G19 (x.num*(y.den : Int))),(71,Di G18),(12,Rb G18 ((rad x+rad y)*(rad x+rad y))),(11,Rb G18 ((x - y)*(x - y)+(rad x - rad y)*(rad x - rad y))),(4,Bo false)] [(G2_4,43,Agg [Tt (x),Tt ((rad x)),Tt ((rad x*rad x))]),(G2_5,43,Agg [Tt (y),Tt ((rad y)),Tt ((rad y*rad y))])] (a24.put (some 82) (.pointer (some ⟨gc,0,none⟩))) wc := S24.put (by decide) (S24.bel.trans (hbc.mono S24.bel.size)) ⟨gc,rfl,hgc,hoc⟩ (by simp) (Qe ((Ib G18 (y.num) : Fact).st (Grows.of hbc) (S24.fact 1 rfl)) (Qe ((Di G23 : Fact).st (Grows.of hbc) (S24.fact 2 rfl)) (Qe ((Ig G19 (x.num*(y.den : Int)) : Fact).st (Grows.of hbc) (S24.fact 3 rfl)) (Qe ((Di G18 : Fact).st (Grows.of hbc) (S24.fact 4 rfl)) (Qe ((Rb G18 ((rad x+rad y)*(rad x+rad y)) : Fact).st (Grows.of hbc) (S24.fact 5 rfl)) (Qe ((Rb G18 ((x - y)*(x - y)+(rad x - rad y)*(rad x - rad y)) : Fact).st (Grows.of hbc) (S24.fact 6 rfl)) (Qe ((Bo false : Fact).st (Grows.of hbc) (S24.fact 7 rfl)) Zm))))))) (Qs ⟨(S24.box 0 _ _ _ rfl).1,(S24.box 0 _ _ _ rfl).2.below hbc⟩ (Qs ⟨(S24.box 1 _ _ _ rfl).1,(S24.box 1 _ _ _ rfl).2.below hbc⟩ Zn)) S24.dis
 generalize hBe25 : w24.heap.size=B25 at *
 obtain ⟨a25,ea25⟩ : ∃ a : Act,a=a24.put (some 82) (.pointer (some ⟨gc,0,none⟩)) := ⟨_,rfl⟩
 obtain ⟨w25,ew25⟩ : ∃ w' : World,w'=wc := ⟨_,rfl⟩
 subst ew25
 show wpList _ _ _ _ (a24.put (some 82) (.pointer (some ⟨gc,0,none⟩))) _
 rw [← ea25]
 rw [← ea25] at S25
 clear S24 ea25 hx1 hx2 hbc hgc hoc hBe25
 refine QL rfl rfl Zh ?_
 have hz0 : (Di G23).on (a25.eval (.tmp 78)) w25 := S25.fact 2 rfl
 have hblk := hz0.2
 have hh : JQ w25 G23 := ⟨_,_,hblk,by simp [Ql]⟩
 rw [show (#[Operand.tmp 78,Operand.tmp 80,Operand.tmp 82] : Array Operand).map a25.eval=#[.pointer (some ⟨G23,0,none⟩),a25.eval (.tmp 80),a25.eval (.tmp 82)] from by simp [hz0.1]]
 refine (Jn (At2.blk hblk) (Xa (MZ (S25.fact 1 rfl))) (Xa (OB (S25.fact 0 rfl))) (IB (S25.fact 1 rfl) (by omega)) (Xs (S25.fact 0 rfl) (by omega)) sny sdx).mono ?_
 rintro _ wc ⟨rfl,hgv⟩
 refine ⟨_,rfl,?_⟩
 have hsv := hgv.save
 obtain ⟨hoc,hbl⟩ := hgv.own hblk
 have hGw : w.heap.size≤G23 := by omega
 have S26 : AS w 99 [(83,Ig G23 (y.num*(x.den : Int))),(77,Ig G19 (x.num*(y.den : Int))),(71,Di G18),(12,Rb G18 ((rad x+rad y)*(rad x+rad y))),(11,Rb G18 ((x - y)*(x - y)+(rad x - rad y)*(rad x - rad y))),(4,Bo false)] [(G2_4,43,Agg [Tt (x),Tt ((rad x)),Tt ((rad x*rad x))]),(G2_5,43,Agg [Tt (y),Tt ((rad y)),Tt ((rad y*rad y))])] (a25.put (some 83) (.pointer (some ⟨G23,0,none⟩))) wc := S25.put (by decide) (S25.bel.trans (hsv.below hGw S25.bel.size)) ⟨rfl,hoc⟩ (by simp) (Qe (Ec (S25.fact 3 rfl) (by omega) hh hsv) (Qe (Ko (S25.fact 4 rfl) (by omega) hsv) (Qe (QR (S25.fact 5 rfl) (by omega) hh hsv) (Qe (QR (S25.fact 6 rfl) (by omega) hh hsv) (Qe (show (Bo false).on _ _ from (S25.fact 7 rfl)) Zm))))) (Qs ⟨(S25.box 0 _ _ _ rfl).1,(S25.box 0 _ _ _ rfl).2.save2 hsv (by omega) (fun _ h => ZW h)⟩ (Qs ⟨(S25.box 1 _ _ _ rfl).1,(S25.box 1 _ _ _ rfl).2.save2 hsv (by omega) (fun _ h => ZW h)⟩ Zn)) S25.dis
 obtain ⟨a26,ea26⟩ : ∃ a : Act,a=a25.put (some 83) (.pointer (some ⟨G23,0,none⟩)) := ⟨_,rfl⟩
 obtain ⟨w26,ew26⟩ : ∃ w' : World,w'=wc := ⟨_,rfl⟩
 subst ew26
 show wpList _ _ _ _ (a25.put (some 83) (.pointer (some ⟨G23,0,none⟩))) _
 rw [← ea26]
 rw [← ea26] at S26
 clear S25 ea26 hblk hh hgv hsv hoc hbl
 refine QL rfl rfl Yn ?_
 have hz0 : (Di G18).on (a26.eval (.tmp 71)) w26 := S26.fact 2 rfl
 have hblk := hz0.2
 have hh : JQ w26 G18 := ⟨_,_,hblk,by simp [Ql]⟩
 rw [show (#[Operand.tmp 71,Operand.tmp 77,Operand.tmp 83] : Array Operand).map a26.eval=#[.pointer (some ⟨G18,0,none⟩),a26.eval (.tmp 77),a26.eval (.tmp 83)] from by simp [hz0.1]]
 refine (UP (At2.blk hblk) (Xa (KQ (S26.fact 1 rfl))) (Xa (KQ (S26.fact 0 rfl))) (IL (S26.fact 1 rfl) (by omega)) (IL (S26.fact 0 rfl) (by omega)) sp1 sp2).mono ?_
 rintro _ wc ⟨rfl,hgv⟩
 refine ⟨_,rfl,?_⟩
 have hsv := hgv.save
 obtain ⟨hoc,hbl⟩ := hgv.own hblk
 have hGw : w.heap.size≤G18 := by omega
 have S27 : AS w 99 [(84,Iv (x.num*(y.den : Int) - y.num*(x.den : Int))),(12,Rt ((rad x+rad y)*(rad x+rad y))),(11,Rt ((x - y)*(x - y)+(rad x - rad y)*(rad x - rad y))),(4,Bo false)] [(G2_4,43,Agg [Tt (x),Tt ((rad x)),Tt ((rad x*rad x))]),(G2_5,43,Agg [Tt (y),Tt ((rad y)),Tt ((rad y*rad y))])] (a26.put (some 84) (.pointer (some ⟨G18,0,none⟩))) wc := S26.put (by decide) (S26.bel.trans (hsv.below hGw S26.bel.size)) ⟨G18,rfl,Or.inl hoc⟩ (by simp) (Qe (JJ (QR (S26.fact 3 rfl) (by omega) hh hsv)) (Qe (JJ (QR (S26.fact 4 rfl) (by omega) hh hsv)) (Qe (show (Bo false).on _ _ from (S26.fact 5 rfl)) Zm))) (Qs ⟨(S26.box 0 _ _ _ rfl).1,(S26.box 0 _ _ _ rfl).2.save2 hsv (by omega) (fun _ h => ZW h)⟩ (Qs ⟨(S26.box 1 _ _ _ rfl).1,(S26.box 1 _ _ _ rfl).2.save2 hsv (by omega) (fun _ h => ZW h)⟩ Zn)) S26.dis
 obtain ⟨a27,ea27⟩ : ∃ a : Act,a=a26.put (some 84) (.pointer (some ⟨G18,0,none⟩)) := ⟨_,rfl⟩
 obtain ⟨w27,ew27⟩ : ∃ w' : World,w'=wc := ⟨_,rfl⟩
 subst ew27
 show wpList _ _ _ _ (a26.put (some 84) (.pointer (some ⟨G18,0,none⟩))) _
 rw [← ea27]
 rw [← ea27] at S27
 clear S26 ea27 hblk hh hgv hsv hoc hbl
 refine Zr 14 ?_
 refine ZD [.pure (Iv (x.num*(y.den : Int) - y.num*(x.den : Int)))] ⟨S27,by decide +kernel⟩ (by kernel_rfl) (by kernel_rfl) rfl (by kernel_rfl) ?_ ?_
 ·intro C
  refine ASteps.cons ?_ (ASteps.nil)
  ·exact Qr rfl rfl (Qb rfl) rfl (Qi C 0 (by kernel_rfl) rfl)
 intro γ a28 w28 Z28 S28
 replace S28 : AS w 99 [(13,Iv (x.num*(y.den : Int) - y.num*(x.den : Int))),(12,Rt ((rad x+rad y)*(rad x+rad y))),(11,Rt ((x - y)*(x - y)+(rad x - rad y)*(rad x - rad y))),(4,Bo false)] [(G2_4,43,Agg [Tt (x),Tt ((rad x)),Tt ((rad x*rad x))]),(G2_5,43,Agg [Tt (y),Tt ((rad y)),Tt ((rad y*rad y))])] a28 w28 := cast (by kernel_rfl) (S28.keep [4,11,12,13])
 clear S27
 refine Qh ?_
 refine wp_seq ?_
 refine Qz [.pure (Rt ((x - y)*(x - y)+(rad x - rad y)*(rad x - rad y))),.pure (Rt ((rad x+rad y)*(rad x+rad y))),.pure (Cl (((x - y)*(x - y)+(rad x - rad y)*(rad x - rad y)) < ((rad x+rad y)*(rad x+rad y)))),.pure (Bo true),.pure (Bo true),.pure (Rt ((x - y)*(x - y)+(rad x - rad y)*(rad x - rad y))),.pure (Rt ((rad x+rad y)*(rad x+rad y))),.pure (Bo (b)),.pure (Iv (x.num*(y.den : Int) - y.num*(x.den : Int))),.pure (Iv (((1 : Nat) : Int))),.pure (Cz ((x.num*(y.den : Int) - y.num*(x.den : Int)).natAbs=(((1 : Nat) : Int)).natAbs)),.pure (Bo (b)),.pure (Bo true),.pure (Bo true),.pure (Bo true)] ⟨S28,by decide +kernel⟩ (by kernel_rfl) (by kernel_rfl) rfl (by kernel_rfl) ?_ ?_
 ·intro C
  refine ASteps.cons ?_ (ASteps.cons ?_ (ASteps.cons ?_ (ASteps.cons ?_ (ASteps.cons ?_ (ASteps.cons ?_ (ASteps.cons ?_ (ASteps.cons ?_ (ASteps.cons ?_ (ASteps.cons ?_ (ASteps.cons ?_ (ASteps.cons ?_ (ASteps.cons ?_ (ASteps.cons ?_ (ASteps.cons ?_ (ASteps.nil)))))))))))))))
  ·exact Qk rfl rfl (Qb rfl) rfl (Qi C 2 (by kernel_rfl) rfl)
  ·exact Qk rfl rfl (Qb rfl) rfl (Qi C 1 (by kernel_rfl) rfl)
  ·exact Qj HPRE rfl rfl (Qb rfl) rfl Yl (Opns.cons (Qc C 0 0 rfl rfl rfl rfl rfl rfl) (Opns.cons (Qc C 1 1 rfl rfl rfl rfl rfl rfl) Opns.nil)) ((Eo ffar fsq (by decide)))
  ·exact PO hge rfl rfl (Qb rfl) rfl (Qc C 2 0 rfl rfl rfl rfl rfl rfl) (QN _)
  ·exact Qk rfl rfl (Qb rfl) rfl (Qc C 3 0 rfl rfl rfl rfl rfl rfl)
  ·exact Qk rfl rfl (Qt C 4 0 true rfl rfl rfl rfl rfl rfl rfl) rfl (Qi C 2 (by kernel_rfl) rfl)
  ·exact Qk rfl rfl (Qt C 4 0 true rfl rfl rfl rfl rfl rfl rfl) rfl (Qi C 1 (by kernel_rfl) rfl)
  ·exact Qj HPRE rfl rfl (Qt C 4 2 true rfl rfl rfl rfl rfl rfl rfl) rfl JA (Opns.cons (Qc C 5 0 rfl rfl rfl rfl rfl rfl) (Opns.cons (Qc C 6 1 rfl rfl rfl rfl rfl rfl) Opns.nil)) ((con_EqB hfs ffar fsq (by decide)))
  ·exact Qk rfl rfl (Qt C 4 0 true rfl rfl rfl rfl rfl rfl rfl) rfl (Qi C 0 (by kernel_rfl) rfl)
  ·exact Qj HPRE rfl rfl (Qt C 4 1 true rfl rfl rfl rfl rfl rfl rfl) rfl YO (Opns.cons (QN _) Opns.nil) ((Gv (n := 1) (by decide)))
  ·exact Qj HPRE rfl rfl (Qt C 4 3 true rfl rfl rfl rfl rfl rfl rfl) rfl XA (Opns.cons (Qc C 8 0 rfl rfl rfl rfl rfl rfl) (Opns.cons (Qc C 9 1 rfl rfl rfl rfl rfl rfl) Opns.nil)) ((Gw sC s1))
  ·exact Er b hcz rfl rfl (Qt C 4 1 true rfl rfl rfl rfl rfl rfl rfl) rfl (Qc C 10 0 rfl rfl rfl rfl rfl rfl) (QN _)
  ·exact YH rfl rfl (Qt C 4 2 true rfl rfl rfl rfl rfl rfl rfl) rfl (Qc C 7 0 rfl rfl rfl rfl rfl rfl) (Qc C 11 1 rfl rfl rfl rfl rfl rfl) (IP _ _ _ _ _ (beq_self_eq_true b))
  ·exact XQ true rfl rfl (Qb rfl) rfl (Qc C 4 0 rfl rfl rfl rfl rfl rfl) (Qc C 12 1 rfl rfl rfl rfl rfl rfl)
  ·exact Qr rfl rfl (Qb rfl) rfl (Qc C 13 0 rfl rfl rfl rfl rfl rfl)
 intro γ a29 w29 Z29 S29
 replace S29 : AS w 99 [(4,Bo true)] [(G2_4,43,Agg [Tt (x),Tt ((rad x)),Tt ((rad x*rad x))]),(G2_5,43,Agg [Tt (y),Tt ((rad y)),Tt ((rad y*rad y))])] a29 w29 := cast (by kernel_rfl) (S29.keep [4])
 clear S28
 refine Qh ?_
 refine wp_ret ?_
 exact S29.ret 0 rfl rfl fun v hv => ⟨S29.bel,by rw [show v=_ from hv]⟩
theorem fd_walk {w : World} {s t : ByteArray} (hs : s.size≤1048576) (ht : t.size≤1048576) (tab : Tab w) (mx : MaxL w) : Calls Tryz.prog 4 #[.string s,.string t] w fun e w' => Below w.heap.size w w'∧e=.returned (.bool true) := by
 have fx : ∀ u : ByteArray,u.size≤1048576→QS 4194309 (Cx.rd u.data.toList) := fun u hu => QS.mono (QS.rd _) (by rw [Iw]; omega)
 by_cases h : Cx.rd s.data.toList=Cx.rd t.data.toList
 ·exact fd_eq hs ht rfl rfl (fx s hs) (fx t ht) h ⟨tab,mx⟩
 ·exact fd_ne hs ht rfl rfl (fx s hs) (fx t ht) h (b := decide (((Cx.rd s.data.toList).num*((Cx.rd t.data.toList).den : Int) - (Cx.rd t.data.toList).num*((Cx.rd s.data.toList).den : Int)).natAbs=1)) (by rw [decide_eq_true_eq]) ⟨tab,mx⟩
end Go.Proofs.YthhnabccdehmgaaGreatDoor
