/- Part 15 of the walks and of the mathematics under them: CFgridded MGS. -/
import Derived.Test.YthhnabccdehmgaaGreatDoorA14
set_option maxHeartbeats 16000000
set_option maxRecDepth 100000
/- CFgridded -/
namespace Go.Proofs.YthhnabccdehmgaaGreatDoor
open Go.RowKit Cx
theorem Ko : Closed 6 :=
 Bv (N := [(0,[0,3,1]),(0,[0,1,1]),(0,[0,0,1]),(2,[1,1]),(2,[2,1]),(3,[3,0]),(2,[1,3]),(2,[2,4]),(3,[6,0]),(2,[1,6]),(2,[2,7]),(3,[9,0]),(2,[6,3]),(2,[7,4]),(3,[12,0]),(2,[3,1]),(2,[4,1]),(3,[15,0]),(2,[3,15]),(2,[4,16]),(3,[18,0]),(2,[15,1]),(2,[16,1]),(3,[21,0]),(6,[2,1]),(6,[7,6]),(6,[4,3]),(6,[16,15]),(6,[1,1]),(0,[0,5,3]),(9,[29]),(10,[29]),(11,[30,31]),(4,[31,32]),(3,[30,33]),(11,[31,34]),(4,[34,35]),(3,[31,36]),(11,[34,37]),(4,[37,38]),(3,[34,39]),(3,[38,1]),(4,[2,1]),(4,[1,1]),(2,[1,42]),(2,[2,43]),(2,[44,2]),(2,[45,1]),(6,[47,46]),(4,[44,1]),(4,[45,1]),(2,[2,49]),(2,[1,50]),(2,[51,44]),(2,[52,45]),(6,[54,53]),(4,[51,1]),(4,[52,1]),(2,[44,56]),(2,[45,57]),(2,[58,51]),(2,[59,52]),(6,[61,60]),(0,[0,5,1]),(9,[1]),(10,[1]),(3,[65,1]),(9,[2]),(10,[2]),(3,[68,1]),(9,[63]),(10,[63]),(3,[71,1]),(4,[2,63]),(3,[43,73]),(4,[2,2]),(2,[43,75]),(4,[1,63]),(2,[77,42]),(4,[63,63]),(2,[79,43]),(3,[76,80]),(0,[0,2,1]),(4,[78,82]),(3,[76,83]),(4,[76,82]),(11,[84,85]),(5,[86]),(4,[1,87]),(4,[2,87]),(3,[63,88]),(3,[1,89]),(4,[76,87]),(3,[78,92]),(2,[78,93]),(4,[94,87]),(3,[80,95]),(3,[76,96]),(4,[93,82]),(3,[76,98]),(11,[99,85]),(5,[100]),(0,[0,7,5]),(9,[102]),(10,[102]),(11,[103,104]),(4,[104,105]),(3,[103,106]),(11,[104,107]),(4,[107,108]),(3,[104,109]),(11,[107,110]),(4,[110,111]),(3,[107,112]),(4,[2,105]),(4,[1,105]),(2,[1,114]),(2,[2,115]),(4,[116,108]),(4,[117,108]),(2,[2,118]),(2,[1,119]),(4,[120,111]),(4,[121,111]),(2,[116,122]),(2,[117,123]),(6,[117,116]),(6,[121,120]),(6,[125,124]),(0,[0,1,3]),(0,[0,1,2]),(0,[0,2,3]),(0,[0,3,2])]) (H := [(2,5,0,0),(2,8,0,0),(2,11,0,1),(2,14,0,1),(2,17,0,0),(2,20,0,1),(2,23,0,1),(2,29,0,1),(0,31,0,0),(0,34,0,0),(0,37,0,0),(0,40,0,1),(3,32,1,1),(3,35,1,1),(3,41,1,1),(0,66,0,1),(0,69,0,1),(0,72,0,1),(0,74,0,0),(2,81,0,0),(0,87,0,0),(2,97,0,0),(0,101,0,1),(0,104,0,0),(0,107,0,0),(0,110,0,0),(0,113,0,1),(4,24,2,1),(4,25,129,1),(4,26,130,1),(4,27,131,1),(4,28,1,1),(4,62,29,1),(4,1,1,1),(4,2,2,1),(4,90,2,1),(4,91,1,1),(4,126,1,1),(4,127,132,1),(4,128,102,1)]) (K := [(122,[.inr (3,0,0,0,0),.inr (3,7,0,0,0),.inr (3,6,0,0,0)]),(71,[.inr (3,97,0,0,0),.inr (3,96,0,0,0)]),(71,[.inr (3,219,0,0,0),.inr (3,218,0,0,0)])]) (L := [([53,47,51],29),([49],1),([48],2),([53],63),([55,47,53],102),([49,47,51],129),([49,47,50],130),([50,47,51],131),([51,47,50],132)]) (C := [([48],2),([49,47,51],129),([49,47,50],130),([50,47,51],131),([49],1),([53,47,51],29),([51,47,50],132),([55,47,53],102)]) (Z := [3,2,2,5,5,9,8,8,12,11,11,15,14,14,18,8,8,12,14,14,18,11,11,15,4,16,10,16,4,4,4,4,8,12,17,21,38,43,60,103,121,63,4,4,7,7,10,10,20,9,9,12,12,20,20,40,14,14,22,22,35,35,70,4,2,2,5,2,2,5,4,4,7,6,11,4,9,6,11,8,13,23,3,14,24,12,36,36,38,38,43,41,45,57,69,105,119,129,60,70,82,82,4,4,4,8,12,17,21,38,43,60,103,121,10,10,13,13,34,34,37,37,97,97,111,111,26,74,222,3,3,3,3]) (cl := []) 8 (fun _ h => by cases h) (by kernel_rfl) (by kernel_rfl) (by kernel_rfl) (by kernel_rfl) (by kernel_rfl) (by kernel_rfl) (by kernel_rfl)
end Go.Proofs.YthhnabccdehmgaaGreatDoor
/- MGS -/
namespace Go.Proofs.YthhnabccdehmgaaGreatDoor
open Go.RowKit Cx
def yv : List Int→Rat
 | [] => 1
 | z :: r => ((z : Int) : Rat)+1 / yv r
theorem Ky : ∀ {l : List Int},(∀ z ∈ l,0≤z)→0 < yv l
 | [],_ => by show (0 : Rat) < 1; decide
 | z :: r,h => by
  have h1 := Ky (l := r) fun x hx => h x (List.mem_cons_of_mem _ hx)
  have h2 : (0 : Rat)≤((z : Int) : Rat) := by
   have := h z List.mem_cons_self
   exact_mod_cast this
  have h3 : 0 < 1 / yv r := by
   rw [Rat.div_def,Rat.one_mul]
   exact Rat.inv_pos.2 h1
  show 0 < ((z : Int) : Rat)+1 / yv r
  grind
theorem mdm {y A B : Rat} (hy : y ≠ 0) : y*A / (y*B)=A / B := by
 by_cases hB : B=0
 ·subst hB
  rw [Rat.mul_zero,Rat.div_def,Rat.div_def,Rat.inv_zero,Rat.mul_zero,Rat.mul_zero]
 ·have : y*B ≠ 0 := fun e => by
   rcases Rat.mul_eq_zero.1 e with h | h
   ·exact hy h
   ·exact hB h
  grind
theorem LR : ∀ (l : List Int) (s : Nat × Nat × Nat × Nat),(∀ z ∈ l,0≤z)→(0 < s.1 ∨ 0 < s.2.2.1) →
  let t := (l.map Int.toNat).foldl stp s
  (((t.2.1 : Int) : Rat)+((t.2.2.2 : Int) : Rat)) / (((t.1 : Int) : Rat)+((t.2.2.1 : Int) : Rat))=(((s.2.2.2 : Int) : Rat)+yv l*((s.2.1 : Int) : Rat)) / (((s.2.2.1 : Int) : Rat)+yv l*((s.1 : Int) : Rat))
 | [],s,_,_ => by
  show (((s.2.1 : Int) : Rat)+((s.2.2.2 : Int) : Rat)) / (((s.1 : Int) : Rat)+((s.2.2.1 : Int) : Rat))=(((s.2.2.2 : Int) : Rat)+1*((s.2.1 : Int) : Rat)) / (((s.2.2.1 : Int) : Rat)+1*((s.1 : Int) : Rat))
  congr 1 <;> grind
 | z :: r,s,h,hs => by
  have h0 := h z List.mem_cons_self
  have hr : ∀ x ∈ r,0≤x := fun x hx => h x (List.mem_cons_of_mem _ hx)
  have hy := Ky hr
  have hs' : 0 < (stp s z.toNat).1 ∨ 0 < (stp s z.toNat).2.2.1 := by
   unfold stp
   rcases hs with hs | hs
   ·exact Or.inr hs
   ·exact Or.inl (by show 0 < s.2.2.1+s.1*z.toNat; omega)
  have ih := LR r (stp s z.toNat) hr hs'
  have e : ((z.toNat : Nat) : Int)=z := Int.toNat_of_nonneg h0
  have key : ∀ x y : Nat,((((x+y*z.toNat : Nat)) : Int) : Rat)=(((x : Int)) : Rat)+(((y : Int)) : Rat)*((z : Int) : Rat) := fun x y => by
   have : ((x+y*z.toNat : Nat) : Int)=(x : Int)+(y : Int)*z := by
    rw [Int.natCast_add,Int.natCast_mul,e]
   rw [this,Rat.intCast_add,Rat.intCast_mul]
  show (_ : Rat)=_
  refine (show _=_ from ih).trans ?_
  show (((s.2.1 : Int) : Rat)+yv r*((((s.2.2.2+s.2.1*z.toNat : Nat)) : Int) : Rat)) / (((s.1 : Int) : Rat)+yv r*((((s.2.2.1+s.1*z.toNat : Nat)) : Int) : Rat))=(((s.2.2.2 : Int) : Rat)+(((z : Int) : Rat)+1 / yv r)*((s.2.1 : Int) : Rat)) / (((s.2.2.1 : Int) : Rat)+(((z : Int) : Rat)+1 / yv r)*((s.1 : Int) : Rat))
  rw [key,key]
  have p1 : (0 : Rat)≤((s.1 : Int) : Rat) := by exact_mod_cast Int.natCast_nonneg _
  have p2 : (0 : Rat)≤((s.2.2.1 : Int) : Rat) := by exact_mod_cast Int.natCast_nonneg _
  generalize ((s.2.1 : Int) : Rat)=a at *
  generalize ((s.2.2.2 : Int) : Rat)=b at *
  generalize ((s.1 : Int) : Rat)=c at *
  generalize ((s.2.2.1 : Int) : Rat)=d at *
  generalize ((z : Int) : Rat)=x at *
  generalize yv r=y at *
  have hy0 : y ≠ 0 := by intro e; rw [e] at hy; exact absurd hy (by decide)
  have e1 : a+y*(b+a*x)=y*(b+(x+1 / y)*a) := by grind
  have e2 : c+y*(d+c*x)=y*(d+(x+1 / y)*c) := by grind
  rw [e1,e2]
  exact mdm hy0
theorem gA_yv {l : List Int} (h : ∀ z ∈ l,0≤z) : gA l l.length=yv l := by
 have := LR l (0,1,1,0) h (Or.inr (by decide))
 unfold gA gB1 gB2 gO1 gO2
 rw [List.take_length]
 refine (show _=_ from this).trans ?_
 show (((0 : Int) : Rat)+yv l*((1 : Int) : Rat)) / (((1 : Int) : Rat)+yv l*((0 : Int) : Rat))=yv l
 grind
theorem DT : ∀ {l : List Int},(∀ z ∈ l,0≤z∧z < 9223372036854775808)→QS (1+65*l.length) (yv l)
 | [],_ => ⟨by decide,by decide⟩
 | z :: r,h => by
  have hz := h z List.mem_cons_self
  have hr : ∀ x ∈ r,0≤x∧x < 9223372036854775808 := fun x hx => h x (List.mem_cons_of_mem _ hx)
  have h1 := DT hr
  have hp := Ky fun x hx => (hr x hx).1
  have hn : (yv r).num ≠ 0 := fun e => by
   rw [Rat.num_eq_zero.1 e] at hp
   exact absurd hp (by decide)
  show QS (1+65*(r.length+1)) (((z : Int) : Rat)+1 / yv r)
  rw [Rat.div_def,Rat.one_mul]
  exact QS.mono (QS.add (Cy hz.1 hz.2) (QS.inv h1 hn)) (by omega)
def xv (l : List Int) (j : Nat) : Rat := if j % 2=0 then yv (l.drop j) else 1 / yv (l.drop j)
theorem My {l : List Int} {m : Nat} {z : Int} (h : l[m]? = some z) : yv (l.drop m)=((z : Int) : Rat)+1 / yv (l.drop (m+1)) := by
 have hlt := (List.getElem?_eq_some_iff.1 h).1
 have e : l.drop m=z :: l.drop (m+1) := by
  rw [List.drop_eq_getElem_cons hlt]
  congr 1
  exact (List.getElem?_eq_some_iff.1 h).2
 rw [e]
 rfl
theorem xv_even {l : List Int} {m : Nat} {z : Int} (h : l[m]? = some z) (he : m % 2=0) : xv l m=xv l (m+1)+((z : Int) : Rat) := by
 unfold xv
 rw [if_pos he,if_neg (by omega),My h]
 grind
theorem xv_odd {l : List Int} {m : Nat} {z : Int} (h : l[m]? = some z) (he : ¬ m % 2=0) : xv l m=((1 : Nat) : Rat) / (((1 : Nat) : Rat) / xv l (m+1)+((z : Int) : Rat)) := by
 unfold xv
 rw [if_neg he,if_pos (by omega),My h]
 have e : ((1 : Nat) : Rat)=1 := rfl
 rw [e,Rat.add_comm]
theorem NT {l : List Int} (h : ∀ z ∈ l,0≤z) (j : Nat) : 0 < xv l j := by
 have := Ky (l := l.drop j) fun z hz => h z (List.mem_of_mem_drop hz)
 unfold xv
 split
 ·exact this
 ·rw [Rat.div_def,Rat.one_mul]
  exact Rat.inv_pos.2 this
theorem Bj {l : List Int} (h : ∀ z ∈ l,0≤z∧z < 9223372036854775808) (hn : l.length≤60) (j : Nat) : QS 3901 (xv l j) := by
 have h1 := DT (l := l.drop j) fun z hz => h z (List.mem_of_mem_drop hz)
 have hp := Ky (l := l.drop j) fun z hz => (h z (List.mem_of_mem_drop hz)).1
 have hl : 1+65*(l.drop j).length≤3901 := by
  rw [List.length_drop]
  omega
 unfold xv
 split
 ·exact QS.mono h1 hl
 ·have hn : (yv (l.drop j)).num ≠ 0 := fun e => by
   rw [Rat.num_eq_zero.1 e] at hp
   exact absurd hp (by decide)
  rw [Rat.div_def,Rat.one_mul]
  exact QS.mono (QS.inv h1 hn) hl
theorem xv_end (l : List Int) : xv l l.length=((1 : Nat) : Rat) := by
 unfold xv
 rw [List.drop_length]
 split
 ·rfl
 ·show 1 / (1 : Rat)=_
  grind
theorem Ai {l : List Int} (h : ∀ z ∈ l,0≤z) : xv l 0=gA l l.length := by
 rw [gA_yv h]
 rfl
def Dr (G : Nat) : Fact := ⟨fun v w => v=.pointer (some ⟨G,0,none⟩)∧Blk w G #[.bool false,.slice none 0 0,.bool false,.slice none 0 0] 34,fun hg h => ⟨h.1,h.2.grows hg (by decide)⟩⟩
def Rb (G : Nat) (q : Rat) : Fact := ⟨fun v w => ∃ g,v=.pointer (some ⟨g,0,none⟩)∧g < G∧RV w g q,fun hg ⟨g,e,h1,h2⟩ => ⟨g,e,h1,h2.grows hg⟩⟩
theorem rb_of {q : Rat} {v : Value} {w w' : World} (h : (Rt q).on v w) (hb : Below w.heap.size w w') : (Rb w.heap.size q).on v w' := by
 obtain ⟨g,e,h⟩ := h
 exact ⟨g,e,h.lt,h.below hb⟩
theorem rt_of {G : Nat} {q : Rat} {v : Value} {w w' : World} (h : (Rb G q).on v w) (hh : XY w G) (hs : Save G w w') : (Rt q).on v w' := by
 obtain ⟨g,e,h1,h2⟩ := h
 exact ⟨g,e,h2.save (by omega) hh hs⟩
theorem Gf {ops : Array Oper} {Q : Exit→Act→World→Prop} {rest : List Oper} {o : Oper} {a : Act} {w : World} (hgd : o.guard=none) (hop : o.op=.alloc 34)
  (h : wpList Tryz.prog ops Q rest (a.put o.dst (.pointer (some ⟨w.heap.size,0,none⟩))) (w.alloc (.cells #[.bool false,.slice none 0 0,.bool false,.slice none 0 0] 34))) : wpList Tryz.prog ops Q (o :: rest) a w := by
 refine wpList_plain hgd fun K hK => ?_
 have e : (execOp a.eval o).run Tryz.prog w=.ok (.value (.pointer (some ⟨w.heap.size,0,none⟩))) (w.alloc (.cells #[.bool false,.slice none 0 0,.bool false,.slice none 0 0] 34)) := by
  unfold execOp
  rw [hop]
  simp [go_sem]
 unfold Oper.wp
 rw [e]
 exact hK _ _ h
theorem Hf {a : Act} {w : World} : ∀ u F,(u,F) ∈ ([] : List (Nat × Fact))→F.on (a.tmps.getD u undef) w := fun _ _ h => by cases h
theorem XW {a : Act} {w : World} {t : Nat} {G : Fact} {l : List (Nat × Fact)} (h : G.on (a.tmps.getD t undef) w) (hl : ∀ u F,(u,F) ∈ l→F.on (a.tmps.getD u undef) w) : ∀ u F,(u,F) ∈ (t,G) :: l→F.on (a.tmps.getD u undef) w := fun u F hm => by
 rcases List.mem_cons.1 hm with e | hm
 ·cases e
  exact h
 ·exact hl u F hm
theorem WR {T : TypeId} {x y : Operand} {a b : ByteArray} (h : a=b) (w : World) : (do eqGuard .eql T x y (.string a) (.string b); binOp .eql T (.string a) (.string b) : Sem Value).run Tryz.prog w=.ok (.bool true) w := by
 subst h
 simp [go_sem]
theorem Ro (T : TypeId) (x y : Operand) (m : Nat) (z : Int) (h : ((m % 2 : Nat) : Int)=z) (w : World) : (do eqGuard .rem T x y (.int .i64 m) (.int .i64 2); binOp .rem T (.int .i64 m) (.int .i64 2) : Sem Value).run Tryz.prog w=.ok (.int .i64 z) w := by
 subst h
 have e : Int.tmod (m : Int) 2=((m % 2 : Nat) : Int) := by
  rw [Int.tmod_eq_emod_of_nonneg (by omega)]
  omega
 have e2 : IntKind.i64.wrap ((m % 2 : Nat) : Int)=((m % 2 : Nat) : Int) := Ug (by omega) (by omega)
 simp [go_sem]
 rw [e]
 omega
section
variable {P : Program} {Q : Exit→Act→World→Prop} {w0 : World} {n : Nat} {tm : List (Nat × Fact)} {bx : List (Nat × TypeId × Fact)} {a0 : Act} {wr : World} {os : List Oper} {pl : List Plan}
theorem Ec {i : Nat} {o : Oper} {xT yT : TypeId} {x y : Operand} {p q : Rat} (h : p=q) (ho : os[i]? = some o) (hp : pl[i]? = some (.pure (Jus (.bool true)))) (hw : JW w0 bx a0 wr os pl o true) (hop : o.op=.binOp .eql xT x y yT) (hx : Opn w0 bx a0 wr os pl i o x (Tt p)) (hy : Opn w0 bx a0 wr os pl i o y (Tt q)) : AStep Tryz.prog Q os a0 (RInv w0 bx a0 wr os pl) i o := ZE ho hp hw fun d τ w hri hd hn => by
 obtain ⟨s,ex,h1⟩ := hx d τ w hri hd hn
 obtain ⟨t,ey,h2⟩ := hy d τ w hri hd hn
 have es : s=t := by
  rw [h] at h1
  exact ByteArray.ext (Array.ext' (h1.trans h2.symm))
 subst es
 refine ⟨.bool true,w,?_,Below.refl _ _,rfl⟩
 unfold execOp
 rw [hop]
 show (do pure (Next.value (← (do eqGuard .eql xT x y ((Ql a0 τ 0 os).eval x) ((Ql a0 τ 0 os).eval y); binOp .eql xT ((Ql a0 τ 0 os).eval x) ((Ql a0 τ 0 os).eval y) : Sem Value))) : Sem Next).run Tryz.prog w=_
 rw [ex,ey]
 simp [go_sem]
end
theorem ZU (vs : Array Value) (w : World) : (callFunc 6 vs).run Tryz.prog w=.ok (.enter 6 vs) w := ZG Tryz.func6 (by kernel_rfl) (by kernel_rfl) vs w
theorem YA (vs : Array Value) (w : World) : (callFunc 8 vs).run Tryz.prog w=.ok (.enter 8 vs) w := ZG Tryz.func8 (by kernel_rfl) (by kernel_rfl) vs w
theorem YU : Con Tryz.prog QT 6 [] (Bo true) := fun w vs hp h => by
 obtain rfl := (show vs=[] from by match vs,h with | [],_ => rfl)
 exact (Ko w hp).mono fun e w' ⟨hb,e1⟩ => ⟨hb,_,e1,rfl⟩
theorem Mh {w w' : World} {l : List Int} {v : Value} (h : (Hi w l).on v w') (hb : Below w.heap.size w w') : (Hi w' l).on v w' := by
 obtain ⟨ao,c,e,h⟩ := h
 refine ⟨ao,c,e,fun i z hz => ?_⟩
 obtain ⟨p,e1,h1,h2⟩ := h i z hz
 exact ⟨p,e1,Nat.lt_of_lt_of_le h1 hb.size,(hb.cell (p := p.add i) (by rw [Cx.add_block]; exact h1)).trans h2⟩
theorem Gv {w0 : World} {l : List Int} (hr : ∀ z ∈ l,z < 9223372036854775808) (hn : l.length≤60) (h : ∃ z ∈ l,z < 0) : Con Tryz.prog (fun w => QT w∧Below w0.heap.size w0 w) 5 [Hi w0 l] (Tup [Tx ⟨#[]⟩,In 4]) := fun w vs hp hall => by
 obtain ⟨v0,rfl,h0⟩ := VY hall
 refine (Ty (Mh h0 hp.2) hr hn hp.1).mono ?_
 rintro e w' ⟨hb,x,rfl,⟨_,rfl⟩ | ⟨h1,_⟩⟩
 ·exact ⟨hb,_,rfl,[_,_],rfl,rfl,rfl,trivial⟩
 ·obtain ⟨z,hz,h2⟩ := h
  have := h1 z hz
  omega
theorem DH {w0 : World} {l : List Int} (hr : ∀ z ∈ l,z < 9223372036854775808) (hn : l.length≤60) (h : ∀ z ∈ l,0≤z) : Con Tryz.prog (fun w => QT w∧Below w0.heap.size w0 w) 5 [Hi w0 l] (Tup [Tt (gA l l.length),In 0]) := fun w vs hp hall => by
 obtain ⟨v0,rfl,h0⟩ := VY hall
 refine (Ty (Mh h0 hp.2) hr hn hp.1).mono ?_
 rintro e w' ⟨hb,x,rfl,⟨⟨z,hz,h2⟩,_⟩ | ⟨_,s,rfl,hs⟩⟩
 ·have := h z hz
  omega
 ·exact ⟨hb,_,rfl,[_,_],rfl,⟨s,rfl,hs⟩,rfl,trivial⟩
theorem Ka {w0 : World} {l : List Int} (h60 : (60 : Int) < l.length) : Con Tryz.prog (fun w => QT w∧Below w0.heap.size w0 w) 5 [Hi w0 l] (Tup [Tx ⟨#[]⟩,In 2]) := by
 refine Vn (n := 37) Tryz.func5 rfl rfl (Nat.le_of_ble_eq_true rfl) ?_
 intro w a0 hp S0
 refine wp_seq ?_
 refine Qi [.pure (Tx ⟨#[]⟩),.pure (In (0))] ⟨S0,by decide +kernel⟩ (by kernel_rfl) (by kernel_rfl) rfl (by kernel_rfl) ?_ ?_
 ·intro C
  refine ASteps.cons ?_ (ASteps.cons ?_ (ASteps.nil))
  ·exact Qn rfl rfl (Qa rfl) rfl (Qo _)
  ·exact Qn rfl rfl (Qa rfl) rfl (Qo _)
 intro γ a1 w1 Z1 S1
 replace S1 : AS w 37 [(3,In (0)),(2,Tx ⟨#[]⟩),(0,Hi w0 l)] [] a1 w1 := cast (by kernel_rfl) (S1.keep [0,2,3])
 clear S0
 refine Qe ?_
 refine wp_seq ?_
 refine wp_seq ?_
 refine Qi [.pure (Hi w0 l),.pure (In (l.length)),.pure (Bo true)] ⟨S1,by decide +kernel⟩ (by kernel_rfl) (by kernel_rfl) rfl (by kernel_rfl) ?_ ?_
 ·intro C
  refine ASteps.cons ?_ (ASteps.cons ?_ (ASteps.cons ?_ (ASteps.nil)))
  ·exact Qj rfl rfl (Qa rfl) rfl (Qh C 2 (by kernel_rfl) rfl)
  ·exact Jw rfl rfl (Qa rfl) rfl (Qc C 0 0 rfl rfl rfl rfl rfl rfl) rfl
  ·exact Qz rfl rfl (Qa rfl) rfl (Qc C 1 0 rfl rfl rfl rfl rfl rfl) (Qo _) (Yg _ _ _ _ _ _ (decide_eq_true h60))
 intro γ a2 w2 Z2 S2
 replace S2 : AS w 37 [(12,Bo true),(3,In (0)),(2,Tx ⟨#[]⟩),(0,Hi w0 l)] [] a2 w2 := cast (by kernel_rfl) (S2.keep [0,2,3,12])
 clear S1
 refine Qe ?_
 refine wp_cond_true (S2.val 0 rfl) ?_
 refine wp_seq ?_
 refine Qi [.pure (Tx ⟨#[]⟩),.pure (In (2))] ⟨S2,by decide +kernel⟩ (by kernel_rfl) (by kernel_rfl) rfl (by kernel_rfl) ?_ ?_
 ·intro C
  refine ASteps.cons ?_ (ASteps.cons ?_ (ASteps.nil))
  ·exact Qn rfl rfl (Qa rfl) rfl (Qo _)
  ·exact Qn rfl rfl (Qa rfl) rfl (Qo _)
 intro γ a3 w3 Z3 S3
 replace S3 : AS w 37 [(3,In (2)),(2,Tx ⟨#[]⟩),(0,Hi w0 l)] [] a3 w3 := cast (by kernel_rfl) (S3.keep [0,2,3])
 clear S2
 refine Qe ?_
 refine wp_ret ?_
 refine JM ?_
 exact S3.retTT 1 0 rfl rfl rfl fun v v2 hv hv2 => ⟨S3.bel,_,rfl,[_,_],rfl,hv,hv2,trivial⟩
theorem AG {w : World} {v0 : Value} {l : List Int} (hl : (Hi w l).on v0 w) (h60 : (60 : Int) < l.length) (hp : QT w) : Calls Tryz.prog 3 #[v0] w fun e w' => Below w.heap.size w w'∧e=.returned (.bool true) := by
 refine Xk (w0 := w) (n := 83) (Fs := [Hi w l]) (vs := [v0]) (bx := []) Tryz.func3 rfl rfl (Nat.le_of_ble_eq_true rfl) (Below.refl _ _) ⟨hl,trivial⟩ (fun k G t F h => by simp at h) List.nodup_nil ?_
 intro a0 S0
 have HPRE : ∀ w',Below w.heap.size w w'→QT w' := fun w' hb => Ji hp hb
 have HPRE2 : ∀ w',Below w.heap.size w w'→QT w'∧Below w.heap.size w w' := fun w' hb => ⟨Ji hp hb,hb⟩
 refine wp_seq ?_
 refine Qi [.pure (Bo false)] ⟨S0,by decide +kernel⟩ (by kernel_rfl) (by kernel_rfl) rfl (by kernel_rfl) ?_ ?_
 ·intro C
  refine ASteps.cons ?_ (ASteps.nil)
  ·exact Qn rfl rfl (Qa rfl) rfl (Qo _)
 intro γ a1 w1 Z1 S1
 replace S1 : AS w 83 [(2,Bo false),(0,Hi w l)] [] a1 w1 := cast (by kernel_rfl) (S1.keep [0,2])
 clear S0
 refine Qe ?_
 refine wp_seq ?_
 refine Qi [.pure (Hi w l),.pure (Tup [Tx ⟨#[]⟩,In (2)]),.pure (Tup [Tx ⟨#[]⟩,In (2)]),.pure (Tx ⟨#[]⟩),.pure (In (2)),.pure (Tx ⟨#[]⟩),.pure (In (2))] ⟨S1,by decide +kernel⟩ (by kernel_rfl) (by kernel_rfl) rfl (by kernel_rfl) ?_ ?_
 ·intro C
  refine ASteps.cons ?_ (ASteps.cons ?_ (ASteps.cons ?_ (ASteps.cons ?_ (ASteps.cons ?_ (ASteps.cons ?_ (ASteps.cons ?_ (ASteps.nil)))))))
  ·exact Qj rfl rfl (Qa rfl) rfl (Qh C 1 (by kernel_rfl) rfl)
  ·exact Qm HPRE2 rfl rfl (Qa rfl) rfl Vi (Opns.cons (Qc C 0 0 rfl rfl rfl rfl rfl rfl) Opns.nil) ((Ka h60))
  ·exact Qj rfl rfl (Qa rfl) rfl (Qc C 1 0 rfl rfl rfl rfl rfl rfl)
  ·exact Zb (k := 0) rfl rfl (Qa rfl) rfl (Qc C 2 0 rfl rfl rfl rfl rfl rfl) rfl
  ·exact Zb (k := 1) rfl rfl (Qa rfl) rfl (Qc C 2 0 rfl rfl rfl rfl rfl rfl) rfl
  ·exact Qn rfl rfl (Qa rfl) rfl (Qc C 3 0 rfl rfl rfl rfl rfl rfl)
  ·exact Qn rfl rfl (Qa rfl) rfl (Qc C 4 0 rfl rfl rfl rfl rfl rfl)
 intro γ a2 w2 Z2 S2
 replace S2 : AS w 83 [(4,In (2)),(3,Tx ⟨#[]⟩),(2,Bo false),(0,Hi w l)] [] a2 w2 := cast (by kernel_rfl) (S2.keep [0,2,3,4])
 clear S1
 refine Qe ?_
 refine wp_seq ?_
 refine wp_seq ?_
 refine Qi [.pure (Bo true),.pure (Bo false),.pure (Bo false),.pure (Hi w l),.pure (In (l.length)),.pure (Bo true),.pure (Bo true)] ⟨S2,by decide +kernel⟩ (by kernel_rfl) (by kernel_rfl) rfl (by kernel_rfl) ?_ ?_
 ·intro C
  refine ASteps.cons ?_ (ASteps.cons ?_ (ASteps.cons ?_ (ASteps.cons ?_ (ASteps.cons ?_ (ASteps.cons ?_ (ASteps.cons ?_ (ASteps.nil)))))))
  ·exact Qm HPRE rfl rfl (Qa rfl) rfl ZU Opns.nil (YU)
  ·exact KC true rfl rfl (Qa rfl) rfl (Qc C 0 0 rfl rfl rfl rfl rfl rfl)
  ·exact Qj rfl rfl (Qa rfl) rfl (Qc C 1 0 rfl rfl rfl rfl rfl rfl)
  ·exact Qj rfl rfl (QY C 2 0 false rfl rfl rfl rfl rfl rfl rfl) rfl (Qh C 3 (by kernel_rfl) rfl)
  ·exact Jw rfl rfl (QY C 2 1 false rfl rfl rfl rfl rfl rfl rfl) rfl (Qc C 3 0 rfl rfl rfl rfl rfl rfl) rfl
  ·exact Qz rfl rfl (QY C 2 1 false rfl rfl rfl rfl rfl rfl rfl) rfl (Qc C 4 0 rfl rfl rfl rfl rfl rfl) (Qo _) (Yg _ _ _ _ _ _ (decide_eq_true h60))
  ·exact JB false rfl rfl (Qa rfl) rfl (Qc C 2 0 rfl rfl rfl rfl rfl rfl) (Qc C 5 1 rfl rfl rfl rfl rfl rfl)
 intro γ a3 w3 Z3 S3
 replace S3 : AS w 83 [(21,Bo true),(4,In (2)),(3,Tx ⟨#[]⟩),(2,Bo false),(0,Hi w l)] [] a3 w3 := cast (by kernel_rfl) (S3.keep [0,2,3,4,21])
 clear S2
 refine Qe ?_
 refine wp_cond_true (S3.val 0 rfl) ?_
 refine wp_seq ?_
 refine Qi [.pure (Bo true),.pure (Bo true),.pure (In (2)),.pure (Bo true),.pure (Bo true),.pure (Bo true),.pure (Tx ⟨#[]⟩),.pure (Bo true),.pure (Bo true),.pure (Bo true)] ⟨S3,by decide +kernel⟩ (by kernel_rfl) (by kernel_rfl) rfl (by kernel_rfl) ?_ ?_
 ·intro C
  refine ASteps.cons ?_ (ASteps.cons ?_ (ASteps.cons ?_ (ASteps.cons ?_ (ASteps.cons ?_ (ASteps.cons ?_ (ASteps.cons ?_ (ASteps.cons ?_ (ASteps.cons ?_ (ASteps.cons ?_ (ASteps.nil))))))))))
  ·exact Qm HPRE rfl rfl (Qa rfl) rfl ZU Opns.nil (YU)
  ·exact Qj rfl rfl (Qa rfl) rfl (Qc C 0 0 rfl rfl rfl rfl rfl rfl)
  ·exact Qj rfl rfl (QY C 1 0 true rfl rfl rfl rfl rfl rfl rfl) rfl (Qh C 1 (by kernel_rfl) rfl)
  ·exact Qz rfl rfl (QY C 1 1 true rfl rfl rfl rfl rfl rfl rfl) rfl (Qc C 2 0 rfl rfl rfl rfl rfl rfl) (Qo _) (Ya _ _ _ _ _ _ rfl)
  ·exact JB true rfl rfl (Qa rfl) rfl (Qc C 1 0 rfl rfl rfl rfl rfl rfl) (Qc C 3 1 rfl rfl rfl rfl rfl rfl)
  ·exact Qj rfl rfl (Qa rfl) rfl (Qc C 4 0 rfl rfl rfl rfl rfl rfl)
  ·exact Qj rfl rfl (QY C 5 0 true rfl rfl rfl rfl rfl rfl rfl) rfl (Qh C 2 (by kernel_rfl) rfl)
  ·exact Qz rfl rfl (QY C 5 1 true rfl rfl rfl rfl rfl rfl rfl) rfl (Qc C 6 0 rfl rfl rfl rfl rfl rfl) (Qo _) (WR rfl)
  ·exact JB true rfl rfl (Qa rfl) rfl (Qc C 5 0 rfl rfl rfl rfl rfl rfl) (Qc C 7 1 rfl rfl rfl rfl rfl rfl)
  ·exact Qn rfl rfl (Qa rfl) rfl (Qc C 8 0 rfl rfl rfl rfl rfl rfl)
 intro γ a4 w4 Z4 S4
 replace S4 : AS w 83 [(2,Bo true),(4,In (2)),(3,Tx ⟨#[]⟩),(0,Hi w l)] [] a4 w4 := cast (by kernel_rfl) (S4.keep [0,2,3,4])
 clear S3
 refine Qe ?_
 refine wp_ret ?_
 refine JM ?_
 exact S4.ret 0 rfl rfl fun v hv => ⟨S4.bel,by rw [show v=_ from hv]⟩
theorem gs_neg {w : World} {v0 : Value} {l : List Int} (hl : (Hi w l).on v0 w) (hr : ∀ z ∈ l,z < 9223372036854775808) (hn : l.length≤60) (hneg : ∃ z ∈ l,z < 0) (hp : QT w) : Calls Tryz.prog 3 #[v0] w fun e w' => Below w.heap.size w w'∧e=.returned (.bool true) := by
 have h60 : ¬ (60 : Int) < l.length := by omega
 refine Xk (w0 := w) (n := 83) (Fs := [Hi w l]) (vs := [v0]) (bx := []) Tryz.func3 rfl rfl (Nat.le_of_ble_eq_true rfl) (Below.refl _ _) ⟨hl,trivial⟩ (fun k G t F h => by simp at h) List.nodup_nil ?_
 intro a0 S0
 have HPRE : ∀ w',Below w.heap.size w w'→QT w' := fun w' hb => Ji hp hb
 have HPRE2 : ∀ w',Below w.heap.size w w'→QT w'∧Below w.heap.size w w' := fun w' hb => ⟨Ji hp hb,hb⟩
 refine wp_seq ?_
 refine Qi [.pure (Bo false)] ⟨S0,by decide +kernel⟩ (by kernel_rfl) (by kernel_rfl) rfl (by kernel_rfl) ?_ ?_
 ·intro C
  refine ASteps.cons ?_ (ASteps.nil)
  ·exact Qn rfl rfl (Qa rfl) rfl (Qo _)
 intro γ a1 w1 Z1 S1
 replace S1 : AS w 83 [(2,Bo false),(0,Hi w l)] [] a1 w1 := cast (by kernel_rfl) (S1.keep [0,2])
 clear S0
 refine Qe ?_
 refine wp_seq ?_
 refine Qi [.pure (Hi w l),.pure (Tup [Tx ⟨#[]⟩,In (4)]),.pure (Tup [Tx ⟨#[]⟩,In (4)]),.pure (Tx ⟨#[]⟩),.pure (In (4)),.pure (Tx ⟨#[]⟩),.pure (In (4))] ⟨S1,by decide +kernel⟩ (by kernel_rfl) (by kernel_rfl) rfl (by kernel_rfl) ?_ ?_
 ·intro C
  refine ASteps.cons ?_ (ASteps.cons ?_ (ASteps.cons ?_ (ASteps.cons ?_ (ASteps.cons ?_ (ASteps.cons ?_ (ASteps.cons ?_ (ASteps.nil)))))))
  ·exact Qj rfl rfl (Qa rfl) rfl (Qh C 1 (by kernel_rfl) rfl)
  ·exact Qm HPRE2 rfl rfl (Qa rfl) rfl Vi (Opns.cons (Qc C 0 0 rfl rfl rfl rfl rfl rfl) Opns.nil) ((Gv hr hn hneg))
  ·exact Qj rfl rfl (Qa rfl) rfl (Qc C 1 0 rfl rfl rfl rfl rfl rfl)
  ·exact Zb (k := 0) rfl rfl (Qa rfl) rfl (Qc C 2 0 rfl rfl rfl rfl rfl rfl) rfl
  ·exact Zb (k := 1) rfl rfl (Qa rfl) rfl (Qc C 2 0 rfl rfl rfl rfl rfl rfl) rfl
  ·exact Qn rfl rfl (Qa rfl) rfl (Qc C 3 0 rfl rfl rfl rfl rfl rfl)
  ·exact Qn rfl rfl (Qa rfl) rfl (Qc C 4 0 rfl rfl rfl rfl rfl rfl)
 intro γ a2 w2 Z2 S2
 replace S2 : AS w 83 [(4,In (4)),(3,Tx ⟨#[]⟩),(2,Bo false),(0,Hi w l)] [] a2 w2 := cast (by kernel_rfl) (S2.keep [0,2,3,4])
 clear S1
 refine Qe ?_
 refine wp_seq ?_
 refine wp_seq ?_
 refine Qi [.pure (Bo true),.pure (Bo false),.pure (Bo false),.pure (Hi w l),.pure (In (l.length)),.pure (Bo false),.pure (Bo false)] ⟨S2,by decide +kernel⟩ (by kernel_rfl) (by kernel_rfl) rfl (by kernel_rfl) ?_ ?_
 ·intro C
  refine ASteps.cons ?_ (ASteps.cons ?_ (ASteps.cons ?_ (ASteps.cons ?_ (ASteps.cons ?_ (ASteps.cons ?_ (ASteps.cons ?_ (ASteps.nil)))))))
  ·exact Qm HPRE rfl rfl (Qa rfl) rfl ZU Opns.nil (YU)
  ·exact KC true rfl rfl (Qa rfl) rfl (Qc C 0 0 rfl rfl rfl rfl rfl rfl)
  ·exact Qj rfl rfl (Qa rfl) rfl (Qc C 1 0 rfl rfl rfl rfl rfl rfl)
  ·exact Qj rfl rfl (QY C 2 0 false rfl rfl rfl rfl rfl rfl rfl) rfl (Qh C 3 (by kernel_rfl) rfl)
  ·exact Jw rfl rfl (QY C 2 1 false rfl rfl rfl rfl rfl rfl rfl) rfl (Qc C 3 0 rfl rfl rfl rfl rfl rfl) rfl
  ·exact Qz rfl rfl (QY C 2 1 false rfl rfl rfl rfl rfl rfl rfl) rfl (Qc C 4 0 rfl rfl rfl rfl rfl rfl) (Qo _) (Yg _ _ _ _ _ _ (decide_eq_false h60))
  ·exact JB false rfl rfl (Qa rfl) rfl (Qc C 2 0 rfl rfl rfl rfl rfl rfl) (Qc C 5 1 rfl rfl rfl rfl rfl rfl)
 intro γ a3 w3 Z3 S3
 replace S3 : AS w 83 [(21,Bo false),(4,In (4)),(3,Tx ⟨#[]⟩),(2,Bo false),(0,Hi w l)] [] a3 w3 := cast (by kernel_rfl) (S3.keep [0,2,3,4,21])
 clear S2
 refine Qe ?_
 refine wp_cond_false (S3.val 0 rfl) ?_
 refine wp_skip ?_
 refine Qe ?_
 refine wp_seq ?_
 refine wp_seq ?_
 refine Qi [.pure (Hi w l),.pure (In (l.length)),.pure (In (0))] ⟨S3,by decide +kernel⟩ (by kernel_rfl) (by kernel_rfl) rfl (by kernel_rfl) ?_ ?_
 ·intro C
  refine ASteps.cons ?_ (ASteps.cons ?_ (ASteps.cons ?_ (ASteps.nil)))
  ·exact Qj rfl rfl (Qa rfl) rfl (Qh C 4 (by kernel_rfl) rfl)
  ·exact Jw rfl rfl (Qa rfl) rfl (Qc C 0 0 rfl rfl rfl rfl rfl rfl) rfl
  ·exact Qj rfl rfl (Qa rfl) rfl (Qo _)
 intro γ a4 w4 Z4 S4
 replace S4 : AS w 83 [(33,In (0)),(32,In (l.length)),(31,Hi w l),(4,In (4)),(3,Tx ⟨#[]⟩),(2,Bo false),(0,Hi w l)] [] a4 w4 := cast (by kernel_rfl) (S4.keep [0,2,3,4,31,32,33])
 clear S3
 refine Qe ?_
 refine wp_block ?_
 refine wp_loop (fun a w' => ∃ k : Nat,(k≤l.length∧∀ (j : Nat) z,j < k→l[j]? = some z→0≤z)∧AS w 83 [(33,In (k)),(32,In (l.length)),(31,Hi w l),(4,In (4)),(3,Tx ⟨#[]⟩),(0,Hi w l)] [] a w') (fun a _ => l.length - (intOf (a.tmps.getD 33 undef)).toNat) ⟨0,⟨Nat.zero_le _,fun j z hj => absurd hj (Nat.not_lt_zero _)⟩,cast (by kernel_rfl) (S4.keep [33,32,31,4,3,0])⟩ ?_
 clear S4
 intro a5 w5 hI5
 obtain ⟨k,⟨hk,hpos⟩,S5⟩ := hI5
 have hM : a5.tmps.getD 33 undef=.int .i64 (k : Int) := S5.val 0 rfl
 refine wp_seq ?_
 by_cases h1 : (k : Int) < l.length
 ·
  refine Qi [.pure (Bo true)] ⟨S5,by decide +kernel⟩ (by kernel_rfl) (by kernel_rfl) rfl (by kernel_rfl) ?_ ?_
  ·intro C
   refine ASteps.cons ?_ (ASteps.nil)
   ·exact Qz rfl rfl (Qa rfl) rfl (Qh C 0 (by kernel_rfl) rfl) (Qh C 1 (by kernel_rfl) rfl) (Zy _ _ _ _ _ _ (decide_eq_true h1))
  intro γ a6 w6 Z6 S6
  replace S6 : AS w 83 [(34,Bo true),(33,In (k)),(32,In (l.length)),(31,Hi w l),(4,In (4)),(3,Tx ⟨#[]⟩),(0,Hi w l)] [] a6 w6 := cast (by kernel_rfl) (S6.keep [0,3,4,31,32,33,34])
  clear S5
  refine Qe ?_
  refine wp_seq ?_
  refine wp_cond_true (S6.val 0 rfl) ?_
  refine wp_skip ?_
  refine Qe ?_
  refine wp_seq ?_
  refine wp_block ?_
  refine wp_seq ?_
  have hkl : k < l.length := by omega
  obtain ⟨z,hz⟩ : ∃ z,l[k]? = some z := ⟨_,List.getElem?_eq_getElem hkl⟩
  refine Qi [.pure (Ci w z),.pure (In (z)),.pure (In (z))] ⟨S6,by decide +kernel⟩ (by kernel_rfl) (by kernel_rfl) rfl (by kernel_rfl) ?_ ?_
  ·intro C
   refine ASteps.cons ?_ (ASteps.cons ?_ (ASteps.cons ?_ (ASteps.nil)))
   ·exact Uv k hz rfl rfl (Qa rfl) rfl (Qh C 3 (by kernel_rfl) rfl) (Qh C 1 (by kernel_rfl) rfl) (fun a n c w h => Tm a n c w h)
   ·exact Va rfl rfl (Qa rfl) rfl (Qc C 0 0 rfl rfl rfl rfl rfl rfl) ON
   ·exact Qn rfl rfl (Qa rfl) rfl (Qc C 1 0 rfl rfl rfl rfl rfl rfl)
  intro γ a7 w7 Z7 S7
  replace S7 : AS w 83 [(6,In (z)),(33,In (k)),(32,In (l.length)),(31,Hi w l),(4,In (4)),(3,Tx ⟨#[]⟩),(0,Hi w l)] [] a7 w7 := cast (by kernel_rfl) (S7.keep [0,3,4,6,31,32,33])
  clear S6
  refine Qe ?_
  refine wp_seq ?_
  by_cases h3 : (z : Int) < 0
  ·
   refine Qi [.pure (In (z)),.pure (Bo true)] ⟨S7,by decide +kernel⟩ (by kernel_rfl) (by kernel_rfl) rfl (by kernel_rfl) ?_ ?_
   ·intro C
    refine ASteps.cons ?_ (ASteps.cons ?_ (ASteps.nil))
    ·exact Qj rfl rfl (Qa rfl) rfl (Qh C 0 (by kernel_rfl) rfl)
    ·exact Qz rfl rfl (Qa rfl) rfl (Qc C 0 0 rfl rfl rfl rfl rfl rfl) (Qo _) (Zy _ _ _ _ _ _ (decide_eq_true h3))
   intro γ a8 w8 Z8 S8
   replace S8 : AS w 83 [(38,Bo true),(33,In (k)),(32,In (l.length)),(31,Hi w l),(4,In (4)),(3,Tx ⟨#[]⟩),(0,Hi w l)] [] a8 w8 := cast (by kernel_rfl) (S8.keep [0,3,4,31,32,33,38])
   clear S7
   refine Qe ?_
   refine wp_cond_true (S8.val 0 rfl) ?_
   refine wp_seq ?_
   refine Qi [.pure (In (4)),.pure (Bo true),.pure (Bo true),.pure (Tx ⟨#[]⟩),.pure (Bo true),.pure (Bo true),.pure (Bo true)] ⟨S8,by decide +kernel⟩ (by kernel_rfl) (by kernel_rfl) rfl (by kernel_rfl) ?_ ?_
   ·intro C
    refine ASteps.cons ?_ (ASteps.cons ?_ (ASteps.cons ?_ (ASteps.cons ?_ (ASteps.cons ?_ (ASteps.cons ?_ (ASteps.cons ?_ (ASteps.nil)))))))
    ·exact Qj rfl rfl (Qa rfl) rfl (Qh C 4 (by kernel_rfl) rfl)
    ·exact Qz rfl rfl (Qa rfl) rfl (Qc C 0 0 rfl rfl rfl rfl rfl rfl) (Qo _) (Ya _ _ _ _ _ _ rfl)
    ·exact Qj rfl rfl (Qa rfl) rfl (Qc C 1 0 rfl rfl rfl rfl rfl rfl)
    ·exact Qj rfl rfl (QY C 2 0 true rfl rfl rfl rfl rfl rfl rfl) rfl (Qh C 5 (by kernel_rfl) rfl)
    ·exact Qz rfl rfl (QY C 2 1 true rfl rfl rfl rfl rfl rfl rfl) rfl (Qc C 3 0 rfl rfl rfl rfl rfl rfl) (Qo _) (WR rfl)
    ·exact JB true rfl rfl (Qa rfl) rfl (Qc C 2 0 rfl rfl rfl rfl rfl rfl) (Qc C 4 1 rfl rfl rfl rfl rfl rfl)
    ·exact Qn rfl rfl (Qa rfl) rfl (Qc C 5 0 rfl rfl rfl rfl rfl rfl)
   intro γ a9 w9 Z9 S9
   replace S9 : AS w 83 [(2,Bo true),(33,In (k)),(32,In (l.length)),(31,Hi w l),(4,In (4)),(3,Tx ⟨#[]⟩),(0,Hi w l)] [] a9 w9 := cast (by kernel_rfl) (S9.keep [0,2,3,4,31,32,33])
   clear S8
   refine Qe ?_
   refine wp_ret ?_
   refine YV ?_
   refine JM ?_
   refine JM ?_
   refine YV ?_
   refine JM ?_
   exact S9.ret 0 rfl rfl fun v hv => ⟨S9.bel,by rw [show v=_ from hv]⟩
  ·
   refine Qi [.pure (In (z)),.pure (Bo false)] ⟨S7,by decide +kernel⟩ (by kernel_rfl) (by kernel_rfl) rfl (by kernel_rfl) ?_ ?_
   ·intro C
    refine ASteps.cons ?_ (ASteps.cons ?_ (ASteps.nil))
    ·exact Qj rfl rfl (Qa rfl) rfl (Qh C 0 (by kernel_rfl) rfl)
    ·exact Qz rfl rfl (Qa rfl) rfl (Qc C 0 0 rfl rfl rfl rfl rfl rfl) (Qo _) (Zy _ _ _ _ _ _ (decide_eq_false h3))
   intro γ a10 w10 Z10 S10
   replace S10 : AS w 83 [(38,Bo false),(33,In (k)),(32,In (l.length)),(31,Hi w l),(4,In (4)),(3,Tx ⟨#[]⟩),(0,Hi w l)] [] a10 w10 := cast (by kernel_rfl) (S10.keep [0,3,4,31,32,33,38])
   clear S7
   refine Qe ?_
   refine wp_cond_false (S10.val 0 rfl) ?_
   refine wp_skip ?_
   refine JJ ?_
   refine Qe ?_
   refine Qi [.pure (In (k+1)),.pure (In (k+1))] ⟨S10,by decide +kernel⟩ (by kernel_rfl) (by kernel_rfl) rfl (by kernel_rfl) ?_ ?_
   ·intro C
    refine ASteps.cons ?_ (ASteps.cons ?_ (ASteps.nil))
    ·exact Qz rfl rfl (Qa rfl) rfl (YS C 1 0 1 rfl rfl rfl rfl rfl rfl rfl) (Qo _) (UX _ _ _ _ _ _ (Ug (by omega) (by omega)))
    ·exact Qj rfl rfl (Qa rfl) rfl (Qc C 0 0 rfl rfl rfl rfl rfl rfl)
   intro γ a11 w11 Z11 S11
   replace S11 : AS w 83 [(33,In (k+1)),(32,In (l.length)),(31,Hi w l),(4,In (4)),(3,Tx ⟨#[]⟩),(0,Hi w l)] [] a11 w11 := cast (by kernel_rfl) (S11.keep [0,3,4,31,32,33])
   clear S10
   refine Qe ?_
   refine ⟨⟨k+1,⟨by omega,fun j z' hj hz' => ?_⟩,cast (by kernel_rfl) (S11.keep [33,32,31,4,3,0])⟩,?_⟩
   ·rcases Nat.lt_succ_iff_lt_or_eq.1 hj with hj | rfl
    ·exact hpos j z' hj hz'
    ·rw [hz] at hz'; cases hz'; omega
   ·show l.length - (intOf (a11.tmps.getD 33 undef)).toNat < l.length - (intOf (a5.tmps.getD 33 undef)).toNat
    rw [hM,show a11.tmps.getD 33 undef=.int .i64 ((k : Int)+1) from S11.val 0 rfl]
    simp only [intOf]
    omega
 ·
  refine Qi [.pure (Bo false)] ⟨S5,by decide +kernel⟩ (by kernel_rfl) (by kernel_rfl) rfl (by kernel_rfl) ?_ ?_
  ·intro C
   refine ASteps.cons ?_ (ASteps.nil)
   ·exact Qz rfl rfl (Qa rfl) rfl (Qh C 0 (by kernel_rfl) rfl) (Qh C 1 (by kernel_rfl) rfl) (Zy _ _ _ _ _ _ (decide_eq_false h1))
  intro γ a12 w12 Z12 S12
  replace S12 : AS w 83 [(34,Bo false),(33,In (k)),(32,In (l.length)),(31,Hi w l),(4,In (4)),(3,Tx ⟨#[]⟩),(0,Hi w l)] [] a12 w12 := cast (by kernel_rfl) (S12.keep [0,3,4,31,32,33,34])
  clear S5
  refine Qe ?_
  refine wp_seq ?_
  refine wp_cond_false (S12.val 0 rfl) ?_
  refine wp_exit ?_
  refine Xn ?_
  refine Xn ?_
  refine Yp ?_
  refine Qe ?_
  refine wp_seq ?_
  exfalso
  obtain ⟨z,hz,hz0⟩ := hneg
  obtain ⟨j,hj⟩ := List.getElem?_of_mem hz
  have := hpos j z (by have := (List.getElem?_eq_some_iff.1 hj).1; omega) hj
  omega
theorem gs_ok {w : World} {v0 : Value} {l : List Int} (hl : (Hi w l).on v0 w) (hr : ∀ z ∈ l,z < 9223372036854775808) (hn : l.length≤60) (hall : ∀ z ∈ l,0≤z) (hp : QT w) : Calls Tryz.prog 3 #[v0] w fun e w' => Below w.heap.size w w'∧e=.returned (.bool true) := by
 have h60 : ¬ (60 : Int) < l.length := by omega
 refine Xk (w0 := w) (n := 83) (Fs := [Hi w l]) (vs := [v0]) (bx := []) Tryz.func3 rfl rfl (Nat.le_of_ble_eq_true rfl) (Below.refl _ _) ⟨hl,trivial⟩ (fun k G t F h => by simp at h) List.nodup_nil ?_
 intro a0 S0
 have HPRE : ∀ w',Below w.heap.size w w'→QT w' := fun w' hb => Ji hp hb
 have HPRE2 : ∀ w',Below w.heap.size w w'→QT w'∧Below w.heap.size w w' := fun w' hb => ⟨Ji hp hb,hb⟩
 refine wp_seq ?_
 refine Qi [.pure (Bo false)] ⟨S0,by decide +kernel⟩ (by kernel_rfl) (by kernel_rfl) rfl (by kernel_rfl) ?_ ?_
 ·intro C
  refine ASteps.cons ?_ (ASteps.nil)
  ·exact Qn rfl rfl (Qa rfl) rfl (Qo _)
 intro γ a1 w1 Z1 S1
 replace S1 : AS w 83 [(2,Bo false),(0,Hi w l)] [] a1 w1 := cast (by kernel_rfl) (S1.keep [0,2])
 clear S0
 refine Qe ?_
 refine wp_seq ?_
 refine Qi [.pure (Hi w l),.pure (Tup [Tt ((gA l l.length)),In (0)]),.pure (Tup [Tt ((gA l l.length)),In (0)]),.pure (Tt ((gA l l.length))),.pure (In (0)),.pure (Tt ((gA l l.length))),.pure (In (0))] ⟨S1,by decide +kernel⟩ (by kernel_rfl) (by kernel_rfl) rfl (by kernel_rfl) ?_ ?_
 ·intro C
  refine ASteps.cons ?_ (ASteps.cons ?_ (ASteps.cons ?_ (ASteps.cons ?_ (ASteps.cons ?_ (ASteps.cons ?_ (ASteps.cons ?_ (ASteps.nil)))))))
  ·exact Qj rfl rfl (Qa rfl) rfl (Qh C 1 (by kernel_rfl) rfl)
  ·exact Qm HPRE2 rfl rfl (Qa rfl) rfl Vi (Opns.cons (Qc C 0 0 rfl rfl rfl rfl rfl rfl) Opns.nil) ((DH hr hn hall))
  ·exact Qj rfl rfl (Qa rfl) rfl (Qc C 1 0 rfl rfl rfl rfl rfl rfl)
  ·exact Zb (k := 0) rfl rfl (Qa rfl) rfl (Qc C 2 0 rfl rfl rfl rfl rfl rfl) rfl
  ·exact Zb (k := 1) rfl rfl (Qa rfl) rfl (Qc C 2 0 rfl rfl rfl rfl rfl rfl) rfl
  ·exact Qn rfl rfl (Qa rfl) rfl (Qc C 3 0 rfl rfl rfl rfl rfl rfl)
  ·exact Qn rfl rfl (Qa rfl) rfl (Qc C 4 0 rfl rfl rfl rfl rfl rfl)
 intro γ a2 w2 Z2 S2
 replace S2 : AS w 83 [(4,In (0)),(3,Tt ((gA l l.length))),(2,Bo false),(0,Hi w l)] [] a2 w2 := cast (by kernel_rfl) (S2.keep [0,2,3,4])
 clear S1
 refine Qe ?_
 refine wp_seq ?_
 refine wp_seq ?_
 refine Qi [.pure (Bo true),.pure (Bo false),.pure (Bo false),.pure (Hi w l),.pure (In (l.length)),.pure (Bo false),.pure (Bo false)] ⟨S2,by decide +kernel⟩ (by kernel_rfl) (by kernel_rfl) rfl (by kernel_rfl) ?_ ?_
 ·intro C
  refine ASteps.cons ?_ (ASteps.cons ?_ (ASteps.cons ?_ (ASteps.cons ?_ (ASteps.cons ?_ (ASteps.cons ?_ (ASteps.cons ?_ (ASteps.nil)))))))
  ·exact Qm HPRE rfl rfl (Qa rfl) rfl ZU Opns.nil (YU)
  ·exact KC true rfl rfl (Qa rfl) rfl (Qc C 0 0 rfl rfl rfl rfl rfl rfl)
  ·exact Qj rfl rfl (Qa rfl) rfl (Qc C 1 0 rfl rfl rfl rfl rfl rfl)
  ·exact Qj rfl rfl (QY C 2 0 false rfl rfl rfl rfl rfl rfl rfl) rfl (Qh C 3 (by kernel_rfl) rfl)
  ·exact Jw rfl rfl (QY C 2 1 false rfl rfl rfl rfl rfl rfl rfl) rfl (Qc C 3 0 rfl rfl rfl rfl rfl rfl) rfl
  ·exact Qz rfl rfl (QY C 2 1 false rfl rfl rfl rfl rfl rfl rfl) rfl (Qc C 4 0 rfl rfl rfl rfl rfl rfl) (Qo _) (Yg _ _ _ _ _ _ (decide_eq_false h60))
  ·exact JB false rfl rfl (Qa rfl) rfl (Qc C 2 0 rfl rfl rfl rfl rfl rfl) (Qc C 5 1 rfl rfl rfl rfl rfl rfl)
 intro γ a3 w3 Z3 S3
 replace S3 : AS w 83 [(21,Bo false),(4,In (0)),(3,Tt ((gA l l.length))),(2,Bo false),(0,Hi w l)] [] a3 w3 := cast (by kernel_rfl) (S3.keep [0,2,3,4,21])
 clear S2
 refine Qe ?_
 refine wp_cond_false (S3.val 0 rfl) ?_
 refine wp_skip ?_
 refine Qe ?_
 refine wp_seq ?_
 refine wp_seq ?_
 refine Qi [.pure (Hi w l),.pure (In (l.length)),.pure (In (0))] ⟨S3,by decide +kernel⟩ (by kernel_rfl) (by kernel_rfl) rfl (by kernel_rfl) ?_ ?_
 ·intro C
  refine ASteps.cons ?_ (ASteps.cons ?_ (ASteps.cons ?_ (ASteps.nil)))
  ·exact Qj rfl rfl (Qa rfl) rfl (Qh C 4 (by kernel_rfl) rfl)
  ·exact Jw rfl rfl (Qa rfl) rfl (Qc C 0 0 rfl rfl rfl rfl rfl rfl) rfl
  ·exact Qj rfl rfl (Qa rfl) rfl (Qo _)
 intro γ a4 w4 Z4 S4
 replace S4 : AS w 83 [(33,In (0)),(32,In (l.length)),(31,Hi w l),(4,In (0)),(3,Tt ((gA l l.length))),(2,Bo false),(0,Hi w l)] [] a4 w4 := cast (by kernel_rfl) (S4.keep [0,2,3,4,31,32,33])
 clear S3
 refine Qe ?_
 refine wp_block ?_
 refine wp_loop (fun a w' => ∃ k : Nat,(k≤l.length)∧AS w 83 [(33,In (k)),(32,In (l.length)),(31,Hi w l),(4,In (0)),(3,Tt ((gA l l.length))),(0,Hi w l)] [] a w') (fun a _ => l.length - (intOf (a.tmps.getD 33 undef)).toNat) ⟨0,Nat.zero_le _,cast (by kernel_rfl) (S4.keep [33,32,31,4,3,0])⟩ ?_
 clear S4
 intro a5 w5 hI5
 obtain ⟨k,hk,S5⟩ := hI5
 have hM : a5.tmps.getD 33 undef=.int .i64 (k : Int) := S5.val 0 rfl
 refine wp_seq ?_
 by_cases h1 : (k : Int) < l.length
 ·
  refine Qi [.pure (Bo true)] ⟨S5,by decide +kernel⟩ (by kernel_rfl) (by kernel_rfl) rfl (by kernel_rfl) ?_ ?_
  ·intro C
   refine ASteps.cons ?_ (ASteps.nil)
   ·exact Qz rfl rfl (Qa rfl) rfl (Qh C 0 (by kernel_rfl) rfl) (Qh C 1 (by kernel_rfl) rfl) (Zy _ _ _ _ _ _ (decide_eq_true h1))
  intro γ a6 w6 Z6 S6
  replace S6 : AS w 83 [(34,Bo true),(33,In (k)),(32,In (l.length)),(31,Hi w l),(4,In (0)),(3,Tt ((gA l l.length))),(0,Hi w l)] [] a6 w6 := cast (by kernel_rfl) (S6.keep [0,3,4,31,32,33,34])
  clear S5
  refine Qe ?_
  refine wp_seq ?_
  refine wp_cond_true (S6.val 0 rfl) ?_
  refine wp_skip ?_
  refine Qe ?_
  refine wp_seq ?_
  refine wp_block ?_
  refine wp_seq ?_
  have hkl : k < l.length := by omega
  obtain ⟨z,hz⟩ : ∃ z,l[k]? = some z := ⟨_,List.getElem?_eq_getElem hkl⟩
  have h0z : ¬ (z : Int) < 0 := by have := hall z (List.mem_of_getElem? hz); omega
  refine Qi [.pure (Ci w z),.pure (In (z)),.pure (In (z))] ⟨S6,by decide +kernel⟩ (by kernel_rfl) (by kernel_rfl) rfl (by kernel_rfl) ?_ ?_
  ·intro C
   refine ASteps.cons ?_ (ASteps.cons ?_ (ASteps.cons ?_ (ASteps.nil)))
   ·exact Uv k hz rfl rfl (Qa rfl) rfl (Qh C 3 (by kernel_rfl) rfl) (Qh C 1 (by kernel_rfl) rfl) (fun a n c w h => Tm a n c w h)
   ·exact Va rfl rfl (Qa rfl) rfl (Qc C 0 0 rfl rfl rfl rfl rfl rfl) ON
   ·exact Qn rfl rfl (Qa rfl) rfl (Qc C 1 0 rfl rfl rfl rfl rfl rfl)
  intro γ a7 w7 Z7 S7
  replace S7 : AS w 83 [(6,In (z)),(33,In (k)),(32,In (l.length)),(31,Hi w l),(4,In (0)),(3,Tt ((gA l l.length))),(0,Hi w l)] [] a7 w7 := cast (by kernel_rfl) (S7.keep [0,3,4,6,31,32,33])
  clear S6
  refine Qe ?_
  refine wp_seq ?_
  refine Qi [.pure (In (z)),.pure (Bo false)] ⟨S7,by decide +kernel⟩ (by kernel_rfl) (by kernel_rfl) rfl (by kernel_rfl) ?_ ?_
  ·intro C
   refine ASteps.cons ?_ (ASteps.cons ?_ (ASteps.nil))
   ·exact Qj rfl rfl (Qa rfl) rfl (Qh C 0 (by kernel_rfl) rfl)
   ·exact Qz rfl rfl (Qa rfl) rfl (Qc C 0 0 rfl rfl rfl rfl rfl rfl) (Qo _) (Zy _ _ _ _ _ _ (decide_eq_false h0z))
  intro γ a8 w8 Z8 S8
  replace S8 : AS w 83 [(38,Bo false),(33,In (k)),(32,In (l.length)),(31,Hi w l),(4,In (0)),(3,Tt ((gA l l.length))),(0,Hi w l)] [] a8 w8 := cast (by kernel_rfl) (S8.keep [0,3,4,31,32,33,38])
  clear S7
  refine Qe ?_
  refine wp_cond_false (S8.val 0 rfl) ?_
  refine wp_skip ?_
  refine JJ ?_
  refine Qe ?_
  refine Qi [.pure (In (k+1)),.pure (In (k+1))] ⟨S8,by decide +kernel⟩ (by kernel_rfl) (by kernel_rfl) rfl (by kernel_rfl) ?_ ?_
  ·intro C
   refine ASteps.cons ?_ (ASteps.cons ?_ (ASteps.nil))
   ·exact Qz rfl rfl (Qa rfl) rfl (YS C 1 0 1 rfl rfl rfl rfl rfl rfl rfl) (Qo _) (UX _ _ _ _ _ _ (Ug (by omega) (by omega)))
   ·exact Qj rfl rfl (Qa rfl) rfl (Qc C 0 0 rfl rfl rfl rfl rfl rfl)
  intro γ a9 w9 Z9 S9
  replace S9 : AS w 83 [(33,In (k+1)),(32,In (l.length)),(31,Hi w l),(4,In (0)),(3,Tt ((gA l l.length))),(0,Hi w l)] [] a9 w9 := cast (by kernel_rfl) (S9.keep [0,3,4,31,32,33])
  clear S8
  refine Qe ?_
  refine ⟨⟨k+1,by omega,cast (by kernel_rfl) (S9.keep [33,32,31,4,3,0])⟩,?_⟩
  ·show l.length - (intOf (a9.tmps.getD 33 undef)).toNat < l.length - (intOf (a5.tmps.getD 33 undef)).toNat
   rw [hM,show a9.tmps.getD 33 undef=.int .i64 ((k : Int)+1) from S9.val 0 rfl]
   simp only [intOf]
   omega
 ·
  refine Qi [.pure (Bo false)] ⟨S5,by decide +kernel⟩ (by kernel_rfl) (by kernel_rfl) rfl (by kernel_rfl) ?_ ?_
  ·intro C
   refine ASteps.cons ?_ (ASteps.nil)
   ·exact Qz rfl rfl (Qa rfl) rfl (Qh C 0 (by kernel_rfl) rfl) (Qh C 1 (by kernel_rfl) rfl) (Zy _ _ _ _ _ _ (decide_eq_false h1))
  intro γ a10 w10 Z10 S10
  replace S10 : AS w 83 [(34,Bo false),(33,In (k)),(32,In (l.length)),(31,Hi w l),(4,In (0)),(3,Tt ((gA l l.length))),(0,Hi w l)] [] a10 w10 := cast (by kernel_rfl) (S10.keep [0,3,4,31,32,33,34])
  clear S5
  refine Qe ?_
  refine wp_seq ?_
  refine wp_cond_false (S10.val 0 rfl) ?_
  refine wp_exit ?_
  refine Xn ?_
  refine Xn ?_
  refine Yp ?_
  refine Qe ?_
  refine wp_seq ?_
  refine Qi [.pure (Rt (((1 : Nat)) : Rat)),.pure (Rt (((1 : Nat)) : Rat))] ⟨S10,by decide +kernel⟩ (by kernel_rfl) (by kernel_rfl) rfl (by kernel_rfl) ?_ ?_
  ·intro C
   refine ASteps.cons ?_ (ASteps.cons ?_ (ASteps.nil))
   ·exact Qm HPRE rfl rfl (Qa rfl) rfl Yk (Opns.cons (Qo _) Opns.nil) ((LB 1 (by decide) rfl))
   ·exact Qn rfl rfl (Qa rfl) rfl (Qc C 0 0 rfl rfl rfl rfl rfl rfl)
  intro γ a11 w11 Z11 S11
  replace S11 : AS w 83 [(7,Rt (((1 : Nat)) : Rat)),(4,In (0)),(3,Tt ((gA l l.length))),(0,Hi w l)] [] a11 w11 := cast (by kernel_rfl) (S11.keep [0,3,4,7])
  clear S10
  refine Qe ?_
  refine wp_seq ?_
  refine wp_seq ?_
  refine Qi [.pure (Hi w l),.pure (In (l.length)),.pure (In (l.length - 1)),.pure (In (l.length - 1))] ⟨S11,by decide +kernel⟩ (by kernel_rfl) (by kernel_rfl) rfl (by kernel_rfl) ?_ ?_
  ·intro C
   refine ASteps.cons ?_ (ASteps.cons ?_ (ASteps.cons ?_ (ASteps.cons ?_ (ASteps.nil))))
   ·exact Qj rfl rfl (Qa rfl) rfl (Qh C 3 (by kernel_rfl) rfl)
   ·exact Jw rfl rfl (Qa rfl) rfl (Qc C 0 0 rfl rfl rfl rfl rfl rfl) rfl
   ·exact Qz rfl rfl (Qa rfl) rfl (Qc C 1 0 rfl rfl rfl rfl rfl rfl) (Qo _) (UY _ _ _ _ _ _ (Ug (by omega) (by omega)))
   ·exact Qn rfl rfl (Qa rfl) rfl (Qc C 2 0 rfl rfl rfl rfl rfl rfl)
  intro γ a12 w12 Z12 S12
  replace S12 : AS w 83 [(8,In (l.length - 1)),(7,Rt (((1 : Nat)) : Rat)),(4,In (0)),(3,Tt ((gA l l.length))),(0,Hi w l)] [] a12 w12 := cast (by kernel_rfl) (S12.keep [0,3,4,7,8])
  clear S11
  refine Qe ?_
  refine wp_block ?_
  refine wp_loop (fun a w' => ∃ (i : Int) (j : Nat),(i+1=j∧j≤l.length)∧AS w 83 [(8,In (i)),(7,Rt (xv l j)),(4,In (0)),(3,Tt ((gA l l.length))),(0,Hi w l)] [] a w') (fun a _ => (intOf (a.tmps.getD 8 undef)+1).toNat) ⟨(l.length : Int) - 1,l.length,⟨by omega,Nat.le_refl _⟩,AS.conv (S12.keep [8,7,4,3,0]) (by rw [xv_end]; kernel_rfl) rfl⟩ ?_
  clear S12
  intro a13 w13 hI13
  obtain ⟨i,j,⟨hij,hjl⟩,S13⟩ := hI13
  have hM2 : a13.tmps.getD 8 undef=.int .i64 i := S13.val 0 rfl
  refine wp_seq ?_
  refine wp_seq ?_
  by_cases h3 : (0 : Int)≤i
  ·
   refine Qi [.pure (In (i)),.pure (Bo true)] ⟨S13,by decide +kernel⟩ (by kernel_rfl) (by kernel_rfl) rfl (by kernel_rfl) ?_ ?_
   ·intro C
    refine ASteps.cons ?_ (ASteps.cons ?_ (ASteps.nil))
    ·exact Qj rfl rfl (Qa rfl) rfl (Qh C 0 (by kernel_rfl) rfl)
    ·exact Qz rfl rfl (Qa rfl) rfl (Qc C 0 0 rfl rfl rfl rfl rfl rfl) (Qo _) (Rp _ _ _ _ _ _ (decide_eq_true h3))
   intro γ a14 w14 Z14 S14
   replace S14 : AS w 83 [(51,Bo true),(8,In (i)),(7,Rt (xv l j)),(4,In (0)),(3,Tt ((gA l l.length))),(0,Hi w l)] [] a14 w14 := cast (by kernel_rfl) (S14.keep [0,3,4,7,8,51])
   clear S13
   refine Qe ?_
   refine wp_cond_true (S14.val 0 rfl) ?_
   refine wp_skip ?_
   refine Qe ?_
   refine wp_seq ?_
   refine wp_block ?_
   refine wp_seq ?_
   obtain ⟨m,rfl⟩ : ∃ m : Nat,i=m := ⟨i.toNat,by omega⟩
   obtain rfl : j=m+1 := by omega
   obtain ⟨z,hz⟩ : ∃ z : Nat,l[m]? = some (z : Int) := by
    have hlt : m < l.length := by omega
    have h1 := hall _ (List.getElem_mem hlt)
    exact ⟨l[m].toNat,by rw [List.getElem?_eq_getElem hlt]; congr 1; omega⟩
   have hz1 := hr _ (List.mem_of_getElem? hz)
   have hzq : QS 3902 ((z : Nat) : Rat) := QS.mono (Cy (by omega) hz1) (by decide)
   have hx0 := Bj (fun z hz => ⟨hall z hz,hr z hz⟩) hn (m+1)
   have hx1 : QS 3902 (xv l (m+1)) := QS.mono hx0 (by decide)
   have h1q : QS 1 ((1 : Nat) : Rat) := ⟨by decide,by decide⟩
   have hx2 : QS 3902 (((1 : Nat) : Rat) / xv l (m+1)) := QS.mono (QS.div h1q hx0) (by decide)
   have hsum : 0 < ((1 : Nat) : Rat) / xv l (m+1)+((z : Nat) : Rat) := by
    have h1 := NT hall (m+1)
    have h2 : (0 : Rat)≤((z : Nat) : Rat) := by exact_mod_cast Nat.zero_le z
    have h3 : 0 < ((1 : Nat) : Rat) / xv l (m+1) := by
     rw [show ((1 : Nat) : Rat)=1 from rfl,Rat.div_def,Rat.one_mul]
     exact Rat.inv_pos.2 h1
    grind
   refine wp_region_lit ?_
   refine Gf rfl rfl ?_
   have hbn := Qg w14 (.cells #[.bool false,.slice none 0 0,.bool false,.slice none 0 0] 34)
   have S15 : AS w 83 [(54,Dr w14.heap.size),(8,In (m)),(7,Rb w14.heap.size (xv l (m+1))),(4,In (0)),(3,Tt ((gA l l.length))),(0,Hi w l)] [] (a14.put (some 54) (.pointer (some ⟨w14.heap.size,0,none⟩))) (w14.alloc (.cells #[.bool false,.slice none 0 0,.bool false,.slice none 0 0] 34)) := S14.put (by decide) (S14.bel.trans (hbn.mono S14.bel.size)) ⟨rfl,Blk.new _ _ _⟩ (by simp) (XW ((In (m) : Fact).st (Grows.of hbn) (S14.fact 1 rfl)) (XW (rb_of (S14.fact 2 rfl) hbn) (XW ((In (0) : Fact).st (Grows.of hbn) (S14.fact 3 rfl)) (XW ((Tt ((gA l l.length)) : Fact).st (Grows.of hbn) (S14.fact 4 rfl)) (XW ((Hi w l : Fact).st (Grows.of hbn) (S14.fact 5 rfl)) Hf))))) (fun j G t F h => by simp at h) List.nodup_nil
   have hGw : w.heap.size≤w14.heap.size := S14.bel.size
   generalize hGe : w14.heap.size=G15 at *
   obtain ⟨a15,ea15⟩ : ∃ a : Act,a=a14.put (some 54) (.pointer (some ⟨G15,0,none⟩)) := ⟨_,rfl⟩
   obtain ⟨w15,ew15⟩ : ∃ w' : World,w'=w14.alloc (.cells #[.bool false,.slice none 0 0,.bool false,.slice none 0 0] 34) := ⟨_,rfl⟩
   show wpList _ _ _ _ (a14.put (some 54) (.pointer (some ⟨G15,0,none⟩))) _
   rw [← ea15,← ew15]
   rw [← ea15,← ew15] at S15
   clear S14 ea15 ew15 hbn
   refine NP 4 ?_
   refine UC 1 ?_
   refine UQ [.pure (Hi w l),.pure (In (m)),.pure (Ci w z),.pure (In (z))] ⟨S15,by decide +kernel⟩ (by kernel_rfl) (by kernel_rfl) rfl (by kernel_rfl) ?_ ?_
   ·intro C
    refine ASteps.cons ?_ (ASteps.cons ?_ (ASteps.cons ?_ (ASteps.cons ?_ (ASteps.nil))))
    ·exact Qj rfl rfl (Qa rfl) rfl (Qh C 5 (by kernel_rfl) rfl)
    ·exact Qj rfl rfl (Qa rfl) rfl (Qh C 1 (by kernel_rfl) rfl)
    ·exact Uv m hz rfl rfl (Qa rfl) rfl (Qc C 0 0 rfl rfl rfl rfl rfl rfl) (Qc C 1 1 rfl rfl rfl rfl rfl rfl) (fun a n c w h => Tm a n c w h)
    ·exact Va rfl rfl (Qa rfl) rfl (Qc C 2 0 rfl rfl rfl rfl rfl rfl) ON
   intro γ a16 w16 Z16 S16
   replace S16 : AS w 83 [(58,In (z)),(54,Dr G15),(8,In (m)),(7,Rb G15 (xv l (m+1))),(4,In (0)),(3,Tt ((gA l l.length))),(0,Hi w l)] [] a16 w16 := cast (by kernel_rfl) (S16.keep [0,3,4,7,8,54,58])
   clear S15
   refine Qe ?_
   refine Ij rfl rfl YA ?_
   have hd : a16.eval (.tmp 54)=.pointer (some ⟨G15,0,none⟩)∧Blk w16 G15 #[.bool false,.slice none 0 0,.bool false,.slice none 0 0] 34 := S16.fact 1 rfl
   have hi : a16.eval (.tmp 58)=.int .i64 (z : Int) := S16.val 0 rfl
   rw [show (#[Operand.tmp 54,Operand.tmp 58] : Array Operand).map a16.eval=#[.pointer (some ⟨G15,0,none⟩),.int .i64 (z : Int)] from by simp [hd.1,hi]]
   refine (YZ z (by omega) hd.2 (by simp [Qk])).mono ?_
   rintro _ wc ⟨rfl,hsv,hrv⟩
   refine ⟨_,rfl,?_⟩
   have S17 : AS w 83 [(59,Rt ((z : Nat) : Rat)),(8,In (m)),(7,Rt (xv l (m+1))),(4,In (0)),(3,Tt ((gA l l.length))),(0,Hi w l)] [] (a16.put (some 59) (.pointer (some ⟨G15,0,none⟩))) wc := S16.put (by decide) (S16.bel.trans (hsv.below hGw S16.bel.size)) ⟨G15,rfl,hrv⟩ (by simp) (XW (S16.fact 2 rfl) (XW (rt_of (S16.fact 3 rfl) ⟨_,_,hd.2,by simp [Qk]⟩ hsv) (XW (S16.fact 4 rfl) (XW (show (Tt ((gA l l.length))).on _ _ from S16.fact 5 rfl) (XW (S16.fact 6 rfl) Hf))))) (fun j G t F h => by simp at h) List.nodup_nil
   obtain ⟨a17,ea17⟩ : ∃ a : Act,a=a16.put (some 59) (.pointer (some ⟨G15,0,none⟩)) := ⟨_,rfl⟩
   obtain ⟨w17,ew17⟩ : ∃ w' : World,w'=wc := ⟨_,rfl⟩
   subst ew17
   show wpList _ _ _ _ (a16.put (some 59) _) _
   rw [← ea17]
   rw [← ea17] at S17
   clear S16 ea17 hd hi hsv hrv
   refine UC 6 ?_
   refine UQ [.pure (Rt ((z : Nat) : Rat))] ⟨S17,by decide +kernel⟩ (by kernel_rfl) (by kernel_rfl) rfl (by kernel_rfl) ?_ ?_
   ·intro C
    refine ASteps.cons ?_ (ASteps.nil)
    ·exact Qn rfl rfl (Qa rfl) rfl (Qh C 0 (by kernel_rfl) rfl)
   intro γ a18 w18 Z18 S18
   replace S18 : AS w 83 [(9,Rt ((z : Nat) : Rat)),(8,In (m)),(7,Rt (xv l (m+1))),(4,In (0)),(3,Tt ((gA l l.length))),(0,Hi w l)] [] a18 w18 := cast (by kernel_rfl) (S18.keep [0,3,4,7,8,9])
   clear S17
   refine Qe ?_
   refine wp_seq ?_
   by_cases h5 : (((m % 2 : Nat) : Int) : Int)=0
   ·
    refine Qi [.pure (In (m)),.pure (In (((m % 2 : Nat) : Int))),.pure (Bo true)] ⟨S18,by decide +kernel⟩ (by kernel_rfl) (by kernel_rfl) rfl (by kernel_rfl) ?_ ?_
    ·intro C
     refine ASteps.cons ?_ (ASteps.cons ?_ (ASteps.cons ?_ (ASteps.nil)))
     ·exact Qj rfl rfl (Qa rfl) rfl (Qh C 1 (by kernel_rfl) rfl)
     ·exact Qz rfl rfl (Qa rfl) rfl (Qc C 0 0 rfl rfl rfl rfl rfl rfl) (Qo _) (Ro _ _ _ _ _ rfl)
     ·exact Qz rfl rfl (Qa rfl) rfl (Qc C 1 0 rfl rfl rfl rfl rfl rfl) (Qo _) (Ya _ _ _ _ _ _ (decide_eq_true h5))
    intro γ a19 w19 Z19 S19
    replace S19 : AS w 83 [(62,Bo true),(9,Rt ((z : Nat) : Rat)),(8,In (m)),(7,Rt (xv l (m+1))),(4,In (0)),(3,Tt ((gA l l.length))),(0,Hi w l)] [] a19 w19 := cast (by kernel_rfl) (S19.keep [0,3,4,7,8,9,62])
    clear S18
    refine Qe ?_
    refine wp_cond_true (S19.val 0 rfl) ?_
    have hev : m % 2=0 := by omega
    refine Qi [.pure (Rt (xv l (m+1))),.pure (Rt ((z : Nat) : Rat)),.soft (Nn 28 2 [Rt (xv l (m+1)),Rt ((z : Nat) : Rat)]),.pure (Rt (xv l m)),.pure (Rt (xv l m))] ⟨S19,by decide +kernel⟩ (by kernel_rfl) (by kernel_rfl) rfl (by kernel_rfl) ?_ ?_
    ·intro C
     refine ASteps.cons ?_ (ASteps.cons ?_ (ASteps.cons ?_ (ASteps.cons ?_ (ASteps.cons ?_ (ASteps.nil)))))
     ·exact Qj rfl rfl (Qa rfl) rfl (YS C 4 2 3 rfl rfl rfl rfl rfl rfl rfl)
     ·exact Qj rfl rfl (Qa rfl) rfl (Qh C 1 (by kernel_rfl) rfl)
     ·exact Rx rfl rfl (Qa rfl) rfl (Opns.cons (Qc C 0 0 rfl rfl rfl rfl rfl rfl) (Opns.cons (Qc C 1 1 rfl rfl rfl rfl rfl rfl) Opns.nil)) (GC _ _)
     ·exact TK HPRE rfl rfl (Qa rfl) rfl Vc (OpnsS.cons (FM C 2 0 rfl rfl rfl rfl rfl rfl (by kernel_rfl)) OpnsS.nil) ((FW (xv_even hz hev) hx1 hzq (by decide)))
     ·exact Qn rfl rfl (Qa rfl) rfl (Qc C 3 0 rfl rfl rfl rfl rfl rfl)
    intro γ a20 w20 Z20 S20
    replace S20 : AS w 83 [(7,Rt (xv l m)),(8,In (m)),(4,In (0)),(3,Tt ((gA l l.length))),(0,Hi w l)] [] a20 w20 := cast (by kernel_rfl) (S20.keep [0,3,4,7,8])
    clear S19
    refine JJ ?_
    refine Qe ?_
    refine Qi [.pure (In (m)),.pure (In (m - 1)),.pure (In (m - 1))] ⟨S20,by decide +kernel⟩ (by kernel_rfl) (by kernel_rfl) rfl (by kernel_rfl) ?_ ?_
    ·intro C
     refine ASteps.cons ?_ (ASteps.cons ?_ (ASteps.cons ?_ (ASteps.nil)))
     ·exact Qj rfl rfl (Qa rfl) rfl (YS C 2 1 1 rfl rfl rfl rfl rfl rfl rfl)
     ·exact Qz rfl rfl (Qa rfl) rfl (Qc C 0 0 rfl rfl rfl rfl rfl rfl) (Qo _) (UY _ _ _ _ _ _ (Ug (by omega) (by omega)))
     ·exact Qn rfl rfl (Qa rfl) rfl (Qc C 1 0 rfl rfl rfl rfl rfl rfl)
    intro γ a21 w21 Z21 S21
    replace S21 : AS w 83 [(8,In (m - 1)),(7,Rt (xv l m)),(4,In (0)),(3,Tt ((gA l l.length))),(0,Hi w l)] [] a21 w21 := cast (by kernel_rfl) (S21.keep [0,3,4,7,8])
    clear S20
    refine Qe ?_
    refine ⟨⟨(m : Int) - 1,m,⟨by omega,by omega⟩,cast (by kernel_rfl) (S21.keep [8,7,4,3,0])⟩,?_⟩
    show (intOf (a21.tmps.getD 8 undef)+1).toNat < (intOf (a13.tmps.getD 8 undef)+1).toNat
    rw [hM2,show a21.tmps.getD 8 undef=.int .i64 ((m : Int) - 1) from S21.val 0 rfl]
    simp only [intOf]
    omega
   ·
    refine Qi [.pure (In (m)),.pure (In (((m % 2 : Nat) : Int))),.pure (Bo false)] ⟨S18,by decide +kernel⟩ (by kernel_rfl) (by kernel_rfl) rfl (by kernel_rfl) ?_ ?_
    ·intro C
     refine ASteps.cons ?_ (ASteps.cons ?_ (ASteps.cons ?_ (ASteps.nil)))
     ·exact Qj rfl rfl (Qa rfl) rfl (Qh C 1 (by kernel_rfl) rfl)
     ·exact Qz rfl rfl (Qa rfl) rfl (Qc C 0 0 rfl rfl rfl rfl rfl rfl) (Qo _) (Ro _ _ _ _ _ rfl)
     ·exact Qz rfl rfl (Qa rfl) rfl (Qc C 1 0 rfl rfl rfl rfl rfl rfl) (Qo _) (Ya _ _ _ _ _ _ (decide_eq_false h5))
    intro γ a22 w22 Z22 S22
    replace S22 : AS w 83 [(62,Bo false),(9,Rt ((z : Nat) : Rat)),(8,In (m)),(7,Rt (xv l (m+1))),(4,In (0)),(3,Tt ((gA l l.length))),(0,Hi w l)] [] a22 w22 := cast (by kernel_rfl) (S22.keep [0,3,4,7,8,9,62])
    clear S18
    refine Qe ?_
    refine wp_cond_false (S22.val 0 rfl) ?_
    have hev : ¬ m % 2=0 := by omega
    refine Qi [.pure (Rt (((1 : Nat)) : Rat)),.pure (Rt (((1 : Nat)) : Rat)),.pure (Rt (xv l (m+1))),.pure (Rt (((1 : Nat) : Rat) / xv l (m+1))),.pure (Rt ((z : Nat) : Rat)),.soft (Nn 28 2 [Rt (((1 : Nat) : Rat) / xv l (m+1)),Rt ((z : Nat) : Rat)]),.pure (Rt (((1 : Nat) : Rat) / xv l (m+1)+((z : Nat) : Rat))),.pure (Rt (xv l m)),.pure (Rt (xv l m))] ⟨S22,by decide +kernel⟩ (by kernel_rfl) (by kernel_rfl) rfl (by kernel_rfl) ?_ ?_
    ·intro C
     refine ASteps.cons ?_ (ASteps.cons ?_ (ASteps.cons ?_ (ASteps.cons ?_ (ASteps.cons ?_ (ASteps.cons ?_ (ASteps.cons ?_ (ASteps.cons ?_ (ASteps.cons ?_ (ASteps.nil)))))))))
     ·exact Qm HPRE rfl rfl (Qa rfl) rfl Yk (Opns.cons (Qo _) Opns.nil) ((LB 1 (by decide) rfl))
     ·exact Qm HPRE rfl rfl (Qa rfl) rfl Yk (Opns.cons (Qo _) Opns.nil) ((LB 1 (by decide) rfl))
     ·exact Qj rfl rfl (Qa rfl) rfl (YS C 8 4 3 rfl rfl rfl rfl rfl rfl rfl)
     ·exact Qm HPRE rfl rfl (Qa rfl) rfl YX (Opns.cons (Qc C 1 0 rfl rfl rfl rfl rfl rfl) (Opns.cons (Qc C 2 1 rfl rfl rfl rfl rfl rfl) Opns.nil)) ((Mx rfl h1q hx1 (by decide) (NT hall _)))
     ·exact Qj rfl rfl (Qa rfl) rfl (Qh C 1 (by kernel_rfl) rfl)
     ·exact Rx rfl rfl (Qa rfl) rfl (Opns.cons (Qc C 3 0 rfl rfl rfl rfl rfl rfl) (Opns.cons (Qc C 4 1 rfl rfl rfl rfl rfl rfl) Opns.nil)) (GC _ _)
     ·exact TK HPRE rfl rfl (Qa rfl) rfl Vc (OpnsS.cons (FM C 5 0 rfl rfl rfl rfl rfl rfl (by kernel_rfl)) OpnsS.nil) ((FW rfl hx2 hzq (by decide)))
     ·exact Qm HPRE rfl rfl (Qa rfl) rfl YX (Opns.cons (Qc C 0 0 rfl rfl rfl rfl rfl rfl) (Opns.cons (Qc C 6 1 rfl rfl rfl rfl rfl rfl) Opns.nil)) ((Mx (xv_odd hz hev) h1q (QS.add hx2 hzq) (by decide) hsum))
     ·exact Qn rfl rfl (Qa rfl) rfl (Qc C 7 0 rfl rfl rfl rfl rfl rfl)
    intro γ a23 w23 Z23 S23
    replace S23 : AS w 83 [(7,Rt (xv l m)),(8,In (m)),(4,In (0)),(3,Tt ((gA l l.length))),(0,Hi w l)] [] a23 w23 := cast (by kernel_rfl) (S23.keep [0,3,4,7,8])
    clear S22
    refine JJ ?_
    refine Qe ?_
    refine Qi [.pure (In (m)),.pure (In (m - 1)),.pure (In (m - 1))] ⟨S23,by decide +kernel⟩ (by kernel_rfl) (by kernel_rfl) rfl (by kernel_rfl) ?_ ?_
    ·intro C
     refine ASteps.cons ?_ (ASteps.cons ?_ (ASteps.cons ?_ (ASteps.nil)))
     ·exact Qj rfl rfl (Qa rfl) rfl (YS C 2 1 1 rfl rfl rfl rfl rfl rfl rfl)
     ·exact Qz rfl rfl (Qa rfl) rfl (Qc C 0 0 rfl rfl rfl rfl rfl rfl) (Qo _) (UY _ _ _ _ _ _ (Ug (by omega) (by omega)))
     ·exact Qn rfl rfl (Qa rfl) rfl (Qc C 1 0 rfl rfl rfl rfl rfl rfl)
    intro γ a24 w24 Z24 S24
    replace S24 : AS w 83 [(8,In (m - 1)),(7,Rt (xv l m)),(4,In (0)),(3,Tt ((gA l l.length))),(0,Hi w l)] [] a24 w24 := cast (by kernel_rfl) (S24.keep [0,3,4,7,8])
    clear S23
    refine Qe ?_
    refine ⟨⟨(m : Int) - 1,m,⟨by omega,by omega⟩,cast (by kernel_rfl) (S24.keep [8,7,4,3,0])⟩,?_⟩
    show (intOf (a24.tmps.getD 8 undef)+1).toNat < (intOf (a13.tmps.getD 8 undef)+1).toNat
    rw [hM2,show a24.tmps.getD 8 undef=.int .i64 ((m : Int) - 1) from S24.val 0 rfl]
    simp only [intOf]
    omega
  ·
   refine Qi [.pure (In (i)),.pure (Bo false)] ⟨S13,by decide +kernel⟩ (by kernel_rfl) (by kernel_rfl) rfl (by kernel_rfl) ?_ ?_
   ·intro C
    refine ASteps.cons ?_ (ASteps.cons ?_ (ASteps.nil))
    ·exact Qj rfl rfl (Qa rfl) rfl (Qh C 0 (by kernel_rfl) rfl)
    ·exact Qz rfl rfl (Qa rfl) rfl (Qc C 0 0 rfl rfl rfl rfl rfl rfl) (Qo _) (Rp _ _ _ _ _ _ (decide_eq_false h3))
   intro γ a25 w25 Z25 S25
   replace S25 : AS w 83 [(51,Bo false),(8,In (i)),(7,Rt (xv l j)),(4,In (0)),(3,Tt ((gA l l.length))),(0,Hi w l)] [] a25 w25 := cast (by kernel_rfl) (S25.keep [0,3,4,7,8,51])
   clear S13
   refine Qe ?_
   refine wp_cond_false (S25.val 0 rfl) ?_
   refine wp_exit ?_
   refine Xn ?_
   refine Xn ?_
   refine Yp ?_
   refine Qe ?_
   refine wp_seq ?_
   obtain rfl : j=0 := by omega
   have hxq := Bj (fun z hz => ⟨hall z hz,hr z hz⟩) hn 0
   refine Qi [.pure (In (0)),.pure (Bo true),.pure (Bo true),.pure (Tt ((gA l l.length))),.pure (Rt (xv l 0)),.pure (Tt ((xv l 0))),.pure (Bo true),.pure (Bo true),.pure (Bo true)] ⟨S25,by decide +kernel⟩ (by kernel_rfl) (by kernel_rfl) rfl (by kernel_rfl) ?_ ?_
   ·intro C
    refine ASteps.cons ?_ (ASteps.cons ?_ (ASteps.cons ?_ (ASteps.cons ?_ (ASteps.cons ?_ (ASteps.cons ?_ (ASteps.cons ?_ (ASteps.cons ?_ (ASteps.cons ?_ (ASteps.nil)))))))))
    ·exact Qj rfl rfl (Qa rfl) rfl (Qh C 3 (by kernel_rfl) rfl)
    ·exact Qz rfl rfl (Qa rfl) rfl (Qc C 0 0 rfl rfl rfl rfl rfl rfl) (Qo _) (Ya _ _ _ _ _ _ rfl)
    ·exact Qj rfl rfl (Qa rfl) rfl (Qc C 1 0 rfl rfl rfl rfl rfl rfl)
    ·exact Qj rfl rfl (QY C 2 0 true rfl rfl rfl rfl rfl rfl rfl) rfl (Qh C 4 (by kernel_rfl) rfl)
    ·exact Qj rfl rfl (QY C 2 0 true rfl rfl rfl rfl rfl rfl rfl) rfl (Qh C 2 (by kernel_rfl) rfl)
    ·exact Qm HPRE rfl rfl (QY C 2 1 true rfl rfl rfl rfl rfl rfl rfl) rfl RY (Opns.cons (Qc C 4 0 rfl rfl rfl rfl rfl rfl) Opns.nil) ((con_T hxq (by decide)))
    ·exact Ec (Ai hall).symm rfl rfl (QY C 2 2 true rfl rfl rfl rfl rfl rfl rfl) rfl (Qc C 3 0 rfl rfl rfl rfl rfl rfl) (Qc C 5 1 rfl rfl rfl rfl rfl rfl)
    ·exact JB true rfl rfl (Qa rfl) rfl (Qc C 2 0 rfl rfl rfl rfl rfl rfl) (Qc C 6 1 rfl rfl rfl rfl rfl rfl)
    ·exact Qn rfl rfl (Qa rfl) rfl (Qc C 7 0 rfl rfl rfl rfl rfl rfl)
   intro γ a26 w26 Z26 S26
   replace S26 : AS w 83 [(2,Bo true)] [] a26 w26 := cast (by kernel_rfl) (S26.keep [2])
   clear S25
   refine Qe ?_
   refine wp_ret ?_
   exact S26.ret 0 rfl rfl fun v hv => ⟨S26.bel,by rw [show v=_ from hv]⟩
theorem gs_walk {w : World} {v0 : Value} {l : List Int} (hl : (Hi w l).on v0 w) (hr : ∀ z ∈ l,z < 9223372036854775808) (hp : QT w) : Calls Tryz.prog 3 #[v0] w fun e w' => Below w.heap.size w w'∧e=.returned (.bool true) := by
 by_cases hn : l.length≤60
 ·by_cases hneg : ∃ z ∈ l,z < 0
  ·exact gs_neg hl hr hn hneg hp
  ·exact gs_ok hl hr hn (fun z hz => by
    by_cases h : 0≤z
    ·exact h
    ·exact absurd ⟨z,hz,by omega⟩ hneg) hp
 ·exact AG hl (by omega) hp
end Go.Proofs.YthhnabccdehmgaaGreatDoor
