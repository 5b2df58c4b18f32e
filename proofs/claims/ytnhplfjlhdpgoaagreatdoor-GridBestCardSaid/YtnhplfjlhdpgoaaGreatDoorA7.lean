/- Part 7 of the walks and of the mathematics under them: BM ZWA VR ZWB ZWC WC WE WF TA TB ShelfB TC TD TE TF TG TH WG VU NQA. -/
import Derived.Test.YtnhplfjlhdpgoaaGreatDoorA6
import Derived.Test.YtnhplfjlhdpgoaaGreatDoorA1
import Derived.BigCall
import Derived.Test.YtnhplfjlhdpgoaaGreatDoorASh
import Derived.Lib.IndexLaws
import Derived.Lib.ItoaMem
import Derived.Lib.OthersKept
set_option maxHeartbeats 16000000
set_option maxRecDepth 100000
/- BM -/
namespace Go.Proofs.YtnhplfjlhdpgoaaGreatDoor
open Go.RowKit Cx
attribute [local go_sem ↓] Go.wp_at_zero Go.wp_at_succ
structure Save (g : Nat) (w w' : World) : Prop where
 os : w'.os=w.os
 tape : w'.tape=w.tape
 output : w'.output=w.output
 size : w.heap.size≤w'.heap.size
 block : ∀ k,k < w.heap.size→k ≠ g→w'.heap[k]? = w.heap[k]?
theorem Save.of {g : Nat} {w w' : World} (h : Below w.heap.size w w') : Save g w w' := ⟨h.os,h.tape,h.output,h.size,fun k hk _ => h.block k hk⟩
theorem Save.trans {g : Nat} {a b c : World} (h : Save g a b) (k : Save g b c) : Save g a c :=
 ⟨k.os.trans h.os,k.tape.trans h.tape,k.output.trans h.output,Nat.le_trans h.size k.size,fun i hi hne => (k.block i (Nat.lt_of_lt_of_le hi h.size) hne).trans (h.block i hi hne)⟩
theorem Save.set {g : Nat} {a w : World} (h : Save g a w) (j : Nat) (x : Value) : Save g a (w.setCell ⟨g,j,none⟩ x) := by
 have h0 : Below g w (w.setCell ⟨g,j,none⟩ x) := Below.set (Below.refl _ _) (Nat.le_refl _) j x
 exact ⟨h0.os.trans h.os,h0.tape.trans h.tape,h0.output.trans h.output,Nat.le_trans h.size h0.size,fun k hk hne => (Below.heap_setCell _ _ _ _ (by exact hne)).trans (h.block k hk hne)⟩
theorem Save.below {g B : Nat} {w w' : World} (h : Save g w w') (hB : B≤g) (hs : B≤w.heap.size) : Below B w w' := ⟨h.os,h.tape,h.output,h.size,fun k hk => h.block k (by omega) (by omega)⟩
theorem Save.cell {g : Nat} {w w' : World} (h : Save g w w') {p : Addr} (hp : p.block < w.heap.size) (hne : p.block ≠ g) : w'.cell? p=w.cell? p := by
 simp [World.cell?,h.block p.block hp hne]
theorem Save.blk {g g' : Nat} {w w' : World} {cs : Array Value} {t : TypeId} (h : Save g w w') (hb : Blk w g' cs t) (hne : g' ≠ g) : Blk w' g' cs t := (h.block g' hb.lt hne).trans hb
theorem NatN.save {w w' : World} {v : Value} {n g : Nat} (h : NatN w v n) (hh : YU w g) (hs : Save g w w') : NatN w' v n := by
 obtain ⟨l,⟨hl,⟨rfl,ao,cap,rfl⟩ | ⟨b,off,cap,rfl,hc,hm,hlt,hseg⟩⟩,t,rfl⟩ := h
 ·exact ⟨[],NatV.nil _ _ _,t,rfl⟩
 ·by_cases h0 : l.length=0
  ·have := List.length_eq_zero_iff.1 h0
   subst this
   exact ⟨[],NatV.nil _ _ _,t,rfl⟩
  ·have hne : b ≠ g := by
    rintro rfl
    obtain ⟨cs,t',hb,hno⟩ := hh
    have h1 := hseg 0 (by omega)
    rw [Nat.add_zero,hb.cell off] at h1
    exact (Yv hno) off _ h1
   refine ⟨l,⟨hl,Or.inr ⟨b,off,cap,rfl,hc,hm,Nat.lt_of_lt_of_le hlt hs.size,fun j hj => ?_⟩⟩,t,rfl⟩
   rw [hs.cell (p := ⟨b,off+j,none⟩) hlt hne]
   exact hseg j hj
def RV (w : World) (g : Nat) (q : Rat) : Prop :=
 ∃ a1 l1 c1 a2 l2 c2,Blk w g #[.bool (decide (q.num < 0)),.slice a1 l1 c1,.bool false,.slice a2 l2 c2] 35∧NatN w (.slice a1 l1 c1) q.num.natAbs∧(NatN w (.slice a2 l2 c2) q.den ∨ (l2=0∧q=0))
theorem RV.held {w : World} {g : Nat} {q : Rat} (h : RV w g q) : YU w g := by
 obtain ⟨a1,l1,c1,a2,l2,c2,hb,_⟩ := h
 exact ⟨_,_,hb,by simp [Qm]⟩
theorem RV.below {w w' : World} {g : Nat} {q : Rat} (h : RV w g q) (hb : Below w.heap.size w w') : RV w' g q := by
 obtain ⟨a1,l1,c1,a2,l2,c2,h0,h1,h2⟩ := h
 refine ⟨a1,l1,c1,a2,l2,c2,h0.below hb h0.lt,h1.below hb,?_⟩
 rcases h2 with h2 | h2
 ·exact Or.inl (h2.below hb)
 ·exact Or.inr h2
theorem RV.lt {w : World} {g : Nat} {q : Rat} (h : RV w g q) : g < w.heap.size := by
 obtain ⟨a1,l1,c1,a2,l2,c2,h0,_⟩ := h
 exact h0.lt
theorem RV.num {w : World} {g : Nat} {q : Rat} (h : RV w g q) : IV w (.pointer (some ⟨g,0,none⟩)) q.num := by
 obtain ⟨a1,l1,c1,a2,l2,c2,h0,h1,_⟩ := h
 exact ⟨g,0,a1,l1,c1,rfl,h0.cell 0,h0.cell 1,h1,h0.lt⟩
theorem RV.save {w w' : World} {g g' : Nat} {q : Rat} (h : RV w g' q) (hne : g' ≠ g) (hh : YU w g) (hs : Save g w w') : RV w' g' q := by
 obtain ⟨a1,l1,c1,a2,l2,c2,h0,h1,h2⟩ := h
 refine ⟨a1,l1,c1,a2,l2,c2,hs.blk h0 hne,h1.save hh hs,?_⟩
 rcases h2 with h2 | h2
 ·exact Or.inl (h2.save hh hs)
 ·exact Or.inr h2
theorem ZR {w : World} {g : Nat} {q : Rat} (h : RV w g q) :
  Calls Tryz.prog 42 #[.pointer (some ⟨g,0,none⟩)] w fun e w' => Below w.heap.size w w'∧∃ p,e=.returned p∧IV w' p q.den∧∀ g',g' ≠ g→g' < w.heap.size→YX p g' := by
 obtain ⟨a1,l1,c1,a2,l2,c2,h0,h1,h2⟩ := h
 have HK := Qb h0
 obtain ⟨x0,x1,x2,x3⟩ : w.cell? ⟨g,0,none⟩=_∧w.cell? ⟨g,1,none⟩=_∧w.cell? ⟨g,2,none⟩=_∧w.cell? ⟨g,3,none⟩=_ := ⟨h0.cell 0,h0.cell 1,h0.cell 2,h0.cell 3⟩
 by_cases hl : l2=0
 ·have hd : q.den=1 := by
   rcases h2 with h2 | ⟨_,rfl⟩
   ·exfalso
    obtain ⟨_,_,_,e,_,_,hz⟩ := Zf h2
    cases e
    exact q.den_nz (hz.1 hl)
   ·rfl
  subst hl
  have HD := Qb hd
  clear h1 h2 hd h0
  go_enter Tryz.func42,Tryz.ntmps42
  go_wp2_with fail
  refine (Jq 1 (by decide) w).mono ?_
  rintro e w1 ⟨hb1,g1,rfl,hg1,ho⟩
  have HO := Qb ho
  have HB := Qb hb1
  clear ho hb1
  go_wp2
  go_ret
  refine ⟨HB.out,_,rfl,?_,fun g' _ hlt g2 o2 t e => ?_⟩
  ·rw [HD.out]
   exact HO.out.iv
  ·cases e
   omega
 ·have hden : NatN w (.slice a2 l2 c2) q.den := by
   rcases h2 with h2 | ⟨h,_⟩
   ·exact h2
   ·exact absurd h hl
  have HD := Qb hden
  have hne : ((l2 : Int) == 0)=false := beq_eq_false_iff_ne.mpr (by omega)
  clear h1 h2 hden h0
  go_enter Tryz.func42,Tryz.ntmps42
  go_wp2
  go_ret
  refine ⟨Below.refl _ _,_,rfl,⟨g,2,a2,l2,c2,rfl,?_,HK.out.cell 3,HD.out,HK.out.lt⟩,fun g' hne _ g2 o2 t e => ?_⟩
  ·rw [show decide ((q.den : Int) < 0)=false by simp]
   exact HK.out.cell 2
  ·cases e
   exact fun h => hne h.symm
end Go.Proofs.YtnhplfjlhdpgoaaGreatDoor
/- ZWA -/
namespace Go.Proofs.YtnhplfjlhdpgoaaGreatDoor
open Go.RowKit Cx
def PK (t : TypeId) : Bool := !(Nat.beq t 35 || Nat.beq t 33)
def Boxed (w : World) (k : Nat) : Prop := ∃ cs t,Blk w k cs t∧PK t=true∧cs.all Qm=true
structure Grows (w w' : World) : Prop where
 size : w.heap.size≤w'.heap.size
 block : ∀ k,k < w.heap.size→¬ Boxed w k→w'.heap[k]? = w.heap[k]?
theorem Boxed.of {w w' : World} {k : Nat} (e : w'.heap[k]? = w.heap[k]?) (h : Boxed w' k) : Boxed w k := by
 obtain ⟨cs,t,h1,h2,h3⟩ := h
 exact ⟨cs,t,e.symm.trans h1,h2,h3⟩
theorem Grows.trans {a b c : World} (h : Grows a b) (k : Grows b c) : Grows a c :=
 ⟨Nat.le_trans h.size k.size,fun i hi hn => by
  have e := h.block i hi hn
  exact (k.block i (Nat.lt_of_lt_of_le hi h.size) (fun q => hn (q.of e))).trans e⟩
theorem Grows.of {w w' : World} (h : Below w.heap.size w w') : Grows w w' := ⟨h.size,fun k hk _ => h.block k hk⟩
theorem Grows.save {w w' : World} {G : Nat} (h : Save G w w') (hb : Boxed w G) : Grows w w' :=
 ⟨h.size,fun k hk hn => h.block k hk (fun e => hn (e ▸ hb))⟩
structure Fact where
 on : Value→World→Prop
 st : ∀ {v : Value} {w w' : World},Grows w w'→on v w→on v w'
def Jus (X : Value) : Fact := ⟨fun v _ => v=X,fun _ h => h⟩
def Any : Fact := ⟨fun _ _ => True,fun _ h => h⟩
def All2 (w : World) : List Fact→List Value→Prop
 | [],[] => True
 | F :: Fs,v :: vs => F.on v w∧All2 w Fs vs
 | _,_ => False
theorem All2.st {w w' : World} (hg : Grows w w') : ∀ {Fs : List Fact} {vs : List Value},All2 w Fs vs→All2 w' Fs vs
 | [],[],_ => trivial
 | F :: _,_ :: _,h => ⟨F.st hg h.1,All2.st hg h.2⟩
 | [],_ :: _,h => h.elim
 | _ :: _,[],h => h.elim
theorem All2.len {w : World} : ∀ {Fs : List Fact} {vs : List Value},All2 w Fs vs→vs.length=Fs.length
 | [],[],_ => rfl
 | _ :: _,_ :: _,h => congrArg (· + 1) (All2.len h.2)
 | [],_ :: _,h => h.elim
 | _ :: _,[],h => h.elim
theorem All2.get {w : World} : ∀ {Fs : List Fact} {vs : List Value} {k : Nat} {F : Fact},All2 w Fs vs→Fs[k]? = some F→∃ v,vs[k]? = some v∧F.on v w
 | [],_,_,_,_,h => by simp at h
 | _ :: _,[],_,_,h,_ => h.elim
 | F :: Fs,v :: vs,0,F',h,e => by
  have : F=F' := by simpa using e
  subst this
  exact ⟨v,rfl,h.1⟩
 | F :: Fs,v :: vs,k+1,F',h,e => by
  have : Fs[k]? = some F' := by simpa using e
  obtain ⟨u,hu,hF⟩ := All2.get h.2 this
  exact ⟨u,by simpa using hu,hF⟩
def Tup (Fs : List Fact) : Fact := ⟨fun v w => ∃ cs : List Value,v=.tuple cs.toArray∧All2 w Fs cs,fun hg ⟨cs,e,h⟩ => ⟨cs,e,h.st hg⟩⟩
def BoxIs (w : World) (G : Nat) (t : TypeId) (F : Fact) : Prop := ∃ cs : List Value,Blk w G cs.toArray t∧F.on (.agg cs.toArray) w∧cs.toArray.all Qm=true∧cs.length=Tryz.prog.cellsOf t
theorem BoxIs.boxed {w : World} {G : Nat} {t : TypeId} {F : Fact} (h : BoxIs w G t F) (ht : PK t=true) : Boxed w G := by
 obtain ⟨cs,h1,_,h3,_⟩ := h
 exact ⟨_,t,h1,ht,h3⟩
theorem BoxIs.lt {w : World} {G : Nat} {t : TypeId} {F : Fact} (h : BoxIs w G t F) : G < w.heap.size := by
 obtain ⟨cs,h1,_⟩ := h
 exact h1.lt
theorem BoxIs.below {w w' : World} {G : Nat} {t : TypeId} {F : Fact} (h : BoxIs w G t F) (hb : Below w.heap.size w w') : BoxIs w' G t F := by
 obtain ⟨cs,h1,h2,h3,h4⟩ := h
 exact ⟨cs,h1.below hb h1.lt,F.st (Grows.of hb) h2,h3,h4⟩
theorem BoxIs.save {w w' : World} {G G' : Nat} {t : TypeId} {F : Fact} (h : BoxIs w G t F) (hs : Save G' w w') (hb : Boxed w G') (hne : G ≠ G') : BoxIs w' G t F := by
 obtain ⟨cs,h1,h2,h3,h4⟩ := h
 exact ⟨cs,hs.blk h1 hne,F.st (Grows.save hs hb) h2,h3,h4⟩
structure AS (w0 : World) (n : Nat) (tm : List (Nat × Fact)) (bx : List (Nat × TypeId × Fact)) (a : Act) (w : World) : Prop where
 bel : Below w0.heap.size w0 w
 siz : a.tmps.size=n
 nod : a.defers=[]
 tmp : ∀ t F,(t,F) ∈ tm→F.on (a.tmps.getD t undef) w
 box : ∀ (k G : Nat) (t : TypeId) (Fs : Fact),bx[k]? = some (G,t,Fs)→w0.heap.size≤G∧BoxIs w G t Fs
 dis : (bx.map (·.1)).Nodup
structure Beh (bx : List (Nat × TypeId × Fact)) (w w' : World) : Prop where
 gro : Grows w w'
 frm : ∀ g,g < w.heap.size→(∀ x ∈ bx,x.1 ≠ g)→w'.heap[g]? = w.heap[g]?
structure Soft where
 on : Value→World→Prop
 st : ∀ {v : Value} {w w' : World},Below w.heap.size w w'→on v w→on v w'
abbrev Plan := Sum Fact (Sum Soft (Sum (TypeId × Fact) (Sum (Nat × Fact) (Sum (Nat × Fact) Unit))))
abbrev Plan.pure (F : Fact) : Plan := Sum.inl F
abbrev Plan.soft (S : Soft) : Plan := Sum.inr (Sum.inl S)
abbrev Plan.alloc (t : TypeId) (Fs : Fact) : Plan := Sum.inr (Sum.inr (Sum.inl (t,Fs)))
abbrev Plan.fill (a : Nat) (Fs : Fact) : Plan := Sum.inr (Sum.inr (Sum.inr (Sum.inl (a,Fs))))
abbrev Plan.over (k : Nat) (Fs : Fact) : Plan := Sum.inr (Sum.inr (Sum.inr (Sum.inr (Sum.inl (k,Fs)))))
abbrev Plan.skip : Plan := Sum.inr (Sum.inr (Sum.inr (Sum.inr (Sum.inr ()))))
def Plan.writes : Plan→Bool
 | Sum.inr (Sum.inr (Sum.inr (Sum.inl _))) => true
 | Sum.inr (Sum.inr (Sum.inr (Sum.inr (Sum.inl _)))) => true
 | _ => false
section
variable (w0 : World) (n : Nat) (tm : List (Nat × Fact)) (bx : List (Nat × TypeId × Fact)) (a0 : Act) (wr : World) (os : List Oper) (pl : List Plan)
structure RInv (d : Nat→Prop) (τ : Nat→Value) (w : World) : Prop where
 bel : Below w0.heap.size w0 w
 gro : Grows wr w
 frm : ∀ g,g < wr.heap.size→(∀ x ∈ bx,x.1 ≠ g)→w.heap[g]? = wr.heap[g]?
 dwn : ∀ i o,os[i]? = some o→d i→∀ e ∈ o.after,Region.binds .any e=true→d e.on
 und : ∀ i o t,os[i]? = some o→o.dst=some t→¬ d i→τ i=a0.tmps.getD t undef
 pur : ∀ i F,pl[i]? = some (.pure F)→d i→F.on (τ i) w
 sof : ∀ i F,pl[i]? = some (.soft F)→d i→(∀ (s : Nat) (p : Plan),pl[s]? = some p→p.writes=true→¬ d s)→F.on (τ i) w
 alo : ∀ i t Fs,pl[i]? = some (.alloc t Fs)→d i→∃ G,τ i=.pointer (some ⟨G,0,none⟩)∧wr.heap.size≤G∧G < w.heap.size ∧
  ((∀ s Fs',pl[s]? = some (.fill i Fs')→¬ d s)→BoxIs w G t Fs)∧(∀ s Fs',pl[s]? = some (.fill i Fs')→d s→BoxIs w G t Fs')
 box : ∀ (k G : Nat) (t : TypeId) (Fs : Fact),bx[k]? = some (G,t,Fs)→((∀ s Fs',pl[s]? = some (.over k Fs')→¬ d s)→BoxIs w G t Fs)∧(∀ s Fs',pl[s]? = some (.over k Fs')→d s→BoxIs w G t Fs')
 inj : ∀ i j ti Fi tj Fj,pl[i]? = some (.alloc ti Fi)→pl[j]? = some (.alloc tj Fj)→d i→d j→τ i=τ j→i=j
end
section
variable {w0 : World} {n : Nat} {tm : List (Nat × Fact)} {bx : List (Nat × TypeId × Fact)} {a0 : Act} {wr : World} {os : List Oper} {pl : List Plan}
theorem RInv.init {w : World} (h : AS w0 n tm bx a0 wr) (hw : Below wr.heap.size wr w) : RInv w0 bx a0 wr os pl (fun _ => False) (ZJ a0 os) w where
 bel := h.bel.trans (hw.mono h.bel.size)
 gro := Grows.of hw
 frm := fun g hg _ => hw.block g hg
 dwn := fun _ _ _ q => q.elim
 und := fun i o t ho ht _ => by simp [ZJ,ho,ht]
 pur := fun _ _ _ q => q.elim
 sof := fun _ _ _ q => q.elim
 alo := fun _ _ _ _ q => q.elim
 box := fun k G t Fs hm => ⟨fun _ => (h.box k G t Fs hm).2.below hw,fun _ _ _ q => q.elim⟩
 inj := fun _ _ _ _ _ _ _ _ q => q.elim
theorem RInv.pure {d : Nat→Prop} {τ : Nat→Value} {w w' : World} {i : Nat} {o : Oper} {p : Plan} {v : Value} (h : RInv w0 bx a0 wr os pl d τ w) (ho : os[i]? = some o) (hd : ∀ e ∈ o.after,Region.binds .any e=true→d e.on)
  (hp : pl[i]? = some p) (hk : (∃ F,p=.pure F∧F.on v w') ∨ (∃ F,p=.soft F∧F.on v w') ∨ p=.skip) (hb : Below w.heap.size w w') : RInv w0 bx a0 wr os pl (fun j => j=i ∨ d j) (Ya τ i v) w' where
 bel := h.bel.trans (hb.mono h.bel.size)
 gro := h.gro.trans (Grows.of hb)
 frm := fun g hg hn => (hb.block g (Nat.lt_of_lt_of_le hg h.gro.size)).trans (h.frm g hg hn)
 dwn := fun j o' hj q e he hbi => by
  rcases q with rfl | q
  ·rw [ho] at hj
   cases hj
   exact Or.inr (hd e he hbi)
  ·exact Or.inr (h.dwn j o' hj q e he hbi)
 und := fun j o' t hj ht q => by
  rw [QQ _ _ (fun e => q (Or.inl e))]
  exact h.und j o' t hj ht (fun q' => q (Or.inr q'))
 pur := fun j F hj q => by
  by_cases e : j=i
  ·subst e
   rw [YG]
   rw [hp] at hj
   cases hj
   rcases hk with ⟨F',e,hF⟩ | ⟨F',e,_⟩ | e
   ·cases e
    exact hF
   ·cases e
   ·cases e
  ·rw [QQ _ _ e]
   exact F.st (Grows.of hb) (h.pur j F hj (q.resolve_left e))
 sof := fun j F hj q hs => by
  by_cases e : j=i
  ·subst e
   rw [YG]
   rw [hp] at hj
   cases hj
   rcases hk with ⟨F',e,_⟩ | ⟨F',e,hF⟩ | e
   ·cases e
   ·cases e
    exact hF
   ·cases e
  ·rw [QQ _ _ e]
   exact F.st hb (h.sof j F hj (q.resolve_left e) fun s p h1 h2 h3 => hs s p h1 h2 (Or.inr h3))
 alo := fun j t Fs hj q => by
  by_cases e : j=i
  ·subst e
   rw [hp] at hj
   cases hj
   rcases hk with ⟨F',e,_⟩ | ⟨F',e,_⟩ | e <;> cases e
  ·rw [QQ _ _ e]
   obtain ⟨G,h1,h2,h3,h4,h5⟩ := h.alo j t Fs hj (q.resolve_left e)
   refine ⟨G,h1,h2,Nat.lt_of_lt_of_le h3 hb.size,fun hn => (h4 fun s Fs' hs q' => hn s Fs' hs (Or.inr q')).below hb,fun s Fs' hs q' => ?_⟩
   rcases q' with rfl | q'
   ·rw [hp] at hs
    cases hs
    rcases hk with ⟨F',e,_⟩ | ⟨F',e,_⟩ | e <;> cases e
   ·exact (h5 s Fs' hs q').below hb
 box := fun k G t Fs hm => by
  obtain ⟨h4,h5⟩ := h.box k G t Fs hm
  refine ⟨fun hn => (h4 fun s Fs' hs q' => hn s Fs' hs (Or.inr q')).below hb,fun s Fs' hs q' => ?_⟩
  rcases q' with rfl | q'
  ·rw [hp] at hs
   cases hs
   rcases hk with ⟨F',e,_⟩ | ⟨F',e,_⟩ | e <;> cases e
  ·exact (h5 s Fs' hs q').below hb
 inj := fun x y tx Fx ty Fy hx hy qx qy e => by
  have nx : x ≠ i := fun e => by
   subst e
   rw [hp] at hx
   cases hx
   rcases hk with ⟨F',e,_⟩ | ⟨F',e,_⟩ | e <;> cases e
  have ny : y ≠ i := fun e => by
   subst e
   rw [hp] at hy
   cases hy
   rcases hk with ⟨F',e,_⟩ | ⟨F',e,_⟩ | e <;> cases e
  rw [QQ _ _ nx,QQ _ _ ny] at e
  exact h.inj x y tx Fx ty Fy hx hy (qx.resolve_left nx) (qy.resolve_left ny) e
theorem RInv.alloc {d : Nat→Prop} {τ : Nat→Value} {w w' : World} {i : Nat} {o : Oper} {t : TypeId} {Fs : Fact} (h : RInv w0 bx a0 wr os pl d τ w) (ho : os[i]? = some o) (hd : ∀ e ∈ o.after,Region.binds .any e=true→d e.on)
  (hf : ∀ s Fs',pl[s]? = some (.fill i Fs')→¬ d s) (hi : ¬ d i)
  (hp : pl[i]? = some (.alloc t Fs)) (hb : Below w.heap.size w w') (hB : BoxIs w' w.heap.size t Fs) : RInv w0 bx a0 wr os pl (fun j => j=i ∨ d j) (Ya τ i (.pointer (some ⟨w.heap.size,0,none⟩))) w' where
 bel := h.bel.trans (hb.mono h.bel.size)
 gro := h.gro.trans (Grows.of hb)
 frm := fun g hg hn => (hb.block g (Nat.lt_of_lt_of_le hg h.gro.size)).trans (h.frm g hg hn)
 dwn := fun j o' hj q e he hbi => by
  rcases q with rfl | q
  ·rw [ho] at hj
   cases hj
   exact Or.inr (hd e he hbi)
  ·exact Or.inr (h.dwn j o' hj q e he hbi)
 und := fun j o' t hj ht q => by
  rw [QQ _ _ (fun e => q (Or.inl e))]
  exact h.und j o' t hj ht (fun q' => q (Or.inr q'))
 pur := fun j F hj q => by
  by_cases e : j=i
  ·subst e
   rw [hp] at hj
   cases hj
  ·rw [QQ _ _ e]
   exact F.st (Grows.of hb) (h.pur j F hj (q.resolve_left e))
 sof := fun j F hj q hs => by
  by_cases e : j=i
  ·subst e
   rw [hp] at hj
   cases hj
  ·rw [QQ _ _ e]
   exact F.st hb (h.sof j F hj (q.resolve_left e) fun s p h1 h2 h3 => hs s p h1 h2 (Or.inr h3))
 alo := fun j t' Fs' hj q => by
  by_cases e : j=i
  ·subst e
   rw [hp] at hj
   cases hj
   rw [YG]
   refine ⟨_,rfl,h.gro.size,hB.lt,fun _ => hB,fun s Fs' hs q' => ?_⟩
   rcases q' with rfl | q'
   ·rw [hp] at hs; cases hs
   ·exact absurd q' (hf s Fs' hs)
  ·rw [QQ _ _ e]
   obtain ⟨G,h1,h2,h3,h4,h5⟩ := h.alo j t' Fs' hj (q.resolve_left e)
   refine ⟨G,h1,h2,Nat.lt_of_lt_of_le h3 hb.size,fun hn => (h4 fun s Fs' hs q' => hn s Fs' hs (Or.inr q')).below hb,fun s Fs' hs q' => ?_⟩
   rcases q' with rfl | q'
   ·rw [hp] at hs; cases hs
   ·exact (h5 s Fs' hs q').below hb
 box := fun k G t Fs hm => by
  obtain ⟨h4,h5⟩ := h.box k G t Fs hm
  refine ⟨fun hn => (h4 fun s Fs' hs q' => hn s Fs' hs (Or.inr q')).below hb,fun s Fs' hs q' => ?_⟩
  rcases q' with rfl | q'
  ·rw [hp] at hs; cases hs
  ·exact (h5 s Fs' hs q').below hb
 inj := fun x y tx Fx ty Fy hx hy qx qy e => by
  by_cases ex : x=i
  ·by_cases ey : y=i
   ·rw [ex,ey]
   ·rw [ex,YG,QQ _ _ ey] at e
    obtain ⟨G,h1,_,h3,_⟩ := h.alo y ty Fy hy (qy.resolve_left ey)
    rw [h1] at e
    simp at e
    all_goals omega
  ·by_cases ey : y=i
   ·rw [ey,YG,QQ _ _ ex] at e
    obtain ⟨G,h1,_,h3,_⟩ := h.alo x tx Fx hx (qx.resolve_left ex)
    rw [h1] at e
    simp at e
    all_goals omega
   ·rw [QQ _ _ ex,QQ _ _ ey] at e
    exact h.inj x y tx Fx ty Fy hx hy (qx.resolve_left ex) (qy.resolve_left ey) e
theorem RInv.fill {d : Nat→Prop} {τ : Nat→Value} {w w' : World} {i a G : Nat} {o : Oper} {t : TypeId} {Fs Fs0 : Fact} {v : Value} (h : RInv w0 bx a0 wr os pl d τ w) (has : AS w0 n tm bx a0 wr) (ho : os[i]? = some o) (hd : ∀ e ∈ o.after,Region.binds .any e=true→d e.on)
  (hp : pl[i]? = some (.fill a Fs)) (ha : pl[a]? = some (.alloc t Fs0)) (hda : d a) (hG : τ a=.pointer (some ⟨G,0,none⟩)) (hone : ∀ s Fs',pl[s]? = some (.fill a Fs')→s=i)
  (hs : Save G w w') (hbx : Boxed w G) (hB : BoxIs w' G t Fs) : RInv w0 bx a0 wr os pl (fun j => j=i ∨ d j) (Ya τ i v) w' := by
 obtain ⟨G',e',hge,hlt,_,_⟩ := h.alo a t Fs0 ha hda
 rw [hG] at e'
 cases e'
 have hgr := Grows.save hs hbx
 have hne : i ≠ a := fun e => by subst e; rw [hp] at ha; cases ha
 exact {
  bel := h.bel.trans (hs.below (Nat.le_trans has.bel.size hge) h.bel.size)
  gro := h.gro.trans hgr
  frm := fun g hg hn => (hs.block g (Nat.lt_of_lt_of_le hg h.gro.size) (by omega)).trans (h.frm g hg hn)
  dwn := fun j o' hj q e he hbi => by
   rcases q with rfl | q
   ·rw [ho] at hj
    cases hj
    exact Or.inr (hd e he hbi)
   ·exact Or.inr (h.dwn j o' hj q e he hbi)
  und := fun j o' t hj ht q => by
   rw [QQ _ _ (fun e => q (Or.inl e))]
   exact h.und j o' t hj ht (fun q' => q (Or.inr q'))
  pur := fun j F hj q => by
   by_cases e : j=i
   ·subst e
    rw [hp] at hj
    cases hj
   ·rw [QQ _ _ e]
    exact F.st hgr (h.pur j F hj (q.resolve_left e))
  sof := fun j F hj q hs => absurd (Or.inl rfl) (hs i _ hp rfl)
  alo := fun j t' Fs' hj q => by
   have e : j ≠ i := fun e => by subst e; rw [hp] at hj; cases hj
   rw [QQ _ _ e]
   obtain ⟨G',h1,h2,h3,h4,h5⟩ := h.alo j t' Fs' hj (q.resolve_left e)
   refine ⟨G',h1,h2,Nat.lt_of_lt_of_le h3 hs.size,fun hn => ?_,fun s Fs'' hs' q' => ?_⟩
   ·by_cases hja : j=a
    ·subst hja
     exact absurd (Or.inl rfl) (hn i Fs hp)
    ·have hGG : G' ≠ G := fun e => hja (h.inj j a _ _ _ _ hj ha (q.resolve_left ‹_›) hda (by rw [h1,hG,e]))
     exact (h4 fun s Fs' hs q' => hn s Fs' hs (Or.inr q')).save hs hbx hGG
   ·by_cases hja : j=a
    ·subst hja
     have := hone s Fs'' hs'
     subst this
     rw [hp] at hs'
     cases hs'
     rw [ha] at hj
     cases hj
     rw [hG] at h1
     cases h1
     exact hB
    ·have hGG : G' ≠ G := fun e => hja (h.inj j a _ _ _ _ hj ha (q.resolve_left ‹_›) hda (by rw [h1,hG,e]))
     rcases q' with rfl | q'
     ·rw [hp] at hs'
      cases hs'
      exact absurd rfl hja
     ·exact (h5 s Fs'' hs' q').save hs hbx hGG
  box := fun k G' t' Fs' hm => by
   obtain ⟨h4,h5⟩ := h.box k G' t' Fs' hm
   have hGG : G' ≠ G := fun e => by
    have := (has.box k G' t' Fs' hm).2.lt
    omega
   refine ⟨fun hn => (h4 fun s Fs' hs q' => hn s Fs' hs (Or.inr q')).save hs hbx hGG,fun s Fs' hs' q' => ?_⟩
   rcases q' with rfl | q'
   ·rw [hp] at hs'; cases hs'
   ·exact (h5 s Fs' hs' q').save hs hbx hGG
  inj := fun x y tx Fx ty Fy hx hy qx qy e => by
   have nx : x ≠ i := fun e => by subst e; rw [hp] at hx; cases hx
   have ny : y ≠ i := fun e => by subst e; rw [hp] at hy; cases hy
   rw [QQ _ _ nx,QQ _ _ ny] at e
   exact h.inj x y tx Fx ty Fy hx hy (qx.resolve_left nx) (qy.resolve_left ny) e }
theorem NG {bx : List (Nat × TypeId × Fact)} (h : (bx.map (·.1)).Nodup) {i j G : Nat} {t t' : TypeId} {Fs Fs' : Fact} (h1 : bx[i]? = some (G,t,Fs)) (h2 : bx[j]? = some (G,t',Fs')) : i=j := by
 have hi : i < (bx.map (·.1)).length := by
  rw [List.length_map]
  exact (List.getElem?_eq_some_iff.1 h1).1
 exact (List.getElem?_inj hi h).1 (by rw [List.getElem?_map,List.getElem?_map,h1,h2]; rfl)
theorem RInv.over {d : Nat→Prop} {τ : Nat→Value} {w w' : World} {i k G : Nat} {o : Oper} {t : TypeId} {Fs Fs0 : Fact} {v : Value} (h : RInv w0 bx a0 wr os pl d τ w) (has : AS w0 n tm bx a0 wr) (ho : os[i]? = some o) (hd : ∀ e ∈ o.after,Region.binds .any e=true→d e.on)
  (hp : pl[i]? = some (.over k Fs)) (ha : bx[k]? = some (G,t,Fs0)) (hone : ∀ s Fs',pl[s]? = some (.over k Fs')→s=i)
  (hs : Save G w w') (hbx : Boxed w G) (hB : BoxIs w' G t Fs) : RInv w0 bx a0 wr os pl (fun j => j=i ∨ d j) (Ya τ i v) w' := by
 have hgr := Grows.save hs hbx
 have hold := has.box k G t Fs0 ha
 exact {
  bel := h.bel.trans (hs.below hold.1 h.bel.size)
  gro := h.gro.trans hgr
  frm := fun g hg hn => (hs.block g (Nat.lt_of_lt_of_le hg h.gro.size) (fun e => hn _ (List.mem_of_getElem? ha) e.symm)).trans (h.frm g hg hn)
  dwn := fun j o' hj q e he hbi => by
   rcases q with rfl | q
   ·rw [ho] at hj
    cases hj
    exact Or.inr (hd e he hbi)
   ·exact Or.inr (h.dwn j o' hj q e he hbi)
  und := fun j o' t hj ht q => by
   rw [QQ _ _ (fun e => q (Or.inl e))]
   exact h.und j o' t hj ht (fun q' => q (Or.inr q'))
  pur := fun j F hj q => by
   by_cases e : j=i
   ·subst e
    rw [hp] at hj
    cases hj
   ·rw [QQ _ _ e]
    exact F.st hgr (h.pur j F hj (q.resolve_left e))
  sof := fun j F hj q hs => absurd (Or.inl rfl) (hs i _ hp rfl)
  alo := fun j t' Fs' hj q => by
   have e : j ≠ i := fun e => by subst e; rw [hp] at hj; cases hj
   rw [QQ _ _ e]
   obtain ⟨G',h1,h2,h3,h4,h5⟩ := h.alo j t' Fs' hj (q.resolve_left e)
   have hGG : G' ≠ G := fun e => by have := hold.2.lt; omega
   refine ⟨G',h1,h2,Nat.lt_of_lt_of_le h3 hs.size,fun hn => (h4 fun s Fs' hs q' => hn s Fs' hs (Or.inr q')).save hs hbx hGG,fun s Fs'' hs' q' => ?_⟩
   rcases q' with rfl | q'
   ·rw [hp] at hs'; cases hs'
   ·exact (h5 s Fs'' hs' q').save hs hbx hGG
  box := fun k' G' t' Fs' hm => by
   obtain ⟨h4,h5⟩ := h.box k' G' t' Fs' hm
   by_cases hGG : G'=G
   ·subst hGG
    obtain rfl := NG has.dis ha hm
    rw [ha] at hm
    cases hm
    refine ⟨fun hn => absurd (Or.inl rfl) (hn i Fs hp),fun s Fs' hs' q' => ?_⟩
    have := hone s Fs' hs'
    subst this
    rw [hp] at hs'
    cases hs'
    exact hB
   ·refine ⟨fun hn => (h4 fun s Fs' hs q' => hn s Fs' hs (Or.inr q')).save hs hbx hGG,fun s Fs' hs' q' => ?_⟩
    rcases q' with rfl | q'
    ·rw [hp] at hs'
     cases hs'
     rw [ha] at hm
     cases hm
     exact absurd rfl hGG
    ·exact (h5 s Fs' hs' q').save hs hbx hGG
  inj := fun x y tx Fx ty Fy hx hy qx qy e => by
   have nx : x ≠ i := fun e => by subst e; rw [hp] at hx; cases hx
   have ny : y ≠ i := fun e => by subst e; rw [hp] at hy; cases hy
   rw [QQ _ _ nx,QQ _ _ ny] at e
   exact h.inj x y tx Fx ty Fy hx hy (qx.resolve_left nx) (qy.resolve_left ny) e }
end
end Go.Proofs.YtnhplfjlhdpgoaaGreatDoor
/- VR -/
namespace Cx
open Go
theorem Yh (τ : Nat→Value) : ∀ (os : List Oper) (a : Act) (i : Nat),(Qi a τ i os).tmps.size=a.tmps.size
 | [],_,_ => rfl
 | o :: os,a,i => by
  show (Qi (a.put o.dst (τ i)) τ (i+1) os).tmps.size=_
  rw [Yh τ os]
  cases o.dst <;> simp [Act.put]
theorem Vl (τ : Nat→Value) : ∀ (os : List Oper) (a : Act) (i : Nat),(Qi a τ i os).defers=a.defers
 | [],_,_ => rfl
 | o :: os,a,i => by
  show (Qi (a.put o.dst (τ i)) τ (i+1) os).defers=_
  rw [Vl τ os]
  cases o.dst <;> simp [Act.put]
theorem UA (a : Act) {t : Tmp} (v : Value) (h : t < a.tmps.size) : (a.put (some t) v).tmps.getD t undef=v := by
 simp [Act.put,Array.getD,h]
theorem XV (a : Act) {d : Option Tmp} {t : Tmp} (v : Value) (h : d ≠ some t) : (a.put d v).tmps.getD t undef=a.tmps.getD t undef := by
 cases d with
 | none => rfl
 | some d =>
  have hne : d ≠ t := fun e => h (by rw [e])
  show (a.tmps.setIfInBounds d v).getD t undef=_
  rw [Array.getD_eq_getD_getElem?,Array.getD_eq_getD_getElem?,Array.getElem?_setIfInBounds_ne hne]
theorem Ul (τ : Nat→Value) {t : Tmp} : ∀ (os : List Oper) (a : Act) (i : Nat),t ∉ os.filterMap (·.dst)→(Qi a τ i os).tmps.getD t undef=a.tmps.getD t undef
 | [],_,_,_ => rfl
 | o :: os,a,i,h => by
  show (Qi (a.put o.dst (τ i)) τ (i+1) os).tmps.getD t undef=_
  have h1 : o.dst ≠ some t := fun e => h (by rw [List.filterMap_cons_some e]; exact List.mem_cons_self)
  have h2 : t ∉ os.filterMap (·.dst) := fun q => h (by
   cases ho : o.dst with
   | none => rw [List.filterMap_cons_none ho]; exact q
   | some y => rw [List.filterMap_cons_some ho]; exact List.mem_cons_of_mem _ q)
  rw [Ul τ os _ _ h2,XV _ _ h1]
theorem Xi (τ : Nat→Value) {t : Tmp} : ∀ (os : List Oper) (a : Act) (i j : Nat),(os.filterMap (·.dst)).Nodup→(os[j]?).bind (·.dst)=some t→t < a.tmps.size→(Qi a τ i os).tmps.getD t undef=τ (i+j)
 | [],_,_,_,_,h,_ => by simp at h
 | o :: os,a,i,0,hn,h,hlt => by
  show (Qi (a.put o.dst (τ i)) τ (i+1) os).tmps.getD t undef=_
  have e : o.dst=some t := by simpa using h
  have h2 : t ∉ os.filterMap (·.dst) := by
   rw [List.filterMap_cons_some e] at hn
   exact (List.nodup_cons.1 hn).1
  rw [Ul τ os _ _ h2,e,UA _ _ hlt]
  rfl
 | o :: os,a,i,j+1,hn,h,hlt => by
  show (Qi (a.put o.dst (τ i)) τ (i+1) os).tmps.getD t undef=_
  have h' : (os[j]?).bind (·.dst)=some t := by simpa using h
  have hn' : (os.filterMap (·.dst)).Nodup := by
   cases hp : o.dst with
   | none => rwa [List.filterMap_cons_none hp] at hn
   | some y => rw [List.filterMap_cons_some hp] at hn; exact (List.nodup_cons.1 hn).2
  rw [Xi τ os _ (i+1) j hn' h' (by cases o.dst <;> simpa [Act.put] using hlt)]
  congr 1
  omega
theorem IU {P : Program} {Q : Exit→Act→World→Prop} {os : List Oper} {a0 : Act} {Inv : (Nat→Prop)→(Nat→Value)→World→Prop}
  (hn : (os.filterMap (·.dst)).Nodup) (ht : topoOps 0 os=true) (hs : OpSteps P Q os a0 Inv 0 os)
  (hd : ∀ d τ w,(∀ j,j < os.length→d j)→Inv d τ w→Q .normal (Qi a0 τ 0 os) w) :
  ∀ (m k : Nat) (τ : Nat→Value) (w : World),k+m=os.length→Inv (fun j => j < k) τ w→wpOps P os.toArray Q (List.range' k m) (Qi a0 τ 0 os) w
 | 0,k,τ,w,hk,hI => hd _ τ w (fun j hj => by omega) hI
 | m+1,k,τ,w,hk,hI => by
  have hlt : k < os.length := by omega
  have ho : os[k]? = some os[k] := by simp [hlt]
  have ho' : os.toArray[k]? = some os[k] := by simp [hlt]
  rw [List.range'_succ]
  simp only [wpOps,ho']
  have hst := OpSteps.get hs ho
  rw [Nat.zero_add] at hst
  have key : ∀ v w',Inv (fun j => j=k ∨ j < k) (Ya τ k v) w'→wpOps P os.toArray Q (List.range' (k+1) m) ((Qi a0 τ 0 os).put (os[k]).dst v) w' := fun v w' h => by
   rw [Ow τ v os a0 0 k _ hn ho,Nat.zero_add]
   refine IU hn ht hs hd m (k+1) _ w' (by omega) ?_
   have e : (fun j => j < k+1)=(fun j => j=k ∨ j < k) := by
    funext j
    apply propext
    omega
   rw [e]
   exact h
  have h := hst (fun j => j < k) τ w (fun e he hb => by have := topoOps.get ht ho e he hb; omega) (Nat.lt_irrefl k) hI _ key
  split
  ·rename_i hw
   rw [if_pos hw] at h
   exact Or.inl h
  ·rename_i hw
   rw [if_neg hw] at h
   exact h
theorem On {P : Program} {Q : Exit→Act→World→Prop} {os : List Oper} {a0 : Act} {w0 : World} {id : Nat} {dr : Bool} (Inv : (Nat→Prop)→(Nat→Value)→World→Prop)
  (hm : P.follows .mixedOrders=true) (hn : (os.filterMap (·.dst)).Nodup) (ht : topoOps 0 os=true)
  (h0 : Inv (fun _ => False) (ZJ a0 os) w0.drew) (h0' : Inv (fun _ => False) (ZJ a0 os) w0) (hs : OpSteps P Q os a0 Inv 0 os)
  (hd : ∀ d τ w,(∀ j,j < os.length→d j)→Inv d τ w→Q .normal (Qi a0 τ 0 os) w) :
  (Code.region id os.toArray dr).wp P Q a0 w0 := by
 have hbefore := Vm a0 os os 0 (fun k => by rw [Nat.zero_add])
 cases dr with
 | true =>
  refine wp_region_any hm ?_
  have := NK hn ht hs hd os.length (Array.replicate os.length false) (ZJ a0 os) w0.drew (by simp) (by
   have := List.countP_le_length (p := fun i => !(Array.replicate os.length false).getD i true) (l := List.range os.length)
   simpa using this) (by
   have e : (fun j => (Array.replicate os.length false).getD j false=true)=(fun _ : Nat => False) := by
    funext j
    apply propext
    by_cases h : j < os.length <;> simp [Array.getD,h]
   rw [e]
   exact h0)
  rw [hbefore] at this
  rw [show os.toArray.size=os.length by simp]
  exact this
 | false =>
  refine wp_region ?_
  have := IU hn ht hs hd os.length 0 (ZJ a0 os) w0 (by omega) (by
   have e : (fun j : Nat => j < 0)=(fun _ : Nat => False) := by
    funext j
    apply propext
    simp
   rw [e]
   exact h0')
  rw [hbefore] at this
  rw [show os.toArray.size=os.length by simp,List.range_eq_range']
  exact this
end Cx
/- ZWB -/
namespace Cx
open Go
end Cx
namespace Go.Proofs.YtnhplfjlhdpgoaaGreatDoor
open Go.RowKit Cx
def KC : Value→Nat
 | .pointer (some p) => p.block
 | _ => 0
def XE (a : Nat) : List Plan→Option Fact
 | [] => none
 | (Sum.inr (Sum.inr (Sum.inr (Sum.inl (b,Fs))))) :: ps => if Nat.beq a b=true then some Fs else XE a ps
 | (Sum.inl _) :: ps => XE a ps
 | (Sum.inr (Sum.inl _)) :: ps => XE a ps
 | (Sum.inr (Sum.inr (Sum.inl (_,_)))) :: ps => XE a ps
 | (Sum.inr (Sum.inr (Sum.inr (Sum.inr (Sum.inl (_,_)))))) :: ps => XE a ps
 | (Sum.inr (Sum.inr (Sum.inr (Sum.inr (Sum.inr _))))) :: ps => XE a ps
def XD (k : Nat) : List Plan→Option Fact
 | [] => none
 | (Sum.inr (Sum.inr (Sum.inr (Sum.inr (Sum.inl (b,Fs)))))) :: ps => if Nat.beq k b=true then some Fs else XD k ps
 | (Sum.inl _) :: ps => XD k ps
 | (Sum.inr (Sum.inl _)) :: ps => XD k ps
 | (Sum.inr (Sum.inr (Sum.inl (_,_)))) :: ps => XD k ps
 | (Sum.inr (Sum.inr (Sum.inr (Sum.inl (_,_))))) :: ps => XD k ps
 | (Sum.inr (Sum.inr (Sum.inr (Sum.inr (Sum.inr _))))) :: ps => XD k ps
theorem JG {a : Nat} : ∀ {pl : List Plan} {Fs : Fact},XE a pl=some Fs→∃ s : Nat,pl[s]? = some (Plan.fill a Fs)
 | [],_,h => by cases h
 | (Sum.inr (Sum.inr (Sum.inr (Sum.inl (b,Fs'))))) :: ps,Fs,h => by
  unfold XE at h
  split at h
  ·rename_i e
   cases h
   exact ⟨0,by rw [Nat.eq_of_beq_eq_true e]; rfl⟩
  ·obtain ⟨s,hs⟩ := JG h
   exact ⟨s+1,by simpa using hs⟩
 | (Sum.inl _) :: ps,_,h => by obtain ⟨s,hs⟩ := JG (pl := ps) h; exact ⟨s+1,by simpa using hs⟩
 | (Sum.inr (Sum.inl _)) :: ps,_,h => by obtain ⟨s,hs⟩ := JG (pl := ps) h; exact ⟨s+1,by simpa using hs⟩
 | (Sum.inr (Sum.inr (Sum.inl (_,_)))) :: ps,_,h => by obtain ⟨s,hs⟩ := JG (pl := ps) h; exact ⟨s+1,by simpa using hs⟩
 | (Sum.inr (Sum.inr (Sum.inr (Sum.inr (Sum.inl (_,_)))))) :: ps,_,h => by obtain ⟨s,hs⟩ := JG (pl := ps) h; exact ⟨s+1,by simpa using hs⟩
 | (Sum.inr (Sum.inr (Sum.inr (Sum.inr (Sum.inr _))))) :: ps,_,h => by obtain ⟨s,hs⟩ := JG (pl := ps) h; exact ⟨s+1,by simpa using hs⟩
theorem Jm {a : Nat} : ∀ {pl : List Plan},XE a pl=none→∀ (s : Nat) (Fs : Fact),pl[s]? ≠ some (Plan.fill a Fs)
 | [],_,s,Fs,h => by simp at h
 | (Sum.inr (Sum.inr (Sum.inr (Sum.inl (b,Fs'))))) :: ps,h,s,Fs,hs => by
  unfold XE at h
  split at h
  ·cases h
  ·rename_i e
   cases s with
   | zero =>
    simp at hs
    exact e (by rw [hs.1]; exact Nat.beq_refl a)
   | succ s => exact Jm h s Fs (by simpa using hs)
 | (Sum.inl _) :: ps,h,s,Fs,hs => by
  cases s with
  | zero => simp at hs
  | succ s => exact Jm (pl := ps) h s Fs (by simpa using hs)
 | (Sum.inr (Sum.inl _)) :: ps,h,s,Fs,hs => by
  cases s with
  | zero => simp at hs
  | succ s => exact Jm (pl := ps) h s Fs (by simpa using hs)
 | (Sum.inr (Sum.inr (Sum.inl (_,_)))) :: ps,h,s,Fs,hs => by
  cases s with
  | zero => simp at hs
  | succ s => exact Jm (pl := ps) h s Fs (by simpa using hs)
 | (Sum.inr (Sum.inr (Sum.inr (Sum.inr (Sum.inl (_,_)))))) :: ps,h,s,Fs,hs => by
  cases s with
  | zero => simp at hs
  | succ s => exact Jm (pl := ps) h s Fs (by simpa using hs)
 | (Sum.inr (Sum.inr (Sum.inr (Sum.inr (Sum.inr _))))) :: ps,h,s,Fs,hs => by
  cases s with
  | zero => simp at hs
  | succ s => exact Jm (pl := ps) h s Fs (by simpa using hs)
theorem JI {a : Nat} : ∀ {pl : List Plan} {Fs : Fact},XD a pl=some Fs→∃ s : Nat,pl[s]? = some (Plan.over a Fs)
 | [],_,h => by cases h
 | (Sum.inr (Sum.inr (Sum.inr (Sum.inr (Sum.inl (b,Fs')))))) :: ps,Fs,h => by
  unfold XD at h
  split at h
  ·rename_i e
   cases h
   exact ⟨0,by rw [Nat.eq_of_beq_eq_true e]; rfl⟩
  ·obtain ⟨s,hs⟩ := JI h
   exact ⟨s+1,by simpa using hs⟩
 | (Sum.inl _) :: ps,_,h => by obtain ⟨s,hs⟩ := JI (pl := ps) h; exact ⟨s+1,by simpa using hs⟩
 | (Sum.inr (Sum.inl _)) :: ps,_,h => by obtain ⟨s,hs⟩ := JI (pl := ps) h; exact ⟨s+1,by simpa using hs⟩
 | (Sum.inr (Sum.inr (Sum.inl (_,_)))) :: ps,_,h => by obtain ⟨s,hs⟩ := JI (pl := ps) h; exact ⟨s+1,by simpa using hs⟩
 | (Sum.inr (Sum.inr (Sum.inr (Sum.inl (_,_))))) :: ps,_,h => by obtain ⟨s,hs⟩ := JI (pl := ps) h; exact ⟨s+1,by simpa using hs⟩
 | (Sum.inr (Sum.inr (Sum.inr (Sum.inr (Sum.inr _))))) :: ps,_,h => by obtain ⟨s,hs⟩ := JI (pl := ps) h; exact ⟨s+1,by simpa using hs⟩
theorem Jn {a : Nat} : ∀ {pl : List Plan},XD a pl=none→∀ (s : Nat) (Fs : Fact),pl[s]? ≠ some (Plan.over a Fs)
 | [],_,s,Fs,h => by simp at h
 | (Sum.inr (Sum.inr (Sum.inr (Sum.inr (Sum.inl (b,Fs')))))) :: ps,h,s,Fs,hs => by
  unfold XD at h
  split at h
  ·cases h
  ·rename_i e
   cases s with
   | zero =>
    simp at hs
    exact e (by rw [hs.1]; exact Nat.beq_refl a)
   | succ s => exact Jn h s Fs (by simpa using hs)
 | (Sum.inl _) :: ps,h,s,Fs,hs => by
  cases s with
  | zero => simp at hs
  | succ s => exact Jn (pl := ps) h s Fs (by simpa using hs)
 | (Sum.inr (Sum.inl _)) :: ps,h,s,Fs,hs => by
  cases s with
  | zero => simp at hs
  | succ s => exact Jn (pl := ps) h s Fs (by simpa using hs)
 | (Sum.inr (Sum.inr (Sum.inl (_,_)))) :: ps,h,s,Fs,hs => by
  cases s with
  | zero => simp at hs
  | succ s => exact Jn (pl := ps) h s Fs (by simpa using hs)
 | (Sum.inr (Sum.inr (Sum.inr (Sum.inl (_,_))))) :: ps,h,s,Fs,hs => by
  cases s with
  | zero => simp at hs
  | succ s => exact Jn (pl := ps) h s Fs (by simpa using hs)
 | (Sum.inr (Sum.inr (Sum.inr (Sum.inr (Sum.inr _))))) :: ps,h,s,Fs,hs => by
  cases s with
  | zero => simp at hs
  | succ s => exact Jn (pl := ps) h s Fs (by simpa using hs)
def WM (γ : Nat→Nat) : Nat→List Oper→List Plan→List (Nat × Fact)→List (Nat × Fact)
 | i,o :: os,p :: ps,tm =>
  WM γ (i+1) os ps (match o.dst with
   | none => tm
   | some t => match p with
    | Sum.inl F => (t,F) :: tm.filter (fun x => !Nat.beq x.1 t)
    | Sum.inr (Sum.inr (Sum.inl _)) => (t,Jus (.pointer (some ⟨γ i,0,none⟩))) :: tm.filter (fun x => !Nat.beq x.1 t)
    | Sum.inr (Sum.inl _) => tm.filter (fun x => !Nat.beq x.1 t)
    | Sum.inr (Sum.inr (Sum.inr _)) => tm.filter (fun x => !Nat.beq x.1 t))
 | _,_,_,tm => tm
def ZT (pl : List Plan) : Nat→List (Nat × TypeId × Fact)→List (Nat × TypeId × Fact)
 | _,[] => []
 | k,b :: bs => (b.1,b.2.1,match XD k pl with | some Fs => Fs | none => b.2.2) :: ZT pl (k+1) bs
def JQ (γ : Nat→Nat) (pl : List Plan) : Nat→List Plan→List (Nat × TypeId × Fact)
 | _,[] => []
 | i,(Sum.inr (Sum.inr (Sum.inl (t,Fs)))) :: ps => (γ i,t,match XE i pl with | some Fs' => Fs' | none => Fs) :: JQ γ pl (i+1) ps
 | i,(Sum.inl _) :: ps => JQ γ pl (i+1) ps
 | i,(Sum.inr (Sum.inl _)) :: ps => JQ γ pl (i+1) ps
 | i,(Sum.inr (Sum.inr (Sum.inr (Sum.inl (_,_))))) :: ps => JQ γ pl (i+1) ps
 | i,(Sum.inr (Sum.inr (Sum.inr (Sum.inr (Sum.inl (_,_)))))) :: ps => JQ γ pl (i+1) ps
 | i,(Sum.inr (Sum.inr (Sum.inr (Sum.inr (Sum.inr _))))) :: ps => JQ γ pl (i+1) ps
theorem Ke {τ : Nat→Value} {w : World} {γ : Nat→Nat} : ∀ (os : List Oper) (pl : List Plan) (i : Nat) (a : Act) (tm : List (Nat × Fact)),
  (∀ o ∈ os,∀ t,o.dst=some t→t < a.tmps.size)→(∀ t F,(t,F) ∈ tm→F.on (a.tmps.getD t undef) w) →
  (∀ k F,pl[k]? = some (.pure F)→k < os.length→F.on (τ (i+k)) w)→(∀ k t Fs,pl[k]? = some (.alloc t Fs)→k < os.length→τ (i+k)=.pointer (some ⟨γ (i+k),0,none⟩)) →
  os.length≤pl.length →
  ∀ t F,(t,F) ∈ WM γ i os pl tm→F.on ((Qi a τ i os).tmps.getD t undef) w
 | [],pl,i,a,tm,_,htm,_,_,_,t,F,h => by
  cases pl <;> exact htm t F h
 | o :: os,[],i,a,tm,_,_,_,_,hl,t,F,h => by simp at hl
 | o :: os,p :: ps,i,a,tm,hb,htm,hp,ha,hl,t,F,h => by
  show F.on ((Qi (a.put o.dst (τ i)) τ (i+1) os).tmps.getD t undef) w
  refine Ke os ps (i+1) (a.put o.dst (τ i)) _ ?_ ?_ ?_ ?_ (by simpa using hl) t F h
  ·intro o' ho' t' ht'
   have := hb o' (List.mem_cons_of_mem _ ho') t' ht'
   cases o.dst <;> simpa [Act.put] using this
  ·intro t' F' hm
   have old : ∀ d,o.dst=some d→(t',F') ∈ tm.filter (fun x => !Nat.beq x.1 d)→F'.on ((a.put o.dst (τ i)).tmps.getD t' undef) w := fun d hd hm => by
    rw [List.mem_filter] at hm
    have hne : t' ≠ d := fun e => by
     have := hm.2
     rw [e] at this
     simp at this
    rw [XV _ _ (by rw [hd]; intro e; cases e; exact hne rfl)]
    exact htm t' F' hm.1
   cases hd : o.dst with
   | none =>
    rw [hd] at hm
    exact htm t' F' hm
   | some d =>
    rw [hd] at hm old
    have hlt := hb o List.mem_cons_self d hd
    rcases p with F0 | S0 | ⟨t0,Fs0⟩ | q0
    ·rcases List.mem_cons.1 hm with e | hm
     ·cases e
      rw [UA _ _ hlt]
      exact hp 0 F' rfl (by simp)
     ·exact old d rfl hm
    ·exact old d rfl hm
    ·rcases List.mem_cons.1 hm with e | hm
     ·cases e
      rw [UA _ _ hlt]
      exact ha 0 t0 Fs0 rfl (by simp)
     ·exact old d rfl hm
    ·exact old d rfl hm
  ·intro k F' hk hlt
   have := hp (k+1) F' (by simpa using hk) (by simpa using hlt)
   rwa [show i+(k+1)=i+1+k by omega] at this
  ·intro k t' Fs' hk hlt
   have := ha (k+1) t' Fs' (by simpa using hk) (by simpa using hlt)
   rwa [show i+(k+1)=i+1+k by omega] at this
theorem Tc {pl : List Plan} : ∀ {bx : List (Nat × TypeId × Fact)} {k0 k G : Nat} {t : TypeId} {Fs : Fact},(ZT pl k0 bx)[k]? = some (G,t,Fs)→∃ Fs0,bx[k]? = some (G,t,Fs0)∧Fs=(match XD (k0+k) pl with | some Fs' => Fs' | none => Fs0)
 | [],_,_,_,_,_,h => by simp [ZT] at h
 | b :: bs,k0,0,G,t,Fs,h => by
  simp only [ZT,List.getElem?_cons_zero,Option.some.injEq,Prod.mk.injEq] at h
  obtain ⟨rfl,rfl,rfl⟩ := h
  exact ⟨b.2.2,rfl,rfl⟩
 | b :: bs,k0,k+1,G,t,Fs,h => by
  obtain ⟨Fs0,h1,h2⟩ := Tc (bx := bs) (k0 := k0+1) (k := k) (by simpa [ZT] using h)
  exact ⟨Fs0,by simpa using h1,by rw [h2,show k0+1+k=k0+(k+1) by omega]⟩
theorem UY {pl : List Plan} : ∀ {bx : List (Nat × TypeId × Fact)} {k0 : Nat},(ZT pl k0 bx).map (·.1)=bx.map (·.1)
 | [],_ => rfl
 | b :: bs,k0 => by simp [ZT,UY (bx := bs)]
theorem Jx {γ : Nat→Nat} {pl : List Plan} : ∀ {ps : List Plan} {i G : Nat} {t : TypeId} {Fs : Fact},(G,t,Fs) ∈ JQ γ pl i ps→∃ k Fs0,ps[k]? = some (.alloc t Fs0)∧G=γ (i+k)∧Fs=(match XE (i+k) pl with | some Fs' => Fs' | none => Fs0)
 | [],_,_,_,_,h => by cases h
 | (Sum.inr (Sum.inr (Sum.inl (t0,Fs0)))) :: ps,i,G,t,Fs,h => by
  rcases List.mem_cons.1 h with e | h
  ·cases e
   exact ⟨0,Fs0,rfl,rfl,rfl⟩
  ·obtain ⟨k,F0,h1,h2,h3⟩ := Jx (ps := ps) h
   exact ⟨k+1,F0,by simpa using h1,by rw [h2]; congr 1; omega,by rw [h3,show i+1+k=i+(k+1) by omega]⟩
 | (Sum.inl _) :: ps,i,G,t,Fs,h => by
  obtain ⟨k,F0,h1,h2,h3⟩ := Jx (ps := ps) (i := i+1) h
  exact ⟨k+1,F0,by simpa using h1,by rw [h2]; congr 1; omega,by rw [h3,show i+1+k=i+(k+1) by omega]⟩
 | (Sum.inr (Sum.inl _)) :: ps,i,G,t,Fs,h => by
  obtain ⟨k,F0,h1,h2,h3⟩ := Jx (ps := ps) (i := i+1) h
  exact ⟨k+1,F0,by simpa using h1,by rw [h2]; congr 1; omega,by rw [h3,show i+1+k=i+(k+1) by omega]⟩
 | (Sum.inr (Sum.inr (Sum.inr (Sum.inl (_,_))))) :: ps,i,G,t,Fs,h => by
  obtain ⟨k,F0,h1,h2,h3⟩ := Jx (ps := ps) (i := i+1) h
  exact ⟨k+1,F0,by simpa using h1,by rw [h2]; congr 1; omega,by rw [h3,show i+1+k=i+(k+1) by omega]⟩
 | (Sum.inr (Sum.inr (Sum.inr (Sum.inr (Sum.inl (_,_)))))) :: ps,i,G,t,Fs,h => by
  obtain ⟨k,F0,h1,h2,h3⟩ := Jx (ps := ps) (i := i+1) h
  exact ⟨k+1,F0,by simpa using h1,by rw [h2]; congr 1; omega,by rw [h3,show i+1+k=i+(k+1) by omega]⟩
 | (Sum.inr (Sum.inr (Sum.inr (Sum.inr (Sum.inr _))))) :: ps,i,G,t,Fs,h => by
  obtain ⟨k,F0,h1,h2,h3⟩ := Jx (ps := ps) (i := i+1) h
  exact ⟨k+1,F0,by simpa using h1,by rw [h2]; congr 1; omega,by rw [h3,show i+1+k=i+(k+1) by omega]⟩
theorem RP {γ : Nat→Nat} {pl : List Plan} : ∀ {ps : List Plan} {i : Nat},(∀ j k tj Fj tk Fk,ps[j]? = some (.alloc tj Fj)→ps[k]? = some (.alloc tk Fk)→γ (i+j)=γ (i+k)→j=k)→((JQ γ pl i ps).map (·.1)).Nodup
 | [],_,_ => List.nodup_nil
 | p :: ps,i,h => by
  have ih : ((JQ γ pl (i+1) ps).map (·.1)).Nodup := RP (ps := ps) (i := i+1) fun j k tj Fj tk Fk hj hk e => by
   have := h (j+1) (k+1) tj Fj tk Fk (by simpa using hj) (by simpa using hk) (by rw [show i+(j+1)=i+1+j by omega,show i+(k+1)=i+1+k by omega]; exact e)
   omega
  rcases p with F0 | S0 | ⟨t0,Fs0⟩ | ⟨a0,q0⟩ | ⟨k0,q0⟩ | _
  ·exact ih
  ·exact ih
  ·refine List.nodup_cons.2 ⟨fun hm => ?_,ih⟩
   obtain ⟨⟨G,t,Fs⟩,hb,e⟩ := List.mem_map.1 hm
   obtain ⟨k,F0,h1,h2,_⟩ := Jx hb
   have := h 0 (k+1) t0 Fs0 t F0 rfl (by simpa using h1) (by
    rw [show i+(k+1)=i+1+k by omega,← h2]
    exact e.symm)
   omega
  ·exact ih
  ·exact ih
  ·exact ih
theorem RInv.done {w0 : World} {n : Nat} {tm : List (Nat × Fact)} {bx : List (Nat × TypeId × Fact)} {a0 : Act} {wr : World} {os : List Oper} {pl : List Plan} {d : Nat→Prop} {τ : Nat→Value} {w : World}
  (has : AS w0 n tm bx a0 wr) (hr : RInv w0 bx a0 wr os pl d τ w) (hall : ∀ j,j < os.length→d j) (hlen : pl.length=os.length)
  (hbd : ∀ o ∈ os,∀ t,o.dst=some t→t < n) : ∃ γ : Nat→Nat,(∀ k t Fs,pl[k]? = some (.alloc t Fs)→wr.heap.size≤γ k)∧AS w0 n (WM γ 0 os pl tm) (ZT pl 0 bx ++ JQ γ pl 0 pl) (Qi a0 τ 0 os) w := by
 have hdone : ∀ {k : Nat} {p : Plan},pl[k]? = some p→d k := fun {k p} h => hall k (by
  rw [← hlen]
  exact (List.getElem?_eq_some_iff.1 h).1)
 have hγ : ∀ k t Fs,pl[k]? = some (.alloc t Fs)→τ k=.pointer (some ⟨KC (τ k),0,none⟩) := fun k t Fs h => by
  obtain ⟨G,e,_⟩ := hr.alo k t Fs h (hdone h)
  rw [e]
  rfl
 refine ⟨fun i => KC (τ i),fun k t Fs h => by
  obtain ⟨G,e,h4,_⟩ := hr.alo k t Fs h (hdone h)
  show _≤KC (τ k)
  rw [e]
  exact h4,hr.bel,by rw [Yh,has.siz],by rw [Vl,has.nod],?_,?_,?_⟩
 ·refine Ke os pl 0 a0 tm (fun o ho t ht => by rw [has.siz]; exact hbd o ho t ht) (fun t F h => F.st hr.gro (has.tmp t F h)) (fun k F h _ => ?_) (fun k t Fs h _ => ?_) (by omega)
  ·rw [Nat.zero_add]
   exact hr.pur k F h (hdone h)
  ·rw [Nat.zero_add]
   exact hγ k t Fs h
 ·intro k G t Fs h
  rw [List.getElem?_append] at h
  split at h
  ·obtain ⟨Fs0,h1,h2⟩ := Tc h
   rw [Nat.zero_add] at h2
   obtain ⟨h4,h5⟩ := hr.box k G t Fs0 h1
   refine ⟨(has.box k G t Fs0 h1).1,?_⟩
   cases ho : XD k pl with
   | none =>
    rw [ho] at h2
    rw [h2]
    exact h4 fun s Fs' hs => absurd hs (Jn ho s Fs')
   | some Fs' =>
    rw [ho] at h2
    obtain ⟨s,hs⟩ := JI ho
    rw [h2]
    exact h5 s Fs' hs (hdone hs)
  ·obtain ⟨j,Fs0,h1,h2,h3⟩ := Jx (List.mem_of_getElem? h)
   rw [Nat.zero_add] at h2 h3
   obtain ⟨G',e,h4,h5,h6,h7⟩ := hr.alo j t Fs0 h1 (hdone h1)
   have eG : G=G' := by rw [h2]; show KC (τ j)=G'; rw [e]; rfl
   subst eG
   refine ⟨Nat.le_trans has.bel.size h4,?_⟩
   cases ho : XE j pl with
   | none =>
    rw [ho] at h3
    rw [h3]
    exact h6 fun s Fs' hs => absurd hs (Jm ho s Fs')
   | some Fs' =>
    rw [ho] at h3
    obtain ⟨s,hs⟩ := JG ho
    rw [h3]
    exact h7 s Fs' hs (hdone hs)
 ·rw [List.map_append,UY]
  refine List.nodup_append.2 ⟨has.dis,RP fun j k tj Fj tk Fk hj hk e => ?_,fun x hx y hy e => ?_⟩
  ·rw [Nat.zero_add,Nat.zero_add] at e
   refine hr.inj j k tj Fj tk Fk hj hk (hdone hj) (hdone hk) ?_
   rw [hγ j tj Fj hj,hγ k tk Fk hk]
   exact congrArg (fun x => Value.pointer (some ⟨x,0,none⟩)) e
  ·subst e
   obtain ⟨⟨G,t,Fs⟩,hb,eG⟩ := List.mem_map.1 hx
   obtain ⟨⟨G',t',Fs'⟩,hb',eG'⟩ := List.mem_map.1 hy
   obtain ⟨k,hk⟩ := List.getElem?_of_mem hb
   have hlt := (has.box k G t Fs hk).2.lt
   obtain ⟨j,F0,h1,h2,_⟩ := Jx hb'
   rw [Nat.zero_add] at h2
   obtain ⟨G2,e2,h4,_⟩ := hr.alo j t' F0 h1 (hdone h1)
   have : G'=G2 := by rw [h2]; show KC (τ j)=G2; rw [e2]; rfl
   simp at eG eG'
   omega
end Go.Proofs.YtnhplfjlhdpgoaaGreatDoor
/- ZWC -/
namespace Go.Proofs.YtnhplfjlhdpgoaaGreatDoor
open Go.RowKit Cx
structure RC (w0 : World) (n : Nat) (tm : List (Nat × Fact)) (bx : List (Nat × TypeId × Fact)) (a0 : Act) (wr : World) (os : List Oper) : Prop where
 has : AS w0 n tm bx a0 wr
 nd : (os.filterMap (·.dst)).Nodup
structure AStep (P : Program) (Q : Exit→Act→World→Prop) (all : List Oper) (a0 : Act) (Inv : (Nat→Prop)→(Nat→Value)→World→Prop) (i : Nat) (o : Oper) : Prop where
 run : Dq P Q all a0 Inv i o
def ASteps (P : Program) (Q : Exit→Act→World→Prop) (all : List Oper) (a0 : Act) (Inv : (Nat→Prop)→(Nat→Value)→World→Prop) : Nat→List Oper→Prop
 | _,[] => True
 | i,o :: os => AStep P Q all a0 Inv i o∧ASteps P Q all a0 Inv (i+1) os
theorem ASteps.nil {P : Program} {Q : Exit→Act→World→Prop} {all : List Oper} {a0 : Act} {Inv : (Nat→Prop)→(Nat→Value)→World→Prop} {i : Nat} : ASteps P Q all a0 Inv i [] := trivial
theorem ASteps.cons {P : Program} {Q : Exit→Act→World→Prop} {all : List Oper} {a0 : Act} {Inv : (Nat→Prop)→(Nat→Value)→World→Prop} {i : Nat} {o : Oper} {os : List Oper} (h : AStep P Q all a0 Inv i o) (hs : ASteps P Q all a0 Inv (i+1) os) : ASteps P Q all a0 Inv i (o :: os) := ⟨h,hs⟩
theorem ASteps.ops {P : Program} {Q : Exit→Act→World→Prop} {all : List Oper} {a0 : Act} {Inv : (Nat→Prop)→(Nat→Value)→World→Prop} : ∀ {i : Nat} {os : List Oper},ASteps P Q all a0 Inv i os→OpSteps P Q all a0 Inv i os
 | _,[],_ => OpSteps.nil
 | _,_ :: _,h => OpSteps.cons h.1.run h.2.ops
section
variable {P : Program} {Q : Exit→Act→World→Prop} {w0 : World} {n : Nat} {tm : List (Nat × Fact)} {bx : List (Nat × TypeId × Fact)} {a0 : Act} {wr : World} {os : List Oper} {pl : List Plan}
def Dep (o : Oper) (d : Nat→Prop) : Prop := ∀ e ∈ o.after,Region.binds .any e=true→d e.on
def Opn (w0 : World) (bx : List (Nat × TypeId × Fact)) (a0 : Act) (wr : World) (os : List Oper) (pl : List Plan) (i : Nat) (o : Oper) (x : Operand) (F : Fact) : Prop :=
 ∀ d τ w,RInv w0 bx a0 wr os pl d τ w→Dep o d→¬ d i→F.on ((Qi a0 τ 0 os).eval x) w
theorem Qp {i : Nat} {o : Oper} (v : Value) : Opn w0 bx a0 wr os pl i o (.const v) (Jus v) := fun _ _ _ _ _ _ => rfl
theorem Qc (C : RC w0 n tm bx a0 wr os) {i : Nat} {o : Oper} (j k : Nat) {t : Tmp} {F : Fact} {e : Edge} (hj : (os[j]?).bind (·.dst)=some t) (hp : pl[j]? = some (.pure F)) (hk : o.after[k]? = some e) (he : e.on=j) (hb : Region.binds .any e=true) (hlt : Nat.blt t n=true) :
  Opn w0 bx a0 wr os pl i o (.tmp t) F := fun d τ w hr hd _ => by
 show F.on ((Qi a0 τ 0 os).tmps.getD t undef) w
 rw [Xi τ os a0 0 j C.nd hj (by rw [C.has.siz]; simpa using hlt),Nat.zero_add]
 exact hr.pur j F hp (he ▸ hd e (Array.mem_of_getElem? hk) hb)
theorem Qg (C : RC w0 n tm bx a0 wr os) {i : Nat} {o : Oper} (k : Nat) {t : Tmp} {F : Fact} (hno : (os.filterMap (·.dst)).contains t=false) (hk : tm[k]? = some (t,F)) :
  Opn w0 bx a0 wr os pl i o (.tmp t) F := fun d τ w hr _ _ => by
 show F.on ((Qi a0 τ 0 os).tmps.getD t undef) w
 rw [Ul τ os a0 0 (by simpa using hno)]
 exact F.st hr.gro (C.has.tmp t F (List.mem_of_getElem? hk))
theorem Tu (C : RC w0 n tm bx a0 wr os) {i : Nat} {o : Oper} (s k k' : Nat) {t : Tmp} {F : Fact} {o' : Oper} {e : Edge} (hs : os[s]? = some o') (hdst : o'.dst=some t) (hk : o'.after[k]? = some e) (he : e.on=i) (hb : Region.binds .any e=true) (hlt : Nat.blt t n=true) (hk' : tm[k']? = some (t,F)) :
  Opn w0 bx a0 wr os pl i o (.tmp t) F := fun d τ w hr _ hn => by
 show F.on ((Qi a0 τ 0 os).tmps.getD t undef) w
 rw [Xi τ os a0 0 s C.nd (by rw [hs]; exact hdst) (by rw [C.has.siz]; simpa using hlt),Nat.zero_add]
 have hns : ¬ d s := fun q => hn (he ▸ hr.dwn s o' hs q e (Array.mem_of_getElem? hk) hb)
 rw [hr.und s o' t hs hdst hns]
 exact F.st hr.gro (C.has.tmp t F (List.mem_of_getElem? hk'))
def Opns (w0 : World) (bx : List (Nat × TypeId × Fact)) (a0 : Act) (wr : World) (os : List Oper) (pl : List Plan) (i : Nat) (o : Oper) : List Operand→List Fact→Prop
 | [],[] => True
 | x :: xs,F :: Fs => Opn w0 bx a0 wr os pl i o x F∧Opns w0 bx a0 wr os pl i o xs Fs
 | _,_ => False
theorem Opns.nil {i : Nat} {o : Oper} : Opns w0 bx a0 wr os pl i o [] [] := trivial
theorem Opns.cons {i : Nat} {o : Oper} {x : Operand} {xs : List Operand} {F : Fact} {Fs : List Fact} (h : Opn w0 bx a0 wr os pl i o x F) (hs : Opns w0 bx a0 wr os pl i o xs Fs) : Opns w0 bx a0 wr os pl i o (x :: xs) (F :: Fs) := ⟨h,hs⟩
theorem Opns.all {i : Nat} {o : Oper} {d : Nat→Prop} {τ : Nat→Value} {w : World} (hr : RInv w0 bx a0 wr os pl d τ w) (hd : Dep o d) (hn : ¬ d i) : ∀ {xs : List Operand} {Fs : List Fact},Opns w0 bx a0 wr os pl i o xs Fs→All2 w Fs (xs.map (Qi a0 τ 0 os).eval)
 | [],[],_ => trivial
 | _ :: _,_ :: _,h => ⟨h.1 d τ w hr hd hn,Opns.all hr hd hn h.2⟩
 | [],_ :: _,h => h.elim
 | _ :: _,[],h => h.elim
def JM (w0 : World) (bx : List (Nat × TypeId × Fact)) (a0 : Act) (wr : World) (os : List Oper) (pl : List Plan) (o : Oper) (b : Bool) : Prop :=
 ∀ d τ w,RInv w0 bx a0 wr os pl d τ w→Dep o d→Region.wanted o (yielded os.toArray (Qi a0 τ 0 os).tmps)=b
theorem Qa {o : Oper} (h : o.guard=none) : JM w0 bx a0 wr os pl o true := fun _ _ _ _ _ => by
 unfold Region.wanted
 rw [h]
theorem KM (C : RC w0 n tm bx a0 wr os) {o : Oper} (j k : Nat) {b c : Bool} {t : Tmp} {e : Edge} (hg : o.guard=some (j,b)) (hj : (os[j]?).bind (·.dst)=some t) (hp : pl[j]? = some (.pure (Jus (.bool c)))) (hk : o.after[k]? = some e) (he : e.on=j) (hb : Region.binds .any e=true) (hlt : Nat.blt t n=true) :
  JM w0 bx a0 wr os pl o (c == b) := fun d τ w hr hd => by
 unfold Region.wanted
 rw [hg]
 have hv : τ j=.bool c := hr.pur j _ hp (he ▸ hd e (Array.mem_of_getElem? hk) hb)
 have hlt' : t < a0.tmps.size := by rw [C.has.siz]; simpa using hlt
 have hat := Xi τ os a0 0 j C.nd hj hlt'
 rw [Nat.zero_add,hv] at hat
 have hlt2 : t < (Qi a0 τ 0 os).tmps.size := by rw [Yh]; exact hlt'
 have YR : (Qi a0 τ 0 os).tmps[t]? = some (.bool c) := by
  rw [← hat,Array.getD_eq_getD_getElem?,Array.getElem?_eq_getElem hlt2]
  rfl
 have hy : yielded os.toArray (Qi a0 τ 0 os).tmps j=some c := by
  unfold yielded
  rw [List.getElem?_toArray,hj]
  show (match (Qi a0 τ 0 os).tmps[t]? with | some (.bool b) => some b | _ => none)=some c
  rw [YR]
 show (yielded os.toArray (Qi a0 τ 0 os).tmps j == some b)=(c == b)
 rw [hy]
 rfl
theorem Zp (C : RC w0 n tm bx a0 wr os) {o : Oper} (j k : Nat) (b : Bool) {t : Tmp} {e : Edge} (hg : o.guard=some (j,b)) (hj : (os[j]?).bind (·.dst)=some t) (hp : pl[j]? = some (.pure (Jus (.bool b)))) (hk : o.after[k]? = some e) (he : e.on=j) (hb : Region.binds .any e=true) (hlt : Nat.blt t n=true) :
  JM w0 bx a0 wr os pl o true := fun d τ w hr hd => (KM C j k hg hj hp hk he hb hlt d τ w hr hd).trans (by cases b <;> rfl)
theorem Ff (C : RC w0 n tm bx a0 wr os) {o : Oper} (j k : Nat) (b c : Bool) (hne : (c == b)=false) {t : Tmp} {e : Edge} (hg : o.guard=some (j,b)) (hj : (os[j]?).bind (·.dst)=some t) (hp : pl[j]? = some (.pure (Jus (.bool c)))) (hk : o.after[k]? = some e) (he : e.on=j) (hb : Region.binds .any e=true) (hlt : Nat.blt t n=true) :
  JM w0 bx a0 wr os pl o false := fun d τ w hr hd => (KM C j k hg hj hp hk he hb hlt d τ w hr hd).trans hne
theorem Eg {i : Nat} {o : Oper} {F : Fact} (ho : os[i]? = some o) (hp : pl[i]? = some (.pure F)) (hw : JM w0 bx a0 wr os pl o true)
  (h : ∀ d τ w,RInv w0 bx a0 wr os pl d τ w→Dep o d→¬ d i→∀ K : Act→World→Prop,(∀ v w',Below w.heap.size w w'→F.on v w'→K ((Qi a0 τ 0 os).put o.dst v) w')→Oper.wp P o (Qi a0 τ 0 os) w K Q) :
  AStep P Q os a0 (RInv w0 bx a0 wr os pl) i o := AStep.mk <| fun d τ w hd hn hr K hK => by
 rw [if_pos (hw d τ w hr hd)]
 exact h d τ w hr hd hn K fun v w' hb hF => hK v w' (hr.pure ho hd hp (Or.inl ⟨F,rfl,hF⟩) hb)
theorem II {i : Nat} {o : Oper} (ho : os[i]? = some o) (hp : pl[i]? = some .skip) (hw : JM w0 bx a0 wr os pl o false) : AStep P Q os a0 (RInv w0 bx a0 wr os pl) i o := AStep.mk <| fun d τ w hd hn hr K hK => by
 rw [if_neg (by rw [hw d τ w hr hd]; simp)]
 exact hK undef w (hr.pure ho hd hp (Or.inr (Or.inr rfl)) (Below.refl _ _))
theorem Zg {i : Nat} {o : Oper} {F : Fact} (ho : os[i]? = some o) (hp : pl[i]? = some (.pure F)) (hw : JM w0 bx a0 wr os pl o true)
  (h : ∀ d τ w,RInv w0 bx a0 wr os pl d τ w→Dep o d→¬ d i→∃ v w',(execOp (Qi a0 τ 0 os).eval o).run P w=.ok (.value v) w'∧Below w.heap.size w w'∧F.on v w') :
  AStep P Q os a0 (RInv w0 bx a0 wr os pl) i o := Eg ho hp hw fun d τ w hr hd hn K hK => by
 obtain ⟨v,w',e,hb,hF⟩ := h d τ w hr hd hn
 unfold Oper.wp
 rw [e]
 exact hK v w' hb hF
theorem Qj {i : Nat} {o : Oper} {F : Fact} {x : Operand} (ho : os[i]? = some o) (hp : pl[i]? = some (.pure F)) (hw : JM w0 bx a0 wr os pl o true) (hop : o.op=.move x) (hx : Opn w0 bx a0 wr os pl i o x F) :
  AStep P Q os a0 (RInv w0 bx a0 wr os pl) i o := Zg ho hp hw fun d τ w hr hd hn => ⟨_,w,by unfold execOp; rw [hop]; rfl,Below.refl _ _,hx d τ w hr hd hn⟩
theorem Qk {i : Nat} {o : Oper} {F : Fact} {x : Operand} (ho : os[i]? = some o) (hp : pl[i]? = some (.pure F)) (hw : JM w0 bx a0 wr os pl o true) (hop : o.op=.assign x) (hx : Opn w0 bx a0 wr os pl i o x F) :
  AStep P Q os a0 (RInv w0 bx a0 wr os pl) i o := Zg ho hp hw fun d τ w hr hd hn => ⟨_,w,by unfold execOp; rw [hop]; rfl,Below.refl _ _,hx d τ w hr hd hn⟩
theorem Yz {i : Nat} {o : Oper} {F : Fact} {c x y : Operand} (b : Bool) (ho : os[i]? = some o) (hp : pl[i]? = some (.pure F)) (hw : JM w0 bx a0 wr os pl o true) (hop : o.op=.pick c x y) (hc : Opn w0 bx a0 wr os pl i o c (Jus (.bool b))) (hx : Opn w0 bx a0 wr os pl i o (if b then x else y) F) :
  AStep P Q os a0 (RInv w0 bx a0 wr os pl) i o := Zg ho hp hw fun d τ w hr hd hn => by
 have hx' := hx d τ w hr hd hn
 have hc' : (Qi a0 τ 0 os).eval c=.bool b := hc d τ w hr hd hn
 refine ⟨_,w,?_,Below.refl _ _,hx'⟩
 unfold execOp
 rw [hop]
 simp only [hc']
 cases b <;> rfl
theorem QX {i k : Nat} {o : Oper} {F : Fact} {Fs : List Fact} {x : Operand} (ho : os[i]? = some o) (hp : pl[i]? = some (.pure F)) (hw : JM w0 bx a0 wr os pl o true) (hop : o.op=.extract x k) (hx : Opn w0 bx a0 wr os pl i o x (Tup Fs)) (hk : Fs[k]? = some F) :
  AStep P Q os a0 (RInv w0 bx a0 wr os pl) i o := Zg ho hp hw fun d τ w hr hd hn => by
 obtain ⟨cs,e,hall⟩ := hx d τ w hr hd hn
 obtain ⟨v,hv,hF⟩ := hall.get hk
 refine ⟨v,w,?_,Below.refl _ _,hF⟩
 unfold execOp
 rw [hop]
 simp only [e,Instr.extract,List.getElem?_toArray,hv]
 rfl
theorem QU {i : Nat} {o : Oper} {op : BinOp} {xT yT : TypeId} {x y : Operand} {a b c : Value} (ho : os[i]? = some o) (hp : pl[i]? = some (.pure (Jus c))) (hw : JM w0 bx a0 wr os pl o true) (hop : o.op=.binOp op xT x y yT) (hx : Opn w0 bx a0 wr os pl i o x (Jus a)) (hy : Opn w0 bx a0 wr os pl i o y (Jus b))
  (hr : ∀ w,(do eqGuard op xT x y a b; binOp op xT a b : Sem Value).run P w=.ok c w) :
  AStep P Q os a0 (RInv w0 bx a0 wr os pl) i o := Zg ho hp hw fun d τ w hri hd hn => by
 have hx' : (Qi a0 τ 0 os).eval x=a := hx d τ w hri hd hn
 have hy' : (Qi a0 τ 0 os).eval y=b := hy d τ w hri hd hn
 refine ⟨c,w,?_,Below.refl _ _,rfl⟩
 unfold execOp
 rw [hop]
 show (do pure (Next.value (← (do eqGuard op xT x y ((Qi a0 τ 0 os).eval x) ((Qi a0 τ 0 os).eval y); binOp op xT ((Qi a0 τ 0 os).eval x) ((Qi a0 τ 0 os).eval y) : Sem Value))) : Sem Next).run P w=_
 rw [hx',hy']
 have h := hr w
 revert h
 generalize (do eqGuard op xT x y a b; binOp op xT a b : Sem Value)=s
 intro h
 simp [go_sem,h]
theorem Sj {i : Nat} {o : Oper} {xT : TypeId} {x : Operand} (b : Bool) (ho : os[i]? = some o) (hp : pl[i]? = some (.pure (Jus (.bool (!b))))) (hw : JM w0 bx a0 wr os pl o true) (hop : o.op=.unOp .not xT x) (hx : Opn w0 bx a0 wr os pl i o x (Jus (.bool b))) :
  AStep P Q os a0 (RInv w0 bx a0 wr os pl) i o := Zg ho hp hw fun d τ w hri hd hn => by
 have hx' : (Qi a0 τ 0 os).eval x=.bool b := hx d τ w hri hd hn
 refine ⟨.bool (!b),w,?_,Below.refl _ _,rfl⟩
 unfold execOp
 rw [hop]
 simp only [hx']
 rfl
def Con (P : Program) (Pre : World→Prop) (f : FuncId) (Fs : List Fact) (F : Fact) : Prop :=
 ∀ (w : World) (vs : List Value),Pre w→All2 w Fs vs→Calls P f vs.toArray w fun e w' => Below w.heap.size w w'∧∃ v,e=.returned v∧F.on v w'
theorem QY {f : FuncId} {fn : Func} (hf : P.funcs[f]? = some fn) (hn : (fn.name == "runtime.NumGoroutine") = false) (hb : fn.body.isNone = false) (vs : Array Value) (w : World) : (callFunc f vs).run P w = .ok (.enter f vs) w := by
 have h1 : ¬ fn.name = "runtime.NumGoroutine" := by simpa using hn
 have h2 : ¬ fn.body=none := fun e => by rw [e] at hb; cases hb
 unfold callFunc
 simp [go_sem,hf,h1,h2]
theorem Ql {Pre : World→Prop} {i : Nat} {o : Oper} {f : FuncId} {xs : Array Operand} {ats : Array TypeId} {Fs : List Fact} {F : Fact} (hpre : ∀ w,Below w0.heap.size w0 w→Pre w) (ho : os[i]? = some o) (hp : pl[i]? = some (.pure F)) (hw : JM w0 bx a0 wr os pl o true) (hop : o.op=.call { callee := .value (.func f),args := xs,argTypes := ats })
  (hen : ∀ (vs : Array Value) (w : World),(callFunc f vs).run P w=.ok (.enter f vs) w) (hxs : Opns w0 bx a0 wr os pl i o xs.toList Fs) (hc : Con P Pre f Fs F) :
  AStep P Q os a0 (RInv w0 bx a0 wr os pl) i o := Eg ho hp hw fun d τ w hr hd hn K hK => by
 have hall := hxs.all hr hd hn
 have hcall := hc w _ (hpre w hr.bel) hall
 have e : (execOp (Qi a0 τ 0 os).eval o).run P w=.ok (.enter f (xs.toList.map (Qi a0 τ 0 os).eval).toArray) w := by
  obtain ⟨dst,op,ty,pos,after,guard⟩ := o
  cases hop
  have em : (xs.toList.map (Qi a0 τ 0 os).eval).toArray=#[] ++ xs.map (Qi a0 τ 0 os).eval ++ #[] := by
   apply Array.ext'
   simp
  rw [execOp_call_go,hen,em]
 unfold Oper.wp
 rw [e]
 refine Calls.mono hcall ?_
 rintro _ w' ⟨hb,v,rfl,hF⟩
 exact hK v w' hb hF
theorem Gh {i : Nat} {o : Oper} {t : TypeId} {Fs : Fact} (ho : os[i]? = some o) (hp : pl[i]? = some (.alloc t Fs)) (hw : JM w0 bx a0 wr os pl o true)
  (hf : ∀ (s : Nat) (Fs' : Fact),pl[s]? = some (.fill i Fs')→∃ (o' : Oper) (e : Edge),os[s]? = some o'∧e ∈ o'.after∧e.on=i∧Region.binds .any e=true)
  (h : ∀ d τ w,RInv w0 bx a0 wr os pl d τ w→Dep o d→¬ d i→∃ w',(execOp (Qi a0 τ 0 os).eval o).run P w=.ok (.value (.pointer (some ⟨w.heap.size,0,none⟩))) w'∧Below w.heap.size w w'∧BoxIs w' w.heap.size t Fs) :
  AStep P Q os a0 (RInv w0 bx a0 wr os pl) i o := AStep.mk <| fun d τ w hd hn hr K hK => by
 rw [if_pos (hw d τ w hr hd)]
 obtain ⟨w',e,hb,hB⟩ := h d τ w hr hd hn
 unfold Oper.wp
 rw [e]
 exact hK _ w' (hr.alloc ho hd (fun s Fs' hs q => by
  obtain ⟨o',e,h1,h2,h3,h4⟩ := hf s Fs' hs
  exact hn (h3 ▸ hr.dwn s o' h1 q e h2 h4)) hn hp hb hB)
def Fr (P : Program) (t : TypeId) (F F' : Fact) : Prop :=
 ∀ (w : World) (G : Nat) (F0 : Fact) (v : Value),BoxIs w G t F0→F.on v w→∃ w',(Instr.storeAt t (.pointer (some ⟨G,0,none⟩)) v).run P w=.ok () w'∧Save G w w'∧BoxIs w' G t F'
def Pc (P : Program) (t : TypeId) (F F' : Fact) : Prop :=
 ∀ (w : World) (G : Nat),BoxIs w G t F→∃ v,(Instr.loadAt t (.pointer (some ⟨G,0,none⟩))).run P w=.ok v w∧F'.on v w
def VY (P : Program) (t' : TypeId) (j : Nat) (F F' : Fact) : Prop :=
 ∀ (w : World) (G : Nat) (cs : List Value) (t : TypeId),Blk w G cs.toArray t→F.on (.agg cs.toArray) w→∃ v,(Instr.loadAt t' (.pointer (some ⟨G,j,none⟩))).run P w=.ok v w∧F'.on v w
theorem JO (C : RC w0 n tm bx a0 wr os) {i a k : Nat} {o : Oper} {t ta : TypeId} {x : Operand} {F Fs Fs0 : Fact} {e : Edge} (ho : os[i]? = some o) (hp : pl[i]? = some (.fill a Fs)) (ha : pl[a]? = some (.alloc t Fs0)) (hda : (os[a]?).bind (·.dst)=some ta) (hw : JM w0 bx a0 wr os pl o true) (hop : o.op=.store t (.tmp ta) x)
  (hk : o.after[k]? = some e) (he : e.on=a) (hb : Region.binds .any e=true) (hlt : Nat.blt ta n=true) (hT : PK t=true)
  (hone : ∀ (s : Nat) (Fs' : Fact),pl[s]? = some (.fill a Fs')→s=i)
  (hx : Opn w0 bx a0 wr os pl i o x F) (hst : Fr P t F Fs) :
  AStep P Q os a0 (RInv w0 bx a0 wr os pl) i o := AStep.mk <| fun d τ w hd hn hr K hK => by
 rw [if_pos (hw d τ w hr hd)]
 have hdA : d a := he ▸ hd e (Array.mem_of_getElem? hk) hb
 obtain ⟨G,eG,hge,hltG,hz,_⟩ := hr.alo a t Fs0 ha hdA
 have hB := hz fun s Fs' hs q => by
  have := hone s Fs' hs
  subst this
  exact hn q
 have hv := hx d τ w hr hd hn
 obtain ⟨w',e',hs,hB'⟩ := hst w G Fs0 _ hB hv
 have hat : (Qi a0 τ 0 os).eval (.tmp ta)=.pointer (some ⟨G,0,none⟩) := by
  show (Qi a0 τ 0 os).tmps.getD ta undef=_
  rw [Xi τ os a0 0 a C.nd hda (by rw [C.has.siz]; simpa using hlt),Nat.zero_add,eG]
 have e : (execOp (Qi a0 τ 0 os).eval o).run P w=.ok .skip w' := by
  unfold execOp
  rw [hop]
  simp only [hat]
  revert e'
  generalize Instr.storeAt t (.pointer (some ⟨G,0,none⟩)) ((Qi a0 τ 0 os).eval x)=s
  intro e'
  simp [go_sem,e']
 unfold Oper.wp
 rw [e]
 exact hK undef w' (hr.fill C.has ho hd hp ha hdA eG hone hs (hB.boxed hT) hB')
theorem ZE (C : RC w0 n tm bx a0 wr os) {i k G : Nat} {o : Oper} {t : TypeId} {y x : Operand} {F Fs Fs0 : Fact} (ho : os[i]? = some o) (hp : pl[i]? = some (.over k Fs)) (hbx : bx[k]? = some (G,t,Fs0)) (hw : JM w0 bx a0 wr os pl o true) (hop : o.op=.store t y x)
  (hy : Opn w0 bx a0 wr os pl i o y (Jus (.pointer (some ⟨G,0,none⟩)))) (hT : PK t=true)
  (hone : ∀ (s : Nat) (Fs' : Fact),pl[s]? = some (.over k Fs')→s=i)
  (hx : Opn w0 bx a0 wr os pl i o x F) (hst : Fr P t F Fs) :
  AStep P Q os a0 (RInv w0 bx a0 wr os pl) i o := AStep.mk <| fun d τ w hd hn hr K hK => by
 rw [if_pos (hw d τ w hr hd)]
 have hB := (hr.box k G t Fs0 hbx).1 fun s Fs' hs q => by
  have := hone s Fs' hs
  subst this
  exact hn q
 have hv := hx d τ w hr hd hn
 obtain ⟨w',e',hs,hB'⟩ := hst w G Fs0 _ hB hv
 have hat : (Qi a0 τ 0 os).eval y=.pointer (some ⟨G,0,none⟩) := hy d τ w hr hd hn
 have e : (execOp (Qi a0 τ 0 os).eval o).run P w=.ok .skip w' := by
  unfold execOp
  rw [hop]
  simp only [hat]
  revert e'
  generalize Instr.storeAt t (.pointer (some ⟨G,0,none⟩)) ((Qi a0 τ 0 os).eval x)=s
  intro e'
  simp [go_sem,e']
 unfold Oper.wp
 rw [e]
 exact hK undef w' (hr.over C.has ho hd hp hbx hone hs (hB.boxed hT) hB')
theorem QG {i k G : Nat} {o : Oper} {t : TypeId} {y : Operand} {F Fs : Fact} (ho : os[i]? = some o) (hp : pl[i]? = some (.pure F)) (hbx : bx[k]? = some (G,t,Fs)) (hw : JM w0 bx a0 wr os pl o true) (hop : o.op=.load t y)
  (hy : Opn w0 bx a0 wr os pl i o y (Jus (.pointer (some ⟨G,0,none⟩))))
  (hf : ∀ (s : Nat) (Fs' : Fact),pl[s]? = some (.over k Fs')→∃ (o' : Oper) (e : Edge),os[s]? = some o'∧e ∈ o'.after∧e.on=i∧Region.binds .any e=true)
  (hl : Pc P t Fs F) :
  AStep P Q os a0 (RInv w0 bx a0 wr os pl) i o := Zg ho hp hw fun d τ w hr hd hn => by
 have hB := (hr.box k G t Fs hbx).1 fun s Fs' hs q => by
  obtain ⟨o',e,h1,h2,h3,h4⟩ := hf s Fs' hs
  exact hn (h3 ▸ hr.dwn s o' h1 q e h2 h4)
 obtain ⟨v,e',hF⟩ := hl w G hB
 have hat : (Qi a0 τ 0 os).eval y=.pointer (some ⟨G,0,none⟩) := hy d τ w hr hd hn
 refine ⟨v,w,?_,Below.refl _ _,hF⟩
 unfold execOp
 rw [hop]
 simp only [hat]
 revert e'
 generalize Instr.loadAt t (.pointer (some ⟨G,0,none⟩))=s
 intro e'
 simp [go_sem,e']
theorem Qw {i f : Nat} {o : Oper} {t : TypeId} {x : Operand} {p q : Value} (ho : os[i]? = some o) (hp : pl[i]? = some (.pure (Jus q))) (hw : JM w0 bx a0 wr os pl o true) (hop : o.op=.fieldAddr t x f) (hx : Opn w0 bx a0 wr os pl i o x (Jus p))
  (hr : ∀ w,(Instr.fieldAt t p f).run P w=.ok q w) : AStep P Q os a0 (RInv w0 bx a0 wr os pl) i o := Zg ho hp hw fun d τ w hri hd hn => by
 have hx' : (Qi a0 τ 0 os).eval x=p := hx d τ w hri hd hn
 refine ⟨q,w,?_,Below.refl _ _,rfl⟩
 unfold execOp
 rw [hop]
 show (do pure (Next.value (← Instr.fieldAt t ((Qi a0 τ 0 os).eval x) f)) : Sem Next).run P w=_
 rw [hx']
 have h := hr w
 revert h
 generalize Instr.fieldAt t p f=s
 intro h
 simp [go_sem,h]
theorem QP {i k G j : Nat} {o : Oper} {t t' : TypeId} {y : Operand} {F Fs : Fact} (ho : os[i]? = some o) (hp : pl[i]? = some (.pure F)) (hbx : bx[k]? = some (G,t,Fs)) (hw : JM w0 bx a0 wr os pl o true) (hop : o.op=.load t' y)
  (hy : Opn w0 bx a0 wr os pl i o y (Jus (.pointer (some ⟨G,j,none⟩))))
  (hf : ∀ (s : Nat) (Fs' : Fact),pl[s]? = some (.over k Fs')→∃ (o' : Oper) (e : Edge),os[s]? = some o'∧e ∈ o'.after∧e.on=i∧Region.binds .any e=true)
  (hl : VY P t' j Fs F) :
  AStep P Q os a0 (RInv w0 bx a0 wr os pl) i o := Zg ho hp hw fun d τ w hr hd hn => by
 obtain ⟨cs,hk,hall,_⟩ := (hr.box k G t Fs hbx).1 fun s Fs' hs q => by
  obtain ⟨o',e,h1,h2,h3,h4⟩ := hf s Fs' hs
  exact hn (h3 ▸ hr.dwn s o' h1 q e h2 h4)
 obtain ⟨v,e',hF⟩ := hl w G cs t hk hall
 have hat : (Qi a0 τ 0 os).eval y=.pointer (some ⟨G,j,none⟩) := hy d τ w hr hd hn
 refine ⟨v,w,?_,Below.refl _ _,hF⟩
 unfold execOp
 rw [hop]
 show (do pure (Next.value (← Instr.loadAt t' ((Qi a0 τ 0 os).eval y))) : Sem Next).run P w=_
 rw [hat]
 revert e'
 generalize Instr.loadAt t' (.pointer (some ⟨G,j,none⟩))=s
 intro e'
 simp [go_sem,e']
theorem Ko {i : Nat} {o : Oper} {t : TypeId} {parts : Array (Nat × Operand)} {F : Fact} {Fs : List Fact} (ho : os[i]? = some o) (hp : pl[i]? = some (.pure F)) (hw : JM w0 bx a0 wr os pl o true) (hop : o.op=.build t parts)
  (hx : Opns w0 bx a0 wr os pl i o (parts.toList.map (·.2)) Fs) (hb : ∀ (w : World) (ρ : Operand→Value),All2 w Fs ((parts.toList.map (·.2)).map ρ)→∃ v,(Instr.build t (parts.map fun (i,x) => (i,ρ x))).run P w=.ok v w∧F.on v w) :
  AStep P Q os a0 (RInv w0 bx a0 wr os pl) i o := Zg ho hp hw fun d τ w hri hd hn => by
 obtain ⟨v,e,hF⟩ := hb w _ (hx.all hri hd hn)
 refine ⟨v,w,?_,Below.refl _ _,hF⟩
 unfold execOp
 rw [hop]
 show (do pure (Next.value (← Instr.build t (parts.map fun (i,x) => (i,(Qi a0 τ 0 os).eval x)))) : Sem Next).run P w=_
 revert e
 generalize Instr.build t (parts.map fun (i,x) => (i,(Qi a0 τ 0 os).eval x))=s
 intro e
 simp [go_sem,e]
structure BehN (pl : List Plan) (γ : Nat→Nat) (bx : List (Nat × TypeId × Fact)) (w w' : World) : Prop extends Beh bx w w' where
 fresh : ∀ x ∈ JQ γ pl 0 pl,w.heap.size≤x.1
theorem Rr {γ : Nat→Nat} {pl : List Plan} {B : Nat} (h : ∀ k t Fs,pl[k]? = some (.alloc t Fs)→B≤γ k) : ∀ x ∈ JQ γ pl 0 pl,B≤x.1 := fun ⟨G,t,Fs⟩ hx => by
 obtain ⟨k,Fs0,h1,h2,_⟩ := Jx hx
 rw [Nat.zero_add] at h2
 show B≤G
 rw [h2]
 exact h k t Fs0 h1
theorem Qz {id : Nat} {dr : Bool} (pl : List Plan) (C : RC w0 n tm bx a0 wr os) (hm : P.follows .mixedOrders=true) (ht : topoOps 0 os=true)
  (hlen : pl.length=os.length) (hbd : os.all (fun o => match o.dst with | some t => Nat.blt t n | none => true)=true)
  (hs : RC w0 n tm bx a0 wr os→ASteps P Q os a0 (RInv w0 bx a0 wr os pl) 0 os)
  (hd : ∀ (γ : Nat→Nat) (a : Act) (w : World),AS w0 n (WM γ 0 os pl tm) (ZT pl 0 bx ++ JQ γ pl 0 pl) a w→Q .normal a w) : (Code.region id os.toArray dr).wp P Q a0 wr := by
 refine On (RInv w0 bx a0 wr os pl) hm C.nd ht (RInv.init C.has (Below.drew (Below.refl _ _))) (RInv.init C.has (Below.refl _ _)) (hs C).ops ?_
 intro d τ w hall hr
 obtain ⟨γ,hf,h⟩ := hr.done C.has hall hlen (fun o ho t ht => by
  have := List.all_eq_true.1 hbd o ho
  rw [ht] at this
  simpa using this)
 exact hd γ _ w h
theorem Qn {id : Nat} {dr : Bool} (pl : List Plan) (C : RC w0 n tm bx a0 wr os) (hm : P.follows .mixedOrders=true) (ht : topoOps 0 os=true)
  (hlen : pl.length=os.length) (hbd : os.all (fun o => match o.dst with | some t => Nat.blt t n | none => true)=true)
  (hs : RC w0 n tm bx a0 wr os→ASteps P Q os a0 (RInv w0 bx a0 wr os pl) 0 os)
  (hd : ∀ (γ : Nat→Nat) (a : Act) (w : World),BehN pl γ bx wr w→AS w0 n (WM γ 0 os pl tm) (ZT pl 0 bx ++ JQ γ pl 0 pl) a w→Q .normal a w) : (Code.region id os.toArray dr).wp P Q a0 wr := by
 refine On (RInv w0 bx a0 wr os pl) hm C.nd ht (RInv.init C.has (Below.drew (Below.refl _ _))) (RInv.init C.has (Below.refl _ _)) (hs C).ops ?_
 intro d τ w hall hr
 obtain ⟨γ,hf,h⟩ := hr.done C.has hall hlen (fun o ho t ht => by
  have := List.all_eq_true.1 hbd o ho
  rw [ht] at this
  simpa using this)
 exact hd γ _ w ⟨⟨hr.gro,hr.frm⟩,Rr hf⟩ h
theorem AS.sub {a : Act} {w : World} {tm' : List (Nat × Fact)} (h : AS w0 n tm bx a w) (hs : ∀ x ∈ tm',x ∈ tm) : AS w0 n tm' bx a w := ⟨h.bel,h.siz,h.nod,fun t F hm => h.tmp t F (hs _ hm),h.box,h.dis⟩
def keepTm (ks : List Nat) (tm : List (Nat × Fact)) : List (Nat × Fact) := tm.filter (fun x => ks.any (fun k => Nat.beq k x.1))
theorem AS.keep {a : Act} {w : World} (ks : List Nat) (h : AS w0 n tm bx a w) : AS w0 n (keepTm ks tm) bx a w := h.sub fun _ hx => (List.mem_filter.1 hx).1
theorem AS.val {a : Act} {w : World} (h : AS w0 n tm bx a w) (k : Nat) {t : Nat} {v : Value} (hk : tm[k]? = some (t,Jus v)) : a.eval (.tmp t)=v := h.tmp t _ (List.mem_of_getElem? hk)
theorem AS.fact {a : Act} {w : World} (h : AS w0 n tm bx a w) (k : Nat) {t : Nat} {F : Fact} (hk : tm[k]? = some (t,F)) : F.on (a.tmps.getD t undef) w := h.tmp t _ (List.mem_of_getElem? hk)
end
theorem AS.ret {P : Program} {fn : Func} {R : Ending→World→Prop} {w0 : World} {n : Nat} {tm : List (Nat × Fact)} {bx : List (Nat × TypeId × Fact)} {a : Act} {w : World} (h : AS w0 n tm bx a w) (k : Nat) {t : Tmp} {F : Fact} (hr : fn.results=#[.tmp t]) (hk : tm[k]? = some (t,F)) (hR : ∀ v,F.on v w→R (.returned v) w) : bodyPost P fn R .ret a w :=
 ⟨h.nod,a.tmps.getD t undef,by unfold results; rw [hr]; simp [go_sem],hR _ (h.tmp t F (List.mem_of_getElem? hk))⟩
theorem AS.retCell {P : Program} {fn : Func} {R : Ending→World→Prop} {w0 : World} {n : Nat} {tm : List (Nat × Fact)} {bx : List (Nat × TypeId × Fact)} {a : Act} {w : World} (h : AS w0 n tm bx a w) (k b : Nat) {t : Tmp} {ty : TypeId} {G : Nat} {F Fs : Fact} (hr : fn.results=#[.cell t ty]) (hk : tm[k]? = some (t,Jus (.pointer (some ⟨G,0,none⟩)))) (hb : bx[b]? = some (G,ty,Fs)) (hl : Pc P ty Fs F) (hR : ∀ v,F.on v w→R (.returned v) w) : bodyPost P fn R .ret a w := by
 obtain ⟨v,e,hF⟩ := hl w G (h.box b G ty Fs hb).2
 have hv : a.tmps.getD t undef=.pointer (some ⟨G,0,none⟩) := h.tmp t _ (List.mem_of_getElem? hk)
 refine ⟨h.nod,v,?_,hR v hF⟩
 have e2 : (loadVar ty ⟨G,0,none⟩).run P w=.ok v w := by
  have : Instr.loadAt ty (.pointer (some ⟨G,0,none⟩))=loadVar ty ⟨G,0,none⟩ := rfl
  rw [← this]
  exact e
 unfold results
 rw [hr]
 have e3 : ((do loadVar ty (← asAddr (a.tmps.getD t undef)) : Sem Value)).run P w=.ok v w := by
  rw [hv]
  exact e2
 revert e3
 simp only [List.mapM_toArray,List.mapM_cons,List.mapM_nil]
 generalize (do loadVar ty (← asAddr (a.tmps.getD t undef)) : Sem Value)=s
 intro e3
 simp [go_sem,e3]
theorem AS.start {w : World} {n : Nat} {tm : List (Nat × Fact)} (a : Act) (hs : a.tmps.size=n) (hd : a.defers=[]) (ht : ∀ t F,(t,F) ∈ tm→F.on (a.tmps.getD t undef) w) : AS w n tm [] a w := ⟨Below.refl _ _,hs,hd,ht,fun k G t Fs h => by simp at h,List.nodup_nil⟩
theorem Im {K : Act→World→Prop} {Q : Exit→Act→World→Prop} {a : Act} {w : World} (h : Q .ret a w) : Exit.then K Q .ret a w := h
theorem Xh {K : Act→World→Prop} {Q : Exit→Act→World→Prop} {i : Nat} {a : Act} {w : World} (h : Q (.exit i) a w) : Exit.then K Q (.exit i) a w := h
theorem Qe {K : Act→World→Prop} {Q : Exit→Act→World→Prop} {a : Act} {w : World} (h : K a w) : Exit.then K Q .normal a w := h
theorem XB {id : Nat} {Q : Exit→Act→World→Prop} {a : Act} {w : World} (h : Q .normal a w) : Exit.inBlock id Q .normal a w := h
theorem Yr {id : Nat} {Q : Exit→Act→World→Prop} {a : Act} {w : World} (h : Q .normal a w) : Exit.inBlock id Q (.exit id) a w := by
 show (if id=id then Q .normal a w else Q (.exit id) a w)
 rw [if_pos rfl]
 exact h
def numb : Nat→List Fact→List (Nat × Fact)
 | _,[] => []
 | i,F :: Fs => (i,F) :: numb (i+1) Fs
theorem Kg : ∀ {Fs : List Fact} {i t : Nat} {F : Fact},(t,F) ∈ numb i Fs→∃ k,t=i+k∧Fs[k]? = some F
 | [],_,_,_,h => by cases h
 | G :: Fs,i,t,F,h => by
  rcases List.mem_cons.1 h with e | h
  ·cases e
   exact ⟨0,rfl,rfl⟩
  ·obtain ⟨k,e,hk⟩ := Kg h
   exact ⟨k+1,by omega,by simpa using hk⟩
theorem Uv {P : Program} {Pre : World→Prop} {f : FuncId} {fn : Func} {c : Code} {Fs : List Fact} {F : Fact} {n : Nat} (hf : P.funcs[f]? = some fn) (hb : fn.body=some c) (hn : fn.ntmps=n) (hle : Fs.length≤n)
  (h : ∀ (w : World) (a : Act),Pre w→AS w n (numb 0 Fs) [] a w→c.wp P (bodyPost P fn (fun e w' => Below w.heap.size w w'∧∃ v,e=.returned v∧F.on v w')) a w) : Con P Pre f Fs F := fun w vs hp hall => by
 refine calls_of_wp hf hb (h w _ hp (AS.start _ ?_ rfl ?_))
 ·have := hall.len
  simp [hn]
  omega
 ·intro t G hm
  obtain ⟨k,e,hk⟩ := Kg hm
  rw [Nat.zero_add] at e
  subst e
  obtain ⟨v,hv,hG⟩ := hall.get hk
  have hlt : t < vs.length := (List.getElem?_eq_some_iff.1 hv).1
  have : (vs.toArray ++ Array.replicate (fn.ntmps - vs.toArray.size) undef).getD t undef=v := by
   rw [Array.getD_eq_getD_getElem?,Array.getElem?_append_left (by simpa using hlt)]
   simp [hv]
  rw [this]
  exact hG
end Go.Proofs.YtnhplfjlhdpgoaaGreatDoor
/- WC -/
namespace Go.Proofs.YtnhplfjlhdpgoaaGreatDoor
open Go.RowKit Cx
attribute [local go_sem ↓] Go.wp_at_zero Go.wp_at_succ
theorem GH {w : World} {cax cay cq : C3} {ax ay q : Rat} (hax : QV w (.agg #[.bool cax.n,.slice cax.u cax.nu cax.cu,.slice cax.l cax.nl cax.cl]) ax) (hay : QV w (.agg #[.bool cay.n,.slice cay.u cay.nu cay.cu,.slice cay.l cay.nl cay.cl]) ay) (hq : QV w (.agg #[.bool cq.n,.slice cq.u cq.nu cq.cu,.slice cq.l cq.nl cq.cl]) q) {k l : Nat} (f1 : QS k ax) (f2 : QS k ay) (f3 : QS l q) (hk : k+l+1≤35184372088640) :
  Calls Tryz.prog 60 #[.agg #[.bool cax.n,.slice cax.u cax.nu cax.cu,.slice cax.l cax.nl cax.cl,.bool cay.n,.slice cay.u cay.nu cay.cu,.slice cay.l cay.nl cay.cl],.agg #[.bool cq.n,.slice cq.u cq.nu cq.cu,.slice cq.l cq.nl cq.cl]] w fun e w' => Below w.heap.size w w'∧∃ v,e=.returned v∧WV w' v (ax*q) (ay*q) := by
 obtain ⟨hb0,hk0,hk1,hk2,hsz⟩ := Lu w #[.bool cax.n,.slice cax.u cax.nu cax.cu,.slice cax.l cax.nl cax.cl,.bool cay.n,.slice cay.u cay.nu cay.cu,.slice cay.l cay.nl cay.cl] #[.bool cq.n,.slice cq.u cq.nu cq.cu,.slice cq.l cq.nl cq.cl] #[.bool false,.slice none 0 0,.slice none 0 0,.bool false,.slice none 0 0,.slice none 0 0] 61 58 61
 have HB0 := Qd hb0
 have HSZ := Qd hsz
 have HK0 := Qd hk0
 have HK1 := Qd hk1
 have HK2 := Qd hk2
 have Hax := Qd (hax.below hb0)
 have Hay := Qd (hay.below hb0)
 have Hq := Qd (hq.below hb0)
 have F1 := Qd f1
 have F2 := Qd f2
 have F3 := Qd f3
 have HK := Qd hk
 clear hb0 hsz hk0 hk1 hk2 hax hay hq f1 f2 f3 hk
 go_enter Tryz.func60,Tryz.ntmps60
 go_wp2_with fail
 generalize (((w.alloc (.cells #[.bool cax.n,.slice cax.u cax.nu cax.cu,.slice cax.l cax.nl cax.cl,.bool cay.n,.slice cay.u cay.nu cay.cu,.slice cay.l cay.nl cay.cl] 61)).alloc (.cells #[.bool cq.n,.slice cq.u cq.nu cq.cu,.slice cq.l cq.nl cq.cl] 58)).alloc (.cells #[.bool false,.slice none 0 0,.slice none 0 0,.bool false,.slice none 0 0,.slice none 0 0] 61))=W0 at *
 have HS : Hid (∀ w',Below W0.heap.size W0 w'→w'.cell? ⟨w.heap.size,0,none⟩=some (.bool cax.n)∧w'.cell? ⟨w.heap.size,1,none⟩=some (.slice cax.u cax.nu cax.cu)∧w'.cell? ⟨w.heap.size,2,none⟩=some (.slice cax.l cax.nl cax.cl)∧w'.cell? ⟨w.heap.size,3,none⟩=some (.bool cay.n)∧w'.cell? ⟨w.heap.size,4,none⟩=some (.slice cay.u cay.nu cay.cu)∧w'.cell? ⟨w.heap.size,5,none⟩=some (.slice cay.l cay.nl cay.cl)∧w'.cell? ⟨w.heap.size+1,0,none⟩=some (.bool cq.n)∧w'.cell? ⟨w.heap.size+1,1,none⟩=some (.slice cq.u cq.nu cq.cu)∧w'.cell? ⟨w.heap.size+1,2,none⟩=some (.slice cq.l cq.nl cq.cl)) := fun w' hb => ⟨(HK0.out.below hb (by rw [HSZ.out]; omega)).cell 0,(HK0.out.below hb (by rw [HSZ.out]; omega)).cell 1,(HK0.out.below hb (by rw [HSZ.out]; omega)).cell 2,(HK0.out.below hb (by rw [HSZ.out]; omega)).cell 3,(HK0.out.below hb (by rw [HSZ.out]; omega)).cell 4,(HK0.out.below hb (by rw [HSZ.out]; omega)).cell 5,(HK1.out.below hb (by rw [HSZ.out]; omega)).cell 0,(HK1.out.below hb (by rw [HSZ.out]; omega)).cell 1,(HK1.out.below hb (by rw [HSZ.out]; omega)).cell 2⟩
 have HSS : Hid (∀ w',Below W0.heap.size W0 w'→∀ x0 x1 x2 x3 x4 x5 : Value,((((((w'.setCell ⟨w.heap.size+1+1,0,none⟩ (x0)).setCell ⟨w.heap.size+1+1,1,none⟩ (x1)).setCell ⟨w.heap.size+1+1,2,none⟩ (x2)).setCell ⟨w.heap.size+1+1,3,none⟩ (x3)).setCell ⟨w.heap.size+1+1,4,none⟩ (x4)).setCell ⟨w.heap.size+1+1,5,none⟩ (x5)).cell? ⟨w.heap.size,0,none⟩=some (.bool cax.n)∧((((((w'.setCell ⟨w.heap.size+1+1,0,none⟩ (x0)).setCell ⟨w.heap.size+1+1,1,none⟩ (x1)).setCell ⟨w.heap.size+1+1,2,none⟩ (x2)).setCell ⟨w.heap.size+1+1,3,none⟩ (x3)).setCell ⟨w.heap.size+1+1,4,none⟩ (x4)).setCell ⟨w.heap.size+1+1,5,none⟩ (x5)).cell? ⟨w.heap.size,1,none⟩=some (.slice cax.u cax.nu cax.cu)∧((((((w'.setCell ⟨w.heap.size+1+1,0,none⟩ (x0)).setCell ⟨w.heap.size+1+1,1,none⟩ (x1)).setCell ⟨w.heap.size+1+1,2,none⟩ (x2)).setCell ⟨w.heap.size+1+1,3,none⟩ (x3)).setCell ⟨w.heap.size+1+1,4,none⟩ (x4)).setCell ⟨w.heap.size+1+1,5,none⟩ (x5)).cell? ⟨w.heap.size,2,none⟩=some (.slice cax.l cax.nl cax.cl)∧((((((w'.setCell ⟨w.heap.size+1+1,0,none⟩ (x0)).setCell ⟨w.heap.size+1+1,1,none⟩ (x1)).setCell ⟨w.heap.size+1+1,2,none⟩ (x2)).setCell ⟨w.heap.size+1+1,3,none⟩ (x3)).setCell ⟨w.heap.size+1+1,4,none⟩ (x4)).setCell ⟨w.heap.size+1+1,5,none⟩ (x5)).cell? ⟨w.heap.size,3,none⟩=some (.bool cay.n)∧((((((w'.setCell ⟨w.heap.size+1+1,0,none⟩ (x0)).setCell ⟨w.heap.size+1+1,1,none⟩ (x1)).setCell ⟨w.heap.size+1+1,2,none⟩ (x2)).setCell ⟨w.heap.size+1+1,3,none⟩ (x3)).setCell ⟨w.heap.size+1+1,4,none⟩ (x4)).setCell ⟨w.heap.size+1+1,5,none⟩ (x5)).cell? ⟨w.heap.size,4,none⟩=some (.slice cay.u cay.nu cay.cu)∧((((((w'.setCell ⟨w.heap.size+1+1,0,none⟩ (x0)).setCell ⟨w.heap.size+1+1,1,none⟩ (x1)).setCell ⟨w.heap.size+1+1,2,none⟩ (x2)).setCell ⟨w.heap.size+1+1,3,none⟩ (x3)).setCell ⟨w.heap.size+1+1,4,none⟩ (x4)).setCell ⟨w.heap.size+1+1,5,none⟩ (x5)).cell? ⟨w.heap.size,5,none⟩=some (.slice cay.l cay.nl cay.cl)∧((((((w'.setCell ⟨w.heap.size+1+1,0,none⟩ (x0)).setCell ⟨w.heap.size+1+1,1,none⟩ (x1)).setCell ⟨w.heap.size+1+1,2,none⟩ (x2)).setCell ⟨w.heap.size+1+1,3,none⟩ (x3)).setCell ⟨w.heap.size+1+1,4,none⟩ (x4)).setCell ⟨w.heap.size+1+1,5,none⟩ (x5)).cell? ⟨w.heap.size+1,0,none⟩=some (.bool cq.n)∧((((((w'.setCell ⟨w.heap.size+1+1,0,none⟩ (x0)).setCell ⟨w.heap.size+1+1,1,none⟩ (x1)).setCell ⟨w.heap.size+1+1,2,none⟩ (x2)).setCell ⟨w.heap.size+1+1,3,none⟩ (x3)).setCell ⟨w.heap.size+1+1,4,none⟩ (x4)).setCell ⟨w.heap.size+1+1,5,none⟩ (x5)).cell? ⟨w.heap.size+1,1,none⟩=some (.slice cq.u cq.nu cq.cu)∧((((((w'.setCell ⟨w.heap.size+1+1,0,none⟩ (x0)).setCell ⟨w.heap.size+1+1,1,none⟩ (x1)).setCell ⟨w.heap.size+1+1,2,none⟩ (x2)).setCell ⟨w.heap.size+1+1,3,none⟩ (x3)).setCell ⟨w.heap.size+1+1,4,none⟩ (x4)).setCell ⟨w.heap.size+1+1,5,none⟩ (x5)).cell? ⟨w.heap.size+1,2,none⟩=some (.slice cq.l cq.nl cq.cl)) := fun w' hb x0 x1 x2 x3 x4 x5 => ⟨((HK0.out.below hb (by rw [HSZ.out]; omega)).off6 (g := w.heap.size+1+1) (by omega) x0 x1 x2 x3 x4 x5).cell 0,((HK0.out.below hb (by rw [HSZ.out]; omega)).off6 (g := w.heap.size+1+1) (by omega) x0 x1 x2 x3 x4 x5).cell 1,((HK0.out.below hb (by rw [HSZ.out]; omega)).off6 (g := w.heap.size+1+1) (by omega) x0 x1 x2 x3 x4 x5).cell 2,((HK0.out.below hb (by rw [HSZ.out]; omega)).off6 (g := w.heap.size+1+1) (by omega) x0 x1 x2 x3 x4 x5).cell 3,((HK0.out.below hb (by rw [HSZ.out]; omega)).off6 (g := w.heap.size+1+1) (by omega) x0 x1 x2 x3 x4 x5).cell 4,((HK0.out.below hb (by rw [HSZ.out]; omega)).off6 (g := w.heap.size+1+1) (by omega) x0 x1 x2 x3 x4 x5).cell 5,((HK1.out.below hb (by rw [HSZ.out]; omega)).off6 (g := w.heap.size+1+1) (by omega) x0 x1 x2 x3 x4 x5).cell 0,((HK1.out.below hb (by rw [HSZ.out]; omega)).off6 (g := w.heap.size+1+1) (by omega) x0 x1 x2 x3 x4 x5).cell 1,((HK1.out.below hb (by rw [HSZ.out]; omega)).off6 (g := w.heap.size+1+1) (by omega) x0 x1 x2 x3 x4 x5).cell 2⟩
 obtain ⟨z0,z1,z2,z3,z4,z5,z6,z7,z8⟩ := HS.out W0 (Below.refl _ _)
 go_region_held3 (fun w' => w'.cell? ⟨w.heap.size,0,none⟩=some (.bool cax.n)∧w'.cell? ⟨w.heap.size,1,none⟩=some (.slice cax.u cax.nu cax.cu)∧w'.cell? ⟨w.heap.size,2,none⟩=some (.slice cax.l cax.nl cax.cl)∧w'.cell? ⟨w.heap.size,3,none⟩=some (.bool cay.n)∧w'.cell? ⟨w.heap.size,4,none⟩=some (.slice cay.u cay.nu cay.cu)∧w'.cell? ⟨w.heap.size,5,none⟩=some (.slice cay.l cay.nl cay.cl)∧w'.cell? ⟨w.heap.size+1,0,none⟩=some (.bool cq.n)∧w'.cell? ⟨w.heap.size+1,1,none⟩=some (.slice cq.u cq.nu cq.cu)∧w'.cell? ⟨w.heap.size+1,2,none⟩=some (.slice cq.l cq.nl cq.cl)) (first | go_keep | exact hs1 | exact hs2 | exact hkS)
  (first
   | (go_at_call_of 65 (Value.agg #[Value.bool cax.n,Value.slice cax.u cax.nu cax.cu,Value.slice cax.l cax.nl cax.cl]); refine (XZ (w := W0.drew) (Hax.out.below (Below.drew (Below.refl _ _))) (Hq.out.below (Below.drew (Below.refl _ _))) F1.out F3.out HK.out).mono ?_; rintro e w1 ⟨hb1,v1,rfl,hv1⟩; have hbl1 : Below W0.heap.size W0 w1 := (Below.drew (Below.refl _ W0)).trans hb1; obtain ⟨d1,rfl⟩ := JC hv1; have hs1 := HS.out w1 hbl1)
   | (go_at_call_of 65 (Value.agg #[Value.bool cay.n,Value.slice cay.u cay.nu cay.cu,Value.slice cay.l cay.nl cay.cl]); refine (XZ (Hay.out.below hbl1) (Hq.out.below hbl1) F2.out F3.out HK.out).mono ?_; rintro e w2 ⟨hb2,v2,rfl,hv2⟩; have hbl2 := hbl1.trans (hb2.mono hbl1.size); obtain ⟨d2,rfl⟩ := JC hv2; have hs2 := HS.out w2 hbl2; have hkr := HK2.out.below hbl2 (by rw [HSZ.out]; omega); obtain ⟨r0,r1,r2,r3,r4,r5,f0,f1,f2,f3,f4,f5⟩ := hkr.all6; have hkS := HSS.out w2 hbl2 (.bool d1.n) (.slice d1.u d1.nu d1.cu) (.slice d1.l d1.nl d1.cl) (.bool d2.n) (.slice d2.u d2.nu d2.cu) (.slice d2.l d2.nl d2.cl))
   )
 all_goals
  go_wp2
  obtain ⟨k0,k1,k2,k3,k4,k5,_,_,_,_,_,_⟩ := (hkr.put6 (.bool d1.n) (.slice d1.u d1.nu d1.cu) (.slice d1.l d1.nl d1.cl) (.bool d2.n) (.slice d2.u d2.nu d2.cu) (.slice d2.l d2.nl d2.cl)).all6
  refine bodyPost_ret (v := .agg #[.bool d1.n,.slice d1.u d1.nu d1.cu,.slice d1.l d1.nl d1.cl,.bool d2.n,.slice d2.u d2.nu d2.cu,.slice d2.l d2.nl d2.cl]) (by simp [results,Tryz.results60,go_sem,k0,k1,k2,k3,k4,k5]) rfl ⟨Below.put6 (HB0.out.trans (hbl2.mono HB0.out.size)) (by omega) (.bool d1.n) (.slice d1.u d1.nu d1.cu) (.slice d1.l d1.nl d1.cl) (.bool d2.n) (.slice d2.u d2.nu d2.cu) (.slice d2.l d2.nl d2.cl),_,rfl,?_⟩
  have hst := Stays.put6 hkr (by simp [Qm]) (.bool d1.n) (.slice d1.u d1.nu d1.cu) (.slice d1.l d1.nl d1.cl) (.bool d2.n) (.slice d2.u d2.nu d2.cu) (.slice d2.l d2.nl d2.cl) rfl rfl rfl rfl rfl rfl
  exact ⟨d1,d2,rfl,hst.qv (hv1.below hb2),hst.qv hv2⟩
theorem TP {w : World} {va vb : Value} {ax ay q : Rat} {k l : Nat} (ha : WV w va ax ay) (hb : QV w vb q) (f1 : QS k ax) (f2 : QS k ay) (f3 : QS l q) (hk : k+l+1≤35184372088640) :
  Calls Tryz.prog 60 #[va,vb] w fun e w' => Below w.heap.size w w'∧∃ v,e=.returned v∧WV w' v (ax*q) (ay*q) := by
 obtain ⟨c1,c2,rfl,h1,h2⟩ := ha
 obtain ⟨c3,rfl⟩ := JC hb
 exact GH h1 h2 hb f1 f2 f3 hk
end Go.Proofs.YtnhplfjlhdpgoaaGreatDoor
/- WE -/
namespace Go.Proofs.YtnhplfjlhdpgoaaGreatDoor
open Go.RowKit Cx
attribute [local go_sem ↓] Go.wp_at_zero Go.wp_at_succ
def QRow (w : World) (v : Value) (qs : List Rat) : Prop :=
 ∃ b off cap,v=.slice (some ⟨b,off,none⟩) qs.length cap∧b < w.heap.size∧∀ (j : Nat) (hj : j < qs.length),∃ c : C3,
  w.cell? ⟨b,off+j*3,none⟩=some (.bool c.n)∧w.cell? ⟨b,off+j*3+1,none⟩=some (.slice c.u c.nu c.cu)∧w.cell? ⟨b,off+j*3+2,none⟩=some (.slice c.l c.nl c.cl)∧QV w (.agg #[.bool c.n,.slice c.u c.nu c.cu,.slice c.l c.nl c.cl]) (qs[j]'hj)
theorem Ae {b off n cap k : Nat} (hk : k < n) (wx : World) : (Instr.indexAt 54 (.slice (some ⟨b,off,none⟩) n cap) (.int .i64 k)).run Tryz.prog wx=.ok (.pointer (some ⟨b,off+k*3,none⟩)) wx := by
 have he : Tryz.prog.elem 54=58 := by simp [Program.elem,Tryz.underlying54]
 rw [run_indexAt_slice (h := by rw [he]; exact Tryz.underlying54),if_pos (by omega),he,Tryz.sizeOf58]
 simp [Result.andThen,Addr.add]
def rsum (qs : List Rat) : Rat := qs.foldl (fun a q => a+q) 0
theorem Pi {qs : List Rat} {k : Nat} (h : k < qs.length) : rsum (qs.take (k+1))=rsum (qs.take k)+qs[k] := by
 unfold rsum
 rw [List.take_succ_eq_append_getElem h,List.foldl_append]
 rfl
theorem QS.rsum {K : Nat} : ∀ {qs : List Rat} (_ : ∀ q ∈ qs,QS K q) (k : Nat),QS (k*(K+1)+1) (rsum (qs.take k))
 | qs,_,0 => by rw [List.take_zero]; exact QS.zero.mono (by omega)
 | qs,h,k+1 => by
  have ih := QS.rsum h k
  by_cases hk : k < qs.length
  ·rw [Pi hk]
   refine (ih.add (h _ (List.getElem_mem hk))).mono ?_
   rw [Nat.succ_mul]; omega
  ·rw [List.take_of_length_le (by omega)]
   rw [List.take_of_length_le (by omega)] at ih
   exact ih.mono (by rw [Nat.succ_mul]; omega)
theorem LQ {w : World} {b off cap : Nat} {qs : List Rat} (h : QRow w (.slice (some ⟨b,off,none⟩) qs.length cap) qs) {K : Nat} (f : ∀ q ∈ qs,QS K q) (hn : qs.length≤1000000) (hk : qs.length*(K+1)+1≤35184372088640) :
  Calls Tryz.prog 157 #[.slice (some ⟨b,off,none⟩) qs.length cap] w fun e w' => Below w.heap.size w w'∧∃ v,e=.returned v∧QV w' v (rsum qs) := by
 obtain ⟨hb0,hk0,hk1,hsz⟩ := boxes2 w #[.bool false,.slice none 0 0,.slice none 0 0] #[.bool false,.slice none 0 0,.slice none 0 0] 58 58
 have HB0 := Qd hb0
 have HSZ := Qd hsz
 have HK0 := Qd hk0
 have HK1 := Qd hk1
 have HR := Qd h
 have F := Qd f
 have HK := Qd hk
 clear hb0 hsz hk0 hk1 h f hk
 go_enter Tryz.func157,Tryz.ntmps157
 go_wp2
 generalize ((w.alloc (.cells #[.bool false,.slice none 0 0,.slice none 0 0] 58)).alloc (.cells #[.bool false,.slice none 0 0,.slice none 0 0] 58))=W0 at *
 go_loopw [8] (fun i wr => ∃ k : Nat,k≤qs.length∧i=.int .i64 (k : Int)∧Blk wr w.heap.size #[.bool false,.slice none 0 0,.slice none 0 0] 58∧Below w.heap.size w wr∧∃ c : C3,Blk wr (w.heap.size+1) #[.bool c.n,.slice c.u c.nu c.cu,.slice c.l c.nl c.cl] 58∧QV wr (.agg #[.bool c.n,.slice c.u c.nu c.cu,.slice c.l c.nl c.cl]) (rsum (qs.take k))) (fun i _ => qs.length - (intOf i).toNat)
 case atStart =>
  refine ⟨0,Nat.zero_le _,rfl,HK0.out,HB0.out,⟨false,none,0,0,none,0,0⟩,HK1.out,?_⟩
  rw [List.take_zero]
  exact SM _
 case round =>
  obtain ⟨k,hkl,rfl,hk0,hbel,c,hk1,hq⟩ := hrel
  have HQ := Qd hq
  have HK0' := Qd hk0
  have HK1' := Qd hk1
  have hlt1 := Qd hk1.lt
  have hsz' := Qd hbel.size
  obtain ⟨y0,y1,y2,g0,g1,g2⟩ := hk1.all3
  obtain ⟨x0,x1,x2,e0,e1,e2⟩ := hk0.all3
  clear hq hk0 hk1
  by_cases hend : k=qs.length
  ·subst hend
   go_wp2
   obtain ⟨r0,r1,r2,_,_,_⟩ := (HK0'.out.put3 (.bool c.n) (.slice c.u c.nu c.cu) (.slice c.l c.nl c.cl)).all3
   refine bodyPost_ret (v := .agg #[.bool c.n,.slice c.u c.nu c.cu,.slice c.l c.nl c.cl]) (by simp [results,Tryz.results157,go_sem,r0,r1,r2]) rfl ⟨Below.put3 hbel (Nat.le_refl _) _ _ _,_,rfl,?_⟩
   have hst := Stays.put3 HK0'.out (by simp [Qm]) (.bool c.n) (.slice c.u c.nu c.cu) (.slice c.l c.nl c.cl) rfl rfl rfl
   have := hst.qv HQ.out
   rwa [List.take_length] at this
  ·have hlt : k < qs.length := by omega
   have hidx := Ae (b := b) (off := off) (cap := cap) hlt
   obtain ⟨b',off',cap',e,hbl,hcells⟩ := HR.out
   cases e
   obtain ⟨d,d0,d1,d2,hd⟩ := hcells k hlt
   have HD := Qd (hd.below hbel)
   have z0 := (hbel.cell (p := ⟨b,off+k*3,none⟩) hbl).trans d0
   have z1 := (hbel.cell (p := ⟨b,off+k*3+1,none⟩) hbl).trans d1
   have z2 := (hbel.cell (p := ⟨b,off+k*3+2,none⟩) hbl).trans d2
   have FS := Qd (QS.rsum F.out k)
   have FQ := Qd (F.out _ (List.getElem_mem hlt))
   have HKK : Hid (k*(K+1)+1+K+1≤35184372088640) := by
    have h1 := HK.out
    have h2 : (k+1)*(K+1)≤qs.length*(K+1) := Nat.mul_le_mul_right _ hlt
    rw [Nat.succ_mul] at h2
    show _≤_
    omega
   clear d0 d1 d2 hd hcells
   have a0 : ∀ o,(wr.alloc o).cell? ⟨w.heap.size+1,0,none⟩=some (.bool c.n) := fun o => (HK1'.out.below (Qh wr o) hlt1.out).cell 0
   have a1 : ∀ o,(wr.alloc o).cell? ⟨w.heap.size+1,1,none⟩=some (.slice c.u c.nu c.cu) := fun o => (HK1'.out.below (Qh wr o) hlt1.out).cell 1
   have a2 : ∀ o,(wr.alloc o).cell? ⟨w.heap.size+1,2,none⟩=some (.slice c.l c.nl c.cl) := fun o => (HK1'.out.below (Qh wr o) hlt1.out).cell 2
   go_wp2_with fail
   have hbn := Qh wr (.cells #[.bool d.n,.slice d.u d.nu d.cu,.slice d.l d.nl d.cl] 58)
   refine (YI (HQ.out.below hbn) (HD.out.below hbn) FS.out FQ.out HKK.out).mono ?_
   rintro e w2 ⟨hb2,v2,rfl,hv2⟩
   obtain ⟨d2,rfl⟩ := JC hv2
   have hbw := hbn.trans (hb2.mono hbn.size)
   have hk2 := HK1'.out.below hbw hlt1.out
   have hkr := HK0'.out.below hbw (by have := hlt1.out; omega)
   obtain ⟨y0,y1,y2,g0,g1,g2⟩ := hk2.all3
   have HV2 := Qd hv2
   clear hv2 a0 a1 a2 z0 z1 z2
   go_wp2
   go_roundw
   case rel =>
    refine ⟨k+1,hlt,by go_num,?_,?_,d2,hk2.put3 _ _ _,?_⟩
    ·exact hkr.off3 (by omega) _ _ _
    ·exact Below.put3 (hbel.trans (hbw.mono hsz'.out)) (by omega) _ _ _
    ·rw [Pi hlt]
     exact (Stays.put3 hk2 (by simp [Qm]) _ _ _ rfl rfl rfl).qv HV2.out
   case measure => simp [intOf]; omega
theorem Nx {w : World} {v : Value} {qs : List Rat} (h : QRow w v qs) {K : Nat} (f : ∀ q ∈ qs,QS K q) (hn : qs.length≤1000000) (hk : qs.length*(K+1)+1≤35184372088640) :
  Calls Tryz.prog 157 #[v] w fun e w' => Below w.heap.size w w'∧∃ v',e=.returned v'∧QV w' v' (rsum qs) := by
 have h' := h
 obtain ⟨b,off,cap,rfl,_⟩ := h
 exact LQ h' f hn hk
end Go.Proofs.YtnhplfjlhdpgoaaGreatDoor
/- WF -/
namespace Go.Proofs.YtnhplfjlhdpgoaaGreatDoor
open Go.RowKit Cx
attribute [local go_sem ↓] Go.wp_at_zero Go.wp_at_succ
theorem all2 {K : Nat} {a b : Rat} (h1 : QS K a) (h2 : QS K b) : ∀ q ∈ [a,b],QS K q := by
 intro q hq
 rcases List.mem_cons.1 hq with rfl | hq
 ·exact h1
 ·rw [List.mem_singleton.1 hq]; exact h2
theorem all3 {K : Nat} {a b c : Rat} (h1 : QS K a) (h2 : QS K b) (h3 : QS K c) : ∀ q ∈ [a,b,c],QS K q := by
 intro q hq
 rcases List.mem_cons.1 hq with rfl | hq
 ·exact h1
 ·exact all2 h2 h3 q hq
end Go.Proofs.YtnhplfjlhdpgoaaGreatDoor
/- TA -/
namespace Go.Proofs.YtnhplfjlhdpgoaaGreatDoor
open Go.RowKit Cx
theorem Wz (s : ByteArray) (k : Nat) (h : k < s.size) : s.data.toList[k]'(by simpa using h)=s[k] := rfl
theorem XF (s : ByteArray) (w : World) (hs : s.size≤9223372036854775807) :
  Calls Tryz.prog 68 #[.string s] w fun e w' => e=.returned (.bool (ZP s.data.toList))∧w'=w := by
 go_enter Tryz.func68,Tryz.ntmps68
 go_wp2
 go_loop [6] (fun i => ∃ k : Nat,k≤s.size∧i=.int .i64 k∧(s.data.toList.take k).all dg=true) (fun i => s.size - (intOf i).toNat)
 case atStart => exact ⟨0,Nat.zero_le _,rfl,by simp⟩
 case round =>
  obtain ⟨k,hk,rfl,hall⟩ := hrel
  have HAL := Qd hall
  clear hall
  by_cases hlt : k < s.size
  ·have hlen : k < s.data.toList.length := by simpa using hlt
   have htk := Qd (Ox hlen)
   by_cases h1 : s[k].toNat < 48
   ·have HF : Hid (ZP s.data.toList=false) := by
     show ZP s.data.toList=false
     have hm : s.data.toList.all dg=false := by
      rw [Bool.eq_false_iff]
      intro h
      have := List.all_eq_true.1 h _ (List.getElem_mem hlen)
      have := PH this
      rw [Wz s k hlt] at this
      omega
     simp [ZP,hm]
    go_wp2
    go_ret
    exact ⟨by rw [HF.out]; rfl,rfl⟩
   ·by_cases h2 : 57 < s[k].toNat
    ·have HF : Hid (ZP s.data.toList=false) := by
      show ZP s.data.toList=false
      have hm : s.data.toList.all dg=false := by
       rw [Bool.eq_false_iff]
       intro h
       have := List.all_eq_true.1 h _ (List.getElem_mem hlen)
       have := PH this
       rw [Wz s k hlt] at this
       omega
      simp [ZP,hm]
     go_wp2
     go_ret
     exact ⟨by rw [HF.out]; rfl,rfl⟩
    ·go_wp2
     go_round
     case rel =>
      refine ⟨k+1,by omega,by go_num,?_⟩
      rw [htk.out,List.all_append,HAL.out,Wz s k hlt]
      simp [dg]
      omega
     case measure => simp [intOf]; omega
  ·have hall : s.data.toList.all dg=true := by
    have := HAL.out
    rwa [List.take_of_length_le (by simp; omega)] at this
   have HF := Qd hall
   clear hall
   go_wp2
   go_ret
   refine ⟨?_,rfl⟩
   show Ending.returned (Value.bool (!s.toList.isEmpty))=_
   rw [ByteArray.toList_eq]
   simp [ZP,HF.out]
theorem LA {k : Nat} (h : k≤9) : 10 ^ k≤1000000000 := by
 have := Nat.pow_le_pow_right (show 0 < 10 by omega) h
 omega
theorem Gq (s : ByteArray) (w : World) (hs : s.size≤9) (hd : s.data.toList.all dg=true) :
  Calls Tryz.prog 117 #[.string s] w fun e w' => e=.returned (.int .u32 (dv s.data.toList))∧w'=w := by
 have HD := Qd hd
 clear hd
 go_enter Tryz.func117,Tryz.ntmps117
 go_wp2
 go_loop [3,7] (fun r i => ∃ k n : Nat,k≤s.size∧i=.int .i64 k∧r=.int .u32 n∧n=dv (s.data.toList.take k)) (fun _ i => s.size - (intOf i).toNat)
 case atStart => exact ⟨0,0,Nat.zero_le _,rfl,rfl,rfl⟩
 case round =>
  obtain ⟨k,n,hk,rfl,rfl,hn⟩ := hrel
  have HN := Qd hn
  clear hn
  by_cases hlt : k < s.size
  ·have hlen : k < s.data.toList.length := by simpa using hlt
   have htk := Qd (Ox hlen)
   have hb : n < 100000000 := by
    rw [HN.out]
    have h1 : (s.data.toList.take k).all dg=true := List.all_eq_true.2 fun x hx => List.all_eq_true.1 HD.out x (List.mem_of_mem_take hx)
    have h2 := MU h1
    have h3 : (s.data.toList.take k).length≤8 := by simp; omega
    have h4 := Nat.pow_le_pow_right (show 0 < 10 by omega) h3
    omega
   have hc : 48≤s[k].toNat∧s[k].toNat≤57 := by
    have := PH (List.all_eq_true.1 HD.out _ (List.getElem_mem hlen))
    rwa [Wz s k hlt] at this
   obtain ⟨hc1,hc2⟩ := hc
   go_wp2
   go_round
   case rel =>
    refine ⟨k+1,n*10+(s[k].toNat - 48),by omega,by go_num,?_,?_⟩
    ·first | rfl | go_num
    ·rw [htk.out,DR,← HN.out,Wz s k hlt]
   case measure => simp [intOf]; omega
  ·go_wp2
   go_ret
   have hn := HN.out
   rw [List.take_of_length_le (by simp; omega)] at hn
   exact ⟨by rw [hn]; rfl,rfl⟩
end Go.Proofs.YtnhplfjlhdpgoaaGreatDoor
/- TB -/
namespace Go.Proofs.YtnhplfjlhdpgoaaGreatDoor
open Go.RowKit Cx
def RowC (w : World) (g cap : Nat) (l : List Nat) : Prop := ∃ sp : Array Value,w.heap[g]? = some (.cells (Zu l ++ sp) 128 (0,0))∧l.length+sp.size=cap
theorem RowC.row {w : World} {g cap : Nat} {l : List Nat} (h : RowC w g cap l) : Row w g l := ⟨h.choose,h.choose_spec.1⟩
theorem RowC.le {w : World} {g cap : Nat} {l : List Nat} (h : RowC w g cap l) : l.length≤cap := by obtain ⟨sp,_,h⟩ := h; omega
theorem RowC.set {w : World} {g cap : Nat} {l : List Nat} (h : RowC w g cap l) {j : Nat} (hj : j < l.length) (y : Nat) {z : Int} (hz : z=(y : Int)) : RowC (w.setCell ⟨g,j,none⟩ (.int .u32 z)) g cap (l.set j y) := by
 obtain ⟨sp,h,hc⟩ := h
 refine ⟨sp,?_,by simpa using hc⟩
 rw [hz,heap_setCell_same w g j _ _ _ h,Array.setIfInBounds_append_left (by rw [XO]; exact hj),GY]
theorem RowC.below {w w' : World} {g cap B : Nat} {l : List Nat} (h : RowC w g cap l) (hb : Below B w w') (hg : g < B) : RowC w' g cap l := by
 obtain ⟨sp,h,hc⟩ := h
 exact ⟨sp,by rw [hb.block g hg,h],hc⟩
theorem RowC.owns {w : World} {g cap : Nat} {l : List Nat} (h : RowC w g cap l) (hm : cap≤maxLen) : w.ownsRow g 128 1 (.slice (some ⟨g,0,none⟩) l.length cap) l.length (l.map fun x : Nat => Value.int .u32 (x : Int)) := by
 obtain ⟨sp,h,hc⟩ := h
 refine ⟨by simp,Or.inr ⟨g,cap,Zu l ++ sp,rfl,Nat.le_refl _,h,by omega,hm,?_,?_⟩⟩
 ·simp [XO]; omega
 ·rw [Array.toList_append,Nat.mul_one,List.take_append_of_le_length (by simp [Zu])]
  simp [Zu]
  exact List.take_of_length_le (by simp)
theorem Iw {w : World} {base n : Nat} {v : Value} {l : List Nat} (hl : l.length=n) (h : w.ownsRow base 128 1 v n (l.map fun x : Nat => Value.int .u32 (x : Int))) (hv : v ≠ .slice none 0 0) :
  ∃ g cap,v=.slice (some ⟨g,0,none⟩) n cap∧base≤g∧cap≤maxLen∧RowC w g cap l := by
 rcases h.2 with ⟨h1,_⟩ | ⟨g,cap,cur,rfl,hb,hh,hc,hm,hs,ht⟩
 ·exact absurd h1 hv
 ·refine ⟨g,cap,rfl,hb,hm,(cur.toList.drop n).toArray,?_,?_⟩
  ·rw [hh]
   have : cur=Zu l ++ (cur.toList.drop n).toArray := by
    apply Array.ext'
    rw [Array.toList_append]
    rw [Nat.mul_one] at ht
    have := List.take_append_drop n cur.toList
    rw [ht] at this
    simp [Zu,this]
   rw [← this]
  ·simp; omega
theorem NU (V cy P A x : Nat) (R : Nat) (h : V+cy*P=A*1000000000+R) :
  V+P*((cy+x*1000000000) % 4294967296)+((cy+x*1000000000) / 4294967296)*(4294967296*P)=(A+P*x)*1000000000+R := by
 have e := Nat.mod_add_div (cy+x*1000000000) 4294967296
 generalize (cy+x*1000000000) % 4294967296=a at *
 generalize (cy+x*1000000000) / 4294967296=b at *
 have : P*a+b*(4294967296*P)=P*(cy+x*1000000000) := by rw [← e]; grind
 grind
theorem AK {l cur : List Nat} {r : Nat} (hc : Lim cur) (tl : Trim l) (hlen : cur.length=l.length) (hv : val cur=val l*1000000000+r) : Trim cur := by
 by_cases e : l=[]
 ·subst e; left; exact List.length_eq_zero_iff.1 hlen
 ·right
  have hp : 0 < l.length := List.length_pos_iff.2 e
  have h1 := JX tl e
  intro h0
  have h2 := Uf hc (by omega)
  rw [h0,Nat.zero_add,Nat.one_mul,hlen] at h2
  omega
theorem Eu {l : List Nat} {x : Nat} (h : x ≠ 0) : Trim (l ++ [x]) := by
 right
 simp [nth]
 exact h
def Run (w : World) (g : Nat) (l : List Nat) (t : Nat) (w' : World) (e : Ending) : Prop :=
 ∃ g' cap' l',e=.returned (.slice (some ⟨g',0,none⟩) l'.length cap')∧RowC w' g' cap' l'∧Lim l'∧(Trim l→Trim l')∧val l'=val l*1000000000+t∧l'.length≤l.length+1∧cap'≤maxLen ∧
  ∀ B w0,Below B w0 w→B≤g→Below B w0 w'∧B≤g'
theorem Tk {w : World} {g cap r : Nat} {l : List Nat} (h : RowC w g cap l) (hl : Lim l) (hlen : l.length≤1099511627776) (hcap : cap≤maxLen) (hr : r < 1000000000) :
  Calls Tryz.prog 116 #[.slice (some ⟨g,0,none⟩) l.length cap,.int .u32 r] w fun e w' => Run w g l r w' e := by
 obtain ⟨i0,hi,hz0,hz1,hz2⟩ := info_parts Tryz.infoU32
 have HL0 := Qd hl
 have HC := Qd hcap
 clear hl hcap
 go_enter Tryz.func116,Tryz.ntmps116
 go_wp2
 go_loopw [5,12] (fun c i wr => ∃ (k cy : Nat) (cur : List Nat),k≤l.length∧i=.int .i64 k∧c=.int .u64 cy∧cy < 1000000000∧RowC wr g cap cur∧cur.length=l.length∧Lim cur∧(∀ j,k≤j→nth cur j=nth l j)∧val (cur.take k)+cy*pw k=val (l.take k)*1000000000+r∧Only g w wr) (fun _ i _ => l.length - (intOf i).toNat)
 case atStart => exact ⟨0,r,l,Nat.zero_le _,rfl,rfl,hr,h,rfl,HL0.out,fun _ _ => rfl,by simp [val,pw],Only.refl _ _⟩
 case round =>
  obtain ⟨k,cy,cur,hk,rfl,rfl,hcy,hrow,hcl,hcm,hag,hval,honly⟩ := hrel
  have HV := Qd hval
  have HL := Qd hcl
  have HG := Qd hag
  clear hval hcl hag h
  by_cases hlt : k < l.length
  ·have hcc := hrow.row.cell (j := k) (by rw [HL.out]; omega)
   have hfz := hrow.row.frozen k
   have hx := QF hcm k
   go_wp2
   go_roundw
   case rel =>
    refine ⟨k+1,(cy+nth cur k*1000000000) / 4294967296,cur.set k ((cy+nth cur k*1000000000) % 4294967296),by omega,by go_num,by go_num,by omega,hrow.set (by rw [HL.out]; omega) _ (by omega),by rw [List.length_set,HL.out],hcm.set (by omega),?_,?_,honly.set _ _⟩
    ·intro j hj
     rw [Zb (by omega)]
     exact HG.out j (by omega)
    ·rw [Qo (by rw [HL.out]; omega),Qf,Qx,← HG.out k (Nat.le_refl _)]
     exact NU _ _ _ _ _ _ HV.out
   case measure => simp [intOf]; omega
  ·obtain rfl : k=l.length := by omega
   have hend : Hid (val cur+cy*pw l.length=val l*1000000000+r) := by
    have := HV.out
    rw [List.take_length,List.take_of_length_le (by rw [HL.out]; exact Nat.le_refl _)] at this
    exact this
   by_cases h0 : cy=0
   ·subst h0
    go_wp2
    go_ret
    have hv : val cur=val l*1000000000+r := by have := hend.out; simpa using this
    refine ⟨g,cap,cur,by rw [HL.out]; rfl,hrow,hcm,fun t => AK hcm t HL.out hv,hv,by rw [HL.out]; omega,HC.out,?_⟩
    intro B w0 hb hB
    exact ⟨honly.below hb hB,hB⟩
   ·have hne : ((cy : Int) != 0)=true := by rw [bne_iff_ne]; omega
    have hown := (hrow.below (Qh wr (.cells #[.int .u32 (cy : Int)] 128)) hrow.row.lt).owns HC.out
    rw [HL.out] at hown
    have hnews : ∀ j u,([Value.int .u32 (cy : Int)] : List Value)[j]? = some u→(wr.alloc (.cells #[.int .u32 (cy : Int)] 128)).cell? (Addr.add ⟨wr.heap.size,0,none⟩ j)=some u := by
     intro j u hj
     match j,hj with
     | 0,hj => simp at hj; subst hj; simp [Addr.add]
    have HNW := Qd hnews
    have HC2 := Qd h0
    clear hnews h0
    go_wp2_with (at_builtin; refine wpList_append_own _ rfl _ _ 56 rfl g 128 i0 (.int .u32 0) 1 4 Tryz.underlying56 hi hz0 hz1 hz2 rfl (by decide) (.slice (some ⟨g,0,none⟩) l.length cap) l.length (cur.map fun x : Nat => Value.int .u32 (x : Int)) rfl hown ⟨wr.heap.size,0,none⟩ 1 1 [.int .u32 (cy : Int)] rfl rfl HNW.out (by intro u hu; simp at hu; subst hu; rfl) (by unfold maxLen; omega) (by omega) (by have := hrow.row.lt; simp; omega) ?_; intro v' w1 hown1 hgrow hnil)
    rw [show (List.map (fun x : Nat => Value.int .u32 (x : Int)) cur ++ [Value.int .u32 (cy : Int)])=(cur ++ [cy]).map (fun x : Nat => Value.int .u32 (x : Int)) from by simp] at hown1
    obtain ⟨g',cap',rfl,hg',hm',hrow'⟩ := Iw (l := cur ++ [cy]) (by simp [HL.out]) hown1 (fun e => by have := (hnil.1 e).2; omega)
    have hlen' : (cur ++ [cy]).length=l.length+1 := by simp [HL.out]
    go_ret
    refine ⟨g',cap',cur ++ [cy],by rw [hlen']; rfl,hrow',?_,fun _ => Eu HC2.out,?_,by omega,hm',?_⟩
    ·intro x hx
     rcases List.mem_append.1 hx with hx | hx
     ·exact hcm x hx
     ·rw [List.mem_singleton.1 hx]; omega
    ·rw [Ju,HL.out]
     have := hend.out
     simp only [val]
     rw [← this]; grind
    ·intro B w0 hb hB
     have hb1 := honly.below hb hB
     have hlt := hrow.row.lt
     have hb2 : Below B w0 (wr.alloc (.cells #[.int .u32 (cy : Int)] 128)) := hb1.alloc (by omega) _
     refine ⟨⟨hgrow.os.trans hb2.os,hgrow.tape.trans hb2.tape,hgrow.output.trans hb2.output,Nat.le_trans hb2.size hgrow.size,fun i hi => ?_⟩,by omega⟩
     rw [hgrow.block i (by have := hb2.size; simp; omega) (by simp [Value.ownBlock]; omega),hb2.block i hi]
end Go.Proofs.YtnhplfjlhdpgoaaGreatDoor
/- ShelfB -/
/- TC -/
namespace Go.Proofs.YtnhplfjlhdpgoaaGreatDoor
open Go.RowKit Cx
theorem Lk {t : TypeId} (ht : Tryz.prog.underlying t=some (.slice 128)) (n : Nat) (hn : n≤70368744177664) (w : World) :
  (Instr.makeSlice t (.int .i64 0) (.int .i64 n)).run Tryz.prog w=.ok (.slice (some ⟨w.heap.size,0,none⟩) 0 n) (w.alloc (.cells (Zu (List.replicate n 0)) 128)) := by
 obtain ⟨i,hi,hz0,hz1,hz2⟩ := info_parts Tryz.infoU32
 have h := run_make (P := Tryz.prog) w t 128 i (.int .u32 0) ht hi hz0 .i64 .i64 0 n (by omega) (by omega) (by rw [hz2]; omega) (by omega)
 rw [hz1] at h
 rw [← Bx]
 simpa using h
theorem RowC.new (w : World) (n : Nat) : RowC (w.alloc (.cells (Zu (List.replicate n 0)) 128)) w.heap.size n [] :=
 by
 refine ⟨Zu (List.replicate n 0),?_,by simp [Zu]⟩
 show (w.heap.push _)[w.heap.size]? = _
 simp [Zu]
theorem Of (u : ByteArray) (n : Nat) : (u.extract 0 n).data.toList=u.data.toList.take n := by
 simp [ByteArray.data_extract,Array.toList_extract,List.extract]
theorem YN (u : ByteArray) (n : Nat) : (u.extract n u.size).data.toList=u.data.toList.drop n := by
 simp [ByteArray.data_extract,Array.toList_extract,List.extract]
 exact List.take_of_length_le (by simp)
theorem CE {V u : Nat} {l : List UInt8} {n r X : Nat} (hn : n≤l.length) (hu : u=l.length) (h9 : V=0 ∨ n=9) (hr : dv (l.take n)=r) (h : V*10 ^ u+dv l=X) : (V*1000000000+r)*10 ^ (u - n)+dv (l.drop n)=X := by
 have e := PF (l.take n) (l.drop n)
 rw [List.take_append_drop,List.length_drop,hr,← hu] at e
 rw [← h,e]
 rcases h9 with rfl | rfl
 ·simp
 ·have : 10 ^ u=1000000000*10 ^ (u - 9) := by
   rw [show (1000000000 : Nat)=10 ^ 9 from rfl,← Nat.pow_add]; congr 1; omega
  rw [this,Nat.add_mul,Nat.mul_assoc,Nat.add_assoc]
theorem Sc (l : List UInt8) : dv (l.dropWhile (· == 48))=dv l := by
 induction l with
 | nil => rfl
 | cons c l ih =>
  by_cases h : c=48
  ·subst h
   rw [List.dropWhile_cons_of_pos (by rfl),ih,Fg]
   simp
  ·rw [List.dropWhile_cons_of_neg (by simpa using h)]
theorem trimmed (s : ByteArray) (hd : s.data.toList.all dg=true) : ∃ t : ByteArray,t=⟨(Lib.trimLeftB s.data.toList 48).toArray⟩∧t.size≤s.size∧Hid (t.data.toList.all dg=true)∧Hid (dv t.data.toList=dv s.data.toList) := by
 refine ⟨_,rfl,?_,?_,?_⟩
 ·show (List.toArray (Lib.trimLeftB s.data.toList 48)).size≤s.data.size
  have := (List.dropWhile_sublist (l := s.data.toList) (· == 48)).length_le
  simpa [Lib.trimLeftB] using this
 ·show (Lib.trimLeftB s.data.toList 48).all dg=true
  exact List.all_eq_true.2 fun x hx => List.all_eq_true.1 hd x ((List.dropWhile_sublist _).subset hx)
 ·exact Sc _
theorem XX (s : ByteArray) (w : World) (hs : s.size≤4294967296) (hd : s.data.toList.all dg=true) :
  Calls Tryz.prog 70 #[.string s] w fun e w' => Below w.heap.size w w'∧∃ v,e=.returned v∧NatN w' v (dv s.data.toList) := by
 have HD := Qd hd
 clear hd
 go_enter Tryz.func70,Tryz.ntmps70
 go_wp2_with fail
 refine (Tryz.strings_TrimLeft_one s 48 (by decide) w).mono ?_
 rintro e w1 ⟨rfl,hw1⟩
 subst hw1
 have HT : ∃ t : ByteArray,t=⟨(Lib.trimLeftB s.data.toList 48).toArray⟩∧t.size≤s.size∧Hid (t.data.toList.all dg=true)∧Hid (dv t.data.toList=dv s.data.toList) := trimmed s HD.out
 obtain ⟨t,et,htl,HD1,HV1⟩ := HT
 rw [← et]
 clear et
 have hmk := Lk (t := 56) (by kernel_rfl) (t.size / 9+1) (by omega)
 have ec : ((t.size / 9+1 : Nat) : Int)=(t.size : Int) / 9+1 := by omega
 rw [ec] at hmk
 clear ec
 go_wp2
 go_loopg [0,3] t.size (fun k x y wr => ∃ (u : ByteArray) (l : List Nat) (g cap : Nat),x=.string u∧y=.slice (some ⟨g,0,none⟩) l.length cap∧u.size≤k∧l.length+u.size≤t.size∧u.data.toList.all dg=true∧RowC wr g cap l∧cap≤maxLen∧Lim l∧Trim l∧(val l=0 ∨ u.size % 9=0)∧val l*10 ^ u.size+dv u.data.toList=dv s.data.toList∧Below w1.heap.size w1 wr∧w1.heap.size≤g)
 case atStart =>
  exact ⟨t,[],w1.heap.size,t.size / 9+1,rfl,rfl,Nat.le_refl _,by simp,HD1.out,RowC.new _ _,by unfold maxLen; omega,fun x hx => by simp at hx,Or.inl rfl,Or.inl rfl,by rw [HV1.out]; simp [val],Qh _ _,Nat.le_refl _⟩
 case round =>
  obtain ⟨u,l,g,cap,rfl,rfl,huk,hlu,hdu,hrow,hcap,hlim,htr,hnine,hval,hbel,hg⟩ := hrel
  have H1 := Qd hdu
  have H2 := Qd hrow
  have H3 := Qd hcap
  have H4 := Qd hlim
  have H5 := Qd htr
  have H6 := Qd hnine
  have H7 := Qd hval
  clear hdu hrow hcap hlim htr hnine hval
  by_cases h0 : u.size=0
  ·have hu : u=⟨#[]⟩ := by
    have : u.data=#[] := Array.eq_empty_of_size_eq_zero h0
    cases u; simp at this; simp [this]
   subst hu
   go_wp2
   go_ret
   refine ⟨hbel,_,rfl,l,?_,H5.out,?_⟩
   ·exact ⟨H4.out,Or.inr ⟨g,0,cap,rfl,H2.out.le,H3.out,H2.out.row.lt,H2.out.row.seg⟩⟩
   ·have := H7.out
    rw [show (⟨#[]⟩ : ByteArray).size=0 from rfl,Nat.pow_zero,Nat.mul_one] at this
    exact this
  ·have hne : u.toList.isEmpty=false := by
    rw [ByteArray.toList_eq,List.isEmpty_eq_false_iff]
    intro e
    have := congrArg List.length e
    simp at this
    exact h0 (by rw [this]; rfl)
   go_wp2_with fail
   have hn9 : (u.size - 1) % 9+1≤u.size := by omega
   have htk : (u.extract 0 ((u.size - 1) % 9+1)).data.toList=u.data.toList.take ((u.size - 1) % 9+1) := Of u _
   have htd : (u.extract 0 ((u.size - 1) % 9+1)).data.toList.all dg=true := by
    rw [htk]; exact List.all_eq_true.2 fun x hx => List.all_eq_true.1 H1.out x (List.mem_of_mem_take hx)
   have hts : (u.extract 0 ((u.size - 1) % 9+1)).size≤9 := by rw [ByteArray.size_extract]; omega
   refine (Gq _ wr hts htd).mono ?_
   rintro e w2 ⟨rfl,hw2⟩
   have hw3 := hw2.symm; subst hw3; clear hw2
   have hrl := MU htd
   have hrl2 : dv (u.extract 0 ((u.size - 1) % 9+1)).data.toList < 1000000000 := by
    have h1 : (u.extract 0 ((u.size - 1) % 9+1)).data.toList.length≤9 := by simpa using hts
    exact Nat.lt_of_lt_of_le hrl (LA h1)
   rw [htk] at hrl2
   rw [htk]
   clear hrl htd hts htk
   have HR := Qd hrl2
   clear hrl2
   generalize er : dv (u.data.toList.take ((u.size - 1) % 9+1))=r at *
   have HE := Qd er
   clear er
   go_wp2_with fail
   refine (Tk H2.out H4.out (by omega) H3.out HR.out).mono ?_
   rintro e w3 ⟨g',cap',l',rfl,hrow',hlim',htr',hval',hlen',hcap',hfr⟩
   obtain ⟨hb3,hg3⟩ := hfr w1.heap.size w1 hbel hg
   have K1 := Qd hrow'
   have K2 := Qd hlim'
   have K3 := Qd htr'
   have K4 := Qd hval'
   have K5 := Qd hcap'
   clear hrow' hlim' htr' hval' hcap' hfr
   go_wp2
   have hsz : (u.extract ((u.size - 1) % 9+1) u.size).size=u.size - ((u.size - 1) % 9+1) := by rw [ByteArray.size_extract]; omega
   go_roundg (u.size - ((u.size - 1) % 9+1))
   case measure => omega
   case rel =>
    refine ⟨_,l',g',cap',rfl,rfl,by rw [hsz]; exact Nat.le_refl _,by rw [hsz]; omega,?_,K1.out,K5.out,K2.out,K3.out H5.out,Or.inr (by rw [hsz]; omega),?_,hb3,hg3⟩
    ·rw [YN]; exact List.all_eq_true.2 fun x hx => List.all_eq_true.1 H1.out x (List.mem_of_mem_drop hx)
    ·rw [YN,K4.out,hsz]
     exact CE (by simpa using hn9) (by simp) (H6.out.imp_right fun h => by omega) HE.out H7.out
end Go.Proofs.YtnhplfjlhdpgoaaGreatDoor
/- TD -/
namespace Go.Proofs.YtnhplfjlhdpgoaaGreatDoor
open Go.RowKit Cx
theorem KL {l : List UInt8} {i : Nat} (h : JP l=some i) : i < l.length∧Lib.indexByte l 47=(i : Int) := by
 unfold JP at h
 split at h
 ·cases h
 ·rename_i hn
  cases h
  have e : Lib.indexByte l 47=((Lib.indexByte l 47).toNat : Int) := by omega
  refine ⟨?_,e⟩
  have := (Lib.indexByte_some (l := l) (c := 47) e).1
  exact (List.getElem?_eq_some_iff.1 this).1
theorem GC (s : ByteArray) (w : World) (hs : s.size≤4294967296) :
  Calls Tryz.prog 114 #[.string s,.string ⟨#[47]⟩] w fun e w' => (w'=w ∨ w'=w.drew)∧∃ a b : ByteArray,e=.returned (.tuple #[.string a,.string b,.bool (JP s.data.toList).isSome])∧a.data.toList=JV s.data.toList∧(∀ i,JP s.data.toList=some i→b.data.toList=s.data.toList.drop (i+1)) := by
 go_enter Tryz.func114,Tryz.ntmps114
 go_wp2_with fail
 refine (Tryz.stringslite_Index_one s 47 w).mono ?_
 rintro e w1 ⟨rfl,hw1⟩
 have hw2 := hw1.symm; subst hw2; clear hw1
 rcases hb : JP s.data.toList with _ | i
 ·have hneg : Lib.indexByte s.data.toList 47 < 0 := by
   unfold JP at hb
   split at hb
   ·assumption
   ·cases hb
  have HB := Qd hb
  clear hb
  generalize Lib.indexByte s.data.toList 47=z at *
  go_wp2
  go_ret3
  exact ⟨Or.inl rfl,s,⟨#[]⟩,by rw [HB.out]; rfl,by unfold JV; rw [HB.out],fun i h => by rw [HB.out] at h; cases h⟩
 ·obtain ⟨hi,he⟩ := KL hb
  rw [he]
  have hi2 : i < s.size := by simpa using hi
  have HB := Qd hb
  clear hb he hi
  go_wp2
  go_region
  go_wp2
  go_ret3
  refine ⟨Or.inr rfl,_,_,by rw [HB.out]; rfl,?_,?_⟩
  ·unfold JV; rw [HB.out,Of]
  ·intro j h
   rw [HB.out] at h
   cases h
   rw [YN]
theorem Nj (s : ByteArray) (w : World) (hs : s.size≤4294967296) :
  Calls Tryz.prog 67 #[.string s,.string ⟨#[47]⟩] w fun e w' => (w'=w ∨ w'=w.drew)∧∃ a b : ByteArray,e=.returned (.tuple #[.string a,.string b,.bool (JP s.data.toList).isSome])∧a.data.toList=JV s.data.toList∧(∀ i,JP s.data.toList=some i→b.data.toList=s.data.toList.drop (i+1)) := by
 go_enter Tryz.func67,Tryz.ntmps67
 go_wp2_with fail
 refine (GC s w hs).mono ?_
 rintro e w1 ⟨hw,a,b,rfl,h1,h2⟩
 go_wp2
 go_ret3
 exact ⟨hw,a,b,rfl,h1,h2⟩
theorem CC (s : ByteArray) : ∃ t : ByteArray,(⟨(Lib.trimPrefix s.data.toList (⟨#[45]⟩ : ByteArray).data.toList).toArray⟩ : ByteArray)=t∧t.data.toList=QI s.data.toList∧t.size≤s.size := by
 refine ⟨_,rfl,rfl,?_⟩
 show (List.toArray (Lib.trimPrefix s.data.toList [45])).size≤s.data.size
 unfold Lib.trimPrefix
 split
 ·simp
 ·simp
theorem ten_pw (n : Nat) : 10 ^ n≤pw n := by
 induction n with
 | zero => exact Nat.le_refl _
 | succ n ih => rw [Qx,Nat.pow_succ]; omega
theorem UL {l : List UInt8} (h : l.all dg=true) (hl : l.length≤4294967296) : Small (dv l) :=
 ⟨Nat.lt_of_lt_of_le (MU h) (Nat.le_trans (ten_pw _) (YH (by omega)))⟩
theorem Kv (s : ByteArray) (w : World) (hs : s.size≤4294967296) :
  Calls Tryz.prog 26 #[.string s] w fun e w' => Below w.heap.size w w'∧∃ v,e=.returned v∧QV w' v (rd s.data.toList) := by
 have HB := Qd (Qh w (.cells #[.bool false,.slice none 0 0,.slice none 0 0] 58))
 have HK := Qd (Blk.new w #[.bool false,.slice none 0 0,.slice none 0 0] 58)
 go_enter Tryz.func26,Tryz.ntmps26
 go_wp2_with fail
 generalize hw0 : w.alloc (.cells #[.bool false,.slice none 0 0,.slice none 0 0] 58)=w0 at *
 refine (Tryz.strings_CutPrefix s ⟨#[45]⟩ w0).mono ?_
 rintro e w1 ⟨rfl,hw1⟩
 have hw2 := hw1.symm; subst hw2; clear hw1
 obtain ⟨t,et,ht,htl⟩ := CC s
 rw [et]
 clear et
 have HT := Qd ht
 clear ht
 go_wp2_with fail
 refine (Nj t w0 (by omega)).mono ?_
 rintro e w1 ⟨hw1,a,b,rfl,ha,hb⟩
 have hb1 : Hid (Below w0.heap.size w0 w1) := by
  rcases hw1 with rfl | rfl
  ·exact Below.refl _ _
  ·exact Below.drew (Below.refl _ _)
 clear hw1
 rw [HT.out] at ha hb
 rw [HT.out]
 have HA := Qd ha
 have HBB := Qd hb
 clear ha hb
 have hal : a.size≤4294967296 := by
  have h1 : a.data.toList.length≤(QI s.data.toList).length := by
   rw [HA.out]; unfold JV; split
   ·exact Nat.le_refl _
   ·rw [List.length_take]; exact Nat.min_le_right _ _
  rw [← HT.out] at h1
  simp at h1
  omega
 have hk1 := HK.out.below hb1.out (by rw [← hw0]; simp)
 have HB1 := Qd (HB.out.trans (hb1.out.mono HB.out.size))
 rcases hbar : JP (QI s.data.toList) with _ | i
 ·obtain ⟨low,elow,hlow,hll⟩ : ∃ low : ByteArray,(⟨#[49]⟩ : ByteArray)=low∧Hid (low.data.toList=Zz (QI s.data.toList))∧low.size≤4294967296 := by
   refine ⟨_,rfl,?_,by decide⟩
   show _=_
   unfold Zz; rw [hbar]
  clear hbar HBB
  go_wp2_with fail
  rw [elow]
  clear elow
  refine (XF a w1 (by omega)).mono ?_
  rintro e w2 ⟨rfl,hw2⟩
  have hw3 := hw2.symm; subst hw3; clear hw2
  rw [HA.out]
  by_cases d1 : ZP (JV (QI s.data.toList))=true
  ·rw [d1]
   go_wp2_with fail
   refine (XF low w1 (by omega)).mono ?_
   rintro e w2 ⟨rfl,hw2⟩
   have hw3 := hw2.symm; subst hw3; clear hw2
   rw [hlow.out]
   by_cases d2 : ZP (Zz (QI s.data.toList))=true
   ·rw [d2]
    have hrd : rd s.data.toList=mkRat (sg (Ur s.data.toList) (dv (JV (QI s.data.toList)))) (dv (Zz (QI s.data.toList))) := by
     unfold rd; rw [d1,d2]; rfl
    have HRD := Qd hrd
    clear hrd
    have D1 := Qd (JJ d1)
    have D2 := Qd (JJ d2)
    clear d1 d2
    go_wp2_with fail
    refine (XX a w1 hal (by rw [HA.out]; exact D1.out)).mono ?_
    rintro e w2 ⟨hb2,v1,rfl,hv1⟩
    rw [HA.out] at hv1
    have N1 := Qd hv1
    clear hv1
    go_wp2_with fail
    refine (XX low w2 hll (by rw [hlow.out]; exact D2.out)).mono ?_
    rintro e w3 ⟨hb3,v2,rfl,hv2⟩
    rw [hlow.out] at hv2
    have N2 := Qd hv2
    clear hv2
    go_wp2_with fail
    refine (WT (neg := Ur s.data.toList) (N1.out.below hb3) N2.out (UL D1.out (by rw [← HA.out]; simpa using hal)) (UL D2.out (by rw [← hlow.out]; simpa using hll))).mono ?_
    rintro e w4 ⟨hb4,v,rfl,hv⟩
    rw [← HRD.out] at hv
    have hbl3 := hb2.trans (hb3.mono hb2.size)
    have hbl4 := hbl3.trans (hb4.mono hbl3.size)
    have HQ := Qd hv
    obtain ⟨vu',vl',rfl,hn1,hn2⟩ := hv
    obtain ⟨ao3,len3,cap3,rfl,_,_,_⟩ := QH hn1
    obtain ⟨ao4,len4,cap4,rfl,_,_,_⟩ := QH hn2
    have hk4 := hk1.below hbl4 hk1.lt
    obtain ⟨c0,c1,c2,f0,f1,f2⟩ := hk4.three
    have HB4 := Qd (HB1.out.trans (hbl4.mono HB1.out.size))
    clear hb2 hb3 hb4 hbl3 hbl4 hn1 hn2
    obtain ⟨rr,hrr⟩ : ∃ rr : Rat,rr=rd s.data.toList := ⟨_,rfl⟩
    rw [← hrr] at HQ ⊢
    have HRR := Qd hrr
    clear hrr
    go_wp2
    obtain ⟨k0,k1,k2,hlow3⟩ := hk4.three_set (.bool (decide (rr.num < 0))) (.slice ao3 len3 cap3) (.slice ao4 len4 cap4)
    exact bodyPost_ret (v := .agg #[.bool (decide (rr.num < 0)),.slice ao3 len3 cap3,.slice ao4 len4 cap4]) (by simp [results,Tryz.results26,go_sem,k0,k1,k2]) rfl ⟨hlow3 _ _ HB4.out (Nat.le_refl _),_,rfl,by rw [← HRR.out]; exact HQ.out.three hk4⟩
   ·have d2' : ZP (Zz (QI s.data.toList))=false := by simpa using d2
    have hrd : rd s.data.toList=0 := by unfold rd; rw [d1,d2']; rfl
    rw [d2']
    have HRD := Qd hrd
    clear hrd d1 d2 d2'
    obtain ⟨c0,c1,c2,f0,f1,f2⟩ := hk1.three
    go_wp2
    obtain ⟨k0,k1,k2,hlow3⟩ := hk1.three_set (.bool false) (.slice none 0 0) (.slice none 0 0)
    refine bodyPost_ret (v := .agg #[.bool false,.slice none 0 0,.slice none 0 0]) (by simp [results,Tryz.results26,go_sem,k0,k1,k2]) rfl ⟨hlow3 _ _ HB1.out (Nat.le_refl _),_,rfl,?_⟩
    rw [HRD.out]
    exact ⟨_,_,rfl,NatN.nil _ _ _,NatN.nil _ _ _⟩
  ·have d1' : ZP (JV (QI s.data.toList))=false := by simpa using d1
   have hrd : rd s.data.toList=0 := by unfold rd; rw [d1']; rfl
   rw [d1']
   have HRD := Qd hrd
   clear hrd d1 d1'
   obtain ⟨c0,c1,c2,f0,f1,f2⟩ := hk1.three
   go_wp2
   obtain ⟨k0,k1,k2,hlow3⟩ := hk1.three_set (.bool false) (.slice none 0 0) (.slice none 0 0)
   refine bodyPost_ret (v := .agg #[.bool false,.slice none 0 0,.slice none 0 0]) (by simp [results,Tryz.results26,go_sem,k0,k1,k2]) rfl ⟨hlow3 _ _ HB1.out (Nat.le_refl _),_,rfl,?_⟩
   rw [HRD.out]
   exact ⟨_,_,rfl,NatN.nil _ _ _,NatN.nil _ _ _⟩
 ·obtain ⟨low,elow,hlow,hll⟩ : ∃ low : ByteArray,b=low∧Hid (low.data.toList=Zz (QI s.data.toList))∧low.size≤4294967296 := by
   refine ⟨_,rfl,?_,?_⟩
   ·show _=_
    rw [HBB.out i hbar]; unfold Zz; rw [hbar]
   ·have h1 : b.data.toList.length≤(QI s.data.toList).length := by
     rw [HBB.out i hbar]; simp
    rw [← HT.out] at h1
    simp at h1
    omega
  subst elow
  clear hbar HBB
  go_wp2_with fail
  refine (XF a w1 (by omega)).mono ?_
  rintro e w2 ⟨rfl,hw2⟩
  have hw3 := hw2.symm; subst hw3; clear hw2
  rw [HA.out]
  by_cases d1 : ZP (JV (QI s.data.toList))=true
  ·rw [d1]
   go_wp2_with fail
   refine (XF b w1 (by omega)).mono ?_
   rintro e w2 ⟨rfl,hw2⟩
   have hw3 := hw2.symm; subst hw3; clear hw2
   rw [hlow.out]
   by_cases d2 : ZP (Zz (QI s.data.toList))=true
   ·rw [d2]
    have hrd : rd s.data.toList=mkRat (sg (Ur s.data.toList) (dv (JV (QI s.data.toList)))) (dv (Zz (QI s.data.toList))) := by
     unfold rd; rw [d1,d2]; rfl
    have HRD := Qd hrd
    clear hrd
    have D1 := Qd (JJ d1)
    have D2 := Qd (JJ d2)
    clear d1 d2
    go_wp2_with fail
    refine (XX a w1 hal (by rw [HA.out]; exact D1.out)).mono ?_
    rintro e w2 ⟨hb2,v1,rfl,hv1⟩
    rw [HA.out] at hv1
    have N1 := Qd hv1
    clear hv1
    go_wp2_with fail
    refine (XX b w2 hll (by rw [hlow.out]; exact D2.out)).mono ?_
    rintro e w3 ⟨hb3,v2,rfl,hv2⟩
    rw [hlow.out] at hv2
    have N2 := Qd hv2
    clear hv2
    go_wp2_with fail
    refine (WT (neg := Ur s.data.toList) (N1.out.below hb3) N2.out (UL D1.out (by rw [← HA.out]; simpa using hal)) (UL D2.out (by rw [← hlow.out]; simpa using hll))).mono ?_
    rintro e w4 ⟨hb4,v,rfl,hv⟩
    rw [← HRD.out] at hv
    have hbl3 := hb2.trans (hb3.mono hb2.size)
    have hbl4 := hbl3.trans (hb4.mono hbl3.size)
    have HQ := Qd hv
    obtain ⟨vu',vl',rfl,hn1,hn2⟩ := hv
    obtain ⟨ao3,len3,cap3,rfl,_,_,_⟩ := QH hn1
    obtain ⟨ao4,len4,cap4,rfl,_,_,_⟩ := QH hn2
    have hk4 := hk1.below hbl4 hk1.lt
    obtain ⟨c0,c1,c2,f0,f1,f2⟩ := hk4.three
    have HB4 := Qd (HB1.out.trans (hbl4.mono HB1.out.size))
    clear hb2 hb3 hb4 hbl3 hbl4 hn1 hn2
    obtain ⟨rr,hrr⟩ : ∃ rr : Rat,rr=rd s.data.toList := ⟨_,rfl⟩
    rw [← hrr] at HQ ⊢
    have HRR := Qd hrr
    clear hrr
    go_wp2
    obtain ⟨k0,k1,k2,hlow3⟩ := hk4.three_set (.bool (decide (rr.num < 0))) (.slice ao3 len3 cap3) (.slice ao4 len4 cap4)
    exact bodyPost_ret (v := .agg #[.bool (decide (rr.num < 0)),.slice ao3 len3 cap3,.slice ao4 len4 cap4]) (by simp [results,Tryz.results26,go_sem,k0,k1,k2]) rfl ⟨hlow3 _ _ HB4.out (Nat.le_refl _),_,rfl,by rw [← HRR.out]; exact HQ.out.three hk4⟩
   ·have d2' : ZP (Zz (QI s.data.toList))=false := by simpa using d2
    have hrd : rd s.data.toList=0 := by unfold rd; rw [d1,d2']; rfl
    rw [d2']
    have HRD := Qd hrd
    clear hrd d1 d2 d2'
    obtain ⟨c0,c1,c2,f0,f1,f2⟩ := hk1.three
    go_wp2
    obtain ⟨k0,k1,k2,hlow3⟩ := hk1.three_set (.bool false) (.slice none 0 0) (.slice none 0 0)
    refine bodyPost_ret (v := .agg #[.bool false,.slice none 0 0,.slice none 0 0]) (by simp [results,Tryz.results26,go_sem,k0,k1,k2]) rfl ⟨hlow3 _ _ HB1.out (Nat.le_refl _),_,rfl,?_⟩
    rw [HRD.out]
    exact ⟨_,_,rfl,NatN.nil _ _ _,NatN.nil _ _ _⟩
  ·have d1' : ZP (JV (QI s.data.toList))=false := by simpa using d1
   have hrd : rd s.data.toList=0 := by unfold rd; rw [d1']; rfl
   rw [d1']
   have HRD := Qd hrd
   clear hrd d1 d1'
   obtain ⟨c0,c1,c2,f0,f1,f2⟩ := hk1.three
   go_wp2
   obtain ⟨k0,k1,k2,hlow3⟩ := hk1.three_set (.bool false) (.slice none 0 0) (.slice none 0 0)
   refine bodyPost_ret (v := .agg #[.bool false,.slice none 0 0,.slice none 0 0]) (by simp [results,Tryz.results26,go_sem,k0,k1,k2]) rfl ⟨hlow3 _ _ HB1.out (Nat.le_refl _),_,rfl,?_⟩
   rw [HRD.out]
   exact ⟨_,_,rfl,NatN.nil _ _ _,NatN.nil _ _ _⟩
end Go.Proofs.YtnhplfjlhdpgoaaGreatDoor
/- TE -/
namespace Go.Proofs.YtnhplfjlhdpgoaaGreatDoor
open Go.RowKit Cx
theorem EV {w w' : World} {g B n : Nat} {v : Value} {xs : List Value} (h : w.ownsRow B 128 1 v n xs) (ho : Only g w w') (hg : g < B) : w'.ownsRow B 128 1 v n xs := by
 obtain ⟨h1,h2 | ⟨g',cap,cur,rfl,hb,hh,hc⟩⟩ := h
 ·exact ⟨h1,Or.inl h2⟩
 ·exact ⟨h1,Or.inr ⟨g',cap,cur,rfl,hb,by rw [ho.block g' (by omega),hh],hc⟩⟩
theorem Mv {w w' : World} {B n : Nat} {v : Value} {xs : List Value} (h : w.ownsRow B 128 1 v n xs) (ho : Below w.heap.size w w') : w'.ownsRow B 128 1 v n xs := by
 obtain ⟨h1,h2 | ⟨g',cap,cur,rfl,hb,hh,hc⟩⟩ := h
 ·exact ⟨h1,Or.inl h2⟩
 ·refine ⟨h1,Or.inr ⟨g',cap,cur,rfl,hb,?_,hc⟩⟩
  have : g' < w.heap.size := by
   by_cases e : g' < w.heap.size
   ·exact e
   ·rw [Array.getElem?_eq_none (by omega)] at hh; cases hh
  rw [ho.block g' this,hh]
theorem Nk {w : World} {v : Value} {l0 : List Nat} (h : NatV w v l0) (ht : Trim l0) (hl : l0.length≤1099511627770) :
  Calls Tryz.prog 151 #[v] w fun e w' => Below w.heap.size w w'∧∃ v' rs,e=.returned v'∧NatV w' v' rs∧Runs rs∧rv rs=val l0∧rs.length≤2*l0.length+1 := by
 obtain ⟨i0,hi,hz0,hz1,hz2⟩ := info_parts Tryz.infoU32
 have HH := Qd h
 have HT := Qd ht
 have hlim0 := Qd h.1
 have hvs : ∃ ao cap,v=.slice ao l0.length cap := by
  obtain ⟨_,⟨rfl,ao,cap,rfl⟩ | ⟨b,off,cap,rfl,_⟩⟩ := h
  ·exact ⟨ao,cap,rfl⟩
  ·exact ⟨_,cap,rfl⟩
 obtain ⟨ao0,Tj,rfl⟩ := hvs
 clear h ht
 go_enter Tryz.func151,Tryz.ntmps151
 go_wp2_with fail
 refine (Ro HH.out (by omega)).mono ?_
 rintro e w1 ⟨hb1,⟨rfl,rfl⟩ | ⟨g,cap,rfl,hg,hcl,hcm,hrow⟩⟩
 ·go_wp2
  go_loopg [0,3] 0 (fun k va vr wr => va=.slice none 0 0∧vr=.slice none 0 0∧wr=w1)
  case atStart => exact ⟨rfl,rfl,rfl⟩
  case round =>
   obtain ⟨rfl,rfl,rfl⟩ := hrel
   go_wp2
   go_ret
   exact ⟨hb1,_,[],rfl,⟨fun x hx => by simp at hx,Or.inl ⟨rfl,_,_,rfl⟩⟩,⟨fun x hx => by simp at hx,Or.inl rfl⟩,rfl,Nat.zero_le _⟩
 ·have HR := Qd hrow
  clear hrow
  go_wp2
  go_loopg [0,3] (val l0) (fun k va vr wr => ∃ (l : List Nat) (n : Nat) (rs : List Nat),va=.slice (some ⟨g,0,none⟩) n cap∧n≤l.length∧l.length=l0.length∧Row wr g l∧Lim l∧Trim (l.take n)∧val (l.take n)≤k∧(∀ x ∈ rs,x < 1000000000)∧rv rs+1000000000 ^ rs.length*val (l.take n)=val l0∧(val (l.take n)=0→rs=[] ∨ rs.getLast? ≠ some 0)∧wr.ownsRow w1.heap.size 128 1 vr rs.length (rs.map fun x : Nat => Value.int .u32 (x : Int))∧Below w.heap.size w wr∧w1.heap.size≤wr.heap.size∧rs.length≤2*l0.length+1)
  case atStart =>
   have e : l0.take l0.length=l0 := List.take_length
   exact ⟨l0,l0.length,[],rfl,Nat.le_refl _,rfl,HR.out,hlim0.out,by rw [e]; exact HT.out,by rw [e]; exact Nat.le_refl _,fun x hx => by simp at hx,by rw [e]; simp [rv],fun _ => Or.inl rfl,⟨rfl,Or.inl ⟨rfl,rfl⟩⟩,hb1,Nat.le_refl _,Nat.zero_le _⟩
  case round =>
   obtain ⟨l,n,rs,rfl,hn,hll,hrow,hlim,htr,hk,hrs,hval,htop,hown,hbel,hsz,hrl⟩ := hrel
   have hgl : g < w1.heap.size := HR.out.lt
   have H1 := Qd hrow
   have H2 := Qd hlim
   have H3 := Qd htr
   have H4 := Qd hrs
   have H5 := Qd hval
   have H6 := Qd htop
   have H7 := Qd hown
   clear hrow hlim htr hrs hval htop hown
   by_cases h0 : n=0
   ·subst h0
    go_wp2
    go_ret
    have h50 := H5.out
    have h60 := H6.out
    rw [List.take_zero,Us,Nat.mul_zero,Nat.add_zero] at h50
    rw [List.take_zero,Us] at h60
    refine ⟨hbel,_,rs,rfl,?_,⟨H4.out,h60 rfl⟩,h50,hrl⟩
    have hlr : Lim rs := fun x hx => by have := H4.out x hx; omega
    by_cases e : rs=[]
    ·subst e
     rcases H7.out.2 with ⟨e1,_⟩ | ⟨g',c',cur,e1,_⟩
     ·exact ⟨hlr,Or.inl ⟨rfl,_,_,e1⟩⟩
     ·exact ⟨hlr,Or.inl ⟨rfl,_,_,e1⟩⟩
    ·obtain ⟨g',c',e1,hg',hm',hr'⟩ := Iw rfl H7.out (fun e2 => by
      rcases H7.out.2 with ⟨_,e3⟩ | ⟨g',c',cur,e3,_⟩
      ·exact e (List.length_eq_zero_iff.1 e3)
      ·have e4 := e2.symm.trans e3
       cases e4)
     exact ⟨hlr,Or.inr ⟨g',0,c',e1,hr'.le,hm',hr'.row.lt,hr'.row.seg⟩⟩
   ·have hApos : Hid (0 < val (l.take n)) := by
     have h1 := JX H3.out (by intro e; have := congrArg List.length e; rw [List.length_take,List.length_nil] at this; omega)
     exact Nat.lt_of_lt_of_le (Xv _) h1
    go_wp2_with fail
    refine (Uc (cap := cap) H1.out H2.out hn (by omega) (by decide : 0 < 1000000000) (by decide)).mono ?_
    rintro e w2 ⟨rfl,honly,l',hrow',hlim',hlen',hv'⟩
    have hle2 : Hid (rs.length≤2*l0.length) := Ax (by have := H5.out; omega) hApos.out (ZB hlim0.out)
    obtain ⟨r,hr⟩ : ∃ r,r=val (l.take n) % 1000000000 := ⟨_,rfl⟩
    have hr9 : r < 1000000000 := by rw [hr]; exact Nat.mod_lt _ (by decide)
    rw [← hr]
    have K0 := Qd hr
    have K1 := Qd hrow'
    have K2 := Qd hlim'
    have K3 := Qd hv'
    have hs2 : w1.heap.size≤w2.heap.size := by rw [honly.size]; exact hsz
    have K4 := Qd (honly.below hbel (by omega : w.heap.size≤g))
    have hown := Mv (EV H7.out honly hgl) (Qh w2 (.cells #[.int .u32 (r : Int)] 128))
    have hnews : ∀ j u,([Value.int .u32 (r : Int)] : List Value)[j]? = some u→(w2.alloc (.cells #[.int .u32 (r : Int)] 128)).cell? (Addr.add ⟨w2.heap.size,0,none⟩ j)=some u := by
     intro j u hj
     match j,hj with
     | 0,hj => simp at hj; subst hj; simp [Addr.add]
    have HNW := Qd hnews
    have HO := Qd hown
    clear hnews hr hrow' hlim' hv' hown
    go_wp2_with (at_builtin; refine wpList_append_own _ rfl _ _ 31 rfl w1.heap.size 128 i0 (.int .u32 0) 1 4 Tryz.underlying31 hi hz0 hz1 hz2 rfl (by decide) _ rs.length (rs.map fun x : Nat => Value.int .u32 (x : Int)) rfl HO.out ⟨w2.heap.size,0,none⟩ 1 1 [.int .u32 (r : Int)] rfl rfl HNW.out (by intro u hu; simp at hu; subst hu; rfl) (by unfold maxLen; omega) (by omega) (by simp; omega) ?_; intro v' w3 hown1 hgrow hnil)
    have hnb : ∀ i,i < w1.heap.size→w3.heap[i]? = w2.heap[i]? := by
     intro i hi'
     have h1 := hgrow.block i (by simp; omega) (by
      rcases H7.out.2 with ⟨e1,_⟩ | ⟨g',c',cur,e1,hb',_⟩
      ·rw [e1]; simp [go_sem,Value.ownBlock]
      ·rw [e1]; simp [go_sem,Value.ownBlock]; omega)
     rw [h1,(Qh w2 _).block i (by omega)]
    have hgs := hgrow.size
    have hb3 : Hid (Below w.heap.size w w3) := by
     have hb2 : Below w.heap.size w (w2.alloc (.cells #[.int .u32 (r : Int)] 128)) := K4.out.alloc (by have := hb1.size; omega) _
     exact ⟨hgrow.os.trans hb2.os,hgrow.tape.trans hb2.tape,hgrow.output.trans hb2.output,Nat.le_trans hb2.size hgrow.size,fun i hi' => by rw [hnb i (by have := hb1.size; omega),K4.out.block i hi']⟩
    have hs3 : w1.heap.size≤w3.heap.size := by simp at hgs; omega
    have hrow3 : Hid (Row w3 g l') := by
     obtain ⟨sp,h⟩ := K1.out
     exact ⟨sp,by rw [hnb g hgl,h]⟩
    rw [show (List.map (fun x : Nat => Value.int .u32 (x : Int)) rs ++ [Value.int .u32 (r : Int)])=(rs ++ [r]).map (fun x : Nat => Value.int .u32 (x : Int)) from by simp,show rs.length+1=(rs ++ [r]).length from by simp] at hown1
    have HO1 := Qd hown1
    clear hown1 hgrow hnil hnb hgs
    have hnl : (l'.take n).length=n := by rw [List.length_take]; omega
    have htrim := GT g 0 cap (l'.take n) w3 (by omega) hcm (hrow3.out.seg.pre n)
    rw [hnl] at htrim
    refine htrim.mono ?_
    rintro e w4 ⟨rfl,hw4⟩
    have hw5 := hw4.symm; subst hw5; clear hw4 htrim
    have hsl := IZ (l'.take n)
    have hst : l'.take (sig (l'.take n))=strip (l'.take n) := by
     unfold strip; rw [List.take_take,Nat.min_eq_left (by omega)]
    have hvn : val (l'.take (sig (l'.take n)))=val (l.take n) / 1000000000 := by rw [hst,Vt,K3.out]
    have HST := Qd hst
    have HVN := Qd hvn
    clear hst hvn
    generalize sig (l'.take n)=m at *
    go_wp2
    go_roundg (val (l.take n) / 1000000000)
    case measure =>
     have := hApos.out
     omega
    case rel =>
     refine ⟨l',m,rs ++ [r],rfl,by omega,by omega,hrow3.out,K2.out,by rw [HST.out]; exact YJ _,by rw [HVN.out]; exact Nat.le_refl _,?_,?_,?_,HO1.out,hb3.out,hs3,?_⟩
     ·intro x hx
      rcases List.mem_append.1 hx with hx | hx
      ·exact H4.out x hx
      ·rw [List.mem_singleton.1 hx]; exact hr9
     ·rw [HVN.out,K0.out]; exact LZ H5.out
     ·intro h0'
      right
      rw [HVN.out] at h0'
      rw [List.getLast?_concat]
      have := hApos.out
      have := K0.out
      intro e
      cases e
      omega
     ·rw [List.length_append,List.length_singleton]
      have := hle2.out
      omega
end Go.Proofs.YtnhplfjlhdpgoaaGreatDoor
/- TF -/
namespace Go.Proofs.YtnhplfjlhdpgoaaGreatDoor
open Go.RowKit Cx Go.Sort
def Tab (w : World) : Prop := Lib.TabIs Tryz.prog w "internal/strconv.uint64pow10" .u64 Lib.pow10Tab
theorem Tab.below {w w' : World} (h : Tab w) (hb : Below w.heap.size w w') : Tab w' := by
 unfold Tab Lib.TabIs World.var? at *
 cases hg : (Tryz.prog).globalNamed "internal/strconv.uint64pow10" with
 | none => simp [hg] at h
 | some g =>
  simp only [hg,Option.bind_some] at h ⊢
  have hlt : g < w.heap.size := by
   rcases Nat.lt_or_ge g w.heap.size with h' | h'
   ·exact h'
   ·rw [Array.getElem?_eq_none h'] at h; simp at h
  rw [hb.block g hlt]
  exact h
theorem holds0 (w : World) (T : TypeId) (nd : Nat) (hs : nd≤24) : Holds (fun (b : UInt8) => Value.int .u8 (b.toNat : Int)) (w.alloc (.cells Lib.zeros24 T)) w.heap.size 0 (Array.replicate nd (0 : UInt8)) := fun j hj => by
 have hj' : j < nd := by simpa using hj
 refine ⟨?_,World.frozen?_alloc_new _ _ _ _⟩
 rw [World.cell?_alloc_new,Lib.zeros24_at _ (by omega),getElem!_pos _ j hj]
 simp
theorem NC (u : Nat) (hu : u < 100) (w : World) :
  Calls Tryz.prog 176 #[.int .u64 u,.int .i64 10] w fun e w' => e=.returned (.string ⟨(Lib.decDigits u).toArray⟩)∧Below w.heap.size w w' := by
 go_enter Tryz.func176,Tryz.ntmps176
 go_wp2_with fail
 refine (Tryz.internal_strconv_small u hu _).mono ?_
 rintro e w' ⟨rfl,hw⟩
 have hw2 := hw.symm; subst hw2; clear hw
 go_wp2
 go_ret
 exact ⟨rfl,Below.refl _ _⟩
theorem fmt_big (u : Nat) (hu : 100≤u) (hu2 : u < 4294967296) (w : World) (ht : Tab w) :
  Calls Tryz.prog 176 #[.int .u64 u,.int .i64 10] w fun e w' => e=.returned (.string ⟨(Lib.decDigits u).toArray⟩)∧Below w.heap.size w w' := by
 have hu64 : u < 18446744073709551616 := by omega
 have hnd20 : Lib.nDigits u≤20 := by have := Lib.numDigits_eq u (by omega) hu64; split at this <;> omega
 have hal : (Tryz.prog).arrayLen 207=24 := by simp [Program.arrayLen,Tryz.underlying207]
 have hsl1 : ∀ W,(Instr.sliceAt 207 (.pointer (some ⟨w.heap.size,0,none⟩)) none (some (.int .i64 (Lib.nDigits u : Int))) none).run Tryz.prog W=.ok (.slice (some ⟨w.heap.size,0,none⟩) (Lib.nDigits u) 24) W := fun W => by
  rw [run_sliceAt_array_h W 207 ⟨w.heap.size,0,none⟩ (by simp [Program.arrayLen,Program.elem,Tryz.underlying207]) .i64 (Lib.nDigits u : Int) (by omega) (by rw [hal]; omega)]
  go_simp
 have hH0 := holds0 w 207 (Lib.nDigits u) (by omega)
 have hfmt := Tryz.internal_strconv_formatBase10 w.heap.size 0 24 u (Array.replicate (Lib.nDigits u) 0) (w.alloc (.cells Lib.zeros24 207)) hH0 (by rw [Array.size_replicate]; exact Lib.lt_pow_nDigits u) hu64 (by rw [Array.size_replicate]; omega)
 rw [Array.size_replicate] at hfmt
 have HH0 := Qd hH0
 have HT := Qd (Lib.tabIs_alloc ht (.cells Lib.zeros24 207))
 have HF := Qd hfmt
 clear hH0 hal ht hfmt
 go_enter Tryz.func176,Tryz.ntmps176
 go_wp2_with fail
 refine (Tryz.internal_strconv_numDigits u (by omega) hu64 _ HT.out).mono ?_
 rintro e w' ⟨rfl,hw⟩
 have hw2 := hw.symm; subst hw2; clear hw
 go_wp2_with fail
 refine Calls.mono HF.out ?_
 rintro e w' ⟨rfl,k,v',dk,hw,hF⟩
 have hw2 := hw.symm; subst hw2; clear hw
 have hcv : (convert 155 9 (.slice (some ⟨w.heap.size,0,none⟩) (Lib.nDigits u) 24)).run Tryz.prog ((putRow (fun (b : UInt8) => Value.int .u8 (b.toNat : Int)) (w.alloc (.cells Lib.zeros24 207)) w.heap.size 0 dk).drewN k)=.ok (.string ⟨(Lib.decDigits u).toArray⟩) ((putRow (fun (b : UInt8) => Value.int .u8 (b.toNat : Int)) (w.alloc (.cells Lib.zeros24 207)) w.heap.size 0 dk).drewN k) := by
  have h := run_convert_bytes_back (P := Tryz.prog) ((putRow (fun (b : UInt8) => Value.int .u8 (b.toNat : Int)) (w.alloc (.cells Lib.zeros24 207)) w.heap.size 0 dk).drewN k) 155 9 5 ⟨w.heap.size,0,none⟩ 24 (Lib.decDigits u) Tryz.underlying155 Tryz.underlying5 Tryz.underlying9 (fun j hj => by
   rw [Lib.row_is_numeral hF j hj,Lib.add_plain,World.cell?_drewN]
   exact cell?_putRow (fun (b : UInt8) => Value.int .u8 (b.toNat : Int)) _ w.heap.size 0 _ dk HH0.out (by rw [hF.size,Array.size_replicate]) j (by rw [hF.size]; rw [Lib.decDigits_length] at hj; exact hj))
  rw [Lib.decDigits_length] at h
  exact h
 go_wp2
 go_ret
 refine ⟨rfl,?_⟩
 obtain ⟨os,_,e⟩ := putRow_grow_new (fun (b : UInt8) => Value.int .u8 (b.toNat : Int)) w #[.cells Lib.zeros24 207] w.heap.size 0 dk (Nat.le_refl _)
 rw [alloc_eq_grow,e]
 refine QM ?_ k
 refine ⟨rfl,rfl,rfl,?_,?_⟩
 ·simp [grow]
 ·intro i hi
  simp [grow,Array.getElem?_append_left hi]
theorem ES (u : Nat) (hu : u < 4294967296) (w : World) (ht : Tab w) :
  Calls Tryz.prog 152 #[.int .u64 u,.int .i64 10] w fun e w' => e=.returned (.string ⟨(Lib.decDigits u).toArray⟩)∧Below w.heap.size w w' := by
 have h : Calls Tryz.prog 176 #[.int .u64 u,.int .i64 10] w fun e w' => e=.returned (.string ⟨(Lib.decDigits u).toArray⟩)∧Below w.heap.size w w' := by
  rcases Nat.lt_or_ge u 100 with h | h
  ·exact NC u h w
  ·exact fmt_big u h hu w ht
 have H := Qd h
 clear h ht
 go_enter Tryz.func152,Tryz.ntmps152
 go_wp2_with fail
 refine Calls.mono H.out ?_
 rintro e w' ⟨rfl,hb⟩
 go_wp2
 go_ret
 exact ⟨rfl,hb⟩
def Bld (B b : Nat) (l : List UInt8) (w : World) : Prop := Lib.IsBuilderF 172 5 B b (Lib.byteCells l) w
theorem IL (B b : Nat) (l : List UInt8) (s : ByteArray) (w : World) (h : Bld B b l w) (hlen : l.length+s.size≤140737488355328) (hBw : B≤w.heap.size) :
  Calls Tryz.prog 153 #[.pointer (some ⟨b,0,none⟩),.string s] w fun e w' => e=.returned (.tuple #[.int .i64 s.size,.nilIface])∧Bld B b (l ++ s.data.toList) w'∧Below B w w' := by
 refine (Any.Builder_WriteString_k { Tryz.lays105 with } Tryz.Builder_Extra_105 B b (Lib.byteCells l) s w h (by rw [Lib.byteCells_length]; exact hlen) hBw).mono ?_
 rintro e w' ⟨rfl,h1,h2,_⟩
 refine ⟨rfl,Or.inr ?_,h2⟩
 have e1 : Lib.byteCells l ++ Lib.strCells s=Lib.byteCells (l ++ s.data.toList) := by rw [Lib.strCells_eq]; simp [Lib.byteCells]
 rw [e1] at h1
 exact h1
theorem Ml (B b : Nat) (l : List UInt8) (w : World) (h : Bld B b l w) (hBw : B≤w.heap.size) :
  Calls Tryz.prog 155 #[.pointer (some ⟨b,0,none⟩)] w fun e w' => e=.returned (.string ⟨l.toArray⟩)∧Below B w w' := by
 refine (Tryz.Builder_String_any_f B b l w h hBw).mono ?_
 rintro e w' ⟨rfl,_,h2⟩
 exact ⟨rfl,h2⟩
theorem bld_new (w : World) : Bld w.heap.size w.heap.size [] (w.alloc (.cells #[.pointer none,.slice none 0 0] 172)) := by
 refine Or.inl ⟨Nat.le_refl _,.slice none 0 0,?_,⟨rfl,Or.inl ⟨rfl,rfl⟩⟩,?_⟩
 ·show (w.heap.push _)[w.heap.size]? = _
  simp
 ·simp [Value.ownBlock]
theorem Bld.below {B b : Nat} {l : List UInt8} {w w' : World} (h : Bld B b l w) (hb : Below w.heap.size w w') : Bld B b l w' := by
 have one : ∀ p,Lib.BuilderAtF 172 5 B b p (Lib.byteCells l) w→Lib.BuilderAtF 172 5 B b p (Lib.byteCells l) w' := by
  rintro p ⟨h1,v,h2,h3,h4⟩
  have lt : ∀ {g : Nat} {o : Obj},w.heap[g]? = some o→g < w.heap.size := by
   intro g o e
   by_cases e' : g < w.heap.size
   ·exact e'
   ·rw [Array.getElem?_eq_none (by omega)] at e; cases e
  refine ⟨h1,v,by rw [hb.block b (lt h2),h2],⟨h3.1,?_⟩,h4⟩
  rcases h3.2 with h | ⟨g',cap,cur,fz,rfl,h5,h6,h7⟩
  ·exact Or.inl h
  ·exact Or.inr ⟨g',cap,cur,fz,rfl,h5,by rw [hb.block g' (lt h6),h6],h7⟩
 rcases h with h | h
 ·exact Or.inl (one _ h)
 ·exact Or.inr (one _ h)
end Go.Proofs.YtnhplfjlhdpgoaaGreatDoor
/- TG -/
namespace Go.Proofs.YtnhplfjlhdpgoaaGreatDoor
open Go.RowKit Cx
def Je (rs : List Nat) (k : Nat) : List UInt8 := if k=rs.length then [] else Lib.decDigits (rv (rs.drop k))
theorem rv_pos {rs : List Nat} (h : Runs rs) {k : Nat} (hk : k < rs.length) : 0 < rv (rs.drop k) := by
 have h1 : rs.drop k ≠ [] := by
  intro e
  have := congrArg List.length e
  rw [List.length_drop] at this
  simp at this
  omega
 obtain ⟨a,x,e⟩ : ∃ a x,rs.drop k=a ++ [x] := ⟨_,_,(List.dropLast_concat_getLast h1).symm⟩
 have hx : rs.getLast? = some x := by
  have e2 : rs=rs.take k ++ (a ++ [x]) := by rw [← e,List.take_append_drop]
  rw [e2,← List.append_assoc,List.getLast?_concat]
 have hx0 : x ≠ 0 := by
  intro e0
  rcases h.top with h2 | h2
  ·rw [h2] at hk; simp at hk
  ·exact h2 (by rw [hx,e0])
 rw [e,Ee]
 have : 0 < 1000000000 ^ a.length*x := Nat.mul_pos (Nat.pow_pos (by decide)) (Nat.pos_of_ne_zero hx0)
 omega
theorem MF {rs : List Nat} (h : Runs rs) {m : Nat} (hm : m < rs.length) : nth rs m < 1000000000 := by
 rw [Xx hm]; exact h.lt _ (List.getElem_mem hm)
theorem nd9 {x : Nat} (h : x < 1000000000) : Lib.nDigits x≤9 := by
 rcases Nat.lt_or_ge 9 (Lib.nDigits x) with h9 | h9
 ·have h1 : ∀ (k u : Nat),k < Lib.nDigits u→10 ^ k≤u ∨ u=0 ∨ k=0 := by
   intro k
   induction k with
   | zero => intro u _; exact Or.inr (Or.inr rfl)
   | succ k ih =>
    intro u hu
    by_cases h10 : u < 10
    ·rw [Lib.nDigits_small h10] at hu; omega
    ·rw [Lib.nDigits_big h10] at hu
     rcases ih (u / 10) (by omega) with h | h | h
     ·left; rw [Nat.pow_succ]; omega
     ·omega
     ·subst h; left; omega
  rcases h1 9 x h9 with h | h | h
  ·omega
  ·subst h; rw [Lib.nDigits_small (by decide)] at h9; omega
  ·omega
 ·exact h9
theorem Bz {rs : List Nat} {m : Nat} (hm : m+1=rs.length) : Je rs (m+1) ++ Lib.decDigits (nth rs m)=Je rs m := by
 unfold Je
 rw [if_pos hm,if_neg (by omega),List.nil_append]
 have e : rs.drop m=[nth rs m] := by
  rw [List.drop_eq_getElem_cons (by omega),Xx (by omega)]
  rw [List.drop_eq_nil_of_le (by omega)]
 rw [e]
 simp [rv]
theorem CP {rs : List Nat} (h : Runs rs) {m : Nat} (hm : m+1 < rs.length) : Je rs (m+1) ++ List.replicate (9 - Lib.nDigits (nth rs m)) 48 ++ Lib.decDigits (nth rs m)=Je rs m := by
 unfold Je
 rw [if_neg (by omega),if_neg (by omega)]
 have e : rs.drop m=nth rs m :: rs.drop (m+1) := by
  rw [List.drop_eq_getElem_cons (by omega),Xx (by omega)]
 have h9 := MF h (m := m) (by omega)
 have := dec_pad 9 (rv (rs.drop (m+1))) (nth rs m) (rv_pos h hm) h9
 rw [e,rv,this,Hb 9 _ (nd9 h9),Lib.decDigits_length,List.append_assoc]
theorem RR (c : Nat) : (Lib.repeatL [48] c)=List.replicate c 48 := by
 induction c with
 | zero => rfl
 | succ c ih => rw [Lib.repeatL,ih,List.replicate_succ]; rfl
theorem PV {w : World} {v : Value} {l0 : List Nat} (h : NatV w v l0) (ht : Trim l0) (hl : l0.length≤1099511627770) (tab : Tab w) :
  Calls Tryz.prog 119 #[v] w fun e w' => Below w.heap.size w w'∧∃ s : ByteArray,e=.returned (.string s)∧s.data.toList=Lib.decDigits (val l0) := by
 have HV := Qd h
 have HT := Qd ht
 have HTAB := Qd tab
 clear h ht tab
 go_enter Tryz.func119,Tryz.ntmps119
 go_wp2_with fail
 refine (Nk HV.out HT.out hl).mono ?_
 rintro e w1 ⟨hb1,v',rs,rfl,hrs,hruns,hval,hlen⟩
 have htab1 := Qd (HTAB.out.below hb1)
 have HR := Qd hruns
 have HVAL := Qd hval
 have HB1 := Qd hb1
 have HRS := Qd hrs
 have hvs : ∃ ao cap,v'=.slice ao rs.length cap := by
  obtain ⟨_,⟨rfl,ao,cap,rfl⟩ | ⟨b,off,cap,rfl,_⟩⟩ := hrs
  ·exact ⟨ao,cap,rfl⟩
  ·exact ⟨_,cap,rfl⟩
 obtain ⟨ao,cap,rfl⟩ := hvs
 clear hrs hruns hval hb1 HTAB
 by_cases h0 : rs.length=0
 ·rw [h0]
  go_wp2
  go_ret
  have : rs=[] := List.length_eq_zero_iff.1 h0
  subst this
  refine ⟨HB1.out,_,rfl,?_⟩
  rw [← HVAL.out,show rv []=0 from rfl,WO (by decide)]
  rfl
 ·have hne : ((rs.length : Int) == 0)=false := by rw [beq_eq_false_iff_ne]; omega
  have hbN := Qd (bld_new w1)
  obtain ⟨ao',cap',b1,o1,e,hsl⟩ := HRS.out.sl Tryz.underlying31 Tryz.sizeOf128
  cases e
  have HSL := Qd hsl
  clear hsl
  go_wp2
  go_loopw [5] (fun i wr => ∃ k : Nat,k≤rs.length∧i=.int .i64 ((k : Int) - 1)∧Bld w1.heap.size w1.heap.size (Je rs k) wr∧(Je rs k).length≤9*(rs.length - k)∧Below w1.heap.size w1 wr) (fun i _ => (intOf i+1).toNat)
  case atStart =>
   refine ⟨rs.length,Nat.le_refl _,rfl,?_,?_,Qh _ _⟩
   ·unfold Je; rw [if_pos rfl]; exact hbN.out
   ·unfold Je; rw [if_pos rfl]; simp
  case round =>
   obtain ⟨k,hk,rfl,hbld,hbl,hbel⟩ := hrel
   have HBLD := Qd hbld
   have hsz := Qd hbel.size
   clear hbld
   by_cases hk0 : k=0
   ·subst hk0
    go_wp2_with fail
    refine (Ml _ _ _ _ HBLD.out hsz.out).mono ?_
    rintro e w5 ⟨rfl,hb5⟩
    go_wp2
    go_ret
    refine ⟨HB1.out.trans ((hbel.trans hb5).mono HB1.out.size),_,rfl,?_⟩
    unfold Je
    rw [if_neg (by omega),List.drop_zero,HVAL.out]
   ·obtain ⟨m,rfl⟩ : ∃ m,k=m+1 := ⟨k - 1,by omega⟩
    rw [show (((m+1 : Nat) : Int) - 1)=(m : Int) from by omega]
    have hia := HSL.out.idx m (by omega)
    have hca := (hbel.cell (p := ⟨b1,o1+m,none⟩) (HSL.out.lt (by omega))).trans (HSL.out.seg m (by omega))
    have hx9 := MF HR.out (m := m) (by omega)
    have hd9 := nd9 hx9
    have HN1 := Qd (fun h => Bz (rs := rs) (m := m) h)
    have HN2 := Qd (fun h => CP HR.out (m := m) h)
    generalize nth rs m=x at *
    go_wp2_with fail
    refine (ES x (by omega) _ (htab1.out.below hbel)).mono ?_
    rintro e w2 ⟨rfl,hb2⟩
    have hts : (⟨(Lib.decDigits x).toArray⟩ : ByteArray).size=Lib.nDigits x := by
     show (Lib.decDigits x).toArray.size=_
     rw [List.size_toArray,Lib.decDigits_length]
    obtain ⟨t,ht,htl,hts⟩ : ∃ t : ByteArray,(⟨(Lib.decDigits x).toArray⟩ : ByteArray)=t∧Hid (t.data.toList=Lib.decDigits x)∧t.size=Lib.nDigits x := ⟨_,rfl,rfl,hts⟩
    rw [ht]
    clear ht
    have hbel2 := hbel.trans (hb2.mono hsz.out)
    have HBLD2 := Qd (HBLD.out.below hb2)
    have hsz2 := Qd hbel2.size
    by_cases hlast : m+1=rs.length
    ·have hcond : ¬ (m : Int) < (rs.length : Int) - 1 := by omega
     go_wp2_with fail
     refine (IL _ _ _ t _ HBLD2.out (by omega) hsz2.out).mono ?_
     rintro e w3 ⟨rfl,hbld3,hb3⟩
     have HBLD3 := Qd hbld3
     clear hbld3
     go_wp2
     go_roundw
     case rel =>
      have e := HN1.out hlast
      refine ⟨m,by omega,by go_num,?_,?_,hbel2.trans hb3⟩
      ·rw [← e,← htl.out]; exact HBLD3.out
      ·rw [← e,List.length_append,Lib.decDigits_length]; omega
     case measure => simp [intOf]
    ·have hcond : (m : Int) < (rs.length : Int) - 1 := by omega
     have hd : (9 : Int) - (Lib.nDigits x : Nat)=((9 - Lib.nDigits x : Nat) : Int) := by omega
     have hzs : (⟨(Lib.repeatL (⟨#[48]⟩ : ByteArray).data.toList (9 - Lib.nDigits x)).toArray⟩ : ByteArray).size=9 - Lib.nDigits x := by
      show (Lib.repeatL [48] (9 - Lib.nDigits x)).toArray.size=_
      rw [List.size_toArray,RR,List.length_replicate]
     go_wp2_with fail
     refine (Tryz.strings_Repeat ⟨#[48]⟩ (9 - Lib.nDigits x) w2 (by omega) (by
      show 1*(9 - Lib.nDigits x)≤140737488355328
      omega)).mono ?_
     rintro e w3 ⟨rfl,hb3⟩
     obtain ⟨z,hz,hzl,hzs⟩ : ∃ z : ByteArray,(⟨(Lib.repeatL (⟨#[48]⟩ : ByteArray).data.toList (9 - Lib.nDigits x)).toArray⟩ : ByteArray)=z∧Hid (z.data.toList=List.replicate (9 - Lib.nDigits x) 48)∧z.size=9 - Lib.nDigits x := ⟨_,rfl,RR _,hzs⟩
     rw [hz]
     clear hz
     have hbel3 := hbel2.trans (hb3.mono hsz2.out)
     have HBLD3 := Qd (HBLD2.out.below hb3)
     have hsz3 := Qd hbel3.size
     go_wp2_with fail
     refine (IL _ _ _ z _ HBLD3.out (by omega) hsz3.out).mono ?_
     rintro e w4 ⟨rfl,hbld4,hb4⟩
     have HBLD4 := Qd hbld4
     clear hbld4
     have hbel4 := hbel3.trans hb4
     have hsz4 := Qd hbel4.size
     go_wp2_with fail
     refine (IL _ _ _ t _ HBLD4.out (by rw [List.length_append,hzl.out,List.length_replicate]; omega) hsz4.out).mono ?_
     rintro e w5 ⟨rfl,hbld5,hb5⟩
     have HBLD5 := Qd hbld5
     clear hbld5
     go_wp2
     go_roundw
     case rel =>
      have e := HN2.out (by omega)
      refine ⟨m,by omega,by go_num,?_,?_,hbel4.trans hb5⟩
      ·rw [← e,← htl.out,← hzl.out]; exact HBLD5.out
      ·rw [← e,List.length_append,List.length_append,Lib.decDigits_length,List.length_replicate]; omega
     case measure => simp [intOf]
theorem Vf {w : World} {v : Value} {n : Nat} (h : NatN w v n) (hs : Small n) (tab : Tab w) :
  Calls Tryz.prog 119 #[v] w fun e w' => Below w.heap.size w w'∧∃ s : ByteArray,e=.returned (.string s)∧s.data.toList=Lib.decDigits n := by
 obtain ⟨l,hl,ht,rfl⟩ := h
 exact PV hl ht (hs.len0 ht) tab
end Go.Proofs.YtnhplfjlhdpgoaaGreatDoor
/- TH -/
namespace Go.Proofs.YtnhplfjlhdpgoaaGreatDoor
open Go.RowKit Cx
attribute [local go_sem ↓] Go.wp_at_zero Go.wp_at_succ
theorem EP {w : World} {c : C3} {q : Rat} (h : QV w (.agg #[.bool c.n,.slice c.u c.nu c.cu,.slice c.l c.nl c.cl]) q) {k : Nat} (f : QS k q) (hk : k≤35184372088640) (tab : Tab w) :
  Calls Tryz.prog 72 #[.agg #[.bool c.n,.slice c.u c.nu c.cu,.slice c.l c.nl c.cl]] w fun e w' => Below w.heap.size w w'∧∃ s : ByteArray,e=.returned (.string s)∧s.data.toList=tx q := by
 obtain ⟨hb0,hk0,hsz⟩ := PN w #[.bool c.n,.slice c.u c.nu c.cu,.slice c.l c.nl c.cl] 58
 have HB0 := Qd hb0
 have HSZ := Qd hsz
 have HK0 := Qd hk0
 have HTAB := Qd (tab.below hb0)
 have SU := Qd (Qs f.num hk)
 have SL := Qd (Qs f.den hk)
 have N1 := Qd (Xl f.num)
 have N2 := Qd (Xl f.den)
 obtain ⟨vu,vl,e,h1,h2⟩ := h
 have H1 := Qd (h1.below hb0)
 have H2 := Qd (h2.below hb0)
 obtain ⟨a2,n2,c2,e2,_,_,hz⟩ := QH h2
 have hn : c.n=decide (q.num < 0)∧vu=.slice c.u c.nu c.cu∧vl=.slice c.l c.nl c.cl := by
  simp only [Value.agg.injEq,Array.mk.injEq,List.cons.injEq,Value.bool.injEq,and_true] at e
  exact ⟨e.1,e.2.1.symm,e.2.2.symm⟩
 obtain ⟨hn,rfl,rfl⟩ := hn
 cases e2
 clear e hb0 hsz hk0 tab f h1 h2
 obtain ⟨z0,z1,z2,_,_,_⟩ := HK0.out.all3
 have HN := Qd hn
 have hlow : Hid (c.nl=0 ↔ q.den=1) := by
  show _ ↔ _
  rw [hz]
  split
  ·rename_i h; simp [h]
  ·rename_i h; have := q.den_nz; simp [h,this]
 clear hz hn
 go_enter Tryz.func72,Tryz.ntmps72
 go_wp2_with fail
 generalize (w.alloc (.cells #[.bool c.n,.slice c.u c.nu c.cu,.slice c.l c.nl c.cl] 58))=W0 at *
 refine (Vf H1.out SU.out HTAB.out).mono ?_
 rintro e w1 ⟨hb1,s1,rfl,hs1⟩
 have hl1 : s1.size≤k+1 := by
  have h := congrArg List.length hs1
  rw [Lib.decDigits_length] at h
  have h' : s1.size=s1.data.toList.length := by simp
  have := N1.out
  omega
 have HS1 := Qd hs1
 clear hs1
 have hk1 := HK0.out.below hb1 (by rw [HSZ.out]; omega)
 obtain ⟨y0,y1,y2,_,_,_⟩ := hk1.all3
 have hcn : c.n=true ∨ c.n=false := by cases c.n <;> simp
 have hcl : c.nl=0 ∨ ((c.nl : Int) != 0)=true := by
  rcases Nat.eq_zero_or_pos c.nl with h | h
  ·exact Or.inl h
  ·right; simp; omega
 rcases hcn with hcn | hcn
 ·have hq : Hid (q.num < 0) := by have h := HN.out; rw [hcn] at h; show q.num < 0; exact of_decide_eq_true h.symm
  rw [hcn] at y0
  rcases hcl with hcl | hcl
  ·have hd : Hid (q.den=1) := hlow.out.1 hcl
   rw [hcl] at y2
   go_wp2
   go_ret
   refine ⟨HB0.out.trans (hb1.mono HB0.out.size),_,rfl,?_⟩
   unfold tx
   rw [if_pos hq.out,if_pos hd.out,List.append_nil,← HS1.out]
   simp
  ·have hd : Hid (¬ q.den=1) := fun e => by have := hlow.out.2 e; rw [this] at hcl; simp at hcl
   have h2 := H2.out
   rw [if_neg hd.out] at h2
   have H2' := Qd h2
   clear h2
   go_wp2_with fail
   refine (Vf (H2'.out.below hb1) SL.out (HTAB.out.below hb1)).mono ?_
   rintro e w2 ⟨hb2,s2,rfl,hs2⟩
   have hl2 : s2.size≤k+1 := by
    have h := congrArg List.length hs2
    rw [Lib.decDigits_length] at h
    have h' : s2.size=s2.data.toList.length := by simp
    have := N2.out
    omega
   have HS2 := Qd hs2
   clear hs2
   go_wp2
   go_ret
   refine ⟨HB0.out.trans ((hb1.trans (hb2.mono hb1.size)).mono HB0.out.size),_,rfl,?_⟩
   unfold tx
   rw [if_pos hq.out,if_neg hd.out,← HS1.out,← HS2.out]
   simp
 ·have hq : Hid (¬ q.num < 0) := by have h := HN.out; rw [hcn] at h; show ¬ q.num < 0; exact of_decide_eq_false h.symm
  rw [hcn] at y0
  rcases hcl with hcl | hcl
  ·have hd : Hid (q.den=1) := hlow.out.1 hcl
   rw [hcl] at y2
   go_wp2
   go_ret
   refine ⟨HB0.out.trans (hb1.mono HB0.out.size),_,rfl,?_⟩
   unfold tx
   rw [if_neg (Int.not_lt.2 hq.out),if_pos hd.out,List.append_nil,← HS1.out]
   rfl
  ·have hd : Hid (¬ q.den=1) := fun e => by have := hlow.out.2 e; rw [this] at hcl; simp at hcl
   have h2 := H2.out
   rw [if_neg hd.out] at h2
   have H2' := Qd h2
   clear h2
   go_wp2_with fail
   refine (Vf (H2'.out.below hb1) SL.out (HTAB.out.below hb1)).mono ?_
   rintro e w2 ⟨hb2,s2,rfl,hs2⟩
   have hl2 : s2.size≤k+1 := by
    have h := congrArg List.length hs2
    rw [Lib.decDigits_length] at h
    have h' : s2.size=s2.data.toList.length := by simp
    have := N2.out
    omega
   have HS2 := Qd hs2
   clear hs2
   go_wp2
   go_ret
   refine ⟨HB0.out.trans ((hb1.trans (hb2.mono hb1.size)).mono HB0.out.size),_,rfl,?_⟩
   unfold tx
   rw [if_neg (Int.not_lt.2 hq.out),if_neg hd.out,← HS1.out,← HS2.out]
   simp
theorem KF {w : World} {v : Value} {q : Rat} (h : QV w v q) {k : Nat} (f : QS k q) (hk : k≤35184372088640) (tab : Tab w) :
  Calls Tryz.prog 72 #[v] w fun e w' => Below w.heap.size w w'∧∃ s : ByteArray,e=.returned (.string s)∧s.data.toList=tx q := by
 obtain ⟨c,rfl⟩ := JC h
 exact EP h f hk tab
end Go.Proofs.YtnhplfjlhdpgoaaGreatDoor
/- WG -/
namespace Go.Proofs.YtnhplfjlhdpgoaaGreatDoor
open Go.RowKit Cx
attribute [local go_sem ↓] Go.wp_at_zero Go.wp_at_succ
theorem fr_nat (n : Nat) (hl : (1 : Nat) ≠ 0) (hc : Nat.Coprime n 1) : fr false n 1 hl hc=(n : Rat) := by
 have := WX (neg := false) (u := n) (l := 1) (hl := hl) (hc := hc) (n := (n : Int)) (d := 1) (by decide) (by simp [sg])
 rw [this,Rat.mkRat_one]
 rfl
theorem EE (n : Nat) (hn : n < 9223372036854775808) (w : World) :
  Calls Tryz.prog 75 #[.int .i64 n] w fun e w' => Below w.heap.size w w'∧∃ v,e=.returned v∧QV w' v (n : Rat) := by
 obtain ⟨hb0,hk0,hsz⟩ := PN w #[.bool false,.slice none 0 0,.slice none 0 0] 58
 have HB0 := Qd hb0
 have HSZ := Qd hsz
 have HK0 := Qd hk0
 clear hb0 hsz hk0
 go_enter Tryz.func75,Tryz.ntmps75
 go_wp2_with fail
 generalize (w.alloc (.cells #[.bool false,.slice none 0 0,.slice none 0 0] 58))=W0 at *
 refine (Xj n W0 (by omega)).mono ?_
 rintro e w1 ⟨hb1,v1,rfl,hv1⟩
 go_wp2_with fail
 refine (Wx w1).mono ?_
 rintro e w2 ⟨hb2,v2,rfl,hv2⟩
 go_wp2_with fail
 refine (Jj (neg := false) (hv1.below hb2) hv2 (by decide) (Nat.coprime_one_right n)).mono ?_
 rintro e w3 ⟨hb3,v3,rfl,hv3⟩
 rw [fr_nat] at hv3
 obtain ⟨d3,rfl⟩ := JC hv3
 have hbl2 := hb1.trans (hb2.mono hb1.size)
 have hbl3 := hbl2.trans (hb3.mono hbl2.size)
 have hkr := HK0.out.below hbl3 (by rw [HSZ.out]; omega)
 obtain ⟨r0,r1,r2,f0,f1,f2⟩ := hkr.all3
 have HV := Qd hv3
 clear hv1 hv2 hv3
 go_wp2
 obtain ⟨k0,k1,k2,_,_,_⟩ := (hkr.put3 (.bool d3.n) (.slice d3.u d3.nu d3.cu) (.slice d3.l d3.nl d3.cl)).all3
 refine bodyPost_ret (v := .agg #[.bool d3.n,.slice d3.u d3.nu d3.cu,.slice d3.l d3.nl d3.cl]) (by simp [results,Tryz.results75,go_sem,k0,k1,k2]) rfl ⟨Below.put3 (HB0.out.trans (hbl3.mono HB0.out.size)) (by omega) _ _ _,_,rfl,?_⟩
 exact (Stays.put3 hkr (by simp [Qm]) (.bool d3.n) (.slice d3.u d3.nu d3.cu) (.slice d3.l d3.nl d3.cl) rfl rfl rfl).qv HV.out
theorem MR (a : ByteArray) : a.data.toList.length=a.size := by simp
end Go.Proofs.YtnhplfjlhdpgoaaGreatDoor
/- VU -/
namespace Go.Proofs.YtnhplfjlhdpgoaaGreatDoor
open Go.RowKit Cx
attribute [local go_sem ↓] Go.wp_at_zero Go.wp_at_succ
theorem fr_neg (n : Nat) (hl : (1 : Nat) ≠ 0) (hc : Nat.Coprime n 1) : fr true n 1 hl hc=((-(n : Int) : Int) : Rat) := by
 have := WX (neg := true) (u := n) (l := 1) (hl := hl) (hc := hc) (n := -(n : Int)) (d := 1) (by decide) (by simp [sg])
 rw [this,Rat.mkRat_one]
theorem EJ (n : Nat) (h0 : 0 < n) (hn : n < 9223372036854775808) : IntKind.u64.wrap (-IntKind.u64.wrap (-(n : Int)))=(n : Int) := by
 have e : ∀ z : Int,IntKind.u64.wrap z=z % 18446744073709551616 := fun z => by
  unfold IntKind.wrap
  simp only [IntKind.bits,IntKind.signed,show (2 : Int) ^ 64=18446744073709551616 from rfl,Bool.false_and,Bool.false_eq_true,if_false]
 rw [e,e]
 omega
theorem Gy (n : Nat) (h0 : 0 < n) (hn : n < 9223372036854775808) (w : World) :
  Calls Tryz.prog 75 #[.int .i64 (-(n : Int))] w fun e w' => Below w.heap.size w w'∧∃ v,e=.returned v∧QV w' v ((-(n : Int) : Int) : Rat) := by
 obtain ⟨hb0,hk0,hsz⟩ := PN w #[.bool false,.slice none 0 0,.slice none 0 0] 58
 have HB0 := Qd hb0
 have HSZ := Qd hsz
 have HK0 := Qd hk0
 clear hb0 hsz hk0
 have hneg : (-(n : Int) < 0) := by omega
 go_enter Tryz.func75,Tryz.ntmps75
 go_wp2_with fail
 generalize (w.alloc (.cells #[.bool false,.slice none 0 0,.slice none 0 0] 58))=W0 at *
 rw [EJ n h0 hn]
 refine (Xj n W0 (by omega)).mono ?_
 rintro e w1 ⟨hb1,v1,rfl,hv1⟩
 go_wp2_with fail
 refine (Wx w1).mono ?_
 rintro e w2 ⟨hb2,v2,rfl,hv2⟩
 go_wp2_with fail
 refine (Jj (neg := true) (hv1.below hb2) hv2 (by decide) (Nat.coprime_one_right n)).mono ?_
 rintro e w3 ⟨hb3,v3,rfl,hv3⟩
 rw [fr_neg] at hv3
 obtain ⟨d3,rfl⟩ := JC hv3
 have hbl2 := hb1.trans (hb2.mono hb1.size)
 have hbl3 := hbl2.trans (hb3.mono hbl2.size)
 have hkr := HK0.out.below hbl3 (by rw [HSZ.out]; omega)
 obtain ⟨r0,r1,r2,f0,f1,f2⟩ := hkr.all3
 have HV := Qd hv3
 clear hv1 hv2 hv3
 go_wp2
 obtain ⟨k0,k1,k2,_,_,_⟩ := (hkr.put3 (.bool d3.n) (.slice d3.u d3.nu d3.cu) (.slice d3.l d3.nl d3.cl)).all3
 refine bodyPost_ret (v := .agg #[.bool d3.n,.slice d3.u d3.nu d3.cu,.slice d3.l d3.nl d3.cl]) (by simp [results,Tryz.results75,go_sem,k0,k1,k2]) rfl ⟨Below.put3 (HB0.out.trans (hbl3.mono HB0.out.size)) (by omega) _ _ _,_,rfl,?_⟩
 exact (Stays.put3 hkr (by simp [Qm]) (.bool d3.n) (.slice d3.u d3.nu d3.cu) (.slice d3.l d3.nl d3.cl) rfl rfl rfl).qv HV.out
theorem Oe (z : Int) (h1 : -9223372036854775808 < z) (h2 : z < 9223372036854775808) (w : World) :
  Calls Tryz.prog 75 #[.int .i64 z] w fun e w' => Below w.heap.size w w'∧∃ v,e=.returned v∧QV w' v (z : Rat) := by
 by_cases hz : 0≤z
 ·obtain ⟨n,rfl⟩ := Int.eq_ofNat_of_zero_le hz
  exact EE n (by omega) w
 ·obtain ⟨n,hn⟩ := Int.eq_ofNat_of_zero_le (a := -z) (by omega)
  obtain rfl : z=-(n : Int) := by omega
  exact Gy n (by omega) (by omega) w
end Go.Proofs.YtnhplfjlhdpgoaaGreatDoor
/- NQA -/
namespace Go.Proofs.YtnhplfjlhdpgoaaGreatDoor
open Go.RowKit Cx
theorem NatN.grows {w w' : World} {v : Value} {n : Nat} (hg : Grows w w') (h : NatN w v n) : NatN w' v n := by
 obtain ⟨l,⟨hl,⟨rfl,ao,cap,rfl⟩ | ⟨b,off,cap,rfl,hc,hm,hlt,hseg⟩⟩,t,rfl⟩ := h
 ·exact ⟨[],NatV.nil _ _ _,t,rfl⟩
 ·by_cases h0 : l.length=0
  ·have := List.length_eq_zero_iff.1 h0
   subst this
   exact ⟨[],NatV.nil _ _ _,t,rfl⟩
  ·have hn : ¬ Boxed w b := by
    rintro ⟨cs,t',hb,_,hno⟩
    have h1 := hseg 0 (by omega)
    rw [Nat.add_zero,hb.cell off] at h1
    exact (Yv hno) off _ h1
   refine ⟨l,⟨hl,Or.inr ⟨b,off,cap,rfl,hc,hm,Nat.lt_of_lt_of_le hlt hg.size,fun j hj => ?_⟩⟩,t,rfl⟩
   have : w'.cell? ⟨b,off+j,none⟩=w.cell? ⟨b,off+j,none⟩ := by simp [World.cell?,hg.block b hlt hn]
   rw [this]
   exact hseg j hj
abbrev Bo (b : Bool) : Fact := Jus (.bool b)
abbrev In (z : Int) : Fact := Jus (.int .i64 z)
theorem Yi {w : World} {F G : Fact} {vs : List Value} (h : All2 w [F,G] vs) : ∃ u v,vs=[u,v]∧F.on u w∧G.on v w := by
 match vs,h with
 | [u,v],h => exact ⟨u,v,rfl,h.1,h.2.1⟩
theorem Nm {P : Program} {w : World} {a : Addr} {v c : Value} (m : Mode) (hv : v.oneCell'=true) (hc : w.cell? a=some c) (hf : w.frozen? a=false) : (store a v m).run P w=.ok () (w.setCell a v) := by
 rw [run_store P w a v m hv,hc]
 simp [hf]
theorem PB (g : Nat) (w : World) : Save g w w := Save.of (Below.refl _ _)
theorem QE {pl : List Plan} {os : List Oper} {i k : Nat} (h : XD k pl=none) (s : Nat) (Fs' : Fact) (hs : pl[s]? = some (.over k Fs')) : ∃ (o' : Oper) (e : Edge),os[s]? = some o'∧e ∈ o'.after∧e.on=i∧Region.binds .any e=true := absurd hs (Jn h s Fs')
theorem Ze {pl : List Plan} {os : List Oper} {i : Nat} (h : XE i pl=none) (s : Nat) (Fs' : Fact) (hs : pl[s]? = some (.fill i Fs')) : ∃ (o' : Oper) (e : Edge),os[s]? = some o'∧e ∈ o'.after∧e.on=i∧Region.binds .any e=true := absurd hs (Jm h s Fs')
def Aw (a : Nat) : Plan→Bool
 | Sum.inr (Sum.inr (Sum.inr (Sum.inl (b,_)))) => Nat.beq a b
 | _ => false
def AO (k : Nat) : Plan→Bool
 | Sum.inr (Sum.inr (Sum.inr (Sum.inr (Sum.inl (b,_))))) => Nat.beq k b
 | _ => false
def onlyAt (p : Plan→Bool) (s0 : Nat) : Nat→List Plan→Bool
 | _,[] => true
 | i,x :: xs => (!p x || Nat.beq i s0) && onlyAt p s0 (i+1) xs
theorem onlyAt.get {p : Plan→Bool} {s0 : Nat} : ∀ {pl : List Plan} {i s : Nat} {x : Plan},onlyAt p s0 i pl=true→pl[s]? = some x→p x=true→i+s=s0
 | [],_,_,_,_,h,_ => by simp at h
 | y :: ys,i,0,x,h,hs,hp => by
  have e : y=x := by simpa using hs
  subst e
  unfold onlyAt at h
  rw [hp] at h
  simp at h
  exact h.1
 | y :: ys,i,s+1,x,h,hs,hp => by
  unfold onlyAt at h
  rw [Bool.and_eq_true] at h
  have := onlyAt.get h.2 (s := s) (x := x) (by simpa using hs) hp
  omega
theorem JZ {pl : List Plan} {a s0 : Nat} (h : onlyAt (Aw a) s0 0 pl=true) (s : Nat) (Fs' : Fact) (hs : pl[s]? = some (.fill a Fs')) : s=s0 := by
 have := onlyAt.get h hs (Nat.beq_refl a)
 omega
theorem ZM {pl : List Plan} {k s0 : Nat} (h : onlyAt (AO k) s0 0 pl=true) (s : Nat) (Fs' : Fact) (hs : pl[s]? = some (.over k Fs')) : s=s0 := by
 have := onlyAt.get h hs (Nat.beq_refl k)
 omega
theorem Jt {pl : List Plan} {os : List Oper} {i s0 k : Nat} {o' : Oper} {e : Edge} (h : onlyAt (Aw i) s0 0 pl=true) (ho : os[s0]? = some o') (hk : o'.after[k]? = some e) (he : e.on=i) (hb : Region.binds .any e=true) (s : Nat) (Fs' : Fact) (hs : pl[s]? = some (.fill i Fs')) : ∃ (o' : Oper) (e : Edge),os[s]? = some o'∧e ∈ o'.after∧e.on=i∧Region.binds .any e=true := by
 have := JZ h s Fs' hs
 subst this
 exact ⟨o',e,ho,Array.mem_of_getElem? hk,he,hb⟩
theorem XQ {pl : List Plan} {os : List Oper} {i b s0 k : Nat} {o' : Oper} {e : Edge} (h : onlyAt (AO b) s0 0 pl=true) (ho : os[s0]? = some o') (hk : o'.after[k]? = some e) (he : e.on=i) (hb : Region.binds .any e=true) (s : Nat) (Fs' : Fact) (hs : pl[s]? = some (.over b Fs')) : ∃ (o' : Oper) (e : Edge),os[s]? = some o'∧e ∈ o'.after∧e.on=i∧Region.binds .any e=true := by
 have := ZM h s Fs' hs
 subst this
 exact ⟨o',e,ho,Array.mem_of_getElem? hk,he,hb⟩
def Ut (m : Nat) (F : Fact) : Prop := ∀ v w,F.on v w→∃ cs : List Value,v=.agg cs.toArray∧cs.length=m∧∀ c ∈ cs,Qm c=true∧c.oneCell'=true
theorem YW {cs : List Value} (h : ∀ c ∈ cs,Qm c=true∧c.oneCell'=true) : cs.toArray.all Qm=true := by
 simp only [List.all_toArray,List.all_eq_true]
 exact fun c hc => (h c hc).1
section
variable {Q : Exit→Act→World→Prop} {w0 : World} {n : Nat} {tm : List (Nat × Fact)} {bx : List (Nat × TypeId × Fact)} {a0 : Act} {wr : World} {os : List Oper} {pl : List Plan}
theorem Zo {i : Nat} {o : Oper} {t : TypeId} (zs : List Value) {Fz : Fact} (hFz : ∀ w,Fz.on (.agg zs.toArray) w) (ho : os[i]? = some o) (hp : pl[i]? = some (.alloc t Fz)) (hw : JM w0 bx a0 wr os pl o true) (hop : o.op=.alloc t)
  (hf : ∀ (s : Nat) (Fs' : Fact),pl[s]? = some (.fill i Fs')→∃ (o' : Oper) (e : Edge),os[s]? = some o'∧e ∈ o'.after∧e.on=i∧Region.binds .any e=true)
  (hz : ∀ w,(Instr.alloc t true (.tuple #[])).run Tryz.prog w=.ok (.pointer (some ⟨w.heap.size,0,none⟩)) (w.alloc (.cells zs.toArray t))) (hnl : zs.toArray.all Qm=true) (hln : zs.length=Tryz.prog.cellsOf t) :
  AStep Tryz.prog Q os a0 (RInv w0 bx a0 wr os pl) i o := Gh ho hp hw hf fun d τ w hr hd hn => by
 refine ⟨w.alloc (.cells zs.toArray t),?_,Qh _ _,zs,Blk.new _ _ _,hFz _,hnl,hln⟩
 unfold execOp
 rw [hop]
 show (do pure (Next.value (← Instr.alloc t true (.tuple #[]))) : Sem Next).run Tryz.prog w=_
 have h := hz w
 revert h
 generalize Instr.alloc t true (.tuple #[])=s
 intro h
 simp [go_sem,h]
def Le (t : TypeId) (F : Fact) : Prop :=
 ∀ (w : World) (v : Value),F.on v w→∃ cs : List Value,(Instr.box t v).run Tryz.prog w=.ok (.pointer (some ⟨w.heap.size,0,none⟩)) (w.alloc (.cells cs.toArray t))∧v=.agg cs.toArray∧cs.toArray.all Qm=true∧cs.length=Tryz.prog.cellsOf t
theorem ZF {i : Nat} {o : Oper} {t : TypeId} {x : Operand} {F : Fact} (ho : os[i]? = some o) (hp : pl[i]? = some (.alloc t F)) (hw : JM w0 bx a0 wr os pl o true) (hop : o.op=.box t x)
  (hf : ∀ (s : Nat) (Fs' : Fact),pl[s]? = some (.fill i Fs')→∃ (o' : Oper) (e : Edge),os[s]? = some o'∧e ∈ o'.after∧e.on=i∧Region.binds .any e=true)
  (hx : Opn w0 bx a0 wr os pl i o x F) (hb : Le t F) :
  AStep Tryz.prog Q os a0 (RInv w0 bx a0 wr os pl) i o := Gh ho hp hw hf fun d τ w hr hd hn => by
 have hv := hx d τ w hr hd hn
 obtain ⟨cs,e,ev,hnl,hln⟩ := hb w _ hv
 rw [ev] at hv
 refine ⟨w.alloc (.cells cs.toArray t),?_,Qh _ _,cs,Blk.new _ _ _,F.st (Grows.of (Qh _ _)) hv,hnl,hln⟩
 unfold execOp
 rw [hop]
 show (do pure (Next.value (← Instr.box t ((Qi a0 τ 0 os).eval x))) : Sem Next).run Tryz.prog w=_
 revert e
 generalize Instr.box t ((Qi a0 τ 0 os).eval x)=s
 intro e
 simp [go_sem,e]
end
theorem QV.grows {w w' : World} {v : Value} {q : Rat} (hg : Grows w w') (h : QV w v q) : QV w' v q := by
 obtain ⟨vu,vl,e,h1,h2⟩ := h
 exact ⟨vu,vl,e,h1.grows hg,h2.grows hg⟩
def Qv (q : Rat) : Fact := ⟨fun v w => QV w v q,fun hg h => h.grows hg⟩
theorem Zm (q : Rat) : Ut 3 (Qv q) := fun v w h => by
 obtain ⟨c,e⟩ := JC h
 exact ⟨[.bool c.n,.slice c.u c.nu c.cu,.slice c.l c.nl c.cl],e,rfl,by simp [Qm,Value.oneCell']⟩
theorem Jr {P : Program} {w0 w : World} {G : Nat} {cs : Array Value} {t : TypeId} (hk : Blk w G cs t) (hs : Save G w0 w) (j : Nat) (x y : Value) (cs' : Array Value) (hx : cs[j]? = some x) (hy : y.oneCell'=true) (hc : cs.setIfInBounds j y=cs') : ∃ w',(store ⟨G,j,none⟩ y).run P w=.ok () w'∧Blk w' G cs' t∧Save G w0 w' :=
 ⟨_,Nm (c := x) _ hy (by rw [hk.cell j]; exact hx) (hk.frozen j),hc ▸ hk.set j y,hs.set j y⟩
theorem OS : Tryz.prog.cellsOf 58=3 := by kernel_rfl
theorem QT {F : Fact} : Pc Tryz.prog 58 F F := fun w G ⟨cs,hk,hF,_,hln⟩ => by
 rw [OS] at hln
 match cs,hln with
 | [x0,x1,x2],_ =>
  refine ⟨.agg #[x0,x1,x2],?_,hF⟩
  have k0 : w.cell? ⟨G,0,none⟩=some x0 := hk.cell 0
  have k1 : w.cell? ⟨G,1,none⟩=some x1 := hk.cell 1
  have k2 : w.cell? ⟨G,2,none⟩=some x2 := hk.cell 2
  clear hk hF
  simp [go_sem,k0,k1,k2]
theorem Jg {F : Fact} (hc : Ut 3 F) : Fr Tryz.prog 58 F F := fun w G F0 v ⟨cs,hk,_,hno,hln⟩ hv => by
 obtain ⟨vs,rfl,hlv,hok⟩ := hc v w hv
 rw [OS] at hln
 match cs,hln,vs,hlv with
 | [x0,x1,x2],_,[y0,y1,y2],_ =>
  have hbx : Boxed w G := ⟨_,_,hk,by decide,hno⟩
  have s0 := PB G w
  obtain ⟨w1,r0,b1,s1⟩ := Jr (P := Tryz.prog) hk s0 0 x0 y0 [y0,x1,x2].toArray rfl (hok y0 (by simp)).2 rfl
  obtain ⟨w2,r1,b2,s2⟩ := Jr (P := Tryz.prog) b1 s1 1 x1 y1 [y0,y1,x2].toArray rfl (hok y1 (by simp)).2 rfl
  obtain ⟨w3,r2,b3,s3⟩ := Jr (P := Tryz.prog) b2 s2 2 x2 y2 [y0,y1,y2].toArray rfl (hok y2 (by simp)).2 rfl
  refine ⟨w3,?_,s3,[y0,y1,y2],b3,F.st (Grows.save s3 hbx) hv,YW hok,by rw [OS]; rfl⟩
  clear b1 s1 b2 s2 b3 s3 s0 hbx hno hv hok hk
  simp [go_sem,r0,r1,r2]
theorem JH (w : World) : (Instr.alloc 58 true (.tuple #[])).run Tryz.prog w=.ok (.pointer (some ⟨w.heap.size,0,none⟩)) (w.alloc (.cells [.bool false,.slice none 0 0,.slice none 0 0].toArray 58)) := by
 simp [go_sem]
theorem YC (w : World) : Any.on (.agg [.bool false,.slice none 0 0,.slice none 0 0].toArray) w := trivial
theorem Jp {F : Fact} (hc : Ut 3 F) : Le 58 F := fun w v hv => by
 obtain ⟨vs,rfl,hlv,hok⟩ := hc v w hv
 match vs,hlv with
 | [y0,y1,y2],_ =>
  refine ⟨[y0,y1,y2],?_,rfl,YW hok,by rw [OS]; rfl⟩
  clear hv hok
  simp [go_sem]
theorem XI (G : Nat) (w : World) : (Instr.fieldAt 58 (.pointer (some ⟨G,0,none⟩)) 0).run Tryz.prog w=.ok (.pointer (some ⟨G,0,none⟩)) w := by
 simp [go_sem]
theorem ZK (G : Nat) (w : World) : (Instr.fieldAt 58 (.pointer (some ⟨G,0,none⟩)) 1).run Tryz.prog w=.ok (.pointer (some ⟨G,1,none⟩)) w := by
 simp [go_sem]
def Nt (n : Nat) : Fact := ⟨fun v w => NatN w v n,fun hg h => h.grows hg⟩
def Cm (a b : Nat) : Fact := ⟨fun v _ => ∃ c : Int,v=.int .i64 c∧(c < 0 ↔ a < b)∧(c=0 ↔ a=b),fun _ h => h⟩
theorem Ud {q : Rat} : VY Tryz.prog 4 0 (Qv q) (Bo (decide (q.num < 0))) := fun w G cs t hk ⟨vu,vl,e,_,_⟩ => by
 have e' : cs=[.bool (decide (q.num < 0)),vu,vl] := congrArg Array.toList (Value.agg.inj e)
 subst e'
 have k0 : w.cell? ⟨G,0,none⟩=some (.bool (decide (q.num < 0))) := hk.cell 0
 refine ⟨_,?_,rfl⟩
 clear hk e
 simp [go_sem,k0]
theorem JL {q : Rat} : VY Tryz.prog 56 1 (Qv q) (Nt q.num.natAbs) := fun w G cs t hk ⟨vu,vl,e,h1,_⟩ => by
 have e' : cs=[.bool (decide (q.num < 0)),vu,vl] := congrArg Array.toList (Value.agg.inj e)
 subst e'
 have k0 : w.cell? ⟨G,1,none⟩=some vu := hk.cell 1
 refine ⟨_,?_,h1⟩
 clear hk e h1
 simp [go_sem,k0]
def Zx : World→Prop := fun _ => True
theorem Wu : Con Tryz.prog Zx 105 [] (Nt 1) := fun w vs _ h => by
 match vs,h with
 | [],_ => exact (Wx w).mono fun e w' ⟨hb,v,e1,h⟩ => ⟨hb,v,e1,h⟩
theorem Vx {neg : Bool} {u l : Nat} (hl : l ≠ 0) (hc : Nat.Coprime u l) {q : Rat} (hq : fr neg u l hl hc=q) : Con Tryz.prog Zx 104 [Bo neg,Nt u,Nt l] (Qv q) := fun w vs _ h => by
 match vs,h with
 | [_,vu,vl],⟨h0,h1,h2,_⟩ =>
  cases (show _=Value.bool neg from h0)
  refine (Jj h1 h2 hl hc).mono ?_
  rintro e w' ⟨hb,v,e1,h⟩
  rw [hq] at h
  exact ⟨hb,v,e1,h⟩
theorem JK {q : Rat} : Con Tryz.prog Zx 106 [Qv q] (Nt q.den) := fun w vs _ h => by
 match vs,h with
 | [v],⟨h0,_⟩ => exact (Zr h0).mono fun e w' ⟨hb,v,e1,h⟩ => ⟨hb,v,e1,h⟩
theorem DB {a b : Nat} (s1 : Small a) (s2 : Small b) : Con Tryz.prog Zx 108 [Nt a,Nt b] (Nt (a*b)) := fun w vs _ h => by
 match vs,h with
 | [va,vb],⟨h0,h1,_⟩ => exact (Ji h0 h1 s1 s2).mono fun e w' ⟨hb,v,e1,h⟩ => ⟨hb,v,e1,h⟩
theorem XH (vs : Array Value) (w : World) : (callFunc 105 vs).run Tryz.prog w=.ok (.enter 105 vs) w := QY Tryz.func105 (by kernel_rfl) (by kernel_rfl) vs w
theorem Xs (vs : Array Value) (w : World) : (callFunc 104 vs).run Tryz.prog w=.ok (.enter 104 vs) w := QY Tryz.func104 (by kernel_rfl) (by kernel_rfl) vs w
theorem Zl (vs : Array Value) (w : World) : (callFunc 106 vs).run Tryz.prog w=.ok (.enter 106 vs) w := QY Tryz.func106 (by kernel_rfl) (by kernel_rfl) vs w
theorem Zq (vs : Array Value) (w : World) : (callFunc 108 vs).run Tryz.prog w=.ok (.enter 108 vs) w := QY Tryz.func108 (by kernel_rfl) (by kernel_rfl) vs w
theorem YB {m n k l : Nat} (h : m < 2 ^ k) (g : n < 2 ^ l) (hk : k+l≤35184372088640) : Small (m*n) := Qs (k := k+l) (by rw [Nat.pow_add]; exact Nat.mul_lt_mul'' h g) hk
end Go.Proofs.YtnhplfjlhdpgoaaGreatDoor
