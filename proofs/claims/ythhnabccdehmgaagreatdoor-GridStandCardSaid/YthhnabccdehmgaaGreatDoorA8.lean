/- Part 8 of the walks and of the mathematics under them: VU NQA PRT WB ZWW GWK VA VB VC VD VE VF VG. -/
import Derived.Test.YthhnabccdehmgaaGreatDoorA7
import Derived.Test.YthhnabccdehmgaaGreatDoorA6
import Derived.Test.YthhnabccdehmgaaGreatDoorA1
import Derived.Below
import Derived.BigCall
set_option maxHeartbeats 16000000
set_option maxRecDepth 100000
/- VU -/
namespace Go.Proofs.YthhnabccdehmgaaGreatDoor
open Go.RowKit Cx
attribute [local go_sem ↓] Go.wp_at_zero Go.wp_at_succ
theorem fr_neg (n : Nat) (hl : (1 : Nat) ≠ 0) (hc : Nat.Coprime n 1) : fr true n 1 hl hc=((-(n : Int) : Int) : Rat) := by
 have := WN (neg := true) (u := n) (l := 1) (hl := hl) (hc := hc) (n := -(n : Int)) (d := 1) (by decide) (by simp [sg])
 rw [this,Rat.mkRat_one]
theorem GM (n : Nat) (h0 : 0 < n) (hn : n < 9223372036854775808) : IntKind.u64.wrap (-IntKind.u64.wrap (-(n : Int)))=(n : Int) := by
 have e : ∀ z : Int,IntKind.u64.wrap z=z % 18446744073709551616 := fun z => by
  unfold IntKind.wrap
  simp only [IntKind.bits,IntKind.signed,show (2 : Int) ^ 64=18446744073709551616 from rfl,Bool.false_and,Bool.false_eq_true,if_false]
 rw [e,e]
 omega
theorem Ge (n : Nat) (h0 : 0 < n) (hn : n < 9223372036854775808) (w : World) :
  Calls Tryz.prog 28 #[.int .i64 (-(n : Int))] w fun e w' => Below w.heap.size w w'∧∃ v,e=.returned v∧QV w' v ((-(n : Int) : Int) : Rat) := by
 obtain ⟨hb0,hk0,hsz⟩ := DE w #[.bool false,.slice none 0 0,.slice none 0 0] 63
 have HB0 := Qd hb0
 have HSZ := Qd hsz
 have HK0 := Qd hk0
 clear hb0 hsz hk0
 have hneg : (-(n : Int) < 0) := by omega
 go_enter Tryz.func28,Tryz.ntmps28
 go_wp2_with fail
 generalize (w.alloc (.cells #[.bool false,.slice none 0 0,.slice none 0 0] 63))=W0 at *
 rw [GM n h0 hn]
 refine (Xm n W0 (by omega)).mono ?_
 rintro e w1 ⟨hb1,v1,rfl,hv1⟩
 go_wp2_with fail
 refine (Wq w1).mono ?_
 rintro e w2 ⟨hb2,v2,rfl,hv2⟩
 go_wp2_with fail
 refine (Jr (neg := true) (hv1.below hb2) hv2 (by decide) (Nat.coprime_one_right n)).mono ?_
 rintro e w3 ⟨hb3,v3,rfl,hv3⟩
 rw [fr_neg] at hv3
 obtain ⟨d3,rfl⟩ := JF hv3
 have hbl2 := hb1.trans (hb2.mono hb1.size)
 have hbl3 := hbl2.trans (hb3.mono hbl2.size)
 have hkr := HK0.out.below hbl3 (by rw [HSZ.out]; omega)
 obtain ⟨r0,r1,r2,f0,f1,f2⟩ := hkr.all3
 have HV := Qd hv3
 clear hv1 hv2 hv3
 go_wp2
 obtain ⟨k0,k1,k2,_,_,_⟩ := (hkr.put3 (.bool d3.n) (.slice d3.u d3.nu d3.cu) (.slice d3.l d3.nl d3.cl)).all3
 refine bodyPost_ret (v := .agg #[.bool d3.n,.slice d3.u d3.nu d3.cu,.slice d3.l d3.nl d3.cl]) (by simp [results,Tryz.results28,go_sem,k0,k1,k2]) rfl ⟨Below.put3 (HB0.out.trans (hbl3.mono HB0.out.size)) (by omega) _ _ _,_,rfl,?_⟩
 exact (Stays.put3 hkr (by simp [Qk]) (.bool d3.n) (.slice d3.u d3.nu d3.cu) (.slice d3.l d3.nl d3.cl) rfl rfl rfl).qv HV.out
theorem Ov (z : Int) (h1 : -9223372036854775808 < z) (h2 : z < 9223372036854775808) (w : World) :
  Calls Tryz.prog 28 #[.int .i64 z] w fun e w' => Below w.heap.size w w'∧∃ v,e=.returned v∧QV w' v (z : Rat) := by
 by_cases hz : 0≤z
 ·obtain ⟨n,rfl⟩ := Int.eq_ofNat_of_zero_le hz
  exact Nl n (by omega) w
 ·obtain ⟨n,hn⟩ := Int.eq_ofNat_of_zero_le (a := -z) (by omega)
  obtain rfl : z=-(n : Int) := by omega
  exact Ge n (by omega) (by omega) w
end Go.Proofs.YthhnabccdehmgaaGreatDoor
/- NQA -/
namespace Go.Proofs.YthhnabccdehmgaaGreatDoor
open Go.RowKit Cx
theorem NatN.grows {w w' : World} {v : Value} {n : Nat} (hg : Grows w w') (h : NatN w v n) : NatN w' v n := by
 obtain ⟨l,⟨hl,⟨rfl,ao,cap,rfl⟩ | ⟨b,off,cap,rfl,hc,hm,hlt,hseg⟩⟩,t,rfl⟩ := h
 ·exact ⟨[],NatV.nil _ _ _,t,rfl⟩
 ·by_cases h0 : l.length=0
  ·have := List.length_eq_zero_iff.1 h0
   subst this
   exact ⟨[],NatV.nil _ _ _,t,rfl⟩
  ·have hn : ¬ Boxed w b := by
    rintro ⟨cs,t',hb,_,hno⟩
    have h1 := hseg 0 (by omega)
    rw [Nat.add_zero,hb.cell off] at h1
    exact (Ys hno) off _ h1
   refine ⟨l,⟨hl,Or.inr ⟨b,off,cap,rfl,hc,hm,Nat.lt_of_lt_of_le hlt hg.size,fun j hj => ?_⟩⟩,t,rfl⟩
   have : w'.cell? ⟨b,off+j,none⟩=w.cell? ⟨b,off+j,none⟩ := by simp [World.cell?,hg.block b hlt hn]
   rw [this]
   exact hseg j hj
abbrev Bo (b : Bool) : Fact := Jus (.bool b)
abbrev In (z : Int) : Fact := Jus (.int .i64 z)
theorem Wb {w : World} {F G : Fact} {vs : List Value} (h : All2 w [F,G] vs) : ∃ u v,vs=[u,v]∧F.on u w∧G.on v w := by
 match vs,h with
 | [u,v],h => exact ⟨u,v,rfl,h.1,h.2.1⟩
theorem Eg {P : Program} {w : World} {a : Addr} {v c : Value} (m : Mode) (hv : v.oneCell'=true) (hc : w.cell? a=some c) (hf : w.frozen? a=false) : (store a v m).run P w=.ok () (w.setCell a v) := by
 rw [run_store P w a v m hv,hc]
 simp [hf]
theorem Pd (g : Nat) (w : World) : Save g w w := Save.of (Below.refl _ _)
theorem QK {pl : List Plan} {os : List Oper} {i k : Nat} (h : Xs k pl=none) (s : Nat) (Fs' : Fact) (hs : pl[s]? = some (.over k Fs')) : ∃ (o' : Oper) (e : Edge),os[s]? = some o'∧e ∈ o'.after∧e.on=i∧Region.binds .any e=true := absurd hs (Jq h s Fs')
theorem Zh {pl : List Plan} {os : List Oper} {i : Nat} (h : Xx i pl=none) (s : Nat) (Fs' : Fact) (hs : pl[s]? = some (.fill i Fs')) : ∃ (o' : Oper) (e : Edge),os[s]? = some o'∧e ∈ o'.after∧e.on=i∧Region.binds .any e=true := absurd hs (Jp h s Fs')
def Ad (a : Nat) : Plan→Bool
 | Sum.inr (Sum.inr (Sum.inr (Sum.inl (b,_)))) => Nat.beq a b
 | _ => false
def NF (k : Nat) : Plan→Bool
 | Sum.inr (Sum.inr (Sum.inr (Sum.inr (Sum.inl (b,_))))) => Nat.beq k b
 | _ => false
def onlyAt (p : Plan→Bool) (s0 : Nat) : Nat→List Plan→Bool
 | _,[] => true
 | i,x :: xs => (!p x || Nat.beq i s0) && onlyAt p s0 (i+1) xs
theorem onlyAt.get {p : Plan→Bool} {s0 : Nat} : ∀ {pl : List Plan} {i s : Nat} {x : Plan},onlyAt p s0 i pl=true→pl[s]? = some x→p x=true→i+s=s0
 | [],_,_,_,_,h,_ => by simp at h
 | y :: ys,i,0,x,h,hs,hp => by
  have e : y=x := by simpa using hs
  subst e
  unfold onlyAt at h
  rw [hp] at h
  simp at h
  exact h.1
 | y :: ys,i,s+1,x,h,hs,hp => by
  unfold onlyAt at h
  rw [Bool.and_eq_true] at h
  have := onlyAt.get h.2 (s := s) (x := x) (by simpa using hs) hp
  omega
theorem Vy {pl : List Plan} {a s0 : Nat} (h : onlyAt (Ad a) s0 0 pl=true) (s : Nat) (Fs' : Fact) (hs : pl[s]? = some (.fill a Fs')) : s=s0 := by
 have := onlyAt.get h hs (Nat.beq_refl a)
 omega
theorem Jc {pl : List Plan} {k s0 : Nat} (h : onlyAt (NF k) s0 0 pl=true) (s : Nat) (Fs' : Fact) (hs : pl[s]? = some (.over k Fs')) : s=s0 := by
 have := onlyAt.get h hs (Nat.beq_refl k)
 omega
theorem YD {pl : List Plan} {os : List Oper} {i s0 k : Nat} {o' : Oper} {e : Edge} (h : onlyAt (Ad i) s0 0 pl=true) (ho : os[s0]? = some o') (hk : o'.after[k]? = some e) (he : e.on=i) (hb : Region.binds .any e=true) (s : Nat) (Fs' : Fact) (hs : pl[s]? = some (.fill i Fs')) : ∃ (o' : Oper) (e : Edge),os[s]? = some o'∧e ∈ o'.after∧e.on=i∧Region.binds .any e=true := by
 have := Vy h s Fs' hs
 subst this
 exact ⟨o',e,ho,Array.mem_of_getElem? hk,he,hb⟩
theorem Oy {pl : List Plan} {os : List Oper} {i b s0 k : Nat} {o' : Oper} {e : Edge} (h : onlyAt (NF b) s0 0 pl=true) (ho : os[s0]? = some o') (hk : o'.after[k]? = some e) (he : e.on=i) (hb : Region.binds .any e=true) (s : Nat) (Fs' : Fact) (hs : pl[s]? = some (.over b Fs')) : ∃ (o' : Oper) (e : Edge),os[s]? = some o'∧e ∈ o'.after∧e.on=i∧Region.binds .any e=true := by
 have := Jc h s Fs' hs
 subst this
 exact ⟨o',e,ho,Array.mem_of_getElem? hk,he,hb⟩
def Wp (m : Nat) (F : Fact) : Prop := ∀ v w,F.on v w→∃ cs : List Value,v=.agg cs.toArray∧cs.length=m∧∀ c ∈ cs,Qk c=true∧c.oneCell'=true
theorem YQ {cs : List Value} (h : ∀ c ∈ cs,Qk c=true∧c.oneCell'=true) : cs.toArray.all Qk=true := by
 simp only [List.all_toArray,List.all_eq_true]
 exact fun c hc => (h c hc).1
section
variable {Q : Exit→Act→World→Prop} {w0 : World} {n : Nat} {tm : List (Nat × Fact)} {bx : List (Nat × TypeId × Fact)} {a0 : Act} {wr : World} {os : List Oper} {pl : List Plan}
theorem ZQ {i : Nat} {o : Oper} {t : TypeId} (zs : List Value) {Fz : Fact} (hFz : ∀ w,Fz.on (.agg zs.toArray) w) (ho : os[i]? = some o) (hp : pl[i]? = some (.alloc t Fz)) (hw : JW w0 bx a0 wr os pl o true) (hop : o.op=.alloc t)
  (hf : ∀ (s : Nat) (Fs' : Fact),pl[s]? = some (.fill i Fs')→∃ (o' : Oper) (e : Edge),os[s]? = some o'∧e ∈ o'.after∧e.on=i∧Region.binds .any e=true)
  (hz : ∀ w,(Instr.alloc t true (.tuple #[])).run Tryz.prog w=.ok (.pointer (some ⟨w.heap.size,0,none⟩)) (w.alloc (.cells zs.toArray t))) (hnl : zs.toArray.all Qk=true) (hln : zs.length=Tryz.prog.cellsOf t) :
  AStep Tryz.prog Q os a0 (RInv w0 bx a0 wr os pl) i o := KE ho hp hw hf fun d τ w hr hd hn => by
 refine ⟨w.alloc (.cells zs.toArray t),?_,Qg _ _,zs,Blk.new _ _ _,hFz _,hnl,hln⟩
 unfold execOp
 rw [hop]
 show (do pure (Next.value (← Instr.alloc t true (.tuple #[]))) : Sem Next).run Tryz.prog w=_
 have h := hz w
 revert h
 generalize Instr.alloc t true (.tuple #[])=s
 intro h
 simp [go_sem,h]
def LP (t : TypeId) (F : Fact) : Prop :=
 ∀ (w : World) (v : Value),F.on v w→∃ cs : List Value,(Instr.box t v).run Tryz.prog w=.ok (.pointer (some ⟨w.heap.size,0,none⟩)) (w.alloc (.cells cs.toArray t))∧v=.agg cs.toArray∧cs.toArray.all Qk=true∧cs.length=Tryz.prog.cellsOf t
theorem ZR {i : Nat} {o : Oper} {t : TypeId} {x : Operand} {F : Fact} (ho : os[i]? = some o) (hp : pl[i]? = some (.alloc t F)) (hw : JW w0 bx a0 wr os pl o true) (hop : o.op=.box t x)
  (hf : ∀ (s : Nat) (Fs' : Fact),pl[s]? = some (.fill i Fs')→∃ (o' : Oper) (e : Edge),os[s]? = some o'∧e ∈ o'.after∧e.on=i∧Region.binds .any e=true)
  (hx : Opn w0 bx a0 wr os pl i o x F) (hb : LP t F) :
  AStep Tryz.prog Q os a0 (RInv w0 bx a0 wr os pl) i o := KE ho hp hw hf fun d τ w hr hd hn => by
 have hv := hx d τ w hr hd hn
 obtain ⟨cs,e,ev,hnl,hln⟩ := hb w _ hv
 rw [ev] at hv
 refine ⟨w.alloc (.cells cs.toArray t),?_,Qg _ _,cs,Blk.new _ _ _,F.st (Grows.of (Qg _ _)) hv,hnl,hln⟩
 unfold execOp
 rw [hop]
 show (do pure (Next.value (← Instr.box t ((Ql a0 τ 0 os).eval x))) : Sem Next).run Tryz.prog w=_
 revert e
 generalize Instr.box t ((Ql a0 τ 0 os).eval x)=s
 intro e
 simp [go_sem,e]
end
theorem QV.grows {w w' : World} {v : Value} {q : Rat} (hg : Grows w w') (h : QV w v q) : QV w' v q := by
 obtain ⟨vu,vl,e,h1,h2⟩ := h
 exact ⟨vu,vl,e,h1.grows hg,h2.grows hg⟩
def Qv (q : Rat) : Fact := ⟨fun v w => QV w v q,fun hg h => h.grows hg⟩
theorem ZS (q : Rat) : Wp 3 (Qv q) := fun v w h => by
 obtain ⟨c,e⟩ := JF h
 exact ⟨[.bool c.n,.slice c.u c.nu c.cu,.slice c.l c.nl c.cl],e,rfl,by simp [Qk,Value.oneCell']⟩
theorem Jx {P : Program} {w0 w : World} {G : Nat} {cs : Array Value} {t : TypeId} (hk : Blk w G cs t) (hs : Save G w0 w) (j : Nat) (x y : Value) (cs' : Array Value) (hx : cs[j]? = some x) (hy : y.oneCell'=true) (hc : cs.setIfInBounds j y=cs') : ∃ w',(store ⟨G,j,none⟩ y).run P w=.ok () w'∧Blk w' G cs' t∧Save G w0 w' :=
 ⟨_,Eg (c := x) _ hy (by rw [hk.cell j]; exact hx) (hk.frozen j),hc ▸ hk.set j y,hs.set j y⟩
theorem Io : Tryz.prog.cellsOf 63=3 := by kernel_rfl
theorem Zm {F : Fact} : Pj Tryz.prog 63 F F := fun w G ⟨cs,hk,hF,_,hln⟩ => by
 rw [Io] at hln
 match cs,hln with
 | [x0,x1,x2],_ =>
  refine ⟨.agg #[x0,x1,x2],?_,hF⟩
  have k0 : w.cell? ⟨G,0,none⟩=some x0 := hk.cell 0
  have k1 : w.cell? ⟨G,1,none⟩=some x1 := hk.cell 1
  have k2 : w.cell? ⟨G,2,none⟩=some x2 := hk.cell 2
  clear hk hF
  simp [go_sem,k0,k1,k2]
theorem Xp {F : Fact} (hc : Wp 3 F) : Dj Tryz.prog 63 F F := fun w G F0 v ⟨cs,hk,_,hno,hln⟩ hv => by
 obtain ⟨vs,rfl,hlv,hok⟩ := hc v w hv
 rw [Io] at hln
 match cs,hln,vs,hlv with
 | [x0,x1,x2],_,[y0,y1,y2],_ =>
  have hbx : Boxed w G := ⟨_,_,hk,by decide,hno⟩
  have s0 := Pd G w
  obtain ⟨w1,r0,b1,s1⟩ := Jx (P := Tryz.prog) hk s0 0 x0 y0 [y0,x1,x2].toArray rfl (hok y0 (by simp)).2 rfl
  obtain ⟨w2,r1,b2,s2⟩ := Jx (P := Tryz.prog) b1 s1 1 x1 y1 [y0,y1,x2].toArray rfl (hok y1 (by simp)).2 rfl
  obtain ⟨w3,r2,b3,s3⟩ := Jx (P := Tryz.prog) b2 s2 2 x2 y2 [y0,y1,y2].toArray rfl (hok y2 (by simp)).2 rfl
  refine ⟨w3,?_,s3,[y0,y1,y2],b3,F.st (Grows.save s3 hbx) hv,YQ hok,by rw [Io]; rfl⟩
  clear b1 s1 b2 s2 b3 s3 s0 hbx hno hv hok hk
  simp [go_sem,r0,r1,r2]
theorem XZ (w : World) : (Instr.alloc 63 true (.tuple #[])).run Tryz.prog w=.ok (.pointer (some ⟨w.heap.size,0,none⟩)) (w.alloc (.cells [.bool false,.slice none 0 0,.slice none 0 0].toArray 63)) := by
 simp [go_sem]
theorem We (w : World) : Any.on (.agg [.bool false,.slice none 0 0,.slice none 0 0].toArray) w := trivial
theorem JH {F : Fact} (hc : Wp 3 F) : LP 63 F := fun w v hv => by
 obtain ⟨vs,rfl,hlv,hok⟩ := hc v w hv
 match vs,hlv with
 | [y0,y1,y2],_ =>
  refine ⟨[y0,y1,y2],?_,rfl,YQ hok,by rw [Io]; rfl⟩
  clear hv hok
  simp [go_sem]
theorem XK (G : Nat) (w : World) : (Instr.fieldAt 63 (.pointer (some ⟨G,0,none⟩)) 0).run Tryz.prog w=.ok (.pointer (some ⟨G,0,none⟩)) w := by
 simp [go_sem]
theorem ZP (G : Nat) (w : World) : (Instr.fieldAt 63 (.pointer (some ⟨G,0,none⟩)) 1).run Tryz.prog w=.ok (.pointer (some ⟨G,1,none⟩)) w := by
 simp [go_sem]
def Nt (n : Nat) : Fact := ⟨fun v w => NatN w v n,fun hg h => h.grows hg⟩
def Cm (a b : Nat) : Fact := ⟨fun v _ => ∃ c : Int,v=.int .i64 c∧(c < 0 ↔ a < b)∧(c=0 ↔ a=b),fun _ h => h⟩
theorem Ux {q : Rat} : Vv Tryz.prog 4 0 (Qv q) (Bo (decide (q.num < 0))) := fun w G cs t hk ⟨vu,vl,e,_,_⟩ => by
 have e' : cs=[.bool (decide (q.num < 0)),vu,vl] := congrArg Array.toList (Value.agg.inj e)
 subst e'
 have k0 : w.cell? ⟨G,0,none⟩=some (.bool (decide (q.num < 0))) := hk.cell 0
 refine ⟨_,?_,rfl⟩
 clear hk e
 simp [go_sem,k0]
theorem JT {q : Rat} : Vv Tryz.prog 61 1 (Qv q) (Nt q.num.natAbs) := fun w G cs t hk ⟨vu,vl,e,h1,_⟩ => by
 have e' : cs=[.bool (decide (q.num < 0)),vu,vl] := congrArg Array.toList (Value.agg.inj e)
 subst e'
 have k0 : w.cell? ⟨G,1,none⟩=some vu := hk.cell 1
 refine ⟨_,?_,h1⟩
 clear hk e h1
 simp [go_sem,k0]
def ZW : World→Prop := fun _ => True
theorem Wr : Con Tryz.prog ZW 69 [] (Nt 1) := fun w vs _ h => by
 match vs,h with
 | [],_ => exact (Wq w).mono fun e w' ⟨hb,v,e1,h⟩ => ⟨hb,v,e1,h⟩
theorem Vu {neg : Bool} {u l : Nat} (hl : l ≠ 0) (hc : Nat.Coprime u l) {q : Rat} (hq : fr neg u l hl hc=q) : Con Tryz.prog ZW 67 [Bo neg,Nt u,Nt l] (Qv q) := fun w vs _ h => by
 match vs,h with
 | [_,vu,vl],⟨h0,h1,h2,_⟩ =>
  cases (show _=Value.bool neg from h0)
  refine (Jr h1 h2 hl hc).mono ?_
  rintro e w' ⟨hb,v,e1,h⟩
  rw [hq] at h
  exact ⟨hb,v,e1,h⟩
theorem JS {q : Rat} : Con Tryz.prog ZW 93 [Qv q] (Nt q.den) := fun w vs _ h => by
 match vs,h with
 | [v],⟨h0,_⟩ => exact (Zr h0).mono fun e w' ⟨hb,v,e1,h⟩ => ⟨hb,v,e1,h⟩
theorem Dx {a b : Nat} (s1 : Small a) (s2 : Small b) : Con Tryz.prog ZW 95 [Nt a,Nt b] (Nt (a*b)) := fun w vs _ h => by
 match vs,h with
 | [va,vb],⟨h0,h1,_⟩ => exact (Jn h0 h1 s1 s2).mono fun e w' ⟨hb,v,e1,h⟩ => ⟨hb,v,e1,h⟩
theorem XH (vs : Array Value) (w : World) : (callFunc 69 vs).run Tryz.prog w=.ok (.enter 69 vs) w := ZG Tryz.func69 (by kernel_rfl) (by kernel_rfl) vs w
theorem Xw (vs : Array Value) (w : World) : (callFunc 67 vs).run Tryz.prog w=.ok (.enter 67 vs) w := ZG Tryz.func67 (by kernel_rfl) (by kernel_rfl) vs w
theorem Zl (vs : Array Value) (w : World) : (callFunc 93 vs).run Tryz.prog w=.ok (.enter 93 vs) w := ZG Tryz.func93 (by kernel_rfl) (by kernel_rfl) vs w
theorem Zq (vs : Array Value) (w : World) : (callFunc 95 vs).run Tryz.prog w=.ok (.enter 95 vs) w := ZG Tryz.func95 (by kernel_rfl) (by kernel_rfl) vs w
theorem UA {m n k l : Nat} (h : m < 2 ^ k) (g : n < 2 ^ l) (hk : k+l≤35184372088640) : Small (m*n) := Qq (k := k+l) (by rw [Nat.pow_add]; exact Nat.mul_lt_mul'' h g) hk
end Go.Proofs.YthhnabccdehmgaaGreatDoor
/- PRT -/
namespace Go.Proofs.YthhnabccdehmgaaGreatDoor
open Go.RowKit Cx
theorem fr_up (q : Rat) : fr (decide (q.num < 0)) q.num.natAbs 1 (by decide) (Nat.coprime_one_right _)=(q.num : Rat) := by
 have := WN (neg := decide (q.num < 0)) (u := q.num.natAbs) (l := 1) (hl := by decide) (hc := Nat.coprime_one_right _) (n := q.num) (d := 1) (by decide) (by rw [Ol])
 rw [this,Rat.mkRat_one]
theorem fr_low (n : Nat) : fr false n 1 (by decide) (Nat.coprime_one_right _)=((n : Int) : Rat) := by
 have := WN (neg := false) (u := n) (l := 1) (hl := by decide) (hc := Nat.coprime_one_right _) (n := (n : Int)) (d := 1) (by decide) (by simp [sg])
 rw [this,Rat.mkRat_one]
theorem AS.ret22 {P : Program} {fn : Func} {R : Ending→World→Prop} {w0 : World} {n : Nat} {tm : List (Nat × Fact)} {bx : List (Nat × TypeId × Fact)} {a : Act} {w : World} (h : AS w0 n tm bx a w) (k b k2 b2 : Nat) {t t2 : Tmp} {ty : TypeId} {G G2 : Nat} {F Fs F2 Fs2 : Fact} (hr : fn.results=#[.cell t ty,.cell t2 ty]) (hk : tm[k]? = some (t,Jus (.pointer (some ⟨G,0,none⟩)))) (hb : bx[b]? = some (G,ty,Fs)) (hl : Pj P ty Fs F) (hk2 : tm[k2]? = some (t2,Jus (.pointer (some ⟨G2,0,none⟩)))) (hb2 : bx[b2]? = some (G2,ty,Fs2)) (hl2 : Pj P ty Fs2 F2) (hR : ∀ v,(Tup [F,F2]).on v w→R (.returned v) w) : bodyPost P fn R .ret a w := by
 obtain ⟨v,e,hF⟩ := hl w G (h.box b G ty Fs hb).2
 obtain ⟨v',e',hF'⟩ := hl2 w G2 (h.box b2 G2 ty Fs2 hb2).2
 have hv : a.tmps.getD t undef=.pointer (some ⟨G,0,none⟩) := h.tmp t _ (List.mem_of_getElem? hk)
 have hv' : a.tmps.getD t2 undef=.pointer (some ⟨G2,0,none⟩) := h.tmp t2 _ (List.mem_of_getElem? hk2)
 refine ⟨h.nod,.tuple #[v,v'],?_,hR _ ⟨[_,_],rfl,hF,hF',trivial⟩⟩
 have e2 : (loadVar ty ⟨G,0,none⟩).run P w=.ok v w := by
  have : Instr.loadAt ty (.pointer (some ⟨G,0,none⟩))=loadVar ty ⟨G,0,none⟩ := rfl
  rw [← this]
  exact e
 have e2' : (loadVar ty ⟨G2,0,none⟩).run P w=.ok v' w := by
  have : Instr.loadAt ty (.pointer (some ⟨G2,0,none⟩))=loadVar ty ⟨G2,0,none⟩ := rfl
  rw [← this]
  exact e'
 unfold results
 rw [hr]
 have e3 : ((do loadVar ty (← asAddr (a.tmps.getD t undef)) : Sem Value)).run P w=.ok v w := by
  rw [hv]
  exact e2
 have e3' : ((do loadVar ty (← asAddr (a.tmps.getD t2 undef)) : Sem Value)).run P w=.ok v' w := by
  rw [hv']
  exact e2'
 revert e3 e3'
 simp only [List.mapM_toArray,List.mapM_cons,List.mapM_nil]
 generalize (do loadVar ty (← asAddr (a.tmps.getD t undef)) : Sem Value)=s
 generalize (do loadVar ty (← asAddr (a.tmps.getD t2 undef)) : Sem Value)=s'
 intro e3 e3'
 simp [go_sem,e3,e3']
theorem Em {q : Rat} : Con Tryz.prog ZW 46 [Qv q] (Tup [Qv (q.num : Rat),Qv ((q.den : Int) : Rat)]) := by
 refine Vn (n := 14) Tryz.func46 rfl rfl (Nat.le_of_ble_eq_true rfl) ?_
 intro w a0 hp S0
 have HPRE : ∀ w',Below w.heap.size w w'→ZW w' := fun _ _ => trivial
 refine wp_seq ?_
 refine Qy [.alloc 63 (Qv q),.alloc 63 Any,.alloc 63 Any] ⟨S0,by decide +kernel⟩ (by kernel_rfl) (by kernel_rfl) rfl (by kernel_rfl) ?_ ?_
 ·intro C
  refine ASteps.cons ?_ (ASteps.cons ?_ (ASteps.cons ?_ (ASteps.nil)))
  ·exact ZR rfl rfl (Qa rfl) rfl (Zh (by kernel_rfl)) (Qh C 0 (by kernel_rfl) rfl) (JH (ZS _))
  ·exact ZQ [.bool false,.slice none 0 0,.slice none 0 0] We rfl rfl (Qa rfl) rfl (Zh (by kernel_rfl)) XZ (by simp [Qk]) (by kernel_rfl)
  ·exact ZQ [.bool false,.slice none 0 0,.slice none 0 0] We rfl rfl (Qa rfl) rfl (Zh (by kernel_rfl)) XZ (by simp [Qk]) (by kernel_rfl)
 intro γ a1 w1 S1
 replace S1 : AS w 14 [(3,Jus (.pointer (some ⟨γ 2,0,none⟩))),(2,Jus (.pointer (some ⟨γ 1,0,none⟩))),(1,Jus (.pointer (some ⟨γ 0,0,none⟩)))] [(γ 0,63,Qv q),(γ 1,63,Any),(γ 2,63,Any)] a1 w1 := cast (by kernel_rfl) (S1.keep [1,2,3])
 generalize γ 0=G0 at S1
 generalize γ 1=G1 at S1
 generalize γ 2=G2 at S1
 clear S0
 refine Qe ?_
 refine wp_seq ?_
 refine Qy [.pure (Jus (.pointer (some ⟨G0,0,none⟩))),.pure (Bo (decide (q.num < 0))),.pure (Jus (.pointer (some ⟨G0,1,none⟩))),.pure (Nt q.num.natAbs),.pure (Nt 1),.pure (Qv (q.num : Rat)),.pure (Qv q),.pure (Nt q.den),.pure (Nt 1),.pure (Qv ((q.den : Int) : Rat)),.over 1 (Qv (q.num : Rat)),.over 2 (Qv ((q.den : Int) : Rat))] ⟨S1,by decide +kernel⟩ (by kernel_rfl) (by kernel_rfl) rfl (by kernel_rfl) ?_ ?_
 ·intro C
  refine ASteps.cons ?_ (ASteps.cons ?_ (ASteps.cons ?_ (ASteps.cons ?_ (ASteps.cons ?_ (ASteps.cons ?_ (ASteps.cons ?_ (ASteps.cons ?_ (ASteps.cons ?_ (ASteps.cons ?_ (ASteps.cons ?_ (ASteps.cons ?_ (ASteps.nil))))))))))))
  ·exact Qu rfl rfl (Qa rfl) rfl (Qh C 2 (by kernel_rfl) rfl) (XK _)
  ·exact QP (k := 0) rfl rfl rfl (Qa rfl) rfl (Qc C 0 0 rfl rfl rfl rfl rfl rfl) (QK (by kernel_rfl)) Ux
  ·exact Qu rfl rfl (Qa rfl) rfl (Qh C 2 (by kernel_rfl) rfl) (ZP _)
  ·exact QP (k := 0) rfl rfl rfl (Qa rfl) rfl (Qc C 2 0 rfl rfl rfl rfl rfl rfl) (QK (by kernel_rfl)) JT
  ·exact Qm HPRE rfl rfl (Qa rfl) rfl XH Opns.nil Wr
  ·exact Qm HPRE rfl rfl (Qa rfl) rfl Xw (Opns.cons (Qc C 1 0 rfl rfl rfl rfl rfl rfl) (Opns.cons (Qc C 3 1 rfl rfl rfl rfl rfl rfl) (Opns.cons (Qc C 4 2 rfl rfl rfl rfl rfl rfl) Opns.nil))) (Vu (by decide) (Nat.coprime_one_right _) (fr_up q))
  ·exact QX (k := 0) rfl rfl rfl (Qa rfl) rfl (Qh C 2 (by kernel_rfl) rfl) (QK (by kernel_rfl)) Zm
  ·exact Qm HPRE rfl rfl (Qa rfl) rfl Zl (Opns.cons (Qc C 6 0 rfl rfl rfl rfl rfl rfl) Opns.nil) JS
  ·exact Qm HPRE rfl rfl (Qa rfl) rfl XH Opns.nil Wr
  ·exact Qm HPRE rfl rfl (Qa rfl) rfl Xw (Opns.cons (Qo _) (Opns.cons (Qc C 7 0 rfl rfl rfl rfl rfl rfl) (Opns.cons (Qc C 8 1 rfl rfl rfl rfl rfl rfl) Opns.nil))) (Vu (by decide) (Nat.coprime_one_right _) (fr_low q.den))
  ·exact ZL C (k := 1) rfl rfl rfl (Qa rfl) rfl (Qh C 1 (by kernel_rfl) rfl) (by decide) (Jc (by kernel_rfl)) (Qc C 5 0 rfl rfl rfl rfl rfl rfl) (Xp (ZS _))
  ·exact ZL C (k := 2) rfl rfl rfl (Qa rfl) rfl (Qh C 0 (by kernel_rfl) rfl) (by decide) (Jc (by kernel_rfl)) (Qc C 9 0 rfl rfl rfl rfl rfl rfl) (Xp (ZS _))
 intro γ a2 w2 S2
 replace S2 : AS w 14 [(3,Jus (.pointer (some ⟨G2,0,none⟩))),(2,Jus (.pointer (some ⟨G1,0,none⟩))),(1,Jus (.pointer (some ⟨G0,0,none⟩)))] [(G0,63,Qv q),(G1,63,Qv (q.num : Rat)),(G2,63,Qv ((q.den : Int) : Rat))] a2 w2 := cast (by kernel_rfl) (S2.keep [1,2,3])
 clear S1
 refine Qe ?_
 refine wp_ret ?_
 exact S2.ret22 1 1 0 2 rfl rfl rfl Zm rfl rfl Zm fun v hv => ⟨S2.bel,v,rfl,hv⟩
theorem two_of {w w' : World} {v : Value} {x y : Rat} (hb : Below w.heap.size w w') (h : (Tup [Qv x,Qv y]).on v w') : Below w.heap.size w w'∧∃ v1 v2,Ending.returned v=.returned (.tuple #[v1,v2])∧QV w' v1 x∧QV w' v2 y := by
 obtain ⟨cs,e,hall⟩ := h
 obtain ⟨v1,v2,rfl,h1,h2⟩ := Wb hall
 exact ⟨hb,v1,v2,congrArg Ending.returned e,h1,h2⟩
theorem Bc {w : World} {v : Value} {q : Rat} (h : QV w v q) :
  Calls Tryz.prog 46 #[v] w fun e w' => Below w.heap.size w w'∧∃ v1 v2,e=.returned (.tuple #[v1,v2])∧QV w' v1 (q.num : Rat)∧QV w' v2 ((q.den : Int) : Rat) :=
 Calls.mono (Em w [v] trivial ⟨h,trivial⟩) fun e w' hr => by
  obtain ⟨hb,x,rfl,hx⟩ := hr
  exact two_of hb hx
end Go.Proofs.YthhnabccdehmgaaGreatDoor
/- WB -/
namespace Go.Proofs.YthhnabccdehmgaaGreatDoor
open Go.RowKit Cx
attribute [local go_sem ↓] Go.wp_at_zero Go.wp_at_succ
theorem DS {w : World} {cax cay cbx cbz : C3} {ax ay bx bz : Rat} (hax : QV w (.agg #[.bool cax.n,.slice cax.u cax.nu cax.cu,.slice cax.l cax.nl cax.cl]) ax) (hay : QV w (.agg #[.bool cay.n,.slice cay.u cay.nu cay.cu,.slice cay.l cay.nl cay.cl]) ay) (hbx : QV w (.agg #[.bool cbx.n,.slice cbx.u cbx.nu cbx.cu,.slice cbx.l cbx.nl cbx.cl]) bx) (hbz : QV w (.agg #[.bool cbz.n,.slice cbz.u cbz.nu cbz.cu,.slice cbz.l cbz.nl cbz.cl]) bz) {k l : Nat} (f1 : QS k ax) (f2 : QS k ay) (f3 : QS l bx) (f4 : QS l bz) (hk : k+l+1≤35184372088640) :
  Calls Tryz.prog 31 #[.agg #[.bool cax.n,.slice cax.u cax.nu cax.cu,.slice cax.l cax.nl cax.cl,.bool cay.n,.slice cay.u cay.nu cay.cu,.slice cay.l cay.nl cay.cl],.agg #[.bool cbx.n,.slice cbx.u cbx.nu cbx.cu,.slice cbx.l cbx.nl cbx.cl,.bool cbz.n,.slice cbz.u cbz.nu cbz.cu,.slice cbz.l cbz.nl cbz.cl]] w fun e w' => Below w.heap.size w w'∧∃ v,e=.returned v∧WV w' v (ax+bx) (ay+bz) := by
 obtain ⟨hb0,hk0,hk1,hk2,hsz⟩ := Hp w #[.bool cax.n,.slice cax.u cax.nu cax.cu,.slice cax.l cax.nl cax.cl,.bool cay.n,.slice cay.u cay.nu cay.cu,.slice cay.l cay.nl cay.cl] #[.bool cbx.n,.slice cbx.u cbx.nu cbx.cu,.slice cbx.l cbx.nl cbx.cl,.bool cbz.n,.slice cbz.u cbz.nu cbz.cu,.slice cbz.l cbz.nl cbz.cl] #[.bool false,.slice none 0 0,.slice none 0 0,.bool false,.slice none 0 0,.slice none 0 0] 68 68 68
 have HB0 := Qd hb0
 have HSZ := Qd hsz
 have HK0 := Qd hk0
 have HK1 := Qd hk1
 have HK2 := Qd hk2
 have Hax := Qd (hax.below hb0)
 have Hay := Qd (hay.below hb0)
 have Hbx := Qd (hbx.below hb0)
 have Hbz := Qd (hbz.below hb0)
 have F1 := Qd f1
 have F2 := Qd f2
 have F3 := Qd f3
 have F4 := Qd f4
 have HK := Qd hk
 clear hb0 hsz hk0 hk1 hk2 hax hay hbx hbz f1 f2 f3 f4 hk
 go_enter Tryz.func31,Tryz.ntmps31
 go_wp2_with fail
 generalize (((w.alloc (.cells #[.bool cax.n,.slice cax.u cax.nu cax.cu,.slice cax.l cax.nl cax.cl,.bool cay.n,.slice cay.u cay.nu cay.cu,.slice cay.l cay.nl cay.cl] 68)).alloc (.cells #[.bool cbx.n,.slice cbx.u cbx.nu cbx.cu,.slice cbx.l cbx.nl cbx.cl,.bool cbz.n,.slice cbz.u cbz.nu cbz.cu,.slice cbz.l cbz.nl cbz.cl] 68)).alloc (.cells #[.bool false,.slice none 0 0,.slice none 0 0,.bool false,.slice none 0 0,.slice none 0 0] 68))=W0 at *
 have HS : Hid (∀ w',Below W0.heap.size W0 w'→w'.cell? ⟨w.heap.size,0,none⟩=some (.bool cax.n)∧w'.cell? ⟨w.heap.size,1,none⟩=some (.slice cax.u cax.nu cax.cu)∧w'.cell? ⟨w.heap.size,2,none⟩=some (.slice cax.l cax.nl cax.cl)∧w'.cell? ⟨w.heap.size,3,none⟩=some (.bool cay.n)∧w'.cell? ⟨w.heap.size,4,none⟩=some (.slice cay.u cay.nu cay.cu)∧w'.cell? ⟨w.heap.size,5,none⟩=some (.slice cay.l cay.nl cay.cl)∧w'.cell? ⟨w.heap.size+1,0,none⟩=some (.bool cbx.n)∧w'.cell? ⟨w.heap.size+1,1,none⟩=some (.slice cbx.u cbx.nu cbx.cu)∧w'.cell? ⟨w.heap.size+1,2,none⟩=some (.slice cbx.l cbx.nl cbx.cl)∧w'.cell? ⟨w.heap.size+1,3,none⟩=some (.bool cbz.n)∧w'.cell? ⟨w.heap.size+1,4,none⟩=some (.slice cbz.u cbz.nu cbz.cu)∧w'.cell? ⟨w.heap.size+1,5,none⟩=some (.slice cbz.l cbz.nl cbz.cl)) := fun w' hb => ⟨(HK0.out.below hb (by rw [HSZ.out]; omega)).cell 0,(HK0.out.below hb (by rw [HSZ.out]; omega)).cell 1,(HK0.out.below hb (by rw [HSZ.out]; omega)).cell 2,(HK0.out.below hb (by rw [HSZ.out]; omega)).cell 3,(HK0.out.below hb (by rw [HSZ.out]; omega)).cell 4,(HK0.out.below hb (by rw [HSZ.out]; omega)).cell 5,(HK1.out.below hb (by rw [HSZ.out]; omega)).cell 0,(HK1.out.below hb (by rw [HSZ.out]; omega)).cell 1,(HK1.out.below hb (by rw [HSZ.out]; omega)).cell 2,(HK1.out.below hb (by rw [HSZ.out]; omega)).cell 3,(HK1.out.below hb (by rw [HSZ.out]; omega)).cell 4,(HK1.out.below hb (by rw [HSZ.out]; omega)).cell 5⟩
 have HSS : Hid (∀ w',Below W0.heap.size W0 w'→∀ x0 x1 x2 x3 x4 x5 : Value,((((((w'.setCell ⟨w.heap.size+1+1,0,none⟩ (x0)).setCell ⟨w.heap.size+1+1,1,none⟩ (x1)).setCell ⟨w.heap.size+1+1,2,none⟩ (x2)).setCell ⟨w.heap.size+1+1,3,none⟩ (x3)).setCell ⟨w.heap.size+1+1,4,none⟩ (x4)).setCell ⟨w.heap.size+1+1,5,none⟩ (x5)).cell? ⟨w.heap.size,0,none⟩=some (.bool cax.n)∧((((((w'.setCell ⟨w.heap.size+1+1,0,none⟩ (x0)).setCell ⟨w.heap.size+1+1,1,none⟩ (x1)).setCell ⟨w.heap.size+1+1,2,none⟩ (x2)).setCell ⟨w.heap.size+1+1,3,none⟩ (x3)).setCell ⟨w.heap.size+1+1,4,none⟩ (x4)).setCell ⟨w.heap.size+1+1,5,none⟩ (x5)).cell? ⟨w.heap.size,1,none⟩=some (.slice cax.u cax.nu cax.cu)∧((((((w'.setCell ⟨w.heap.size+1+1,0,none⟩ (x0)).setCell ⟨w.heap.size+1+1,1,none⟩ (x1)).setCell ⟨w.heap.size+1+1,2,none⟩ (x2)).setCell ⟨w.heap.size+1+1,3,none⟩ (x3)).setCell ⟨w.heap.size+1+1,4,none⟩ (x4)).setCell ⟨w.heap.size+1+1,5,none⟩ (x5)).cell? ⟨w.heap.size,2,none⟩=some (.slice cax.l cax.nl cax.cl)∧((((((w'.setCell ⟨w.heap.size+1+1,0,none⟩ (x0)).setCell ⟨w.heap.size+1+1,1,none⟩ (x1)).setCell ⟨w.heap.size+1+1,2,none⟩ (x2)).setCell ⟨w.heap.size+1+1,3,none⟩ (x3)).setCell ⟨w.heap.size+1+1,4,none⟩ (x4)).setCell ⟨w.heap.size+1+1,5,none⟩ (x5)).cell? ⟨w.heap.size,3,none⟩=some (.bool cay.n)∧((((((w'.setCell ⟨w.heap.size+1+1,0,none⟩ (x0)).setCell ⟨w.heap.size+1+1,1,none⟩ (x1)).setCell ⟨w.heap.size+1+1,2,none⟩ (x2)).setCell ⟨w.heap.size+1+1,3,none⟩ (x3)).setCell ⟨w.heap.size+1+1,4,none⟩ (x4)).setCell ⟨w.heap.size+1+1,5,none⟩ (x5)).cell? ⟨w.heap.size,4,none⟩=some (.slice cay.u cay.nu cay.cu)∧((((((w'.setCell ⟨w.heap.size+1+1,0,none⟩ (x0)).setCell ⟨w.heap.size+1+1,1,none⟩ (x1)).setCell ⟨w.heap.size+1+1,2,none⟩ (x2)).setCell ⟨w.heap.size+1+1,3,none⟩ (x3)).setCell ⟨w.heap.size+1+1,4,none⟩ (x4)).setCell ⟨w.heap.size+1+1,5,none⟩ (x5)).cell? ⟨w.heap.size,5,none⟩=some (.slice cay.l cay.nl cay.cl)∧((((((w'.setCell ⟨w.heap.size+1+1,0,none⟩ (x0)).setCell ⟨w.heap.size+1+1,1,none⟩ (x1)).setCell ⟨w.heap.size+1+1,2,none⟩ (x2)).setCell ⟨w.heap.size+1+1,3,none⟩ (x3)).setCell ⟨w.heap.size+1+1,4,none⟩ (x4)).setCell ⟨w.heap.size+1+1,5,none⟩ (x5)).cell? ⟨w.heap.size+1,0,none⟩=some (.bool cbx.n)∧((((((w'.setCell ⟨w.heap.size+1+1,0,none⟩ (x0)).setCell ⟨w.heap.size+1+1,1,none⟩ (x1)).setCell ⟨w.heap.size+1+1,2,none⟩ (x2)).setCell ⟨w.heap.size+1+1,3,none⟩ (x3)).setCell ⟨w.heap.size+1+1,4,none⟩ (x4)).setCell ⟨w.heap.size+1+1,5,none⟩ (x5)).cell? ⟨w.heap.size+1,1,none⟩=some (.slice cbx.u cbx.nu cbx.cu)∧((((((w'.setCell ⟨w.heap.size+1+1,0,none⟩ (x0)).setCell ⟨w.heap.size+1+1,1,none⟩ (x1)).setCell ⟨w.heap.size+1+1,2,none⟩ (x2)).setCell ⟨w.heap.size+1+1,3,none⟩ (x3)).setCell ⟨w.heap.size+1+1,4,none⟩ (x4)).setCell ⟨w.heap.size+1+1,5,none⟩ (x5)).cell? ⟨w.heap.size+1,2,none⟩=some (.slice cbx.l cbx.nl cbx.cl)∧((((((w'.setCell ⟨w.heap.size+1+1,0,none⟩ (x0)).setCell ⟨w.heap.size+1+1,1,none⟩ (x1)).setCell ⟨w.heap.size+1+1,2,none⟩ (x2)).setCell ⟨w.heap.size+1+1,3,none⟩ (x3)).setCell ⟨w.heap.size+1+1,4,none⟩ (x4)).setCell ⟨w.heap.size+1+1,5,none⟩ (x5)).cell? ⟨w.heap.size+1,3,none⟩=some (.bool cbz.n)∧((((((w'.setCell ⟨w.heap.size+1+1,0,none⟩ (x0)).setCell ⟨w.heap.size+1+1,1,none⟩ (x1)).setCell ⟨w.heap.size+1+1,2,none⟩ (x2)).setCell ⟨w.heap.size+1+1,3,none⟩ (x3)).setCell ⟨w.heap.size+1+1,4,none⟩ (x4)).setCell ⟨w.heap.size+1+1,5,none⟩ (x5)).cell? ⟨w.heap.size+1,4,none⟩=some (.slice cbz.u cbz.nu cbz.cu)∧((((((w'.setCell ⟨w.heap.size+1+1,0,none⟩ (x0)).setCell ⟨w.heap.size+1+1,1,none⟩ (x1)).setCell ⟨w.heap.size+1+1,2,none⟩ (x2)).setCell ⟨w.heap.size+1+1,3,none⟩ (x3)).setCell ⟨w.heap.size+1+1,4,none⟩ (x4)).setCell ⟨w.heap.size+1+1,5,none⟩ (x5)).cell? ⟨w.heap.size+1,5,none⟩=some (.slice cbz.l cbz.nl cbz.cl)) := fun w' hb x0 x1 x2 x3 x4 x5 => ⟨((HK0.out.below hb (by rw [HSZ.out]; omega)).off6 (g := w.heap.size+1+1) (by omega) x0 x1 x2 x3 x4 x5).cell 0,((HK0.out.below hb (by rw [HSZ.out]; omega)).off6 (g := w.heap.size+1+1) (by omega) x0 x1 x2 x3 x4 x5).cell 1,((HK0.out.below hb (by rw [HSZ.out]; omega)).off6 (g := w.heap.size+1+1) (by omega) x0 x1 x2 x3 x4 x5).cell 2,((HK0.out.below hb (by rw [HSZ.out]; omega)).off6 (g := w.heap.size+1+1) (by omega) x0 x1 x2 x3 x4 x5).cell 3,((HK0.out.below hb (by rw [HSZ.out]; omega)).off6 (g := w.heap.size+1+1) (by omega) x0 x1 x2 x3 x4 x5).cell 4,((HK0.out.below hb (by rw [HSZ.out]; omega)).off6 (g := w.heap.size+1+1) (by omega) x0 x1 x2 x3 x4 x5).cell 5,((HK1.out.below hb (by rw [HSZ.out]; omega)).off6 (g := w.heap.size+1+1) (by omega) x0 x1 x2 x3 x4 x5).cell 0,((HK1.out.below hb (by rw [HSZ.out]; omega)).off6 (g := w.heap.size+1+1) (by omega) x0 x1 x2 x3 x4 x5).cell 1,((HK1.out.below hb (by rw [HSZ.out]; omega)).off6 (g := w.heap.size+1+1) (by omega) x0 x1 x2 x3 x4 x5).cell 2,((HK1.out.below hb (by rw [HSZ.out]; omega)).off6 (g := w.heap.size+1+1) (by omega) x0 x1 x2 x3 x4 x5).cell 3,((HK1.out.below hb (by rw [HSZ.out]; omega)).off6 (g := w.heap.size+1+1) (by omega) x0 x1 x2 x3 x4 x5).cell 4,((HK1.out.below hb (by rw [HSZ.out]; omega)).off6 (g := w.heap.size+1+1) (by omega) x0 x1 x2 x3 x4 x5).cell 5⟩
 obtain ⟨z0,z1,z2,z3,z4,z5,z6,z7,z8,z9,z10,z11⟩ := HS.out W0 (Below.refl _ _)
 go_region_held3 (fun w' => w'.cell? ⟨w.heap.size,0,none⟩=some (.bool cax.n)∧w'.cell? ⟨w.heap.size,1,none⟩=some (.slice cax.u cax.nu cax.cu)∧w'.cell? ⟨w.heap.size,2,none⟩=some (.slice cax.l cax.nl cax.cl)∧w'.cell? ⟨w.heap.size,3,none⟩=some (.bool cay.n)∧w'.cell? ⟨w.heap.size,4,none⟩=some (.slice cay.u cay.nu cay.cu)∧w'.cell? ⟨w.heap.size,5,none⟩=some (.slice cay.l cay.nl cay.cl)∧w'.cell? ⟨w.heap.size+1,0,none⟩=some (.bool cbx.n)∧w'.cell? ⟨w.heap.size+1,1,none⟩=some (.slice cbx.u cbx.nu cbx.cu)∧w'.cell? ⟨w.heap.size+1,2,none⟩=some (.slice cbx.l cbx.nl cbx.cl)∧w'.cell? ⟨w.heap.size+1,3,none⟩=some (.bool cbz.n)∧w'.cell? ⟨w.heap.size+1,4,none⟩=some (.slice cbz.u cbz.nu cbz.cu)∧w'.cell? ⟨w.heap.size+1,5,none⟩=some (.slice cbz.l cbz.nl cbz.cl)) (first | go_keep | exact hs1 | exact hs2 | exact hkS)
  (first
   | (go_at_call_of 73 (Value.agg #[Value.bool cax.n,Value.slice cax.u cax.nu cax.cu,Value.slice cax.l cax.nl cax.cl]); refine (Yx (w := W0.drew) (Hax.out.below (Below.drew (Below.refl _ _))) (Hbx.out.below (Below.drew (Below.refl _ _))) F1.out F3.out HK.out).mono ?_; rintro e w1 ⟨hb1,v1,rfl,hv1⟩; have hbl1 : Below W0.heap.size W0 w1 := (Below.drew (Below.refl _ W0)).trans hb1; obtain ⟨d1,rfl⟩ := JF hv1; have hs1 := HS.out w1 hbl1)
   | (go_at_call_of 73 (Value.agg #[Value.bool cay.n,Value.slice cay.u cay.nu cay.cu,Value.slice cay.l cay.nl cay.cl]); refine (Yx (Hay.out.below hbl1) (Hbz.out.below hbl1) F2.out F4.out HK.out).mono ?_; rintro e w2 ⟨hb2,v2,rfl,hv2⟩; have hbl2 := hbl1.trans (hb2.mono hbl1.size); obtain ⟨d2,rfl⟩ := JF hv2; have hs2 := HS.out w2 hbl2; have hkr := HK2.out.below hbl2 (by rw [HSZ.out]; omega); obtain ⟨r0,r1,r2,r3,r4,r5,f0,f1,f2,f3,f4,f5⟩ := hkr.all6; have hkS := HSS.out w2 hbl2 (.bool d1.n) (.slice d1.u d1.nu d1.cu) (.slice d1.l d1.nl d1.cl) (.bool d2.n) (.slice d2.u d2.nu d2.cu) (.slice d2.l d2.nl d2.cl))
   )
 all_goals
  go_wp2
  obtain ⟨k0,k1,k2,k3,k4,k5,_,_,_,_,_,_⟩ := (hkr.put6 (.bool d1.n) (.slice d1.u d1.nu d1.cu) (.slice d1.l d1.nl d1.cl) (.bool d2.n) (.slice d2.u d2.nu d2.cu) (.slice d2.l d2.nl d2.cl)).all6
  refine bodyPost_ret (v := .agg #[.bool d1.n,.slice d1.u d1.nu d1.cu,.slice d1.l d1.nl d1.cl,.bool d2.n,.slice d2.u d2.nu d2.cu,.slice d2.l d2.nl d2.cl]) (by simp [results,Tryz.results31,go_sem,k0,k1,k2,k3,k4,k5]) rfl ⟨Below.put6 (HB0.out.trans (hbl2.mono HB0.out.size)) (by omega) (.bool d1.n) (.slice d1.u d1.nu d1.cu) (.slice d1.l d1.nl d1.cl) (.bool d2.n) (.slice d2.u d2.nu d2.cu) (.slice d2.l d2.nl d2.cl),_,rfl,?_⟩
  have hst := Stays.put6 hkr (by simp [Qk]) (.bool d1.n) (.slice d1.u d1.nu d1.cu) (.slice d1.l d1.nl d1.cl) (.bool d2.n) (.slice d2.u d2.nu d2.cu) (.slice d2.l d2.nl d2.cl) rfl rfl rfl rfl rfl rfl
  exact ⟨d1,d2,rfl,hst.qv (hv1.below hb2),hst.qv hv2⟩
theorem Gc {w : World} {va vb : Value} {ax ay bx bz : Rat} {k l : Nat} (ha : WV w va ax ay) (hb : WV w vb bx bz) (f1 : QS k ax) (f2 : QS k ay) (f3 : QS l bx) (f4 : QS l bz) (hk : k+l+1≤35184372088640) :
  Calls Tryz.prog 31 #[va,vb] w fun e w' => Below w.heap.size w w'∧∃ v,e=.returned v∧WV w' v (ax+bx) (ay+bz) := by
 obtain ⟨c1,c2,rfl,h1,h2⟩ := ha
 obtain ⟨c3,c4,rfl,h3,h4⟩ := hb
 exact DS h1 h2 h3 h4 f1 f2 f3 f4 hk
end Go.Proofs.YthhnabccdehmgaaGreatDoor
/- ZWW -/
namespace Go.Proofs.YthhnabccdehmgaaGreatDoor
open Go.RowKit Cx
def Wv (x y : Rat) : Fact := ⟨fun v w => WV w v x y,fun hg ⟨c,d,e,h1,h2⟩ => ⟨c,d,e,h1.grows hg,h2.grows hg⟩⟩
theorem Vg (x y : Rat) : Wp 6 (Wv x y) := fun v w h => by
 obtain ⟨c,d,e,_⟩ := h
 exact ⟨[.bool c.n,.slice c.u c.nu c.cu,.slice c.l c.nl c.cl,.bool d.n,.slice d.u d.nu d.cu,.slice d.l d.nl d.cl],e,rfl,by simp [Qk,Value.oneCell']⟩
theorem OL : Tryz.prog.cellsOf 68=6 := by kernel_rfl
theorem XU {F : Fact} : Pj Tryz.prog 68 F F := fun w G ⟨cs,hk,hF,_,hln⟩ => by
 rw [OL] at hln
 match cs,hln with
 | [x0,x1,x2,x3,x4,x5],_ =>
  refine ⟨.agg #[x0,x1,x2,x3,x4,x5],?_,hF⟩
  have k0 : w.cell? ⟨G,0,none⟩=some x0 := hk.cell 0
  have k1 : w.cell? ⟨G,1,none⟩=some x1 := hk.cell 1
  have k2 : w.cell? ⟨G,2,none⟩=some x2 := hk.cell 2
  have k3 : w.cell? ⟨G,3,none⟩=some x3 := hk.cell 3
  have k4 : w.cell? ⟨G,4,none⟩=some x4 := hk.cell 4
  have k5 : w.cell? ⟨G,5,none⟩=some x5 := hk.cell 5
  clear hk hF
  simp [go_sem,k0,k1,k2,k3,k4,k5]
theorem XD {F : Fact} (hc : Wp 6 F) : Dj Tryz.prog 68 F F := fun w G F0 v ⟨cs,hk,_,hno,hln⟩ hv => by
 obtain ⟨vs,rfl,hlv,hok⟩ := hc v w hv
 rw [OL] at hln
 match cs,hln,vs,hlv with
 | [x0,x1,x2,x3,x4,x5],_,[y0,y1,y2,y3,y4,y5],_ =>
  have hbx : Boxed w G := ⟨_,_,hk,by decide,hno⟩
  have s0 := Pd G w
  obtain ⟨w1,r0,b1,s1⟩ := Jx (P := Tryz.prog) hk s0 0 x0 y0 [y0,x1,x2,x3,x4,x5].toArray rfl (hok y0 (by simp)).2 rfl
  obtain ⟨w2,r1,b2,s2⟩ := Jx (P := Tryz.prog) b1 s1 1 x1 y1 [y0,y1,x2,x3,x4,x5].toArray rfl (hok y1 (by simp)).2 rfl
  obtain ⟨w3,r2,b3,s3⟩ := Jx (P := Tryz.prog) b2 s2 2 x2 y2 [y0,y1,y2,x3,x4,x5].toArray rfl (hok y2 (by simp)).2 rfl
  obtain ⟨w4,r3,b4,s4⟩ := Jx (P := Tryz.prog) b3 s3 3 x3 y3 [y0,y1,y2,y3,x4,x5].toArray rfl (hok y3 (by simp)).2 rfl
  obtain ⟨w5,r4,b5,s5⟩ := Jx (P := Tryz.prog) b4 s4 4 x4 y4 [y0,y1,y2,y3,y4,x5].toArray rfl (hok y4 (by simp)).2 rfl
  obtain ⟨w6,r5,b6,s6⟩ := Jx (P := Tryz.prog) b5 s5 5 x5 y5 [y0,y1,y2,y3,y4,y5].toArray rfl (hok y5 (by simp)).2 rfl
  refine ⟨w6,?_,s6,[y0,y1,y2,y3,y4,y5],b6,F.st (Grows.save s6 hbx) hv,YQ hok,by rw [OL]; rfl⟩
  clear b1 s1 b2 s2 b3 s3 b4 s4 b5 s5 b6 s6 s0 hbx hno hv hok hk
  simp [go_sem,r0,r1,r2,r3,r4,r5]
theorem YI (w : World) : (Instr.alloc 68 true (.tuple #[])).run Tryz.prog w=.ok (.pointer (some ⟨w.heap.size,0,none⟩)) (w.alloc (.cells [.bool false,.slice none 0 0,.slice none 0 0,.bool false,.slice none 0 0,.slice none 0 0].toArray 68)) := by
 simp [go_sem]
theorem Oh (w : World) : Any.on (.agg [.bool false,.slice none 0 0,.slice none 0 0,.bool false,.slice none 0 0,.slice none 0 0].toArray) w := trivial
theorem AB {F : Fact} (hc : Wp 6 F) : LP 68 F := fun w v hv => by
 obtain ⟨vs,rfl,hlv,hok⟩ := hc v w hv
 match vs,hlv with
 | [y0,y1,y2,y3,y4,y5],_ =>
  refine ⟨[y0,y1,y2,y3,y4,y5],?_,rfl,YQ hok,by rw [OL]; rfl⟩
  clear hv hok
  simp [go_sem]
theorem Xk {P : Program} {f : FuncId} {fn : Func} {c : Code} {Fs : List Fact} {vs : List Value} {bx : List (Nat × TypeId × Fact)} {n : Nat} {w0 w : World} {R : Ending→World→Prop} (hf : P.funcs[f]? = some fn) (hb : fn.body=some c) (hn : fn.ntmps=n) (hle : Fs.length≤n)
  (bel : Below w0.heap.size w0 w) (hall : All2 w Fs vs) (hbx : ∀ (k G : Nat) (t : TypeId) (F : Fact),bx[k]? = some (G,t,F)→w0.heap.size≤G∧BoxIs w G t F) (hnd : (bx.map (·.1)).Nodup)
  (h : ∀ a : Act,AS w0 n (Ax 0 Fs) bx a w→c.wp P (bodyPost P fn R) a w) : Calls P f vs.toArray w R := by
 refine calls_of_wp hf hb (h _ ⟨bel,?_,rfl,?_,hbx,hnd⟩)
 ·have := hall.len
  simp [hn]
  omega
 ·intro t G hm
  obtain ⟨k,e,hk⟩ := Kk hm
  rw [Nat.zero_add] at e
  subst e
  obtain ⟨v,hv,hG⟩ := hall.get hk
  have hlt : t < vs.length := (List.getElem?_eq_some_iff.1 hv).1
  have : (vs.toArray ++ Array.replicate (fn.ntmps - vs.toArray.size) undef).getD t undef=v := by
   rw [Array.getD_eq_getD_getElem?,Array.getElem?_append_left (by simpa using hlt)]
   simp [hv]
  rw [this]
  exact hG
def Iu (B : Nat) (w : World) : World := { w with heap := w.heap.extract 0 B }
theorem Wz {B : Nat} {w : World} (h : B≤w.heap.size) : (Iu B w).heap.size=B := by
 simp [Iu]
 omega
theorem CL {B : Nat} {w : World} (h : B≤w.heap.size) : Below (Iu B w).heap.size (Iu B w) w := by
 rw [Wz h]
 exact ⟨rfl,rfl,rfl,by rw [Wz h]; exact h,fun k hk => by
  simp only [Iu,Array.getElem?_extract]
  rw [if_pos (by omega),Nat.zero_add]⟩
theorem EZ {B : Nat} {w w' : World} (h : B≤w.heap.size) (hb : Below (Iu B w).heap.size (Iu B w) w') (hs : w.heap.size≤w'.heap.size) : Below B w w' := by
 rw [Wz h] at hb
 exact ⟨hb.os,hb.tape,hb.output,hs,fun k hk => by
  rw [hb.block k hk]
  simp only [Iu,Array.getElem?_extract]
  rw [if_pos (by omega),Nat.zero_add]⟩
theorem IL (vs : Array Value) (w : World) : (callFunc 72 vs).run Tryz.prog w=.ok (.enter 72 vs) w := ZG Tryz.func72 (by kernel_rfl) (by kernel_rfl) vs w
theorem UG (vs : Array Value) (w : World) : (callFunc 31 vs).run Tryz.prog w=.ok (.enter 31 vs) w := ZG Tryz.func31 (by kernel_rfl) (by kernel_rfl) vs w
theorem SM {x y q : Rat} {k l : Nat} (f1 : QS k x) (f2 : QS k y) (f3 : QS l q) (hk : k+l+1≤35184372088640) : Con Tryz.prog ZW 72 [Wv x y,Qv q] (Wv (x*q) (y*q)) := fun w vs _ h => by
 obtain ⟨u,v,rfl,h0,h1⟩ := Wb h
 exact (Ke h0 h1 f1 f2 f3 hk).mono fun e w' ⟨hb,v,e1,h⟩ => ⟨hb,v,e1,h⟩
theorem Ph {x y u v : Rat} {k l : Nat} (f1 : QS k x) (f2 : QS k y) (f3 : QS l u) (f4 : QS l v) (hk : k+l+1≤35184372088640) : Con Tryz.prog ZW 31 [Wv x y,Wv u v] (Wv (x+u) (y+v)) := fun w vs _ h => by
 obtain ⟨p,q,rfl,h0,h1⟩ := Wb h
 exact (Gc h0 h1 f1 f2 f3 f4 hk).mono fun e w' ⟨hb,v,e1,h⟩ => ⟨hb,v,e1,h⟩
end Go.Proofs.YthhnabccdehmgaaGreatDoor
/- GWK -/
namespace Go.Proofs.YthhnabccdehmgaaGreatDoor
open Go.RowKit Cx
theorem KW {w : World} {B go gb : Nat} {vn : Value} {n ox oy bx bY zx zy : Rat} {k l m : Nat} (hBw : B≤w.heap.size) (hgo : B≤go) (hgb : B≤gb) (hne : go ≠ gb) (hn : QV w vn n) (ho : BoxIs w go 68 (Wv ox oy)) (hb : BoxIs w gb 68 (Wv bx bY))
  (fbx : QS k bx) (fby : QS k bY) (fn : QS l n) (fox : QS m ox) (foy : QS m oy) (hk1 : k+l+1≤35184372088640) (hk2 : m+(k+l)+1≤35184372088640) (ezx : ox+bx*n=zx) (ezy : oy+bY*n=zy) :
  Calls Tryz.prog 71 #[vn,.pointer (some ⟨go,0,none⟩),.pointer (some ⟨gb,0,none⟩)] w fun e w' => Below B w w'∧Grows w w'∧∃ v,e=.returned v∧(Tup [Wv zx zy,Wv bx bY]).on v w'∧BoxIs w' go 68 (Wv bx bY)∧BoxIs w' gb 68 (Wv zx zy) := by
 refine Xk (w0 := Iu B w) (n := 14) (Fs := [Qv n,Jus (.pointer (some ⟨go,0,none⟩)),Jus (.pointer (some ⟨gb,0,none⟩))]) (vs := [vn,.pointer (some ⟨go,0,none⟩),.pointer (some ⟨gb,0,none⟩)]) (bx := [(go,68,Wv ox oy),(gb,68,Wv bx bY)]) Tryz.func71 rfl rfl (Nat.le_of_ble_eq_true rfl) (CL hBw) ⟨hn,rfl,rfl,trivial⟩ ?_ ?_ ?_
 ·intro j G t F hj
  rw [Wz hBw]
  match j,hj with
  | 0,hj => cases hj; exact ⟨hgo,ho⟩
  | 1,hj => cases hj; exact ⟨hgb,hb⟩
  | j+2,hj => simp at hj
 ·simp [hne]
 intro a0 S0
 have HPRE : ∀ w',Below (Iu B w).heap.size (Iu B w) w'→ZW w' := fun _ _ => trivial
 refine wp_seq ?_
 refine Qi [.alloc 63 (Qv n),.alloc 68 (Any),.alloc 68 (Any)] ⟨S0,by decide +kernel⟩ (by kernel_rfl) (by kernel_rfl) rfl (by kernel_rfl) ?_ ?_
 ·intro C
  refine ASteps.cons ?_ (ASteps.cons ?_ (ASteps.cons ?_ (ASteps.nil)))
  ·exact ZR rfl rfl (Qa rfl) rfl (Zh (by kernel_rfl)) (Qh C 0 (by kernel_rfl) rfl) (JH (ZS _))
  ·exact ZQ [.bool false,.slice none 0 0,.slice none 0 0,.bool false,.slice none 0 0,.slice none 0 0] Oh rfl rfl (Qa rfl) rfl (Zh (by kernel_rfl)) YI (by simp [Qk]) (by kernel_rfl)
  ·exact ZQ [.bool false,.slice none 0 0,.slice none 0 0,.bool false,.slice none 0 0,.slice none 0 0] Oh rfl rfl (Qa rfl) rfl (Zh (by kernel_rfl)) YI (by simp [Qk]) (by kernel_rfl)
 intro γ a1 w1 Z1 S1
 replace S1 : AS (Iu B w) 14 [(5,Jus (.pointer (some ⟨γ 2,0,none⟩))),(4,Jus (.pointer (some ⟨γ 1,0,none⟩))),(3,Jus (.pointer (some ⟨γ 0,0,none⟩))),(1,Jus (.pointer (some ⟨go,0,none⟩))),(2,Jus (.pointer (some ⟨gb,0,none⟩)))] [(go,68,Wv ox oy),(gb,68,Wv bx bY),(γ 0,63,Qv n),(γ 1,68,Any),(γ 2,68,Any)] a1 w1 := cast (by kernel_rfl) (S1.keep [1,2,3,4,5])
 generalize γ 0=G1_0 at S1
 generalize γ 1=G1_1 at S1
 generalize γ 2=G1_2 at S1
 clear S0
 refine Qe ?_
 refine wp_seq ?_
 refine Qi [.pure (Wv ox oy),.pure (Wv bx bY),.pure (Qv n),.pure (Wv (bx*n) (bY*n)),.pure (Wv zx zy),.pure (Wv bx bY),.over 1 (Wv zx zy),.over 0 (Wv bx bY)] ⟨S1,by decide +kernel⟩ (by kernel_rfl) (by kernel_rfl) rfl (by kernel_rfl) ?_ ?_
 ·intro C
  refine ASteps.cons ?_ (ASteps.cons ?_ (ASteps.cons ?_ (ASteps.cons ?_ (ASteps.cons ?_ (ASteps.cons ?_ (ASteps.cons ?_ (ASteps.cons ?_ (ASteps.nil))))))))
  ·exact QX (k := 0) rfl rfl rfl (Qa rfl) rfl (Qh C 3 (by kernel_rfl) rfl) (Oy (s0 := 7) (k := 2) (by kernel_rfl) rfl rfl rfl rfl) XU
  ·exact QX (k := 1) rfl rfl rfl (Qa rfl) rfl (Qh C 4 (by kernel_rfl) rfl) (Oy (s0 := 6) (k := 3) (by kernel_rfl) rfl rfl rfl rfl) XU
  ·exact QX (k := 2) rfl rfl rfl (Qa rfl) rfl (Qh C 2 (by kernel_rfl) rfl) (QK (by kernel_rfl)) Zm
  ·exact Qm HPRE rfl rfl (Qa rfl) rfl IL (Opns.cons (Qc C 1 0 rfl rfl rfl rfl rfl rfl) (Opns.cons (Qc C 2 1 rfl rfl rfl rfl rfl rfl) Opns.nil)) ((SM fbx fby fn hk1))
  ·exact Qm HPRE rfl rfl (Qa rfl) rfl UG (Opns.cons (Qc C 0 0 rfl rfl rfl rfl rfl rfl) (Opns.cons (Qc C 3 1 rfl rfl rfl rfl rfl rfl) Opns.nil)) ((ezx ▸ ezy ▸ Ph fox foy (QS.mul fbx fn) (QS.mul fby fn) hk2))
  ·exact QX (k := 1) rfl rfl rfl (Qa rfl) rfl (Qh C 4 (by kernel_rfl) rfl) (Oy (s0 := 6) (k := 7) (by kernel_rfl) rfl rfl rfl rfl) XU
  ·exact ZL C (k := 1) rfl rfl rfl (Qa rfl) rfl (Qh C 4 (by kernel_rfl) rfl) (by decide) (Jc (by kernel_rfl)) (Qc C 4 0 rfl rfl rfl rfl rfl rfl) (XD (Vg _ _))
  ·exact ZL C (k := 0) rfl rfl rfl (Qa rfl) rfl (Qh C 3 (by kernel_rfl) rfl) (by decide) (Jc (by kernel_rfl)) (Qc C 5 0 rfl rfl rfl rfl rfl rfl) (XD (Vg _ _))
 intro γ a2 w2 Z2 S2
 replace S2 : AS (Iu B w) 14 [(5,Jus (.pointer (some ⟨G1_2,0,none⟩))),(4,Jus (.pointer (some ⟨G1_1,0,none⟩))),(1,Jus (.pointer (some ⟨go,0,none⟩))),(2,Jus (.pointer (some ⟨gb,0,none⟩)))] [(go,68,Wv bx bY),(gb,68,Wv zx zy),(G1_0,63,Qv n),(G1_1,68,Any),(G1_2,68,Any)] a2 w2 := cast (by kernel_rfl) (S2.keep [1,2,4,5])
 clear S1
 refine Qe ?_
 refine wp_seq ?_
 refine Qi [.pure (Wv zx zy),.pure (Wv bx bY),.over 3 (Wv zx zy),.over 4 (Wv bx bY)] ⟨S2,by decide +kernel⟩ (by kernel_rfl) (by kernel_rfl) rfl (by kernel_rfl) ?_ ?_
 ·intro C
  refine ASteps.cons ?_ (ASteps.cons ?_ (ASteps.cons ?_ (ASteps.cons ?_ (ASteps.nil))))
  ·exact QX (k := 1) rfl rfl rfl (Qa rfl) rfl (Qh C 3 (by kernel_rfl) rfl) (QK (by kernel_rfl)) XU
  ·exact QX (k := 0) rfl rfl rfl (Qa rfl) rfl (Qh C 2 (by kernel_rfl) rfl) (QK (by kernel_rfl)) XU
  ·exact ZL C (k := 3) rfl rfl rfl (Qa rfl) rfl (Qh C 1 (by kernel_rfl) rfl) (by decide) (Jc (by kernel_rfl)) (Qc C 0 0 rfl rfl rfl rfl rfl rfl) (XD (Vg _ _))
  ·exact ZL C (k := 4) rfl rfl rfl (Qa rfl) rfl (Qh C 0 (by kernel_rfl) rfl) (by decide) (Jc (by kernel_rfl)) (Qc C 1 0 rfl rfl rfl rfl rfl rfl) (XD (Vg _ _))
 intro γ a3 w3 Z3 S3
 replace S3 : AS (Iu B w) 14 [(5,Jus (.pointer (some ⟨G1_2,0,none⟩))),(4,Jus (.pointer (some ⟨G1_1,0,none⟩)))] [(go,68,Wv bx bY),(gb,68,Wv zx zy),(G1_0,63,Qv n),(G1_1,68,Wv zx zy),(G1_2,68,Wv bx bY)] a3 w3 := cast (by kernel_rfl) (S3.keep [4,5])
 clear S2
 refine Qe ?_
 refine wp_ret ?_
 exact S3.ret22 1 3 0 4 rfl rfl rfl XU rfl rfl XU fun v hv => ⟨EZ hBw S3.bel (Z1.trans (Z2.trans Z3)).size,(Z1.trans (Z2.trans Z3)),v,rfl,hv,(S3.box 0 _ _ _ rfl).2,(S3.box 1 _ _ _ rfl).2⟩
end Go.Proofs.YthhnabccdehmgaaGreatDoor
/- VA -/
namespace Cx
open Go
abbrev AC := Sum Value (Nat × Nat × Nat × Nat × Nat)
abbrev A1 := Bool × List AC
abbrev AV := Bool × List A1
abbrev HB := Nat × List AC
abbrev Nd := Nat × List Nat
structure Sx where
 P : Program
 N : List Nd
 H : List (Nat × Nat × Nat × Nat)
 K : List (FuncId × List AC)
 L : List (List Nat × Nat)
 pr : List (FuncId × Nat)
 nb : List Nat
 eqT : List (TypeId × Nat)
 Z : List Nat
 C : List (List Nat × Nat)
def v1 (c : AC) : AV := (false,[(false,[c])])
def vA (cs : List AC) : AV := (false,[(true,cs)])
def kB (b : Bool) : AV := v1 (.inl (.bool b))
def kI (z : Int) : AV := v1 (.inl (.int .i64 z))
def ptr (b o : Nat) : AC := .inr (3,b,o,0,0)
def slc (b o n c : Nat) : AC := .inr (4,b,o,n,c)
def ifO {α : Type} (b : Bool) (x : Option α) : Option α := bif b then x else none
def ZO {α β : Type} (f : α→Option β) : List α→Option (List β)
 | [] => some []
 | a :: ar => (f a).bind fun b => (ZO f ar).map fun bs => b :: bs
def Is : List Nat→List Nat→Bool
 | [],[] => true
 | a :: ar,b :: bs => Nat.beq a b && Is ar bs
 | _,_ => false
def Xd (b : Nat) : List Nat→Bool
 | [] => false
 | c :: cs => Nat.beq b c || Xd b cs
def meets : List Nat→List Nat→Bool
 | [],_ => false
 | a :: ar,bs => Xd a bs || meets ar bs
def asC : AV→Option AC
 | (false,[(false,[c])]) => some c
 | _ => none
def asA : AV→Option (List AC)
 | (false,[(true,cs)]) => some cs
 | _ => none
def asL : AV→Option (List AC)
 | (false,[(true,cs)]) => some cs
 | (false,[(false,[c])]) => some [c]
 | _ => none
def asT : AV→Option (List A1)
 | (true,xs) => some xs
 | _ => none
def acB : AC→Option Bool
 | .inl (.bool b) => some b
 | _ => none
def acI : AC→Option Int
 | .inl (.int .i64 z) => some z
 | _ => none
def acP : AC→Option (Nat × Nat)
 | .inr (k,b,o,_,_) => ifO (Nat.beq k 3) (some (b,o))
 | _ => none
def acS : AC→Option (Nat × Nat × Nat × Nat)
 | .inr (k,b,o,n,c) => ifO (Nat.beq k 4) (some (b,o,n,c))
 | _ => none
def acR : AC→Option (Nat × Nat × Nat)
 | .inr (k,b,o,n,_) => ifO (Nat.beq k 4 || Nat.beq k 6) (some (b,o,n))
 | _ => none
def acO : AC→Option (Nat × Nat × Nat × Nat)
 | .inr (k,b,o,n,c) => ifO (Nat.beq k 6) (some (b,o,n,c))
 | _ => none
def Vm : AC→Bool
 | .inl (.slice none 0 0) => true
 | _ => false
def acE : AC→Option Nat
 | .inr (k,f,_) => ifO (Nat.beq k 7) (some f)
 | _ => none
def acH : AC→Option (Nat × Nat × Nat)
 | .inr (k,a,o,n,_) => ifO (Nat.beq k 8) (some (a,o,n))
 | _ => none
def AZ : AC→Option (Nat × Nat)
 | .inr (k,a,o,_,_) => ifO (Nat.beq k 9) (some (a,o))
 | _ => none
def acHL : AC→Option Nat
 | .inr (k,a,_,_,_) => ifO (Nat.beq k 10) (some a)
 | _ => none
def Bs (c : AC) : Option Nat := bif Vm c then some 0 else match acE c with
 | some _ => some 0
 | none => match acH c with
  | some p => some p.2.2
  | none => (acR c).map (·.2.2)
def acF : AC→Option Nat
 | .inr (k,i,_,_,_) => ifO (Nat.beq k 5) (some i)
 | _ => none
def acX (k' : Nat) : AC→Option Nat
 | .inr (k,j,a,_,_) => ifO (Nat.beq k 0 && Nat.beq j k') (some a)
 | _ => none
def acSg : AC→Option Nat
 | .inr (k,j,a,_,_) => ifO (Nat.beq k 0 && (Nat.beq j 4 || Nat.beq j 5)) (some a)
 | _ => none
def asB (v : AV) : Option Bool := (asC v).bind acB
def asI (v : AV) : Option Int := (asC v).bind acI
def asP (v : AV) : Option (Nat × Nat) := (asC v).bind acP
def asS (v : AV) : Option (Nat × Nat × Nat × Nat) := (asC v).bind acS
def asR (v : AV) : Option (Nat × Nat × Nat) := (asC v).bind acR
def asO (v : AV) : Option (Nat × Nat × Nat × Nat) := (asC v).bind acO
def MY (f : Nat) : AC := .inr (7,f,0,0,0)
def asN (v : AV) : Option Nat := (asI v).bind fun z => match z with
 | .ofNat n => some n
 | _ => none
def YK (b : Nat) : List HB→Option (List AC)
 | [] => none
 | (c,x) :: h => bif Nat.beq b c then some x else YK b h
def Iw (b : Nat) (cs : List AC) : List HB→List HB
 | [] => []
 | (c,x) :: h => (bif Nat.beq b c then (b,cs) else (c,x)) :: Iw b cs h
def VP (t : Nat) : List (Nat × AV)→Option AV
 | [] => none
 | (u,v) :: tm => bif Nat.beq t u then some v else VP t tm
def Cu (t : Nat) : List (Nat × AV)→List (Nat × AV)
 | [] => []
 | (u,v) :: tm => bif Nat.beq t u then Cu t tm else (u,v) :: Cu t tm
def Dv (op : Nat) (ar : List Nat) : Nat→List Nd→Option Nat
 | _,[] => none
 | i,(p,bs) :: ns => bif Nat.beq op p && Is ar bs then some i else Dv op ar (i+1) ns
def Sx.nd (S : Sx) (op : Nat) (ar : List Nat) : Option Nat := Dv op ar 0 S.N
def YL (k a b : Nat) : List (Nat × Nat × Nat × Nat)→Option Nat
 | [] => none
 | (k',a',b',r) :: hs => bif Nat.beq k k' && (Nat.beq a a' && Nat.beq b b') then some r else YL k a b hs
def Sx.kn (S : Sx) (k a b : Nat) : Option Nat := YL k a b S.H
def notLm : Value→Bool
 | .int .u32 _ => false
 | _ => true
def okV (v : Value) : Bool := notLm v && v.oneCell'
def DJ (P : Program) (t : TypeId) : Option Bool := (P.underlying t).map fun d => match d with
 | .struct _ => true
 | .array _ _ => true
 | _ => false
def Zn (P : Program) (t : TypeId) : Option Nat := (P.info? t).map (·.size)
def Yo (P : Program) (t : TypeId) : Option (List AC) :=
 (P.info? t).bind fun i => i.zero.bind fun z => ifO (z.cells.toList.all okV) (some (z.cells.toList.map Sum.inl))
def Vb (P : Program) (t : TypeId) : Option (List Field) := (P.underlying t).bind fun d => match d with
 | .struct fs => some fs.toList
 | _ => none
def Yy (P : Program) (t : TypeId) : Option (Nat × TypeId) := (P.underlying t).bind fun d => match d with
 | .array n e => some (n,e)
 | _ => none
def ZJ (P : Program) (t : TypeId) : Option TypeId := (P.underlying t).bind fun d => match d with
 | .slice e => some e
 | _ => none
def Vd (P : Program) (t : TypeId) (cs : List AC) (o : Nat) : Option AV :=
 (DJ P t).bind fun a => (Zn P t).bind fun n =>
  bif a then ifO (Nat.ble (o+n) cs.length) (some (vA ((cs.drop o).take n))) else cs[o]?.map v1
def RR (cs : List AC) (o : Nat) (ds : List AC) : Option (List AC) :=
 ifO (Nat.ble (o+ds.length) cs.length) (some (cs.take o ++ (ds ++ cs.drop (o+ds.length))))
def Rd (place : Nat→Option (Nat × Nat)) : List AC→List (Nat × List AC)→Option (List AC)
 | cs,[] => some cs
 | cs,(i,ds) :: ps => (place i).bind fun p => ifO (Nat.beq ds.length p.2) ((RR cs p.1 ds).bind fun cs' => Rd place cs' ps)
structure OR where
 res : Option AV
 rd : List Nat
 wr : List Nat
 h : List HB
 nx : Nat
def QN (h : List HB) (nx : Nat) (v : AV) : OR := { res := some v,rd := [],wr := [],h := h,nx := nx }
def Gm (h : List HB) (nx : Nat) (cs : List AC) (c : AC) : OR := { res := some (v1 c),rd := [],wr := [],h := h ++ [(nx,cs)],nx := nx+1 }
def eqvB : Value→Value→Bool
 | .pointer none,.pointer none => true
 | .bool a,.bool b => a == b
 | .int .i64 x,.int .i64 y => decide (x=y)
 | .slice none 0 0,.slice none 0 0 => true
 | .string a,.string b => decide (a=b)
 | _,_ => false
def Eb : List AC→List AC→Bool
 | [],[] => true
 | .inr (k,a,b,c,d) :: x,.inr (k',a',b',c',d') :: y => (Nat.beq k k' && (Nat.beq a a' && (Nat.beq b b' && (Nat.beq c c' && Nat.beq d d')))) && Eb x y
 | _,_ => false
def FO : List AC→List AC→Bool
 | [],[] => true
 | .inr (k,a,b,c,d) :: x,.inr (k',a',b',c',d') :: y => (Nat.beq k k' && (Nat.beq a a' && (Nat.beq b b' && (Nat.beq c c' && Nat.beq d d')))) && FO x y
 | .inl u :: x,.inl v :: y => eqvB u v && FO x y
 | _,_ => false
def Sb : List AC→Bool
 | [] => true
 | .inr (k,_) :: cs => !Nat.beq k 5 && Sb cs
 | .inl _ :: cs => Sb cs
def Gz (K : List (FuncId × List AC)) : List AC→Bool
 | [] => true
 | .inr (k,a,_) :: cs => (!Nat.beq k 5 || (match K[a]? with
  | some (_,ds) => Sb ds
  | none => false)) && Gz K cs
 | .inl _ :: cs => Gz K cs
def Wx (f : FuncId) (cs : List AC) : Nat→List (FuncId × List AC)→Option Nat
 | _,[] => none
 | i,(g,ds) :: ks => bif Nat.beq f g && Eb cs ds then some i else Wx f cs (i+1) ks
def Lo (S : Sx) : Nat→AC→List Nat
 | _,.inl _ => []
 | 0,.inr (k,b,_) => bif Nat.beq k 3 || (Nat.beq k 4 || Nat.beq k 6) then [b] else []
 | d+1,.inr (k,b,_) => bif Nat.beq k 3 || (Nat.beq k 4 || Nat.beq k 6) then [b] else bif Nat.beq k 5 then (match S.K[b]? with
   | some (_,cs) => cs.flatMap (Lo S d)
   | none => []) else []
def Hn (S : Sx) (v : AV) : List Nat := v.2.flatMap fun x => x.2.flatMap (Lo S 2)
def MG (S : Sx) (h : List HB) : Nat→List Nat→List Nat
 | 0,ids => ids
 | n+1,ids => match ids with
  | [] => []
  | _ => ids ++ MG S h n (ids.flatMap fun b => match YK b h with
   | some cs => cs.flatMap (Lo S 2)
   | none => [])
def WU (z : Int) : Bool := decide (-9223372036854775808≤z) && decide (z≤9223372036854775807)
def YN (op : BinOp) (x y : Int) : Option AV :=
 match op with
 | .add => ifO (WU (x+y)) (some (kI (x+y)))
 | .sub => ifO (WU (x - y)) (some (kI (x - y)))
 | .mul => ifO (WU (x*y)) (some (kI (x*y)))
 | .eql => some (kB (x == y))
 | .neq => some (kB (x != y))
 | .lss => some (kB (decide (x < y)))
 | .leq => some (kB (decide (x≤y)))
 | .gtr => some (kB (decide (x > y)))
 | .geq => some (kB (decide (x ≥ y)))
 | .rem => ifO (!decide (y=0) && WU (x.tmod y)) (some (kI (x.tmod y)))
 | .quo => ifO (decide (0≤x) && (decide (0 < y) && WU (x / y))) (some (kI (x / y)))
 | _ => none
def sgnOp (S : Sx) (op : BinOp) (a : Nat) : Option Bool :=
 match op with
 | .eql => (S.kn 0 a 0).map (Nat.beq 1)
 | .neq => (S.kn 0 a 0).map (fun r => !Nat.beq 1 r)
 | .lss => (S.kn 1 a 0).map (Nat.beq 1)
 | .geq => (S.kn 1 a 0).map (fun r => !Nat.beq 1 r)
 | .gtr => (S.kn 2 a 0).map (Nat.beq 1)
 | .leq => (S.kn 2 a 0).map (fun r => !Nat.beq 1 r)
 | _ => none
def XR (bs : List Nat) : List (List Nat × Nat)→Option Nat
 | [] => none
 | (l,i) :: ls => bif Is bs l then some i else XR bs ls
def Jg (s : ByteArray) : List Nat := s.data.toList.map UInt8.toNat
def OD : AC→Option ByteArray
 | .inl (.string s) => some s
 | _ => none
def JC : AC→Option Nat
 | .inr (k,a,_) => ifO (Nat.beq k 1) (some a)
 | _ => none
def Pi : AC→Option Nat
 | .inr (k,a,_) => ifO (Nat.beq k 2) (some a)
 | _ => none
def zOk (S : Sx) (a : Nat) : Bool := match S.Z[a]? with
 | some z => Nat.ble z 6442450910
 | none => false
def PU (S : Sx) (c : AC) : Option Nat :=
 match JC c with
 | some a => ifO (zOk S a) (some a)
 | none => match Pi c with
  | some j => S.nd 1 [j]
  | none => (OD c).bind fun s => XR (Jg s) S.L
def Am (S : Sx) (c d : AC) : Option Bool :=
 match JC c with
 | some a => (match JC d with
  | some b => bif Nat.beq a b then some true else (S.kn 3 a b).map (Nat.beq 1)
  | none => (OD d).bind fun s => (match Jg s with
   | [] => some false
   | l => (XR l S.C).bind fun b => (S.kn 4 a b).map (Nat.beq 1)))
 | none => (OD c).bind fun s => (OD d).map fun t => Is (Jg s) (Jg t)
def Mq (S : Sx) : List AC→List AC→Option Bool
 | [],[] => some true
 | a :: ar,b :: bs => (Am S a b).bind fun r => (Mq S ar bs).map fun s => r && s
 | _,_ => none
def sqF (S : Sx) : Nat→List Nat→Option Nat
 | s,[] => some s
 | s,a :: l => (S.nd 4 [a,a]).bind fun b => (S.nd 2 [s,b]).bind fun t => sqF S t l
def sqN (S : Sx) : List Nat→Option Nat
 | [] => none
 | a :: l => (S.nd 4 [a,a]).bind fun s => sqF S s l
def PD (S : Sx) : List Nat→List Nat→Option (List Nat)
 | a :: l,b :: m => (S.nd 3 [a,b]).bind fun d => (PD S l m).map fun r => d :: r
 | [],[] => some []
 | _,_ => none
def parEq (S : Sx) : List AC→List AC→Option Bool
 | [x,y],[u,v] => (JC x).bind fun a => (JC y).bind fun b => (Pi u).bind fun i => (Pi v).bind fun j => (S.nd 7 [a,b,i,j]).bind fun n => (S.kn 0 n 0).map (Nat.beq 1)
 | _,_ => none
def Mm (S : Sx) (ar bs : List AC) : Option Bool := match Mq S ar bs with
 | some r => some r
 | none => match parEq S ar bs with
 | some r => some r
 | none => (ZO JC ar).bind fun l => (ZO JC bs).bind fun m => (PD S l m).bind fun ds => (sqN S ds).bind fun s => (S.kn 0 s 0).map (Nat.beq 1)
def OJ (f : Nat) : List (FuncId × Nat)→Option Nat
 | [] => none
 | (g,c) :: l => bif Nat.beq f g then some c else OJ f l
def DN (P : Program) (t : TypeId) : Bool := match P.underlying t with
 | some .bool => true
 | _ => false
def SC : List Int→List Int→Bool
 | [],[] => true
 | a :: l,b :: m => (a == b) && SC l m
 | _,_ => false
def arrZ (S : Sx) (op : BinOp) (t : TypeId) (x y : AV) : Option AV := (OJ t S.eqT).bind fun n => (asA x).bind fun ar => (asA y).bind fun bs => (ZO acI ar).bind fun l => (ZO acI bs).bind fun m => ifO (Nat.beq n (l.length+1000) && Nat.beq m.length l.length) (match op with
  | .eql => some (kB (SC l m))
  | .neq => some (kB (!SC l m))
  | _ => none)
def eqlB (S : Sx) (op : BinOp) (t : TypeId) (x y : AV) : Option AV :=
 match (asC x).bind fun a => (asC y).bind fun b => Am S a b with
 | some r => (match op with
  | .eql => some (kB r)
  | .neq => some (kB (!r))
  | _ => none)
 | none => (OJ t S.eqT).bind fun n => (asA x).bind fun ar => (asA y).bind fun bs => ifO ((Nat.beq ar.length n && Nat.beq bs.length n) && Nat.blt n 1000) (match op with
  | .eql => (Mm S ar bs).map kB
  | .neq => (Mm S ar bs).map (fun r => kB (!r))
  | _ => none)
def Sa (S : Sx) (a : Nat) : AV := match S.kn 5 a 0 with
 | some 0 => kI (-1)
 | some 1 => kI 0
 | some 2 => kI 1
 | _ => v1 (.inr (0,4,a,0,0))
def mulSg (S : Sx) (op : BinOp) (x y : AV) : Option AV :=
 match op with
 | .mul => ((asC x).bind (acX 4)).bind fun a => ((asC y).bind (acX 4)).bind fun b => (S.nd 4 [a,b]).map (Sa S)
 | _ => none
def OI (S : Sx) : Int→Option Nat
 | .ofNat n => S.nd 0 [0,n,1]
 | .negSucc n => S.nd 0 [1,n+1,1]
def Pw (S : Sx) (b : Int) (c : AC) : Option Nat := match acX 6 c with
 | some a => (OI S b).bind fun k => S.nd 3 [a,k]
 | none => (acSg c).bind fun a => ifO (decide (b=0)) (some a)
def zerOp (S : Sx) (op : BinOp) (b : Int) (a : Nat) : Option Bool := ifO (decide (b=0)) (match op with
 | .eql => (S.kn 0 a 0).map (Nat.beq 1)
 | .neq => (S.kn 0 a 0).map (fun r => !Nat.beq 1 r)
 | _ => none)
def nilS (P : Program) (op : BinOp) (t : TypeId) (x y : AV) : Option AV := (ZJ P t).bind fun _ => (asC y).bind fun d => (asC x).bind fun c =>
 ifO (Vm d) ((bif Vm c then some true else (acR c).map fun _ => false).bind fun r => match op with
  | .eql => some (kB r)
  | .neq => some (kB (!r))
  | _ => none)
def KB : AC→Bool
 | .inl (.pointer none) => true
 | _ => false
def nilP (P : Program) (op : BinOp) (t : TypeId) (x y : AV) : Option AV := (P.underlying t).bind fun u => (asC y).bind fun d => (asC x).bind fun c =>
 ifO (KB d && (match u with
  | .pointer _ => true
  | _ => false)) ((bif KB c then some true else (acX 0 c).map fun _ => false).bind fun r => match op with
  | .eql => some (kB r)
  | .neq => some (kB (!r))
  | _ => none)
def binB (S : Sx) (op : BinOp) (t : TypeId) (x y : AV) : Option AV :=
 match asI y with
 | some b => (match asI x with
  | some a => YN op a b
  | none => match (asC x).bind (acX 7) with
   | some a => (zerOp S op b a).map kB
   | none => ((asC x).bind (Pw S b)).bind fun a => (sgnOp S op a).map kB)
 | none => match asB y with
  | some b => (asB x).bind fun a => ifO (DN S.P t) (match op with
   | .eql => some (kB (a == b))
   | .neq => some (kB (a != b))
   | _ => none)
  | none => match mulSg S op x y with
   | some v => some v
   | none => match arrZ S op t x y with
   | some v => some v
   | none => match nilS S.P op t x y with
   | some v => some v
   | none => match nilP S.P op t x y with
   | some v => some v
   | none => eqlB S op t x y
def OE (d : Nat) : Option (Option AV)→Option Nat
 | none => some d
 | some (some x) => asN x
 | some none => none
def Da (P : Program) (t : TypeId) (x : AV) (lo hi : Option (Option AV)) : Option AV :=
 match Yy P t with
 | some (n,e) => (asP x).bind fun p => (OE n hi).bind fun h => (OE 0 lo).bind fun l => (Zn P e).bind fun z =>
   ifO (Nat.ble l h && (Nat.ble h n && Nat.blt l n)) (some (v1 (slc p.1 (p.2+l*z) (h - l) (n - l))))
 | none => (ZJ P t).bind fun e => (Zn P e).bind fun z => match asS x with
  | some p => (OE p.2.2.1 hi).bind fun h => (OE 0 lo).bind fun l =>
    ifO (Nat.ble l h && Nat.ble h p.2.2.2) (some (v1 (bif Nat.blt l p.2.2.2 then slc p.1 (p.2.1+l*z) (h - l) (p.2.2.2 - l) else MY 1)))
  | none => (asO x).bind fun p => (OE p.2.2.1 hi).bind fun h => (OE 0 lo).bind fun l =>
    ifO ((Nat.ble l h && Nat.ble h p.2.2.1) && Nat.beq z p.2.2.2) (some (v1 (bif Nat.blt l p.2.2.1 then .inr (6,p.1,p.2.1+l*z,h - l,z) else MY 0)))
def sliceO (P : Program) (hp : List HB) (nx : Nat) (t : TypeId) (x : AV) (lo hi : Option (Option AV)) : Option OR :=
 (ZJ P t).bind fun e => (Zn P e).bind fun z => (asO x).bind fun p => (OE p.2.2.1 hi).bind fun h => (OE 0 lo).bind fun l => (YK p.1 hp).bind fun cs =>
  ifO (((Nat.ble l h && Nat.ble (p.2.1+h*z) cs.length) && (Nat.blt (p.2.1+l*z) cs.length && Nat.blt 0 z)) && Nat.beq z p.2.2.2)
   (some { res := some (v1 (.inr (6,p.1,p.2.1+l*z,h - l,z))),rd := [p.1],wr := [],h := hp,nx := nx })
def Cz (P : Program) (t : TypeId) (x : AV) (lo hi mx : Option (Option AV)) : Option AV :=
 (ZJ P t).bind fun e => (Zn P e).bind fun z => (asO x).bind fun p => (OE p.2.2.1 mx).bind fun k => (OE p.2.2.1 hi).bind fun h => (OE 0 lo).bind fun l =>
  ifO (((Nat.ble l h && Nat.ble h k) && (Nat.ble k p.2.2.1 && Nat.blt l k)) && (hi.isSome && mx.isSome)) (some (v1 (slc p.1 (p.2.1+l*z) (h - l) (k - l))))
def TZ (a : Nat) : List AC := [.inr (0,1,a,0,0),.inr (0,2,a,0,0),.inr (0,3,a,0,0)]
def isZ3 : List AC→Bool
 | [.inl (.bool false),.inl (.slice none 0 0),.inl (.slice none 0 0)] => true
 | _ => false
def Mj (S : Sx) : List AC→Option Nat
 | [x,y,z] => match acX 1 x with
  | some a => (acX 2 y).bind fun b => (acX 3 z).bind fun c => ifO (Nat.beq a b && Nat.beq a c) (some a)
  | none => ifO (isZ3 [x,y,z]) (S.nd 0 [0,0,1])
 | _ => none
def qN (S : Sx) (v : AV) : Option Nat := (asA v).bind (Mj S)
def rN (v : AV) : Option Nat := (asC v).bind (acX 0)
def IX (h : List HB) (z : Nat) (v : AV) : Option (Nat × List AC) :=
 (asR v).bind fun p => (YK p.1 h).bind fun cs => ifO (Nat.ble (p.2.1+p.2.2*z) cs.length) (some (p.1,(cs.drop p.2.1).take (p.2.2*z)))
def Sy (S : Sx) : List AC→Option (List Nat)
 | [] => some []
 | a :: b :: c :: cs => (Mj S [a,b,c]).bind fun i => (Sy S cs).map fun l => i :: l
 | _ => none
def Mz (S : Sx) (op : Nat) : Nat→List Nat→Option Nat
 | a,[] => some a
 | a,b :: l => (S.nd op [a,b]).bind fun c => Mz S op c l
def IJ (S : Sx) (op : Nat) : List Nat→Option Nat
 | [] => none
 | a :: l => Mz S op a l
def q1 (a : Nat) : AV := vA (TZ a)
def r1 (a : Nat) : AV := v1 (.inr (0,0,a,0,0))
def t1 (a : Nat) : AV := v1 (.inr (1,a,0,0,0))
def nzOk (S : Sx) (a : Nat) : Bool := match S.kn 0 a 0 with
 | some r => !Nat.beq 1 r
 | none => false
def Lq (S : Sx) (xs : List Nat) : Bool := xs.any fun a => xs.any fun b => match S.kn 6 a b with
 | some r => !Nat.beq 1 r
 | none => false
def isNilS (v : AV) : Bool := match asC v with
 | some (.inl (.slice none 0 0)) => true
 | _ => false
def GP (S : Sx) (xs : List Nat) : Nat→List Nat→Bool
 | _,[] => true
 | i,a :: l => (match S.N[a]? with
  | some (op,ar) => Nat.beq op 8 && Is ar (i :: xs)
  | none => false) && GP S xs (i+1) l
def MJ (S : Sx) (l : List Nat) : Option (List Nat) := match l with
 | a :: _ => (match S.N[a]? with
  | some (_,_ :: xs) => ifO (Nat.beq xs.length l.length && GP S xs 0 l) (some xs)
  | _ => none)
 | [] => none
abbrev Al := AV × List Nat × List HB × Nat
def Ja (nx : Nat) (r : Option AV) : Option Al := r.map fun v => (v,[],[],nx)
def arg1 {α : Type} (f : AV→Option α) : List AV→Option α
 | [x] => f x
 | _ => none
def On {α : Type} (f : AV→AV→Option α) : List AV→Option α
 | [x,y] => f x y
 | _ => none
def arg0 {α : Type} (f : Option α) : List AV→Option α
 | [] => f
 | _ => none
def q2B (S : Sx) (op : Nat) (x y : AV) : Option AV := (qN S x).bind fun a => (qN S y).bind fun b => (S.nd op [a,b]).map q1
def r2B (S : Sx) (op : Nat) (x y : AV) : Option AV := (rN x).bind fun a => (rN y).bind fun b => (S.nd op [a,b]).map r1
def plainB (S : Sx) (h : List HB) (nx : Nat) (x y : AV) : Option Al := (IX h 1 x).bind fun p => (ZO JC p.2).bind fun l => (MJ S l).bind fun xs => ifO (isNilS y && ((xs.any (nzOk S) || Lq S xs) && (l.all (zOk S) && Nat.ble l.length 20))) (some (kB true,[p.1],[],nx))
def aheadOf (S : Sx) : List Nat→List AC→Option (List Nat)
 | [b,a],[c] => (acI c).bind fun z => ifO (decide (z=1)) (MJ S [a,b])
 | _,_ => none
def plainA (S : Sx) (h : List HB) (nx : Nat) (x y : AV) : Option Al := (IX h 1 x).bind fun p => (ZO JC p.2).bind fun l => (IX h 1 y).bind fun p' => (aheadOf S l p'.2).bind fun xs => ifO ((xs.any (nzOk S) || Lq S xs) && l.all (zOk S)) (some (kB true,[p.1,p'.1],[],nx))
def PV (S : Sx) (a : Nat) : Option Nat := match S.N[a]? with
 | some (op,[s,n,d]) => ifO ((Nat.beq op 0 && Nat.beq s 0) && (Nat.beq d 1 && Nat.blt n 4611686018427387904)) (some n)
 | _ => none
def PZ (S : Sx) (a : Nat) : List (Nat × Nat × Nat × Nat)→Option Nat
 | [] => none
 | (k,b,c,_) :: hs => bif Nat.beq k 3 && Nat.beq a b then (match S.kn 3 a c with
  | some r => ifO (Nat.beq 1 r) (PV S c)
  | none => none) else PZ S a hs
def Cn (S : Sx) (a : Nat) : Option Nat := match PV S a with
 | some n => some n
 | none => PZ S a S.H
def Fp (S : Sx) (h : List HB) (nx : Nat) (code : Nat) (args : List AV) : Option Al :=
 match code with
 | 0 => Ja nx (arg1 (fun x => (asC x).bind fun c => (PU S c).map q1) args)
 | 1 => Ja nx (arg1 (fun x => (qN S x).map t1) args)
 | 2 => Ja nx (On (q2B S 2) args)
 | 3 => Ja nx (On (q2B S 3) args)
 | 4 => Ja nx (On (q2B S 4) args)
 | 5 => Ja nx (On (q2B S 6) args)
 | 6 => Ja nx (arg1 (fun x => (qN S x).bind fun a => (S.nd 5 [a]).map q1) args)
 | 7 => Ja nx (arg1 (fun x => (qN S x).map (Sa S)) args)
 | 8 => Ja nx (arg1 (fun x => (asI x).bind fun z => ifO (decide (-9223372036854775808 < z) && decide (z < 9223372036854775808)) ((OI S z).map q1)) args)
 | 9 => arg1 (fun x => (IX h 3 x).bind fun p => (Sy S p.2).bind fun l => (IJ S 2 l).bind fun a => ifO (Nat.ble l.length 20) (some (q1 a,[p.1],[],nx))) args
 | 10 => arg1 (fun x => (IX h 3 x).bind fun p => (Sy S p.2).bind fun l => (ZO (fun i => S.nd 8 (i :: l)) (List.range' 0 l.length)).bind fun ms => ifO (Nat.blt 0 l.length && Nat.ble l.length 20)
   (some (v1 (slc nx 0 l.length l.length),[p.1],[(nx,ms.flatMap TZ)],nx+1))) args
 | 11 => Ja nx (arg1 (fun x => (asA x).bind fun cs => (Sy S cs).bind fun l => match l with
   | [a,b] => (S.kn 6 a b).map fun r => kB (Nat.beq 1 r)
   | _ => none) args)
 | 12 => Ja nx (arg1 (fun x => (qN S x).bind fun a => (Cn S a).map fun (n : Nat) => (true,[(false,[.inl (.int .i64 (n : Int))]),(false,[.inl (.bool true)])])) args)
 | 13 => Ja nx (On (q2B S 11) args)
 | 14 => Ja nx (arg1 (fun x => (qN S x).bind fun a => (S.nd 9 [a]).bind fun b => (S.nd 10 [a]).map fun c => (true,[(true,TZ b),(true,TZ c)])) args)
 | 15 => Ja nx (On (fun x y => (qN S x).bind fun a => (qN S y).bind fun b => (S.nd 3 [a,b]).map (Sa S)) args)
 | 20 => Ja nx (arg1 (fun x => (asC x).bind fun c => (PU S c).map r1) args)
 | 21 => Ja nx (arg1 (fun x => (rN x).map t1) args)
 | 22 => Ja nx (arg1 (fun x => (asI x).bind fun z => ifO (decide (-9223372036854775808 < z) && decide (z < 9223372036854775808)) ((OI S z).map r1)) args)
 | 23 => Ja nx (On (fun x y => (asN x).bind fun a => (asN y).bind fun b => ifO (Nat.blt 0 b && (Nat.blt a 9223372036854775808 && Nat.blt b 9223372036854775808)) ((S.nd 0 [0,a,b]).map r1)) args)
 | 24 => arg1 (fun x => (IX h 1 x).bind fun p => (ZO (acX 0) p.2).bind fun l => (IJ S 2 l).bind fun a => ifO (Nat.ble l.length 20) (some (r1 a,[p.1],[],nx))) args
 | 25 => arg1 (fun x => (IX h 1 x).bind fun p => (ZO (acX 0) p.2).bind fun l => (IJ S 4 l).bind fun a => ifO (Nat.ble l.length 20) (some (r1 a,[p.1],[],nx))) args
 | 26 => Ja nx (On (r2B S 3) args)
 | 27 => Ja nx (On (r2B S 6) args)
 | 28 => Ja nx (arg1 (fun x => (rN x).bind fun a => (S.nd 5 [a]).map r1) args)
 | 29 => Ja nx (On (fun x y => (rN x).bind fun a => (rN y).bind fun b => bif Nat.beq a b then some (kB true) else (S.kn 3 a b).map fun r => kB (Nat.beq 1 r)) args)
 | 30 => Ja nx (arg1 (fun x => (rN x).bind fun a => (S.kn 0 a 0).map fun r => kB (Nat.beq 1 r)) args)
 | 31 => Ja nx (arg1 (fun x => (rN x).map (Sa S)) args)
 | 32 => arg1 (fun x => (IX h 1 x).bind fun p => (ZO JC p.2).bind fun l => ifO (l.all (zOk S) && Nat.ble l.length 20) (some (kB true,[p.1],[],nx))) args
 | 33 => On (fun x y => match plainB S h nx x y with
  | some r => some r
  | none => plainA S h nx x y) args
 | 34 => Ja nx (On (fun x y => (rN x).bind fun a => (rN y).bind fun b => (S.nd 3 [a,b]).map fun i => v1 (.inr (0,5,i,0,0))) args)
 | 35 => Ja nx (On (fun x y => (asA x).bind fun cs => (asA y).bind fun ds => (ZO (acX 0) cs).bind fun l => (ZO (acX 0) ds).bind fun m => match l,m with
   | [a,b],[c,d] => (S.nd 3 [a,c]).bind fun i => (S.nd 3 [b,d]).bind fun j => (S.kn 6 i j).map fun r => kB (Nat.beq 1 r)
   | _,_ => none) args)
 | 40 => Ja nx (arg0 (some (kB true)) args)
 | _ => none
def Tz (o : Oper) (j : Nat) : Bool := o.after.toList.any fun e => Nat.beq e.on j && Region.binds .any e
def inR (lo hi b : Nat) : Bool := Nat.ble lo b && Nat.blt b hi
abbrev WP := FuncId→List AV→List HB→Nat→Option (AV × List HB × Nat)
def Mb (S : Sx) (h h2 : List HB) (R : List Nat) (v : AV) : List HB := match R,Hn S v with
 | [],[] => h
 | _,_ => (h.filter fun b => !Xd b.1 R) ++ h2
def KS (b : Nat) (h h2 : List HB) : Bool :=
 (h.all fun x => !Nat.beq x.1 b || h2.any fun y => Nat.beq y.1 b && FO x.2 y.2) && (h2.all fun y => !Nat.beq y.1 b || h.any fun x => Nat.beq x.1 b && FO x.2 y.2)
def entB (P : Program) (f : FuncId) : Bool := match P.funcs[f]? with
 | some fn => !(fn.name == "runtime.NumGoroutine") && fn.body.isSome
 | none => false
def fnB (S : Sx) (call : WP) (f : FuncId) (args : List AV) (h : List HB) (nx : Nat) : Option OR :=
 ifO (entB S.P f) <| match OJ f S.pr with
 | some c => (Fp S h nx c args).bind fun p => ifO (Nat.ble nx p.2.2.2 && p.2.2.1.all (fun b => inR nx p.2.2.2 b.1))
   (some { res := some p.1,rd := p.2.1,wr := [],h := h ++ p.2.2.1,nx := p.2.2.2 })
 | none =>
  let h1 := h.filter fun b => Xd b.1 (MG S h 3 (args.flatMap (Hn S)))
  let R := h1.map (·.1)
  (call f args h1 nx).bind fun p => ifO (Nat.ble nx p.2.2 && p.2.1.all (fun b => Xd b.1 R || inR nx p.2.2 b.1))
   (some { res := some p.1,rd := R.filter (fun b => KS b h1 p.2.1),wr := R,h := Mb S h p.2.1 R p.1,nx := p.2.2 })
def DG (P : Program) (t : TypeId) : Option Nat := (P.info? t).map (·.bytes)
def WH (c : AC) : Bool := Vm c || (match acE c with
 | some f => Nat.beq f 1
 | none => false)
def LD (S : Sx) (h : List HB) (nx : Nat) (e : TypeId) (s x : AC) : Option OR := (Zn S.P e).bind fun z => (Bs x).bind fun m =>
 bif Nat.beq m 0 then ifO (Vm s || ((acE s).isSome || ((acO s).isSome || (match acS s with
  | some p => Nat.ble p.2.2.1 p.2.2.2
  | none => false)))) (some (QN h nx (v1 s)))
 else (acR x).bind fun y => (YK y.1 h).bind fun ys => (DG S.P e).bind fun bt => (Yo S.P e).bind fun zc =>
  ifO (((Nat.blt 0 z && Nat.beq zc.length z) && (Nat.ble (y.2.1+y.2.2*z) ys.length && !Xd e S.nb)) && (Nat.ble y.2.2 100000 && Nat.ble (200000*bt) 140737488355328))
   (bif WH s then some { res := some (v1 (.inr (6,nx,0,y.2.2,z))),rd := [y.1],wr := [],h := h ++ [(nx,(ys.drop y.2.1).take (y.2.2*z))],nx := nx+1 }
   else match acS s with
    | some p => (YK p.1 h).bind fun xs => ifO ((Nat.blt p.2.2.2 (p.2.2.1+y.2.2) && Nat.ble p.2.2.1 100000) && Nat.ble (p.2.1+p.2.2.1*z) xs.length)
      (some { res := some (v1 (.inr (6,nx,0,p.2.2.1+y.2.2,z))),rd := [y.1,p.1],wr := [],h := h ++ [(nx,(xs.drop p.2.1).take (p.2.2.1*z) ++ (ys.drop y.2.1).take (y.2.2*z))],nx := nx+1 })
    | none => (acO s).bind fun p => (YK p.1 h).bind fun xs => ifO ((Nat.beq p.2.1 0 && (Nat.beq p.2.2.2 z && Nat.ble p.2.2.1 100000)) && (Nat.ble (p.2.2.1*z) xs.length && !Nat.beq y.1 p.1))
      (some { res := some (v1 (.inr (6,nx,0,p.2.2.1+y.2.2,z))),rd := [y.1],wr := [p.1],h := (h.filter fun b => !Nat.beq b.1 p.1) ++ [(nx,xs.take (p.2.2.1*z) ++ (ys.drop y.2.1).take (y.2.2*z))],nx := nx+1 }))
def Hk (S : Sx) (h : List HB) (nx : Nat) (e : TypeId) (s x : AC) : Option OR := (Zn S.P e).bind fun z => (acO s).bind fun p => (acR x).bind fun y => (YK p.1 h).bind fun xs =>
 ifO (((Nat.beq p.1 y.1 && Nat.beq p.2.1 0) && (Nat.beq z p.2.2.2 && Nat.blt 0 z)) && ((Nat.ble (y.2.1+y.2.2*z) xs.length && Nat.ble ((p.2.2.1+y.2.2)*z) xs.length) && Nat.blt 0 y.2.2))
  ((RR xs (p.2.2.1*z) ((xs.drop y.2.1).take (y.2.2*z))).map fun cs => { res := some (v1 (.inr (6,p.1,0,p.2.2.1+y.2.2,z))),rd := [],wr := [p.1],h := Iw p.1 cs h,nx := nx })
def appO (S : Sx) (h : List HB) (nx : Nat) (e : TypeId) (s x : AC) : Option OR := match Hk S h nx e s x with
 | some r => some r
 | none => LD S h nx e s x
def isR : List Nat→Nat→Bool
 | u :: _,t => Nat.beq t u
 | [],_ => false
def Es (a b : Nat) : Nat := bif Nat.ble a b then a else b
def ND (P : Program) (h : List HB) (nx : Nat) (t : TypeId) (d s : AV) : Option OR := (ZJ P t).bind fun e => (Zn P e).bind fun z => (asR d).bind fun p => (asR s).bind fun q => (YK p.1 h).bind fun ys => (YK q.1 h).bind fun xs =>
 ifO ((Nat.beq z 1 && !Nat.beq p.1 q.1) && Nat.ble (q.2.1+Es q.2.2 p.2.2) xs.length) ((RR ys p.2.1 ((xs.drop q.2.1).take (Es q.2.2 p.2.2))).map fun cs => { res := some (kI (Es q.2.2 p.2.2 : Nat)),rd := [q.1],wr := [p.1],h := Iw p.1 cs h,nx := nx })
def repL (cs : List AC) : Nat→List AC
 | 0 => []
 | n+1 => cs ++ repL cs n
def Lz (P : Program) (h : List HB) (nx : Nat) (t : TypeId) (x : AV) : Option OR := (ZJ P t).bind fun e => (Zn P e).bind fun z => (Yo P e).bind fun zs => (asR x).bind fun p => (YK p.1 h).bind fun ys =>
 ifO ((Nat.beq zs.length 1 && Nat.beq z 1) && Nat.blt 0 p.2.2) ((RR ys p.2.1 (repL zs p.2.2)).map fun cs => { res := some (true,[]),rd := [],wr := [p.1],h := Iw p.1 cs h,nx := nx })
def hdB (pr : List (FuncId × Nat)) : Bool := pr.any fun x => Nat.beq x.2 99
def Mo (K : List (FuncId × List AC)) (a : Nat) : Option (List AC) := K[a]?.bind fun e => match e.2 with
 | [.inl (.slice (some _) _ _),.inl (.int .i64 (.ofNat t)),.inl (.int .i64 (.ofNat n))] => some ((List.range' t n).map fun j => .inr (2,j,0,0,0))
 | _ => none
def repB (cs : List AC) : Nat→List AC
 | 0 => []
 | n+1 => cs ++ repB cs n
def mkB (P : Program) (nb : List Nat) (h : List HB) (nx : Nat) (t : TypeId) (l c : AV) : Option OR := (asN l).bind fun n => (asN c).bind fun m => (ZJ P t).bind fun e => (Zn P e).bind fun z => (DG P e).bind fun bt => (Yo P e).bind fun zc =>
 ifO ((Nat.beq n m && Nat.ble n 100000) && Nat.ble (100000*bt) 281474976710656) (bif Nat.beq n 0 then some (QN h nx (v1 (MY 1)))
  else ifO ((Nat.beq zc.length z && Nat.blt 0 z) && !Xd e nb) (some (Gm h nx (repB zc n) (slc nx 0 n n))))
def strT (P : Program) (t : TypeId) : Bool := match P.underlying t with
 | some .string => true
 | _ => false
def lenS (P : Program) (ρ : Operand→Option AV) (c : Call) : Option Nat := c.argTypes.toList.head?.bind fun t => ifO (strT P t) ((ZO ρ c.args.toList).bind fun args => arg1 (fun v => (asC v).bind fun c => (OD c).map fun s => s.size) args)
def opB (S : Sx) (call : WP) (ρ : Operand→Option AV) (h : List HB) (nx : Nat) (op : Op) : Option OR :=
 match op with
 | .move x => (ρ x).map (QN h nx)
 | .assign x => (ρ x).map (QN h nx)
 | .pick c a b => (ρ c).bind fun v => (asB v).bind fun t => (ρ (bif t then a else b)).map (QN h nx)
 | .sliceToArrayPointer t x => (Yy S.P t).bind fun n => (ρ x).bind fun v => ((asC v).bind acR).bind fun p => ifO (Nat.ble n.1 p.2.2) (some (QN h nx (v1 (ptr p.1 p.2.1))))
 | .nilCheck x => (ρ x).bind fun v => (asP v).map fun _ => QN h nx v
 | .extract x k => (ρ x).bind fun v => (asT v).bind fun vs => vs[k]?.map fun y => QN h nx (false,[y])
 | .alloc t => bif isR S.nb t then (S.nd 0 [0,0,1]).map fun i => QN h nx (r1 i) else ifO (!Xd t S.nb) ((Yo S.P t).map fun cs => Gm h nx cs (ptr nx 0))
 | .box t x => ifO (!Xd t S.nb) ((ρ x).bind fun v => (asL v).map fun cs => Gm h nx cs (ptr nx 0))
 | .load t x => (ρ x).bind fun v => match (asC v).bind AZ with
  | some p => ifO (hdB S.pr) ((Mo S.K p.1).bind fun cs => (Vd S.P t cs p.2).map (QN h nx))
  | none => (asP v).bind fun p => (YK p.1 h).bind fun cs => (Vd S.P t cs p.2).map fun r => { res := some r,rd := [p.1],wr := [],h := h,nx := nx }
 | .store t x y => (ρ x).bind fun v => (asP v).bind fun p => (ρ y).bind fun u => (asL u).bind fun ds => (YK p.1 h).bind fun cs => (Zn S.P t).bind fun n =>
   ifO (Nat.beq ds.length n) ((RR cs p.2 ds).map fun cs' => { res := none,rd := [],wr := [p.1],h := Iw p.1 cs' h,nx := nx })
 | .fieldAddr t x f => (Vb S.P t).bind fun fs => (ρ x).bind fun v => (asP v).bind fun p => fs[f]?.bind fun g => (Zn S.P g.type).bind fun n =>
   ifO (Nat.blt 0 n) (some (QN h nx (v1 (ptr p.1 (p.2+g.offset)))))
 | .field t x f => (Vb S.P t).bind fun fs => (ρ x).bind fun v => (asA v).bind fun cs => fs[f]?.bind fun g => (Vd S.P g.type cs g.offset).map (QN h nx)
 | .indexAddr t x i => (ρ x).bind fun v => (ρ i).bind fun u => (asN u).bind fun k => match Yy S.P t with
  | some (n,e) => (asP v).bind fun p => (Zn S.P e).bind fun z => ifO (Nat.blt k n) (some (QN h nx (v1 (ptr p.1 (p.2+k*z)))))
  | none => (ZJ S.P t).bind fun e => (Zn S.P e).bind fun z => match (asC v).bind acH with
   | some p => ifO (Nat.blt k p.2.2) (some (QN h nx (v1 (.inr (9,p.1,p.2.1+k*z,0,0)))))
   | none => (asR v).bind fun p => ifO (Nat.blt k p.2.2) (some (QN h nx (v1 (ptr p.1 (p.2.1+k*z)))))
 | .index t x i => (Yy S.P t).bind fun a => (ρ x).bind fun v => (asA v).bind fun cs => (ρ i).bind fun u => (asN u).bind fun k => (Zn S.P a.2).bind fun z =>
   ifO (Nat.blt k a.1) ((Vd S.P a.2 cs (k*z)).map (QN h nx))
 | .slice t x lo hi mx => bif mx.isNone then ((ρ x).bind fun v => match Da S.P t v (lo.map ρ) (hi.map ρ) with
   | some y => some (QN h nx y)
   | none => sliceO S.P h nx t v (lo.map ρ) (hi.map ρ)) else (ρ x).bind fun v => (Cz S.P t v (lo.map ρ) (hi.map ρ) (mx.map ρ)).map (QN h nx)
 | .build t parts => (Yo S.P t).bind fun z => (ZO (fun p => (ρ p.2).bind fun v => (asL v).map fun cs => (p.1,cs)) parts.toList).bind fun ps =>
   match Vb S.P t with
   | some fs => (ZO (fun g => (Zn S.P g.type).map fun n => (g.offset,n)) fs).bind fun pl => (Rd (fun i => pl[i]?) z ps).map fun cs => QN h nx (vA cs)
   | none => (Yy S.P t).bind fun a => (Zn S.P a.2).bind fun n => (Rd (fun i => some (i*n,n)) z ps).map fun cs => QN h nx (vA cs)
 | .buildSlice t len parts => bif Nat.beq len 0 then (ZJ S.P t).bind fun e => (Zn S.P e).bind fun _ => ifO parts.toList.isEmpty (some (QN h nx (v1 (MY 1)))) else (ZJ S.P t).bind fun e => (Zn S.P e).bind fun n => (ZO (fun p => (ρ p.2).bind asL) parts.toList).bind fun ps =>
   ifO ((!Xd e S.nb && (Is (parts.toList.map (·.1)) (List.range' 0 len) && (Yo S.P e).isSome)) && (ps.all (fun cs => Nat.beq cs.length n) && (Nat.ble (len*n) 16777216 && (Nat.blt 0 len && Nat.blt 0 n))))
    (some (Gm h nx ps.flatten (slc nx 0 len len)))
 | .makeSlice t l c => (ρ l).bind fun u => (ρ c).bind fun v => mkB S.P S.nb h nx t u v
 | .unOp .not _ x => (ρ x).bind fun v => (asB v).map fun t => QN h nx (kB (!t))
 | .unOp .neg _ x => (ρ x).bind fun v => (asI v).bind fun z => ifO (WU (-z)) (some (QN h nx (kI (-z))))
 | .binOp op t x y _ => (ρ x).bind fun a => (ρ y).bind fun b => (binB S op t a b).map (QN h nx)
 | .makeFunc (.func f) first captured => ifO first.toList.isEmpty ((ZO (fun x => (ρ x).bind asC) captured.toList).bind fun cs =>
   ifO (Gz S.K cs) ((Wx f cs 0 S.K).map fun i => QN h nx (v1 (.inr (5,i,0,0,0)))))
 | .call c => match c.callee with
  | .value (.func f) => (ZO ρ c.args.toList).bind fun args => fnB S call f args h nx
  | .value x => (ρ x).bind fun v => ((asC v).bind acF).bind fun k => (ZO ρ c.args.toList).bind fun args => S.K[k]?.bind fun p => fnB S call p.1 (args ++ p.2.map v1) h nx
  | .builtin .len => match lenS S.P ρ c with
   | some n => some (QN h nx (kI (n : Int)))
   | none => c.argTypes.toList.head?.bind fun t => (ZJ S.P t).bind fun _ => (ZO ρ c.args.toList).bind fun args => arg1 (fun v => (asC v).bind fun c => match acHL c with
    | some a => some (QN h nx (v1 (.inr (0,6,a,0,0))))
    | none => (Bs c).map fun (n : Nat) => QN h nx (kI (n : Int))) args
  | .builtin .append => match c.args.toList,c.argTypes.toList with
   | [s,x],[t,t'] => ifO (Nat.beq t t') ((ZJ S.P t).bind fun e => (ρ s).bind fun u => (asC u).bind fun cs => (ρ x).bind fun v => (asC v).bind fun cx => appO S h nx e cs cx)
   | _,_ => none
  | .builtin .copy => match c.args.toList,c.argTypes.toList with
   | [d,s],[t,_] => (ρ d).bind fun u => (ρ s).bind fun v => ND S.P h nx t u v
   | _,_ => none
  | .builtin .clear => match c.args.toList,c.argTypes.toList with
   | [x],[t] => (ρ x).bind fun v => Lz S.P h nx t v
   | _,_ => none
  | .builtin .max => match c.args.toList with
   | [x,y] => (ρ x).bind fun u => (asI u).bind fun a => (ρ y).bind fun v => (asI v).map fun b => QN h nx (kI (if b > a then b else a))
   | _ => none
  | .builtin .min => match c.args.toList with
   | [x,y] => (ρ x).bind fun u => (asI u).bind fun a => (ρ y).bind fun v => (asI v).map fun b => QN h nx (kI (if b < a then b else a))
   | _ => none
  | _ => none
 | _ => none
abbrev IG := List (Option Tmp × Option AV)
def Vj (t : Tmp) : Nat→IG→Option (Nat × Option AV)
 | _,[] => none
 | j,(d,r) :: ps => match d with
  | some u => bif Nat.beq t u then some (j,r) else Vj t (j+1) ps
  | none => Vj t (j+1) ps
def Lt (t : Tmp) (i : Nat) (os : List Oper) : Bool := os.all fun o => match o.dst with
 | some u => !Nat.beq t u || Tz o i
 | none => true
def CJ (K : List (FuncId × List AC)) (tm : List (Nat × AV)) (prev : IG) (i : Nat) (o : Oper) (later : List Oper) : Operand→Option AV
 | .const v => ifO (okV v) (some (v1 (.inl v)))
 | .tmp t => match Vj t 0 prev with
  | some (j,r) => ifO (Tz o j) r
  | none => ifO (Lt t i later) (VP t tm)
 | .func f => (Wx f [] 0 K).map fun i => v1 (.inr (5,i,0,0,0))
 | _ => none
def skV : AV := (true,[])
def Lf : AV→Option (Option Bool)
 | (true,[]) => some none
 | (c,xs) => (asB (c,xs)).map some
def Fg (prev : IG) (o : Oper) : Option Bool :=
 match o.guard with
 | none => some true
 | some (j,b) => prev[j]?.bind fun p => p.2.bind fun v => (Lf v).bind fun c => ifO (Tz o j && p.1.isSome) (some (c == some b))
def Tj (S : Sx) (call : WP) (tm : List (Nat × AV)) : Nat→List Oper→IG→List HB→Nat→Option (List OR)
 | _,[],_,_,_ => some []
 | i,o :: os,prev,h,nx => (Fg prev o).bind fun wt =>
   (bif wt then opB S call (CJ S.K tm prev i o os) h nx o.op else some { res := some skV,rd := [],wr := [],h := h,nx := nx }).bind fun r =>
    ifO ((r.rd.all (Nat.blt · nx) && r.wr.all (Nat.blt · nx)) && r.wr.all (fun b => !Xd b r.rd || KS b h r.h)) ((Tj S call tm (i+1) os (prev ++ [(o.dst,r.res)]) r.h r.nx).map fun l => r :: l)
def wrs (r : OR) : List Nat := r.wr.filter fun b => !Xd b r.rd
def KU (lo : Nat) (a b : OR) : Bool := meets (wrs a) b.rd || (meets (wrs a) (wrs b) || (meets a.rd (wrs b) || (b.rd.any (inR lo a.nx) || b.wr.any (inR lo a.nx))))
def GG (all : List Oper) : Nat→Oper→Nat→Bool
 | 0,o,i => Tz o i
 | n+1,o,i => Tz o i || o.after.toList.any fun e => Region.binds .any e && (match all[e.on]? with
  | some o' => GG all n o' i
  | none => false)
def orderedFrom (all : List Oper) (lo : Nat) (i : Nat) (a : OR) : List Oper→List OR→Bool
 | o :: os,b :: bs => (!KU lo a b || GG all 3 o i) && orderedFrom all lo i a os bs
 | _,_ => true
def orderedB (all : List Oper) : Nat→Nat→List Oper→List OR→Bool
 | i,lo,_ :: os,a :: ar => orderedFrom all lo i a os ar && orderedB all (i+1) a.nx os ar
 | _,_,_,_ => true
def MF : List (Nat × AV)→List Oper→List OR→List (Nat × AV)
 | tm,o :: os,r :: rs => MF (match o.dst with
  | none => tm
  | some t => match r.res with
   | some v => (t,v) :: Cu t tm
   | none => Cu t tm) os rs
 | tm,_,_ => tm
def WM (h : List HB) : List OR→List HB
 | [] => h
 | r :: rs => WM r.h rs
def VX (n : Nat) : List OR→Nat
 | [] => n
 | r :: rs => VX r.nx rs
def Fa (n : Nat) : List Nat→List Oper→Bool
 | _,[] => true
 | seen,o :: os => match o.dst with
  | none => Fa n seen os
  | some t => Nat.blt t n && (!Xd t seen && Fa n (t :: seen) os)
structure St where
 tm : List (Nat × AV)
 h : List HB
 nx : Nat
def Mu (f : St→Option (Nat × St)) : Nat→St→Option (Nat × St)
 | 0,_ => none
 | n+1,s => (f s).bind fun r => bif Nat.beq r.1 0 then Mu f n r.2 else some r
def Of (S : Sx) (call : WP) (n : Nat) : Code→St→Option (Nat × St)
 | .skip,s => some (0,s)
 | .region _ os _,s => ifO (Fa n [] os.toList && topoOps 0 os.toList) ((Tj S call s.tm 0 os.toList [] s.h s.nx).bind fun rs =>
   ifO (orderedB os.toList 0 s.nx os.toList rs) (some (0,{ tm := MF s.tm os.toList rs,h := WM s.h rs,nx := VX s.nx rs })))
 | .seq a b,s => (Of S call n a s).bind fun r => bif Nat.beq r.1 0 then Of S call n b r.2 else some r
 | .cond x a b,s => match x with
  | .tmp t => (VP t s.tm).bind fun v => (asB v).bind fun c => bif c then Of S call n a s else Of S call n b s
  | _ => none
 | .block id c,s => (Of S call n c s).map fun r => bif Nat.beq r.1 (id+2) then (0,r.2) else r
 | .loop c,s => Mu (Of S call n c) 100 s
 | .exit id,s => some (id+2,s)
 | .ret,s => some (1,s)
 | _,_ => none
def one1 : AV→Option A1
 | (false,[x]) => some x
 | _ => none
def Ew (P : Program) (s : St) : ResultVar→Option A1
 | .tmp t => (VP t s.tm).bind one1
 | .cell t ty => (VP t s.tm).bind fun v => (asP v).bind fun p => (YK p.1 s.h).bind fun cs => (Vd P ty cs p.2).bind one1
def Mt : Nat→List AV→List (Nat × AV)
 | _,[] => []
 | i,v :: vs => (i,v) :: Mt (i+1) vs
def tupB : List A1→AV
 | [x] => (false,[x])
 | xs => (true,xs)
def GN (S : Sx) : Nat→WP
 | 0,_,_,_,_ => none
 | n+1,f,args,h,nx => S.P.funcs[f]?.bind fun fn => fn.body.bind fun c => ifO (Nat.ble args.length fn.ntmps) ((Of S (GN S n) fn.ntmps c { tm := Mt 0 args,h := h,nx := nx }).bind fun r =>
   ifO (Nat.ble r.1 1) ((ZO (Ew S.P r.2) fn.results.toList).map fun xs => (tupB xs,r.2.h,r.2.nx)))
end Cx
/- VB -/
namespace Cx
open Go Go.RowKit
def Bk (w : World) (g : Nat) (cs : List Value) (t : TypeId) : Prop := w.heap[g]? = some (.cells cs.toArray t (0,0))
theorem Bk.lt {w : World} {g : Nat} {cs : List Value} {t : TypeId} (h : Bk w g cs t) : g < w.heap.size := by
 have := h
 unfold Bk at this
 exact (Array.getElem?_eq_some_iff.1 this).1
section
variable (nb : List Nat)
def Bxd (w : World) (k : Nat) : Prop := ∃ cs t,Bk w k cs t∧Xd t nb=false∧∀ c ∈ cs,okV c=true
structure Gr (w w' : World) : Prop where
 size : w.heap.size≤w'.heap.size
 block : ∀ k,k < w.heap.size→¬ Bxd nb w k→w'.heap[k]? = w.heap[k]?
 len : ∀ k cs t,Bk w k cs t→∃ cs',Bk w' k cs' t∧cs'.length=cs.length
structure Fct where
 on : Value→World→Prop
 st : ∀ {v : Value} {w w' : World},Gr nb w w'→on v w→on v w'
 ok : ∀ {v : Value} {w : World},on v w→okV v=true
structure Ev where
 q : Nat→Rat
 σ : Nat→ByteArray
 X : Nat→Rat→Fct nb
 tell : Rat→ByteArray
end
def A2 {α : Type} (R : α→Value→Prop) : List α→List Value→Prop
 | [],[] => True
 | a :: ar,v :: vs => R a v∧A2 R ar vs
 | _,_ => False
theorem A2.mono {α : Type} {R R' : α→Value→Prop} (h : ∀ a v,R a v→R' a v) : ∀ {ar : List α} {vs : List Value},A2 R ar vs→A2 R' ar vs
 | [],[],_ => trivial
 | _ :: _,_ :: _,q => ⟨h _ _ q.1,A2.mono h q.2⟩
 | [],_ :: _,q => q.elim
 | _ :: _,[],q => q.elim
theorem A2.len {α : Type} {R : α→Value→Prop} : ∀ {ar : List α} {vs : List Value},A2 R ar vs→vs.length=ar.length
 | [],[],_ => rfl
 | _ :: _,_ :: _,q => congrArg (· + 1) (A2.len q.2)
 | [],_ :: _,q => q.elim
 | _ :: _,[],q => q.elim
theorem A2.get {α : Type} {R : α→Value→Prop} : ∀ {ar : List α} {vs : List Value} {k : Nat} {a : α},A2 R ar vs→ar[k]? = some a→∃ v,vs[k]? = some v∧R a v
 | [],_,_,_,_,h => by simp at h
 | _ :: _,[],_,_,h,_ => h.elim
 | a :: ar,v :: vs,0,a',h,e => by
  have : a=a' := by simpa using e
  subst this
  exact ⟨v,rfl,h.1⟩
 | a :: ar,v :: vs,k+1,a',h,e => by
  obtain ⟨u,hu,hF⟩ := A2.get h.2 (k := k) (a := a') (by simpa using e)
  exact ⟨u,by simpa using hu,hF⟩
theorem A2.append {α : Type} {R : α→Value→Prop} : ∀ {ar bs : List α} {vs us : List Value},A2 R ar vs→A2 R bs us→A2 R (ar ++ bs) (vs ++ us)
 | [],_,[],_,_,h => h
 | _ :: _,_,_ :: _,_,g,h => ⟨g.1,A2.append g.2 h⟩
 | [],_,_ :: _,_,g,_ => g.elim
 | _ :: _,_,[],_,g,_ => g.elim
theorem A2.take {α : Type} {R : α→Value→Prop} : ∀ {ar : List α} {vs : List Value} (n : Nat),A2 R ar vs→A2 R (ar.take n) (vs.take n)
 | [],[],n,_ => by simp [A2]
 | _ :: _,_ :: _,0,_ => trivial
 | _ :: _,_ :: _,n+1,h => ⟨h.1,A2.take n h.2⟩
 | [],_ :: _,_,h => h.elim
 | _ :: _,[],_,h => h.elim
theorem A2.drop {α : Type} {R : α→Value→Prop} : ∀ {ar : List α} {vs : List Value} (n : Nat),A2 R ar vs→A2 R (ar.drop n) (vs.drop n)
 | [],[],n,_ => by simp [A2]
 | _ :: _,_ :: _,0,h => h
 | _ :: _,_ :: _,n+1,h => A2.drop n h.2
 | [],_ :: _,_,h => h.elim
 | _ :: _,[],_,h => h.elim
theorem A2.all {α : Type} {R : α→Value→Prop} {p : Value→Prop} (hp : ∀ a v,R a v→p v) : ∀ {ar : List α} {vs : List Value},A2 R ar vs→∀ v ∈ vs,p v
 | [],[],_,v,h => by simp at h
 | _ :: _,_ :: _,g,v,h => by
  rcases List.mem_cons.1 h with rfl | h
  ·exact hp _ _ g.1
  ·exact A2.all hp g.2 v h
 | [],_ :: _,g,_,_ => g.elim
 | _ :: _,[],g,_,_ => g.elim
theorem A2.map {α β : Type} {R : α→Value→Prop} {S : β→Value→Prop} (f : α→β) (h : ∀ a v,R a v→S (f a) v) : ∀ {ar : List α} {vs : List Value},A2 R ar vs→A2 S (ar.map f) vs
 | [],[],_ => trivial
 | _ :: _,_ :: _,g => ⟨h _ _ g.1,A2.map f h g.2⟩
 | [],_ :: _,g => g.elim
 | _ :: _,[],g => g.elim
theorem ifO_some {α : Type} {b : Bool} {x : Option α} {r : α} : ifO b x=some r ↔ b=true∧x=some r := by
 cases b <;> simp [ifO]
theorem TP {b : Nat} : ∀ {l : List Nat},Xd b l=true ↔ b ∈ l
 | [] => by simp [Xd]
 | c :: cs => by
  unfold Xd
  rw [Bool.or_eq_true,List.mem_cons,TP (l := cs),Nat.beq_eq]
theorem memN_not {b : Nat} {l : List Nat} : Xd b l=false ↔ b ∉ l := by
 rw [← TP]
 cases Xd b l <;> simp
theorem Iv {a b : List Nat} (h : meets a b=false) : ∀ x ∈ a,x ∉ b := by
 induction a with
 | nil => simp
 | cons c cs ih =>
  unfold meets at h
  rw [Bool.or_eq_false_iff] at h
  intro x hx
  rcases List.mem_cons.1 hx with rfl | hx
  ·exact memN_not.1 h.1
  ·exact ih h.2 x hx
theorem As {u v : Value} (h : eqvB u v=true) : u=v := by
 unfold eqvB at h
 split at h
 ·rfl
 ·rename_i a b
  rw [show a=b from by simpa using h]
 ·rw [of_decide_eq_true h]
 ·rfl
 ·rw [of_decide_eq_true h]
 ·cases h
theorem Ml : ∀ {a b : List AC},Eb a b=true→a=b
 | [],[],_ => rfl
 | .inr (k,a,b,c,d) :: x,.inr (k',a',b',c',d') :: y,h => by
  unfold Eb at h
  simp only [Bool.and_eq_true,Nat.beq_eq] at h
  obtain ⟨⟨h1,h2,h3,h4,h5⟩,h6⟩ := h
  rw [h1,h2,h3,h4,h5,Ml h6]
 | [],_ :: _,h => by cases h
 | _ :: _,[],h => by unfold Eb at h; split at h <;> first | contradiction | cases h
 | .inl _ :: _,_ :: _,h => by cases h
 | .inr _ :: _,.inl _ :: _,h => by cases h
theorem Th : ∀ {a b : List AC},FO a b=true→a=b
 | [],[],_ => rfl
 | .inr (k,a,b,c,d) :: x,.inr (k',a',b',c',d') :: y,h => by
  unfold FO at h
  simp only [Bool.and_eq_true,Nat.beq_eq] at h
  obtain ⟨⟨h1,h2,h3,h4,h5⟩,h6⟩ := h
  rw [h1,h2,h3,h4,h5,Th h6]
 | [],_ :: _,h => by cases h
 | _ :: _,[],h => by unfold FO at h; split at h <;> first | contradiction | cases h
 | .inl u :: x,.inl v :: y,h => by
  unfold FO at h
  rw [Bool.and_eq_true] at h
  rw [As h.1,Th h.2]
 | .inl _ :: _,.inr _ :: _,h => by cases h
 | .inr _ :: _,.inl _ :: _,h => by cases h
theorem Uh {f : FuncId} {cs : List AC} : ∀ {ks : List (FuncId × List AC)} {i k : Nat},Wx f cs i ks=some k→i≤k∧ks[k - i]? = some (f,cs)
 | [],_,_,h => by cases h
 | (g,ds) :: ks,i,k,h => by
  unfold Wx at h
  cases e : (Nat.beq f g && Eb cs ds) with
  | true =>
   rw [e] at h
   cases h
   rw [Bool.and_eq_true,Nat.beq_eq] at e
   rw [e.1,Ml e.2]
   exact ⟨Nat.le_refl _,by simp⟩
  | false =>
   rw [e] at h
   obtain ⟨h1,h2⟩ := Uh (ks := ks) h
   refine ⟨by omega,?_⟩
   rw [show k - i=k - (i+1)+1 by omega]
   simpa using h2
section
variable {nb : List Nat} (E : Ev nb) (K : List (FuncId × List AC)) (γ : Nat→Option Nat) (w : World)
def QM : Nat→AC→Value→Prop
 | _,.inl u,v => v=u∧okV u=true
 | d,.inr (k,a,b,n,c),v => match k with
  | 0 => (E.X a (E.q b)).on v w
  | 1 => v=.string (E.tell (E.q a))
  | 2 => v=.string (E.σ a)
  | 3 => ∃ G,γ a=some G∧v=.pointer (some ⟨G,b,none⟩)
  | 4 => ∃ G,γ a=some G∧v=.slice (some ⟨G,b,none⟩) n c
  | 5 => match d with
   | 0 => False
   | d+1 => ∃ f cs vs,K[a]? = some (f,cs)∧v=.func (.func f) #[] vs.toArray∧A2 (QM d) cs vs
  | 6 => ∃ G m,γ a=some G∧v=.slice (some ⟨G,b,none⟩) n m∧n≤m∧∃ cs t,Bk w G cs t∧cs.length=b+m*c
  | 7 => ∃ ao m,v=.slice ao 0 m∧(a=1→m=0)
  | 8 => ∃ f ad n' m r m',K[a]? = some (f,.inl (.slice (some ad) n' m) :: r)∧v=.slice (some (ad.add b)) n m'
  | 9 => ∃ f ad n' m r,K[a]? = some (f,.inl (.slice (some ad) n' m) :: r)∧v=.pointer (some (ad.add b))
  | 10 => ∃ (ao : Option Addr) (k m : Nat),v=.slice ao k m∧∀ w',(E.X 6 (E.q a)).on (.int .i64 (k : Int)) w'
  | _ => False
abbrev cOn : AC→Value→Prop := QM E K γ w 3
end
def a1On (R : AC→Value→Prop) : A1→Value→Prop
 | (true,cs),v => ∃ vs : List Value,v=.agg vs.toArray∧A2 R cs vs
 | (false,cs),v => A2 R cs [v]
def avOn (R : AC→Value→Prop) : AV→Value→Prop
 | (true,xs),v => ∃ vs : List Value,v=.tuple vs.toArray∧A2 (a1On R) xs vs
 | (false,xs),v => A2 (a1On R) xs [v]
def leG (γ γ' : Nat→Option Nat) : Prop := ∀ b G,γ b=some G→γ' b=some G
theorem leG.refl (γ : Nat→Option Nat) : leG γ γ := fun _ _ h => h
theorem leG.trans {a b c : Nat→Option Nat} (h : leG a b) (k : leG b c) : leG a c := fun _ _ q => k _ _ (h _ _ q)
section
variable {nb : List Nat} {E : Ev nb} {K : List (FuncId × List AC)} {γ γ' : Nat→Option Nat} {w w' : World}
theorem GU (hl : leG γ γ') (hg : Gr nb w w') : ∀ (d : Nat) (c : AC) (v : Value),QM E K γ w d c v→QM E K γ' w' d c v
 | _,.inl _,_,h => by
  unfold QM at h ⊢
  exact h
 | d,.inr (k,a,b,n,c),v,h => by
  unfold QM at h ⊢
  match k,h with
  | 0,h => exact (E.X a (E.q b)).st hg h
  | 1,h => exact h
  | 2,h => exact h
  | 3,⟨G,h1,h2⟩ => exact ⟨G,hl _ _ h1,h2⟩
  | 4,⟨G,h1,h2⟩ => exact ⟨G,hl _ _ h1,h2⟩
  | 5,h =>
   match d,h with
   | 0,h => exact h.elim
   | d+1,⟨f,cs,vs,h1,h2,h3⟩ => exact ⟨f,cs,vs,h1,h2,h3.mono (GU hl hg d)⟩
  | 6,⟨G,m,h1,h2,h3,cs,t,h4,h5⟩ =>
   obtain ⟨cs',g1,g2⟩ := hg.len G cs t h4
   exact ⟨G,m,hl _ _ h1,h2,h3,cs',t,g1,g2.trans h5⟩
  | 7,h => exact h
  | 8,h => exact h
  | 9,h => exact h
  | 10,h => exact h
  | k+11,h => exact h.elim
theorem XM : ∀ (d : Nat) (c : AC) (v : Value),QM E K γ w d c v→okV v=true
 | _,.inl _,_,h => by
  unfold QM at h
  exact h.1 ▸ h.2
 | d,.inr (k,a,b,n,c),v,h => by
  unfold QM at h
  match k,h with
  | 0,h => exact (E.X a (E.q b)).ok h
  | 1,h => rw [h]; rfl
  | 2,h => rw [h]; rfl
  | 3,⟨G,h1,h2⟩ => rw [h2]; rfl
  | 4,⟨G,h1,h2⟩ => rw [h2]; rfl
  | 5,h =>
   match d,h with
   | 0,h => exact h.elim
   | d+1,⟨f,cs,vs,h1,h2,h3⟩ => rw [h2]; rfl
  | 6,⟨G,m,h1,h2,_⟩ => rw [h2]; rfl
  | 7,⟨ao,m,h1,_⟩ => rw [h1]; rfl
  | 8,⟨f,ad,n',m,r,m',_,h1⟩ => rw [h1]; rfl
  | 9,⟨f,ad,n',m,r,_,h1⟩ => rw [h1]; rfl
  | 10,⟨ao,k,m,h1,_⟩ => rw [h1]; rfl
  | k+11,h => exact h.elim
theorem a1On.mono {R R' : AC→Value→Prop} (h : ∀ c v,R c v→R' c v) : ∀ (x : A1) (v : Value),a1On R x v→a1On R' x v
 | (true,_),_,⟨vs,e,q⟩ => ⟨vs,e,A2.mono h q⟩
 | (false,_),_,q => A2.mono h q
theorem avOn.mono {R R' : AC→Value→Prop} (h : ∀ c v,R c v→R' c v) : ∀ (x : AV) (v : Value),avOn R x v→avOn R' x v
 | (true,_),_,⟨vs,e,q⟩ => ⟨vs,e,A2.mono (a1On.mono h) q⟩
 | (false,_),_,q => A2.mono (a1On.mono h) q
theorem Bxd.of {w w' : World} {k : Nat} (e : w'.heap[k]? = w.heap[k]?) (h : Bxd nb w' k) : Bxd nb w k := by
 obtain ⟨cs,t,h1,h2⟩ := h
 exact ⟨cs,t,e.symm.trans h1,h2⟩
theorem Gr.refl (w : World) : Gr nb w w := ⟨Nat.le_refl _,fun _ _ _ => rfl,fun _ cs _ h => ⟨cs,h,rfl⟩⟩
theorem Gr.trans {a b c : World} (h : Gr nb a b) (k : Gr nb b c) : Gr nb a c :=
 ⟨Nat.le_trans h.size k.size,fun i hi hn => by
  have e := h.block i hi hn
  exact (k.block i (Nat.lt_of_lt_of_le hi h.size) (fun q => hn (q.of e))).trans e,fun i cs t hc => by
  obtain ⟨cs1,h1,h2⟩ := h.len i cs t hc
  obtain ⟨cs2,h3,h4⟩ := k.len i cs1 t h1
  exact ⟨cs2,h3,h4.trans h2⟩⟩
theorem Gr.of (h : Below w.heap.size w w') : Gr nb w w' := ⟨h.size,fun k hk _ => h.block k hk,fun k cs _ hc => ⟨cs,(h.block k hc.lt).trans hc,rfl⟩⟩
def TX (γ : Nat→Option Nat) (b : Nat) : Prop := ∀ G c,γ b=some G→γ c=some G→c≤b
def boxOn (E : Ev nb) (K : List (FuncId × List AC)) (γ : Nat→Option Nat) (w : World) (x : HB) : Prop :=
 ∃ G vs t,γ x.1=some G∧TX γ x.1∧(∃ us,Bk w G (vs ++ us) t∧∀ u ∈ us,okV u=true)∧Xd t nb=false∧A2 (cOn E K γ w) x.2 vs
theorem boxOn.bxd {x : HB} {G : Nat} (h : boxOn E K γ w x) (hG : γ x.1=some G) : Bxd nb w G := by
 obtain ⟨G',vs,t,h1,_,⟨us,h2,hu⟩,h3,h4⟩ := h
 rw [hG] at h1
 cases h1
 refine ⟨vs ++ us,t,h2,h3,fun c hc => ?_⟩
 rcases List.mem_append.1 hc with q | q
 ·exact A2.all (p := fun v => okV v=true) (fun a v q => XM _ a v q) h4 c q
 ·exact hu c q
theorem boxOn.live {x : HB} (h : boxOn E K γ w x) : TX γ x.1 := by
 obtain ⟨_,_,_,_,h,_⟩ := h
 exact h
structure WI (w0 : World) (γ : Nat→Option Nat) (w : World) : Prop where
 bel : Below w0.heap.size w0 w
 lo : ∀ b G,γ b=some G→w0.heap.size≤G∧G < w.heap.size
structure Ef (nb : List Nat) (w0 : World) (wr : List Nat) (lo hi : Nat) (γ : Nat→Option Nat) (w : World) (γ' : Nat→Option Nat) (w' : World) : Prop where
 le : leG γ γ'
 same : ∀ b,¬ (lo≤b∧b < hi)→γ' b=γ b
 fresh : ∀ b G,γ' b=some G→γ b=some G ∨ w.heap.size≤G ∨ ∃ k ∈ wr,γ k=some G
 wi : WI w0 γ' w'
 gr : Gr nb w w'
 keep : ∀ G,G < w.heap.size→(∀ b ∈ wr,γ b ≠ some G)→w'.heap[G]? = w.heap[G]?
 live : ∀ b ∈ wr,TX γ b
theorem Ef.refl {w0 : World} (h : WI w0 γ w) (wr : List Nat) (lo : Nat) (hl : ∀ b ∈ wr,TX γ b) : Ef nb w0 wr lo lo γ w γ w :=
 ⟨leG.refl _,fun _ _ => rfl,fun _ _ h => Or.inl h,h,Gr.refl _,fun _ _ _ => rfl,hl⟩
theorem Ef.pure {w0 : World} (h : WI w0 γ w) (hb : Below w.heap.size w w') (wr : List Nat) (lo hi : Nat) (hl : ∀ b ∈ wr,TX γ b) : Ef nb w0 wr lo hi γ w γ w' :=
 ⟨leG.refl _,fun _ _ => rfl,fun _ _ h => Or.inl h,⟨h.bel.trans (hb.mono h.bel.size),fun b G q => ⟨(h.lo b G q).1,Nat.lt_of_lt_of_le (h.lo b G q).2 hb.size⟩⟩,Gr.of hb,fun G hG _ => hb.block G hG,hl⟩
theorem XQ {γ : Nat→Option Nat} : ∀ b ∈ ([] : List Nat),TX γ b := fun _ h => by cases h
theorem Ef.trans {w0 : World} {wr wr2 : List Nat} {lo mid hi : Nat} {γ2 : Nat→Option Nat} {w2 : World} (h : Ef nb w0 wr lo mid γ w γ' w') (k : Ef nb w0 wr2 mid hi γ' w' γ2 w2) (h1 : lo≤mid) (h2 : mid≤hi) (hf : ∀ b,lo≤b→b < hi→γ b=none)
  (hw : ∀ b ∈ wr2,b ∈ wr ∨ (lo≤b∧b < mid)) : Ef nb w0 wr lo hi γ w γ2 w2 where
 le := h.le.trans k.le
 same := fun b hb => (k.same b (by omega)).trans (h.same b (by omega))
 fresh := fun b G q => by
  rcases k.fresh b G q with q' | q' | ⟨j,hj,q'⟩
  ·exact h.fresh b G q'
  ·exact Or.inr (Or.inl (Nat.le_trans h.gr.size q'))
  ·rcases h.fresh j G q' with p | p | p
   ·rcases hw j hj with hb | ⟨l1,l2⟩
    ·exact Or.inr (Or.inr ⟨j,hb,p⟩)
    ·rw [hf j l1 (by omega)] at p
     cases p
   ·exact Or.inr (Or.inl p)
   ·exact Or.inr (Or.inr p)
 wi := k.wi
 gr := h.gr.trans k.gr
 keep := fun G hG hn => by
  have e1 := h.keep G hG hn
  refine (k.keep G (Nat.lt_of_lt_of_le hG h.gr.size) fun b hb q => ?_).trans e1
  rcases h.fresh b G q with q' | q' | ⟨j,hj,q'⟩
  ·rcases hw b hb with hb | ⟨l1,l2⟩
   ·exact hn b hb q'
   ·rw [hf b l1 (by omega)] at q'
    cases q'
  ·omega
  ·exact hn j hj q'
 live := h.live
theorem Ef.cell {w0 : World} {wr : List Nat} {lo hi d : Nat} {c : AC} {v : Value} (h : Ef nb w0 wr lo hi γ w γ' w') (hc : QM E K γ w d c v) : QM E K γ' w' d c v := GU h.le h.gr d c v hc
theorem Ef.av {w0 : World} {wr : List Nat} {lo hi : Nat} {x : AV} {v : Value} (h : Ef nb w0 wr lo hi γ w γ' w') (hc : avOn (cOn E K γ w) x v) : avOn (cOn E K γ' w') x v := avOn.mono (fun _ _ q => h.cell q) x v hc
theorem Ef.box {w0 : World} {wr : List Nat} {lo hi : Nat} {x : HB} (h : Ef nb w0 wr lo hi γ w γ' w') (_ : WI w0 γ w) (hx : boxOn E K γ w x) (hn : x.1 ∉ wr) : boxOn E K γ' w' x := by
 obtain ⟨G,vs,t,h1,hl,⟨us,h2,hu⟩,h3,h4⟩ := hx
 have apart : ∀ b ∈ wr,γ b ≠ some G := fun b hb q => by
  have e1 := hl G b h1 q
  have e2 := h.live b hb G x.1 q h1
  have : b=x.1 := by omega
  exact hn (this ▸ hb)
 refine ⟨G,vs,t,h.le _ _ h1,fun G' c q1 q2 => ?_,⟨us,?_,hu⟩,h3,h4.mono fun _ _ q => h.cell q⟩
 ·rw [h.le _ _ h1] at q1
  cases q1
  rcases h.fresh c G q2 with q | q | ⟨k,hk,q⟩
  ·exact hl G c h1 q
  ·have := h2.lt
   omega
  ·exact absurd q (apart k hk)
 ·unfold Bk
  rw [h.keep G h2.lt apart]
  exact h2
theorem Za {v : AV} {c : AC} {R : AC→Value→Prop} {x : Value} (h : asC v=some c) (hv : avOn R v x) : R c x := by
 unfold asC at h
 split at h
 ·cases h
  exact hv.1.1
 ·cases h
theorem Om {v : AV} {cs : List AC} {R : AC→Value→Prop} {x : Value} (h : asA v=some cs) (hv : avOn R v x) : ∃ vs : List Value,x=.agg vs.toArray∧A2 R cs vs := by
 unfold asA at h
 split at h
 ·cases h
  exact hv.1
 ·cases h
theorem De {v : AV} {cs : List AC} {x : Value} (h : asL v=some cs) (hv : avOn (cOn E K γ w) v x) : ∃ vs : List Value,x.cells=vs.toArray∧A2 (cOn E K γ w) cs vs := by
 unfold asL at h
 split at h
 ·cases h
  obtain ⟨vs,e,q⟩ := hv.1
  exact ⟨vs,by rw [e]; rfl,q⟩
 ·cases h
  have q := hv.1.1
  refine ⟨[x],?_,q,trivial⟩
  have := XM _ _ _ q
  cases x <;> first | rfl | (simp [okV,Value.oneCell'] at this)
 ·cases h
theorem asT_on {v : AV} {xs : List A1} {R : AC→Value→Prop} {x : Value} (h : asT v=some xs) (hv : avOn R v x) : ∃ vs : List Value,x=.tuple vs.toArray∧A2 (a1On R) xs vs := by
 unfold asT at h
 split at h
 ·cases h
  exact hv
 ·cases h
theorem Zg {c : AC} {R : AC→Value→Prop} {x : Value} (h : R c x) : avOn R (v1 c) x := ⟨⟨h,trivial⟩,trivial⟩
theorem Mw {cs : List AC} {R : AC→Value→Prop} {vs : List Value} (h : A2 R cs vs) : avOn R (vA cs) (.agg vs.toArray) := ⟨⟨vs,rfl,h⟩,trivial⟩
theorem WZ {v : AV} {b : Bool} {x : Value} (h : asB v=some b) (hv : avOn (cOn E K γ w) v x) : x=.bool b := by
 unfold asB at h
 rw [Option.bind_eq_some_iff] at h
 obtain ⟨c,h1,h2⟩ := h
 have := Za h1 hv
 unfold acB at h2
 split at h2
 ·cases h2
  exact this.1
 ·cases h2
theorem YO {v : AV} {z : Int} {x : Value} (h : asI v=some z) (hv : avOn (cOn E K γ w) v x) : x=.int .i64 z := by
 unfold asI at h
 rw [Option.bind_eq_some_iff] at h
 obtain ⟨c,h1,h2⟩ := h
 have := Za h1 hv
 unfold acI at h2
 split at h2
 ·cases h2
  exact this.1
 ·cases h2
theorem Us {v : AV} {n : Nat} {x : Value} (h : asN v=some n) (hv : avOn (cOn E K γ w) v x) : x=.int .i64 n := by
 unfold asN at h
 rw [Option.bind_eq_some_iff] at h
 obtain ⟨z,h1,h2⟩ := h
 have := YO h1 hv
 split at h2
 ·cases h2
  exact this
 ·cases h2
theorem acP_on {c : AC} {p : Nat × Nat} {x : Value} {d : Nat} (h : acP c=some p) (hc : QM E K γ w d c x) : ∃ G,γ p.1=some G∧x=.pointer (some ⟨G,p.2,none⟩) := by
 unfold acP at h
 split at h
 ·rw [ifO_some] at h
  obtain ⟨h1,h2⟩ := h
  cases h2
  rw [Nat.beq_eq] at h1
  subst h1
  unfold QM at hc
  exact hc
 ·cases h
theorem Cb {c : AC} {p : Nat × Nat × Nat × Nat} {x : Value} {d : Nat} (h : acS c=some p) (hc : QM E K γ w d c x) : ∃ G,γ p.1=some G∧x=.slice (some ⟨G,p.2.1,none⟩) p.2.2.1 p.2.2.2 := by
 unfold acS at h
 split at h
 ·rw [ifO_some] at h
  obtain ⟨h1,h2⟩ := h
  cases h2
  rw [Nat.beq_eq] at h1
  subst h1
  unfold QM at hc
  exact hc
 ·cases h
theorem II {c : AC} {p : Nat × Nat × Nat} {x : Value} {d : Nat} (h : acR c=some p) (hc : QM E K γ w d c x) : ∃ G m,γ p.1=some G∧x=.slice (some ⟨G,p.2.1,none⟩) p.2.2 m := by
 unfold acR at h
 split at h
 ·rw [ifO_some,Bool.or_eq_true,Nat.beq_eq,Nat.beq_eq] at h
  obtain ⟨h1,h2⟩ := h
  cases h2
  rcases h1 with h1 | h1
  ·subst h1
   unfold QM at hc
   obtain ⟨G,g1,g2⟩ := hc
   exact ⟨G,_,g1,g2⟩
  ·subst h1
   unfold QM at hc
   obtain ⟨G,m,g1,g2,_⟩ := hc
   exact ⟨G,m,g1,g2⟩
 ·cases h
theorem PB {c : AC} {p : Nat × Nat × Nat × Nat} {x : Value} {d : Nat} (h : acO c=some p) (hc : QM E K γ w d c x) : ∃ G m,γ p.1=some G∧x=.slice (some ⟨G,p.2.1,none⟩) p.2.2.1 m∧p.2.2.1≤m∧∃ cs t,Bk w G cs t∧cs.length=p.2.1+m*p.2.2.2 := by
 unfold acO at h
 split at h
 ·rw [ifO_some,Nat.beq_eq] at h
  obtain ⟨h1,h2⟩ := h
  cases h2
  subst h1
  unfold QM at hc
  exact hc
 ·cases h
theorem Vq {c : AC} {x : Value} {d : Nat} (h : Vm c=true) (hc : QM E K γ w d c x) : x=.slice none 0 0 := by
 unfold Vm at h
 split at h
 ·unfold QM at hc
  exact hc.1
 ·cases h
theorem Ch {c : AC} {f : Nat} {x : Value} {d : Nat} (h : acE c=some f) (hc : QM E K γ w d c x) : ∃ ao m,x=.slice ao 0 m∧(f=1→m=0) := by
 unfold acE at h
 split at h
 ·rw [ifO_some,Nat.beq_eq] at h
  obtain ⟨h1,h2⟩ := h
  cases h2
  subst h1
  unfold QM at hc
  exact hc
 ·cases h
theorem LM {c : AC} {p : Nat × Nat × Nat} {x : Value} {d : Nat} (h : acH c=some p) (hc : QM E K γ w d c x) : ∃ f ad n m r m',K[p.1]? = some (f,.inl (.slice (some ad) n m) :: r)∧x=.slice (some (ad.add p.2.1)) p.2.2 m' := by
 unfold acH at h
 split at h
 ·rw [ifO_some] at h
  obtain ⟨h1,h2⟩ := h
  cases h2
  rw [Nat.beq_eq] at h1
  subst h1
  unfold QM at hc
  exact hc
 ·cases h
theorem acHP_on {c : AC} {p : Nat × Nat} {x : Value} {d : Nat} (h : AZ c=some p) (hc : QM E K γ w d c x) : ∃ f ad n m r,K[p.1]? = some (f,.inl (.slice (some ad) n m) :: r)∧x=.pointer (some (ad.add p.2)) := by
 unfold AZ at h
 split at h
 ·rw [ifO_some] at h
  obtain ⟨h1,h2⟩ := h
  cases h2
  rw [Nat.beq_eq] at h1
  subst h1
  unfold QM at hc
  exact hc
 ·cases h
theorem acHL_on {c : AC} {a : Nat} {x : Value} {d : Nat} (h : acHL c=some a) (hc : QM E K γ w d c x) : ∃ (ao : Option Addr) (k m : Nat),x=.slice ao k m∧∀ w',(E.X 6 (E.q a)).on (.int .i64 (k : Int)) w' := by
 unfold acHL at h
 split at h
 ·rw [ifO_some] at h
  obtain ⟨h1,h2⟩ := h
  cases h2
  rw [Nat.beq_eq] at h1
  subst h1
  unfold QM at hc
  exact hc
 ·cases h
theorem FN {c : AC} {n : Nat} {x : Value} {d : Nat} (h : Bs c=some n) (hc : QM E K γ w d c x) : ∃ ao m,x=.slice ao n m := by
 unfold Bs at h
 cases hn : Vm c with
 | true =>
  rw [hn] at h
  cases h
  exact ⟨none,0,Vq hn hc⟩
 | false =>
  rw [hn] at h
  simp only [cond_false] at h
  split at h
  ·rename_i f hf
   cases h
   obtain ⟨ao,m,e,_⟩ := Ch hf hc
   exact ⟨ao,m,e⟩
  ·split at h
   ·rename_i p hp
    cases h
    obtain ⟨_,ad,_,_,_,m',_,e⟩ := LM hp hc
    exact ⟨_,m',e⟩
   ·rw [Option.map_eq_some_iff] at h
    obtain ⟨p,h1,rfl⟩ := h
    obtain ⟨G,m,_,e⟩ := II h1 hc
    exact ⟨_,m,e⟩
theorem KF {v : AV} {p : Nat × Nat × Nat} {x : Value} (h : asR v=some p) (hv : avOn (cOn E K γ w) v x) : ∃ G m,γ p.1=some G∧x=.slice (some ⟨G,p.2.1,none⟩) p.2.2 m := by
 unfold asR at h
 rw [Option.bind_eq_some_iff] at h
 obtain ⟨c,h1,h2⟩ := h
 exact II h2 (Za h1 hv)
theorem Ce {v : AV} {p : Nat × Nat × Nat × Nat} {x : Value} (h : asO v=some p) (hv : avOn (cOn E K γ w) v x) : ∃ G m,γ p.1=some G∧x=.slice (some ⟨G,p.2.1,none⟩) p.2.2.1 m∧p.2.2.1≤m∧∃ cs t,Bk w G cs t∧cs.length=p.2.1+m*p.2.2.2 := by
 unfold asO at h
 rw [Option.bind_eq_some_iff] at h
 obtain ⟨c,h1,h2⟩ := h
 exact PB h2 (Za h1 hv)
theorem Oo {v : AV} {p : Nat × Nat} {x : Value} (h : asP v=some p) (hv : avOn (cOn E K γ w) v x) : ∃ G,γ p.1=some G∧x=.pointer (some ⟨G,p.2,none⟩) := by
 unfold asP at h
 rw [Option.bind_eq_some_iff] at h
 obtain ⟨c,h1,h2⟩ := h
 exact acP_on h2 (Za h1 hv)
theorem asS_on {v : AV} {p : Nat × Nat × Nat × Nat} {x : Value} (h : asS v=some p) (hv : avOn (cOn E K γ w) v x) : ∃ G,γ p.1=some G∧x=.slice (some ⟨G,p.2.1,none⟩) p.2.2.1 p.2.2.2 := by
 unfold asS at h
 rw [Option.bind_eq_some_iff] at h
 obtain ⟨c,h1,h2⟩ := h
 exact Cb h2 (Za h1 hv)
theorem Vk {c : AC} {k a : Nat} {x : Value} {d : Nat} (h : acX k c=some a) (hc : QM E K γ w d c x) : (E.X k (E.q a)).on x w := by
 unfold acX at h
 split at h
 ·rw [ifO_some,Bool.and_eq_true,Nat.beq_eq,Nat.beq_eq] at h
  obtain ⟨⟨h1,h2⟩,h3⟩ := h
  cases h3
  subst h1 h2
  unfold QM at hc
  exact hc
 ·cases h
theorem acF_on {c : AC} {k : Nat} {x : Value} (h : acF c=some k) (hc : cOn E K γ w c x) : ∃ f cs vs,K[k]? = some (f,cs)∧x=.func (.func f) #[] vs.toArray∧A2 (QM E K γ w 2) cs vs := by
 unfold acF at h
 split at h
 ·rw [ifO_some,Nat.beq_eq] at h
  obtain ⟨h1,h2⟩ := h
  cases h2
  subst h1
  exact hc
 ·cases h
theorem Pf : ∀ (d : Nat) (c : AC) (v : Value),QM E K γ w d c v→QM E K γ w (d+1) c v
 | _,.inl _,_,h => by
  unfold QM at h ⊢
  exact h
 | d,.inr (k,a,b,n,c),v,h => by
  unfold QM at h ⊢
  match k,h with
  | 0,h => exact h
  | 1,h => exact h
  | 2,h => exact h
  | 3,h => exact h
  | 4,h => exact h
  | 5,h =>
   match d,h with
   | 0,h => exact h.elim
   | d+1,⟨f,cs,vs,h1,h2,h3⟩ => exact ⟨f,cs,vs,h1,h2,h3.mono (Pf d)⟩
  | 6,h => exact h
  | 7,h => exact h
  | 8,h => exact h
  | 9,h => exact h
  | 10,h => exact h
  | k+11,h => exact h.elim
theorem Zt {b : Nat} {cs : List AC} : ∀ {h : List HB},YK b h=some cs→(b,cs) ∈ h
 | [],q => by cases q
 | (c,x) :: h,q => by
  unfold YK at q
  cases e : Nat.beq b c with
  | true =>
   rw [e] at q
   cases q
   rw [Nat.beq_eq] at e
   rw [e]
   exact List.mem_cons_self
  | false =>
   rw [e] at q
   exact List.mem_cons_of_mem _ (Zt q)
theorem YB {b : Nat} {cs : List AC} {x : HB} : ∀ {h : List HB},x ∈ Iw b cs h→x=(b,cs) ∨ (x ∈ h∧x.1 ≠ b)
 | [],q => by cases q
 | (c,y) :: h,q => by
  unfold Iw at q
  rcases List.mem_cons.1 q with q | q
  ·cases e : Nat.beq b c with
   | true =>
    rw [e] at q
    exact Or.inl q
   | false =>
    rw [e] at q
    refine Or.inr ⟨by rw [q]; exact List.mem_cons_self,fun e' => ?_⟩
    rw [q] at e'
    have : Nat.beq b c=true := by rw [Nat.beq_eq]; exact e'.symm
    rw [e] at this
    cases this
  ·rcases YB q with q | ⟨q1,q2⟩
   ·exact Or.inl q
   ·exact Or.inr ⟨List.mem_cons_of_mem _ q1,q2⟩
end
end Cx
/- VC -/
namespace Cx
open Go Go.RowKit
section
variable (S : Sx) (E : Ev S.nb) (w0 : World)
structure OpOk (h : List HB) (nx : Nat) (ρ : Operand→Option AV) (o : Oper) (r : OR) : Prop where
 le : nx≤r.nx
 wh : ∀ b ∈ r.wr,∃ x ∈ h,x.1=b
 fp : ∀ x ∈ r.h,x ∈ h ∨ x.1 ∈ r.wr ∨ (nx≤x.1∧x.1 < r.nx)
 run : ∀ (γ : Nat→Option Nat) (w : World) (a : Act) (Q : Exit→Act→World→Prop),WI w0 γ w→(∀ x v,ρ x=some v→avOn (cOn E S.K γ w) v (a.eval x)) →
  (∀ x ∈ h,x.1 ∈ r.rd ∨ x.1 ∈ r.wr→boxOn E S.K γ w x)→(∀ b,nx≤b→b < r.nx→γ b=none)→(∀ x ∈ h,x.1 < nx) →
  ∀ K : Act→World→Prop,(∀ v w' γ',Ef S.nb w0 r.wr nx r.nx γ w γ' w'→(∀ y,r.res=some y→avOn (cOn E S.K γ' w') y v) →
   (∀ x ∈ r.h,x.1 ∈ r.wr ∨ (nx≤x.1∧x.1 < r.nx)→boxOn E S.K γ' w' x)→K (a.put o.dst v) w')→Oper.wp S.P o a w K Q
structure Kept (h : List HB) (r : OR) : Prop where
 up : ∀ x ∈ h,x.1 ∉ wrs r→x ∈ r.h
 dn : ∀ x ∈ r.h,x.1 ∈ r.wr→x.1 ∈ r.rd→x ∈ h
def Le (h : List HB) (nx : Nat) : OR := { res := some skV,rd := [],wr := [],h := h,nx := nx }
def Lay (tm : List (Nat × AV)) : Nat→List Oper→IG→List HB→Nat→List OR→Prop
 | _,[],_,_,_,[] => True
 | i,o :: os,prev,h,nx,r :: rs => (∃ wt,Fg prev o=some wt∧(wt=true→OpOk S E w0 h nx (CJ S.K tm prev i o os) o r)∧(wt=false→r=Le h nx)) ∧
   (∀ b ∈ r.rd,b < nx)∧(∀ b ∈ r.wr,b < nx)∧Kept h r∧Lay tm (i+1) os (prev ++ [(o.dst,r.res)]) r.h r.nx rs
 | _,_,_,_,_,_ => False
end
def YR (os : List Oper) (rs : List OR) (j : Nat) : IG := ((os.take j).zip (rs.take j)).map fun x => (x.1.dst,x.2.res)
def hAt (h : List HB) (rs : List OR) (k : Nat) : List HB := WM h (rs.take k)
def nAt (n : Nat) (rs : List OR) (k : Nat) : Nat := VX n (rs.take k)
theorem UR (h : List HB) (rs : List OR) : hAt h rs 0=h := by simp [hAt,WM]
theorem Xt (n : Nat) (rs : List OR) : nAt n rs 0=n := by simp [nAt,VX]
theorem Vz : ∀ {rs : List OR} {h : List HB} {k : Nat} {r : OR},rs[k]? = some r→hAt h rs (k+1)=r.h
 | [],_,_,_,e => by simp at e
 | s :: rs,h,0,r,e => by
  have : s=r := by simpa using e
  subst this
  simp [hAt,WM]
 | s :: rs,h,k+1,r,e => by
  have := Vz (rs := rs) (h := s.h) (k := k) (r := r) (by simpa using e)
  simpa [hAt,WM] using this
theorem Yv : ∀ {rs : List OR} {n k : Nat} {r : OR},rs[k]? = some r→nAt n rs (k+1)=r.nx
 | [],_,_,_,e => by simp at e
 | s :: rs,n,0,r,e => by
  have : s=r := by simpa using e
  subst this
  simp [nAt,VX]
 | s :: rs,n,k+1,r,e => by
  have := Yv (rs := rs) (n := s.nx) (k := k) (r := r) (by simpa using e)
  simpa [nAt,VX] using this
section
variable {S : Sx} {E : Ev S.nb} {w0 : World}
structure At (S : Sx) (E : Ev S.nb) (w0 : World) (tm : List (Nat × AV)) (os : List Oper) (rs : List OR) (h : List HB) (n : Nat) (prev : IG) (i j : Nat) (o : Oper) (r : OR) : Prop where
 wt : ∃ wt,Fg (prev ++ YR os rs j) o=some wt∧(wt=true→OpOk S E w0 (hAt h rs j) (nAt n rs j) (CJ S.K tm (prev ++ YR os rs j) (i+j) o (os.drop (j+1))) o r)∧(wt=false→r=Le (hAt h rs j) (nAt n rs j))
 rd : ∀ b ∈ r.rd,b < nAt n rs j
 wr : ∀ b ∈ r.wr,b < nAt n rs j
 kp : Kept (hAt h rs j) r
theorem Lay.get {tm : List (Nat × AV)} : ∀ {os : List Oper} {rs : List OR} {h : List HB} {n : Nat} {prev : IG} {i j : Nat} {o : Oper},Lay S E w0 tm i os prev h n rs→os[j]? = some o→∃ r,rs[j]? = some r∧At S E w0 tm os rs h n prev i j o r
 | [],_,_,_,_,_,_,_,_,e => by simp at e
 | p :: os,[],_,_,_,_,_,_,hl,_ => hl.elim
 | p :: os,s :: rs,h,n,prev,i,0,o,hl,e => by
  have : p=o := by simpa using e
  subst this
  obtain ⟨⟨wt,h1,h2,h3⟩,h4,h5,h6,_⟩ := hl
  refine ⟨s,rfl,⟨wt,?_,?_,?_⟩,?_,?_,?_⟩
  ·simpa [YR] using h1
  ·simpa [YR,UR,Xt] using h2
  ·simpa [UR,Xt] using h3
  ·simpa [Xt] using h4
  ·simpa [Xt] using h5
  ·simpa [UR] using h6
 | p :: os,s :: rs,h,n,prev,i,j+1,o,hl,e => by
  obtain ⟨_,_,_,_,hl'⟩ := hl
  obtain ⟨r,hr,⟨wt,h1,h2,h3⟩,h4,h5,h6⟩ := Lay.get hl' (j := j) (o := o) (by simpa using e)
  have e1 : prev ++ [(p.dst,s.res)] ++ YR os rs j=prev ++ YR (p :: os) (s :: rs) (j+1) := by simp [YR]
  have e2 : hAt s.h rs j=hAt h (s :: rs) (j+1) := by simp [hAt,WM]
  have e3 : nAt s.nx rs j=nAt n (s :: rs) (j+1) := by simp [nAt,VX]
  have e4 : i+1+j=i+(j+1) := by omega
  rw [e1,e2,e3,e4] at h2
  rw [e1] at h1
  rw [e2,e3] at h3
  rw [e3] at h4 h5
  rw [e2] at h6
  exact ⟨r,by simpa using hr,⟨wt,h1,by simpa using h2,h3⟩,h4,h5,h6⟩
theorem Lay.len {tm : List (Nat × AV)} : ∀ {os : List Oper} {rs : List OR} {h : List HB} {n : Nat} {prev : IG} {i : Nat},Lay S E w0 tm i os prev h n rs→rs.length=os.length
 | [],[],_,_,_,_,_ => rfl
 | [],_ :: _,_,_,_,_,hl => hl.elim
 | _ :: _,[],_,_,_,_,hl => hl.elim
 | _ :: _,_ :: _,_,_,_,_,hl => congrArg (· + 1) (Lay.len hl.2.2.2.2)
end
theorem Rn {t : Tmp} : ∀ {ps : IG} {i j : Nat} {r : Option AV},Vj t i ps=some (j,r)→i≤j∧ps[j - i]? = some (some t,r)
 | [],_,_,_,h => by cases h
 | (d,s) :: ps,i,j,r,h => by
  unfold Vj at h
  have tail : Vj t (i+1) ps=some (j,r)→i≤j∧((d,s) :: ps)[j - i]? = some (some t,r) := fun h => by
   obtain ⟨h1,h2⟩ := Rn h
   refine ⟨by omega,?_⟩
   rw [show j - i=j - (i+1)+1 by omega]
   simpa using h2
  cases d with
  | none => exact tail h
  | some u =>
   dsimp only at h
   cases e : Nat.beq t u with
   | true =>
    rw [e] at h
    cases h
    rw [Nat.beq_eq] at e
    subst e
    exact ⟨Nat.le_refl _,by simp⟩
   | false =>
    rw [e] at h
    exact tail h
theorem RE {t : Tmp} : ∀ {ps : IG} {i : Nat},Vj t i ps=none→∀ (k : Nat) (r : Option AV),ps[k]? ≠ some (some t,r)
 | [],_,_,k,r => by simp
 | (d,s) :: ps,i,h,k,r => by
  unfold Vj at h
  have tail : Vj t (i+1) ps=none→(d ≠ some t)→((d,s) :: ps)[k]? ≠ some (some t,r) := fun h hd => by
   cases k with
   | zero =>
    intro q
    have : d=some t := by
     have := (Option.some.inj q)
     exact congrArg Prod.fst this
    exact hd this
   | succ k => simpa using RE h k r
  cases d with
  | none => exact tail h (by simp)
  | some u =>
   dsimp only at h
   cases e : Nat.beq t u with
   | true =>
    rw [e] at h
    cases h
   | false =>
    rw [e] at h
    refine tail h fun q => ?_
    cases q
    rw [Nat.beq_refl] at e
    cases e
theorem Ua {o : Oper} {j : Nat} {d : Nat→Prop} (h : Tz o j=true) (hd : ∀ e ∈ o.after,Region.binds .any e=true→d e.on) : d j := by
 unfold Tz at h
 rw [List.any_eq_true] at h
 obtain ⟨e,he,hb⟩ := h
 rw [Bool.and_eq_true,Nat.beq_eq] at hb
 exact hb.1 ▸ hd e (by simpa using he) hb.2
theorem XI {all : List Oper} {d : Nat→Prop} (hw : ∀ i o,all[i]? = some o→d i→∀ e ∈ o.after,Region.binds .any e=true→d e.on) : ∀ {n : Nat} {o : Oper} {j : Nat},GG all n o j=true→(∀ e ∈ o.after,Region.binds .any e=true→d e.on)→d j
 | 0,_,_,h,hd => Ua h hd
 | n+1,o,j,h,hd => by
  unfold GG at h
  rw [Bool.or_eq_true] at h
  rcases h with h | h
  ·exact Ua h hd
  ·rw [List.any_eq_true] at h
   obtain ⟨e,he,hb⟩ := h
   rw [Bool.and_eq_true] at hb
   obtain ⟨hb,hm⟩ := hb
   have hde := hd e (by simpa using he) hb
   cases ho : all[e.on]? with
   | none => rw [ho] at hm; cases hm
   | some o' =>
    rw [ho] at hm
    exact XI hw hm (hw _ _ ho hde)
theorem orderedFrom.get {all : List Oper} {lo i : Nat} {a : OR} : ∀ {os : List Oper} {rs : List OR} {k : Nat} {o : Oper} {b : OR},orderedFrom all lo i a os rs=true→os[k]? = some o→rs[k]? = some b→KU lo a b=true→GG all 3 o i=true
 | [],_,_,_,_,_,e,_,_ => by simp at e
 | _ :: _,[],_,_,_,_,_,e,_ => by simp at e
 | p :: os,s :: rs,0,o,b,h,e1,e2,hc => by
  have h1 : p=o := by simpa using e1
  have h2 : s=b := by simpa using e2
  subst h1 h2
  unfold orderedFrom at h
  rw [hc] at h
  simp at h
  exact h.1
 | p :: os,s :: rs,k+1,o,b,h,e1,e2,hc => by
  unfold orderedFrom at h
  rw [Bool.and_eq_true] at h
  exact orderedFrom.get h.2 (k := k) (by simpa using e1) (by simpa using e2) hc
theorem orderedB.get {all : List Oper} : ∀ {os : List Oper} {rs : List OR} {i0 n i j : Nat} {o : Oper} {a b : OR},orderedB all i0 n os rs=true→i < j→os[j]? = some o→rs[i]? = some a→rs[j]? = some b→KU (nAt n rs i) a b=true→GG all 3 o (i0+i)=true
 | [],_,_,_,_,_,_,_,_,_,_,e,_,_,_ => by simp at e
 | _ :: _,[],_,_,_,_,_,_,_,_,_,_,e,_,_ => by simp at e
 | p :: os,s :: rs,i0,n,0,j+1,o,a,b,h,_,e1,e2,e3,hc => by
  have h2 : s=a := by simpa using e2
  subst h2
  unfold orderedB at h
  rw [Bool.and_eq_true] at h
  rw [Xt] at hc
  exact orderedFrom.get h.1 (k := j) (by simpa using e1) (by simpa using e3) hc
 | p :: os,s :: rs,i0,n,i+1,j+1,o,a,b,h,hlt,e1,e2,e3,hc => by
  unfold orderedB at h
  rw [Bool.and_eq_true] at h
  have := orderedB.get h.2 (i := i) (j := j) (by omega) (by simpa using e1) (by simpa using e2) (by simpa using e3) (by simpa [nAt,VX] using hc)
  rwa [show i0+1+i=i0+(i+1) by omega] at this
 | _ :: _,_ :: _,_,_,_,0,_,_,_,_,h,_,_,_,_ => by omega
theorem mem_wrs {r : OR} {b : Nat} : b ∈ wrs r ↔ b ∈ r.wr∧b ∉ r.rd := by
 unfold wrs
 rw [List.mem_filter,Bool.not_eq_true',memN_not]
theorem Ud {lo b : Nat} {x y : OR} (h : (b ∈ wrs x∧b ∈ y.rd) ∨ (b ∈ wrs x∧b ∈ wrs y) ∨ (b ∈ x.rd∧b ∈ wrs y) ∨ ((lo≤b∧b < x.nx)∧(b ∈ y.rd ∨ b ∈ y.wr))) : KU lo x y=true := by
 cases hc : KU lo x y with
 | true => rfl
 | false =>
  exfalso
  unfold KU at hc
  simp only [Bool.or_eq_false_iff] at hc
  obtain ⟨h1,h2,h3,h4,h5⟩ := hc
  have nin : ∀ l : List Nat,l.any (inR lo x.nx)=false→b ∈ l→¬ (lo≤b∧b < x.nx) := fun l hl hb ⟨q1,q2⟩ => by
   rw [List.any_eq_false] at hl
   refine hl b hb ?_
   unfold inR
   rw [Bool.and_eq_true,Nat.ble_eq]
   exact ⟨q1,by simpa [Nat.blt_eq] using q2⟩
  rcases h with ⟨q1,q2⟩ | ⟨q1,q2⟩ | ⟨q1,q2⟩ | ⟨q1,q2 | q2⟩
  ·exact Iv h1 b q1 q2
  ·exact Iv h2 b q1 q2
  ·exact Iv h3 b q1 q2
  ·exact nin _ h4 q2 q1
  ·exact nin _ h5 q2 q1
end Cx
/- VD -/
namespace Cx
open Go Go.RowKit
theorem Ef.trans2 {nb : List Nat} {w0 : World} {wr wr2 : List Nat} {lo hi lo2 hi2 : Nat} {γ γ' γ2 : Nat→Option Nat} {w w' w2 : World} (h : Ef nb w0 wr lo hi γ w γ' w') (k : Ef nb w0 wr2 lo2 hi2 γ' w' γ2 w2) (h1 : lo≤lo2) (h2 : hi2≤hi)
  (hw : ∀ b ∈ wr2,b ∈ wr ∨ γ b=none) : Ef nb w0 wr lo hi γ w γ2 w2 where
 le := h.le.trans k.le
 same := fun b hb => (k.same b (by omega)).trans (h.same b (by omega))
 fresh := fun b G q => by
  rcases k.fresh b G q with q' | q' | ⟨j,hj,q'⟩
  ·exact h.fresh b G q'
  ·exact Or.inr (Or.inl (Nat.le_trans h.gr.size q'))
  ·rcases h.fresh j G q' with p | p | p
   ·rcases hw j hj with hb | hb
    ·exact Or.inr (Or.inr ⟨j,hb,p⟩)
    ·rw [hb] at p
     cases p
   ·exact Or.inr (Or.inl p)
   ·exact Or.inr (Or.inr p)
 wi := k.wi
 gr := h.gr.trans k.gr
 keep := fun G hG hn => by
  have e1 := h.keep G hG hn
  refine (k.keep G (Nat.lt_of_lt_of_le hG h.gr.size) fun b hb q => ?_).trans e1
  rcases h.fresh b G q with q' | q' | ⟨j,hj,q'⟩
  ·rcases hw b hb with hb | hb
   ·exact hn b hb q'
   ·rw [hb] at q'
    cases q'
  ·omega
  ·exact hn j hj q'
 live := h.live
def Cons (rs : List OR) (n : Nat) (d : Nat→Prop) (b k : Nat) : Prop :=
 (∀ i r,rs[i]? = some r→b ∈ wrs r→(d i ↔ i < k))∧(∀ i r,rs[i]? = some r→nAt n rs i≤b→b < r.nx→d i∧i < k)
section
variable (S : Sx) (E : Ev S.nb) (w0 : World) (tm : List (Nat × AV)) (os : List Oper) (rs : List OR) (h : List HB) (n : Nat)
structure RS (a0 : Act) : Prop where
 lay : Lay S E w0 tm 0 os [] h n rs
 ord : orderedB os 0 n os rs=true
 nod : (os.filterMap (·.dst)).Nodup
 bnd : ∀ o ∈ os,∀ t,o.dst=some t→t < a0.tmps.size
 hlt : ∀ x ∈ h,x.1 < n
structure RI (a0 : Act) (γr : Nat→Option Nat) (wr : World) (γ : Nat→Option Nat) (d : Nat→Prop) (τ : Nat→Value) (w : World) : Prop where
 ef : Ef S.nb w0 (h.map (·.1)) n (nAt n rs rs.length) γr wr γ w
 non : ∀ j r,rs[j]? = some r→¬ d j→∀ b,nAt n rs j≤b→b < r.nx→γ b=none
 dwn : ∀ i o,os[i]? = some o→d i→∀ e ∈ o.after,Region.binds .any e=true→d e.on
 und : ∀ i o t,os[i]? = some o→o.dst=some t→¬ d i→τ i=a0.tmps.getD t undef
 res : ∀ j r y,rs[j]? = some r→d j→r.res=some y→avOn (cOn E S.K γ w) y (τ j)
 box : ∀ k x,k≤rs.length→x ∈ hAt h rs k→Cons rs n d x.1 k→boxOn E S.K γ w x
end
section
variable {S : Sx} {E : Ev S.nb} {w0 : World} {tm : List (Nat × AV)} {os : List Oper} {rs : List OR} {h : List HB} {n : Nat} {a0 : Act}
theorem RS.at (C : RS S E w0 tm os rs h n a0) {j : Nat} {o : Oper} (ho : os[j]? = some o) : ∃ r,rs[j]? = some r∧At S E w0 tm os rs h n [] 0 j o r := C.lay.get ho
theorem RS.op (C : RS S E w0 tm os rs h n a0) {j : Nat} {r : OR} (hr : rs[j]? = some r) : ∃ o,os[j]? = some o∧At S E w0 tm os rs h n [] 0 j o r := by
 have hl := C.lay.len
 have hj : j < os.length := by
  have := (List.getElem?_eq_some_iff.1 hr).1
  omega
 obtain ⟨r',hr',hA⟩ := C.lay.get (List.getElem?_eq_getElem hj)
 rw [hr] at hr'
 cases hr'
 exact ⟨_,List.getElem?_eq_getElem hj,hA⟩
theorem RS.le (C : RS S E w0 tm os rs h n a0) {j : Nat} {r : OR} (hr : rs[j]? = some r) : nAt n rs j≤r.nx := by
 obtain ⟨o,ho,⟨wt,h1,h2,h3⟩,_⟩ := C.op hr
 cases wt with
 | true => exact (h2 rfl).le
 | false => rw [h3 rfl]; exact Nat.le_refl _
theorem RS.fp (C : RS S E w0 tm os rs h n a0) {j : Nat} {r : OR} (hr : rs[j]? = some r) : ∀ x ∈ r.h,x ∈ hAt h rs j ∨ x.1 ∈ r.wr ∨ (nAt n rs j≤x.1∧x.1 < r.nx) := by
 obtain ⟨o,ho,⟨wt,h1,h2,h3⟩,_⟩ := C.op hr
 cases wt with
 | true => exact (h2 rfl).fp
 | false => rw [h3 rfl]; exact fun x hx => Or.inl hx
theorem RS.fp2 (C : RS S E w0 tm os rs h n a0) {j : Nat} {r : OR} (hr : rs[j]? = some r) : ∀ x ∈ r.h,x ∈ hAt h rs j ∨ x.1 ∈ wrs r ∨ (nAt n rs j≤x.1∧x.1 < r.nx) := fun x hx => by
 rcases C.fp hr x hx with q | q | q
 ·exact Or.inl q
 ·by_cases hrd : x.1 ∈ r.rd
  ·obtain ⟨o,ho,hA⟩ := C.op hr
   exact Or.inl (hA.kp.dn x hx q hrd)
  ·exact Or.inr (Or.inl (mem_wrs.2 ⟨q,hrd⟩))
 ·exact Or.inr (Or.inr q)
theorem RS.up (C : RS S E w0 tm os rs h n a0) {x : HB} {k : Nat} : ∀ (j : Nat),k≤j→j≤rs.length→x ∈ hAt h rs k→(∀ i r,k≤i→i < j→rs[i]? = some r→x.1 ∉ wrs r)→x ∈ hAt h rs j
 | 0,hj,_,hx,_ => by
  have : k=0 := by omega
  rw [this] at hx
  exact hx
 | j+1,hj,hk,hx,hn => by
  by_cases e : k=j+1
  ·rw [← e]
   exact hx
  ·have hr : rs[j]? = some rs[j] := List.getElem?_eq_getElem (by omega)
   rw [Vz hr]
   obtain ⟨o,ho,hA⟩ := C.op hr
   exact hA.kp.up x (C.up j (by omega) (by omega) hx fun i r h1 h2 h3 => hn i r h1 (by omega) h3) (hn j _ (by omega) (by omega) hr)
theorem RS.wh (C : RS S E w0 tm os rs h n a0) {j : Nat} {r : OR} (hr : rs[j]? = some r) : ∀ b ∈ r.wr,∃ x ∈ hAt h rs j,x.1=b := by
 obtain ⟨o,ho,⟨wt,h1,h2,h3⟩,_⟩ := C.op hr
 cases wt with
 | true => exact (h2 rfl).wh
 | false => rw [h3 rfl]; intro b hb; cases hb
theorem RS.mono (C : RS S E w0 tm os rs h n a0) : ∀ (k j : Nat),j≤k→k≤rs.length→nAt n rs j≤nAt n rs k
 | 0,j,hj,_ => by
  have : j=0 := by omega
  rw [this]
  exact Nat.le_refl _
 | k+1,j,hj,hk => by
  by_cases e : j=k+1
  ·rw [e]
   exact Nat.le_refl _
  ·have hr : rs[k]? = some rs[k] := List.getElem?_eq_getElem (by omega)
   rw [Yv hr]
   exact Nat.le_trans (C.mono k j (by omega) (by omega)) (C.le hr)
theorem RS.ids (C : RS S E w0 tm os rs h n a0) : ∀ (k : Nat),k≤rs.length→∀ x ∈ hAt h rs k,x.1 ∈ h.map (·.1) ∨ (n≤x.1∧x.1 < nAt n rs k)
 | 0,_,x,hx => by
  rw [UR] at hx
  exact Or.inl (List.mem_map_of_mem hx)
 | k+1,hk,x,hx => by
  have hr : rs[k]? = some rs[k] := List.getElem?_eq_getElem (by omega)
  rw [Vz hr] at hx
  have hn0 := C.mono k 0 (by omega) (by omega)
  rw [Xt] at hn0
  have hle := C.le hr
  rw [Yv hr]
  rcases C.fp hr x hx with q | q | q
  ·rcases C.ids k (by omega) x q with q | q
   ·exact Or.inl q
   ·exact Or.inr ⟨q.1,by omega⟩
  ·obtain ⟨y,hy,e⟩ := C.wh hr x.1 q
   rcases C.ids k (by omega) y hy with q | q
   ·exact Or.inl (e ▸ q)
   ·rw [e] at q
    exact Or.inr ⟨q.1,by omega⟩
  ·exact Or.inr ⟨by omega,q.2⟩
theorem RS.idlt (C : RS S E w0 tm os rs h n a0) (k : Nat) (hk : k≤rs.length) : ∀ x ∈ hAt h rs k,x.1 < nAt n rs k := fun x hx => by
 have h0 := C.mono k 0 (by omega) hk
 rw [Xt] at h0
 rcases C.ids k hk x hx with q | q
 ·obtain ⟨y,hy,e⟩ := List.mem_map.1 q
  have := C.hlt y hy
  omega
 ·exact q.2
theorem RS.chain (C : RS S E w0 tm os rs h n a0) {x : HB} {j : Nat} : ∀ (k : Nat),j≤k→k≤rs.length→x ∈ hAt h rs k→(∀ i r,j≤i→i < k→rs[i]? = some r→x.1 ∉ wrs r∧¬ (nAt n rs i≤x.1∧x.1 < r.nx))→x ∈ hAt h rs j
 | 0,hj,_,hx,_ => by
  have : j=0 := by omega
  rw [this]
  exact hx
 | k+1,hj,hk,hx,hn => by
  by_cases e : j=k+1
  ·rw [e]
   exact hx
  ·have hr : rs[k]? = some rs[k] := List.getElem?_eq_getElem (by omega)
   rw [Vz hr] at hx
   obtain ⟨n1,n2⟩ := hn k _ (by omega) (by omega) hr
   rcases C.fp2 hr x hx with q | q | q
   ·exact C.chain k (by omega) (by omega) q fun i r h1 h2 h3 => hn i r h1 (by omega) h3
   ·exact absurd q n1
   ·exact absurd q n2
variable {γr : Nat→Option Nat} {wr : World} {γ : Nat→Option Nat} {d : Nat→Prop} {τ : Nat→Value} {w : World}
theorem RI.ahead (C : RS S E w0 tm os rs h n a0) (I : RI S E w0 os rs h n a0 γr wr γ d τ w) {j : Nat} {o : Oper} {r : OR} (ho : os[j]? = some o) (hr : rs[j]? = some r) (hA : At S E w0 tm os rs h n [] 0 j o r)
  (hd : ∀ e ∈ o.after,Region.binds .any e=true→d e.on) (hn : ¬ d j) : ∀ x ∈ hAt h rs j,x.1 ∈ r.rd ∨ x.1 ∈ r.wr→boxOn E S.K γ w x := by
 intro x hx hb
 have hjl : j < rs.length := (List.getElem?_eq_some_iff.1 hr).1
 have hlt : x.1 < nAt n rs j := hb.elim (hA.rd _) (hA.wr _)
 have hb' : x.1 ∈ r.rd ∨ x.1 ∈ wrs r := by
  by_cases q : x.1 ∈ r.rd
  ·exact Or.inl q
  ·exact Or.inr (mem_wrs.2 ⟨hb.resolve_left q,q⟩)
 refine I.box j x (by omega) hx ⟨fun i r' hr' hw => ?_,fun i r' hr' h1 h2 => ?_⟩
 ·rcases Nat.lt_trichotomy i j with hij | hij | hij
  ·refine ⟨fun _ => hij,fun _ => ?_⟩
   refine XI I.dwn (n := 3) (j := i) ?_ hd
   have := orderedB.get C.ord hij ho hr' hr (Ud (b := x.1) (hb'.elim (fun q => Or.inl ⟨hw,q⟩) (fun q => Or.inr (Or.inl ⟨hw,q⟩))))
   rwa [Nat.zero_add] at this
  ·subst hij
   exact ⟨fun q => absurd q hn,fun q => absurd q (Nat.lt_irrefl _)⟩
  ·refine ⟨fun q => ?_,fun q => by omega⟩
   obtain ⟨o',ho',_⟩ := C.op hr'
   have := orderedB.get C.ord hij ho' hr hr' (Ud (b := x.1) (hb'.elim (fun q => Or.inr (Or.inr (Or.inl ⟨q,hw⟩))) (fun q => Or.inr (Or.inl ⟨q,hw⟩))))
   rw [Nat.zero_add] at this
   exact absurd (XI I.dwn this (I.dwn i o' ho' q)) hn
 ·have hij : i < j := by
   refine Nat.lt_of_not_le fun q => ?_
   have := C.mono i j q (by have := (List.getElem?_eq_some_iff.1 hr').1; omega)
   omega
  refine ⟨XI I.dwn (n := 3) (j := i) ?_ hd,hij⟩
  have := orderedB.get C.ord hij ho hr' hr (Ud (b := x.1) (Or.inr (Or.inr (Or.inr ⟨⟨h1,h2⟩,hb⟩))))
  rwa [Nat.zero_add] at this
theorem RI.step (C : RS S E w0 tm os rs h n a0) (I : RI S E w0 os rs h n a0 γr wr γ d τ w) (hf : ∀ b,n≤b→b < nAt n rs rs.length→γr b=none) {j : Nat} {o : Oper} {r : OR} (ho : os[j]? = some o) (hr : rs[j]? = some r) (hA : At S E w0 tm os rs h n [] 0 j o r)
  (hd : ∀ e ∈ o.after,Region.binds .any e=true→d e.on) (hn : ¬ d j) {γ' : Nat→Option Nat} {w' : World} {v : Value} (he : Ef S.nb w0 r.wr (nAt n rs j) r.nx γ w γ' w') (hres : ∀ y,r.res=some y→avOn (cOn E S.K γ' w') y v)
  (hbox : ∀ x ∈ r.h,x.1 ∈ r.wr ∨ (nAt n rs j≤x.1∧x.1 < r.nx)→boxOn E S.K γ' w' x) : RI S E w0 os rs h n a0 γr wr γ' (fun i => i=j ∨ d i) (Ye τ j v) w' := by
 have hjl : j < rs.length := (List.getElem?_eq_some_iff.1 hr).1
 have hn0 := C.mono j 0 (by omega) (by omega)
 rw [Xt] at hn0
 have hnl := C.mono rs.length (j+1) (by omega) (by omega)
 rw [Yv hr] at hnl
 -- ranges
 have apart : ∀ i r',rs[i]? = some r'→i ≠ j→∀ b,nAt n rs i≤b→b < r'.nx→¬ (nAt n rs j≤b∧b < r.nx) := fun i r' hr' hij b h1 h2 ⟨h3,h4⟩ => by
  have hil : i < rs.length := (List.getElem?_eq_some_iff.1 hr').1
  rcases Nat.lt_or_gt_of_ne hij with q | q
  ·have := C.mono j (i+1) (by omega) (by omega)
   rw [Yv hr'] at this
   omega
  ·have := C.mono i (j+1) (by omega) (by omega)
   rw [Yv hr] at this
   omega
 refine ⟨I.ef.trans2 he hn0 hnl fun b hb => ?_,fun i r' hr' hi b h1 h2 => ?_,fun i o' ho' q e hm hb => ?_,fun i o' t ho' ht q => ?_,fun i r' y hr' q hy => ?_,fun k x hk hx hc => ?_⟩
 ·obtain ⟨x,hx,e⟩ := C.wh hr b hb
  rcases C.ids j (by omega) x hx with q | q
  ·exact Or.inl (e ▸ q)
  ·rw [e] at q
   have := C.mono rs.length j (by omega) (by omega)
   exact Or.inr (hf b q.1 (by omega))
 ·have hij : i ≠ j := fun e => hi (Or.inl e)
  rw [he.same b (apart i r' hr' hij b h1 h2)]
  exact I.non i r' hr' (fun q => hi (Or.inr q)) b h1 h2
 ·rcases q with rfl | q
  ·rw [ho] at ho'
   cases ho'
   exact Or.inr (hd e hm hb)
  ·exact Or.inr (I.dwn i o' ho' q e hm hb)
 ·rw [QR _ _ (fun e => q (Or.inl e))]
  exact I.und i o' t ho' ht (fun q' => q (Or.inr q'))
 ·by_cases e : i=j
  ·subst e
   rw [Yw]
   rw [hr] at hr'
   cases hr'
   exact hres y hy
  ·rw [QR _ _ e]
   exact he.av (I.res i r' y hr' (q.resolve_left e) hy)
 ·by_cases hw : x.1 ∈ wrs r ∨ (nAt n rs j≤x.1∧x.1 < r.nx)
  ·have hjk : j < k := by
    rcases hw with hw | hw
    ·exact (hc.1 j r hr hw).1 (Or.inl rfl)
    ·exact (hc.2 j r hr hw.1 hw.2).2
   have hx' : x ∈ hAt h rs (j+1) := C.chain k (by omega) hk hx fun i r' h1 h2 hr' => by
    have hij : i ≠ j := by omega
    obtain ⟨o',ho',hA'⟩ := C.op hr'
    constructor
    ·intro hw'
     have hdi : d i := (((hc.1 i r' hr' hw').2 h2)).resolve_left hij
     have hcf : KU (nAt n rs j) r r'=true := Ud (b := x.1) (hw.elim (fun q => Or.inr (Or.inl ⟨q,hw'⟩)) (fun q => Or.inr (Or.inr (Or.inr ⟨q,Or.inr (mem_wrs.1 hw').1⟩))))
     have := orderedB.get C.ord (by omega : j < i) ho' hr hr' hcf
     rw [Nat.zero_add] at this
     exact hn (XI I.dwn this (I.dwn i o' ho' hdi))
    ·intro hnew
     rcases hw with hw | hw
     ·have := hA.wr _ (mem_wrs.1 hw).1
      have := C.mono i j (by omega) (by have := (List.getElem?_eq_some_iff.1 hr').1; omega)
      omega
     ·exact apart i r' hr' hij _ hnew.1 hnew.2 hw
   rw [Vz hr] at hx'
   exact hbox x hx' (hw.imp (fun q => (mem_wrs.1 q).1) id)
  ·have hw1 : x.1 ∉ wrs r := fun q => hw (Or.inl q)
   by_cases hso : x.1 ∈ r.wr
   ·have hrd : x.1 ∈ r.rd := Classical.byContradiction fun q => hw1 (mem_wrs.2 ⟨hso,q⟩)
    have hx' : x ∈ hAt h rs (j+1) := by
     by_cases hkj : j+1≤k
     ·refine C.chain k hkj hk hx fun i r' h1 h2 hr' => ⟨fun hw' => ?_,fun hnew => ?_⟩
      ·obtain ⟨o',ho',hA'⟩ := C.op hr'
       have hdi : d i := (((hc.1 i r' hr' hw').2 h2)).resolve_left (by omega)
       have := orderedB.get C.ord (by omega : j < i) ho' hr hr' (Ud (b := x.1) (Or.inr (Or.inr (Or.inl ⟨hrd,hw'⟩))))
       rw [Nat.zero_add] at this
       exact hn (XI I.dwn this (I.dwn i o' ho' hdi))
      ·have := hA.wr _ hso
       have := C.mono i j (by omega) (by have := (List.getElem?_eq_some_iff.1 hr').1; omega)
       omega
     ·refine C.up (j+1) (by omega) (by omega) hx fun i r' h1 h2 hr' hw' => ?_
      by_cases hij : i=j
      ·subst hij
       rw [hr] at hr'
       cases hr'
       exact hw1 hw'
      ·have := orderedB.get C.ord (by omega : i < j) ho hr' hr (Ud (b := x.1) (Or.inl ⟨hw',hrd⟩))
       rw [Nat.zero_add] at this
       have := (hc.1 i r' hr' hw').1 (Or.inr (XI I.dwn (n := 3) (j := i) this hd))
       omega
    rw [Vz hr] at hx'
    exact hbox x hx' (Or.inl hso)
   refine he.box I.ef.wi (I.box k x hk hx ⟨fun i r' hr' hb => ?_,fun i r' hr' h1 h2 => ?_⟩) hso
   ·have hij : i ≠ j := fun e => by
     subst e
     rw [hr] at hr'
     cases hr'
     exact hw1 hb
    rw [← hc.1 i r' hr' hb]
    exact ⟨Or.inr,fun q => q.resolve_left hij⟩
   ·have hij : i ≠ j := fun e => by
     subst e
     rw [hr] at hr'
     cases hr'
     exact hw (Or.inr ⟨h1,h2⟩)
    obtain ⟨q1,q2⟩ := hc.2 i r' hr' h1 h2
    exact ⟨q1.resolve_left hij,q2⟩
end
end Cx
/- VE -/
namespace Cx
open Go Go.RowKit
theorem Pm {os : List Oper} {rs : List OR} {j i : Nat} {d : Option Tmp} {q : Option AV} (h : (YR os rs j)[i]? = some (d,q)) : i < j∧∃ o r,os[i]? = some o∧rs[i]? = some r∧o.dst=d∧r.res=q := by
 unfold YR at h
 rw [List.getElem?_map,Option.map_eq_some_iff] at h
 obtain ⟨⟨o,r⟩,h1,h2⟩ := h
 rw [List.getElem?_zip_eq_some] at h1
 obtain ⟨h3,h4⟩ := h1
 have hij : i < j := by
  have := (List.getElem?_eq_some_iff.1 h3).1
  rw [List.length_take] at this
  omega
 rw [List.getElem?_take_of_lt hij] at h3 h4
 cases h2
 exact ⟨hij,o,r,h3,h4,rfl,rfl⟩
theorem LC {os : List Oper} {rs : List OR} {j i : Nat} {o : Oper} {r : OR} (hij : i < j) (ho : os[i]? = some o) (hr : rs[i]? = some r) : (YR os rs j)[i]? = some (o.dst,r.res) := by
 unfold YR
 rw [List.getElem?_map,Option.map_eq_some_iff]
 refine ⟨(o,r),?_,rfl⟩
 rw [List.getElem?_zip_eq_some]
 rw [List.getElem?_take_of_lt hij,List.getElem?_take_of_lt hij]
 exact ⟨ho,hr⟩
section
variable {S : Sx} {E : Ev S.nb} {w0 : World} {tm : List (Nat × AV)} {os : List Oper} {rs : List OR} {h : List HB} {n : Nat} {a0 : Act} {γr : Nat→Option Nat} {wr : World}
theorem RI.init (C : RS S E w0 tm os rs h n a0) (hi : WI w0 γr wr) (hb : ∀ x ∈ h,boxOn E S.K γr wr x) (hf : ∀ b,n≤b→b < nAt n rs rs.length→γr b=none) {w : World} (hw : Below wr.heap.size wr w) :
  RI S E w0 os rs h n a0 γr wr γr (fun _ => False) (ZM a0 os) w where
 ef := Ef.pure hi hw _ _ _ fun b hb' => by
  obtain ⟨x,hx,rfl⟩ := List.mem_map.1 hb'
  exact (hb x hx).live
 non := fun j r hr _ b h1 h2 => by
  have hjl : j < rs.length := (List.getElem?_eq_some_iff.1 hr).1
  have q1 := C.mono j 0 (by omega) (by omega)
  have q2 := C.mono rs.length (j+1) (by omega) (by omega)
  rw [Xt] at q1
  rw [Yv hr] at q2
  exact hf b (by omega) (by omega)
 dwn := fun _ _ _ q => q.elim
 und := fun i o t ho ht _ => by simp [ZM,ho,ht]
 res := fun _ _ _ _ q => q.elim
 box := fun k x hk hx hc => by
  have hx0 := C.chain k (j := 0) (by omega) hk hx fun i r _ hik hr => ⟨fun q => (hc.1 i r hr q).2 hik,fun q => (hc.2 i r hr q.1 q.2).1⟩
  rw [UR] at hx0
  exact (Ef.pure (nb := S.nb) hi hw [] 0 0 XQ).box hi (hb x hx0) (by simp)
variable {γ : Nat→Option Nat} {d : Nat→Prop} {τ : Nat→Value} {w : World}
theorem RI.opd (C : RS S E w0 tm os rs h n a0) (I : RI S E w0 os rs h n a0 γr wr γ d τ w) (htm : ∀ t v,VP t tm=some v→avOn (cOn E S.K γr wr) v (a0.tmps.getD t undef)) {j : Nat} {o : Oper}
  (hd : ∀ e ∈ o.after,Region.binds .any e=true→d e.on) (hn : ¬ d j) (x : Operand) (v : AV) (hx : CJ S.K tm (YR os rs j) j o (os.drop (j+1)) x=some v) : avOn (cOn E S.K γ w) v ((Ql a0 τ 0 os).eval x) := by
 have hbd : ∀ {s : Nat} {o' : Oper} {t : Tmp},os[s]? = some o'→o'.dst=some t→t < a0.tmps.size := fun hs ht => C.bnd _ (List.mem_of_getElem? hs) _ ht
 cases x with
 | const u =>
  unfold CJ at hx
  dsimp only at hx
  rw [ifO_some] at hx
  cases hx.2
  refine Zg ?_
  unfold cOn QM
  exact ⟨rfl,hx.1⟩
 | global g => cases hx
 | func f =>
  unfold CJ at hx
  dsimp only at hx
  rw [Option.map_eq_some_iff] at hx
  obtain ⟨i,h1,rfl⟩ := hx
  obtain ⟨_,hK⟩ := Uh h1
  rw [Nat.sub_zero] at hK
  exact Zg ⟨f,[],[],hK,rfl,trivial⟩
 | tmp t =>
  show avOn (cOn E S.K γ w) v ((Ql a0 τ 0 os).tmps.getD t undef)
  unfold CJ at hx
  dsimp only at hx
  cases hp : Vj t 0 (YR os rs j) with
  | some p =>
   obtain ⟨i,q⟩ := p
   rw [hp] at hx
   dsimp only at hx
   rw [ifO_some] at hx
   obtain ⟨he,rfl⟩ := hx
   obtain ⟨_,h2⟩ := Rn hp
   rw [Nat.sub_zero] at h2
   obtain ⟨hij,o',r',ho',hr',h3,h4⟩ := Pm h2
   rw [JR τ os a0 0 i C.nod (by rw [ho']; exact h3) (hbd ho' h3),Nat.zero_add]
   exact I.res i r' v hr' (Ua he hd) h4
  | none =>
   rw [hp] at hx
   dsimp only at hx
   rw [ifO_some] at hx
   obtain ⟨hl,hg⟩ := hx
   have hold := I.ef.av (htm t v hg)
   by_cases hmem : t ∈ os.filterMap (·.dst)
   ·obtain ⟨o',hm,ht⟩ := List.mem_filterMap.1 hmem
    obtain ⟨s,hs⟩ := List.getElem?_of_mem hm
    have hsn : ¬ d s := by
     rcases Nat.lt_trichotomy s j with q | q | q
     ·obtain ⟨r',hr',_⟩ := C.at hs
      have := LC q hs hr'
      rw [ht] at this
      exact absurd this (RE hp s _)
     ·rw [q]
      exact hn
     ·unfold Lt at hl
      rw [List.all_eq_true] at hl
      have hin : o' ∈ os.drop (j+1) := by
       rw [List.mem_iff_getElem?]
       exact ⟨s - (j+1),by rw [List.getElem?_drop]; rw [show j+1+(s - (j+1))=s by omega]; exact hs⟩
      have := hl o' hin
      rw [ht] at this
      dsimp only at this
      rw [Nat.beq_refl] at this
      intro hds
      exact hn (Ua (by simpa using this) (I.dwn s o' hs hds))
    rw [JR τ os a0 0 s C.nod (by rw [hs]; exact ht) (hbd hs ht),Nat.zero_add,I.und s o' t hs ht hsn]
    exact hold
   ·rw [Uz τ os a0 0 hmem]
    exact hold
theorem Ab {R : Nat→Option Nat} {v : AV} {c : Option Bool} {x : Value} (h : Lf v=some c) (hv : avOn (cOn E S.K R w0) v x) : (match some x with | some (Value.bool b) => some b | _ => none)=c := by
 unfold Lf at h
 split at h
 ·cases h
  obtain ⟨vs,rfl,_⟩ := hv
  rfl
 ·rw [Option.map_eq_some_iff] at h
  obtain ⟨b,hb,rfl⟩ := h
  rw [WZ hb hv]
theorem RI.want (C : RS S E w0 tm os rs h n a0) (I : RI S E w0 os rs h n a0 γr wr γ d τ w) {j : Nat} {o : Oper} {wt : Bool} (hd : ∀ e ∈ o.after,Region.binds .any e=true→d e.on) (hw : Fg (YR os rs j) o=some wt) :
  Region.wanted o (yielded os.toArray (Ql a0 τ 0 os).tmps)=wt := by
 unfold Fg at hw
 unfold Region.wanted
 cases hg : o.guard with
 | none =>
  rw [hg] at hw
  cases hw
  rfl
 | some g =>
  obtain ⟨i,b⟩ := g
  rw [hg] at hw
  dsimp only at hw
  rw [Option.bind_eq_some_iff] at hw
  obtain ⟨⟨dd,q⟩,hp,hw⟩ := hw
  rw [Option.bind_eq_some_iff] at hw
  obtain ⟨v,hq,hw⟩ := hw
  rw [Option.bind_eq_some_iff] at hw
  obtain ⟨c,hc,hw⟩ := hw
  rw [ifO_some,Bool.and_eq_true] at hw
  obtain ⟨⟨he,hs⟩,hwt⟩ := hw
  cases hwt
  dsimp only at hq hs
  subst hq
  obtain ⟨hij,o',r',ho',hr',h3,h4⟩ := Pm hp
  cases dd with
  | none => cases hs
  | some t =>
   have hlt : t < a0.tmps.size := C.bnd _ (List.mem_of_getElem? ho') _ h3
   have hv := Ab hc (I.res i r' v hr' (Ua he hd) h4)
   have hat := JR τ os a0 0 i C.nod (by rw [ho']; exact h3) hlt
   rw [Nat.zero_add] at hat
   have hlt2 : t < (Ql a0 τ 0 os).tmps.size := by rw [XX]; exact hlt
   have YK : (Ql a0 τ 0 os).tmps[t]? = some (τ i) := by
    rw [← hat,Array.getD_eq_getD_getElem?,Array.getElem?_eq_getElem hlt2]
    rfl
   have hy : yielded os.toArray (Ql a0 τ 0 os).tmps i=c := by
    unfold yielded
    rw [List.getElem?_toArray,ho',Option.bind_some,h3,Option.bind_some,YK]
    exact hv
   show (yielded os.toArray (Ql a0 τ 0 os).tmps i == some b)=(c == some b)
   rw [hy]
theorem TT {t u : Nat} : ∀ {l : List (Nat × AV)} {v : AV},VP t (Cu u l)=some v→t ≠ u∧VP t l=some v
 | [],_,q => by cases q
 | (x,y) :: l,v,q => by
  unfold Cu at q
  cases e : Nat.beq u x with
  | true =>
   rw [e] at q
   obtain ⟨h1,h2⟩ := TT (l := l) q
   refine ⟨h1,?_⟩
   rw [Nat.beq_eq] at e
   unfold VP
   have : Nat.beq t x=false := by
    cases hh : Nat.beq t x with
    | false => rfl
    | true => rw [Nat.beq_eq] at hh; omega
   rw [this]
   exact h2
  | false =>
   rw [e] at q
   unfold VP cond at q
   unfold VP
   cases e2 : Nat.beq t x with
   | true =>
    simp only [e2] at q
    cases q
    refine ⟨fun hh => ?_,rfl⟩
    rw [Nat.beq_eq] at e2
    rw [← e2,← hh,Nat.beq_refl] at e
    cases e
   | false =>
    simp only [e2] at q
    exact TT (l := l) q
theorem Fl {R : AC→Value→Prop} : ∀ {os : List Oper} {rs : List OR} {tm : List (Nat × AV)} {a : Act} {τ : Nat→Value} {i : Nat},os.length=rs.length→(∀ o ∈ os,∀ t,o.dst=some t→t < a.tmps.size) →
  (∀ t v,VP t tm=some v→avOn R v (a.tmps.getD t undef))→(∀ j r y,rs[j]? = some r→r.res=some y→avOn R y (τ (i+j)))→∀ t v,VP t (MF tm os rs)=some v→avOn R v ((Ql a τ i os).tmps.getD t undef)
 | [],[],tm,a,τ,i,_,_,htm,_,t,v,q => htm t v q
 | [],_ :: _,_,_,_,_,hl,_,_,_,_,_,_ => by simp at hl
 | _ :: _,[],_,_,_,_,hl,_,_,_,_,_,_ => by simp at hl
 | o :: os,r :: rs,tm,a,τ,i,hl,hb,htm,hr,t,v,q => by
  show avOn R v ((Ql (a.put o.dst (τ i)) τ (i+1) os).tmps.getD t undef)
  refine Fl (rs := rs) (by simpa using hl) (fun o' ho' t' ht' => ?_) (fun t' v' q' => ?_) (fun j r' y hr' hy => ?_) t v q
  ·have := hb o' (List.mem_cons_of_mem _ ho') t' ht'
   cases o.dst <;> simpa [Act.put] using this
  ·cases hd : o.dst with
   | none =>
    rw [hd] at q'
    exact htm t' v' q'
   | some u =>
    rw [hd] at q'
    have hlt := hb o List.mem_cons_self u hd
    have old : VP t' (Cu u tm)=some v'→avOn R v' ((a.put (some u) (τ i)).tmps.getD t' undef) := fun q2 => by
     obtain ⟨h1,h2⟩ := TT q2
     rw [Tl _ _ (by intro e; cases e; exact h1 rfl)]
     exact htm t' v' h2
    cases hres : r.res with
    | none =>
     rw [hres] at q'
     exact old q'
    | some y =>
     rw [hres] at q'
     dsimp only at q'
     unfold VP at q'
     cases e : Nat.beq t' u with
     | true =>
      rw [e] at q'
      cases q'
      rw [Nat.beq_eq] at e
      subst e
      rw [TM _ _ hlt]
      exact hr 0 r _ rfl hres
     | false =>
      rw [e] at q'
      exact old q'
  ·have := hr (j+1) r' y (by simpa using hr') hy
   rwa [show i+(j+1)=i+1+j by omega] at this
theorem LV (h : List HB) (rs : List OR) : hAt h rs rs.length=WM h rs := by simp [hAt]
theorem LN (n : Nat) (rs : List OR) : nAt n rs rs.length=VX n rs := by simp [nAt]
theorem So {id : Nat} {dr : Bool} {Q : Exit→Act→World→Prop} (hm : S.P.follows .mixedOrders=true) (ht : topoOps 0 os=true) (C : RS S E w0 tm os rs h n a0) (hi : WI w0 γr wr)
  (htm : ∀ t v,VP t tm=some v→avOn (cOn E S.K γr wr) v (a0.tmps.getD t undef)) (hb : ∀ x ∈ h,boxOn E S.K γr wr x) (hf : ∀ b,n≤b→b < VX n rs→γr b=none)
  (hQ : ∀ a w γ,Ef S.nb w0 (h.map (·.1)) n (VX n rs) γr wr γ w→(∀ t v,VP t (MF tm os rs)=some v→avOn (cOn E S.K γ w) v (a.tmps.getD t undef))→(∀ x ∈ WM h rs,boxOn E S.K γ w x) →
   a.tmps.size=a0.tmps.size→a.defers=a0.defers→Q .normal a w) : (Code.region id os.toArray dr).wp S.P Q a0 wr := by
 rw [← LN] at hf hQ
 have hsteps : OpSteps S.P Q os a0 (fun d τ w => ∃ γ,RI S E w0 os rs h n a0 γr wr γ d τ w) 0 os := by
  have key : ∀ (os' : List Oper) (i : Nat),(∀ k,os'[k]? = os[i+k]?)→OpSteps S.P Q os a0 (fun d τ w => ∃ γ,RI S E w0 os rs h n a0 γr wr γ d τ w) i os' := by
   intro os'
   induction os' with
   | nil => exact fun _ _ => OpSteps.nil
   | cons o os' ih =>
    intro i hk
    refine OpSteps.cons ?_ (ih (i+1) fun k => by have := hk (k+1); simp at this; rw [this]; congr 1; omega)
    have ho : os[i]? = some o := by have := hk 0; simpa using this.symm
    obtain ⟨r,hr,hA⟩ := C.at ho
    intro d τ w hd hn ⟨γ,I⟩ K hK
    obtain ⟨wt,h1,h2,h3⟩ := hA.wt
    rw [List.nil_append] at h1 h2
    rw [Nat.zero_add] at h2
    have hwant := I.want C hd h1
    have hil : i < rs.length := (List.getElem?_eq_some_iff.1 hr).1
    cases wt with
    | true =>
     rw [if_pos hwant]
     refine (h2 rfl).run γ w (Ql a0 τ 0 os) Q I.ef.wi (I.opd C htm hd hn) (I.ahead C ho hr hA hd hn) (fun b q1 q2 => I.non i r hr hn b q1 q2) (C.idlt i (by omega)) K fun v w' γ' he hres hbox => ?_
     exact hK v w' ⟨γ',I.step C hf ho hr hA hd hn he hres hbox⟩
    | false =>
     rw [if_neg (by rw [hwant]; simp)]
     have e := h3 rfl
     refine hK undef w ⟨γ,I.step C hf ho hr hA hd hn (γ' := γ) (w' := w) ?_ ?_ ?_⟩
     ·rw [e]
      exact Ef.refl I.ef.wi _ _ XQ
     ·rw [e]
      intro y hy
      cases hy
      exact ⟨[],rfl,trivial⟩
     ·rw [e]
      intro x hx hw
      rcases hw with hw | hw
      ·cases hw
      ·have : (Le (hAt h rs i) (nAt n rs i)).nx=nAt n rs i := rfl
       omega
  exact key os 0 (fun k => by rw [Nat.zero_add])
 refine Oj (fun d τ w => ∃ γ,RI S E w0 os rs h n a0 γr wr γ d τ w) hm C.nod ht ⟨γr,RI.init C hi hb hf (Below.drew (Below.refl _ _))⟩ ⟨γr,RI.init C hi hb hf (Below.refl _ _)⟩ hsteps ?_
 rintro d τ w hall ⟨γ,I⟩
 have hlen := C.lay.len
 refine hQ _ w γ I.ef ?_ ?_ (XX _ _ _ _) (Vl _ _ _ _)
 ·refine Fl (τ := τ) (i := 0) hlen.symm C.bnd (fun t v q => I.ef.av (htm t v q)) fun j r y hr hy => ?_
  rw [Nat.zero_add]
  exact I.res j r y hr (hall j (by have := (List.getElem?_eq_some_iff.1 hr).1; omega)) hy
 ·intro x hx
  rw [← LV] at hx
  refine I.box rs.length x (Nat.le_refl _) hx ⟨fun i r hr _ => ?_,fun i r hr _ _ => ?_⟩
  ·have := (List.getElem?_eq_some_iff.1 hr).1
   exact ⟨fun _ => this,fun _ => hall i (by omega)⟩
  ·have := (List.getElem?_eq_some_iff.1 hr).1
   exact ⟨hall i (by omega),this⟩
end
end Cx
/- VF -/
namespace Cx
open Go Go.RowKit
theorem ZF {P : Program} {X : Sem Value} {v : Value} {w w' : World} (h : X.run P w=.ok v w') : (do pure (Next.value (← X)) : Sem Next).run P w=.ok (.value v) w' := by
 rw [Sem.run_bind,h]
 rfl
theorem Lb {P : Program} {X : Sem Unit} {w w' : World} (h : X.run P w=.ok () w') : (do X; pure Next.skip : Sem Next).run P w=.ok .skip w' := by
 rw [Sem.run_bind,h]
 rfl
theorem Yj (G o i : Nat) : (⟨G,o,none⟩ : Addr).add i=⟨G,o+i,none⟩ := by
 unfold Addr.add
 split
 ·rename_i h
  subst h
  rfl
 ·rfl
theorem add_add (ad : Addr) (i j : Nat) : (ad.add i).add j=ad.add (i+j) := by
 unfold Addr.add
 by_cases h1 : i=0
 ·subst h1
  simp
 ·by_cases h2 : j=0
  ·subst h2
   simp
  ·rw [if_neg h1,if_neg h2,if_neg (by omega)]
   simp [Nat.add_assoc]
theorem add_block (ad : Addr) (i : Nat) : (ad.add i).block=ad.block := by
 unfold Addr.add
 split <;> rfl
def Nr (K : List (FuncId × List AC)) (σ : Nat→ByteArray) (w0 : World) : Prop := ∀ (a : Nat) (f : FuncId) (ad : Addr) (n m t N : Nat),K[a]? = some (f,[.inl (.slice (some ad) n m),.inl (.int .i64 (.ofNat t)),.inl (.int .i64 (.ofNat N))])→ad.block < w0.heap.size∧∀ i,i < N→w0.cell? (ad.add i)=some (.string (σ (t+i)))
theorem Qs {P : Program} {t : TypeId} {d : TypeDesc} (h : P.underlying t=some d) (w : World) : (underlying t).run P w=.ok d w := by
 unfold underlying
 simp [go_sem,h]
theorem IP {P : Program} {t : TypeId} {b : Bool} (h : DJ P t=some b) (w : World) : (isAgg t).run P w=.ok b w := by
 unfold DJ at h
 rw [Option.map_eq_some_iff] at h
 obtain ⟨d,h1,h2⟩ := h
 unfold isAgg
 rw [Sem.run_bind,Qs h1]
 cases d <;> first | (cases h2; rfl)
theorem Zc {P : Program} {t : TypeId} {n : Nat} (h : Zn P t=some n) (w : World) : (Go.sizeOf t).run P w=.ok n w := by
 unfold Zn at h
 rw [Option.map_eq_some_iff] at h
 obtain ⟨i,h1,h2⟩ := h
 subst h2
 unfold Go.sizeOf typeInfo
 simp [go_sem,h1]
theorem Uy {P : Program} {t : TypeId} {fs : List Field} (h : Vb P t=some fs) : P.underlying t=some (.struct fs.toArray) := by
 unfold Vb at h
 rw [Option.bind_eq_some_iff] at h
 obtain ⟨d,h1,h2⟩ := h
 cases d <;> cases h2
 exact h1
theorem Yh {P : Program} {t : TypeId} {a : Nat × TypeId} (h : Yy P t=some a) : P.underlying t=some (.array a.1 a.2) := by
 unfold Yy at h
 rw [Option.bind_eq_some_iff] at h
 obtain ⟨d,h1,h2⟩ := h
 cases d <;> cases h2
 exact h1
theorem QU {P : Program} {t e : TypeId} (h : ZJ P t=some e) : P.underlying t=some (.slice e) := by
 unfold ZJ at h
 rw [Option.bind_eq_some_iff] at h
 obtain ⟨d,h1,h2⟩ := h
 cases d <;> cases h2
 exact h1
theorem Bk.cell {w : World} {G : Nat} {vs : List Value} {t : TypeId} (h : Bk w G vs t) (j : Nat) : w.cell? ⟨G,j,none⟩=vs[j]? := by
 unfold Bk at h
 simp [World.cell?,h]
theorem Bk.frozen {w : World} {G : Nat} {vs : List Value} {t : TypeId} (h : Bk w G vs t) (j : Nat) : w.frozen? ⟨G,j,none⟩=false := by
 unfold Bk at h
 simp [World.frozen?,h]
theorem MH {P : Program} {w : World} {G : Nat} {vs : List Value} {t : TypeId} {j : Nat} {v : Value} (h : Bk w G vs t) (hv : vs[j]? = some v) : (load ⟨G,j,none⟩).run P w=.ok v w := by
 have := h.cell j
 rw [hv] at this
 simp [this]
theorem WS {P : Program} {w : World} {G o : Nat} {vs : List Value} {t : TypeId} (h : Bk w G vs t) : ∀ (n i : Nat) (acc : Array Value),o+i+n≤vs.length→(loadCellsFrom ⟨G,o,none⟩ i n acc).run P w=.ok (acc ++ ((vs.drop (o+i)).take n).toArray) w
 | 0,i,acc,_ => by simp [loadCellsFrom,go_sem]
 | n+1,i,acc,hl => by
  have hlt : o+i < vs.length := by omega
  unfold loadCellsFrom
  rw [Sem.run_bind,Yj,MH h (List.getElem?_eq_getElem hlt)]
  show (loadCellsFrom ⟨G,o,none⟩ (i+1) n (acc.push vs[o+i])).run P w=_
  rw [WS h n (i+1) _ (by omega)]
  congr 1
  rw [List.drop_eq_getElem_cons hlt,List.take_succ_cons]
  apply Array.ext'
  simp [Nat.add_assoc]
section
variable {S : Sx} {E : Ev S.nb} {w0 : World} {γ : Nat→Option Nat} {w : World} {h : List HB} {nx : Nat} {ρ : Operand→Option AV} {o : Oper}
theorem Dm {R : AC→Value→Prop} {P : Program} {t : TypeId} {cs : List AC} {off : Nat} {v : AV} {vs : List Value} (hp : Vd P t cs off=some v) (hc : A2 R cs vs) :
  ∃ b n,DJ P t=some b∧Zn P t=some n∧((b=true∧off+n≤vs.length∧avOn R v (.agg ((vs.drop off).take n).toArray)) ∨ (b=false∧∃ x,vs[off]? = some x∧avOn R v x)) := by
 unfold Vd at hp
 rw [Option.bind_eq_some_iff] at hp
 obtain ⟨b,h1,hp⟩ := hp
 rw [Option.bind_eq_some_iff] at hp
 obtain ⟨n,h2,hp⟩ := hp
 refine ⟨b,n,h1,h2,?_⟩
 cases b with
 | true =>
  left
  simp only [cond_true] at hp
  rw [ifO_some,Nat.ble_eq] at hp
  obtain ⟨h3,h4⟩ := hp
  cases h4
  exact ⟨rfl,by rw [hc.len]; exact h3,Mw ((hc.drop off).take n)⟩
 | false =>
  right
  simp only [cond_false] at hp
  rw [Option.map_eq_some_iff] at hp
  obtain ⟨c,h3,h4⟩ := hp
  cases h4
  obtain ⟨x,hx,hR⟩ := hc.get h3
  exact ⟨rfl,x,hx,Zg hR⟩
theorem Ri {R : AC→Value→Prop} {P : Program} {t t' : TypeId} {cs : List AC} {G off : Nat} {v : AV} {vs us : List Value} (hk : Bk w G (vs ++ us) t') (hp : Vd P t cs off=some v) (hc : A2 R cs vs) : ∃ x,(loadVar t ⟨G,off,none⟩).run P w=.ok x w∧avOn R v x := by
 obtain ⟨b,n,h1,h2,h3⟩ := Dm hp hc
 unfold loadVar
 rw [Sem.run_bind,IP h1]
 rcases h3 with ⟨rfl,h4,h5⟩ | ⟨rfl,x,h4,h5⟩
 ·refine ⟨_,?_,h5⟩
  show ((if true=true then (do let n ← Go.sizeOf t; let c ← loadCells ⟨G,off,none⟩ n; pure (Value.agg c)) else load ⟨G,off,none⟩ : Sem Value)).run P w=_
  rw [if_pos rfl,Sem.run_bind,Zc h2]
  show (do let c ← loadCells ⟨G,off,none⟩ n; pure (Value.agg c) : Sem Value).run P w=_
  rw [Sem.run_bind]
  unfold loadCells
  rw [WS hk n 0 #[] (by rw [List.length_append]; omega)]
  show Result.ok _ _=_
  have e : ((vs ++ us).drop off).take n=(vs.drop off).take n := by
   rw [List.drop_append_of_le_length (by omega),List.take_append_of_le_length (by rw [List.length_drop]; omega)]
  simp [e]
 ·exact ⟨x,MH hk (by rw [List.getElem?_append_left (List.getElem?_eq_some_iff.1 h4).1]; exact h4),h5⟩
theorem Dl {R : AC→Value→Prop} {P : Program} {t : TypeId} {cs : List AC} {ad : Addr} {off : Nat} {v : AV} {vs : List Value} (hk : ∀ (i : Nat) u,vs[i]? = some u→w.cell? (ad.add i)=some u) (hp : Vd P t cs off=some v) (hc : A2 R cs vs) : ∃ x,(loadVar t (ad.add off)).run P w=.ok x w∧avOn R v x := by
 obtain ⟨b,n,h1,h2,h3⟩ := Dm hp hc
 unfold loadVar
 rw [Sem.run_bind,IP h1]
 rcases h3 with ⟨rfl,h4,h5⟩ | ⟨rfl,x,h4,h5⟩
 ·refine ⟨_,?_,h5⟩
  show ((if true=true then (do let n ← Go.sizeOf t; let c ← loadCells (ad.add off) n; pure (Value.agg c)) else load (ad.add off) : Sem Value)).run P w=_
  rw [if_pos rfl,Sem.run_bind,Zc h2]
  show (do let c ← loadCells (ad.add off) n; pure (Value.agg c) : Sem Value).run P w=_
  rw [Sem.run_bind]
  have hl : ((vs.drop off).take n).length=n := by rw [List.length_take,List.length_drop]; omega
  have := run_loadCells_list (P := P) (w := w) (ad.add off) ((vs.drop off).take n) (fun j u hj => by
   rw [add_add]
   have hj' : vs[off+j]? = some u := by
    rw [List.getElem?_take] at hj
    split at hj
    ·rw [List.getElem?_drop] at hj
     exact hj
    ·cases hj
   exact hk _ _ hj')
  rw [hl] at this
  rw [this]
  rfl
 ·refine ⟨x,?_,h5⟩
  have := hk _ _ h4
  show (load (ad.add off)).run P w=_
  simp [this]
theorem FZ {R : AC→Value→Prop} {P : Program} {t : TypeId} {cs : List AC} {off : Nat} {v : AV} {vs : List Value} (hp : Vd P t cs off=some v) (hc : A2 R cs vs) : ∃ x,(part t vs.toArray off).run P w=.ok x w∧avOn R v x := by
 obtain ⟨b,n,h1,h2,h3⟩ := Dm hp hc
 unfold part
 rw [Sem.run_bind,IP h1]
 rcases h3 with ⟨rfl,h4,h5⟩ | ⟨rfl,x,h4,h5⟩
 ·refine ⟨_,?_,h5⟩
  show ((if true = true then (do let n ← Go.sizeOf t; pure (Value.agg (vs.toArray.extract off (off + n)))) else (match vs.toArray[off]? with | some v => pure v | none => stuck "part: no such cell") : Sem Value)).run P w = _
  rw [if_pos rfl,Sem.run_bind,Zc h2]
  show Result.ok _ _=_
  simp [List.take_drop]
 ·refine ⟨x,?_,h5⟩
  have : vs.toArray[off]? = some x := by simpa using h4
  show (match vs.toArray[off]? with | some v => (pure v : Sem Value) | none => stuck "part: no such cell").run P w = _
  rw [this]
  rfl
theorem Bk.set {w : World} {G : Nat} {vs : List Value} {t : TypeId} (h : Bk w G vs t) (j : Nat) (v : Value) : Bk (w.setCell ⟨G,j,none⟩ v) G (vs.set j v) t := by
 unfold Bk at h ⊢
 have hlt := (Array.getElem?_eq_some_iff.1 h).1
 simp only [World.setCell,Array.getElem?_modify,if_true,h]
 simp
theorem Gb {w : World} {G G' j : Nat} (v : Value) (hne : G' ≠ G) : (w.setCell ⟨G,j,none⟩ v).heap[G']? = w.heap[G']? := by
 simp [World.setCell,Array.getElem?_modify,Ne.symm hne]
theorem DB (w : World) (a : Addr) (v : Value) : (w.setCell a v).heap.size=w.heap.size := by
 simp [World.setCell]
structure Sav (G : Nat) (w w' : World) : Prop where
 os : w'.os=w.os
 tape : w'.tape=w.tape
 output : w'.output=w.output
 size : w'.heap.size=w.heap.size
 block : ∀ k,k ≠ G→w'.heap[k]? = w.heap[k]?
theorem Sav.refl (G : Nat) (w : World) : Sav G w w := ⟨rfl,rfl,rfl,rfl,fun _ _ => rfl⟩
theorem JO {P : Program} {G o : Nat} {t : TypeId} : ∀ (ds : List Value) (i : Nat) (w : World) (vs : List Value),Bk w G vs t→(∀ d ∈ ds,okV d=true)→o+i+ds.length≤vs.length →
  ∃ w',(storeCells ⟨G,o,none⟩ ds i).run P w=.ok () w'∧Bk w' G (vs.take (o+i) ++ (ds ++ vs.drop (o+i+ds.length))) t∧Sav G w w'
 | [],i,w,vs,hk,_,_ => ⟨w,rfl,by simpa using hk,Sav.refl _ _⟩
 | d :: ds,i,w,vs,hk,hd,hl => by
  have hlt : o+i < vs.length := by simp at hl; omega
  obtain ⟨w',h1,h2,h3⟩ := JO (P := P) (o := o) ds (i+1) (w.setCell ⟨G,o+i,none⟩ d) (vs.set (o+i) d) (hk.set _ _) (fun x hx => hd x (List.mem_cons_of_mem _ hx)) (by rw [List.length_set]; rw [List.length_cons] at hl; omega)
  refine ⟨w',?_,?_,⟨h3.os.trans rfl,h3.tape.trans rfl,h3.output.trans rfl,h3.size.trans (DB _ _ _),fun k hk => (h3.block k hk).trans (Gb d hk)⟩⟩
  ·unfold storeCells
   have hst : (store ⟨G,o+i,none⟩ d).run P w=.ok () (w.setCell ⟨G,o+i,none⟩ d) := by
    have hone : d.oneCell'=true := by
     have := hd d List.mem_cons_self
     unfold okV at this
     exact (Bool.and_eq_true _ _ ▸ this).2
    rw [run_store P w _ d _ hone,hk.cell,List.getElem?_eq_getElem hlt]
    simp [hk.frozen]
   rw [Sem.run_bind,Yj,hst]
   exact h1
  ·have e : (vs.set (o+i) d).take (o+(i+1)) ++ (ds ++ (vs.set (o+i) d).drop (o+(i+1)+ds.length))=vs.take (o+i) ++ (d :: ds ++ vs.drop (o+i+(d :: ds).length)) := by
    rw [List.drop_set_of_lt (by omega),show o+(i+1)=o+i+1 by omega,List.take_add_one,List.take_set_of_le (by omega)]
    simp [hlt,Nat.add_assoc,Nat.add_comm 1]
   rw [← e]
   exact h2
end
end Cx
/- VG -/
namespace Cx
open Go Go.RowKit
section
variable {S : Sx} {E : Ev S.nb} {w0 : World} {h : List HB} {nx : Nat} {ρ : Operand→Option AV} {o : Oper}
theorem OpOk.pure {y : AV} (hr : ∀ (γ : Nat→Option Nat) (w : World) (a : Act),(∀ x v,ρ x=some v→avOn (cOn E S.K γ w) v (a.eval x))→∃ v,(execOp a.eval o).run S.P w=.ok (.value v) w∧avOn (cOn E S.K γ w) y v) : OpOk S E w0 h nx ρ o (QN h nx y) where
 le := Nat.le_refl _
 wh := fun b hb => by cases hb
 fp := fun x hx => Or.inl hx
 run := fun γ w a Q hi hρ _ _ _ K hK => by
  obtain ⟨v,e,hv⟩ := hr γ w a hρ
  unfold Oper.wp
  rw [e]
  refine hK v w γ (Ef.refl hi _ _ XQ) (fun y' hy => ?_) fun x hx hw => ?_
  ·cases hy
   exact hv
  ·rcases hw with hw | hw
   ·cases hw
   ·have : (QN h nx y).nx=nx := rfl
    omega
theorem OpOk.calm {y : AV} (hr : ∀ (γ : Nat→Option Nat) (w : World) (a : Act),(∀ x v,ρ x=some v→avOn (cOn E S.K γ w) v (a.eval x))→∃ v w',(execOp a.eval o).run S.P w=.ok (.value v) w'∧Below w.heap.size w w'∧avOn (cOn E S.K γ w') y v) : OpOk S E w0 h nx ρ o (QN h nx y) where
 le := Nat.le_refl _
 wh := fun b hb => by cases hb
 fp := fun x hx => Or.inl hx
 run := fun γ w a Q hi hρ _ _ _ K hK => by
  obtain ⟨v,w',e,hb,hv⟩ := hr γ w a hρ
  unfold Oper.wp
  rw [e]
  refine hK v w' γ (Ef.pure hi hb _ _ _ XQ) (fun y' hy => ?_) fun x hx hw => ?_
  ·cases hy
   exact hv
  ·rcases hw with hw | hw
   ·cases hw
   ·have : (QN h nx y).nx=nx := rfl
    omega
theorem MA {x : Operand} {r : OR} (hop : o.op=.move x ∨ o.op=.assign x) (hr : (ρ x).map (QN h nx)=some r) : OpOk S E w0 h nx ρ o r := by
 rw [Option.map_eq_some_iff] at hr
 obtain ⟨v,h1,rfl⟩ := hr
 refine OpOk.pure fun γ w a hρ => ⟨_,?_,hρ x v h1⟩
 unfold execOp
 rcases hop with e | e <;> rw [e] <;> rfl
theorem AO {c x y : Operand} {r : OR} (hop : o.op=.pick c x y) (hr : ((ρ c).bind fun v => (asB v).bind fun t => (ρ (bif t then x else y)).map (QN h nx))=some r) : OpOk S E w0 h nx ρ o r := by
 simp only [Option.bind_eq_some_iff,Option.map_eq_some_iff] at hr
 obtain ⟨v,h1,t,h2,u,h3,rfl⟩ := hr
 refine OpOk.pure fun γ w a hρ => ⟨_,?_,hρ _ u h3⟩
 have hc := WZ h2 (hρ c v h1)
 unfold execOp
 rw [hop]
 simp only [hc]
 cases t <;> rfl
theorem Sk {x : Operand} {r : OR} (hop : o.op=.nilCheck x) (hr : ((ρ x).bind fun v => (asP v).map fun _ => QN h nx v)=some r) : OpOk S E w0 h nx ρ o r := by
 simp only [Option.bind_eq_some_iff,Option.map_eq_some_iff] at hr
 obtain ⟨v,h1,p,h2,rfl⟩ := hr
 refine OpOk.pure fun γ w a hρ => ⟨a.eval x,?_,hρ x v h1⟩
 obtain ⟨G,_,e⟩ := Oo h2 (hρ x v h1)
 unfold execOp
 rw [hop]
 simp only [e]
 rfl
theorem CM {t : TypeId} {x : Operand} {r : OR} (hop : o.op=.sliceToArrayPointer t x) (hr : ((Yy S.P t).bind fun n => (ρ x).bind fun v => ((asC v).bind acR).bind fun p => ifO (Nat.ble n.1 p.2.2) (some (QN h nx (v1 (ptr p.1 p.2.1)))))=some r) : OpOk S E w0 h nx ρ o r := by
 simp only [Option.bind_eq_some_iff,ifO_some,Nat.ble_eq] at hr
 obtain ⟨n,h1,v,h2,p,⟨c,h3,h4⟩,h5,e⟩ := hr
 cases e
 refine OpOk.pure fun γ w a hρ => ?_
 obtain ⟨G,cap,hG,ex⟩ := II h4 (Za h3 (hρ x v h2))
 refine ⟨.pointer (some ⟨G,p.2.1,none⟩),?_,Zg ⟨G,hG,rfl⟩⟩
 unfold execOp
 rw [hop]
 simp only [ex]
 refine ZF ?_
 unfold Instr.arrayAt
 rw [Sem.run_bind,Qs (Yh h1)]
 simp [Nat.not_lt.2 h5]
theorem SZ {x : Operand} {k : Nat} {r : OR} (hop : o.op=.extract x k) (hr : ((ρ x).bind fun v => (asT v).bind fun vs => vs[k]?.map fun y => QN h nx (false,[y]))=some r) : OpOk S E w0 h nx ρ o r := by
 simp only [Option.bind_eq_some_iff,Option.map_eq_some_iff] at hr
 obtain ⟨v,h1,vs,h2,y,h3,rfl⟩ := hr
 refine OpOk.pure fun γ w a hρ => ?_
 obtain ⟨us,e,hA⟩ := asT_on h2 (hρ x v h1)
 obtain ⟨u,hu,hy⟩ := hA.get h3
 refine ⟨u,?_,hy,trivial⟩
 unfold execOp
 rw [hop]
 simp only [e,Instr.extract,List.getElem?_toArray,hu]
 rfl
theorem op_not {t : TypeId} {x : Operand} {r : OR} (hop : o.op=.unOp .not t x) (hr : ((ρ x).bind fun v => (asB v).map fun t => QN h nx (kB (!t)))=some r) : OpOk S E w0 h nx ρ o r := by
 simp only [Option.bind_eq_some_iff,Option.map_eq_some_iff] at hr
 obtain ⟨v,h1,b,h2,rfl⟩ := hr
 refine OpOk.pure fun γ w a hρ => ⟨.bool (!b),?_,Zg ⟨rfl,rfl⟩⟩
 have hc := WZ h2 (hρ x v h1)
 unfold execOp
 rw [hop]
 simp only [hc]
 rfl
theorem wrap_i64 {z : Int} (h : WU z=true) : IntKind.i64.wrap z=z := by
 unfold WU at h
 simp only [Bool.and_eq_true,decide_eq_true_eq] at h
 unfold IntKind.wrap
 simp only [IntKind.bits,IntKind.signed,show (2 : Int) ^ 64=18446744073709551616 from rfl,show (2 : Int) ^ (64 - 1)=9223372036854775808 from rfl,decide_eq_true_eq,Bool.true_and,ge_iff_le]
 split <;> omega
theorem op_neg {t : TypeId} {x : Operand} {r : OR} (hop : o.op=.unOp .neg t x) (hr : ((ρ x).bind fun v => (asI v).bind fun z => ifO (WU (-z)) (some (QN h nx (kI (-z)))))=some r) : OpOk S E w0 h nx ρ o r := by
 simp only [Option.bind_eq_some_iff,ifO_some] at hr
 obtain ⟨v,h1,z,h2,h3,e⟩ := hr
 cases e
 refine OpOk.pure fun γ w a hρ => ⟨.int .i64 (-z),?_,Zg ⟨rfl,rfl⟩⟩
 have hc := YO h2 (hρ x v h1)
 unfold execOp
 rw [hop]
 simp only [hc]
 refine ZF ?_
 show (Op.intArith .sub .i64 0 z).run S.P w=_
 simp [go_sem,wrap_i64 h3]
theorem Do {t : TypeId} {x : Operand} {f : Nat} {r : OR} (hop : o.op=.fieldAddr t x f) (hr : ((Vb S.P t).bind fun fs => (ρ x).bind fun v => (asP v).bind fun p => fs[f]?.bind fun g => (Zn S.P g.type).bind fun n =>
   ifO (Nat.blt 0 n) (some (QN h nx (v1 (ptr p.1 (p.2+g.offset))))))=some r) : OpOk S E w0 h nx ρ o r := by
 simp only [Option.bind_eq_some_iff,ifO_some] at hr
 obtain ⟨fs,h1,v,h2,p,h3,g,h4,n,h5,h6,e⟩ := hr
 cases e
 refine OpOk.pure fun γ w a hρ => ?_
 obtain ⟨G,hG,hx⟩ := Oo h3 (hρ x v h2)
 refine ⟨.pointer (some ⟨G,p.2+g.offset,none⟩),?_,Zg ⟨G,hG,rfl⟩⟩
 unfold execOp
 rw [hop]
 refine ZF ?_
 rw [hx]
 unfold Instr.fieldAt
 rw [Sem.run_bind,Qs (Uy h1)]
 have hfs : fs.toArray[f]? = some g := by simpa using h4
 have hn : ¬ n=0 := by
  intro e
  rw [e] at h6
  cases h6
 show (match fs.toArray[f]? with | some f => (do let a ← Instr.sureAddr (.pointer (some ⟨G, p.2, none⟩)); pure (Value.pointer (some (← fieldPlace a f))) : Sem Value) | x => stuck "fieldAddr: no such field").run S.P w = _
 rw [hfs]
 show (do let q ← fieldPlace ⟨G,p.2,none⟩ g; pure (Value.pointer (some q)) : Sem Value).run S.P w=_
 unfold fieldPlace
 rw [Sem.run_bind,Sem.run_bind,Zc h5]
 show ((if n=0 then partAt ⟨G,p.2,none⟩ g.offset g.byteOffset else pure ((⟨G,p.2,none⟩ : Addr).add g.offset) : Sem Addr).run S.P w).andThen _=_
 rw [if_neg hn,Yj]
 rfl
theorem Ha {t : TypeId} {x : Operand} {f : Nat} {r : OR} (hop : o.op=.field t x f) (hr : ((Vb S.P t).bind fun fs => (ρ x).bind fun v => (asA v).bind fun cs => fs[f]?.bind fun g => (Vd S.P g.type cs g.offset).map (QN h nx))=some r) : OpOk S E w0 h nx ρ o r := by
 simp only [Option.bind_eq_some_iff,Option.map_eq_some_iff] at hr
 obtain ⟨fs,h1,v,h2,cs,h3,g,h4,u,h5,rfl⟩ := hr
 refine OpOk.pure fun γ w a hρ => ?_
 obtain ⟨vs,e,hA⟩ := Om h3 (hρ x v h2)
 obtain ⟨z,hz,hu⟩ := FZ (w := w) h5 hA
 refine ⟨z,?_,hu⟩
 unfold execOp
 rw [hop]
 refine ZF ?_
 rw [e]
 unfold Instr.field
 rw [Sem.run_bind,Qs (Uy h1)]
 have hfs : fs.toArray[f]? = some g := by simpa using h4
 show (match fs.toArray[f]? with | some f => (do part f.type (← asAgg (.agg vs.toArray)) f.offset : Sem Value) | none => stuck "Field: no such field").run S.P w = _
 rw [hfs]
 exact hz
theorem ofNat_lt {k n : Nat} (h : Nat.blt k n=true) : (0 : Int)≤(k : Int)∧(k : Int) < (n : Int) := by
 have : k < n := by simpa [Nat.blt_eq] using h
 omega
theorem Og {P : Program} {t : TypeId} {n : Nat} (h : Zn P t=some n) : ∃ i,P.info? t=some i∧i.size=n := by
 unfold Zn at h
 rw [Option.map_eq_some_iff] at h
 exact h
theorem Pt {t : TypeId} {x i : Operand} {r : OR} (hop : o.op=.indexAddr t x i) (hr : ((ρ x).bind fun v => (ρ i).bind fun u => (asN u).bind fun k => match Yy S.P t with
  | some (n,e) => (asP v).bind fun p => (Zn S.P e).bind fun z => ifO (Nat.blt k n) (some (QN h nx (v1 (ptr p.1 (p.2+k*z)))))
  | none => (ZJ S.P t).bind fun e => (Zn S.P e).bind fun z => match (asC v).bind acH with
   | some p => ifO (Nat.blt k p.2.2) (some (QN h nx (v1 (.inr (9,p.1,p.2.1+k*z,0,0)))))
   | none => (asR v).bind fun p => ifO (Nat.blt k p.2.2) (some (QN h nx (v1 (ptr p.1 (p.2.1+k*z))))))=some r) : OpOk S E w0 h nx ρ o r := by
 simp only [Option.bind_eq_some_iff] at hr
 obtain ⟨v,h1,u,h2,k,h3,hr⟩ := hr
 have hexec : ∀ (a : Act) (w : World) (q : Value),(Instr.indexAt t (a.eval x) (a.eval i)).run S.P w=.ok q w→(execOp a.eval o).run S.P w=.ok (.value q) w := fun a w q hq => by
  unfold execOp
  rw [hop]
  exact ZF hq
 split at hr
 ·rename_i n e ha
  simp only [Option.bind_eq_some_iff,ifO_some] at hr
  obtain ⟨p,h4,z,h5,h6,e'⟩ := hr
  cases e'
  refine OpOk.pure fun γ w a hρ => ?_
  obtain ⟨G,hG,hx⟩ := Oo h4 (hρ x v h1)
  have hi := Us h3 (hρ i u h2)
  refine ⟨.pointer (some ⟨G,p.2+k*z,none⟩),hexec a w _ ?_,Zg ⟨G,hG,rfl⟩⟩
  rw [hx,hi]
  have hb := ofNat_lt h6
  unfold Instr.indexAt
  have hkn : k < n := by omega
  simp [go_sem,Qs (Yh ha),Zc h5,hkn,Instr.sureAddr,Yj,Result.andThen]
 ·rename_i ha
  simp only [Option.bind_eq_some_iff] at hr
  obtain ⟨e,h4,z,h6,hr⟩ := hr
  split at hr
  ·rename_i p h5
   rw [ifO_some] at hr
   obtain ⟨h7,e'⟩ := hr
   cases e'
   rw [Option.bind_eq_some_iff] at h5
   obtain ⟨c,h8,h9⟩ := h5
   refine OpOk.pure fun γ w a hρ => ?_
   obtain ⟨f,ad,n',m,r,m',hK,hx⟩ := LM h9 (Za h8 (hρ x v h1))
   have hi := Us h3 (hρ i u h2)
   refine ⟨.pointer (some (ad.add (p.2.1+k*z))),hexec a w _ ?_,Zg ⟨f,ad,n',m,r,hK,rfl⟩⟩
   rw [hx,hi]
   have hb := ofNat_lt h7
   unfold Instr.indexAt
   have hkn : k < p.2.2 := by omega
   simp [go_sem,Qs (QU h4),Zc h6,hkn,add_add,Result.andThen]
  ·simp only [Option.bind_eq_some_iff,ifO_some] at hr
   obtain ⟨p,h5,h7,e'⟩ := hr
   cases e'
   refine OpOk.pure fun γ w a hρ => ?_
   obtain ⟨G,cp,hG,hx⟩ := KF h5 (hρ x v h1)
   have hi := Us h3 (hρ i u h2)
   refine ⟨.pointer (some ⟨G,p.2.1+k*z,none⟩),hexec a w _ ?_,Zg ⟨G,hG,rfl⟩⟩
   rw [hx,hi]
   have hb := ofNat_lt h7
   unfold Instr.indexAt
   have hkn : k < p.2.2 := by omega
   simp [go_sem,Qs (QU h4),Zc h6,hkn,Yj,Result.andThen]
theorem NQ {t : TypeId} {x i : Operand} {r : OR} (hop : o.op=.index t x i) (hr : ((Yy S.P t).bind fun a => (ρ x).bind fun v => (asA v).bind fun cs => (ρ i).bind fun u => (asN u).bind fun k => (Zn S.P a.2).bind fun z =>
   ifO (Nat.blt k a.1) ((Vd S.P a.2 cs (k*z)).map (QN h nx)))=some r) : OpOk S E w0 h nx ρ o r := by
 simp only [Option.bind_eq_some_iff,Option.map_eq_some_iff,ifO_some] at hr
 obtain ⟨a',h1,v,h2,cs,h3,u,h4,k,h5,z,h6,h7,y,h8,rfl⟩ := hr
 refine OpOk.pure fun γ w a hρ => ?_
 obtain ⟨vs,e,hA⟩ := Om h3 (hρ x v h2)
 have hi := Us h5 (hρ i u h4)
 obtain ⟨q,hq,hu⟩ := FZ (w := w) h8 hA
 refine ⟨q,?_,hu⟩
 unfold execOp
 rw [hop]
 refine ZF ?_
 rw [e,hi]
 have hb := ofNat_lt h7
 unfold Instr.index
 have e3 : (asIntOf (.int .i64 (k : Int))).run S.P w=.ok (.i64,(k : Int)) w := rfl
 rw [Sem.run_bind,e3]
 show ((underlying t) >>= _ : Sem Value).run S.P w=_
 rw [Sem.run_bind,Qs (Yh h1)]
 show (if (0 : Int)≤(k : Int)∧(k : Int) < (a'.1 : Int) then ((Go.sizeOf a'.2) >>= fun n => part a'.2 vs.toArray ((k : Int).toNat*n)) else boundsPanic .i64 k a'.1 .index : Sem Value).run S.P w=_
 rw [if_pos hb,Sem.run_bind,Zc h6]
 exact hq
end
end Cx
