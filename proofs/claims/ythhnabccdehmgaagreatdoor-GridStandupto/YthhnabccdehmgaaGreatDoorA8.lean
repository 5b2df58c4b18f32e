/- Part 8 of the walks and of the mathematics under them: VU NQA PRT WB ZWW GWK VA VB VC VD VE VF VG. -/
import Derived.Test.YthhnabccdehmgaaGreatDoorA7
import Derived.Test.YthhnabccdehmgaaGreatDoorA6
import Derived.Test.YthhnabccdehmgaaGreatDoorA1
import Derived.Below
import Derived.BigCall
set_option maxHeartbeats 16000000
set_option maxRecDepth 100000
/- VU -/
namespace Go.Proofs.YthhnabccdehmgaaGreatDoor
open Go.RowKit Cx
attribute [local go_sem ↓] Go.wp_at_zero Go.wp_at_succ
theorem fr_neg (n : Nat) (hl : (1 : Nat) ≠ 0) (hc : Nat.Coprime n 1) : fr true n 1 hl hc=((-(n : Int) : Int) : Rat) := by
 have := fr_eq (neg := true) (u := n) (l := 1) (hl := hl) (hc := hc) (n := -(n : Int)) (d := 1) (by decide) (by simp [sg])
 rw [this,Rat.mkRat_one]
theorem wrap_back (n : Nat) (h0 : 0 < n) (hn : n < 9223372036854775808) : IntKind.u64.wrap (-IntKind.u64.wrap (-(n : Int)))=(n : Int) := by
 have e : ∀ z : Int,IntKind.u64.wrap z=z % 18446744073709551616 := fun z => by
  unfold IntKind.wrap
  simp only [IntKind.bits,IntKind.signed,show (2 : Int) ^ 64=18446744073709551616 from rfl,Bool.false_and,Bool.false_eq_true,if_false]
 rw [e,e]
 omega
theorem intNeg_calls' (n : Nat) (h0 : 0 < n) (hn : n < 9223372036854775808) (w : World) :
  Calls Tryz.prog 28 #[.int .i64 (-(n : Int))] w fun e w' => Below w.heap.size w w'∧∃ v,e=.returned v∧QV w' v ((-(n : Int) : Int) : Rat) := by
 obtain ⟨hb0,hk0,hsz⟩ := boxes1 w #[.bool false,.slice none 0 0,.slice none 0 0] 63
 have HB0 := hideIt hb0
 have HSZ := hideIt hsz
 have HK0 := hideIt hk0
 clear hb0 hsz hk0
 have hneg : (-(n : Int) < 0) := by omega
 go_enter Tryz.func28,Tryz.ntmps28
 go_wp2_with fail
 generalize (w.alloc (.cells #[.bool false,.slice none 0 0,.slice none 0 0] 63))=W0 at *
 rw [wrap_back n h0 hn]
 refine (natOf_calls n W0 (by omega)).mono ?_
 rintro e w1 ⟨hb1,v1,rfl,hv1⟩
 go_wp2_with fail
 refine (one_calls w1).mono ?_
 rintro e w2 ⟨hb2,v2,rfl,hv2⟩
 go_wp2_with fail
 refine (ready_calls (neg := true) (hv1.below hb2) hv2 (by decide) (Nat.coprime_one_right n)).mono ?_
 rintro e w3 ⟨hb3,v3,rfl,hv3⟩
 rw [fr_neg] at hv3
 obtain ⟨d3,rfl⟩ := qv_open hv3
 have hbl2 := hb1.trans (hb2.mono hb1.size)
 have hbl3 := hbl2.trans (hb3.mono hbl2.size)
 have hkr := HK0.out.below hbl3 (by rw [HSZ.out]; omega)
 obtain ⟨r0,r1,r2,f0,f1,f2⟩ := hkr.all3
 have HV := hideIt hv3
 clear hv1 hv2 hv3
 go_wp2
 obtain ⟨k0,k1,k2,_,_,_⟩ := (hkr.put3 (.bool d3.n) (.slice d3.u d3.nu d3.cu) (.slice d3.l d3.nl d3.cl)).all3
 refine bodyPost_ret (v := .agg #[.bool d3.n,.slice d3.u d3.nu d3.cu,.slice d3.l d3.nl d3.cl]) (by simp [results,Tryz.results28,go_sem,k0,k1,k2]) rfl ⟨Below.put3 (HB0.out.trans (hbl3.mono HB0.out.size)) (by omega) _ _ _,_,rfl,?_⟩
 exact (Stays.put3 hkr (by simp [notLimb]) (.bool d3.n) (.slice d3.u d3.nu d3.cu) (.slice d3.l d3.nl d3.cl) rfl rfl rfl).qv HV.out
theorem intZ_calls (z : Int) (h1 : -9223372036854775808 < z) (h2 : z < 9223372036854775808) (w : World) :
  Calls Tryz.prog 28 #[.int .i64 z] w fun e w' => Below w.heap.size w w'∧∃ v,e=.returned v∧QV w' v (z : Rat) := by
 by_cases hz : 0≤z
 ·obtain ⟨n,rfl⟩ := Int.eq_ofNat_of_zero_le hz
  exact int_calls n (by omega) w
 ·obtain ⟨n,hn⟩ := Int.eq_ofNat_of_zero_le (a := -z) (by omega)
  obtain rfl : z=-(n : Int) := by omega
  exact intNeg_calls' n (by omega) (by omega) w
end Go.Proofs.YthhnabccdehmgaaGreatDoor
/- NQA -/
namespace Go.Proofs.YthhnabccdehmgaaGreatDoor
open Go.RowKit Cx
theorem NatN.grows {w w' : World} {v : Value} {n : Nat} (hg : Grows w w') (h : NatN w v n) : NatN w' v n := by
 obtain ⟨l,⟨hl,⟨rfl,ao,cap,rfl⟩ | ⟨b,off,cap,rfl,hc,hm,hlt,hseg⟩⟩,t,rfl⟩ := h
 ·exact ⟨[],NatV.nil _ _ _,t,rfl⟩
 ·by_cases h0 : l.length=0
  ·have := List.length_eq_zero_iff.1 h0
   subst this
   exact ⟨[],NatV.nil _ _ _,t,rfl⟩
  ·have hn : ¬ Boxed w b := by
    rintro ⟨cs,t',hb,_,hno⟩
    have h1 := hseg 0 (by omega)
    rw [Nat.add_zero,hb.cell off] at h1
    exact (noLimb_of hno) off _ h1
   refine ⟨l,⟨hl,Or.inr ⟨b,off,cap,rfl,hc,hm,Nat.lt_of_lt_of_le hlt hg.size,fun j hj => ?_⟩⟩,t,rfl⟩
   have : w'.cell? ⟨b,off+j,none⟩=w.cell? ⟨b,off+j,none⟩ := by simp [World.cell?,hg.block b hlt hn]
   rw [this]
   exact hseg j hj
abbrev Bo (b : Bool) : Fact := Jus (.bool b)
abbrev In (z : Int) : Fact := Jus (.int .i64 z)
theorem all2_two {w : World} {F G : Fact} {vs : List Value} (h : All2 w [F,G] vs) : ∃ u v,vs=[u,v]∧F.on u w∧G.on v w := by
 match vs,h with
 | [u,v],h => exact ⟨u,v,rfl,h.1,h.2.1⟩
theorem store_run {P : Program} {w : World} {a : Addr} {v c : Value} (m : Mode) (hv : v.oneCell'=true) (hc : w.cell? a=some c) (hf : w.frozen? a=false) : (store a v m).run P w=.ok () (w.setCell a v) := by
 rw [run_store P w a v m hv,hc]
 simp [hf]
theorem save_refl (g : Nat) (w : World) : Save g w w := Save.of (Below.refl _ _)
theorem no_over {pl : List Plan} {os : List Oper} {i k : Nat} (h : overOf k pl=none) (s : Nat) (Fs' : Fact) (hs : pl[s]? = some (.over k Fs')) : ∃ (o' : Oper) (e : Edge),os[s]? = some o'∧e ∈ o'.after∧e.on=i∧Region.binds .any e=true := absurd hs (overOf_none h s Fs')
theorem no_fill {pl : List Plan} {os : List Oper} {i : Nat} (h : fillOf i pl=none) (s : Nat) (Fs' : Fact) (hs : pl[s]? = some (.fill i Fs')) : ∃ (o' : Oper) (e : Edge),os[s]? = some o'∧e ∈ o'.after∧e.on=i∧Region.binds .any e=true := absurd hs (fillOf_none h s Fs')
def isFill (a : Nat) : Plan→Bool
 | Sum.inr (Sum.inr (Sum.inr (Sum.inl (b,_)))) => Nat.beq a b
 | _ => false
def isOver (k : Nat) : Plan→Bool
 | Sum.inr (Sum.inr (Sum.inr (Sum.inr (Sum.inl (b,_))))) => Nat.beq k b
 | _ => false
def onlyAt (p : Plan→Bool) (s0 : Nat) : Nat→List Plan→Bool
 | _,[] => true
 | i,x :: xs => (!p x || Nat.beq i s0) && onlyAt p s0 (i+1) xs
theorem onlyAt.get {p : Plan→Bool} {s0 : Nat} : ∀ {pl : List Plan} {i s : Nat} {x : Plan},onlyAt p s0 i pl=true→pl[s]? = some x→p x=true→i+s=s0
 | [],_,_,_,_,h,_ => by simp at h
 | y :: ys,i,0,x,h,hs,hp => by
  have e : y=x := by simpa using hs
  subst e
  unfold onlyAt at h
  rw [hp] at h
  simp at h
  exact h.1
 | y :: ys,i,s+1,x,h,hs,hp => by
  unfold onlyAt at h
  rw [Bool.and_eq_true] at h
  have := onlyAt.get h.2 (s := s) (x := x) (by simpa using hs) hp
  omega
theorem one_fill {pl : List Plan} {a s0 : Nat} (h : onlyAt (isFill a) s0 0 pl=true) (s : Nat) (Fs' : Fact) (hs : pl[s]? = some (.fill a Fs')) : s=s0 := by
 have := onlyAt.get h hs (Nat.beq_refl a)
 omega
theorem one_over {pl : List Plan} {k s0 : Nat} (h : onlyAt (isOver k) s0 0 pl=true) (s : Nat) (Fs' : Fact) (hs : pl[s]? = some (.over k Fs')) : s=s0 := by
 have := onlyAt.get h hs (Nat.beq_refl k)
 omega
theorem fill_waits {pl : List Plan} {os : List Oper} {i s0 k : Nat} {o' : Oper} {e : Edge} (h : onlyAt (isFill i) s0 0 pl=true) (ho : os[s0]? = some o') (hk : o'.after[k]? = some e) (he : e.on=i) (hb : Region.binds .any e=true) (s : Nat) (Fs' : Fact) (hs : pl[s]? = some (.fill i Fs')) : ∃ (o' : Oper) (e : Edge),os[s]? = some o'∧e ∈ o'.after∧e.on=i∧Region.binds .any e=true := by
 have := one_fill h s Fs' hs
 subst this
 exact ⟨o',e,ho,Array.mem_of_getElem? hk,he,hb⟩
theorem over_waits {pl : List Plan} {os : List Oper} {i b s0 k : Nat} {o' : Oper} {e : Edge} (h : onlyAt (isOver b) s0 0 pl=true) (ho : os[s0]? = some o') (hk : o'.after[k]? = some e) (he : e.on=i) (hb : Region.binds .any e=true) (s : Nat) (Fs' : Fact) (hs : pl[s]? = some (.over b Fs')) : ∃ (o' : Oper) (e : Edge),os[s]? = some o'∧e ∈ o'.after∧e.on=i∧Region.binds .any e=true := by
 have := one_over h s Fs' hs
 subst this
 exact ⟨o',e,ho,Array.mem_of_getElem? hk,he,hb⟩
def CellsOk (m : Nat) (F : Fact) : Prop := ∀ v w,F.on v w→∃ cs : List Value,v=.agg cs.toArray∧cs.length=m∧∀ c ∈ cs,notLimb c=true∧c.oneCell'=true
theorem all_notLimb {cs : List Value} (h : ∀ c ∈ cs,notLimb c=true∧c.oneCell'=true) : cs.toArray.all notLimb=true := by
 simp only [List.all_toArray,List.all_eq_true]
 exact fun c hc => (h c hc).1
section
variable {Q : Exit→Act→World→Prop} {w0 : World} {n : Nat} {tm : List (Nat × Fact)} {bx : List (Nat × TypeId × Fact)} {a0 : Act} {wr : World} {os : List Oper} {pl : List Plan}
theorem step_new {i : Nat} {o : Oper} {t : TypeId} (zs : List Value) {Fz : Fact} (hFz : ∀ w,Fz.on (.agg zs.toArray) w) (ho : os[i]? = some o) (hp : pl[i]? = some (.alloc t Fz)) (hw : Want w0 bx a0 wr os pl o true) (hop : o.op=.alloc t)
  (hf : ∀ (s : Nat) (Fs' : Fact),pl[s]? = some (.fill i Fs')→∃ (o' : Oper) (e : Edge),os[s]? = some o'∧e ∈ o'.after∧e.on=i∧Region.binds .any e=true)
  (hz : ∀ w,(Instr.alloc t true (.tuple #[])).run Tryz.prog w=.ok (.pointer (some ⟨w.heap.size,0,none⟩)) (w.alloc (.cells zs.toArray t))) (hnl : zs.toArray.all notLimb=true) (hln : zs.length=Tryz.prog.cellsOf t) :
  AStep Tryz.prog Q os a0 (RInv w0 bx a0 wr os pl) i o := step_alloc ho hp hw hf fun d τ w hr hd hn => by
 refine ⟨w.alloc (.cells zs.toArray t),?_,below_new _ _,zs,Blk.new _ _ _,hFz _,hnl,hln⟩
 unfold execOp
 rw [hop]
 show (do pure (Next.value (← Instr.alloc t true (.tuple #[]))) : Sem Next).run Tryz.prog w=_
 have h := hz w
 revert h
 generalize Instr.alloc t true (.tuple #[])=s
 intro h
 simp [go_sem,h]
def Boxes (t : TypeId) (F : Fact) : Prop :=
 ∀ (w : World) (v : Value),F.on v w→∃ cs : List Value,(Instr.box t v).run Tryz.prog w=.ok (.pointer (some ⟨w.heap.size,0,none⟩)) (w.alloc (.cells cs.toArray t))∧v=.agg cs.toArray∧cs.toArray.all notLimb=true∧cs.length=Tryz.prog.cellsOf t
theorem step_box {i : Nat} {o : Oper} {t : TypeId} {x : Operand} {F : Fact} (ho : os[i]? = some o) (hp : pl[i]? = some (.alloc t F)) (hw : Want w0 bx a0 wr os pl o true) (hop : o.op=.box t x)
  (hf : ∀ (s : Nat) (Fs' : Fact),pl[s]? = some (.fill i Fs')→∃ (o' : Oper) (e : Edge),os[s]? = some o'∧e ∈ o'.after∧e.on=i∧Region.binds .any e=true)
  (hx : Opn w0 bx a0 wr os pl i o x F) (hb : Boxes t F) :
  AStep Tryz.prog Q os a0 (RInv w0 bx a0 wr os pl) i o := step_alloc ho hp hw hf fun d τ w hr hd hn => by
 have hv := hx d τ w hr hd hn
 obtain ⟨cs,e,ev,hnl,hln⟩ := hb w _ hv
 rw [ev] at hv
 refine ⟨w.alloc (.cells cs.toArray t),?_,below_new _ _,cs,Blk.new _ _ _,F.st (Grows.of (below_new _ _)) hv,hnl,hln⟩
 unfold execOp
 rw [hop]
 show (do pure (Next.value (← Instr.box t ((putAll a0 τ 0 os).eval x))) : Sem Next).run Tryz.prog w=_
 revert e
 generalize Instr.box t ((putAll a0 τ 0 os).eval x)=s
 intro e
 simp [go_sem,e]
end
theorem QV.grows {w w' : World} {v : Value} {q : Rat} (hg : Grows w w') (h : QV w v q) : QV w' v q := by
 obtain ⟨vu,vl,e,h1,h2⟩ := h
 exact ⟨vu,vl,e,h1.grows hg,h2.grows hg⟩
def Qv (q : Rat) : Fact := ⟨fun v w => QV w v q,fun hg h => h.grows hg⟩
theorem cok_qv (q : Rat) : CellsOk 3 (Qv q) := fun v w h => by
 obtain ⟨c,e⟩ := qv_open h
 exact ⟨[.bool c.n,.slice c.u c.nu c.cu,.slice c.l c.nl c.cl],e,rfl,by simp [notLimb,Value.oneCell']⟩
theorem store_next {P : Program} {w0 w : World} {G : Nat} {cs : Array Value} {t : TypeId} (hk : Blk w G cs t) (hs : Save G w0 w) (j : Nat) (x y : Value) (cs' : Array Value) (hx : cs[j]? = some x) (hy : y.oneCell'=true) (hc : cs.setIfInBounds j y=cs') : ∃ w',(store ⟨G,j,none⟩ y).run P w=.ok () w'∧Blk w' G cs' t∧Save G w0 w' :=
 ⟨_,store_run (c := x) _ hy (by rw [hk.cell j]; exact hx) (hk.frozen j),hc ▸ hk.set j y,hs.set j y⟩
theorem cellsN_Q : Tryz.prog.cellsOf 63=3 := by kernel_rfl
theorem loads_Q {F : Fact} : Loads Tryz.prog 63 F F := fun w G ⟨cs,hk,hF,_,hln⟩ => by
 rw [cellsN_Q] at hln
 match cs,hln with
 | [x0,x1,x2],_ =>
  refine ⟨.agg #[x0,x1,x2],?_,hF⟩
  have k0 : w.cell? ⟨G,0,none⟩=some x0 := hk.cell 0
  have k1 : w.cell? ⟨G,1,none⟩=some x1 := hk.cell 1
  have k2 : w.cell? ⟨G,2,none⟩=some x2 := hk.cell 2
  clear hk hF
  simp [go_sem,k0,k1,k2]
theorem stores_Q {F : Fact} (hc : CellsOk 3 F) : Stores Tryz.prog 63 F F := fun w G F0 v ⟨cs,hk,_,hno,hln⟩ hv => by
 obtain ⟨vs,rfl,hlv,hok⟩ := hc v w hv
 rw [cellsN_Q] at hln
 match cs,hln,vs,hlv with
 | [x0,x1,x2],_,[y0,y1,y2],_ =>
  have hbx : Boxed w G := ⟨_,_,hk,by decide,hno⟩
  have s0 := save_refl G w
  obtain ⟨w1,r0,b1,s1⟩ := store_next (P := Tryz.prog) hk s0 0 x0 y0 [y0,x1,x2].toArray rfl (hok y0 (by simp)).2 rfl
  obtain ⟨w2,r1,b2,s2⟩ := store_next (P := Tryz.prog) b1 s1 1 x1 y1 [y0,y1,x2].toArray rfl (hok y1 (by simp)).2 rfl
  obtain ⟨w3,r2,b3,s3⟩ := store_next (P := Tryz.prog) b2 s2 2 x2 y2 [y0,y1,y2].toArray rfl (hok y2 (by simp)).2 rfl
  refine ⟨w3,?_,s3,[y0,y1,y2],b3,F.st (Grows.save s3 hbx) hv,all_notLimb hok,by rw [cellsN_Q]; rfl⟩
  clear b1 s1 b2 s2 b3 s3 s0 hbx hno hv hok hk
  simp [go_sem,r0,r1,r2]
theorem allocs_Q (w : World) : (Instr.alloc 63 true (.tuple #[])).run Tryz.prog w=.ok (.pointer (some ⟨w.heap.size,0,none⟩)) (w.alloc (.cells [.bool false,.slice none 0 0,.slice none 0 0].toArray 63)) := by
 simp [go_sem]
theorem zero_Q (w : World) : Any.on (.agg [.bool false,.slice none 0 0,.slice none 0 0].toArray) w := trivial
theorem boxes_Q {F : Fact} (hc : CellsOk 3 F) : Boxes 63 F := fun w v hv => by
 obtain ⟨vs,rfl,hlv,hok⟩ := hc v w hv
 match vs,hlv with
 | [y0,y1,y2],_ =>
  refine ⟨[y0,y1,y2],?_,rfl,all_notLimb hok,by rw [cellsN_Q]; rfl⟩
  clear hv hok
  simp [go_sem]
theorem field_Q_0 (G : Nat) (w : World) : (Instr.fieldAt 63 (.pointer (some ⟨G,0,none⟩)) 0).run Tryz.prog w=.ok (.pointer (some ⟨G,0,none⟩)) w := by
 simp [go_sem]
theorem field_Q_1 (G : Nat) (w : World) : (Instr.fieldAt 63 (.pointer (some ⟨G,0,none⟩)) 1).run Tryz.prog w=.ok (.pointer (some ⟨G,1,none⟩)) w := by
 simp [go_sem]
def Nt (n : Nat) : Fact := ⟨fun v w => NatN w v n,fun hg h => h.grows hg⟩
def Cm (a b : Nat) : Fact := ⟨fun v _ => ∃ c : Int,v=.int .i64 c∧(c < 0 ↔ a < b)∧(c=0 ↔ a=b),fun _ h => h⟩
theorem part_q0 {q : Rat} : PartLoads Tryz.prog 4 0 (Qv q) (Bo (decide (q.num < 0))) := fun w G cs t hk ⟨vu,vl,e,_,_⟩ => by
 have e' : cs=[.bool (decide (q.num < 0)),vu,vl] := congrArg Array.toList (Value.agg.inj e)
 subst e'
 have k0 : w.cell? ⟨G,0,none⟩=some (.bool (decide (q.num < 0))) := hk.cell 0
 refine ⟨_,?_,rfl⟩
 clear hk e
 simp [go_sem,k0]
theorem part_q1 {q : Rat} : PartLoads Tryz.prog 61 1 (Qv q) (Nt q.num.natAbs) := fun w G cs t hk ⟨vu,vl,e,h1,_⟩ => by
 have e' : cs=[.bool (decide (q.num < 0)),vu,vl] := congrArg Array.toList (Value.agg.inj e)
 subst e'
 have k0 : w.cell? ⟨G,1,none⟩=some vu := hk.cell 1
 refine ⟨_,?_,h1⟩
 clear hk e h1
 simp [go_sem,k0]
def NoPre : World→Prop := fun _ => True
theorem con_one : Con Tryz.prog NoPre 69 [] (Nt 1) := fun w vs _ h => by
 match vs,h with
 | [],_ => exact (one_calls w).mono fun e w' ⟨hb,v,e1,h⟩ => ⟨hb,v,e1,h⟩
theorem con_ready {neg : Bool} {u l : Nat} (hl : l ≠ 0) (hc : Nat.Coprime u l) {q : Rat} (hq : fr neg u l hl hc=q) : Con Tryz.prog NoPre 67 [Bo neg,Nt u,Nt l] (Qv q) := fun w vs _ h => by
 match vs,h with
 | [_,vu,vl],⟨h0,h1,h2,_⟩ =>
  cases (show _=Value.bool neg from h0)
  refine (ready_calls h1 h2 hl hc).mono ?_
  rintro e w' ⟨hb,v,e1,h⟩
  rw [hq] at h
  exact ⟨hb,v,e1,h⟩
theorem con_lower {q : Rat} : Con Tryz.prog NoPre 93 [Qv q] (Nt q.den) := fun w vs _ h => by
 match vs,h with
 | [v],⟨h0,_⟩ => exact (lower_calls h0).mono fun e w' ⟨hb,v,e1,h⟩ => ⟨hb,v,e1,h⟩
theorem con_mul {a b : Nat} (s1 : Small a) (s2 : Small b) : Con Tryz.prog NoPre 95 [Nt a,Nt b] (Nt (a*b)) := fun w vs _ h => by
 match vs,h with
 | [va,vb],⟨h0,h1,_⟩ => exact (multiply_calls h0 h1 s1 s2).mono fun e w' ⟨hb,v,e1,h⟩ => ⟨hb,v,e1,h⟩
theorem en_num_one (vs : Array Value) (w : World) : (callFunc 69 vs).run Tryz.prog w=.ok (.enter 69 vs) w := enters Tryz.func69 (by kernel_rfl) (by kernel_rfl) vs w
theorem en_num_ready (vs : Array Value) (w : World) : (callFunc 67 vs).run Tryz.prog w=.ok (.enter 67 vs) w := enters Tryz.func67 (by kernel_rfl) (by kernel_rfl) vs w
theorem en_num_Q_lower (vs : Array Value) (w : World) : (callFunc 93 vs).run Tryz.prog w=.ok (.enter 93 vs) w := enters Tryz.func93 (by kernel_rfl) (by kernel_rfl) vs w
theorem en_num_multiply (vs : Array Value) (w : World) : (callFunc 95 vs).run Tryz.prog w=.ok (.enter 95 vs) w := enters Tryz.func95 (by kernel_rfl) (by kernel_rfl) vs w
theorem small_mul2 {m n k l : Nat} (h : m < 2 ^ k) (g : n < 2 ^ l) (hk : k+l≤35184372088640) : Small (m*n) := small_two (k := k+l) (by rw [Nat.pow_add]; exact Nat.mul_lt_mul'' h g) hk
end Go.Proofs.YthhnabccdehmgaaGreatDoor
/- PRT -/
namespace Go.Proofs.YthhnabccdehmgaaGreatDoor
open Go.RowKit Cx
theorem fr_up (q : Rat) : fr (decide (q.num < 0)) q.num.natAbs 1 (by decide) (Nat.coprime_one_right _)=(q.num : Rat) := by
 have := fr_eq (neg := decide (q.num < 0)) (u := q.num.natAbs) (l := 1) (hl := by decide) (hc := Nat.coprime_one_right _) (n := q.num) (d := 1) (by decide) (by rw [sg_num])
 rw [this,Rat.mkRat_one]
theorem fr_low (n : Nat) : fr false n 1 (by decide) (Nat.coprime_one_right _)=((n : Int) : Rat) := by
 have := fr_eq (neg := false) (u := n) (l := 1) (hl := by decide) (hc := Nat.coprime_one_right _) (n := (n : Int)) (d := 1) (by decide) (by simp [sg])
 rw [this,Rat.mkRat_one]
theorem AS.ret22 {P : Program} {fn : Func} {R : Ending→World→Prop} {w0 : World} {n : Nat} {tm : List (Nat × Fact)} {bx : List (Nat × TypeId × Fact)} {a : Act} {w : World} (h : AS w0 n tm bx a w) (k b k2 b2 : Nat) {t t2 : Tmp} {ty : TypeId} {G G2 : Nat} {F Fs F2 Fs2 : Fact} (hr : fn.results=#[.cell t ty,.cell t2 ty]) (hk : tm[k]? = some (t,Jus (.pointer (some ⟨G,0,none⟩)))) (hb : bx[b]? = some (G,ty,Fs)) (hl : Loads P ty Fs F) (hk2 : tm[k2]? = some (t2,Jus (.pointer (some ⟨G2,0,none⟩)))) (hb2 : bx[b2]? = some (G2,ty,Fs2)) (hl2 : Loads P ty Fs2 F2) (hR : ∀ v,(Tup [F,F2]).on v w→R (.returned v) w) : bodyPost P fn R .ret a w := by
 obtain ⟨v,e,hF⟩ := hl w G (h.box b G ty Fs hb).2
 obtain ⟨v',e',hF'⟩ := hl2 w G2 (h.box b2 G2 ty Fs2 hb2).2
 have hv : a.tmps.getD t undef=.pointer (some ⟨G,0,none⟩) := h.tmp t _ (List.mem_of_getElem? hk)
 have hv' : a.tmps.getD t2 undef=.pointer (some ⟨G2,0,none⟩) := h.tmp t2 _ (List.mem_of_getElem? hk2)
 refine ⟨h.nod,.tuple #[v,v'],?_,hR _ ⟨[_,_],rfl,hF,hF',trivial⟩⟩
 have e2 : (loadVar ty ⟨G,0,none⟩).run P w=.ok v w := by
  have : Instr.loadAt ty (.pointer (some ⟨G,0,none⟩))=loadVar ty ⟨G,0,none⟩ := rfl
  rw [← this]
  exact e
 have e2' : (loadVar ty ⟨G2,0,none⟩).run P w=.ok v' w := by
  have : Instr.loadAt ty (.pointer (some ⟨G2,0,none⟩))=loadVar ty ⟨G2,0,none⟩ := rfl
  rw [← this]
  exact e'
 unfold results
 rw [hr]
 have e3 : ((do loadVar ty (← asAddr (a.tmps.getD t undef)) : Sem Value)).run P w=.ok v w := by
  rw [hv]
  exact e2
 have e3' : ((do loadVar ty (← asAddr (a.tmps.getD t2 undef)) : Sem Value)).run P w=.ok v' w := by
  rw [hv']
  exact e2'
 revert e3 e3'
 simp only [List.mapM_toArray,List.mapM_cons,List.mapM_nil]
 generalize (do loadVar ty (← asAddr (a.tmps.getD t undef)) : Sem Value)=s
 generalize (do loadVar ty (← asAddr (a.tmps.getD t2 undef)) : Sem Value)=s'
 intro e3 e3'
 simp [go_sem,e3,e3']
theorem con_parts {q : Rat} : Con Tryz.prog NoPre 46 [Qv q] (Tup [Qv (q.num : Rat),Qv ((q.den : Int) : Rat)]) := by
 refine con_of (n := 14) Tryz.func46 rfl rfl (Nat.le_of_ble_eq_true rfl) ?_
 intro w a0 hp S0
 have HPRE : ∀ w',Below w.heap.size w w'→NoPre w' := fun _ _ => trivial
 refine wp_seq ?_
 refine region_abs [.alloc 63 (Qv q),.alloc 63 Any,.alloc 63 Any] ⟨S0,by decide +kernel⟩ (by kernel_rfl) (by kernel_rfl) rfl (by kernel_rfl) ?_ ?_
 ·intro C
  refine ASteps.cons ?_ (ASteps.cons ?_ (ASteps.cons ?_ (ASteps.nil)))
  ·exact step_box rfl rfl (want_none rfl) rfl (no_fill (by kernel_rfl)) (opn_old C 0 (by kernel_rfl) rfl) (boxes_Q (cok_qv _))
  ·exact step_new [.bool false,.slice none 0 0,.slice none 0 0] zero_Q rfl rfl (want_none rfl) rfl (no_fill (by kernel_rfl)) allocs_Q (by simp [notLimb]) (by kernel_rfl)
  ·exact step_new [.bool false,.slice none 0 0,.slice none 0 0] zero_Q rfl rfl (want_none rfl) rfl (no_fill (by kernel_rfl)) allocs_Q (by simp [notLimb]) (by kernel_rfl)
 intro γ a1 w1 S1
 replace S1 : AS w 14 [(3,Jus (.pointer (some ⟨γ 2,0,none⟩))),(2,Jus (.pointer (some ⟨γ 1,0,none⟩))),(1,Jus (.pointer (some ⟨γ 0,0,none⟩)))] [(γ 0,63,Qv q),(γ 1,63,Any),(γ 2,63,Any)] a1 w1 := cast (by kernel_rfl) (S1.keep [1,2,3])
 generalize γ 0=G0 at S1
 generalize γ 1=G1 at S1
 generalize γ 2=G2 at S1
 clear S0
 refine then_normal ?_
 refine wp_seq ?_
 refine region_abs [.pure (Jus (.pointer (some ⟨G0,0,none⟩))),.pure (Bo (decide (q.num < 0))),.pure (Jus (.pointer (some ⟨G0,1,none⟩))),.pure (Nt q.num.natAbs),.pure (Nt 1),.pure (Qv (q.num : Rat)),.pure (Qv q),.pure (Nt q.den),.pure (Nt 1),.pure (Qv ((q.den : Int) : Rat)),.over 1 (Qv (q.num : Rat)),.over 2 (Qv ((q.den : Int) : Rat))] ⟨S1,by decide +kernel⟩ (by kernel_rfl) (by kernel_rfl) rfl (by kernel_rfl) ?_ ?_
 ·intro C
  refine ASteps.cons ?_ (ASteps.cons ?_ (ASteps.cons ?_ (ASteps.cons ?_ (ASteps.cons ?_ (ASteps.cons ?_ (ASteps.cons ?_ (ASteps.cons ?_ (ASteps.cons ?_ (ASteps.cons ?_ (ASteps.cons ?_ (ASteps.cons ?_ (ASteps.nil))))))))))))
  ·exact step_fieldAddr rfl rfl (want_none rfl) rfl (opn_old C 2 (by kernel_rfl) rfl) (field_Q_0 _)
  ·exact step_loadF (k := 0) rfl rfl rfl (want_none rfl) rfl (opn_new C 0 0 rfl rfl rfl rfl rfl rfl) (no_over (by kernel_rfl)) part_q0
  ·exact step_fieldAddr rfl rfl (want_none rfl) rfl (opn_old C 2 (by kernel_rfl) rfl) (field_Q_1 _)
  ·exact step_loadF (k := 0) rfl rfl rfl (want_none rfl) rfl (opn_new C 2 0 rfl rfl rfl rfl rfl rfl) (no_over (by kernel_rfl)) part_q1
  ·exact step_call HPRE rfl rfl (want_none rfl) rfl en_num_one Opns.nil con_one
  ·exact step_call HPRE rfl rfl (want_none rfl) rfl en_num_ready (Opns.cons (opn_new C 1 0 rfl rfl rfl rfl rfl rfl) (Opns.cons (opn_new C 3 1 rfl rfl rfl rfl rfl rfl) (Opns.cons (opn_new C 4 2 rfl rfl rfl rfl rfl rfl) Opns.nil))) (con_ready (by decide) (Nat.coprime_one_right _) (fr_up q))
  ·exact step_load (k := 0) rfl rfl rfl (want_none rfl) rfl (opn_old C 2 (by kernel_rfl) rfl) (no_over (by kernel_rfl)) loads_Q
  ·exact step_call HPRE rfl rfl (want_none rfl) rfl en_num_Q_lower (Opns.cons (opn_new C 6 0 rfl rfl rfl rfl rfl rfl) Opns.nil) con_lower
  ·exact step_call HPRE rfl rfl (want_none rfl) rfl en_num_one Opns.nil con_one
  ·exact step_call HPRE rfl rfl (want_none rfl) rfl en_num_ready (Opns.cons (opn_const _) (Opns.cons (opn_new C 7 0 rfl rfl rfl rfl rfl rfl) (Opns.cons (opn_new C 8 1 rfl rfl rfl rfl rfl rfl) Opns.nil))) (con_ready (by decide) (Nat.coprime_one_right _) (fr_low q.den))
  ·exact step_over C (k := 1) rfl rfl rfl (want_none rfl) rfl (opn_old C 1 (by kernel_rfl) rfl) (by decide) (one_over (by kernel_rfl)) (opn_new C 5 0 rfl rfl rfl rfl rfl rfl) (stores_Q (cok_qv _))
  ·exact step_over C (k := 2) rfl rfl rfl (want_none rfl) rfl (opn_old C 0 (by kernel_rfl) rfl) (by decide) (one_over (by kernel_rfl)) (opn_new C 9 0 rfl rfl rfl rfl rfl rfl) (stores_Q (cok_qv _))
 intro γ a2 w2 S2
 replace S2 : AS w 14 [(3,Jus (.pointer (some ⟨G2,0,none⟩))),(2,Jus (.pointer (some ⟨G1,0,none⟩))),(1,Jus (.pointer (some ⟨G0,0,none⟩)))] [(G0,63,Qv q),(G1,63,Qv (q.num : Rat)),(G2,63,Qv ((q.den : Int) : Rat))] a2 w2 := cast (by kernel_rfl) (S2.keep [1,2,3])
 clear S1
 refine then_normal ?_
 refine wp_ret ?_
 exact S2.ret22 1 1 0 2 rfl rfl rfl loads_Q rfl rfl loads_Q fun v hv => ⟨S2.bel,v,rfl,hv⟩
theorem two_of {w w' : World} {v : Value} {x y : Rat} (hb : Below w.heap.size w w') (h : (Tup [Qv x,Qv y]).on v w') : Below w.heap.size w w'∧∃ v1 v2,Ending.returned v=.returned (.tuple #[v1,v2])∧QV w' v1 x∧QV w' v2 y := by
 obtain ⟨cs,e,hall⟩ := h
 obtain ⟨v1,v2,rfl,h1,h2⟩ := all2_two hall
 exact ⟨hb,v1,v2,congrArg Ending.returned e,h1,h2⟩
theorem parts_calls {w : World} {v : Value} {q : Rat} (h : QV w v q) :
  Calls Tryz.prog 46 #[v] w fun e w' => Below w.heap.size w w'∧∃ v1 v2,e=.returned (.tuple #[v1,v2])∧QV w' v1 (q.num : Rat)∧QV w' v2 ((q.den : Int) : Rat) :=
 Calls.mono (con_parts w [v] trivial ⟨h,trivial⟩) fun e w' hr => by
  obtain ⟨hb,x,rfl,hx⟩ := hr
  exact two_of hb hx
end Go.Proofs.YthhnabccdehmgaaGreatDoor
/- WB -/
namespace Go.Proofs.YthhnabccdehmgaaGreatDoor
open Go.RowKit Cx
attribute [local go_sem ↓] Go.wp_at_zero Go.wp_at_succ
theorem wayPlus_walk {w : World} {cax cay cbx cbz : C3} {ax ay bx bz : Rat} (hax : QV w (.agg #[.bool cax.n,.slice cax.u cax.nu cax.cu,.slice cax.l cax.nl cax.cl]) ax) (hay : QV w (.agg #[.bool cay.n,.slice cay.u cay.nu cay.cu,.slice cay.l cay.nl cay.cl]) ay) (hbx : QV w (.agg #[.bool cbx.n,.slice cbx.u cbx.nu cbx.cu,.slice cbx.l cbx.nl cbx.cl]) bx) (hbz : QV w (.agg #[.bool cbz.n,.slice cbz.u cbz.nu cbz.cu,.slice cbz.l cbz.nl cbz.cl]) bz) {k l : Nat} (f1 : QS k ax) (f2 : QS k ay) (f3 : QS l bx) (f4 : QS l bz) (hk : k+l+1≤35184372088640) :
  Calls Tryz.prog 31 #[.agg #[.bool cax.n,.slice cax.u cax.nu cax.cu,.slice cax.l cax.nl cax.cl,.bool cay.n,.slice cay.u cay.nu cay.cu,.slice cay.l cay.nl cay.cl],.agg #[.bool cbx.n,.slice cbx.u cbx.nu cbx.cu,.slice cbx.l cbx.nl cbx.cl,.bool cbz.n,.slice cbz.u cbz.nu cbz.cu,.slice cbz.l cbz.nl cbz.cl]] w fun e w' => Below w.heap.size w w'∧∃ v,e=.returned v∧WV w' v (ax+bx) (ay+bz) := by
 obtain ⟨hb0,hk0,hk1,hk2,hsz⟩ := boxes3 w #[.bool cax.n,.slice cax.u cax.nu cax.cu,.slice cax.l cax.nl cax.cl,.bool cay.n,.slice cay.u cay.nu cay.cu,.slice cay.l cay.nl cay.cl] #[.bool cbx.n,.slice cbx.u cbx.nu cbx.cu,.slice cbx.l cbx.nl cbx.cl,.bool cbz.n,.slice cbz.u cbz.nu cbz.cu,.slice cbz.l cbz.nl cbz.cl] #[.bool false,.slice none 0 0,.slice none 0 0,.bool false,.slice none 0 0,.slice none 0 0] 68 68 68
 have HB0 := hideIt hb0
 have HSZ := hideIt hsz
 have HK0 := hideIt hk0
 have HK1 := hideIt hk1
 have HK2 := hideIt hk2
 have Hax := hideIt (hax.below hb0)
 have Hay := hideIt (hay.below hb0)
 have Hbx := hideIt (hbx.below hb0)
 have Hbz := hideIt (hbz.below hb0)
 have F1 := hideIt f1
 have F2 := hideIt f2
 have F3 := hideIt f3
 have F4 := hideIt f4
 have HK := hideIt hk
 clear hb0 hsz hk0 hk1 hk2 hax hay hbx hbz f1 f2 f3 f4 hk
 go_enter Tryz.func31,Tryz.ntmps31
 go_wp2_with fail
 generalize (((w.alloc (.cells #[.bool cax.n,.slice cax.u cax.nu cax.cu,.slice cax.l cax.nl cax.cl,.bool cay.n,.slice cay.u cay.nu cay.cu,.slice cay.l cay.nl cay.cl] 68)).alloc (.cells #[.bool cbx.n,.slice cbx.u cbx.nu cbx.cu,.slice cbx.l cbx.nl cbx.cl,.bool cbz.n,.slice cbz.u cbz.nu cbz.cu,.slice cbz.l cbz.nl cbz.cl] 68)).alloc (.cells #[.bool false,.slice none 0 0,.slice none 0 0,.bool false,.slice none 0 0,.slice none 0 0] 68))=W0 at *
 have HS : Hid (∀ w',Below W0.heap.size W0 w'→w'.cell? ⟨w.heap.size,0,none⟩=some (.bool cax.n)∧w'.cell? ⟨w.heap.size,1,none⟩=some (.slice cax.u cax.nu cax.cu)∧w'.cell? ⟨w.heap.size,2,none⟩=some (.slice cax.l cax.nl cax.cl)∧w'.cell? ⟨w.heap.size,3,none⟩=some (.bool cay.n)∧w'.cell? ⟨w.heap.size,4,none⟩=some (.slice cay.u cay.nu cay.cu)∧w'.cell? ⟨w.heap.size,5,none⟩=some (.slice cay.l cay.nl cay.cl)∧w'.cell? ⟨w.heap.size+1,0,none⟩=some (.bool cbx.n)∧w'.cell? ⟨w.heap.size+1,1,none⟩=some (.slice cbx.u cbx.nu cbx.cu)∧w'.cell? ⟨w.heap.size+1,2,none⟩=some (.slice cbx.l cbx.nl cbx.cl)∧w'.cell? ⟨w.heap.size+1,3,none⟩=some (.bool cbz.n)∧w'.cell? ⟨w.heap.size+1,4,none⟩=some (.slice cbz.u cbz.nu cbz.cu)∧w'.cell? ⟨w.heap.size+1,5,none⟩=some (.slice cbz.l cbz.nl cbz.cl)) := fun w' hb => ⟨(HK0.out.below hb (by rw [HSZ.out]; omega)).cell 0,(HK0.out.below hb (by rw [HSZ.out]; omega)).cell 1,(HK0.out.below hb (by rw [HSZ.out]; omega)).cell 2,(HK0.out.below hb (by rw [HSZ.out]; omega)).cell 3,(HK0.out.below hb (by rw [HSZ.out]; omega)).cell 4,(HK0.out.below hb (by rw [HSZ.out]; omega)).cell 5,(HK1.out.below hb (by rw [HSZ.out]; omega)).cell 0,(HK1.out.below hb (by rw [HSZ.out]; omega)).cell 1,(HK1.out.below hb (by rw [HSZ.out]; omega)).cell 2,(HK1.out.below hb (by rw [HSZ.out]; omega)).cell 3,(HK1.out.below hb (by rw [HSZ.out]; omega)).cell 4,(HK1.out.below hb (by rw [HSZ.out]; omega)).cell 5⟩
 have HSS : Hid (∀ w',Below W0.heap.size W0 w'→∀ x0 x1 x2 x3 x4 x5 : Value,((((((w'.setCell ⟨w.heap.size+1+1,0,none⟩ (x0)).setCell ⟨w.heap.size+1+1,1,none⟩ (x1)).setCell ⟨w.heap.size+1+1,2,none⟩ (x2)).setCell ⟨w.heap.size+1+1,3,none⟩ (x3)).setCell ⟨w.heap.size+1+1,4,none⟩ (x4)).setCell ⟨w.heap.size+1+1,5,none⟩ (x5)).cell? ⟨w.heap.size,0,none⟩=some (.bool cax.n)∧((((((w'.setCell ⟨w.heap.size+1+1,0,none⟩ (x0)).setCell ⟨w.heap.size+1+1,1,none⟩ (x1)).setCell ⟨w.heap.size+1+1,2,none⟩ (x2)).setCell ⟨w.heap.size+1+1,3,none⟩ (x3)).setCell ⟨w.heap.size+1+1,4,none⟩ (x4)).setCell ⟨w.heap.size+1+1,5,none⟩ (x5)).cell? ⟨w.heap.size,1,none⟩=some (.slice cax.u cax.nu cax.cu)∧((((((w'.setCell ⟨w.heap.size+1+1,0,none⟩ (x0)).setCell ⟨w.heap.size+1+1,1,none⟩ (x1)).setCell ⟨w.heap.size+1+1,2,none⟩ (x2)).setCell ⟨w.heap.size+1+1,3,none⟩ (x3)).setCell ⟨w.heap.size+1+1,4,none⟩ (x4)).setCell ⟨w.heap.size+1+1,5,none⟩ (x5)).cell? ⟨w.heap.size,2,none⟩=some (.slice cax.l cax.nl cax.cl)∧((((((w'.setCell ⟨w.heap.size+1+1,0,none⟩ (x0)).setCell ⟨w.heap.size+1+1,1,none⟩ (x1)).setCell ⟨w.heap.size+1+1,2,none⟩ (x2)).setCell ⟨w.heap.size+1+1,3,none⟩ (x3)).setCell ⟨w.heap.size+1+1,4,none⟩ (x4)).setCell ⟨w.heap.size+1+1,5,none⟩ (x5)).cell? ⟨w.heap.size,3,none⟩=some (.bool cay.n)∧((((((w'.setCell ⟨w.heap.size+1+1,0,none⟩ (x0)).setCell ⟨w.heap.size+1+1,1,none⟩ (x1)).setCell ⟨w.heap.size+1+1,2,none⟩ (x2)).setCell ⟨w.heap.size+1+1,3,none⟩ (x3)).setCell ⟨w.heap.size+1+1,4,none⟩ (x4)).setCell ⟨w.heap.size+1+1,5,none⟩ (x5)).cell? ⟨w.heap.size,4,none⟩=some (.slice cay.u cay.nu cay.cu)∧((((((w'.setCell ⟨w.heap.size+1+1,0,none⟩ (x0)).setCell ⟨w.heap.size+1+1,1,none⟩ (x1)).setCell ⟨w.heap.size+1+1,2,none⟩ (x2)).setCell ⟨w.heap.size+1+1,3,none⟩ (x3)).setCell ⟨w.heap.size+1+1,4,none⟩ (x4)).setCell ⟨w.heap.size+1+1,5,none⟩ (x5)).cell? ⟨w.heap.size,5,none⟩=some (.slice cay.l cay.nl cay.cl)∧((((((w'.setCell ⟨w.heap.size+1+1,0,none⟩ (x0)).setCell ⟨w.heap.size+1+1,1,none⟩ (x1)).setCell ⟨w.heap.size+1+1,2,none⟩ (x2)).setCell ⟨w.heap.size+1+1,3,none⟩ (x3)).setCell ⟨w.heap.size+1+1,4,none⟩ (x4)).setCell ⟨w.heap.size+1+1,5,none⟩ (x5)).cell? ⟨w.heap.size+1,0,none⟩=some (.bool cbx.n)∧((((((w'.setCell ⟨w.heap.size+1+1,0,none⟩ (x0)).setCell ⟨w.heap.size+1+1,1,none⟩ (x1)).setCell ⟨w.heap.size+1+1,2,none⟩ (x2)).setCell ⟨w.heap.size+1+1,3,none⟩ (x3)).setCell ⟨w.heap.size+1+1,4,none⟩ (x4)).setCell ⟨w.heap.size+1+1,5,none⟩ (x5)).cell? ⟨w.heap.size+1,1,none⟩=some (.slice cbx.u cbx.nu cbx.cu)∧((((((w'.setCell ⟨w.heap.size+1+1,0,none⟩ (x0)).setCell ⟨w.heap.size+1+1,1,none⟩ (x1)).setCell ⟨w.heap.size+1+1,2,none⟩ (x2)).setCell ⟨w.heap.size+1+1,3,none⟩ (x3)).setCell ⟨w.heap.size+1+1,4,none⟩ (x4)).setCell ⟨w.heap.size+1+1,5,none⟩ (x5)).cell? ⟨w.heap.size+1,2,none⟩=some (.slice cbx.l cbx.nl cbx.cl)∧((((((w'.setCell ⟨w.heap.size+1+1,0,none⟩ (x0)).setCell ⟨w.heap.size+1+1,1,none⟩ (x1)).setCell ⟨w.heap.size+1+1,2,none⟩ (x2)).setCell ⟨w.heap.size+1+1,3,none⟩ (x3)).setCell ⟨w.heap.size+1+1,4,none⟩ (x4)).setCell ⟨w.heap.size+1+1,5,none⟩ (x5)).cell? ⟨w.heap.size+1,3,none⟩=some (.bool cbz.n)∧((((((w'.setCell ⟨w.heap.size+1+1,0,none⟩ (x0)).setCell ⟨w.heap.size+1+1,1,none⟩ (x1)).setCell ⟨w.heap.size+1+1,2,none⟩ (x2)).setCell ⟨w.heap.size+1+1,3,none⟩ (x3)).setCell ⟨w.heap.size+1+1,4,none⟩ (x4)).setCell ⟨w.heap.size+1+1,5,none⟩ (x5)).cell? ⟨w.heap.size+1,4,none⟩=some (.slice cbz.u cbz.nu cbz.cu)∧((((((w'.setCell ⟨w.heap.size+1+1,0,none⟩ (x0)).setCell ⟨w.heap.size+1+1,1,none⟩ (x1)).setCell ⟨w.heap.size+1+1,2,none⟩ (x2)).setCell ⟨w.heap.size+1+1,3,none⟩ (x3)).setCell ⟨w.heap.size+1+1,4,none⟩ (x4)).setCell ⟨w.heap.size+1+1,5,none⟩ (x5)).cell? ⟨w.heap.size+1,5,none⟩=some (.slice cbz.l cbz.nl cbz.cl)) := fun w' hb x0 x1 x2 x3 x4 x5 => ⟨((HK0.out.below hb (by rw [HSZ.out]; omega)).off6 (g := w.heap.size+1+1) (by omega) x0 x1 x2 x3 x4 x5).cell 0,((HK0.out.below hb (by rw [HSZ.out]; omega)).off6 (g := w.heap.size+1+1) (by omega) x0 x1 x2 x3 x4 x5).cell 1,((HK0.out.below hb (by rw [HSZ.out]; omega)).off6 (g := w.heap.size+1+1) (by omega) x0 x1 x2 x3 x4 x5).cell 2,((HK0.out.below hb (by rw [HSZ.out]; omega)).off6 (g := w.heap.size+1+1) (by omega) x0 x1 x2 x3 x4 x5).cell 3,((HK0.out.below hb (by rw [HSZ.out]; omega)).off6 (g := w.heap.size+1+1) (by omega) x0 x1 x2 x3 x4 x5).cell 4,((HK0.out.below hb (by rw [HSZ.out]; omega)).off6 (g := w.heap.size+1+1) (by omega) x0 x1 x2 x3 x4 x5).cell 5,((HK1.out.below hb (by rw [HSZ.out]; omega)).off6 (g := w.heap.size+1+1) (by omega) x0 x1 x2 x3 x4 x5).cell 0,((HK1.out.below hb (by rw [HSZ.out]; omega)).off6 (g := w.heap.size+1+1) (by omega) x0 x1 x2 x3 x4 x5).cell 1,((HK1.out.below hb (by rw [HSZ.out]; omega)).off6 (g := w.heap.size+1+1) (by omega) x0 x1 x2 x3 x4 x5).cell 2,((HK1.out.below hb (by rw [HSZ.out]; omega)).off6 (g := w.heap.size+1+1) (by omega) x0 x1 x2 x3 x4 x5).cell 3,((HK1.out.below hb (by rw [HSZ.out]; omega)).off6 (g := w.heap.size+1+1) (by omega) x0 x1 x2 x3 x4 x5).cell 4,((HK1.out.below hb (by rw [HSZ.out]; omega)).off6 (g := w.heap.size+1+1) (by omega) x0 x1 x2 x3 x4 x5).cell 5⟩
 obtain ⟨z0,z1,z2,z3,z4,z5,z6,z7,z8,z9,z10,z11⟩ := HS.out W0 (Below.refl _ _)
 go_region_held3 (fun w' => w'.cell? ⟨w.heap.size,0,none⟩=some (.bool cax.n)∧w'.cell? ⟨w.heap.size,1,none⟩=some (.slice cax.u cax.nu cax.cu)∧w'.cell? ⟨w.heap.size,2,none⟩=some (.slice cax.l cax.nl cax.cl)∧w'.cell? ⟨w.heap.size,3,none⟩=some (.bool cay.n)∧w'.cell? ⟨w.heap.size,4,none⟩=some (.slice cay.u cay.nu cay.cu)∧w'.cell? ⟨w.heap.size,5,none⟩=some (.slice cay.l cay.nl cay.cl)∧w'.cell? ⟨w.heap.size+1,0,none⟩=some (.bool cbx.n)∧w'.cell? ⟨w.heap.size+1,1,none⟩=some (.slice cbx.u cbx.nu cbx.cu)∧w'.cell? ⟨w.heap.size+1,2,none⟩=some (.slice cbx.l cbx.nl cbx.cl)∧w'.cell? ⟨w.heap.size+1,3,none⟩=some (.bool cbz.n)∧w'.cell? ⟨w.heap.size+1,4,none⟩=some (.slice cbz.u cbz.nu cbz.cu)∧w'.cell? ⟨w.heap.size+1,5,none⟩=some (.slice cbz.l cbz.nl cbz.cl)) (first | go_keep | exact hs1 | exact hs2 | exact hkS)
  (first
   | (go_at_call_of 73 (Value.agg #[Value.bool cax.n,Value.slice cax.u cax.nu cax.cu,Value.slice cax.l cax.nl cax.cl]); refine (plus_calls (w := W0.drew) (Hax.out.below (Below.drew (Below.refl _ _))) (Hbx.out.below (Below.drew (Below.refl _ _))) F1.out F3.out HK.out).mono ?_; rintro e w1 ⟨hb1,v1,rfl,hv1⟩; have hbl1 : Below W0.heap.size W0 w1 := (Below.drew (Below.refl _ W0)).trans hb1; obtain ⟨d1,rfl⟩ := qv_open hv1; have hs1 := HS.out w1 hbl1)
   | (go_at_call_of 73 (Value.agg #[Value.bool cay.n,Value.slice cay.u cay.nu cay.cu,Value.slice cay.l cay.nl cay.cl]); refine (plus_calls (Hay.out.below hbl1) (Hbz.out.below hbl1) F2.out F4.out HK.out).mono ?_; rintro e w2 ⟨hb2,v2,rfl,hv2⟩; have hbl2 := hbl1.trans (hb2.mono hbl1.size); obtain ⟨d2,rfl⟩ := qv_open hv2; have hs2 := HS.out w2 hbl2; have hkr := HK2.out.below hbl2 (by rw [HSZ.out]; omega); obtain ⟨r0,r1,r2,r3,r4,r5,f0,f1,f2,f3,f4,f5⟩ := hkr.all6; have hkS := HSS.out w2 hbl2 (.bool d1.n) (.slice d1.u d1.nu d1.cu) (.slice d1.l d1.nl d1.cl) (.bool d2.n) (.slice d2.u d2.nu d2.cu) (.slice d2.l d2.nl d2.cl))
   )
 all_goals
  go_wp2
  obtain ⟨k0,k1,k2,k3,k4,k5,_,_,_,_,_,_⟩ := (hkr.put6 (.bool d1.n) (.slice d1.u d1.nu d1.cu) (.slice d1.l d1.nl d1.cl) (.bool d2.n) (.slice d2.u d2.nu d2.cu) (.slice d2.l d2.nl d2.cl)).all6
  refine bodyPost_ret (v := .agg #[.bool d1.n,.slice d1.u d1.nu d1.cu,.slice d1.l d1.nl d1.cl,.bool d2.n,.slice d2.u d2.nu d2.cu,.slice d2.l d2.nl d2.cl]) (by simp [results,Tryz.results31,go_sem,k0,k1,k2,k3,k4,k5]) rfl ⟨Below.put6 (HB0.out.trans (hbl2.mono HB0.out.size)) (by omega) (.bool d1.n) (.slice d1.u d1.nu d1.cu) (.slice d1.l d1.nl d1.cl) (.bool d2.n) (.slice d2.u d2.nu d2.cu) (.slice d2.l d2.nl d2.cl),_,rfl,?_⟩
  have hst := Stays.put6 hkr (by simp [notLimb]) (.bool d1.n) (.slice d1.u d1.nu d1.cu) (.slice d1.l d1.nl d1.cl) (.bool d2.n) (.slice d2.u d2.nu d2.cu) (.slice d2.l d2.nl d2.cl) rfl rfl rfl rfl rfl rfl
  exact ⟨d1,d2,rfl,hst.qv (hv1.below hb2),hst.qv hv2⟩
theorem wayPlus_calls {w : World} {va vb : Value} {ax ay bx bz : Rat} {k l : Nat} (ha : WV w va ax ay) (hb : WV w vb bx bz) (f1 : QS k ax) (f2 : QS k ay) (f3 : QS l bx) (f4 : QS l bz) (hk : k+l+1≤35184372088640) :
  Calls Tryz.prog 31 #[va,vb] w fun e w' => Below w.heap.size w w'∧∃ v,e=.returned v∧WV w' v (ax+bx) (ay+bz) := by
 obtain ⟨c1,c2,rfl,h1,h2⟩ := ha
 obtain ⟨c3,c4,rfl,h3,h4⟩ := hb
 exact wayPlus_walk h1 h2 h3 h4 f1 f2 f3 f4 hk
end Go.Proofs.YthhnabccdehmgaaGreatDoor
/- ZWW -/
namespace Go.Proofs.YthhnabccdehmgaaGreatDoor
open Go.RowKit Cx
def Wv (x y : Rat) : Fact := ⟨fun v w => WV w v x y,fun hg ⟨c,d,e,h1,h2⟩ => ⟨c,d,e,h1.grows hg,h2.grows hg⟩⟩
theorem cok_wv (x y : Rat) : CellsOk 6 (Wv x y) := fun v w h => by
 obtain ⟨c,d,e,_⟩ := h
 exact ⟨[.bool c.n,.slice c.u c.nu c.cu,.slice c.l c.nl c.cl,.bool d.n,.slice d.u d.nu d.cu,.slice d.l d.nl d.cl],e,rfl,by simp [notLimb,Value.oneCell']⟩
theorem cellsN_W : Tryz.prog.cellsOf 68=6 := by kernel_rfl
theorem loads_W {F : Fact} : Loads Tryz.prog 68 F F := fun w G ⟨cs,hk,hF,_,hln⟩ => by
 rw [cellsN_W] at hln
 match cs,hln with
 | [x0,x1,x2,x3,x4,x5],_ =>
  refine ⟨.agg #[x0,x1,x2,x3,x4,x5],?_,hF⟩
  have k0 : w.cell? ⟨G,0,none⟩=some x0 := hk.cell 0
  have k1 : w.cell? ⟨G,1,none⟩=some x1 := hk.cell 1
  have k2 : w.cell? ⟨G,2,none⟩=some x2 := hk.cell 2
  have k3 : w.cell? ⟨G,3,none⟩=some x3 := hk.cell 3
  have k4 : w.cell? ⟨G,4,none⟩=some x4 := hk.cell 4
  have k5 : w.cell? ⟨G,5,none⟩=some x5 := hk.cell 5
  clear hk hF
  simp [go_sem,k0,k1,k2,k3,k4,k5]
theorem stores_W {F : Fact} (hc : CellsOk 6 F) : Stores Tryz.prog 68 F F := fun w G F0 v ⟨cs,hk,_,hno,hln⟩ hv => by
 obtain ⟨vs,rfl,hlv,hok⟩ := hc v w hv
 rw [cellsN_W] at hln
 match cs,hln,vs,hlv with
 | [x0,x1,x2,x3,x4,x5],_,[y0,y1,y2,y3,y4,y5],_ =>
  have hbx : Boxed w G := ⟨_,_,hk,by decide,hno⟩
  have s0 := save_refl G w
  obtain ⟨w1,r0,b1,s1⟩ := store_next (P := Tryz.prog) hk s0 0 x0 y0 [y0,x1,x2,x3,x4,x5].toArray rfl (hok y0 (by simp)).2 rfl
  obtain ⟨w2,r1,b2,s2⟩ := store_next (P := Tryz.prog) b1 s1 1 x1 y1 [y0,y1,x2,x3,x4,x5].toArray rfl (hok y1 (by simp)).2 rfl
  obtain ⟨w3,r2,b3,s3⟩ := store_next (P := Tryz.prog) b2 s2 2 x2 y2 [y0,y1,y2,x3,x4,x5].toArray rfl (hok y2 (by simp)).2 rfl
  obtain ⟨w4,r3,b4,s4⟩ := store_next (P := Tryz.prog) b3 s3 3 x3 y3 [y0,y1,y2,y3,x4,x5].toArray rfl (hok y3 (by simp)).2 rfl
  obtain ⟨w5,r4,b5,s5⟩ := store_next (P := Tryz.prog) b4 s4 4 x4 y4 [y0,y1,y2,y3,y4,x5].toArray rfl (hok y4 (by simp)).2 rfl
  obtain ⟨w6,r5,b6,s6⟩ := store_next (P := Tryz.prog) b5 s5 5 x5 y5 [y0,y1,y2,y3,y4,y5].toArray rfl (hok y5 (by simp)).2 rfl
  refine ⟨w6,?_,s6,[y0,y1,y2,y3,y4,y5],b6,F.st (Grows.save s6 hbx) hv,all_notLimb hok,by rw [cellsN_W]; rfl⟩
  clear b1 s1 b2 s2 b3 s3 b4 s4 b5 s5 b6 s6 s0 hbx hno hv hok hk
  simp [go_sem,r0,r1,r2,r3,r4,r5]
theorem allocs_W (w : World) : (Instr.alloc 68 true (.tuple #[])).run Tryz.prog w=.ok (.pointer (some ⟨w.heap.size,0,none⟩)) (w.alloc (.cells [.bool false,.slice none 0 0,.slice none 0 0,.bool false,.slice none 0 0,.slice none 0 0].toArray 68)) := by
 simp [go_sem]
theorem zero_W (w : World) : Any.on (.agg [.bool false,.slice none 0 0,.slice none 0 0,.bool false,.slice none 0 0,.slice none 0 0].toArray) w := trivial
theorem boxes_W {F : Fact} (hc : CellsOk 6 F) : Boxes 68 F := fun w v hv => by
 obtain ⟨vs,rfl,hlv,hok⟩ := hc v w hv
 match vs,hlv with
 | [y0,y1,y2,y3,y4,y5],_ =>
  refine ⟨[y0,y1,y2,y3,y4,y5],?_,rfl,all_notLimb hok,by rw [cellsN_W]; rfl⟩
  clear hv hok
  simp [go_sem]
theorem calls_boxes {P : Program} {f : FuncId} {fn : Func} {c : Code} {Fs : List Fact} {vs : List Value} {bx : List (Nat × TypeId × Fact)} {n : Nat} {w0 w : World} {R : Ending→World→Prop} (hf : P.funcs[f]? = some fn) (hb : fn.body=some c) (hn : fn.ntmps=n) (hle : Fs.length≤n)
  (bel : Below w0.heap.size w0 w) (hall : All2 w Fs vs) (hbx : ∀ (k G : Nat) (t : TypeId) (F : Fact),bx[k]? = some (G,t,F)→w0.heap.size≤G∧BoxIs w G t F) (hnd : (bx.map (·.1)).Nodup)
  (h : ∀ a : Act,AS w0 n (numb 0 Fs) bx a w→c.wp P (bodyPost P fn R) a w) : Calls P f vs.toArray w R := by
 refine calls_of_wp hf hb (h _ ⟨bel,?_,rfl,?_,hbx,hnd⟩)
 ·have := hall.len
  simp [hn]
  omega
 ·intro t G hm
  obtain ⟨k,e,hk⟩ := numb_get hm
  rw [Nat.zero_add] at e
  subst e
  obtain ⟨v,hv,hG⟩ := hall.get hk
  have hlt : t < vs.length := (List.getElem?_eq_some_iff.1 hv).1
  have : (vs.toArray ++ Array.replicate (fn.ntmps - vs.toArray.size) undef).getD t undef=v := by
   rw [Array.getD_eq_getD_getElem?,Array.getElem?_append_left (by simpa using hlt)]
   simp [hv]
  rw [this]
  exact hG
def cutW (B : Nat) (w : World) : World := { w with heap := w.heap.extract 0 B }
theorem cutW_size {B : Nat} {w : World} (h : B≤w.heap.size) : (cutW B w).heap.size=B := by
 simp [cutW]
 omega
theorem cutW_below {B : Nat} {w : World} (h : B≤w.heap.size) : Below (cutW B w).heap.size (cutW B w) w := by
 rw [cutW_size h]
 exact ⟨rfl,rfl,rfl,by rw [cutW_size h]; exact h,fun k hk => by
  simp only [cutW,Array.getElem?_extract]
  rw [if_pos (by omega),Nat.zero_add]⟩
theorem cutW_back {B : Nat} {w w' : World} (h : B≤w.heap.size) (hb : Below (cutW B w).heap.size (cutW B w) w') (hs : w.heap.size≤w'.heap.size) : Below B w w' := by
 rw [cutW_size h] at hb
 exact ⟨hb.os,hb.tape,hb.output,hs,fun k hk => by
  rw [hb.block k hk]
  simp only [cutW,Array.getElem?_extract]
  rw [if_pos (by omega),Nat.zero_add]⟩
theorem en_way_Way_Times (vs : Array Value) (w : World) : (callFunc 72 vs).run Tryz.prog w=.ok (.enter 72 vs) w := enters Tryz.func72 (by kernel_rfl) (by kernel_rfl) vs w
theorem en_way_Way_Plus (vs : Array Value) (w : World) : (callFunc 31 vs).run Tryz.prog w=.ok (.enter 31 vs) w := enters Tryz.func31 (by kernel_rfl) (by kernel_rfl) vs w
theorem con_wtimes {x y q : Rat} {k l : Nat} (f1 : QS k x) (f2 : QS k y) (f3 : QS l q) (hk : k+l+1≤35184372088640) : Con Tryz.prog NoPre 72 [Wv x y,Qv q] (Wv (x*q) (y*q)) := fun w vs _ h => by
 obtain ⟨u,v,rfl,h0,h1⟩ := all2_two h
 exact (wayTimes_calls h0 h1 f1 f2 f3 hk).mono fun e w' ⟨hb,v,e1,h⟩ => ⟨hb,v,e1,h⟩
theorem con_wplus {x y u v : Rat} {k l : Nat} (f1 : QS k x) (f2 : QS k y) (f3 : QS l u) (f4 : QS l v) (hk : k+l+1≤35184372088640) : Con Tryz.prog NoPre 31 [Wv x y,Wv u v] (Wv (x+u) (y+v)) := fun w vs _ h => by
 obtain ⟨p,q,rfl,h0,h1⟩ := all2_two h
 exact (wayPlus_calls h0 h1 f1 f2 f3 f4 hk).mono fun e w' ⟨hb,v,e1,h⟩ => ⟨hb,v,e1,h⟩
end Go.Proofs.YthhnabccdehmgaaGreatDoor
/- GWK -/
namespace Go.Proofs.YthhnabccdehmgaaGreatDoor
open Go.RowKit Cx
theorem walker1_calls {w : World} {B go gb : Nat} {vn : Value} {n ox oy bx bY zx zy : Rat} {k l m : Nat} (hBw : B≤w.heap.size) (hgo : B≤go) (hgb : B≤gb) (hne : go ≠ gb) (hn : QV w vn n) (ho : BoxIs w go 68 (Wv ox oy)) (hb : BoxIs w gb 68 (Wv bx bY))
  (fbx : QS k bx) (fby : QS k bY) (fn : QS l n) (fox : QS m ox) (foy : QS m oy) (hk1 : k+l+1≤35184372088640) (hk2 : m+(k+l)+1≤35184372088640) (ezx : ox+bx*n=zx) (ezy : oy+bY*n=zy) :
  Calls Tryz.prog 71 #[vn,.pointer (some ⟨go,0,none⟩),.pointer (some ⟨gb,0,none⟩)] w fun e w' => Below B w w'∧Grows w w'∧∃ v,e=.returned v∧(Tup [Wv zx zy,Wv bx bY]).on v w'∧BoxIs w' go 68 (Wv bx bY)∧BoxIs w' gb 68 (Wv zx zy) := by
 refine calls_boxes (w0 := cutW B w) (n := 14) (Fs := [Qv n,Jus (.pointer (some ⟨go,0,none⟩)),Jus (.pointer (some ⟨gb,0,none⟩))]) (vs := [vn,.pointer (some ⟨go,0,none⟩),.pointer (some ⟨gb,0,none⟩)]) (bx := [(go,68,Wv ox oy),(gb,68,Wv bx bY)]) Tryz.func71 rfl rfl (Nat.le_of_ble_eq_true rfl) (cutW_below hBw) ⟨hn,rfl,rfl,trivial⟩ ?_ ?_ ?_
 ·intro j G t F hj
  rw [cutW_size hBw]
  match j,hj with
  | 0,hj => cases hj; exact ⟨hgo,ho⟩
  | 1,hj => cases hj; exact ⟨hgb,hb⟩
  | j+2,hj => simp at hj
 ·simp [hne]
 intro a0 S0
 have HPRE : ∀ w',Below (cutW B w).heap.size (cutW B w) w'→NoPre w' := fun _ _ => trivial
 refine wp_seq ?_
 refine region_abs2 [.alloc 63 (Qv n),.alloc 68 (Any),.alloc 68 (Any)] ⟨S0,by decide +kernel⟩ (by kernel_rfl) (by kernel_rfl) rfl (by kernel_rfl) ?_ ?_
 ·intro C
  refine ASteps.cons ?_ (ASteps.cons ?_ (ASteps.cons ?_ (ASteps.nil)))
  ·exact step_box rfl rfl (want_none rfl) rfl (no_fill (by kernel_rfl)) (opn_old C 0 (by kernel_rfl) rfl) (boxes_Q (cok_qv _))
  ·exact step_new [.bool false,.slice none 0 0,.slice none 0 0,.bool false,.slice none 0 0,.slice none 0 0] zero_W rfl rfl (want_none rfl) rfl (no_fill (by kernel_rfl)) allocs_W (by simp [notLimb]) (by kernel_rfl)
  ·exact step_new [.bool false,.slice none 0 0,.slice none 0 0,.bool false,.slice none 0 0,.slice none 0 0] zero_W rfl rfl (want_none rfl) rfl (no_fill (by kernel_rfl)) allocs_W (by simp [notLimb]) (by kernel_rfl)
 intro γ a1 w1 Z1 S1
 replace S1 : AS (cutW B w) 14 [(5,Jus (.pointer (some ⟨γ 2,0,none⟩))),(4,Jus (.pointer (some ⟨γ 1,0,none⟩))),(3,Jus (.pointer (some ⟨γ 0,0,none⟩))),(1,Jus (.pointer (some ⟨go,0,none⟩))),(2,Jus (.pointer (some ⟨gb,0,none⟩)))] [(go,68,Wv ox oy),(gb,68,Wv bx bY),(γ 0,63,Qv n),(γ 1,68,Any),(γ 2,68,Any)] a1 w1 := cast (by kernel_rfl) (S1.keep [1,2,3,4,5])
 generalize γ 0=G1_0 at S1
 generalize γ 1=G1_1 at S1
 generalize γ 2=G1_2 at S1
 clear S0
 refine then_normal ?_
 refine wp_seq ?_
 refine region_abs2 [.pure (Wv ox oy),.pure (Wv bx bY),.pure (Qv n),.pure (Wv (bx*n) (bY*n)),.pure (Wv zx zy),.pure (Wv bx bY),.over 1 (Wv zx zy),.over 0 (Wv bx bY)] ⟨S1,by decide +kernel⟩ (by kernel_rfl) (by kernel_rfl) rfl (by kernel_rfl) ?_ ?_
 ·intro C
  refine ASteps.cons ?_ (ASteps.cons ?_ (ASteps.cons ?_ (ASteps.cons ?_ (ASteps.cons ?_ (ASteps.cons ?_ (ASteps.cons ?_ (ASteps.cons ?_ (ASteps.nil))))))))
  ·exact step_load (k := 0) rfl rfl rfl (want_none rfl) rfl (opn_old C 3 (by kernel_rfl) rfl) (over_waits (s0 := 7) (k := 2) (by kernel_rfl) rfl rfl rfl rfl) loads_W
  ·exact step_load (k := 1) rfl rfl rfl (want_none rfl) rfl (opn_old C 4 (by kernel_rfl) rfl) (over_waits (s0 := 6) (k := 3) (by kernel_rfl) rfl rfl rfl rfl) loads_W
  ·exact step_load (k := 2) rfl rfl rfl (want_none rfl) rfl (opn_old C 2 (by kernel_rfl) rfl) (no_over (by kernel_rfl)) loads_Q
  ·exact step_call HPRE rfl rfl (want_none rfl) rfl en_way_Way_Times (Opns.cons (opn_new C 1 0 rfl rfl rfl rfl rfl rfl) (Opns.cons (opn_new C 2 1 rfl rfl rfl rfl rfl rfl) Opns.nil)) ((con_wtimes fbx fby fn hk1))
  ·exact step_call HPRE rfl rfl (want_none rfl) rfl en_way_Way_Plus (Opns.cons (opn_new C 0 0 rfl rfl rfl rfl rfl rfl) (Opns.cons (opn_new C 3 1 rfl rfl rfl rfl rfl rfl) Opns.nil)) ((ezx ▸ ezy ▸ con_wplus fox foy (QS.mul fbx fn) (QS.mul fby fn) hk2))
  ·exact step_load (k := 1) rfl rfl rfl (want_none rfl) rfl (opn_old C 4 (by kernel_rfl) rfl) (over_waits (s0 := 6) (k := 7) (by kernel_rfl) rfl rfl rfl rfl) loads_W
  ·exact step_over C (k := 1) rfl rfl rfl (want_none rfl) rfl (opn_old C 4 (by kernel_rfl) rfl) (by decide) (one_over (by kernel_rfl)) (opn_new C 4 0 rfl rfl rfl rfl rfl rfl) (stores_W (cok_wv _ _))
  ·exact step_over C (k := 0) rfl rfl rfl (want_none rfl) rfl (opn_old C 3 (by kernel_rfl) rfl) (by decide) (one_over (by kernel_rfl)) (opn_new C 5 0 rfl rfl rfl rfl rfl rfl) (stores_W (cok_wv _ _))
 intro γ a2 w2 Z2 S2
 replace S2 : AS (cutW B w) 14 [(5,Jus (.pointer (some ⟨G1_2,0,none⟩))),(4,Jus (.pointer (some ⟨G1_1,0,none⟩))),(1,Jus (.pointer (some ⟨go,0,none⟩))),(2,Jus (.pointer (some ⟨gb,0,none⟩)))] [(go,68,Wv bx bY),(gb,68,Wv zx zy),(G1_0,63,Qv n),(G1_1,68,Any),(G1_2,68,Any)] a2 w2 := cast (by kernel_rfl) (S2.keep [1,2,4,5])
 clear S1
 refine then_normal ?_
 refine wp_seq ?_
 refine region_abs2 [.pure (Wv zx zy),.pure (Wv bx bY),.over 3 (Wv zx zy),.over 4 (Wv bx bY)] ⟨S2,by decide +kernel⟩ (by kernel_rfl) (by kernel_rfl) rfl (by kernel_rfl) ?_ ?_
 ·intro C
  refine ASteps.cons ?_ (ASteps.cons ?_ (ASteps.cons ?_ (ASteps.cons ?_ (ASteps.nil))))
  ·exact step_load (k := 1) rfl rfl rfl (want_none rfl) rfl (opn_old C 3 (by kernel_rfl) rfl) (no_over (by kernel_rfl)) loads_W
  ·exact step_load (k := 0) rfl rfl rfl (want_none rfl) rfl (opn_old C 2 (by kernel_rfl) rfl) (no_over (by kernel_rfl)) loads_W
  ·exact step_over C (k := 3) rfl rfl rfl (want_none rfl) rfl (opn_old C 1 (by kernel_rfl) rfl) (by decide) (one_over (by kernel_rfl)) (opn_new C 0 0 rfl rfl rfl rfl rfl rfl) (stores_W (cok_wv _ _))
  ·exact step_over C (k := 4) rfl rfl rfl (want_none rfl) rfl (opn_old C 0 (by kernel_rfl) rfl) (by decide) (one_over (by kernel_rfl)) (opn_new C 1 0 rfl rfl rfl rfl rfl rfl) (stores_W (cok_wv _ _))
 intro γ a3 w3 Z3 S3
 replace S3 : AS (cutW B w) 14 [(5,Jus (.pointer (some ⟨G1_2,0,none⟩))),(4,Jus (.pointer (some ⟨G1_1,0,none⟩)))] [(go,68,Wv bx bY),(gb,68,Wv zx zy),(G1_0,63,Qv n),(G1_1,68,Wv zx zy),(G1_2,68,Wv bx bY)] a3 w3 := cast (by kernel_rfl) (S3.keep [4,5])
 clear S2
 refine then_normal ?_
 refine wp_ret ?_
 exact S3.ret22 1 3 0 4 rfl rfl rfl loads_W rfl rfl loads_W fun v hv => ⟨cutW_back hBw S3.bel (Z1.trans (Z2.trans Z3)).size,(Z1.trans (Z2.trans Z3)),v,rfl,hv,(S3.box 0 _ _ _ rfl).2,(S3.box 1 _ _ _ rfl).2⟩
end Go.Proofs.YthhnabccdehmgaaGreatDoor
/- VA -/
namespace Cx
open Go
abbrev AC := Sum Value (Nat × Nat × Nat × Nat × Nat)
abbrev A1 := Bool × List AC
abbrev AV := Bool × List A1
abbrev HB := Nat × List AC
abbrev Nd := Nat × List Nat
structure Sx where
 P : Program
 N : List Nd
 H : List (Nat × Nat × Nat × Nat)
 K : List (FuncId × List AC)
 L : List (List Nat × Nat)
 pr : List (FuncId × Nat)
 nb : List Nat
 eqT : List (TypeId × Nat)
 Z : List Nat
 C : List (List Nat × Nat)
def v1 (c : AC) : AV := (false,[(false,[c])])
def vA (cs : List AC) : AV := (false,[(true,cs)])
def kB (b : Bool) : AV := v1 (.inl (.bool b))
def kI (z : Int) : AV := v1 (.inl (.int .i64 z))
def ptr (b o : Nat) : AC := .inr (3,b,o,0,0)
def slc (b o n c : Nat) : AC := .inr (4,b,o,n,c)
def ifO {α : Type} (b : Bool) (x : Option α) : Option α := bif b then x else none
def mapO {α β : Type} (f : α→Option β) : List α→Option (List β)
 | [] => some []
 | a :: ar => (f a).bind fun b => (mapO f ar).map fun bs => b :: bs
def beqL : List Nat→List Nat→Bool
 | [],[] => true
 | a :: ar,b :: bs => Nat.beq a b && beqL ar bs
 | _,_ => false
def memN (b : Nat) : List Nat→Bool
 | [] => false
 | c :: cs => Nat.beq b c || memN b cs
def meets : List Nat→List Nat→Bool
 | [],_ => false
 | a :: ar,bs => memN a bs || meets ar bs
def asC : AV→Option AC
 | (false,[(false,[c])]) => some c
 | _ => none
def asA : AV→Option (List AC)
 | (false,[(true,cs)]) => some cs
 | _ => none
def asL : AV→Option (List AC)
 | (false,[(true,cs)]) => some cs
 | (false,[(false,[c])]) => some [c]
 | _ => none
def asT : AV→Option (List A1)
 | (true,xs) => some xs
 | _ => none
def acB : AC→Option Bool
 | .inl (.bool b) => some b
 | _ => none
def acI : AC→Option Int
 | .inl (.int .i64 z) => some z
 | _ => none
def acP : AC→Option (Nat × Nat)
 | .inr (k,b,o,_,_) => ifO (Nat.beq k 3) (some (b,o))
 | _ => none
def acS : AC→Option (Nat × Nat × Nat × Nat)
 | .inr (k,b,o,n,c) => ifO (Nat.beq k 4) (some (b,o,n,c))
 | _ => none
def acR : AC→Option (Nat × Nat × Nat)
 | .inr (k,b,o,n,_) => ifO (Nat.beq k 4 || Nat.beq k 6) (some (b,o,n))
 | _ => none
def acO : AC→Option (Nat × Nat × Nat × Nat)
 | .inr (k,b,o,n,c) => ifO (Nat.beq k 6) (some (b,o,n,c))
 | _ => none
def isNilC : AC→Bool
 | .inl (.slice none 0 0) => true
 | _ => false
def acE : AC→Option Nat
 | .inr (k,f,_) => ifO (Nat.beq k 7) (some f)
 | _ => none
def acH : AC→Option (Nat × Nat × Nat)
 | .inr (k,a,o,n,_) => ifO (Nat.beq k 8) (some (a,o,n))
 | _ => none
def acHP : AC→Option (Nat × Nat)
 | .inr (k,a,o,_,_) => ifO (Nat.beq k 9) (some (a,o))
 | _ => none
def acHL : AC→Option Nat
 | .inr (k,a,_,_,_) => ifO (Nat.beq k 10) (some a)
 | _ => none
def acLen (c : AC) : Option Nat := bif isNilC c then some 0 else match acE c with
 | some _ => some 0
 | none => match acH c with
  | some p => some p.2.2
  | none => (acR c).map (·.2.2)
def acF : AC→Option Nat
 | .inr (k,i,_,_,_) => ifO (Nat.beq k 5) (some i)
 | _ => none
def acX (k' : Nat) : AC→Option Nat
 | .inr (k,j,a,_,_) => ifO (Nat.beq k 0 && Nat.beq j k') (some a)
 | _ => none
def acSg : AC→Option Nat
 | .inr (k,j,a,_,_) => ifO (Nat.beq k 0 && (Nat.beq j 4 || Nat.beq j 5)) (some a)
 | _ => none
def asB (v : AV) : Option Bool := (asC v).bind acB
def asI (v : AV) : Option Int := (asC v).bind acI
def asP (v : AV) : Option (Nat × Nat) := (asC v).bind acP
def asS (v : AV) : Option (Nat × Nat × Nat × Nat) := (asC v).bind acS
def asR (v : AV) : Option (Nat × Nat × Nat) := (asC v).bind acR
def asO (v : AV) : Option (Nat × Nat × Nat × Nat) := (asC v).bind acO
def empC (f : Nat) : AC := .inr (7,f,0,0,0)
def asN (v : AV) : Option Nat := (asI v).bind fun z => match z with
 | .ofNat n => some n
 | _ => none
def hget (b : Nat) : List HB→Option (List AC)
 | [] => none
 | (c,x) :: h => bif Nat.beq b c then some x else hget b h
def hset (b : Nat) (cs : List AC) : List HB→List HB
 | [] => []
 | (c,x) :: h => (bif Nat.beq b c then (b,cs) else (c,x)) :: hset b cs h
def tget (t : Nat) : List (Nat × AV)→Option AV
 | [] => none
 | (u,v) :: tm => bif Nat.beq t u then some v else tget t tm
def tdel (t : Nat) : List (Nat × AV)→List (Nat × AV)
 | [] => []
 | (u,v) :: tm => bif Nat.beq t u then tdel t tm else (u,v) :: tdel t tm
def ndFrom (op : Nat) (ar : List Nat) : Nat→List Nd→Option Nat
 | _,[] => none
 | i,(p,bs) :: ns => bif Nat.beq op p && beqL ar bs then some i else ndFrom op ar (i+1) ns
def Sx.nd (S : Sx) (op : Nat) (ar : List Nat) : Option Nat := ndFrom op ar 0 S.N
def knFrom (k a b : Nat) : List (Nat × Nat × Nat × Nat)→Option Nat
 | [] => none
 | (k',a',b',r) :: hs => bif Nat.beq k k' && (Nat.beq a a' && Nat.beq b b') then some r else knFrom k a b hs
def Sx.kn (S : Sx) (k a b : Nat) : Option Nat := knFrom k a b S.H
def notLm : Value→Bool
 | .int .u32 _ => false
 | _ => true
def okV (v : Value) : Bool := notLm v && v.oneCell'
def isAggB (P : Program) (t : TypeId) : Option Bool := (P.underlying t).map fun d => match d with
 | .struct _ => true
 | .array _ _ => true
 | _ => false
def sizeB (P : Program) (t : TypeId) : Option Nat := (P.info? t).map (·.size)
def zeroB (P : Program) (t : TypeId) : Option (List AC) :=
 (P.info? t).bind fun i => i.zero.bind fun z => ifO (z.cells.toList.all okV) (some (z.cells.toList.map Sum.inl))
def structB (P : Program) (t : TypeId) : Option (List Field) := (P.underlying t).bind fun d => match d with
 | .struct fs => some fs.toList
 | _ => none
def arrayB (P : Program) (t : TypeId) : Option (Nat × TypeId) := (P.underlying t).bind fun d => match d with
 | .array n e => some (n,e)
 | _ => none
def sliceT (P : Program) (t : TypeId) : Option TypeId := (P.underlying t).bind fun d => match d with
 | .slice e => some e
 | _ => none
def partB (P : Program) (t : TypeId) (cs : List AC) (o : Nat) : Option AV :=
 (isAggB P t).bind fun a => (sizeB P t).bind fun n =>
  bif a then ifO (Nat.ble (o+n) cs.length) (some (vA ((cs.drop o).take n))) else cs[o]?.map v1
def putL (cs : List AC) (o : Nat) (ds : List AC) : Option (List AC) :=
 ifO (Nat.ble (o+ds.length) cs.length) (some (cs.take o ++ (ds ++ cs.drop (o+ds.length))))
def fillB (place : Nat→Option (Nat × Nat)) : List AC→List (Nat × List AC)→Option (List AC)
 | cs,[] => some cs
 | cs,(i,ds) :: ps => (place i).bind fun p => ifO (Nat.beq ds.length p.2) ((putL cs p.1 ds).bind fun cs' => fillB place cs' ps)
structure OR where
 res : Option AV
 rd : List Nat
 wr : List Nat
 h : List HB
 nx : Nat
def pureR (h : List HB) (nx : Nat) (v : AV) : OR := { res := some v,rd := [],wr := [],h := h,nx := nx }
def newR (h : List HB) (nx : Nat) (cs : List AC) (c : AC) : OR := { res := some (v1 c),rd := [],wr := [],h := h ++ [(nx,cs)],nx := nx+1 }
def eqvB : Value→Value→Bool
 | .pointer none,.pointer none => true
 | .bool a,.bool b => a == b
 | .int .i64 x,.int .i64 y => decide (x=y)
 | .slice none 0 0,.slice none 0 0 => true
 | .string a,.string b => decide (a=b)
 | _,_ => false
def acsB : List AC→List AC→Bool
 | [],[] => true
 | .inr (k,a,b,c,d) :: x,.inr (k',a',b',c',d') :: y => (Nat.beq k k' && (Nat.beq a a' && (Nat.beq b b' && (Nat.beq c c' && Nat.beq d d')))) && acsB x y
 | _,_ => false
def acsW : List AC→List AC→Bool
 | [],[] => true
 | .inr (k,a,b,c,d) :: x,.inr (k',a',b',c',d') :: y => (Nat.beq k k' && (Nat.beq a a' && (Nat.beq b b' && (Nat.beq c c' && Nat.beq d d')))) && acsW x y
 | .inl u :: x,.inl v :: y => eqvB u v && acsW x y
 | _,_ => false
def noClo : List AC→Bool
 | [] => true
 | .inr (k,_) :: cs => !Nat.beq k 5 && noClo cs
 | .inl _ :: cs => noClo cs
def cloOk (K : List (FuncId × List AC)) : List AC→Bool
 | [] => true
 | .inr (k,a,_) :: cs => (!Nat.beq k 5 || (match K[a]? with
  | some (_,ds) => noClo ds
  | none => false)) && cloOk K cs
 | .inl _ :: cs => cloOk K cs
def cloFrom (f : FuncId) (cs : List AC) : Nat→List (FuncId × List AC)→Option Nat
 | _,[] => none
 | i,(g,ds) :: ks => bif Nat.beq f g && acsB cs ds then some i else cloFrom f cs (i+1) ks
def acIds (S : Sx) : Nat→AC→List Nat
 | _,.inl _ => []
 | 0,.inr (k,b,_) => bif Nat.beq k 3 || (Nat.beq k 4 || Nat.beq k 6) then [b] else []
 | d+1,.inr (k,b,_) => bif Nat.beq k 3 || (Nat.beq k 4 || Nat.beq k 6) then [b] else bif Nat.beq k 5 then (match S.K[b]? with
   | some (_,cs) => cs.flatMap (acIds S d)
   | none => []) else []
def idsOf (S : Sx) (v : AV) : List Nat := v.2.flatMap fun x => x.2.flatMap (acIds S 2)
def reach (S : Sx) (h : List HB) : Nat→List Nat→List Nat
 | 0,ids => ids
 | n+1,ids => match ids with
  | [] => []
  | _ => ids ++ reach S h n (ids.flatMap fun b => match hget b h with
   | some cs => cs.flatMap (acIds S 2)
   | none => [])
def inI64 (z : Int) : Bool := decide (-9223372036854775808≤z) && decide (z≤9223372036854775807)
def intOp (op : BinOp) (x y : Int) : Option AV :=
 match op with
 | .add => ifO (inI64 (x+y)) (some (kI (x+y)))
 | .sub => ifO (inI64 (x - y)) (some (kI (x - y)))
 | .mul => ifO (inI64 (x*y)) (some (kI (x*y)))
 | .eql => some (kB (x == y))
 | .neq => some (kB (x != y))
 | .lss => some (kB (decide (x < y)))
 | .leq => some (kB (decide (x≤y)))
 | .gtr => some (kB (decide (x > y)))
 | .geq => some (kB (decide (x ≥ y)))
 | .rem => ifO (!decide (y=0) && inI64 (x.tmod y)) (some (kI (x.tmod y)))
 | .quo => ifO (decide (0≤x) && (decide (0 < y) && inI64 (x / y))) (some (kI (x / y)))
 | _ => none
def sgnOp (S : Sx) (op : BinOp) (a : Nat) : Option Bool :=
 match op with
 | .eql => (S.kn 0 a 0).map (Nat.beq 1)
 | .neq => (S.kn 0 a 0).map (fun r => !Nat.beq 1 r)
 | .lss => (S.kn 1 a 0).map (Nat.beq 1)
 | .geq => (S.kn 1 a 0).map (fun r => !Nat.beq 1 r)
 | .gtr => (S.kn 2 a 0).map (Nat.beq 1)
 | .leq => (S.kn 2 a 0).map (fun r => !Nat.beq 1 r)
 | _ => none
def litNode (bs : List Nat) : List (List Nat × Nat)→Option Nat
 | [] => none
 | (l,i) :: ls => bif beqL bs l then some i else litNode bs ls
def bytesN (s : ByteArray) : List Nat := s.data.toList.map UInt8.toNat
def acStr : AC→Option ByteArray
 | .inl (.string s) => some s
 | _ => none
def acTold : AC→Option Nat
 | .inr (k,a,_) => ifO (Nat.beq k 1) (some a)
 | _ => none
def acPar : AC→Option Nat
 | .inr (k,a,_) => ifO (Nat.beq k 2) (some a)
 | _ => none
def zOk (S : Sx) (a : Nat) : Bool := match S.Z[a]? with
 | some z => Nat.ble z 6442450910
 | none => false
def txNode (S : Sx) (c : AC) : Option Nat :=
 match acTold c with
 | some a => ifO (zOk S a) (some a)
 | none => match acPar c with
  | some j => S.nd 1 [j]
  | none => (acStr c).bind fun s => litNode (bytesN s) S.L
def txEq (S : Sx) (c d : AC) : Option Bool :=
 match acTold c with
 | some a => (match acTold d with
  | some b => bif Nat.beq a b then some true else (S.kn 3 a b).map (Nat.beq 1)
  | none => (acStr d).bind fun s => (match bytesN s with
   | [] => some false
   | l => (litNode l S.C).bind fun b => (S.kn 4 a b).map (Nat.beq 1)))
 | none => (acStr c).bind fun s => (acStr d).map fun t => beqL (bytesN s) (bytesN t)
def txsEq (S : Sx) : List AC→List AC→Option Bool
 | [],[] => some true
 | a :: ar,b :: bs => (txEq S a b).bind fun r => (txsEq S ar bs).map fun s => r && s
 | _,_ => none
def sqF (S : Sx) : Nat→List Nat→Option Nat
 | s,[] => some s
 | s,a :: l => (S.nd 4 [a,a]).bind fun b => (S.nd 2 [s,b]).bind fun t => sqF S t l
def sqN (S : Sx) : List Nat→Option Nat
 | [] => none
 | a :: l => (S.nd 4 [a,a]).bind fun s => sqF S s l
def diffsB (S : Sx) : List Nat→List Nat→Option (List Nat)
 | a :: l,b :: m => (S.nd 3 [a,b]).bind fun d => (diffsB S l m).map fun r => d :: r
 | [],[] => some []
 | _,_ => none
def parEq (S : Sx) : List AC→List AC→Option Bool
 | [x,y],[u,v] => (acTold x).bind fun a => (acTold y).bind fun b => (acPar u).bind fun i => (acPar v).bind fun j => (S.nd 7 [a,b,i,j]).bind fun n => (S.kn 0 n 0).map (Nat.beq 1)
 | _,_ => none
def strEq (S : Sx) (ar bs : List AC) : Option Bool := match txsEq S ar bs with
 | some r => some r
 | none => match parEq S ar bs with
 | some r => some r
 | none => (mapO acTold ar).bind fun l => (mapO acTold bs).bind fun m => (diffsB S l m).bind fun ds => (sqN S ds).bind fun s => (S.kn 0 s 0).map (Nat.beq 1)
def prGet (f : Nat) : List (FuncId × Nat)→Option Nat
 | [] => none
 | (g,c) :: l => bif Nat.beq f g then some c else prGet f l
def isBoolB (P : Program) (t : TypeId) : Bool := match P.underlying t with
 | some .bool => true
 | _ => false
def eqZL : List Int→List Int→Bool
 | [],[] => true
 | a :: l,b :: m => (a == b) && eqZL l m
 | _,_ => false
def arrZ (S : Sx) (op : BinOp) (t : TypeId) (x y : AV) : Option AV := (prGet t S.eqT).bind fun n => (asA x).bind fun ar => (asA y).bind fun bs => (mapO acI ar).bind fun l => (mapO acI bs).bind fun m => ifO (Nat.beq n (l.length+1000) && Nat.beq m.length l.length) (match op with
  | .eql => some (kB (eqZL l m))
  | .neq => some (kB (!eqZL l m))
  | _ => none)
def eqlB (S : Sx) (op : BinOp) (t : TypeId) (x y : AV) : Option AV :=
 match (asC x).bind fun a => (asC y).bind fun b => txEq S a b with
 | some r => (match op with
  | .eql => some (kB r)
  | .neq => some (kB (!r))
  | _ => none)
 | none => (prGet t S.eqT).bind fun n => (asA x).bind fun ar => (asA y).bind fun bs => ifO ((Nat.beq ar.length n && Nat.beq bs.length n) && Nat.blt n 1000) (match op with
  | .eql => (strEq S ar bs).map kB
  | .neq => (strEq S ar bs).map (fun r => kB (!r))
  | _ => none)
def sgnB (S : Sx) (a : Nat) : AV := match S.kn 5 a 0 with
 | some 0 => kI (-1)
 | some 1 => kI 0
 | some 2 => kI 1
 | _ => v1 (.inr (0,4,a,0,0))
def mulSg (S : Sx) (op : BinOp) (x y : AV) : Option AV :=
 match op with
 | .mul => ((asC x).bind (acX 4)).bind fun a => ((asC y).bind (acX 4)).bind fun b => (S.nd 4 [a,b]).map (sgnB S)
 | _ => none
def intNode (S : Sx) : Int→Option Nat
 | .ofNat n => S.nd 0 [0,n,1]
 | .negSucc n => S.nd 0 [1,n+1,1]
def cmpNode (S : Sx) (b : Int) (c : AC) : Option Nat := match acX 6 c with
 | some a => (intNode S b).bind fun k => S.nd 3 [a,k]
 | none => (acSg c).bind fun a => ifO (decide (b=0)) (some a)
def zerOp (S : Sx) (op : BinOp) (b : Int) (a : Nat) : Option Bool := ifO (decide (b=0)) (match op with
 | .eql => (S.kn 0 a 0).map (Nat.beq 1)
 | .neq => (S.kn 0 a 0).map (fun r => !Nat.beq 1 r)
 | _ => none)
def nilS (P : Program) (op : BinOp) (t : TypeId) (x y : AV) : Option AV := (sliceT P t).bind fun _ => (asC y).bind fun d => (asC x).bind fun c =>
 ifO (isNilC d) ((bif isNilC c then some true else (acR c).map fun _ => false).bind fun r => match op with
  | .eql => some (kB r)
  | .neq => some (kB (!r))
  | _ => none)
def isNilP : AC→Bool
 | .inl (.pointer none) => true
 | _ => false
def nilP (P : Program) (op : BinOp) (t : TypeId) (x y : AV) : Option AV := (P.underlying t).bind fun u => (asC y).bind fun d => (asC x).bind fun c =>
 ifO (isNilP d && (match u with
  | .pointer _ => true
  | _ => false)) ((bif isNilP c then some true else (acX 0 c).map fun _ => false).bind fun r => match op with
  | .eql => some (kB r)
  | .neq => some (kB (!r))
  | _ => none)
def binB (S : Sx) (op : BinOp) (t : TypeId) (x y : AV) : Option AV :=
 match asI y with
 | some b => (match asI x with
  | some a => intOp op a b
  | none => match (asC x).bind (acX 7) with
   | some a => (zerOp S op b a).map kB
   | none => ((asC x).bind (cmpNode S b)).bind fun a => (sgnOp S op a).map kB)
 | none => match asB y with
  | some b => (asB x).bind fun a => ifO (isBoolB S.P t) (match op with
   | .eql => some (kB (a == b))
   | .neq => some (kB (a != b))
   | _ => none)
  | none => match mulSg S op x y with
   | some v => some v
   | none => match arrZ S op t x y with
   | some v => some v
   | none => match nilS S.P op t x y with
   | some v => some v
   | none => match nilP S.P op t x y with
   | some v => some v
   | none => eqlB S op t x y
def bndI (d : Nat) : Option (Option AV)→Option Nat
 | none => some d
 | some (some x) => asN x
 | some none => none
def sliceB (P : Program) (t : TypeId) (x : AV) (lo hi : Option (Option AV)) : Option AV :=
 match arrayB P t with
 | some (n,e) => (asP x).bind fun p => (bndI n hi).bind fun h => (bndI 0 lo).bind fun l => (sizeB P e).bind fun z =>
   ifO (Nat.ble l h && (Nat.ble h n && Nat.blt l n)) (some (v1 (slc p.1 (p.2+l*z) (h - l) (n - l))))
 | none => (sliceT P t).bind fun e => (sizeB P e).bind fun z => match asS x with
  | some p => (bndI p.2.2.1 hi).bind fun h => (bndI 0 lo).bind fun l =>
    ifO (Nat.ble l h && Nat.ble h p.2.2.2) (some (v1 (bif Nat.blt l p.2.2.2 then slc p.1 (p.2.1+l*z) (h - l) (p.2.2.2 - l) else empC 1)))
  | none => (asO x).bind fun p => (bndI p.2.2.1 hi).bind fun h => (bndI 0 lo).bind fun l =>
    ifO ((Nat.ble l h && Nat.ble h p.2.2.1) && Nat.beq z p.2.2.2) (some (v1 (bif Nat.blt l p.2.2.1 then .inr (6,p.1,p.2.1+l*z,h - l,z) else empC 0)))
def sliceO (P : Program) (hp : List HB) (nx : Nat) (t : TypeId) (x : AV) (lo hi : Option (Option AV)) : Option OR :=
 (sliceT P t).bind fun e => (sizeB P e).bind fun z => (asO x).bind fun p => (bndI p.2.2.1 hi).bind fun h => (bndI 0 lo).bind fun l => (hget p.1 hp).bind fun cs =>
  ifO (((Nat.ble l h && Nat.ble (p.2.1+h*z) cs.length) && (Nat.blt (p.2.1+l*z) cs.length && Nat.blt 0 z)) && Nat.beq z p.2.2.2)
   (some { res := some (v1 (.inr (6,p.1,p.2.1+l*z,h - l,z))),rd := [p.1],wr := [],h := hp,nx := nx })
def slice3 (P : Program) (t : TypeId) (x : AV) (lo hi mx : Option (Option AV)) : Option AV :=
 (sliceT P t).bind fun e => (sizeB P e).bind fun z => (asO x).bind fun p => (bndI p.2.2.1 mx).bind fun k => (bndI p.2.2.1 hi).bind fun h => (bndI 0 lo).bind fun l =>
  ifO (((Nat.ble l h && Nat.ble h k) && (Nat.ble k p.2.2.1 && Nat.blt l k)) && (hi.isSome && mx.isSome)) (some (v1 (slc p.1 (p.2.1+l*z) (h - l) (k - l))))
def qCells (a : Nat) : List AC := [.inr (0,1,a,0,0),.inr (0,2,a,0,0),.inr (0,3,a,0,0)]
def isZ3 : List AC→Bool
 | [.inl (.bool false),.inl (.slice none 0 0),.inl (.slice none 0 0)] => true
 | _ => false
def qNode (S : Sx) : List AC→Option Nat
 | [x,y,z] => match acX 1 x with
  | some a => (acX 2 y).bind fun b => (acX 3 z).bind fun c => ifO (Nat.beq a b && Nat.beq a c) (some a)
  | none => ifO (isZ3 [x,y,z]) (S.nd 0 [0,0,1])
 | _ => none
def qN (S : Sx) (v : AV) : Option Nat := (asA v).bind (qNode S)
def rN (v : AV) : Option Nat := (asC v).bind (acX 0)
def rowB (h : List HB) (z : Nat) (v : AV) : Option (Nat × List AC) :=
 (asR v).bind fun p => (hget p.1 h).bind fun cs => ifO (Nat.ble (p.2.1+p.2.2*z) cs.length) (some (p.1,(cs.drop p.2.1).take (p.2.2*z)))
def qRow (S : Sx) : List AC→Option (List Nat)
 | [] => some []
 | a :: b :: c :: cs => (qNode S [a,b,c]).bind fun i => (qRow S cs).map fun l => i :: l
 | _ => none
def foldN (S : Sx) (op : Nat) : Nat→List Nat→Option Nat
 | a,[] => some a
 | a,b :: l => (S.nd op [a,b]).bind fun c => foldN S op c l
def foldN0 (S : Sx) (op : Nat) : List Nat→Option Nat
 | [] => none
 | a :: l => foldN S op a l
def q1 (a : Nat) : AV := vA (qCells a)
def r1 (a : Nat) : AV := v1 (.inr (0,0,a,0,0))
def t1 (a : Nat) : AV := v1 (.inr (1,a,0,0,0))
def nzOk (S : Sx) (a : Nat) : Bool := match S.kn 0 a 0 with
 | some r => !Nat.beq 1 r
 | none => false
def pairOk (S : Sx) (xs : List Nat) : Bool := xs.any fun a => xs.any fun b => match S.kn 6 a b with
 | some r => !Nat.beq 1 r
 | none => false
def isNilS (v : AV) : Bool := match asC v with
 | some (.inl (.slice none 0 0)) => true
 | _ => false
def plainFrom (S : Sx) (xs : List Nat) : Nat→List Nat→Bool
 | _,[] => true
 | i,a :: l => (match S.N[a]? with
  | some (op,ar) => Nat.beq op 8 && beqL ar (i :: xs)
  | none => false) && plainFrom S xs (i+1) l
def plainOf (S : Sx) (l : List Nat) : Option (List Nat) := match l with
 | a :: _ => (match S.N[a]? with
  | some (_,_ :: xs) => ifO (Nat.beq xs.length l.length && plainFrom S xs 0 l) (some xs)
  | _ => none)
 | [] => none
abbrev PRes := AV × List Nat × List HB × Nat
def pure1 (nx : Nat) (r : Option AV) : Option PRes := r.map fun v => (v,[],[],nx)
def arg1 {α : Type} (f : AV→Option α) : List AV→Option α
 | [x] => f x
 | _ => none
def arg2 {α : Type} (f : AV→AV→Option α) : List AV→Option α
 | [x,y] => f x y
 | _ => none
def arg0 {α : Type} (f : Option α) : List AV→Option α
 | [] => f
 | _ => none
def q2B (S : Sx) (op : Nat) (x y : AV) : Option AV := (qN S x).bind fun a => (qN S y).bind fun b => (S.nd op [a,b]).map q1
def r2B (S : Sx) (op : Nat) (x y : AV) : Option AV := (rN x).bind fun a => (rN y).bind fun b => (S.nd op [a,b]).map r1
def plainB (S : Sx) (h : List HB) (nx : Nat) (x y : AV) : Option PRes := (rowB h 1 x).bind fun p => (mapO acTold p.2).bind fun l => (plainOf S l).bind fun xs => ifO (isNilS y && ((xs.any (nzOk S) || pairOk S xs) && (l.all (zOk S) && Nat.ble l.length 20))) (some (kB true,[p.1],[],nx))
def aheadOf (S : Sx) : List Nat→List AC→Option (List Nat)
 | [b,a],[c] => (acI c).bind fun z => ifO (decide (z=1)) (plainOf S [a,b])
 | _,_ => none
def plainA (S : Sx) (h : List HB) (nx : Nat) (x y : AV) : Option PRes := (rowB h 1 x).bind fun p => (mapO acTold p.2).bind fun l => (rowB h 1 y).bind fun p' => (aheadOf S l p'.2).bind fun xs => ifO ((xs.any (nzOk S) || pairOk S xs) && l.all (zOk S)) (some (kB true,[p.1,p'.1],[],nx))
def wholeC (S : Sx) (a : Nat) : Option Nat := match S.N[a]? with
 | some (op,[s,n,d]) => ifO ((Nat.beq op 0 && Nat.beq s 0) && (Nat.beq d 1 && Nat.blt n 4611686018427387904)) (some n)
 | _ => none
def wholeH (S : Sx) (a : Nat) : List (Nat × Nat × Nat × Nat)→Option Nat
 | [] => none
 | (k,b,c,_) :: hs => bif Nat.beq k 3 && Nat.beq a b then (match S.kn 3 a c with
  | some r => ifO (Nat.beq 1 r) (wholeC S c)
  | none => none) else wholeH S a hs
def wholeN (S : Sx) (a : Nat) : Option Nat := match wholeC S a with
 | some n => some n
 | none => wholeH S a S.H
def primB (S : Sx) (h : List HB) (nx : Nat) (code : Nat) (args : List AV) : Option PRes :=
 match code with
 | 0 => pure1 nx (arg1 (fun x => (asC x).bind fun c => (txNode S c).map q1) args)
 | 1 => pure1 nx (arg1 (fun x => (qN S x).map t1) args)
 | 2 => pure1 nx (arg2 (q2B S 2) args)
 | 3 => pure1 nx (arg2 (q2B S 3) args)
 | 4 => pure1 nx (arg2 (q2B S 4) args)
 | 5 => pure1 nx (arg2 (q2B S 6) args)
 | 6 => pure1 nx (arg1 (fun x => (qN S x).bind fun a => (S.nd 5 [a]).map q1) args)
 | 7 => pure1 nx (arg1 (fun x => (qN S x).map (sgnB S)) args)
 | 8 => pure1 nx (arg1 (fun x => (asI x).bind fun z => ifO (decide (-9223372036854775808 < z) && decide (z < 9223372036854775808)) ((intNode S z).map q1)) args)
 | 9 => arg1 (fun x => (rowB h 3 x).bind fun p => (qRow S p.2).bind fun l => (foldN0 S 2 l).bind fun a => ifO (Nat.ble l.length 20) (some (q1 a,[p.1],[],nx))) args
 | 10 => arg1 (fun x => (rowB h 3 x).bind fun p => (qRow S p.2).bind fun l => (mapO (fun i => S.nd 8 (i :: l)) (List.range' 0 l.length)).bind fun ms => ifO (Nat.blt 0 l.length && Nat.ble l.length 20)
   (some (v1 (slc nx 0 l.length l.length),[p.1],[(nx,ms.flatMap qCells)],nx+1))) args
 | 11 => pure1 nx (arg1 (fun x => (asA x).bind fun cs => (qRow S cs).bind fun l => match l with
   | [a,b] => (S.kn 6 a b).map fun r => kB (Nat.beq 1 r)
   | _ => none) args)
 | 12 => pure1 nx (arg1 (fun x => (qN S x).bind fun a => (wholeN S a).map fun (n : Nat) => (true,[(false,[.inl (.int .i64 (n : Int))]),(false,[.inl (.bool true)])])) args)
 | 13 => pure1 nx (arg2 (q2B S 11) args)
 | 14 => pure1 nx (arg1 (fun x => (qN S x).bind fun a => (S.nd 9 [a]).bind fun b => (S.nd 10 [a]).map fun c => (true,[(true,qCells b),(true,qCells c)])) args)
 | 15 => pure1 nx (arg2 (fun x y => (qN S x).bind fun a => (qN S y).bind fun b => (S.nd 3 [a,b]).map (sgnB S)) args)
 | 20 => pure1 nx (arg1 (fun x => (asC x).bind fun c => (txNode S c).map r1) args)
 | 21 => pure1 nx (arg1 (fun x => (rN x).map t1) args)
 | 22 => pure1 nx (arg1 (fun x => (asI x).bind fun z => ifO (decide (-9223372036854775808 < z) && decide (z < 9223372036854775808)) ((intNode S z).map r1)) args)
 | 23 => pure1 nx (arg2 (fun x y => (asN x).bind fun a => (asN y).bind fun b => ifO (Nat.blt 0 b && (Nat.blt a 9223372036854775808 && Nat.blt b 9223372036854775808)) ((S.nd 0 [0,a,b]).map r1)) args)
 | 24 => arg1 (fun x => (rowB h 1 x).bind fun p => (mapO (acX 0) p.2).bind fun l => (foldN0 S 2 l).bind fun a => ifO (Nat.ble l.length 20) (some (r1 a,[p.1],[],nx))) args
 | 25 => arg1 (fun x => (rowB h 1 x).bind fun p => (mapO (acX 0) p.2).bind fun l => (foldN0 S 4 l).bind fun a => ifO (Nat.ble l.length 20) (some (r1 a,[p.1],[],nx))) args
 | 26 => pure1 nx (arg2 (r2B S 3) args)
 | 27 => pure1 nx (arg2 (r2B S 6) args)
 | 28 => pure1 nx (arg1 (fun x => (rN x).bind fun a => (S.nd 5 [a]).map r1) args)
 | 29 => pure1 nx (arg2 (fun x y => (rN x).bind fun a => (rN y).bind fun b => bif Nat.beq a b then some (kB true) else (S.kn 3 a b).map fun r => kB (Nat.beq 1 r)) args)
 | 30 => pure1 nx (arg1 (fun x => (rN x).bind fun a => (S.kn 0 a 0).map fun r => kB (Nat.beq 1 r)) args)
 | 31 => pure1 nx (arg1 (fun x => (rN x).map (sgnB S)) args)
 | 32 => arg1 (fun x => (rowB h 1 x).bind fun p => (mapO acTold p.2).bind fun l => ifO (l.all (zOk S) && Nat.ble l.length 20) (some (kB true,[p.1],[],nx))) args
 | 33 => arg2 (fun x y => match plainB S h nx x y with
  | some r => some r
  | none => plainA S h nx x y) args
 | 34 => pure1 nx (arg2 (fun x y => (rN x).bind fun a => (rN y).bind fun b => (S.nd 3 [a,b]).map fun i => v1 (.inr (0,5,i,0,0))) args)
 | 35 => pure1 nx (arg2 (fun x y => (asA x).bind fun cs => (asA y).bind fun ds => (mapO (acX 0) cs).bind fun l => (mapO (acX 0) ds).bind fun m => match l,m with
   | [a,b],[c,d] => (S.nd 3 [a,c]).bind fun i => (S.nd 3 [b,d]).bind fun j => (S.kn 6 i j).map fun r => kB (Nat.beq 1 r)
   | _,_ => none) args)
 | 40 => pure1 nx (arg0 (some (kB true)) args)
 | _ => none
def edgeB (o : Oper) (j : Nat) : Bool := o.after.toList.any fun e => Nat.beq e.on j && Region.binds .any e
def inR (lo hi b : Nat) : Bool := Nat.ble lo b && Nat.blt b hi
abbrev CallF := FuncId→List AV→List HB→Nat→Option (AV × List HB × Nat)
def backH (S : Sx) (h h2 : List HB) (R : List Nat) (v : AV) : List HB := match R,idsOf S v with
 | [],[] => h
 | _,_ => (h.filter fun b => !memN b.1 R) ++ h2
def sameB (b : Nat) (h h2 : List HB) : Bool :=
 (h.all fun x => !Nat.beq x.1 b || h2.any fun y => Nat.beq y.1 b && acsW x.2 y.2) && (h2.all fun y => !Nat.beq y.1 b || h.any fun x => Nat.beq x.1 b && acsW x.2 y.2)
def entB (P : Program) (f : FuncId) : Bool := match P.funcs[f]? with
 | some fn => !(fn.name == "runtime.NumGoroutine") && fn.body.isSome
 | none => false
def fnB (S : Sx) (call : CallF) (f : FuncId) (args : List AV) (h : List HB) (nx : Nat) : Option OR :=
 ifO (entB S.P f) <| match prGet f S.pr with
 | some c => (primB S h nx c args).bind fun p => ifO (Nat.ble nx p.2.2.2 && p.2.2.1.all (fun b => inR nx p.2.2.2 b.1))
   (some { res := some p.1,rd := p.2.1,wr := [],h := h ++ p.2.2.1,nx := p.2.2.2 })
 | none =>
  let h1 := h.filter fun b => memN b.1 (reach S h 3 (args.flatMap (idsOf S)))
  let R := h1.map (·.1)
  (call f args h1 nx).bind fun p => ifO (Nat.ble nx p.2.2 && p.2.1.all (fun b => memN b.1 R || inR nx p.2.2 b.1))
   (some { res := some p.1,rd := R.filter (fun b => sameB b h1 p.2.1),wr := R,h := backH S h p.2.1 R p.1,nx := p.2.2 })
def bytesB (P : Program) (t : TypeId) : Option Nat := (P.info? t).map (·.bytes)
def cap0 (c : AC) : Bool := isNilC c || (match acE c with
 | some f => Nat.beq f 1
 | none => false)
def appB (S : Sx) (h : List HB) (nx : Nat) (e : TypeId) (s x : AC) : Option OR := (sizeB S.P e).bind fun z => (acLen x).bind fun m =>
 bif Nat.beq m 0 then ifO (isNilC s || ((acE s).isSome || ((acO s).isSome || (match acS s with
  | some p => Nat.ble p.2.2.1 p.2.2.2
  | none => false)))) (some (pureR h nx (v1 s)))
 else (acR x).bind fun y => (hget y.1 h).bind fun ys => (bytesB S.P e).bind fun bt => (zeroB S.P e).bind fun zc =>
  ifO (((Nat.blt 0 z && Nat.beq zc.length z) && (Nat.ble (y.2.1+y.2.2*z) ys.length && !memN e S.nb)) && (Nat.ble y.2.2 100000 && Nat.ble (200000*bt) 140737488355328))
   (bif cap0 s then some { res := some (v1 (.inr (6,nx,0,y.2.2,z))),rd := [y.1],wr := [],h := h ++ [(nx,(ys.drop y.2.1).take (y.2.2*z))],nx := nx+1 }
   else match acS s with
    | some p => (hget p.1 h).bind fun xs => ifO ((Nat.blt p.2.2.2 (p.2.2.1+y.2.2) && Nat.ble p.2.2.1 100000) && Nat.ble (p.2.1+p.2.2.1*z) xs.length)
      (some { res := some (v1 (.inr (6,nx,0,p.2.2.1+y.2.2,z))),rd := [y.1,p.1],wr := [],h := h ++ [(nx,(xs.drop p.2.1).take (p.2.2.1*z) ++ (ys.drop y.2.1).take (y.2.2*z))],nx := nx+1 })
    | none => (acO s).bind fun p => (hget p.1 h).bind fun xs => ifO ((Nat.beq p.2.1 0 && (Nat.beq p.2.2.2 z && Nat.ble p.2.2.1 100000)) && (Nat.ble (p.2.2.1*z) xs.length && !Nat.beq y.1 p.1))
      (some { res := some (v1 (.inr (6,nx,0,p.2.2.1+y.2.2,z))),rd := [y.1],wr := [p.1],h := (h.filter fun b => !Nat.beq b.1 p.1) ++ [(nx,xs.take (p.2.2.1*z) ++ (ys.drop y.2.1).take (y.2.2*z))],nx := nx+1 }))
def ownB (S : Sx) (h : List HB) (nx : Nat) (e : TypeId) (s x : AC) : Option OR := (sizeB S.P e).bind fun z => (acO s).bind fun p => (acR x).bind fun y => (hget p.1 h).bind fun xs =>
 ifO (((Nat.beq p.1 y.1 && Nat.beq p.2.1 0) && (Nat.beq z p.2.2.2 && Nat.blt 0 z)) && ((Nat.ble (y.2.1+y.2.2*z) xs.length && Nat.ble ((p.2.2.1+y.2.2)*z) xs.length) && Nat.blt 0 y.2.2))
  ((putL xs (p.2.2.1*z) ((xs.drop y.2.1).take (y.2.2*z))).map fun cs => { res := some (v1 (.inr (6,p.1,0,p.2.2.1+y.2.2,z))),rd := [],wr := [p.1],h := hset p.1 cs h,nx := nx })
def appO (S : Sx) (h : List HB) (nx : Nat) (e : TypeId) (s x : AC) : Option OR := match ownB S h nx e s x with
 | some r => some r
 | none => appB S h nx e s x
def isR : List Nat→Nat→Bool
 | u :: _,t => Nat.beq t u
 | [],_ => false
def minB (a b : Nat) : Nat := bif Nat.ble a b then a else b
def cpyB (P : Program) (h : List HB) (nx : Nat) (t : TypeId) (d s : AV) : Option OR := (sliceT P t).bind fun e => (sizeB P e).bind fun z => (asR d).bind fun p => (asR s).bind fun q => (hget p.1 h).bind fun ys => (hget q.1 h).bind fun xs =>
 ifO ((Nat.beq z 1 && !Nat.beq p.1 q.1) && Nat.ble (q.2.1+minB q.2.2 p.2.2) xs.length) ((putL ys p.2.1 ((xs.drop q.2.1).take (minB q.2.2 p.2.2))).map fun cs => { res := some (kI (minB q.2.2 p.2.2 : Nat)),rd := [q.1],wr := [p.1],h := hset p.1 cs h,nx := nx })
def repL (cs : List AC) : Nat→List AC
 | 0 => []
 | n+1 => cs ++ repL cs n
def clrB (P : Program) (h : List HB) (nx : Nat) (t : TypeId) (x : AV) : Option OR := (sliceT P t).bind fun e => (sizeB P e).bind fun z => (zeroB P e).bind fun zs => (asR x).bind fun p => (hget p.1 h).bind fun ys =>
 ifO ((Nat.beq zs.length 1 && Nat.beq z 1) && Nat.blt 0 p.2.2) ((putL ys p.2.1 (repL zs p.2.2)).map fun cs => { res := some (true,[]),rd := [],wr := [p.1],h := hset p.1 cs h,nx := nx })
def hdB (pr : List (FuncId × Nat)) : Bool := pr.any fun x => Nat.beq x.2 99
def handB (K : List (FuncId × List AC)) (a : Nat) : Option (List AC) := K[a]?.bind fun e => match e.2 with
 | [.inl (.slice (some _) _ _),.inl (.int .i64 (.ofNat t)),.inl (.int .i64 (.ofNat n))] => some ((List.range' t n).map fun j => .inr (2,j,0,0,0))
 | _ => none
def repB (cs : List AC) : Nat→List AC
 | 0 => []
 | n+1 => cs ++ repB cs n
def mkB (P : Program) (nb : List Nat) (h : List HB) (nx : Nat) (t : TypeId) (l c : AV) : Option OR := (asN l).bind fun n => (asN c).bind fun m => (sliceT P t).bind fun e => (sizeB P e).bind fun z => (bytesB P e).bind fun bt => (zeroB P e).bind fun zc =>
 ifO ((Nat.beq n m && Nat.ble n 100000) && Nat.ble (100000*bt) 281474976710656) (bif Nat.beq n 0 then some (pureR h nx (v1 (empC 1)))
  else ifO ((Nat.beq zc.length z && Nat.blt 0 z) && !memN e nb) (some (newR h nx (repB zc n) (slc nx 0 n n))))
def strT (P : Program) (t : TypeId) : Bool := match P.underlying t with
 | some .string => true
 | _ => false
def lenS (P : Program) (ρ : Operand→Option AV) (c : Call) : Option Nat := c.argTypes.toList.head?.bind fun t => ifO (strT P t) ((mapO ρ c.args.toList).bind fun args => arg1 (fun v => (asC v).bind fun c => (acStr c).map fun s => s.size) args)
def opB (S : Sx) (call : CallF) (ρ : Operand→Option AV) (h : List HB) (nx : Nat) (op : Op) : Option OR :=
 match op with
 | .move x => (ρ x).map (pureR h nx)
 | .assign x => (ρ x).map (pureR h nx)
 | .pick c a b => (ρ c).bind fun v => (asB v).bind fun t => (ρ (bif t then a else b)).map (pureR h nx)
 | .sliceToArrayPointer t x => (arrayB S.P t).bind fun n => (ρ x).bind fun v => ((asC v).bind acR).bind fun p => ifO (Nat.ble n.1 p.2.2) (some (pureR h nx (v1 (ptr p.1 p.2.1))))
 | .nilCheck x => (ρ x).bind fun v => (asP v).map fun _ => pureR h nx v
 | .extract x k => (ρ x).bind fun v => (asT v).bind fun vs => vs[k]?.map fun y => pureR h nx (false,[y])
 | .alloc t => bif isR S.nb t then (S.nd 0 [0,0,1]).map fun i => pureR h nx (r1 i) else ifO (!memN t S.nb) ((zeroB S.P t).map fun cs => newR h nx cs (ptr nx 0))
 | .box t x => ifO (!memN t S.nb) ((ρ x).bind fun v => (asL v).map fun cs => newR h nx cs (ptr nx 0))
 | .load t x => (ρ x).bind fun v => match (asC v).bind acHP with
  | some p => ifO (hdB S.pr) ((handB S.K p.1).bind fun cs => (partB S.P t cs p.2).map (pureR h nx))
  | none => (asP v).bind fun p => (hget p.1 h).bind fun cs => (partB S.P t cs p.2).map fun r => { res := some r,rd := [p.1],wr := [],h := h,nx := nx }
 | .store t x y => (ρ x).bind fun v => (asP v).bind fun p => (ρ y).bind fun u => (asL u).bind fun ds => (hget p.1 h).bind fun cs => (sizeB S.P t).bind fun n =>
   ifO (Nat.beq ds.length n) ((putL cs p.2 ds).map fun cs' => { res := none,rd := [],wr := [p.1],h := hset p.1 cs' h,nx := nx })
 | .fieldAddr t x f => (structB S.P t).bind fun fs => (ρ x).bind fun v => (asP v).bind fun p => fs[f]?.bind fun g => (sizeB S.P g.type).bind fun n =>
   ifO (Nat.blt 0 n) (some (pureR h nx (v1 (ptr p.1 (p.2+g.offset)))))
 | .field t x f => (structB S.P t).bind fun fs => (ρ x).bind fun v => (asA v).bind fun cs => fs[f]?.bind fun g => (partB S.P g.type cs g.offset).map (pureR h nx)
 | .indexAddr t x i => (ρ x).bind fun v => (ρ i).bind fun u => (asN u).bind fun k => match arrayB S.P t with
  | some (n,e) => (asP v).bind fun p => (sizeB S.P e).bind fun z => ifO (Nat.blt k n) (some (pureR h nx (v1 (ptr p.1 (p.2+k*z)))))
  | none => (sliceT S.P t).bind fun e => (sizeB S.P e).bind fun z => match (asC v).bind acH with
   | some p => ifO (Nat.blt k p.2.2) (some (pureR h nx (v1 (.inr (9,p.1,p.2.1+k*z,0,0)))))
   | none => (asR v).bind fun p => ifO (Nat.blt k p.2.2) (some (pureR h nx (v1 (ptr p.1 (p.2.1+k*z)))))
 | .index t x i => (arrayB S.P t).bind fun a => (ρ x).bind fun v => (asA v).bind fun cs => (ρ i).bind fun u => (asN u).bind fun k => (sizeB S.P a.2).bind fun z =>
   ifO (Nat.blt k a.1) ((partB S.P a.2 cs (k*z)).map (pureR h nx))
 | .slice t x lo hi mx => bif mx.isNone then ((ρ x).bind fun v => match sliceB S.P t v (lo.map ρ) (hi.map ρ) with
   | some y => some (pureR h nx y)
   | none => sliceO S.P h nx t v (lo.map ρ) (hi.map ρ)) else (ρ x).bind fun v => (slice3 S.P t v (lo.map ρ) (hi.map ρ) (mx.map ρ)).map (pureR h nx)
 | .build t parts => (zeroB S.P t).bind fun z => (mapO (fun p => (ρ p.2).bind fun v => (asL v).map fun cs => (p.1,cs)) parts.toList).bind fun ps =>
   match structB S.P t with
   | some fs => (mapO (fun g => (sizeB S.P g.type).map fun n => (g.offset,n)) fs).bind fun pl => (fillB (fun i => pl[i]?) z ps).map fun cs => pureR h nx (vA cs)
   | none => (arrayB S.P t).bind fun a => (sizeB S.P a.2).bind fun n => (fillB (fun i => some (i*n,n)) z ps).map fun cs => pureR h nx (vA cs)
 | .buildSlice t len parts => bif Nat.beq len 0 then (sliceT S.P t).bind fun e => (sizeB S.P e).bind fun _ => ifO parts.toList.isEmpty (some (pureR h nx (v1 (empC 1)))) else (sliceT S.P t).bind fun e => (sizeB S.P e).bind fun n => (mapO (fun p => (ρ p.2).bind asL) parts.toList).bind fun ps =>
   ifO ((!memN e S.nb && (beqL (parts.toList.map (·.1)) (List.range' 0 len) && (zeroB S.P e).isSome)) && (ps.all (fun cs => Nat.beq cs.length n) && (Nat.ble (len*n) 16777216 && (Nat.blt 0 len && Nat.blt 0 n))))
    (some (newR h nx ps.flatten (slc nx 0 len len)))
 | .makeSlice t l c => (ρ l).bind fun u => (ρ c).bind fun v => mkB S.P S.nb h nx t u v
 | .unOp .not _ x => (ρ x).bind fun v => (asB v).map fun t => pureR h nx (kB (!t))
 | .unOp .neg _ x => (ρ x).bind fun v => (asI v).bind fun z => ifO (inI64 (-z)) (some (pureR h nx (kI (-z))))
 | .binOp op t x y _ => (ρ x).bind fun a => (ρ y).bind fun b => (binB S op t a b).map (pureR h nx)
 | .makeFunc (.func f) first captured => ifO first.toList.isEmpty ((mapO (fun x => (ρ x).bind asC) captured.toList).bind fun cs =>
   ifO (cloOk S.K cs) ((cloFrom f cs 0 S.K).map fun i => pureR h nx (v1 (.inr (5,i,0,0,0)))))
 | .call c => match c.callee with
  | .value (.func f) => (mapO ρ c.args.toList).bind fun args => fnB S call f args h nx
  | .value x => (ρ x).bind fun v => ((asC v).bind acF).bind fun k => (mapO ρ c.args.toList).bind fun args => S.K[k]?.bind fun p => fnB S call p.1 (args ++ p.2.map v1) h nx
  | .builtin .len => match lenS S.P ρ c with
   | some n => some (pureR h nx (kI (n : Int)))
   | none => c.argTypes.toList.head?.bind fun t => (sliceT S.P t).bind fun _ => (mapO ρ c.args.toList).bind fun args => arg1 (fun v => (asC v).bind fun c => match acHL c with
    | some a => some (pureR h nx (v1 (.inr (0,6,a,0,0))))
    | none => (acLen c).map fun (n : Nat) => pureR h nx (kI (n : Int))) args
  | .builtin .append => match c.args.toList,c.argTypes.toList with
   | [s,x],[t,t'] => ifO (Nat.beq t t') ((sliceT S.P t).bind fun e => (ρ s).bind fun u => (asC u).bind fun cs => (ρ x).bind fun v => (asC v).bind fun cx => appO S h nx e cs cx)
   | _,_ => none
  | .builtin .copy => match c.args.toList,c.argTypes.toList with
   | [d,s],[t,_] => (ρ d).bind fun u => (ρ s).bind fun v => cpyB S.P h nx t u v
   | _,_ => none
  | .builtin .clear => match c.args.toList,c.argTypes.toList with
   | [x],[t] => (ρ x).bind fun v => clrB S.P h nx t v
   | _,_ => none
  | .builtin .max => match c.args.toList with
   | [x,y] => (ρ x).bind fun u => (asI u).bind fun a => (ρ y).bind fun v => (asI v).map fun b => pureR h nx (kI (if b > a then b else a))
   | _ => none
  | .builtin .min => match c.args.toList with
   | [x,y] => (ρ x).bind fun u => (asI u).bind fun a => (ρ y).bind fun v => (asI v).map fun b => pureR h nx (kI (if b < a then b else a))
   | _ => none
  | _ => none
 | _ => none
abbrev Prev := List (Option Tmp × Option AV)
def prevOf (t : Tmp) : Nat→Prev→Option (Nat × Option AV)
 | _,[] => none
 | j,(d,r) :: ps => match d with
  | some u => bif Nat.beq t u then some (j,r) else prevOf t (j+1) ps
  | none => prevOf t (j+1) ps
def laterB (t : Tmp) (i : Nat) (os : List Oper) : Bool := os.all fun o => match o.dst with
 | some u => !Nat.beq t u || edgeB o i
 | none => true
def opdB (K : List (FuncId × List AC)) (tm : List (Nat × AV)) (prev : Prev) (i : Nat) (o : Oper) (later : List Oper) : Operand→Option AV
 | .const v => ifO (okV v) (some (v1 (.inl v)))
 | .tmp t => match prevOf t 0 prev with
  | some (j,r) => ifO (edgeB o j) r
  | none => ifO (laterB t i later) (tget t tm)
 | .func f => (cloFrom f [] 0 K).map fun i => v1 (.inr (5,i,0,0,0))
 | _ => none
def skV : AV := (true,[])
def wantV : AV→Option (Option Bool)
 | (true,[]) => some none
 | (c,xs) => (asB (c,xs)).map some
def wantB (prev : Prev) (o : Oper) : Option Bool :=
 match o.guard with
 | none => some true
 | some (j,b) => prev[j]?.bind fun p => p.2.bind fun v => (wantV v).bind fun c => ifO (edgeB o j && p.1.isSome) (some (c == some b))
def regionB (S : Sx) (call : CallF) (tm : List (Nat × AV)) : Nat→List Oper→Prev→List HB→Nat→Option (List OR)
 | _,[],_,_,_ => some []
 | i,o :: os,prev,h,nx => (wantB prev o).bind fun wt =>
   (bif wt then opB S call (opdB S.K tm prev i o os) h nx o.op else some { res := some skV,rd := [],wr := [],h := h,nx := nx }).bind fun r =>
    ifO ((r.rd.all (Nat.blt · nx) && r.wr.all (Nat.blt · nx)) && r.wr.all (fun b => !memN b r.rd || sameB b h r.h)) ((regionB S call tm (i+1) os (prev ++ [(o.dst,r.res)]) r.h r.nx).map fun l => r :: l)
def wrs (r : OR) : List Nat := r.wr.filter fun b => !memN b r.rd
def confB (lo : Nat) (a b : OR) : Bool := meets (wrs a) b.rd || (meets (wrs a) (wrs b) || (meets a.rd (wrs b) || (b.rd.any (inR lo a.nx) || b.wr.any (inR lo a.nx))))
def edgeT (all : List Oper) : Nat→Oper→Nat→Bool
 | 0,o,i => edgeB o i
 | n+1,o,i => edgeB o i || o.after.toList.any fun e => Region.binds .any e && (match all[e.on]? with
  | some o' => edgeT all n o' i
  | none => false)
def orderedFrom (all : List Oper) (lo : Nat) (i : Nat) (a : OR) : List Oper→List OR→Bool
 | o :: os,b :: bs => (!confB lo a b || edgeT all 3 o i) && orderedFrom all lo i a os bs
 | _,_ => true
def orderedB (all : List Oper) : Nat→Nat→List Oper→List OR→Bool
 | i,lo,_ :: os,a :: ar => orderedFrom all lo i a os ar && orderedB all (i+1) a.nx os ar
 | _,_,_,_ => true
def tmAft : List (Nat × AV)→List Oper→List OR→List (Nat × AV)
 | tm,o :: os,r :: rs => tmAft (match o.dst with
  | none => tm
  | some t => match r.res with
   | some v => (t,v) :: tdel t tm
   | none => tdel t tm) os rs
 | tm,_,_ => tm
def lastH (h : List HB) : List OR→List HB
 | [] => h
 | r :: rs => lastH r.h rs
def lastN (n : Nat) : List OR→Nat
 | [] => n
 | r :: rs => lastN r.nx rs
def dstsB (n : Nat) : List Nat→List Oper→Bool
 | _,[] => true
 | seen,o :: os => match o.dst with
  | none => dstsB n seen os
  | some t => Nat.blt t n && (!memN t seen && dstsB n (t :: seen) os)
structure St where
 tm : List (Nat × AV)
 h : List HB
 nx : Nat
def loopB (f : St→Option (Nat × St)) : Nat→St→Option (Nat × St)
 | 0,_ => none
 | n+1,s => (f s).bind fun r => bif Nat.beq r.1 0 then loopB f n r.2 else some r
def runB (S : Sx) (call : CallF) (n : Nat) : Code→St→Option (Nat × St)
 | .skip,s => some (0,s)
 | .region _ os _,s => ifO (dstsB n [] os.toList && topoOps 0 os.toList) ((regionB S call s.tm 0 os.toList [] s.h s.nx).bind fun rs =>
   ifO (orderedB os.toList 0 s.nx os.toList rs) (some (0,{ tm := tmAft s.tm os.toList rs,h := lastH s.h rs,nx := lastN s.nx rs })))
 | .seq a b,s => (runB S call n a s).bind fun r => bif Nat.beq r.1 0 then runB S call n b r.2 else some r
 | .cond x a b,s => match x with
  | .tmp t => (tget t s.tm).bind fun v => (asB v).bind fun c => bif c then runB S call n a s else runB S call n b s
  | _ => none
 | .block id c,s => (runB S call n c s).map fun r => bif Nat.beq r.1 (id+2) then (0,r.2) else r
 | .loop c,s => loopB (runB S call n c) 100 s
 | .exit id,s => some (id+2,s)
 | .ret,s => some (1,s)
 | _,_ => none
def one1 : AV→Option A1
 | (false,[x]) => some x
 | _ => none
def resB (P : Program) (s : St) : ResultVar→Option A1
 | .tmp t => (tget t s.tm).bind one1
 | .cell t ty => (tget t s.tm).bind fun v => (asP v).bind fun p => (hget p.1 s.h).bind fun cs => (partB P ty cs p.2).bind one1
def numb1 : Nat→List AV→List (Nat × AV)
 | _,[] => []
 | i,v :: vs => (i,v) :: numb1 (i+1) vs
def tupB : List A1→AV
 | [x] => (false,[x])
 | xs => (true,xs)
def callB (S : Sx) : Nat→CallF
 | 0,_,_,_,_ => none
 | n+1,f,args,h,nx => S.P.funcs[f]?.bind fun fn => fn.body.bind fun c => ifO (Nat.ble args.length fn.ntmps) ((runB S (callB S n) fn.ntmps c { tm := numb1 0 args,h := h,nx := nx }).bind fun r =>
   ifO (Nat.ble r.1 1) ((mapO (resB S.P r.2) fn.results.toList).map fun xs => (tupB xs,r.2.h,r.2.nx)))
end Cx
/- VB -/
namespace Cx
open Go Go.RowKit
def Bk (w : World) (g : Nat) (cs : List Value) (t : TypeId) : Prop := w.heap[g]? = some (.cells cs.toArray t (0,0))
theorem Bk.lt {w : World} {g : Nat} {cs : List Value} {t : TypeId} (h : Bk w g cs t) : g < w.heap.size := by
 have := h
 unfold Bk at this
 exact (Array.getElem?_eq_some_iff.1 this).1
section
variable (nb : List Nat)
def Bxd (w : World) (k : Nat) : Prop := ∃ cs t,Bk w k cs t∧memN t nb=false∧∀ c ∈ cs,okV c=true
structure Gr (w w' : World) : Prop where
 size : w.heap.size≤w'.heap.size
 block : ∀ k,k < w.heap.size→¬ Bxd nb w k→w'.heap[k]? = w.heap[k]?
 len : ∀ k cs t,Bk w k cs t→∃ cs',Bk w' k cs' t∧cs'.length=cs.length
structure Fct where
 on : Value→World→Prop
 st : ∀ {v : Value} {w w' : World},Gr nb w w'→on v w→on v w'
 ok : ∀ {v : Value} {w : World},on v w→okV v=true
structure Ev where
 q : Nat→Rat
 σ : Nat→ByteArray
 X : Nat→Rat→Fct nb
 tell : Rat→ByteArray
end
def A2 {α : Type} (R : α→Value→Prop) : List α→List Value→Prop
 | [],[] => True
 | a :: ar,v :: vs => R a v∧A2 R ar vs
 | _,_ => False
theorem A2.mono {α : Type} {R R' : α→Value→Prop} (h : ∀ a v,R a v→R' a v) : ∀ {ar : List α} {vs : List Value},A2 R ar vs→A2 R' ar vs
 | [],[],_ => trivial
 | _ :: _,_ :: _,q => ⟨h _ _ q.1,A2.mono h q.2⟩
 | [],_ :: _,q => q.elim
 | _ :: _,[],q => q.elim
theorem A2.len {α : Type} {R : α→Value→Prop} : ∀ {ar : List α} {vs : List Value},A2 R ar vs→vs.length=ar.length
 | [],[],_ => rfl
 | _ :: _,_ :: _,q => congrArg (· + 1) (A2.len q.2)
 | [],_ :: _,q => q.elim
 | _ :: _,[],q => q.elim
theorem A2.get {α : Type} {R : α→Value→Prop} : ∀ {ar : List α} {vs : List Value} {k : Nat} {a : α},A2 R ar vs→ar[k]? = some a→∃ v,vs[k]? = some v∧R a v
 | [],_,_,_,_,h => by simp at h
 | _ :: _,[],_,_,h,_ => h.elim
 | a :: ar,v :: vs,0,a',h,e => by
  have : a=a' := by simpa using e
  subst this
  exact ⟨v,rfl,h.1⟩
 | a :: ar,v :: vs,k+1,a',h,e => by
  obtain ⟨u,hu,hF⟩ := A2.get h.2 (k := k) (a := a') (by simpa using e)
  exact ⟨u,by simpa using hu,hF⟩
theorem A2.append {α : Type} {R : α→Value→Prop} : ∀ {ar bs : List α} {vs us : List Value},A2 R ar vs→A2 R bs us→A2 R (ar ++ bs) (vs ++ us)
 | [],_,[],_,_,h => h
 | _ :: _,_,_ :: _,_,g,h => ⟨g.1,A2.append g.2 h⟩
 | [],_,_ :: _,_,g,_ => g.elim
 | _ :: _,_,[],_,g,_ => g.elim
theorem A2.take {α : Type} {R : α→Value→Prop} : ∀ {ar : List α} {vs : List Value} (n : Nat),A2 R ar vs→A2 R (ar.take n) (vs.take n)
 | [],[],n,_ => by simp [A2]
 | _ :: _,_ :: _,0,_ => trivial
 | _ :: _,_ :: _,n+1,h => ⟨h.1,A2.take n h.2⟩
 | [],_ :: _,_,h => h.elim
 | _ :: _,[],_,h => h.elim
theorem A2.drop {α : Type} {R : α→Value→Prop} : ∀ {ar : List α} {vs : List Value} (n : Nat),A2 R ar vs→A2 R (ar.drop n) (vs.drop n)
 | [],[],n,_ => by simp [A2]
 | _ :: _,_ :: _,0,h => h
 | _ :: _,_ :: _,n+1,h => A2.drop n h.2
 | [],_ :: _,_,h => h.elim
 | _ :: _,[],_,h => h.elim
theorem A2.all {α : Type} {R : α→Value→Prop} {p : Value→Prop} (hp : ∀ a v,R a v→p v) : ∀ {ar : List α} {vs : List Value},A2 R ar vs→∀ v ∈ vs,p v
 | [],[],_,v,h => by simp at h
 | _ :: _,_ :: _,g,v,h => by
  rcases List.mem_cons.1 h with rfl | h
  ·exact hp _ _ g.1
  ·exact A2.all hp g.2 v h
 | [],_ :: _,g,_,_ => g.elim
 | _ :: _,[],g,_,_ => g.elim
theorem A2.map {α β : Type} {R : α→Value→Prop} {S : β→Value→Prop} (f : α→β) (h : ∀ a v,R a v→S (f a) v) : ∀ {ar : List α} {vs : List Value},A2 R ar vs→A2 S (ar.map f) vs
 | [],[],_ => trivial
 | _ :: _,_ :: _,g => ⟨h _ _ g.1,A2.map f h g.2⟩
 | [],_ :: _,g => g.elim
 | _ :: _,[],g => g.elim
theorem ifO_some {α : Type} {b : Bool} {x : Option α} {r : α} : ifO b x=some r ↔ b=true∧x=some r := by
 cases b <;> simp [ifO]
theorem memN_iff {b : Nat} : ∀ {l : List Nat},memN b l=true ↔ b ∈ l
 | [] => by simp [memN]
 | c :: cs => by
  unfold memN
  rw [Bool.or_eq_true,List.mem_cons,memN_iff (l := cs),Nat.beq_eq]
theorem memN_not {b : Nat} {l : List Nat} : memN b l=false ↔ b ∉ l := by
 rw [← memN_iff]
 cases memN b l <;> simp
theorem meets_not {a b : List Nat} (h : meets a b=false) : ∀ x ∈ a,x ∉ b := by
 induction a with
 | nil => simp
 | cons c cs ih =>
  unfold meets at h
  rw [Bool.or_eq_false_iff] at h
  intro x hx
  rcases List.mem_cons.1 hx with rfl | hx
  ·exact memN_not.1 h.1
  ·exact ih h.2 x hx
theorem eqvB_eq {u v : Value} (h : eqvB u v=true) : u=v := by
 unfold eqvB at h
 split at h
 ·rfl
 ·rename_i a b
  rw [show a=b from by simpa using h]
 ·rw [of_decide_eq_true h]
 ·rfl
 ·rw [of_decide_eq_true h]
 ·cases h
theorem acsB_eq : ∀ {a b : List AC},acsB a b=true→a=b
 | [],[],_ => rfl
 | .inr (k,a,b,c,d) :: x,.inr (k',a',b',c',d') :: y,h => by
  unfold acsB at h
  simp only [Bool.and_eq_true,Nat.beq_eq] at h
  obtain ⟨⟨h1,h2,h3,h4,h5⟩,h6⟩ := h
  rw [h1,h2,h3,h4,h5,acsB_eq h6]
 | [],_ :: _,h => by cases h
 | _ :: _,[],h => by unfold acsB at h; split at h <;> first | contradiction | cases h
 | .inl _ :: _,_ :: _,h => by cases h
 | .inr _ :: _,.inl _ :: _,h => by cases h
theorem acsW_eq : ∀ {a b : List AC},acsW a b=true→a=b
 | [],[],_ => rfl
 | .inr (k,a,b,c,d) :: x,.inr (k',a',b',c',d') :: y,h => by
  unfold acsW at h
  simp only [Bool.and_eq_true,Nat.beq_eq] at h
  obtain ⟨⟨h1,h2,h3,h4,h5⟩,h6⟩ := h
  rw [h1,h2,h3,h4,h5,acsW_eq h6]
 | [],_ :: _,h => by cases h
 | _ :: _,[],h => by unfold acsW at h; split at h <;> first | contradiction | cases h
 | .inl u :: x,.inl v :: y,h => by
  unfold acsW at h
  rw [Bool.and_eq_true] at h
  rw [eqvB_eq h.1,acsW_eq h.2]
 | .inl _ :: _,.inr _ :: _,h => by cases h
 | .inr _ :: _,.inl _ :: _,h => by cases h
theorem cloFrom_some {f : FuncId} {cs : List AC} : ∀ {ks : List (FuncId × List AC)} {i k : Nat},cloFrom f cs i ks=some k→i≤k∧ks[k - i]? = some (f,cs)
 | [],_,_,h => by cases h
 | (g,ds) :: ks,i,k,h => by
  unfold cloFrom at h
  cases e : (Nat.beq f g && acsB cs ds) with
  | true =>
   rw [e] at h
   cases h
   rw [Bool.and_eq_true,Nat.beq_eq] at e
   rw [e.1,acsB_eq e.2]
   exact ⟨Nat.le_refl _,by simp⟩
  | false =>
   rw [e] at h
   obtain ⟨h1,h2⟩ := cloFrom_some (ks := ks) h
   refine ⟨by omega,?_⟩
   rw [show k - i=k - (i+1)+1 by omega]
   simpa using h2
section
variable {nb : List Nat} (E : Ev nb) (K : List (FuncId × List AC)) (γ : Nat→Option Nat) (w : World)
def cellOn : Nat→AC→Value→Prop
 | _,.inl u,v => v=u∧okV u=true
 | d,.inr (k,a,b,n,c),v => match k with
  | 0 => (E.X a (E.q b)).on v w
  | 1 => v=.string (E.tell (E.q a))
  | 2 => v=.string (E.σ a)
  | 3 => ∃ G,γ a=some G∧v=.pointer (some ⟨G,b,none⟩)
  | 4 => ∃ G,γ a=some G∧v=.slice (some ⟨G,b,none⟩) n c
  | 5 => match d with
   | 0 => False
   | d+1 => ∃ f cs vs,K[a]? = some (f,cs)∧v=.func (.func f) #[] vs.toArray∧A2 (cellOn d) cs vs
  | 6 => ∃ G m,γ a=some G∧v=.slice (some ⟨G,b,none⟩) n m∧n≤m∧∃ cs t,Bk w G cs t∧cs.length=b+m*c
  | 7 => ∃ ao m,v=.slice ao 0 m∧(a=1→m=0)
  | 8 => ∃ f ad n' m r m',K[a]? = some (f,.inl (.slice (some ad) n' m) :: r)∧v=.slice (some (ad.add b)) n m'
  | 9 => ∃ f ad n' m r,K[a]? = some (f,.inl (.slice (some ad) n' m) :: r)∧v=.pointer (some (ad.add b))
  | 10 => ∃ (ao : Option Addr) (k m : Nat),v=.slice ao k m∧∀ w',(E.X 6 (E.q a)).on (.int .i64 (k : Int)) w'
  | _ => False
abbrev cOn : AC→Value→Prop := cellOn E K γ w 3
end
def a1On (R : AC→Value→Prop) : A1→Value→Prop
 | (true,cs),v => ∃ vs : List Value,v=.agg vs.toArray∧A2 R cs vs
 | (false,cs),v => A2 R cs [v]
def avOn (R : AC→Value→Prop) : AV→Value→Prop
 | (true,xs),v => ∃ vs : List Value,v=.tuple vs.toArray∧A2 (a1On R) xs vs
 | (false,xs),v => A2 (a1On R) xs [v]
def leG (γ γ' : Nat→Option Nat) : Prop := ∀ b G,γ b=some G→γ' b=some G
theorem leG.refl (γ : Nat→Option Nat) : leG γ γ := fun _ _ h => h
theorem leG.trans {a b c : Nat→Option Nat} (h : leG a b) (k : leG b c) : leG a c := fun _ _ q => k _ _ (h _ _ q)
section
variable {nb : List Nat} {E : Ev nb} {K : List (FuncId × List AC)} {γ γ' : Nat→Option Nat} {w w' : World}
theorem cellOn_st (hl : leG γ γ') (hg : Gr nb w w') : ∀ (d : Nat) (c : AC) (v : Value),cellOn E K γ w d c v→cellOn E K γ' w' d c v
 | _,.inl _,_,h => by
  unfold cellOn at h ⊢
  exact h
 | d,.inr (k,a,b,n,c),v,h => by
  unfold cellOn at h ⊢
  match k,h with
  | 0,h => exact (E.X a (E.q b)).st hg h
  | 1,h => exact h
  | 2,h => exact h
  | 3,⟨G,h1,h2⟩ => exact ⟨G,hl _ _ h1,h2⟩
  | 4,⟨G,h1,h2⟩ => exact ⟨G,hl _ _ h1,h2⟩
  | 5,h =>
   match d,h with
   | 0,h => exact h.elim
   | d+1,⟨f,cs,vs,h1,h2,h3⟩ => exact ⟨f,cs,vs,h1,h2,h3.mono (cellOn_st hl hg d)⟩
  | 6,⟨G,m,h1,h2,h3,cs,t,h4,h5⟩ =>
   obtain ⟨cs',g1,g2⟩ := hg.len G cs t h4
   exact ⟨G,m,hl _ _ h1,h2,h3,cs',t,g1,g2.trans h5⟩
  | 7,h => exact h
  | 8,h => exact h
  | 9,h => exact h
  | 10,h => exact h
  | k+11,h => exact h.elim
theorem cellOn_ok : ∀ (d : Nat) (c : AC) (v : Value),cellOn E K γ w d c v→okV v=true
 | _,.inl _,_,h => by
  unfold cellOn at h
  exact h.1 ▸ h.2
 | d,.inr (k,a,b,n,c),v,h => by
  unfold cellOn at h
  match k,h with
  | 0,h => exact (E.X a (E.q b)).ok h
  | 1,h => rw [h]; rfl
  | 2,h => rw [h]; rfl
  | 3,⟨G,h1,h2⟩ => rw [h2]; rfl
  | 4,⟨G,h1,h2⟩ => rw [h2]; rfl
  | 5,h =>
   match d,h with
   | 0,h => exact h.elim
   | d+1,⟨f,cs,vs,h1,h2,h3⟩ => rw [h2]; rfl
  | 6,⟨G,m,h1,h2,_⟩ => rw [h2]; rfl
  | 7,⟨ao,m,h1,_⟩ => rw [h1]; rfl
  | 8,⟨f,ad,n',m,r,m',_,h1⟩ => rw [h1]; rfl
  | 9,⟨f,ad,n',m,r,_,h1⟩ => rw [h1]; rfl
  | 10,⟨ao,k,m,h1,_⟩ => rw [h1]; rfl
  | k+11,h => exact h.elim
theorem a1On.mono {R R' : AC→Value→Prop} (h : ∀ c v,R c v→R' c v) : ∀ (x : A1) (v : Value),a1On R x v→a1On R' x v
 | (true,_),_,⟨vs,e,q⟩ => ⟨vs,e,A2.mono h q⟩
 | (false,_),_,q => A2.mono h q
theorem avOn.mono {R R' : AC→Value→Prop} (h : ∀ c v,R c v→R' c v) : ∀ (x : AV) (v : Value),avOn R x v→avOn R' x v
 | (true,_),_,⟨vs,e,q⟩ => ⟨vs,e,A2.mono (a1On.mono h) q⟩
 | (false,_),_,q => A2.mono (a1On.mono h) q
theorem Bxd.of {w w' : World} {k : Nat} (e : w'.heap[k]? = w.heap[k]?) (h : Bxd nb w' k) : Bxd nb w k := by
 obtain ⟨cs,t,h1,h2⟩ := h
 exact ⟨cs,t,e.symm.trans h1,h2⟩
theorem Gr.refl (w : World) : Gr nb w w := ⟨Nat.le_refl _,fun _ _ _ => rfl,fun _ cs _ h => ⟨cs,h,rfl⟩⟩
theorem Gr.trans {a b c : World} (h : Gr nb a b) (k : Gr nb b c) : Gr nb a c :=
 ⟨Nat.le_trans h.size k.size,fun i hi hn => by
  have e := h.block i hi hn
  exact (k.block i (Nat.lt_of_lt_of_le hi h.size) (fun q => hn (q.of e))).trans e,fun i cs t hc => by
  obtain ⟨cs1,h1,h2⟩ := h.len i cs t hc
  obtain ⟨cs2,h3,h4⟩ := k.len i cs1 t h1
  exact ⟨cs2,h3,h4.trans h2⟩⟩
theorem Gr.of (h : Below w.heap.size w w') : Gr nb w w' := ⟨h.size,fun k hk _ => h.block k hk,fun k cs _ hc => ⟨cs,(h.block k hc.lt).trans hc,rfl⟩⟩
def Live (γ : Nat→Option Nat) (b : Nat) : Prop := ∀ G c,γ b=some G→γ c=some G→c≤b
def boxOn (E : Ev nb) (K : List (FuncId × List AC)) (γ : Nat→Option Nat) (w : World) (x : HB) : Prop :=
 ∃ G vs t,γ x.1=some G∧Live γ x.1∧(∃ us,Bk w G (vs ++ us) t∧∀ u ∈ us,okV u=true)∧memN t nb=false∧A2 (cOn E K γ w) x.2 vs
theorem boxOn.bxd {x : HB} {G : Nat} (h : boxOn E K γ w x) (hG : γ x.1=some G) : Bxd nb w G := by
 obtain ⟨G',vs,t,h1,_,⟨us,h2,hu⟩,h3,h4⟩ := h
 rw [hG] at h1
 cases h1
 refine ⟨vs ++ us,t,h2,h3,fun c hc => ?_⟩
 rcases List.mem_append.1 hc with q | q
 ·exact A2.all (p := fun v => okV v=true) (fun a v q => cellOn_ok _ a v q) h4 c q
 ·exact hu c q
theorem boxOn.live {x : HB} (h : boxOn E K γ w x) : Live γ x.1 := by
 obtain ⟨_,_,_,_,h,_⟩ := h
 exact h
structure WI (w0 : World) (γ : Nat→Option Nat) (w : World) : Prop where
 bel : Below w0.heap.size w0 w
 lo : ∀ b G,γ b=some G→w0.heap.size≤G∧G < w.heap.size
structure Ef (nb : List Nat) (w0 : World) (wr : List Nat) (lo hi : Nat) (γ : Nat→Option Nat) (w : World) (γ' : Nat→Option Nat) (w' : World) : Prop where
 le : leG γ γ'
 same : ∀ b,¬ (lo≤b∧b < hi)→γ' b=γ b
 fresh : ∀ b G,γ' b=some G→γ b=some G ∨ w.heap.size≤G ∨ ∃ k ∈ wr,γ k=some G
 wi : WI w0 γ' w'
 gr : Gr nb w w'
 keep : ∀ G,G < w.heap.size→(∀ b ∈ wr,γ b ≠ some G)→w'.heap[G]? = w.heap[G]?
 live : ∀ b ∈ wr,Live γ b
theorem Ef.refl {w0 : World} (h : WI w0 γ w) (wr : List Nat) (lo : Nat) (hl : ∀ b ∈ wr,Live γ b) : Ef nb w0 wr lo lo γ w γ w :=
 ⟨leG.refl _,fun _ _ => rfl,fun _ _ h => Or.inl h,h,Gr.refl _,fun _ _ _ => rfl,hl⟩
theorem Ef.pure {w0 : World} (h : WI w0 γ w) (hb : Below w.heap.size w w') (wr : List Nat) (lo hi : Nat) (hl : ∀ b ∈ wr,Live γ b) : Ef nb w0 wr lo hi γ w γ w' :=
 ⟨leG.refl _,fun _ _ => rfl,fun _ _ h => Or.inl h,⟨h.bel.trans (hb.mono h.bel.size),fun b G q => ⟨(h.lo b G q).1,Nat.lt_of_lt_of_le (h.lo b G q).2 hb.size⟩⟩,Gr.of hb,fun G hG _ => hb.block G hG,hl⟩
theorem no_live {γ : Nat→Option Nat} : ∀ b ∈ ([] : List Nat),Live γ b := fun _ h => by cases h
theorem Ef.trans {w0 : World} {wr wr2 : List Nat} {lo mid hi : Nat} {γ2 : Nat→Option Nat} {w2 : World} (h : Ef nb w0 wr lo mid γ w γ' w') (k : Ef nb w0 wr2 mid hi γ' w' γ2 w2) (h1 : lo≤mid) (h2 : mid≤hi) (hf : ∀ b,lo≤b→b < hi→γ b=none)
  (hw : ∀ b ∈ wr2,b ∈ wr ∨ (lo≤b∧b < mid)) : Ef nb w0 wr lo hi γ w γ2 w2 where
 le := h.le.trans k.le
 same := fun b hb => (k.same b (by omega)).trans (h.same b (by omega))
 fresh := fun b G q => by
  rcases k.fresh b G q with q' | q' | ⟨j,hj,q'⟩
  ·exact h.fresh b G q'
  ·exact Or.inr (Or.inl (Nat.le_trans h.gr.size q'))
  ·rcases h.fresh j G q' with p | p | p
   ·rcases hw j hj with hb | ⟨l1,l2⟩
    ·exact Or.inr (Or.inr ⟨j,hb,p⟩)
    ·rw [hf j l1 (by omega)] at p
     cases p
   ·exact Or.inr (Or.inl p)
   ·exact Or.inr (Or.inr p)
 wi := k.wi
 gr := h.gr.trans k.gr
 keep := fun G hG hn => by
  have e1 := h.keep G hG hn
  refine (k.keep G (Nat.lt_of_lt_of_le hG h.gr.size) fun b hb q => ?_).trans e1
  rcases h.fresh b G q with q' | q' | ⟨j,hj,q'⟩
  ·rcases hw b hb with hb | ⟨l1,l2⟩
   ·exact hn b hb q'
   ·rw [hf b l1 (by omega)] at q'
    cases q'
  ·omega
  ·exact hn j hj q'
 live := h.live
theorem Ef.cell {w0 : World} {wr : List Nat} {lo hi d : Nat} {c : AC} {v : Value} (h : Ef nb w0 wr lo hi γ w γ' w') (hc : cellOn E K γ w d c v) : cellOn E K γ' w' d c v := cellOn_st h.le h.gr d c v hc
theorem Ef.av {w0 : World} {wr : List Nat} {lo hi : Nat} {x : AV} {v : Value} (h : Ef nb w0 wr lo hi γ w γ' w') (hc : avOn (cOn E K γ w) x v) : avOn (cOn E K γ' w') x v := avOn.mono (fun _ _ q => h.cell q) x v hc
theorem Ef.box {w0 : World} {wr : List Nat} {lo hi : Nat} {x : HB} (h : Ef nb w0 wr lo hi γ w γ' w') (_ : WI w0 γ w) (hx : boxOn E K γ w x) (hn : x.1 ∉ wr) : boxOn E K γ' w' x := by
 obtain ⟨G,vs,t,h1,hl,⟨us,h2,hu⟩,h3,h4⟩ := hx
 have apart : ∀ b ∈ wr,γ b ≠ some G := fun b hb q => by
  have e1 := hl G b h1 q
  have e2 := h.live b hb G x.1 q h1
  have : b=x.1 := by omega
  exact hn (this ▸ hb)
 refine ⟨G,vs,t,h.le _ _ h1,fun G' c q1 q2 => ?_,⟨us,?_,hu⟩,h3,h4.mono fun _ _ q => h.cell q⟩
 ·rw [h.le _ _ h1] at q1
  cases q1
  rcases h.fresh c G q2 with q | q | ⟨k,hk,q⟩
  ·exact hl G c h1 q
  ·have := h2.lt
   omega
  ·exact absurd q (apart k hk)
 ·unfold Bk
  rw [h.keep G h2.lt apart]
  exact h2
theorem asC_on {v : AV} {c : AC} {R : AC→Value→Prop} {x : Value} (h : asC v=some c) (hv : avOn R v x) : R c x := by
 unfold asC at h
 split at h
 ·cases h
  exact hv.1.1
 ·cases h
theorem asA_on {v : AV} {cs : List AC} {R : AC→Value→Prop} {x : Value} (h : asA v=some cs) (hv : avOn R v x) : ∃ vs : List Value,x=.agg vs.toArray∧A2 R cs vs := by
 unfold asA at h
 split at h
 ·cases h
  exact hv.1
 ·cases h
theorem asL_on {v : AV} {cs : List AC} {x : Value} (h : asL v=some cs) (hv : avOn (cOn E K γ w) v x) : ∃ vs : List Value,x.cells=vs.toArray∧A2 (cOn E K γ w) cs vs := by
 unfold asL at h
 split at h
 ·cases h
  obtain ⟨vs,e,q⟩ := hv.1
  exact ⟨vs,by rw [e]; rfl,q⟩
 ·cases h
  have q := hv.1.1
  refine ⟨[x],?_,q,trivial⟩
  have := cellOn_ok _ _ _ q
  cases x <;> first | rfl | (simp [okV,Value.oneCell'] at this)
 ·cases h
theorem asT_on {v : AV} {xs : List A1} {R : AC→Value→Prop} {x : Value} (h : asT v=some xs) (hv : avOn R v x) : ∃ vs : List Value,x=.tuple vs.toArray∧A2 (a1On R) xs vs := by
 unfold asT at h
 split at h
 ·cases h
  exact hv
 ·cases h
theorem v1_on {c : AC} {R : AC→Value→Prop} {x : Value} (h : R c x) : avOn R (v1 c) x := ⟨⟨h,trivial⟩,trivial⟩
theorem vA_on {cs : List AC} {R : AC→Value→Prop} {vs : List Value} (h : A2 R cs vs) : avOn R (vA cs) (.agg vs.toArray) := ⟨⟨vs,rfl,h⟩,trivial⟩
theorem asB_on {v : AV} {b : Bool} {x : Value} (h : asB v=some b) (hv : avOn (cOn E K γ w) v x) : x=.bool b := by
 unfold asB at h
 rw [Option.bind_eq_some_iff] at h
 obtain ⟨c,h1,h2⟩ := h
 have := asC_on h1 hv
 unfold acB at h2
 split at h2
 ·cases h2
  exact this.1
 ·cases h2
theorem asI_on {v : AV} {z : Int} {x : Value} (h : asI v=some z) (hv : avOn (cOn E K γ w) v x) : x=.int .i64 z := by
 unfold asI at h
 rw [Option.bind_eq_some_iff] at h
 obtain ⟨c,h1,h2⟩ := h
 have := asC_on h1 hv
 unfold acI at h2
 split at h2
 ·cases h2
  exact this.1
 ·cases h2
theorem asN_on {v : AV} {n : Nat} {x : Value} (h : asN v=some n) (hv : avOn (cOn E K γ w) v x) : x=.int .i64 n := by
 unfold asN at h
 rw [Option.bind_eq_some_iff] at h
 obtain ⟨z,h1,h2⟩ := h
 have := asI_on h1 hv
 split at h2
 ·cases h2
  exact this
 ·cases h2
theorem acP_on {c : AC} {p : Nat × Nat} {x : Value} {d : Nat} (h : acP c=some p) (hc : cellOn E K γ w d c x) : ∃ G,γ p.1=some G∧x=.pointer (some ⟨G,p.2,none⟩) := by
 unfold acP at h
 split at h
 ·rw [ifO_some] at h
  obtain ⟨h1,h2⟩ := h
  cases h2
  rw [Nat.beq_eq] at h1
  subst h1
  unfold cellOn at hc
  exact hc
 ·cases h
theorem acS_on {c : AC} {p : Nat × Nat × Nat × Nat} {x : Value} {d : Nat} (h : acS c=some p) (hc : cellOn E K γ w d c x) : ∃ G,γ p.1=some G∧x=.slice (some ⟨G,p.2.1,none⟩) p.2.2.1 p.2.2.2 := by
 unfold acS at h
 split at h
 ·rw [ifO_some] at h
  obtain ⟨h1,h2⟩ := h
  cases h2
  rw [Nat.beq_eq] at h1
  subst h1
  unfold cellOn at hc
  exact hc
 ·cases h
theorem acR_on {c : AC} {p : Nat × Nat × Nat} {x : Value} {d : Nat} (h : acR c=some p) (hc : cellOn E K γ w d c x) : ∃ G m,γ p.1=some G∧x=.slice (some ⟨G,p.2.1,none⟩) p.2.2 m := by
 unfold acR at h
 split at h
 ·rw [ifO_some,Bool.or_eq_true,Nat.beq_eq,Nat.beq_eq] at h
  obtain ⟨h1,h2⟩ := h
  cases h2
  rcases h1 with h1 | h1
  ·subst h1
   unfold cellOn at hc
   obtain ⟨G,g1,g2⟩ := hc
   exact ⟨G,_,g1,g2⟩
  ·subst h1
   unfold cellOn at hc
   obtain ⟨G,m,g1,g2,_⟩ := hc
   exact ⟨G,m,g1,g2⟩
 ·cases h
theorem acO_on {c : AC} {p : Nat × Nat × Nat × Nat} {x : Value} {d : Nat} (h : acO c=some p) (hc : cellOn E K γ w d c x) : ∃ G m,γ p.1=some G∧x=.slice (some ⟨G,p.2.1,none⟩) p.2.2.1 m∧p.2.2.1≤m∧∃ cs t,Bk w G cs t∧cs.length=p.2.1+m*p.2.2.2 := by
 unfold acO at h
 split at h
 ·rw [ifO_some,Nat.beq_eq] at h
  obtain ⟨h1,h2⟩ := h
  cases h2
  subst h1
  unfold cellOn at hc
  exact hc
 ·cases h
theorem isNilC_on {c : AC} {x : Value} {d : Nat} (h : isNilC c=true) (hc : cellOn E K γ w d c x) : x=.slice none 0 0 := by
 unfold isNilC at h
 split at h
 ·unfold cellOn at hc
  exact hc.1
 ·cases h
theorem acE_on {c : AC} {f : Nat} {x : Value} {d : Nat} (h : acE c=some f) (hc : cellOn E K γ w d c x) : ∃ ao m,x=.slice ao 0 m∧(f=1→m=0) := by
 unfold acE at h
 split at h
 ·rw [ifO_some,Nat.beq_eq] at h
  obtain ⟨h1,h2⟩ := h
  cases h2
  subst h1
  unfold cellOn at hc
  exact hc
 ·cases h
theorem acH_on {c : AC} {p : Nat × Nat × Nat} {x : Value} {d : Nat} (h : acH c=some p) (hc : cellOn E K γ w d c x) : ∃ f ad n m r m',K[p.1]? = some (f,.inl (.slice (some ad) n m) :: r)∧x=.slice (some (ad.add p.2.1)) p.2.2 m' := by
 unfold acH at h
 split at h
 ·rw [ifO_some] at h
  obtain ⟨h1,h2⟩ := h
  cases h2
  rw [Nat.beq_eq] at h1
  subst h1
  unfold cellOn at hc
  exact hc
 ·cases h
theorem acHP_on {c : AC} {p : Nat × Nat} {x : Value} {d : Nat} (h : acHP c=some p) (hc : cellOn E K γ w d c x) : ∃ f ad n m r,K[p.1]? = some (f,.inl (.slice (some ad) n m) :: r)∧x=.pointer (some (ad.add p.2)) := by
 unfold acHP at h
 split at h
 ·rw [ifO_some] at h
  obtain ⟨h1,h2⟩ := h
  cases h2
  rw [Nat.beq_eq] at h1
  subst h1
  unfold cellOn at hc
  exact hc
 ·cases h
theorem acHL_on {c : AC} {a : Nat} {x : Value} {d : Nat} (h : acHL c=some a) (hc : cellOn E K γ w d c x) : ∃ (ao : Option Addr) (k m : Nat),x=.slice ao k m∧∀ w',(E.X 6 (E.q a)).on (.int .i64 (k : Int)) w' := by
 unfold acHL at h
 split at h
 ·rw [ifO_some] at h
  obtain ⟨h1,h2⟩ := h
  cases h2
  rw [Nat.beq_eq] at h1
  subst h1
  unfold cellOn at hc
  exact hc
 ·cases h
theorem acLen_on {c : AC} {n : Nat} {x : Value} {d : Nat} (h : acLen c=some n) (hc : cellOn E K γ w d c x) : ∃ ao m,x=.slice ao n m := by
 unfold acLen at h
 cases hn : isNilC c with
 | true =>
  rw [hn] at h
  cases h
  exact ⟨none,0,isNilC_on hn hc⟩
 | false =>
  rw [hn] at h
  simp only [cond_false] at h
  split at h
  ·rename_i f hf
   cases h
   obtain ⟨ao,m,e,_⟩ := acE_on hf hc
   exact ⟨ao,m,e⟩
  ·split at h
   ·rename_i p hp
    cases h
    obtain ⟨_,ad,_,_,_,m',_,e⟩ := acH_on hp hc
    exact ⟨_,m',e⟩
   ·rw [Option.map_eq_some_iff] at h
    obtain ⟨p,h1,rfl⟩ := h
    obtain ⟨G,m,_,e⟩ := acR_on h1 hc
    exact ⟨_,m,e⟩
theorem asR_on {v : AV} {p : Nat × Nat × Nat} {x : Value} (h : asR v=some p) (hv : avOn (cOn E K γ w) v x) : ∃ G m,γ p.1=some G∧x=.slice (some ⟨G,p.2.1,none⟩) p.2.2 m := by
 unfold asR at h
 rw [Option.bind_eq_some_iff] at h
 obtain ⟨c,h1,h2⟩ := h
 exact acR_on h2 (asC_on h1 hv)
theorem asO_on {v : AV} {p : Nat × Nat × Nat × Nat} {x : Value} (h : asO v=some p) (hv : avOn (cOn E K γ w) v x) : ∃ G m,γ p.1=some G∧x=.slice (some ⟨G,p.2.1,none⟩) p.2.2.1 m∧p.2.2.1≤m∧∃ cs t,Bk w G cs t∧cs.length=p.2.1+m*p.2.2.2 := by
 unfold asO at h
 rw [Option.bind_eq_some_iff] at h
 obtain ⟨c,h1,h2⟩ := h
 exact acO_on h2 (asC_on h1 hv)
theorem asP_on {v : AV} {p : Nat × Nat} {x : Value} (h : asP v=some p) (hv : avOn (cOn E K γ w) v x) : ∃ G,γ p.1=some G∧x=.pointer (some ⟨G,p.2,none⟩) := by
 unfold asP at h
 rw [Option.bind_eq_some_iff] at h
 obtain ⟨c,h1,h2⟩ := h
 exact acP_on h2 (asC_on h1 hv)
theorem asS_on {v : AV} {p : Nat × Nat × Nat × Nat} {x : Value} (h : asS v=some p) (hv : avOn (cOn E K γ w) v x) : ∃ G,γ p.1=some G∧x=.slice (some ⟨G,p.2.1,none⟩) p.2.2.1 p.2.2.2 := by
 unfold asS at h
 rw [Option.bind_eq_some_iff] at h
 obtain ⟨c,h1,h2⟩ := h
 exact acS_on h2 (asC_on h1 hv)
theorem acX_on {c : AC} {k a : Nat} {x : Value} {d : Nat} (h : acX k c=some a) (hc : cellOn E K γ w d c x) : (E.X k (E.q a)).on x w := by
 unfold acX at h
 split at h
 ·rw [ifO_some,Bool.and_eq_true,Nat.beq_eq,Nat.beq_eq] at h
  obtain ⟨⟨h1,h2⟩,h3⟩ := h
  cases h3
  subst h1 h2
  unfold cellOn at hc
  exact hc
 ·cases h
theorem acF_on {c : AC} {k : Nat} {x : Value} (h : acF c=some k) (hc : cOn E K γ w c x) : ∃ f cs vs,K[k]? = some (f,cs)∧x=.func (.func f) #[] vs.toArray∧A2 (cellOn E K γ w 2) cs vs := by
 unfold acF at h
 split at h
 ·rw [ifO_some,Nat.beq_eq] at h
  obtain ⟨h1,h2⟩ := h
  cases h2
  subst h1
  exact hc
 ·cases h
theorem cellOn_up : ∀ (d : Nat) (c : AC) (v : Value),cellOn E K γ w d c v→cellOn E K γ w (d+1) c v
 | _,.inl _,_,h => by
  unfold cellOn at h ⊢
  exact h
 | d,.inr (k,a,b,n,c),v,h => by
  unfold cellOn at h ⊢
  match k,h with
  | 0,h => exact h
  | 1,h => exact h
  | 2,h => exact h
  | 3,h => exact h
  | 4,h => exact h
  | 5,h =>
   match d,h with
   | 0,h => exact h.elim
   | d+1,⟨f,cs,vs,h1,h2,h3⟩ => exact ⟨f,cs,vs,h1,h2,h3.mono (cellOn_up d)⟩
  | 6,h => exact h
  | 7,h => exact h
  | 8,h => exact h
  | 9,h => exact h
  | 10,h => exact h
  | k+11,h => exact h.elim
theorem hget_mem {b : Nat} {cs : List AC} : ∀ {h : List HB},hget b h=some cs→(b,cs) ∈ h
 | [],q => by cases q
 | (c,x) :: h,q => by
  unfold hget at q
  cases e : Nat.beq b c with
  | true =>
   rw [e] at q
   cases q
   rw [Nat.beq_eq] at e
   rw [e]
   exact List.mem_cons_self
  | false =>
   rw [e] at q
   exact List.mem_cons_of_mem _ (hget_mem q)
theorem hset_mem {b : Nat} {cs : List AC} {x : HB} : ∀ {h : List HB},x ∈ hset b cs h→x=(b,cs) ∨ (x ∈ h∧x.1 ≠ b)
 | [],q => by cases q
 | (c,y) :: h,q => by
  unfold hset at q
  rcases List.mem_cons.1 q with q | q
  ·cases e : Nat.beq b c with
   | true =>
    rw [e] at q
    exact Or.inl q
   | false =>
    rw [e] at q
    refine Or.inr ⟨by rw [q]; exact List.mem_cons_self,fun e' => ?_⟩
    rw [q] at e'
    have : Nat.beq b c=true := by rw [Nat.beq_eq]; exact e'.symm
    rw [e] at this
    cases this
  ·rcases hset_mem q with q | ⟨q1,q2⟩
   ·exact Or.inl q
   ·exact Or.inr ⟨List.mem_cons_of_mem _ q1,q2⟩
end
end Cx
/- VC -/
namespace Cx
open Go Go.RowKit
section
variable (S : Sx) (E : Ev S.nb) (w0 : World)
structure OpOk (h : List HB) (nx : Nat) (ρ : Operand→Option AV) (o : Oper) (r : OR) : Prop where
 le : nx≤r.nx
 wh : ∀ b ∈ r.wr,∃ x ∈ h,x.1=b
 fp : ∀ x ∈ r.h,x ∈ h ∨ x.1 ∈ r.wr ∨ (nx≤x.1∧x.1 < r.nx)
 run : ∀ (γ : Nat→Option Nat) (w : World) (a : Act) (Q : Exit→Act→World→Prop),WI w0 γ w→(∀ x v,ρ x=some v→avOn (cOn E S.K γ w) v (a.eval x)) →
  (∀ x ∈ h,x.1 ∈ r.rd ∨ x.1 ∈ r.wr→boxOn E S.K γ w x)→(∀ b,nx≤b→b < r.nx→γ b=none)→(∀ x ∈ h,x.1 < nx) →
  ∀ K : Act→World→Prop,(∀ v w' γ',Ef S.nb w0 r.wr nx r.nx γ w γ' w'→(∀ y,r.res=some y→avOn (cOn E S.K γ' w') y v) →
   (∀ x ∈ r.h,x.1 ∈ r.wr ∨ (nx≤x.1∧x.1 < r.nx)→boxOn E S.K γ' w' x)→K (a.put o.dst v) w')→Oper.wp S.P o a w K Q
structure Kept (h : List HB) (r : OR) : Prop where
 up : ∀ x ∈ h,x.1 ∉ wrs r→x ∈ r.h
 dn : ∀ x ∈ r.h,x.1 ∈ r.wr→x.1 ∈ r.rd→x ∈ h
def skipR (h : List HB) (nx : Nat) : OR := { res := some skV,rd := [],wr := [],h := h,nx := nx }
def Lay (tm : List (Nat × AV)) : Nat→List Oper→Prev→List HB→Nat→List OR→Prop
 | _,[],_,_,_,[] => True
 | i,o :: os,prev,h,nx,r :: rs => (∃ wt,wantB prev o=some wt∧(wt=true→OpOk S E w0 h nx (opdB S.K tm prev i o os) o r)∧(wt=false→r=skipR h nx)) ∧
   (∀ b ∈ r.rd,b < nx)∧(∀ b ∈ r.wr,b < nx)∧Kept h r∧Lay tm (i+1) os (prev ++ [(o.dst,r.res)]) r.h r.nx rs
 | _,_,_,_,_,_ => False
end
def prevs (os : List Oper) (rs : List OR) (j : Nat) : Prev := ((os.take j).zip (rs.take j)).map fun x => (x.1.dst,x.2.res)
def hAt (h : List HB) (rs : List OR) (k : Nat) : List HB := lastH h (rs.take k)
def nAt (n : Nat) (rs : List OR) (k : Nat) : Nat := lastN n (rs.take k)
theorem hAt_zero (h : List HB) (rs : List OR) : hAt h rs 0=h := by simp [hAt,lastH]
theorem nAt_zero (n : Nat) (rs : List OR) : nAt n rs 0=n := by simp [nAt,lastN]
theorem hAt_succ : ∀ {rs : List OR} {h : List HB} {k : Nat} {r : OR},rs[k]? = some r→hAt h rs (k+1)=r.h
 | [],_,_,_,e => by simp at e
 | s :: rs,h,0,r,e => by
  have : s=r := by simpa using e
  subst this
  simp [hAt,lastH]
 | s :: rs,h,k+1,r,e => by
  have := hAt_succ (rs := rs) (h := s.h) (k := k) (r := r) (by simpa using e)
  simpa [hAt,lastH] using this
theorem nAt_succ : ∀ {rs : List OR} {n k : Nat} {r : OR},rs[k]? = some r→nAt n rs (k+1)=r.nx
 | [],_,_,_,e => by simp at e
 | s :: rs,n,0,r,e => by
  have : s=r := by simpa using e
  subst this
  simp [nAt,lastN]
 | s :: rs,n,k+1,r,e => by
  have := nAt_succ (rs := rs) (n := s.nx) (k := k) (r := r) (by simpa using e)
  simpa [nAt,lastN] using this
section
variable {S : Sx} {E : Ev S.nb} {w0 : World}
structure At (S : Sx) (E : Ev S.nb) (w0 : World) (tm : List (Nat × AV)) (os : List Oper) (rs : List OR) (h : List HB) (n : Nat) (prev : Prev) (i j : Nat) (o : Oper) (r : OR) : Prop where
 wt : ∃ wt,wantB (prev ++ prevs os rs j) o=some wt∧(wt=true→OpOk S E w0 (hAt h rs j) (nAt n rs j) (opdB S.K tm (prev ++ prevs os rs j) (i+j) o (os.drop (j+1))) o r)∧(wt=false→r=skipR (hAt h rs j) (nAt n rs j))
 rd : ∀ b ∈ r.rd,b < nAt n rs j
 wr : ∀ b ∈ r.wr,b < nAt n rs j
 kp : Kept (hAt h rs j) r
theorem Lay.get {tm : List (Nat × AV)} : ∀ {os : List Oper} {rs : List OR} {h : List HB} {n : Nat} {prev : Prev} {i j : Nat} {o : Oper},Lay S E w0 tm i os prev h n rs→os[j]? = some o→∃ r,rs[j]? = some r∧At S E w0 tm os rs h n prev i j o r
 | [],_,_,_,_,_,_,_,_,e => by simp at e
 | p :: os,[],_,_,_,_,_,_,hl,_ => hl.elim
 | p :: os,s :: rs,h,n,prev,i,0,o,hl,e => by
  have : p=o := by simpa using e
  subst this
  obtain ⟨⟨wt,h1,h2,h3⟩,h4,h5,h6,_⟩ := hl
  refine ⟨s,rfl,⟨wt,?_,?_,?_⟩,?_,?_,?_⟩
  ·simpa [prevs] using h1
  ·simpa [prevs,hAt_zero,nAt_zero] using h2
  ·simpa [hAt_zero,nAt_zero] using h3
  ·simpa [nAt_zero] using h4
  ·simpa [nAt_zero] using h5
  ·simpa [hAt_zero] using h6
 | p :: os,s :: rs,h,n,prev,i,j+1,o,hl,e => by
  obtain ⟨_,_,_,_,hl'⟩ := hl
  obtain ⟨r,hr,⟨wt,h1,h2,h3⟩,h4,h5,h6⟩ := Lay.get hl' (j := j) (o := o) (by simpa using e)
  have e1 : prev ++ [(p.dst,s.res)] ++ prevs os rs j=prev ++ prevs (p :: os) (s :: rs) (j+1) := by simp [prevs]
  have e2 : hAt s.h rs j=hAt h (s :: rs) (j+1) := by simp [hAt,lastH]
  have e3 : nAt s.nx rs j=nAt n (s :: rs) (j+1) := by simp [nAt,lastN]
  have e4 : i+1+j=i+(j+1) := by omega
  rw [e1,e2,e3,e4] at h2
  rw [e1] at h1
  rw [e2,e3] at h3
  rw [e3] at h4 h5
  rw [e2] at h6
  exact ⟨r,by simpa using hr,⟨wt,h1,by simpa using h2,h3⟩,h4,h5,h6⟩
theorem Lay.len {tm : List (Nat × AV)} : ∀ {os : List Oper} {rs : List OR} {h : List HB} {n : Nat} {prev : Prev} {i : Nat},Lay S E w0 tm i os prev h n rs→rs.length=os.length
 | [],[],_,_,_,_,_ => rfl
 | [],_ :: _,_,_,_,_,hl => hl.elim
 | _ :: _,[],_,_,_,_,hl => hl.elim
 | _ :: _,_ :: _,_,_,_,_,hl => congrArg (· + 1) (Lay.len hl.2.2.2.2)
end
theorem prevOf_some {t : Tmp} : ∀ {ps : Prev} {i j : Nat} {r : Option AV},prevOf t i ps=some (j,r)→i≤j∧ps[j - i]? = some (some t,r)
 | [],_,_,_,h => by cases h
 | (d,s) :: ps,i,j,r,h => by
  unfold prevOf at h
  have tail : prevOf t (i+1) ps=some (j,r)→i≤j∧((d,s) :: ps)[j - i]? = some (some t,r) := fun h => by
   obtain ⟨h1,h2⟩ := prevOf_some h
   refine ⟨by omega,?_⟩
   rw [show j - i=j - (i+1)+1 by omega]
   simpa using h2
  cases d with
  | none => exact tail h
  | some u =>
   dsimp only at h
   cases e : Nat.beq t u with
   | true =>
    rw [e] at h
    cases h
    rw [Nat.beq_eq] at e
    subst e
    exact ⟨Nat.le_refl _,by simp⟩
   | false =>
    rw [e] at h
    exact tail h
theorem prevOf_none {t : Tmp} : ∀ {ps : Prev} {i : Nat},prevOf t i ps=none→∀ (k : Nat) (r : Option AV),ps[k]? ≠ some (some t,r)
 | [],_,_,k,r => by simp
 | (d,s) :: ps,i,h,k,r => by
  unfold prevOf at h
  have tail : prevOf t (i+1) ps=none→(d ≠ some t)→((d,s) :: ps)[k]? ≠ some (some t,r) := fun h hd => by
   cases k with
   | zero =>
    intro q
    have : d=some t := by
     have := (Option.some.inj q)
     exact congrArg Prod.fst this
    exact hd this
   | succ k => simpa using prevOf_none h k r
  cases d with
  | none => exact tail h (by simp)
  | some u =>
   dsimp only at h
   cases e : Nat.beq t u with
   | true =>
    rw [e] at h
    cases h
   | false =>
    rw [e] at h
    refine tail h fun q => ?_
    cases q
    rw [Nat.beq_refl] at e
    cases e
theorem edgeB_dep {o : Oper} {j : Nat} {d : Nat→Prop} (h : edgeB o j=true) (hd : ∀ e ∈ o.after,Region.binds .any e=true→d e.on) : d j := by
 unfold edgeB at h
 rw [List.any_eq_true] at h
 obtain ⟨e,he,hb⟩ := h
 rw [Bool.and_eq_true,Nat.beq_eq] at hb
 exact hb.1 ▸ hd e (by simpa using he) hb.2
theorem edgeT_dep {all : List Oper} {d : Nat→Prop} (hw : ∀ i o,all[i]? = some o→d i→∀ e ∈ o.after,Region.binds .any e=true→d e.on) : ∀ {n : Nat} {o : Oper} {j : Nat},edgeT all n o j=true→(∀ e ∈ o.after,Region.binds .any e=true→d e.on)→d j
 | 0,_,_,h,hd => edgeB_dep h hd
 | n+1,o,j,h,hd => by
  unfold edgeT at h
  rw [Bool.or_eq_true] at h
  rcases h with h | h
  ·exact edgeB_dep h hd
  ·rw [List.any_eq_true] at h
   obtain ⟨e,he,hb⟩ := h
   rw [Bool.and_eq_true] at hb
   obtain ⟨hb,hm⟩ := hb
   have hde := hd e (by simpa using he) hb
   cases ho : all[e.on]? with
   | none => rw [ho] at hm; cases hm
   | some o' =>
    rw [ho] at hm
    exact edgeT_dep hw hm (hw _ _ ho hde)
theorem orderedFrom.get {all : List Oper} {lo i : Nat} {a : OR} : ∀ {os : List Oper} {rs : List OR} {k : Nat} {o : Oper} {b : OR},orderedFrom all lo i a os rs=true→os[k]? = some o→rs[k]? = some b→confB lo a b=true→edgeT all 3 o i=true
 | [],_,_,_,_,_,e,_,_ => by simp at e
 | _ :: _,[],_,_,_,_,_,e,_ => by simp at e
 | p :: os,s :: rs,0,o,b,h,e1,e2,hc => by
  have h1 : p=o := by simpa using e1
  have h2 : s=b := by simpa using e2
  subst h1 h2
  unfold orderedFrom at h
  rw [hc] at h
  simp at h
  exact h.1
 | p :: os,s :: rs,k+1,o,b,h,e1,e2,hc => by
  unfold orderedFrom at h
  rw [Bool.and_eq_true] at h
  exact orderedFrom.get h.2 (k := k) (by simpa using e1) (by simpa using e2) hc
theorem orderedB.get {all : List Oper} : ∀ {os : List Oper} {rs : List OR} {i0 n i j : Nat} {o : Oper} {a b : OR},orderedB all i0 n os rs=true→i < j→os[j]? = some o→rs[i]? = some a→rs[j]? = some b→confB (nAt n rs i) a b=true→edgeT all 3 o (i0+i)=true
 | [],_,_,_,_,_,_,_,_,_,_,e,_,_,_ => by simp at e
 | _ :: _,[],_,_,_,_,_,_,_,_,_,_,e,_,_ => by simp at e
 | p :: os,s :: rs,i0,n,0,j+1,o,a,b,h,_,e1,e2,e3,hc => by
  have h2 : s=a := by simpa using e2
  subst h2
  unfold orderedB at h
  rw [Bool.and_eq_true] at h
  rw [nAt_zero] at hc
  exact orderedFrom.get h.1 (k := j) (by simpa using e1) (by simpa using e3) hc
 | p :: os,s :: rs,i0,n,i+1,j+1,o,a,b,h,hlt,e1,e2,e3,hc => by
  unfold orderedB at h
  rw [Bool.and_eq_true] at h
  have := orderedB.get h.2 (i := i) (j := j) (by omega) (by simpa using e1) (by simpa using e2) (by simpa using e3) (by simpa [nAt,lastN] using hc)
  rwa [show i0+1+i=i0+(i+1) by omega] at this
 | _ :: _,_ :: _,_,_,_,0,_,_,_,_,h,_,_,_,_ => by omega
theorem mem_wrs {r : OR} {b : Nat} : b ∈ wrs r ↔ b ∈ r.wr∧b ∉ r.rd := by
 unfold wrs
 rw [List.mem_filter,Bool.not_eq_true',memN_not]
theorem confB_of {lo b : Nat} {x y : OR} (h : (b ∈ wrs x∧b ∈ y.rd) ∨ (b ∈ wrs x∧b ∈ wrs y) ∨ (b ∈ x.rd∧b ∈ wrs y) ∨ ((lo≤b∧b < x.nx)∧(b ∈ y.rd ∨ b ∈ y.wr))) : confB lo x y=true := by
 cases hc : confB lo x y with
 | true => rfl
 | false =>
  exfalso
  unfold confB at hc
  simp only [Bool.or_eq_false_iff] at hc
  obtain ⟨h1,h2,h3,h4,h5⟩ := hc
  have nin : ∀ l : List Nat,l.any (inR lo x.nx)=false→b ∈ l→¬ (lo≤b∧b < x.nx) := fun l hl hb ⟨q1,q2⟩ => by
   rw [List.any_eq_false] at hl
   refine hl b hb ?_
   unfold inR
   rw [Bool.and_eq_true,Nat.ble_eq]
   exact ⟨q1,by simpa [Nat.blt_eq] using q2⟩
  rcases h with ⟨q1,q2⟩ | ⟨q1,q2⟩ | ⟨q1,q2⟩ | ⟨q1,q2 | q2⟩
  ·exact meets_not h1 b q1 q2
  ·exact meets_not h2 b q1 q2
  ·exact meets_not h3 b q1 q2
  ·exact nin _ h4 q2 q1
  ·exact nin _ h5 q2 q1
end Cx
/- VD -/
namespace Cx
open Go Go.RowKit
theorem Ef.trans2 {nb : List Nat} {w0 : World} {wr wr2 : List Nat} {lo hi lo2 hi2 : Nat} {γ γ' γ2 : Nat→Option Nat} {w w' w2 : World} (h : Ef nb w0 wr lo hi γ w γ' w') (k : Ef nb w0 wr2 lo2 hi2 γ' w' γ2 w2) (h1 : lo≤lo2) (h2 : hi2≤hi)
  (hw : ∀ b ∈ wr2,b ∈ wr ∨ γ b=none) : Ef nb w0 wr lo hi γ w γ2 w2 where
 le := h.le.trans k.le
 same := fun b hb => (k.same b (by omega)).trans (h.same b (by omega))
 fresh := fun b G q => by
  rcases k.fresh b G q with q' | q' | ⟨j,hj,q'⟩
  ·exact h.fresh b G q'
  ·exact Or.inr (Or.inl (Nat.le_trans h.gr.size q'))
  ·rcases h.fresh j G q' with p | p | p
   ·rcases hw j hj with hb | hb
    ·exact Or.inr (Or.inr ⟨j,hb,p⟩)
    ·rw [hb] at p
     cases p
   ·exact Or.inr (Or.inl p)
   ·exact Or.inr (Or.inr p)
 wi := k.wi
 gr := h.gr.trans k.gr
 keep := fun G hG hn => by
  have e1 := h.keep G hG hn
  refine (k.keep G (Nat.lt_of_lt_of_le hG h.gr.size) fun b hb q => ?_).trans e1
  rcases h.fresh b G q with q' | q' | ⟨j,hj,q'⟩
  ·rcases hw b hb with hb | hb
   ·exact hn b hb q'
   ·rw [hb] at q'
    cases q'
  ·omega
  ·exact hn j hj q'
 live := h.live
def Cons (rs : List OR) (n : Nat) (d : Nat→Prop) (b k : Nat) : Prop :=
 (∀ i r,rs[i]? = some r→b ∈ wrs r→(d i ↔ i < k))∧(∀ i r,rs[i]? = some r→nAt n rs i≤b→b < r.nx→d i∧i < k)
section
variable (S : Sx) (E : Ev S.nb) (w0 : World) (tm : List (Nat × AV)) (os : List Oper) (rs : List OR) (h : List HB) (n : Nat)
structure RS (a0 : Act) : Prop where
 lay : Lay S E w0 tm 0 os [] h n rs
 ord : orderedB os 0 n os rs=true
 nod : (os.filterMap (·.dst)).Nodup
 bnd : ∀ o ∈ os,∀ t,o.dst=some t→t < a0.tmps.size
 hlt : ∀ x ∈ h,x.1 < n
structure RI (a0 : Act) (γr : Nat→Option Nat) (wr : World) (γ : Nat→Option Nat) (d : Nat→Prop) (τ : Nat→Value) (w : World) : Prop where
 ef : Ef S.nb w0 (h.map (·.1)) n (nAt n rs rs.length) γr wr γ w
 non : ∀ j r,rs[j]? = some r→¬ d j→∀ b,nAt n rs j≤b→b < r.nx→γ b=none
 dwn : ∀ i o,os[i]? = some o→d i→∀ e ∈ o.after,Region.binds .any e=true→d e.on
 und : ∀ i o t,os[i]? = some o→o.dst=some t→¬ d i→τ i=a0.tmps.getD t undef
 res : ∀ j r y,rs[j]? = some r→d j→r.res=some y→avOn (cOn E S.K γ w) y (τ j)
 box : ∀ k x,k≤rs.length→x ∈ hAt h rs k→Cons rs n d x.1 k→boxOn E S.K γ w x
end
section
variable {S : Sx} {E : Ev S.nb} {w0 : World} {tm : List (Nat × AV)} {os : List Oper} {rs : List OR} {h : List HB} {n : Nat} {a0 : Act}
theorem RS.at (C : RS S E w0 tm os rs h n a0) {j : Nat} {o : Oper} (ho : os[j]? = some o) : ∃ r,rs[j]? = some r∧At S E w0 tm os rs h n [] 0 j o r := C.lay.get ho
theorem RS.op (C : RS S E w0 tm os rs h n a0) {j : Nat} {r : OR} (hr : rs[j]? = some r) : ∃ o,os[j]? = some o∧At S E w0 tm os rs h n [] 0 j o r := by
 have hl := C.lay.len
 have hj : j < os.length := by
  have := (List.getElem?_eq_some_iff.1 hr).1
  omega
 obtain ⟨r',hr',hA⟩ := C.lay.get (List.getElem?_eq_getElem hj)
 rw [hr] at hr'
 cases hr'
 exact ⟨_,List.getElem?_eq_getElem hj,hA⟩
theorem RS.le (C : RS S E w0 tm os rs h n a0) {j : Nat} {r : OR} (hr : rs[j]? = some r) : nAt n rs j≤r.nx := by
 obtain ⟨o,ho,⟨wt,h1,h2,h3⟩,_⟩ := C.op hr
 cases wt with
 | true => exact (h2 rfl).le
 | false => rw [h3 rfl]; exact Nat.le_refl _
theorem RS.fp (C : RS S E w0 tm os rs h n a0) {j : Nat} {r : OR} (hr : rs[j]? = some r) : ∀ x ∈ r.h,x ∈ hAt h rs j ∨ x.1 ∈ r.wr ∨ (nAt n rs j≤x.1∧x.1 < r.nx) := by
 obtain ⟨o,ho,⟨wt,h1,h2,h3⟩,_⟩ := C.op hr
 cases wt with
 | true => exact (h2 rfl).fp
 | false => rw [h3 rfl]; exact fun x hx => Or.inl hx
theorem RS.fp2 (C : RS S E w0 tm os rs h n a0) {j : Nat} {r : OR} (hr : rs[j]? = some r) : ∀ x ∈ r.h,x ∈ hAt h rs j ∨ x.1 ∈ wrs r ∨ (nAt n rs j≤x.1∧x.1 < r.nx) := fun x hx => by
 rcases C.fp hr x hx with q | q | q
 ·exact Or.inl q
 ·by_cases hrd : x.1 ∈ r.rd
  ·obtain ⟨o,ho,hA⟩ := C.op hr
   exact Or.inl (hA.kp.dn x hx q hrd)
  ·exact Or.inr (Or.inl (mem_wrs.2 ⟨q,hrd⟩))
 ·exact Or.inr (Or.inr q)
theorem RS.up (C : RS S E w0 tm os rs h n a0) {x : HB} {k : Nat} : ∀ (j : Nat),k≤j→j≤rs.length→x ∈ hAt h rs k→(∀ i r,k≤i→i < j→rs[i]? = some r→x.1 ∉ wrs r)→x ∈ hAt h rs j
 | 0,hj,_,hx,_ => by
  have : k=0 := by omega
  rw [this] at hx
  exact hx
 | j+1,hj,hk,hx,hn => by
  by_cases e : k=j+1
  ·rw [← e]
   exact hx
  ·have hr : rs[j]? = some rs[j] := List.getElem?_eq_getElem (by omega)
   rw [hAt_succ hr]
   obtain ⟨o,ho,hA⟩ := C.op hr
   exact hA.kp.up x (C.up j (by omega) (by omega) hx fun i r h1 h2 h3 => hn i r h1 (by omega) h3) (hn j _ (by omega) (by omega) hr)
theorem RS.wh (C : RS S E w0 tm os rs h n a0) {j : Nat} {r : OR} (hr : rs[j]? = some r) : ∀ b ∈ r.wr,∃ x ∈ hAt h rs j,x.1=b := by
 obtain ⟨o,ho,⟨wt,h1,h2,h3⟩,_⟩ := C.op hr
 cases wt with
 | true => exact (h2 rfl).wh
 | false => rw [h3 rfl]; intro b hb; cases hb
theorem RS.mono (C : RS S E w0 tm os rs h n a0) : ∀ (k j : Nat),j≤k→k≤rs.length→nAt n rs j≤nAt n rs k
 | 0,j,hj,_ => by
  have : j=0 := by omega
  rw [this]
  exact Nat.le_refl _
 | k+1,j,hj,hk => by
  by_cases e : j=k+1
  ·rw [e]
   exact Nat.le_refl _
  ·have hr : rs[k]? = some rs[k] := List.getElem?_eq_getElem (by omega)
   rw [nAt_succ hr]
   exact Nat.le_trans (C.mono k j (by omega) (by omega)) (C.le hr)
theorem RS.ids (C : RS S E w0 tm os rs h n a0) : ∀ (k : Nat),k≤rs.length→∀ x ∈ hAt h rs k,x.1 ∈ h.map (·.1) ∨ (n≤x.1∧x.1 < nAt n rs k)
 | 0,_,x,hx => by
  rw [hAt_zero] at hx
  exact Or.inl (List.mem_map_of_mem hx)
 | k+1,hk,x,hx => by
  have hr : rs[k]? = some rs[k] := List.getElem?_eq_getElem (by omega)
  rw [hAt_succ hr] at hx
  have hn0 := C.mono k 0 (by omega) (by omega)
  rw [nAt_zero] at hn0
  have hle := C.le hr
  rw [nAt_succ hr]
  rcases C.fp hr x hx with q | q | q
  ·rcases C.ids k (by omega) x q with q | q
   ·exact Or.inl q
   ·exact Or.inr ⟨q.1,by omega⟩
  ·obtain ⟨y,hy,e⟩ := C.wh hr x.1 q
   rcases C.ids k (by omega) y hy with q | q
   ·exact Or.inl (e ▸ q)
   ·rw [e] at q
    exact Or.inr ⟨q.1,by omega⟩
  ·exact Or.inr ⟨by omega,q.2⟩
theorem RS.idlt (C : RS S E w0 tm os rs h n a0) (k : Nat) (hk : k≤rs.length) : ∀ x ∈ hAt h rs k,x.1 < nAt n rs k := fun x hx => by
 have h0 := C.mono k 0 (by omega) hk
 rw [nAt_zero] at h0
 rcases C.ids k hk x hx with q | q
 ·obtain ⟨y,hy,e⟩ := List.mem_map.1 q
  have := C.hlt y hy
  omega
 ·exact q.2
theorem RS.chain (C : RS S E w0 tm os rs h n a0) {x : HB} {j : Nat} : ∀ (k : Nat),j≤k→k≤rs.length→x ∈ hAt h rs k→(∀ i r,j≤i→i < k→rs[i]? = some r→x.1 ∉ wrs r∧¬ (nAt n rs i≤x.1∧x.1 < r.nx))→x ∈ hAt h rs j
 | 0,hj,_,hx,_ => by
  have : j=0 := by omega
  rw [this]
  exact hx
 | k+1,hj,hk,hx,hn => by
  by_cases e : j=k+1
  ·rw [e]
   exact hx
  ·have hr : rs[k]? = some rs[k] := List.getElem?_eq_getElem (by omega)
   rw [hAt_succ hr] at hx
   obtain ⟨n1,n2⟩ := hn k _ (by omega) (by omega) hr
   rcases C.fp2 hr x hx with q | q | q
   ·exact C.chain k (by omega) (by omega) q fun i r h1 h2 h3 => hn i r h1 (by omega) h3
   ·exact absurd q n1
   ·exact absurd q n2
variable {γr : Nat→Option Nat} {wr : World} {γ : Nat→Option Nat} {d : Nat→Prop} {τ : Nat→Value} {w : World}
theorem RI.ahead (C : RS S E w0 tm os rs h n a0) (I : RI S E w0 os rs h n a0 γr wr γ d τ w) {j : Nat} {o : Oper} {r : OR} (ho : os[j]? = some o) (hr : rs[j]? = some r) (hA : At S E w0 tm os rs h n [] 0 j o r)
  (hd : ∀ e ∈ o.after,Region.binds .any e=true→d e.on) (hn : ¬ d j) : ∀ x ∈ hAt h rs j,x.1 ∈ r.rd ∨ x.1 ∈ r.wr→boxOn E S.K γ w x := by
 intro x hx hb
 have hjl : j < rs.length := (List.getElem?_eq_some_iff.1 hr).1
 have hlt : x.1 < nAt n rs j := hb.elim (hA.rd _) (hA.wr _)
 have hb' : x.1 ∈ r.rd ∨ x.1 ∈ wrs r := by
  by_cases q : x.1 ∈ r.rd
  ·exact Or.inl q
  ·exact Or.inr (mem_wrs.2 ⟨hb.resolve_left q,q⟩)
 refine I.box j x (by omega) hx ⟨fun i r' hr' hw => ?_,fun i r' hr' h1 h2 => ?_⟩
 ·rcases Nat.lt_trichotomy i j with hij | hij | hij
  ·refine ⟨fun _ => hij,fun _ => ?_⟩
   refine edgeT_dep I.dwn (n := 3) (j := i) ?_ hd
   have := orderedB.get C.ord hij ho hr' hr (confB_of (b := x.1) (hb'.elim (fun q => Or.inl ⟨hw,q⟩) (fun q => Or.inr (Or.inl ⟨hw,q⟩))))
   rwa [Nat.zero_add] at this
  ·subst hij
   exact ⟨fun q => absurd q hn,fun q => absurd q (Nat.lt_irrefl _)⟩
  ·refine ⟨fun q => ?_,fun q => by omega⟩
   obtain ⟨o',ho',_⟩ := C.op hr'
   have := orderedB.get C.ord hij ho' hr hr' (confB_of (b := x.1) (hb'.elim (fun q => Or.inr (Or.inr (Or.inl ⟨q,hw⟩))) (fun q => Or.inr (Or.inl ⟨q,hw⟩))))
   rw [Nat.zero_add] at this
   exact absurd (edgeT_dep I.dwn this (I.dwn i o' ho' q)) hn
 ·have hij : i < j := by
   refine Nat.lt_of_not_le fun q => ?_
   have := C.mono i j q (by have := (List.getElem?_eq_some_iff.1 hr').1; omega)
   omega
  refine ⟨edgeT_dep I.dwn (n := 3) (j := i) ?_ hd,hij⟩
  have := orderedB.get C.ord hij ho hr' hr (confB_of (b := x.1) (Or.inr (Or.inr (Or.inr ⟨⟨h1,h2⟩,hb⟩))))
  rwa [Nat.zero_add] at this
theorem RI.step (C : RS S E w0 tm os rs h n a0) (I : RI S E w0 os rs h n a0 γr wr γ d τ w) (hf : ∀ b,n≤b→b < nAt n rs rs.length→γr b=none) {j : Nat} {o : Oper} {r : OR} (ho : os[j]? = some o) (hr : rs[j]? = some r) (hA : At S E w0 tm os rs h n [] 0 j o r)
  (hd : ∀ e ∈ o.after,Region.binds .any e=true→d e.on) (hn : ¬ d j) {γ' : Nat→Option Nat} {w' : World} {v : Value} (he : Ef S.nb w0 r.wr (nAt n rs j) r.nx γ w γ' w') (hres : ∀ y,r.res=some y→avOn (cOn E S.K γ' w') y v)
  (hbox : ∀ x ∈ r.h,x.1 ∈ r.wr ∨ (nAt n rs j≤x.1∧x.1 < r.nx)→boxOn E S.K γ' w' x) : RI S E w0 os rs h n a0 γr wr γ' (fun i => i=j ∨ d i) (updOp τ j v) w' := by
 have hjl : j < rs.length := (List.getElem?_eq_some_iff.1 hr).1
 have hn0 := C.mono j 0 (by omega) (by omega)
 rw [nAt_zero] at hn0
 have hnl := C.mono rs.length (j+1) (by omega) (by omega)
 rw [nAt_succ hr] at hnl
 -- ranges
 have apart : ∀ i r',rs[i]? = some r'→i ≠ j→∀ b,nAt n rs i≤b→b < r'.nx→¬ (nAt n rs j≤b∧b < r.nx) := fun i r' hr' hij b h1 h2 ⟨h3,h4⟩ => by
  have hil : i < rs.length := (List.getElem?_eq_some_iff.1 hr').1
  rcases Nat.lt_or_gt_of_ne hij with q | q
  ·have := C.mono j (i+1) (by omega) (by omega)
   rw [nAt_succ hr'] at this
   omega
  ·have := C.mono i (j+1) (by omega) (by omega)
   rw [nAt_succ hr] at this
   omega
 refine ⟨I.ef.trans2 he hn0 hnl fun b hb => ?_,fun i r' hr' hi b h1 h2 => ?_,fun i o' ho' q e hm hb => ?_,fun i o' t ho' ht q => ?_,fun i r' y hr' q hy => ?_,fun k x hk hx hc => ?_⟩
 ·obtain ⟨x,hx,e⟩ := C.wh hr b hb
  rcases C.ids j (by omega) x hx with q | q
  ·exact Or.inl (e ▸ q)
  ·rw [e] at q
   have := C.mono rs.length j (by omega) (by omega)
   exact Or.inr (hf b q.1 (by omega))
 ·have hij : i ≠ j := fun e => hi (Or.inl e)
  rw [he.same b (apart i r' hr' hij b h1 h2)]
  exact I.non i r' hr' (fun q => hi (Or.inr q)) b h1 h2
 ·rcases q with rfl | q
  ·rw [ho] at ho'
   cases ho'
   exact Or.inr (hd e hm hb)
  ·exact Or.inr (I.dwn i o' ho' q e hm hb)
 ·rw [updOp_ne _ _ (fun e => q (Or.inl e))]
  exact I.und i o' t ho' ht (fun q' => q (Or.inr q'))
 ·by_cases e : i=j
  ·subst e
   rw [updOp_at]
   rw [hr] at hr'
   cases hr'
   exact hres y hy
  ·rw [updOp_ne _ _ e]
   exact he.av (I.res i r' y hr' (q.resolve_left e) hy)
 ·by_cases hw : x.1 ∈ wrs r ∨ (nAt n rs j≤x.1∧x.1 < r.nx)
  ·have hjk : j < k := by
    rcases hw with hw | hw
    ·exact (hc.1 j r hr hw).1 (Or.inl rfl)
    ·exact (hc.2 j r hr hw.1 hw.2).2
   have hx' : x ∈ hAt h rs (j+1) := C.chain k (by omega) hk hx fun i r' h1 h2 hr' => by
    have hij : i ≠ j := by omega
    obtain ⟨o',ho',hA'⟩ := C.op hr'
    constructor
    ·intro hw'
     have hdi : d i := (((hc.1 i r' hr' hw').2 h2)).resolve_left hij
     have hcf : confB (nAt n rs j) r r'=true := confB_of (b := x.1) (hw.elim (fun q => Or.inr (Or.inl ⟨q,hw'⟩)) (fun q => Or.inr (Or.inr (Or.inr ⟨q,Or.inr (mem_wrs.1 hw').1⟩))))
     have := orderedB.get C.ord (by omega : j < i) ho' hr hr' hcf
     rw [Nat.zero_add] at this
     exact hn (edgeT_dep I.dwn this (I.dwn i o' ho' hdi))
    ·intro hnew
     rcases hw with hw | hw
     ·have := hA.wr _ (mem_wrs.1 hw).1
      have := C.mono i j (by omega) (by have := (List.getElem?_eq_some_iff.1 hr').1; omega)
      omega
     ·exact apart i r' hr' hij _ hnew.1 hnew.2 hw
   rw [hAt_succ hr] at hx'
   exact hbox x hx' (hw.imp (fun q => (mem_wrs.1 q).1) id)
  ·have hw1 : x.1 ∉ wrs r := fun q => hw (Or.inl q)
   by_cases hso : x.1 ∈ r.wr
   ·have hrd : x.1 ∈ r.rd := Classical.byContradiction fun q => hw1 (mem_wrs.2 ⟨hso,q⟩)
    have hx' : x ∈ hAt h rs (j+1) := by
     by_cases hkj : j+1≤k
     ·refine C.chain k hkj hk hx fun i r' h1 h2 hr' => ⟨fun hw' => ?_,fun hnew => ?_⟩
      ·obtain ⟨o',ho',hA'⟩ := C.op hr'
       have hdi : d i := (((hc.1 i r' hr' hw').2 h2)).resolve_left (by omega)
       have := orderedB.get C.ord (by omega : j < i) ho' hr hr' (confB_of (b := x.1) (Or.inr (Or.inr (Or.inl ⟨hrd,hw'⟩))))
       rw [Nat.zero_add] at this
       exact hn (edgeT_dep I.dwn this (I.dwn i o' ho' hdi))
      ·have := hA.wr _ hso
       have := C.mono i j (by omega) (by have := (List.getElem?_eq_some_iff.1 hr').1; omega)
       omega
     ·refine C.up (j+1) (by omega) (by omega) hx fun i r' h1 h2 hr' hw' => ?_
      by_cases hij : i=j
      ·subst hij
       rw [hr] at hr'
       cases hr'
       exact hw1 hw'
      ·have := orderedB.get C.ord (by omega : i < j) ho hr' hr (confB_of (b := x.1) (Or.inl ⟨hw',hrd⟩))
       rw [Nat.zero_add] at this
       have := (hc.1 i r' hr' hw').1 (Or.inr (edgeT_dep I.dwn (n := 3) (j := i) this hd))
       omega
    rw [hAt_succ hr] at hx'
    exact hbox x hx' (Or.inl hso)
   refine he.box I.ef.wi (I.box k x hk hx ⟨fun i r' hr' hb => ?_,fun i r' hr' h1 h2 => ?_⟩) hso
   ·have hij : i ≠ j := fun e => by
     subst e
     rw [hr] at hr'
     cases hr'
     exact hw1 hb
    rw [← hc.1 i r' hr' hb]
    exact ⟨Or.inr,fun q => q.resolve_left hij⟩
   ·have hij : i ≠ j := fun e => by
     subst e
     rw [hr] at hr'
     cases hr'
     exact hw (Or.inr ⟨h1,h2⟩)
    obtain ⟨q1,q2⟩ := hc.2 i r' hr' h1 h2
    exact ⟨q1.resolve_left hij,q2⟩
end
end Cx
/- VE -/
namespace Cx
open Go Go.RowKit
theorem prevs_get {os : List Oper} {rs : List OR} {j i : Nat} {d : Option Tmp} {q : Option AV} (h : (prevs os rs j)[i]? = some (d,q)) : i < j∧∃ o r,os[i]? = some o∧rs[i]? = some r∧o.dst=d∧r.res=q := by
 unfold prevs at h
 rw [List.getElem?_map,Option.map_eq_some_iff] at h
 obtain ⟨⟨o,r⟩,h1,h2⟩ := h
 rw [List.getElem?_zip_eq_some] at h1
 obtain ⟨h3,h4⟩ := h1
 have hij : i < j := by
  have := (List.getElem?_eq_some_iff.1 h3).1
  rw [List.length_take] at this
  omega
 rw [List.getElem?_take_of_lt hij] at h3 h4
 cases h2
 exact ⟨hij,o,r,h3,h4,rfl,rfl⟩
theorem prevs_at {os : List Oper} {rs : List OR} {j i : Nat} {o : Oper} {r : OR} (hij : i < j) (ho : os[i]? = some o) (hr : rs[i]? = some r) : (prevs os rs j)[i]? = some (o.dst,r.res) := by
 unfold prevs
 rw [List.getElem?_map,Option.map_eq_some_iff]
 refine ⟨(o,r),?_,rfl⟩
 rw [List.getElem?_zip_eq_some]
 rw [List.getElem?_take_of_lt hij,List.getElem?_take_of_lt hij]
 exact ⟨ho,hr⟩
section
variable {S : Sx} {E : Ev S.nb} {w0 : World} {tm : List (Nat × AV)} {os : List Oper} {rs : List OR} {h : List HB} {n : Nat} {a0 : Act} {γr : Nat→Option Nat} {wr : World}
theorem RI.init (C : RS S E w0 tm os rs h n a0) (hi : WI w0 γr wr) (hb : ∀ x ∈ h,boxOn E S.K γr wr x) (hf : ∀ b,n≤b→b < nAt n rs rs.length→γr b=none) {w : World} (hw : Below wr.heap.size wr w) :
  RI S E w0 os rs h n a0 γr wr γr (fun _ => False) (beforeOps a0 os) w where
 ef := Ef.pure hi hw _ _ _ fun b hb' => by
  obtain ⟨x,hx,rfl⟩ := List.mem_map.1 hb'
  exact (hb x hx).live
 non := fun j r hr _ b h1 h2 => by
  have hjl : j < rs.length := (List.getElem?_eq_some_iff.1 hr).1
  have q1 := C.mono j 0 (by omega) (by omega)
  have q2 := C.mono rs.length (j+1) (by omega) (by omega)
  rw [nAt_zero] at q1
  rw [nAt_succ hr] at q2
  exact hf b (by omega) (by omega)
 dwn := fun _ _ _ q => q.elim
 und := fun i o t ho ht _ => by simp [beforeOps,ho,ht]
 res := fun _ _ _ _ q => q.elim
 box := fun k x hk hx hc => by
  have hx0 := C.chain k (j := 0) (by omega) hk hx fun i r _ hik hr => ⟨fun q => (hc.1 i r hr q).2 hik,fun q => (hc.2 i r hr q.1 q.2).1⟩
  rw [hAt_zero] at hx0
  exact (Ef.pure (nb := S.nb) hi hw [] 0 0 no_live).box hi (hb x hx0) (by simp)
variable {γ : Nat→Option Nat} {d : Nat→Prop} {τ : Nat→Value} {w : World}
theorem RI.opd (C : RS S E w0 tm os rs h n a0) (I : RI S E w0 os rs h n a0 γr wr γ d τ w) (htm : ∀ t v,tget t tm=some v→avOn (cOn E S.K γr wr) v (a0.tmps.getD t undef)) {j : Nat} {o : Oper}
  (hd : ∀ e ∈ o.after,Region.binds .any e=true→d e.on) (hn : ¬ d j) (x : Operand) (v : AV) (hx : opdB S.K tm (prevs os rs j) j o (os.drop (j+1)) x=some v) : avOn (cOn E S.K γ w) v ((putAll a0 τ 0 os).eval x) := by
 have hbd : ∀ {s : Nat} {o' : Oper} {t : Tmp},os[s]? = some o'→o'.dst=some t→t < a0.tmps.size := fun hs ht => C.bnd _ (List.mem_of_getElem? hs) _ ht
 cases x with
 | const u =>
  unfold opdB at hx
  dsimp only at hx
  rw [ifO_some] at hx
  cases hx.2
  refine v1_on ?_
  unfold cOn cellOn
  exact ⟨rfl,hx.1⟩
 | global g => cases hx
 | func f =>
  unfold opdB at hx
  dsimp only at hx
  rw [Option.map_eq_some_iff] at hx
  obtain ⟨i,h1,rfl⟩ := hx
  obtain ⟨_,hK⟩ := cloFrom_some h1
  rw [Nat.sub_zero] at hK
  exact v1_on ⟨f,[],[],hK,rfl,trivial⟩
 | tmp t =>
  show avOn (cOn E S.K γ w) v ((putAll a0 τ 0 os).tmps.getD t undef)
  unfold opdB at hx
  dsimp only at hx
  cases hp : prevOf t 0 (prevs os rs j) with
  | some p =>
   obtain ⟨i,q⟩ := p
   rw [hp] at hx
   dsimp only at hx
   rw [ifO_some] at hx
   obtain ⟨he,rfl⟩ := hx
   obtain ⟨_,h2⟩ := prevOf_some hp
   rw [Nat.sub_zero] at h2
   obtain ⟨hij,o',r',ho',hr',h3,h4⟩ := prevs_get h2
   rw [putAll_at τ os a0 0 i C.nod (by rw [ho']; exact h3) (hbd ho' h3),Nat.zero_add]
   exact I.res i r' v hr' (edgeB_dep he hd) h4
  | none =>
   rw [hp] at hx
   dsimp only at hx
   rw [ifO_some] at hx
   obtain ⟨hl,hg⟩ := hx
   have hold := I.ef.av (htm t v hg)
   by_cases hmem : t ∈ os.filterMap (·.dst)
   ·obtain ⟨o',hm,ht⟩ := List.mem_filterMap.1 hmem
    obtain ⟨s,hs⟩ := List.getElem?_of_mem hm
    have hsn : ¬ d s := by
     rcases Nat.lt_trichotomy s j with q | q | q
     ·obtain ⟨r',hr',_⟩ := C.at hs
      have := prevs_at q hs hr'
      rw [ht] at this
      exact absurd this (prevOf_none hp s _)
     ·rw [q]
      exact hn
     ·unfold laterB at hl
      rw [List.all_eq_true] at hl
      have hin : o' ∈ os.drop (j+1) := by
       rw [List.mem_iff_getElem?]
       exact ⟨s - (j+1),by rw [List.getElem?_drop]; rw [show j+1+(s - (j+1))=s by omega]; exact hs⟩
      have := hl o' hin
      rw [ht] at this
      dsimp only at this
      rw [Nat.beq_refl] at this
      intro hds
      exact hn (edgeB_dep (by simpa using this) (I.dwn s o' hs hds))
    rw [putAll_at τ os a0 0 s C.nod (by rw [hs]; exact ht) (hbd hs ht),Nat.zero_add,I.und s o' t hs ht hsn]
    exact hold
   ·rw [putAll_off τ os a0 0 hmem]
    exact hold
theorem wantV_on {R : Nat→Option Nat} {v : AV} {c : Option Bool} {x : Value} (h : wantV v=some c) (hv : avOn (cOn E S.K R w0) v x) : (match some x with | some (Value.bool b) => some b | _ => none)=c := by
 unfold wantV at h
 split at h
 ·cases h
  obtain ⟨vs,rfl,_⟩ := hv
  rfl
 ·rw [Option.map_eq_some_iff] at h
  obtain ⟨b,hb,rfl⟩ := h
  rw [asB_on hb hv]
theorem RI.want (C : RS S E w0 tm os rs h n a0) (I : RI S E w0 os rs h n a0 γr wr γ d τ w) {j : Nat} {o : Oper} {wt : Bool} (hd : ∀ e ∈ o.after,Region.binds .any e=true→d e.on) (hw : wantB (prevs os rs j) o=some wt) :
  Region.wanted o (yielded os.toArray (putAll a0 τ 0 os).tmps)=wt := by
 unfold wantB at hw
 unfold Region.wanted
 cases hg : o.guard with
 | none =>
  rw [hg] at hw
  cases hw
  rfl
 | some g =>
  obtain ⟨i,b⟩ := g
  rw [hg] at hw
  dsimp only at hw
  rw [Option.bind_eq_some_iff] at hw
  obtain ⟨⟨dd,q⟩,hp,hw⟩ := hw
  rw [Option.bind_eq_some_iff] at hw
  obtain ⟨v,hq,hw⟩ := hw
  rw [Option.bind_eq_some_iff] at hw
  obtain ⟨c,hc,hw⟩ := hw
  rw [ifO_some,Bool.and_eq_true] at hw
  obtain ⟨⟨he,hs⟩,hwt⟩ := hw
  cases hwt
  dsimp only at hq hs
  subst hq
  obtain ⟨hij,o',r',ho',hr',h3,h4⟩ := prevs_get hp
  cases dd with
  | none => cases hs
  | some t =>
   have hlt : t < a0.tmps.size := C.bnd _ (List.mem_of_getElem? ho') _ h3
   have hv := wantV_on hc (I.res i r' v hr' (edgeB_dep he hd) h4)
   have hat := putAll_at τ os a0 0 i C.nod (by rw [ho']; exact h3) hlt
   rw [Nat.zero_add] at hat
   have hlt2 : t < (putAll a0 τ 0 os).tmps.size := by rw [putAll_size]; exact hlt
   have hget : (putAll a0 τ 0 os).tmps[t]? = some (τ i) := by
    rw [← hat,Array.getD_eq_getD_getElem?,Array.getElem?_eq_getElem hlt2]
    rfl
   have hy : yielded os.toArray (putAll a0 τ 0 os).tmps i=c := by
    unfold yielded
    rw [List.getElem?_toArray,ho',Option.bind_some,h3,Option.bind_some,hget]
    exact hv
   show (yielded os.toArray (putAll a0 τ 0 os).tmps i == some b)=(c == some b)
   rw [hy]
theorem tget_del {t u : Nat} : ∀ {l : List (Nat × AV)} {v : AV},tget t (tdel u l)=some v→t ≠ u∧tget t l=some v
 | [],_,q => by cases q
 | (x,y) :: l,v,q => by
  unfold tdel at q
  cases e : Nat.beq u x with
  | true =>
   rw [e] at q
   obtain ⟨h1,h2⟩ := tget_del (l := l) q
   refine ⟨h1,?_⟩
   rw [Nat.beq_eq] at e
   unfold tget
   have : Nat.beq t x=false := by
    cases hh : Nat.beq t x with
    | false => rfl
    | true => rw [Nat.beq_eq] at hh; omega
   rw [this]
   exact h2
  | false =>
   rw [e] at q
   unfold tget cond at q
   unfold tget
   cases e2 : Nat.beq t x with
   | true =>
    simp only [e2] at q
    cases q
    refine ⟨fun hh => ?_,rfl⟩
    rw [Nat.beq_eq] at e2
    rw [← e2,← hh,Nat.beq_refl] at e
    cases e
   | false =>
    simp only [e2] at q
    exact tget_del (l := l) q
theorem tmAft_on {R : AC→Value→Prop} : ∀ {os : List Oper} {rs : List OR} {tm : List (Nat × AV)} {a : Act} {τ : Nat→Value} {i : Nat},os.length=rs.length→(∀ o ∈ os,∀ t,o.dst=some t→t < a.tmps.size) →
  (∀ t v,tget t tm=some v→avOn R v (a.tmps.getD t undef))→(∀ j r y,rs[j]? = some r→r.res=some y→avOn R y (τ (i+j)))→∀ t v,tget t (tmAft tm os rs)=some v→avOn R v ((putAll a τ i os).tmps.getD t undef)
 | [],[],tm,a,τ,i,_,_,htm,_,t,v,q => htm t v q
 | [],_ :: _,_,_,_,_,hl,_,_,_,_,_,_ => by simp at hl
 | _ :: _,[],_,_,_,_,hl,_,_,_,_,_,_ => by simp at hl
 | o :: os,r :: rs,tm,a,τ,i,hl,hb,htm,hr,t,v,q => by
  show avOn R v ((putAll (a.put o.dst (τ i)) τ (i+1) os).tmps.getD t undef)
  refine tmAft_on (rs := rs) (by simpa using hl) (fun o' ho' t' ht' => ?_) (fun t' v' q' => ?_) (fun j r' y hr' hy => ?_) t v q
  ·have := hb o' (List.mem_cons_of_mem _ ho') t' ht'
   cases o.dst <;> simpa [Act.put] using this
  ·cases hd : o.dst with
   | none =>
    rw [hd] at q'
    exact htm t' v' q'
   | some u =>
    rw [hd] at q'
    have hlt := hb o List.mem_cons_self u hd
    have old : tget t' (tdel u tm)=some v'→avOn R v' ((a.put (some u) (τ i)).tmps.getD t' undef) := fun q2 => by
     obtain ⟨h1,h2⟩ := tget_del q2
     rw [put_off _ _ (by intro e; cases e; exact h1 rfl)]
     exact htm t' v' h2
    cases hres : r.res with
    | none =>
     rw [hres] at q'
     exact old q'
    | some y =>
     rw [hres] at q'
     dsimp only at q'
     unfold tget at q'
     cases e : Nat.beq t' u with
     | true =>
      rw [e] at q'
      cases q'
      rw [Nat.beq_eq] at e
      subst e
      rw [put_at _ _ hlt]
      exact hr 0 r _ rfl hres
     | false =>
      rw [e] at q'
      exact old q'
  ·have := hr (j+1) r' y (by simpa using hr') hy
   rwa [show i+(j+1)=i+1+j by omega] at this
theorem lastH_at (h : List HB) (rs : List OR) : hAt h rs rs.length=lastH h rs := by simp [hAt]
theorem lastN_at (n : Nat) (rs : List OR) : nAt n rs rs.length=lastN n rs := by simp [nAt]
theorem region_told {id : Nat} {dr : Bool} {Q : Exit→Act→World→Prop} (hm : S.P.follows .mixedOrders=true) (ht : topoOps 0 os=true) (C : RS S E w0 tm os rs h n a0) (hi : WI w0 γr wr)
  (htm : ∀ t v,tget t tm=some v→avOn (cOn E S.K γr wr) v (a0.tmps.getD t undef)) (hb : ∀ x ∈ h,boxOn E S.K γr wr x) (hf : ∀ b,n≤b→b < lastN n rs→γr b=none)
  (hQ : ∀ a w γ,Ef S.nb w0 (h.map (·.1)) n (lastN n rs) γr wr γ w→(∀ t v,tget t (tmAft tm os rs)=some v→avOn (cOn E S.K γ w) v (a.tmps.getD t undef))→(∀ x ∈ lastH h rs,boxOn E S.K γ w x) →
   a.tmps.size=a0.tmps.size→a.defers=a0.defers→Q .normal a w) : (Code.region id os.toArray dr).wp S.P Q a0 wr := by
 rw [← lastN_at] at hf hQ
 have hsteps : OpSteps S.P Q os a0 (fun d τ w => ∃ γ,RI S E w0 os rs h n a0 γr wr γ d τ w) 0 os := by
  have key : ∀ (os' : List Oper) (i : Nat),(∀ k,os'[k]? = os[i+k]?)→OpSteps S.P Q os a0 (fun d τ w => ∃ γ,RI S E w0 os rs h n a0 γr wr γ d τ w) i os' := by
   intro os'
   induction os' with
   | nil => exact fun _ _ => OpSteps.nil
   | cons o os' ih =>
    intro i hk
    refine OpSteps.cons ?_ (ih (i+1) fun k => by have := hk (k+1); simp at this; rw [this]; congr 1; omega)
    have ho : os[i]? = some o := by have := hk 0; simpa using this.symm
    obtain ⟨r,hr,hA⟩ := C.at ho
    intro d τ w hd hn ⟨γ,I⟩ K hK
    obtain ⟨wt,h1,h2,h3⟩ := hA.wt
    rw [List.nil_append] at h1 h2
    rw [Nat.zero_add] at h2
    have hwant := I.want C hd h1
    have hil : i < rs.length := (List.getElem?_eq_some_iff.1 hr).1
    cases wt with
    | true =>
     rw [if_pos hwant]
     refine (h2 rfl).run γ w (putAll a0 τ 0 os) Q I.ef.wi (I.opd C htm hd hn) (I.ahead C ho hr hA hd hn) (fun b q1 q2 => I.non i r hr hn b q1 q2) (C.idlt i (by omega)) K fun v w' γ' he hres hbox => ?_
     exact hK v w' ⟨γ',I.step C hf ho hr hA hd hn he hres hbox⟩
    | false =>
     rw [if_neg (by rw [hwant]; simp)]
     have e := h3 rfl
     refine hK undef w ⟨γ,I.step C hf ho hr hA hd hn (γ' := γ) (w' := w) ?_ ?_ ?_⟩
     ·rw [e]
      exact Ef.refl I.ef.wi _ _ no_live
     ·rw [e]
      intro y hy
      cases hy
      exact ⟨[],rfl,trivial⟩
     ·rw [e]
      intro x hx hw
      rcases hw with hw | hw
      ·cases hw
      ·have : (skipR (hAt h rs i) (nAt n rs i)).nx=nAt n rs i := rfl
       omega
  exact key os 0 (fun k => by rw [Nat.zero_add])
 refine region_any (fun d τ w => ∃ γ,RI S E w0 os rs h n a0 γr wr γ d τ w) hm C.nod ht ⟨γr,RI.init C hi hb hf (Below.drew (Below.refl _ _))⟩ ⟨γr,RI.init C hi hb hf (Below.refl _ _)⟩ hsteps ?_
 rintro d τ w hall ⟨γ,I⟩
 have hlen := C.lay.len
 refine hQ _ w γ I.ef ?_ ?_ (putAll_size _ _ _ _) (putAll_defers _ _ _ _)
 ·refine tmAft_on (τ := τ) (i := 0) hlen.symm C.bnd (fun t v q => I.ef.av (htm t v q)) fun j r y hr hy => ?_
  rw [Nat.zero_add]
  exact I.res j r y hr (hall j (by have := (List.getElem?_eq_some_iff.1 hr).1; omega)) hy
 ·intro x hx
  rw [← lastH_at] at hx
  refine I.box rs.length x (Nat.le_refl _) hx ⟨fun i r hr _ => ?_,fun i r hr _ _ => ?_⟩
  ·have := (List.getElem?_eq_some_iff.1 hr).1
   exact ⟨fun _ => this,fun _ => hall i (by omega)⟩
  ·have := (List.getElem?_eq_some_iff.1 hr).1
   exact ⟨hall i (by omega),this⟩
end
end Cx
/- VF -/
namespace Cx
open Go Go.RowKit
theorem run_val {P : Program} {X : Sem Value} {v : Value} {w w' : World} (h : X.run P w=.ok v w') : (do pure (Next.value (← X)) : Sem Next).run P w=.ok (.value v) w' := by
 rw [Sem.run_bind,h]
 rfl
theorem run_unit {P : Program} {X : Sem Unit} {w w' : World} (h : X.run P w=.ok () w') : (do X; pure Next.skip : Sem Next).run P w=.ok .skip w' := by
 rw [Sem.run_bind,h]
 rfl
theorem add_at (G o i : Nat) : (⟨G,o,none⟩ : Addr).add i=⟨G,o+i,none⟩ := by
 unfold Addr.add
 split
 ·rename_i h
  subst h
  rfl
 ·rfl
theorem add_add (ad : Addr) (i j : Nat) : (ad.add i).add j=ad.add (i+j) := by
 unfold Addr.add
 by_cases h1 : i=0
 ·subst h1
  simp
 ·by_cases h2 : j=0
  ·subst h2
   simp
  ·rw [if_neg h1,if_neg h2,if_neg (by omega)]
   simp [Nat.add_assoc]
theorem add_block (ad : Addr) (i : Nat) : (ad.add i).block=ad.block := by
 unfold Addr.add
 split <;> rfl
def HandK (K : List (FuncId × List AC)) (σ : Nat→ByteArray) (w0 : World) : Prop := ∀ (a : Nat) (f : FuncId) (ad : Addr) (n m t N : Nat),K[a]? = some (f,[.inl (.slice (some ad) n m),.inl (.int .i64 (.ofNat t)),.inl (.int .i64 (.ofNat N))])→ad.block < w0.heap.size∧∀ i,i < N→w0.cell? (ad.add i)=some (.string (σ (t+i)))
theorem underlying_run {P : Program} {t : TypeId} {d : TypeDesc} (h : P.underlying t=some d) (w : World) : (underlying t).run P w=.ok d w := by
 unfold underlying
 simp [go_sem,h]
theorem isAgg_run {P : Program} {t : TypeId} {b : Bool} (h : isAggB P t=some b) (w : World) : (isAgg t).run P w=.ok b w := by
 unfold isAggB at h
 rw [Option.map_eq_some_iff] at h
 obtain ⟨d,h1,h2⟩ := h
 unfold isAgg
 rw [Sem.run_bind,underlying_run h1]
 cases d <;> first | (cases h2; rfl)
theorem sizeOf_run {P : Program} {t : TypeId} {n : Nat} (h : sizeB P t=some n) (w : World) : (Go.sizeOf t).run P w=.ok n w := by
 unfold sizeB at h
 rw [Option.map_eq_some_iff] at h
 obtain ⟨i,h1,h2⟩ := h
 subst h2
 unfold Go.sizeOf typeInfo
 simp [go_sem,h1]
theorem structB_some {P : Program} {t : TypeId} {fs : List Field} (h : structB P t=some fs) : P.underlying t=some (.struct fs.toArray) := by
 unfold structB at h
 rw [Option.bind_eq_some_iff] at h
 obtain ⟨d,h1,h2⟩ := h
 cases d <;> cases h2
 exact h1
theorem arrayB_some {P : Program} {t : TypeId} {a : Nat × TypeId} (h : arrayB P t=some a) : P.underlying t=some (.array a.1 a.2) := by
 unfold arrayB at h
 rw [Option.bind_eq_some_iff] at h
 obtain ⟨d,h1,h2⟩ := h
 cases d <;> cases h2
 exact h1
theorem sliceT_some {P : Program} {t e : TypeId} (h : sliceT P t=some e) : P.underlying t=some (.slice e) := by
 unfold sliceT at h
 rw [Option.bind_eq_some_iff] at h
 obtain ⟨d,h1,h2⟩ := h
 cases d <;> cases h2
 exact h1
theorem Bk.cell {w : World} {G : Nat} {vs : List Value} {t : TypeId} (h : Bk w G vs t) (j : Nat) : w.cell? ⟨G,j,none⟩=vs[j]? := by
 unfold Bk at h
 simp [World.cell?,h]
theorem Bk.frozen {w : World} {G : Nat} {vs : List Value} {t : TypeId} (h : Bk w G vs t) (j : Nat) : w.frozen? ⟨G,j,none⟩=false := by
 unfold Bk at h
 simp [World.frozen?,h]
theorem load_at {P : Program} {w : World} {G : Nat} {vs : List Value} {t : TypeId} {j : Nat} {v : Value} (h : Bk w G vs t) (hv : vs[j]? = some v) : (load ⟨G,j,none⟩).run P w=.ok v w := by
 have := h.cell j
 rw [hv] at this
 simp [this]
theorem loadCells_run {P : Program} {w : World} {G o : Nat} {vs : List Value} {t : TypeId} (h : Bk w G vs t) : ∀ (n i : Nat) (acc : Array Value),o+i+n≤vs.length→(loadCellsFrom ⟨G,o,none⟩ i n acc).run P w=.ok (acc ++ ((vs.drop (o+i)).take n).toArray) w
 | 0,i,acc,_ => by simp [loadCellsFrom,go_sem]
 | n+1,i,acc,hl => by
  have hlt : o+i < vs.length := by omega
  unfold loadCellsFrom
  rw [Sem.run_bind,add_at,load_at h (List.getElem?_eq_getElem hlt)]
  show (loadCellsFrom ⟨G,o,none⟩ (i+1) n (acc.push vs[o+i])).run P w=_
  rw [loadCells_run h n (i+1) _ (by omega)]
  congr 1
  rw [List.drop_eq_getElem_cons hlt,List.take_succ_cons]
  apply Array.ext'
  simp [Nat.add_assoc]
section
variable {S : Sx} {E : Ev S.nb} {w0 : World} {γ : Nat→Option Nat} {w : World} {h : List HB} {nx : Nat} {ρ : Operand→Option AV} {o : Oper}
theorem part_on {R : AC→Value→Prop} {P : Program} {t : TypeId} {cs : List AC} {off : Nat} {v : AV} {vs : List Value} (hp : partB P t cs off=some v) (hc : A2 R cs vs) :
  ∃ b n,isAggB P t=some b∧sizeB P t=some n∧((b=true∧off+n≤vs.length∧avOn R v (.agg ((vs.drop off).take n).toArray)) ∨ (b=false∧∃ x,vs[off]? = some x∧avOn R v x)) := by
 unfold partB at hp
 rw [Option.bind_eq_some_iff] at hp
 obtain ⟨b,h1,hp⟩ := hp
 rw [Option.bind_eq_some_iff] at hp
 obtain ⟨n,h2,hp⟩ := hp
 refine ⟨b,n,h1,h2,?_⟩
 cases b with
 | true =>
  left
  simp only [cond_true] at hp
  rw [ifO_some,Nat.ble_eq] at hp
  obtain ⟨h3,h4⟩ := hp
  cases h4
  exact ⟨rfl,by rw [hc.len]; exact h3,vA_on ((hc.drop off).take n)⟩
 | false =>
  right
  simp only [cond_false] at hp
  rw [Option.map_eq_some_iff] at hp
  obtain ⟨c,h3,h4⟩ := hp
  cases h4
  obtain ⟨x,hx,hR⟩ := hc.get h3
  exact ⟨rfl,x,hx,v1_on hR⟩
theorem loadVar_run {R : AC→Value→Prop} {P : Program} {t t' : TypeId} {cs : List AC} {G off : Nat} {v : AV} {vs us : List Value} (hk : Bk w G (vs ++ us) t') (hp : partB P t cs off=some v) (hc : A2 R cs vs) : ∃ x,(loadVar t ⟨G,off,none⟩).run P w=.ok x w∧avOn R v x := by
 obtain ⟨b,n,h1,h2,h3⟩ := part_on hp hc
 unfold loadVar
 rw [Sem.run_bind,isAgg_run h1]
 rcases h3 with ⟨rfl,h4,h5⟩ | ⟨rfl,x,h4,h5⟩
 ·refine ⟨_,?_,h5⟩
  show ((if true=true then (do let n ← Go.sizeOf t; let c ← loadCells ⟨G,off,none⟩ n; pure (Value.agg c)) else load ⟨G,off,none⟩ : Sem Value)).run P w=_
  rw [if_pos rfl,Sem.run_bind,sizeOf_run h2]
  show (do let c ← loadCells ⟨G,off,none⟩ n; pure (Value.agg c) : Sem Value).run P w=_
  rw [Sem.run_bind]
  unfold loadCells
  rw [loadCells_run hk n 0 #[] (by rw [List.length_append]; omega)]
  show Result.ok _ _=_
  have e : ((vs ++ us).drop off).take n=(vs.drop off).take n := by
   rw [List.drop_append_of_le_length (by omega),List.take_append_of_le_length (by rw [List.length_drop]; omega)]
  simp [e]
 ·exact ⟨x,load_at hk (by rw [List.getElem?_append_left (List.getElem?_eq_some_iff.1 h4).1]; exact h4),h5⟩
theorem loadHand_run {R : AC→Value→Prop} {P : Program} {t : TypeId} {cs : List AC} {ad : Addr} {off : Nat} {v : AV} {vs : List Value} (hk : ∀ (i : Nat) u,vs[i]? = some u→w.cell? (ad.add i)=some u) (hp : partB P t cs off=some v) (hc : A2 R cs vs) : ∃ x,(loadVar t (ad.add off)).run P w=.ok x w∧avOn R v x := by
 obtain ⟨b,n,h1,h2,h3⟩ := part_on hp hc
 unfold loadVar
 rw [Sem.run_bind,isAgg_run h1]
 rcases h3 with ⟨rfl,h4,h5⟩ | ⟨rfl,x,h4,h5⟩
 ·refine ⟨_,?_,h5⟩
  show ((if true=true then (do let n ← Go.sizeOf t; let c ← loadCells (ad.add off) n; pure (Value.agg c)) else load (ad.add off) : Sem Value)).run P w=_
  rw [if_pos rfl,Sem.run_bind,sizeOf_run h2]
  show (do let c ← loadCells (ad.add off) n; pure (Value.agg c) : Sem Value).run P w=_
  rw [Sem.run_bind]
  have hl : ((vs.drop off).take n).length=n := by rw [List.length_take,List.length_drop]; omega
  have := run_loadCells_list (P := P) (w := w) (ad.add off) ((vs.drop off).take n) (fun j u hj => by
   rw [add_add]
   have hj' : vs[off+j]? = some u := by
    rw [List.getElem?_take] at hj
    split at hj
    ·rw [List.getElem?_drop] at hj
     exact hj
    ·cases hj
   exact hk _ _ hj')
  rw [hl] at this
  rw [this]
  rfl
 ·refine ⟨x,?_,h5⟩
  have := hk _ _ h4
  show (load (ad.add off)).run P w=_
  simp [this]
theorem part_run {R : AC→Value→Prop} {P : Program} {t : TypeId} {cs : List AC} {off : Nat} {v : AV} {vs : List Value} (hp : partB P t cs off=some v) (hc : A2 R cs vs) : ∃ x,(part t vs.toArray off).run P w=.ok x w∧avOn R v x := by
 obtain ⟨b,n,h1,h2,h3⟩ := part_on hp hc
 unfold part
 rw [Sem.run_bind,isAgg_run h1]
 rcases h3 with ⟨rfl,h4,h5⟩ | ⟨rfl,x,h4,h5⟩
 ·refine ⟨_,?_,h5⟩
  show ((if true = true then (do let n ← Go.sizeOf t; pure (Value.agg (vs.toArray.extract off (off + n)))) else (match vs.toArray[off]? with | some v => pure v | none => stuck "part: no such cell") : Sem Value)).run P w = _
  rw [if_pos rfl,Sem.run_bind,sizeOf_run h2]
  show Result.ok _ _=_
  simp [List.take_drop]
 ·refine ⟨x,?_,h5⟩
  have : vs.toArray[off]? = some x := by simpa using h4
  show (match vs.toArray[off]? with | some v => (pure v : Sem Value) | none => stuck "part: no such cell").run P w = _
  rw [this]
  rfl
theorem Bk.set {w : World} {G : Nat} {vs : List Value} {t : TypeId} (h : Bk w G vs t) (j : Nat) (v : Value) : Bk (w.setCell ⟨G,j,none⟩ v) G (vs.set j v) t := by
 unfold Bk at h ⊢
 have hlt := (Array.getElem?_eq_some_iff.1 h).1
 simp only [World.setCell,Array.getElem?_modify,if_true,h]
 simp
theorem setCell_other {w : World} {G G' j : Nat} (v : Value) (hne : G' ≠ G) : (w.setCell ⟨G,j,none⟩ v).heap[G']? = w.heap[G']? := by
 simp [World.setCell,Array.getElem?_modify,Ne.symm hne]
theorem setCell_size (w : World) (a : Addr) (v : Value) : (w.setCell a v).heap.size=w.heap.size := by
 simp [World.setCell]
structure Sav (G : Nat) (w w' : World) : Prop where
 os : w'.os=w.os
 tape : w'.tape=w.tape
 output : w'.output=w.output
 size : w'.heap.size=w.heap.size
 block : ∀ k,k ≠ G→w'.heap[k]? = w.heap[k]?
theorem Sav.refl (G : Nat) (w : World) : Sav G w w := ⟨rfl,rfl,rfl,rfl,fun _ _ => rfl⟩
theorem storeCells_run {P : Program} {G o : Nat} {t : TypeId} : ∀ (ds : List Value) (i : Nat) (w : World) (vs : List Value),Bk w G vs t→(∀ d ∈ ds,okV d=true)→o+i+ds.length≤vs.length →
  ∃ w',(storeCells ⟨G,o,none⟩ ds i).run P w=.ok () w'∧Bk w' G (vs.take (o+i) ++ (ds ++ vs.drop (o+i+ds.length))) t∧Sav G w w'
 | [],i,w,vs,hk,_,_ => ⟨w,rfl,by simpa using hk,Sav.refl _ _⟩
 | d :: ds,i,w,vs,hk,hd,hl => by
  have hlt : o+i < vs.length := by simp at hl; omega
  obtain ⟨w',h1,h2,h3⟩ := storeCells_run (P := P) (o := o) ds (i+1) (w.setCell ⟨G,o+i,none⟩ d) (vs.set (o+i) d) (hk.set _ _) (fun x hx => hd x (List.mem_cons_of_mem _ hx)) (by rw [List.length_set]; rw [List.length_cons] at hl; omega)
  refine ⟨w',?_,?_,⟨h3.os.trans rfl,h3.tape.trans rfl,h3.output.trans rfl,h3.size.trans (setCell_size _ _ _),fun k hk => (h3.block k hk).trans (setCell_other d hk)⟩⟩
  ·unfold storeCells
   have hst : (store ⟨G,o+i,none⟩ d).run P w=.ok () (w.setCell ⟨G,o+i,none⟩ d) := by
    have hone : d.oneCell'=true := by
     have := hd d List.mem_cons_self
     unfold okV at this
     exact (Bool.and_eq_true _ _ ▸ this).2
    rw [run_store P w _ d _ hone,hk.cell,List.getElem?_eq_getElem hlt]
    simp [hk.frozen]
   rw [Sem.run_bind,add_at,hst]
   exact h1
  ·have e : (vs.set (o+i) d).take (o+(i+1)) ++ (ds ++ (vs.set (o+i) d).drop (o+(i+1)+ds.length))=vs.take (o+i) ++ (d :: ds ++ vs.drop (o+i+(d :: ds).length)) := by
    rw [List.drop_set_of_lt (by omega),show o+(i+1)=o+i+1 by omega,List.take_add_one,List.take_set_of_le (by omega)]
    simp [hlt,Nat.add_assoc,Nat.add_comm 1]
   rw [← e]
   exact h2
end
end Cx
/- VG -/
namespace Cx
open Go Go.RowKit
section
variable {S : Sx} {E : Ev S.nb} {w0 : World} {h : List HB} {nx : Nat} {ρ : Operand→Option AV} {o : Oper}
theorem OpOk.pure {y : AV} (hr : ∀ (γ : Nat→Option Nat) (w : World) (a : Act),(∀ x v,ρ x=some v→avOn (cOn E S.K γ w) v (a.eval x))→∃ v,(execOp a.eval o).run S.P w=.ok (.value v) w∧avOn (cOn E S.K γ w) y v) : OpOk S E w0 h nx ρ o (pureR h nx y) where
 le := Nat.le_refl _
 wh := fun b hb => by cases hb
 fp := fun x hx => Or.inl hx
 run := fun γ w a Q hi hρ _ _ _ K hK => by
  obtain ⟨v,e,hv⟩ := hr γ w a hρ
  unfold Oper.wp
  rw [e]
  refine hK v w γ (Ef.refl hi _ _ no_live) (fun y' hy => ?_) fun x hx hw => ?_
  ·cases hy
   exact hv
  ·rcases hw with hw | hw
   ·cases hw
   ·have : (pureR h nx y).nx=nx := rfl
    omega
theorem OpOk.calm {y : AV} (hr : ∀ (γ : Nat→Option Nat) (w : World) (a : Act),(∀ x v,ρ x=some v→avOn (cOn E S.K γ w) v (a.eval x))→∃ v w',(execOp a.eval o).run S.P w=.ok (.value v) w'∧Below w.heap.size w w'∧avOn (cOn E S.K γ w') y v) : OpOk S E w0 h nx ρ o (pureR h nx y) where
 le := Nat.le_refl _
 wh := fun b hb => by cases hb
 fp := fun x hx => Or.inl hx
 run := fun γ w a Q hi hρ _ _ _ K hK => by
  obtain ⟨v,w',e,hb,hv⟩ := hr γ w a hρ
  unfold Oper.wp
  rw [e]
  refine hK v w' γ (Ef.pure hi hb _ _ _ no_live) (fun y' hy => ?_) fun x hx hw => ?_
  ·cases hy
   exact hv
  ·rcases hw with hw | hw
   ·cases hw
   ·have : (pureR h nx y).nx=nx := rfl
    omega
theorem op_move {x : Operand} {r : OR} (hop : o.op=.move x ∨ o.op=.assign x) (hr : (ρ x).map (pureR h nx)=some r) : OpOk S E w0 h nx ρ o r := by
 rw [Option.map_eq_some_iff] at hr
 obtain ⟨v,h1,rfl⟩ := hr
 refine OpOk.pure fun γ w a hρ => ⟨_,?_,hρ x v h1⟩
 unfold execOp
 rcases hop with e | e <;> rw [e] <;> rfl
theorem op_pick {c x y : Operand} {r : OR} (hop : o.op=.pick c x y) (hr : ((ρ c).bind fun v => (asB v).bind fun t => (ρ (bif t then x else y)).map (pureR h nx))=some r) : OpOk S E w0 h nx ρ o r := by
 simp only [Option.bind_eq_some_iff,Option.map_eq_some_iff] at hr
 obtain ⟨v,h1,t,h2,u,h3,rfl⟩ := hr
 refine OpOk.pure fun γ w a hρ => ⟨_,?_,hρ _ u h3⟩
 have hc := asB_on h2 (hρ c v h1)
 unfold execOp
 rw [hop]
 simp only [hc]
 cases t <;> rfl
theorem op_nilCheck {x : Operand} {r : OR} (hop : o.op=.nilCheck x) (hr : ((ρ x).bind fun v => (asP v).map fun _ => pureR h nx v)=some r) : OpOk S E w0 h nx ρ o r := by
 simp only [Option.bind_eq_some_iff,Option.map_eq_some_iff] at hr
 obtain ⟨v,h1,p,h2,rfl⟩ := hr
 refine OpOk.pure fun γ w a hρ => ⟨a.eval x,?_,hρ x v h1⟩
 obtain ⟨G,_,e⟩ := asP_on h2 (hρ x v h1)
 unfold execOp
 rw [hop]
 simp only [e]
 rfl
theorem op_toArray {t : TypeId} {x : Operand} {r : OR} (hop : o.op=.sliceToArrayPointer t x) (hr : ((arrayB S.P t).bind fun n => (ρ x).bind fun v => ((asC v).bind acR).bind fun p => ifO (Nat.ble n.1 p.2.2) (some (pureR h nx (v1 (ptr p.1 p.2.1)))))=some r) : OpOk S E w0 h nx ρ o r := by
 simp only [Option.bind_eq_some_iff,ifO_some,Nat.ble_eq] at hr
 obtain ⟨n,h1,v,h2,p,⟨c,h3,h4⟩,h5,e⟩ := hr
 cases e
 refine OpOk.pure fun γ w a hρ => ?_
 obtain ⟨G,cap,hG,ex⟩ := acR_on h4 (asC_on h3 (hρ x v h2))
 refine ⟨.pointer (some ⟨G,p.2.1,none⟩),?_,v1_on ⟨G,hG,rfl⟩⟩
 unfold execOp
 rw [hop]
 simp only [ex]
 refine run_val ?_
 unfold Instr.arrayAt
 rw [Sem.run_bind,underlying_run (arrayB_some h1)]
 simp [Nat.not_lt.2 h5]
theorem op_extract {x : Operand} {k : Nat} {r : OR} (hop : o.op=.extract x k) (hr : ((ρ x).bind fun v => (asT v).bind fun vs => vs[k]?.map fun y => pureR h nx (false,[y]))=some r) : OpOk S E w0 h nx ρ o r := by
 simp only [Option.bind_eq_some_iff,Option.map_eq_some_iff] at hr
 obtain ⟨v,h1,vs,h2,y,h3,rfl⟩ := hr
 refine OpOk.pure fun γ w a hρ => ?_
 obtain ⟨us,e,hA⟩ := asT_on h2 (hρ x v h1)
 obtain ⟨u,hu,hy⟩ := hA.get h3
 refine ⟨u,?_,hy,trivial⟩
 unfold execOp
 rw [hop]
 simp only [e,Instr.extract,List.getElem?_toArray,hu]
 rfl
theorem op_not {t : TypeId} {x : Operand} {r : OR} (hop : o.op=.unOp .not t x) (hr : ((ρ x).bind fun v => (asB v).map fun t => pureR h nx (kB (!t)))=some r) : OpOk S E w0 h nx ρ o r := by
 simp only [Option.bind_eq_some_iff,Option.map_eq_some_iff] at hr
 obtain ⟨v,h1,b,h2,rfl⟩ := hr
 refine OpOk.pure fun γ w a hρ => ⟨.bool (!b),?_,v1_on ⟨rfl,rfl⟩⟩
 have hc := asB_on h2 (hρ x v h1)
 unfold execOp
 rw [hop]
 simp only [hc]
 rfl
theorem wrap_i64 {z : Int} (h : inI64 z=true) : IntKind.i64.wrap z=z := by
 unfold inI64 at h
 simp only [Bool.and_eq_true,decide_eq_true_eq] at h
 unfold IntKind.wrap
 simp only [IntKind.bits,IntKind.signed,show (2 : Int) ^ 64=18446744073709551616 from rfl,show (2 : Int) ^ (64 - 1)=9223372036854775808 from rfl,decide_eq_true_eq,Bool.true_and,ge_iff_le]
 split <;> omega
theorem op_neg {t : TypeId} {x : Operand} {r : OR} (hop : o.op=.unOp .neg t x) (hr : ((ρ x).bind fun v => (asI v).bind fun z => ifO (inI64 (-z)) (some (pureR h nx (kI (-z)))))=some r) : OpOk S E w0 h nx ρ o r := by
 simp only [Option.bind_eq_some_iff,ifO_some] at hr
 obtain ⟨v,h1,z,h2,h3,e⟩ := hr
 cases e
 refine OpOk.pure fun γ w a hρ => ⟨.int .i64 (-z),?_,v1_on ⟨rfl,rfl⟩⟩
 have hc := asI_on h2 (hρ x v h1)
 unfold execOp
 rw [hop]
 simp only [hc]
 refine run_val ?_
 show (Op.intArith .sub .i64 0 z).run S.P w=_
 simp [go_sem,wrap_i64 h3]
theorem op_fieldAddr {t : TypeId} {x : Operand} {f : Nat} {r : OR} (hop : o.op=.fieldAddr t x f) (hr : ((structB S.P t).bind fun fs => (ρ x).bind fun v => (asP v).bind fun p => fs[f]?.bind fun g => (sizeB S.P g.type).bind fun n =>
   ifO (Nat.blt 0 n) (some (pureR h nx (v1 (ptr p.1 (p.2+g.offset))))))=some r) : OpOk S E w0 h nx ρ o r := by
 simp only [Option.bind_eq_some_iff,ifO_some] at hr
 obtain ⟨fs,h1,v,h2,p,h3,g,h4,n,h5,h6,e⟩ := hr
 cases e
 refine OpOk.pure fun γ w a hρ => ?_
 obtain ⟨G,hG,hx⟩ := asP_on h3 (hρ x v h2)
 refine ⟨.pointer (some ⟨G,p.2+g.offset,none⟩),?_,v1_on ⟨G,hG,rfl⟩⟩
 unfold execOp
 rw [hop]
 refine run_val ?_
 rw [hx]
 unfold Instr.fieldAt
 rw [Sem.run_bind,underlying_run (structB_some h1)]
 have hfs : fs.toArray[f]? = some g := by simpa using h4
 have hn : ¬ n=0 := by
  intro e
  rw [e] at h6
  cases h6
 show (match fs.toArray[f]? with | some f => (do let a ← Instr.sureAddr (.pointer (some ⟨G, p.2, none⟩)); pure (Value.pointer (some (← fieldPlace a f))) : Sem Value) | x => stuck "fieldAddr: no such field").run S.P w = _
 rw [hfs]
 show (do let q ← fieldPlace ⟨G,p.2,none⟩ g; pure (Value.pointer (some q)) : Sem Value).run S.P w=_
 unfold fieldPlace
 rw [Sem.run_bind,Sem.run_bind,sizeOf_run h5]
 show ((if n=0 then partAt ⟨G,p.2,none⟩ g.offset g.byteOffset else pure ((⟨G,p.2,none⟩ : Addr).add g.offset) : Sem Addr).run S.P w).andThen _=_
 rw [if_neg hn,add_at]
 rfl
theorem op_field {t : TypeId} {x : Operand} {f : Nat} {r : OR} (hop : o.op=.field t x f) (hr : ((structB S.P t).bind fun fs => (ρ x).bind fun v => (asA v).bind fun cs => fs[f]?.bind fun g => (partB S.P g.type cs g.offset).map (pureR h nx))=some r) : OpOk S E w0 h nx ρ o r := by
 simp only [Option.bind_eq_some_iff,Option.map_eq_some_iff] at hr
 obtain ⟨fs,h1,v,h2,cs,h3,g,h4,u,h5,rfl⟩ := hr
 refine OpOk.pure fun γ w a hρ => ?_
 obtain ⟨vs,e,hA⟩ := asA_on h3 (hρ x v h2)
 obtain ⟨z,hz,hu⟩ := part_run (w := w) h5 hA
 refine ⟨z,?_,hu⟩
 unfold execOp
 rw [hop]
 refine run_val ?_
 rw [e]
 unfold Instr.field
 rw [Sem.run_bind,underlying_run (structB_some h1)]
 have hfs : fs.toArray[f]? = some g := by simpa using h4
 show (match fs.toArray[f]? with | some f => (do part f.type (← asAgg (.agg vs.toArray)) f.offset : Sem Value) | none => stuck "Field: no such field").run S.P w = _
 rw [hfs]
 exact hz
theorem ofNat_lt {k n : Nat} (h : Nat.blt k n=true) : (0 : Int)≤(k : Int)∧(k : Int) < (n : Int) := by
 have : k < n := by simpa [Nat.blt_eq] using h
 omega
theorem sizeB_some {P : Program} {t : TypeId} {n : Nat} (h : sizeB P t=some n) : ∃ i,P.info? t=some i∧i.size=n := by
 unfold sizeB at h
 rw [Option.map_eq_some_iff] at h
 exact h
theorem op_indexAddr {t : TypeId} {x i : Operand} {r : OR} (hop : o.op=.indexAddr t x i) (hr : ((ρ x).bind fun v => (ρ i).bind fun u => (asN u).bind fun k => match arrayB S.P t with
  | some (n,e) => (asP v).bind fun p => (sizeB S.P e).bind fun z => ifO (Nat.blt k n) (some (pureR h nx (v1 (ptr p.1 (p.2+k*z)))))
  | none => (sliceT S.P t).bind fun e => (sizeB S.P e).bind fun z => match (asC v).bind acH with
   | some p => ifO (Nat.blt k p.2.2) (some (pureR h nx (v1 (.inr (9,p.1,p.2.1+k*z,0,0)))))
   | none => (asR v).bind fun p => ifO (Nat.blt k p.2.2) (some (pureR h nx (v1 (ptr p.1 (p.2.1+k*z))))))=some r) : OpOk S E w0 h nx ρ o r := by
 simp only [Option.bind_eq_some_iff] at hr
 obtain ⟨v,h1,u,h2,k,h3,hr⟩ := hr
 have hexec : ∀ (a : Act) (w : World) (q : Value),(Instr.indexAt t (a.eval x) (a.eval i)).run S.P w=.ok q w→(execOp a.eval o).run S.P w=.ok (.value q) w := fun a w q hq => by
  unfold execOp
  rw [hop]
  exact run_val hq
 split at hr
 ·rename_i n e ha
  simp only [Option.bind_eq_some_iff,ifO_some] at hr
  obtain ⟨p,h4,z,h5,h6,e'⟩ := hr
  cases e'
  refine OpOk.pure fun γ w a hρ => ?_
  obtain ⟨G,hG,hx⟩ := asP_on h4 (hρ x v h1)
  have hi := asN_on h3 (hρ i u h2)
  refine ⟨.pointer (some ⟨G,p.2+k*z,none⟩),hexec a w _ ?_,v1_on ⟨G,hG,rfl⟩⟩
  rw [hx,hi]
  have hb := ofNat_lt h6
  unfold Instr.indexAt
  have hkn : k < n := by omega
  simp [go_sem,underlying_run (arrayB_some ha),sizeOf_run h5,hkn,Instr.sureAddr,add_at,Result.andThen]
 ·rename_i ha
  simp only [Option.bind_eq_some_iff] at hr
  obtain ⟨e,h4,z,h6,hr⟩ := hr
  split at hr
  ·rename_i p h5
   rw [ifO_some] at hr
   obtain ⟨h7,e'⟩ := hr
   cases e'
   rw [Option.bind_eq_some_iff] at h5
   obtain ⟨c,h8,h9⟩ := h5
   refine OpOk.pure fun γ w a hρ => ?_
   obtain ⟨f,ad,n',m,r,m',hK,hx⟩ := acH_on h9 (asC_on h8 (hρ x v h1))
   have hi := asN_on h3 (hρ i u h2)
   refine ⟨.pointer (some (ad.add (p.2.1+k*z))),hexec a w _ ?_,v1_on ⟨f,ad,n',m,r,hK,rfl⟩⟩
   rw [hx,hi]
   have hb := ofNat_lt h7
   unfold Instr.indexAt
   have hkn : k < p.2.2 := by omega
   simp [go_sem,underlying_run (sliceT_some h4),sizeOf_run h6,hkn,add_add,Result.andThen]
  ·simp only [Option.bind_eq_some_iff,ifO_some] at hr
   obtain ⟨p,h5,h7,e'⟩ := hr
   cases e'
   refine OpOk.pure fun γ w a hρ => ?_
   obtain ⟨G,cp,hG,hx⟩ := asR_on h5 (hρ x v h1)
   have hi := asN_on h3 (hρ i u h2)
   refine ⟨.pointer (some ⟨G,p.2.1+k*z,none⟩),hexec a w _ ?_,v1_on ⟨G,hG,rfl⟩⟩
   rw [hx,hi]
   have hb := ofNat_lt h7
   unfold Instr.indexAt
   have hkn : k < p.2.2 := by omega
   simp [go_sem,underlying_run (sliceT_some h4),sizeOf_run h6,hkn,add_at,Result.andThen]
theorem op_index {t : TypeId} {x i : Operand} {r : OR} (hop : o.op=.index t x i) (hr : ((arrayB S.P t).bind fun a => (ρ x).bind fun v => (asA v).bind fun cs => (ρ i).bind fun u => (asN u).bind fun k => (sizeB S.P a.2).bind fun z =>
   ifO (Nat.blt k a.1) ((partB S.P a.2 cs (k*z)).map (pureR h nx)))=some r) : OpOk S E w0 h nx ρ o r := by
 simp only [Option.bind_eq_some_iff,Option.map_eq_some_iff,ifO_some] at hr
 obtain ⟨a',h1,v,h2,cs,h3,u,h4,k,h5,z,h6,h7,y,h8,rfl⟩ := hr
 refine OpOk.pure fun γ w a hρ => ?_
 obtain ⟨vs,e,hA⟩ := asA_on h3 (hρ x v h2)
 have hi := asN_on h5 (hρ i u h4)
 obtain ⟨q,hq,hu⟩ := part_run (w := w) h8 hA
 refine ⟨q,?_,hu⟩
 unfold execOp
 rw [hop]
 refine run_val ?_
 rw [e,hi]
 have hb := ofNat_lt h7
 unfold Instr.index
 have e3 : (asIntOf (.int .i64 (k : Int))).run S.P w=.ok (.i64,(k : Int)) w := rfl
 rw [Sem.run_bind,e3]
 show ((underlying t) >>= _ : Sem Value).run S.P w=_
 rw [Sem.run_bind,underlying_run (arrayB_some h1)]
 show (if (0 : Int)≤(k : Int)∧(k : Int) < (a'.1 : Int) then ((Go.sizeOf a'.2) >>= fun n => part a'.2 vs.toArray ((k : Int).toNat*n)) else boundsPanic .i64 k a'.1 .index : Sem Value).run S.P w=_
 rw [if_pos hb,Sem.run_bind,sizeOf_run h6]
 exact hq
end
end Cx
