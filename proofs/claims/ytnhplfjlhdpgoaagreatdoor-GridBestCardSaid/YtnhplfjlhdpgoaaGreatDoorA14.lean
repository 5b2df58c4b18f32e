/- Part 14 of the walks and of the mathematics under them: VW VX VHD RQS ZWS ZWT GWK GST ZWU GNR GNM GNB GFD RAB. -/
import Derived.Test.YtnhplfjlhdpgoaaGreatDoorA13
import Derived.Great.BuildSlice
import Derived.Test.YtnhplfjlhdpgoaaGreatDoorA8
set_option maxHeartbeats 16000000
set_option maxRecDepth 100000
/- VW -/
namespace Go.Proofs.YtnhplfjlhdpgoaaGreatDoor
open Go.RowKit Cx
def evL (σ : Nat→ByteArray) : List Rat→List Nd→List Rat
 | acc,[] => acc
 | acc,nd :: ns => evL σ (acc ++ [YV σ (fun a => acc.getD a 0) nd]) ns
theorem Dw {σ : Nat→ByteArray} : ∀ (ns : List Nd) (acc : List Rat),∃ r,evL σ acc ns=acc ++ r∧r.length=ns.length
 | [],acc => ⟨[],by simp [evL]⟩
 | nd :: ns,acc => by
  obtain ⟨r,h1,h2⟩ := Dw (σ := σ) ns (acc ++ [YV σ (fun a => acc.getD a 0) nd])
  refine ⟨YV σ (fun a => acc.getD a 0) nd :: r,?_,by simp [h2]⟩
  unfold evL
  rw [h1,List.append_assoc]
  rfl
theorem MP {σ : Nat→ByteArray} : ∀ (ns : List Nd) (acc : List Rat) (i : Nat) (nd : Nd),wfB acc.length ns=true→ns[i]? = some nd→(evL σ acc ns).getD (acc.length+i) 0=YV σ (fun a => (evL σ acc ns).getD a 0) nd
 | [],_,_,_,_,h => by simp at h
 | n :: ns,acc,0,nd,hw,h => by
  have : n=nd := by simpa using h
  subst this
  unfold wfB at hw
  rw [Bool.and_eq_true] at hw
  obtain ⟨r,h1,_⟩ := Dw (σ := σ) ns (acc ++ [YV σ (fun a => acc.getD a 0) n])
  have e : evL σ acc (n :: ns)=acc ++ YV σ (fun a => acc.getD a 0) n :: r := by
   unfold evL
   rw [h1,List.append_assoc]
   rfl
  rw [e,Nat.add_zero,List.getD_eq_getElem?_getD,List.getElem?_append_right (Nat.le_refl _),Nat.sub_self]
  show YV σ (fun a => acc.getD a 0) n=_
  refine Mp hw.1 fun a ha => ?_
  rw [List.getD_eq_getElem?_getD,List.getD_eq_getElem?_getD,List.getElem?_append_left ha]
 | n :: ns,acc,i+1,nd,hw,h => by
  unfold wfB at hw
  rw [Bool.and_eq_true] at hw
  have := MP (σ := σ) ns (acc ++ [YV σ (fun a => acc.getD a 0) n]) i nd (by rw [List.length_append]; exact hw.2) (by simpa using h)
  rw [List.length_append,show acc.length+[YV σ (fun a => acc.getD a 0) n].length+i=acc.length+(i+1) by simp; omega] at this
  exact this
def hB (q : Nat→Rat) : List (Nat × Nat × Nat × Nat)→Bool
 | [] => true
 | (k,a,b,r) :: l => (match k with
  | 0 => Nat.beq 1 r == decide (q a=0)
  | 1 => Nat.beq 1 r == decide (q a < 0)
  | 2 => Nat.beq 1 r == decide (0 < q a)
  | 3 => Nat.beq 1 r == decide (q a=q b)
  | 4 => Nat.beq 1 r == decide (q a=q b)
  | 6 => Nat.beq 1 r == decide (q a=0∧q b=0)
  | 5 => (!Nat.beq r 0 || decide (q a < 0)) && ((!Nat.beq r 1 || decide (q a=0)) && (!Nat.beq r 2 || decide (0 < q a)))
  | _ => false) && hB q l
theorem Ws {x : Bool} {p : Prop} [Decidable p] (h : (x == decide p)=true) : x=true ↔ p := by
 rw [beq_iff_eq] at h
 rw [h,decide_eq_true_eq]
theorem AJ {q : Nat→Rat} : ∀ {l : List (Nat × Nat × Nat × Nat)},hB q l=true→hAll q l
 | [],_ => trivial
 | (k,a,b,r) :: l,h => by
  unfold hB at h
  rw [Bool.and_eq_true] at h
  refine ⟨?_,AJ h.2⟩
  have h1 := h.1
  unfold hAt
  match k,h1 with
  | 0,h => exact Ws h
  | 1,h => exact Ws h
  | 2,h => exact Ws h
  | 3,h => exact Ws h
  | 4,h => exact Ws h
  | 6,h => exact Ws h
  | 5,h0 =>
   have h : ((!Nat.beq r 0 || decide (q a < 0)) && ((!Nat.beq r 1 || decide (q a=0)) && (!Nat.beq r 2 || decide (0 < q a))))=true := h0
   simp only [Bool.and_eq_true,Bool.or_eq_true,Bool.not_eq_true',decide_eq_true_eq] at h
   obtain ⟨h1,h2,h3⟩ := h
   refine ⟨fun e => ?_,fun e => ?_,fun e => ?_⟩
   ·subst e; rcases h1 with h1 | h1
    ·cases h1
    ·exact h1
   ·subst e; rcases h2 with h1 | h1
    ·cases h1
    ·exact h1
   ·subst e; rcases h3 with h1 | h1
    ·cases h1
    ·exact h1
theorem Nz {N : List Nd} {H : List (Nat × Nat × Nat × Nat)} {K : List (FuncId × List AC)} {L C : List (List Nat × Nat)} {Z : List Nat} {q : Nat→Rat} {σ : Nat→ByteArray} {cl : List FuncId} {f : FuncId} {args : List AV} {vs : List Value} (k : Nat) (Y : Hy N H L C Z q σ) (hc : ∀ f ∈ cl,Closed f) (hm : (Tryz.prog).follows .mixedOrders=true) (hr : (GR (sx Tryz.prog N H K L C Z (prC cl)) k f args [] 0).map (·.1)=some (kB true)) {w : World} (hp : QZ w)
  (hA : A2 (avOn (cOn (evS q σ) K (fun _ => none) w)) args vs) : Calls Tryz.prog f vs.toArray w fun e w' => Below w.heap.size w w'∧e=.returned (.bool true) := by
 rw [Option.map_eq_some_iff] at hr
 obtain ⟨⟨v,p⟩,h1,h2⟩ := hr
 dsimp only at h2
 subst h2
 exact Lz Y hc hm h1 hp hA
theorem FC {N : List Nd} {H : List (Nat × Nat × Nat × Nat)} {K : List (FuncId × List AC)} {L C : List (List Nat × Nat)} {Z : List Nat} {cl : List FuncId} {f : FuncId} (k : Nat) (hc : ∀ f ∈ cl,Closed f) (hm : (Tryz.prog).follows .mixedOrders=true) (hw : wfB 0 N=true) (hz : szB Z N Z=true) (hl : litB N L=true) (hcn : canB N C=true)
  (hH : hB (fun a => (evL (fun _ => ⟨#[]⟩) [] N).getD a 0) H=true) (hr : (GR (sx Tryz.prog N H K L C Z (prC cl)) k f [] [] 0).map (·.1)=some (kB true)) : Closed f := fun w hp => by
 have hq : ∀ (a : Nat) nd,N[a]? = some nd→(fun a => (evL (fun _ => ⟨#[]⟩) [] N).getD a 0) a=YV (fun _ => ⟨#[]⟩) (fun a => (evL (fun _ => ⟨#[]⟩) [] N).getD a 0) nd := fun a nd h => by
  have := MP (σ := fun _ => ⟨#[]⟩) N [] a nd hw h
  rw [List.length_nil,Nat.zero_add] at this
  exact this
 have h0 : ∀ a,N.length≤a→(fun a => (evL (fun _ => ⟨#[]⟩) [] N).getD a 0) a=0 := fun a ha => by
  obtain ⟨r,h1,h2⟩ := Dw (σ := fun _ => ⟨#[]⟩) N []
  show (evL (fun _ => ⟨#[]⟩) [] N).getD a 0=0
  rw [h1,List.nil_append,List.getD_eq_getElem?_getD,List.getElem?_eq_none (by omega)]
  rfl
 exact Nz (vs := []) k (hy_of (σ := fun _ => ⟨#[]⟩) (fun _ => by decide) hw hz hl hcn hq h0 (AJ hH)) hc hm hr hp trivial
end Go.Proofs.YtnhplfjlhdpgoaaGreatDoor
/- VX -/
namespace Go.Proofs.YtnhplfjlhdpgoaaGreatDoor
open Go.RowKit Cx
theorem hT {p : Prop} (h : p) : Nat.beq 1 1=true ↔ p := iff_of_true rfl h
theorem hF {p : Prop} (h : ¬ p) : Nat.beq 1 0=true ↔ p := iff_of_false (fun e => by cases e) h
theorem h50 {x : Rat} (h : x < 0) : ((0 : Nat)=0→x < 0)∧((0 : Nat)=1→x=0)∧((0 : Nat)=2→0 < x) := ⟨fun _ => h,(fun e => by cases e),(fun e => by cases e)⟩
end Go.Proofs.YtnhplfjlhdpgoaaGreatDoor
/- VHD -/
namespace Go.Proofs.YtnhplfjlhdpgoaaGreatDoor
open Cx Go Go.RowKit
section
variable {N : List Nd} {H : List (Nat × Nat × Nat × Nat)} {K : List (FuncId × List AC)} {L C : List (List Nat × Nat)} {Z : List Nat} {q : Nat→Rat} {σ : Nat→ByteArray} {cl : List FuncId} {pr : List (FuncId × Nat)}
abbrev hnd (pr : List (FuncId × Nat)) : List (FuncId × Nat) := (1000000000,99) :: pr
end
def hK2 (n : Nat) (a0 : Addr) (m0 : Nat) (a1 : Addr) (m1 : Nat) (r : List (FuncId × List AC)) : List (FuncId × List AC) :=
 (0,[.inl (.slice (some a0) n m0),.inl (.int .i64 (.ofNat 0)),.inl (.int .i64 (.ofNat (2*n)))]) :: (0,[.inl (.slice (some a1) n m1),.inl (.int .i64 (.ofNat (2*n))),.inl (.int .i64 (.ofNat n))]) :: r
def hK1 (n : Nat) (a0 : Addr) (m0 : Nat) : List (FuncId × List AC) := [(0,[.inl (.slice (some a0) n m0),.inl (.int .i64 (.ofNat 0)),.inl (.int .i64 (.ofNat 0))])]
end Go.Proofs.YtnhplfjlhdpgoaaGreatDoor
/- RQS -/
namespace Go.Proofs.YtnhplfjlhdpgoaaGreatDoor
open Go Go.RowKit Cx
end Go.Proofs.YtnhplfjlhdpgoaaGreatDoor
/- ZWS -/
namespace Go.Proofs.YtnhplfjlhdpgoaaGreatDoor
open Go Go.RowKit Cx
def elV (agg : Bool) (r : List Value) : Value := match agg with
 | true => .agg r.toArray
 | false => r.headD undef
def RowsOn {α : Type} (z : Nat) (agg : Bool) (F : α→Fact) (w : World) : List α→List Value→Prop
 | [],cs => cs=[]
 | x :: L,cs => ∃ r rest,cs=r ++ rest∧r.length=z∧(F x).on (elV agg r) w∧RowsOn z agg F w L rest
section
variable {α : Type} {z : Nat} {agg : Bool} {F : α→Fact} {w w' : World}
theorem RowsOn.len : ∀ {L : List α} {cs : List Value},RowsOn z agg F w L cs→cs.length=L.length*z
 | [],cs,h => by rw [show cs=[] from h]; simp
 | x :: L,cs,⟨r,rest,e,h1,_,h2⟩ => by
  rw [e,List.length_append,h1,h2.len,List.length_cons,Nat.add_mul,Nat.one_mul,Nat.add_comm]
theorem RowsOn.grows (hg : Grows w w') : ∀ {L : List α} {cs : List Value},RowsOn z agg F w L cs→RowsOn z agg F w' L cs
 | [],_,h => h
 | x :: _,_,⟨r,rest,e,h1,h2,h3⟩ => ⟨r,rest,e,h1,(F x).st hg h2,h3.grows hg⟩
theorem RowsOn.one {x : α} {r : List Value} (h1 : r.length=z) (h2 : (F x).on (elV agg r) w) : RowsOn z agg F w [x] r := ⟨r,[],by simp,h1,h2,rfl⟩
theorem RowsOn.append : ∀ {L M : List α} {cs ds : List Value},RowsOn z agg F w L cs→RowsOn z agg F w M ds→RowsOn z agg F w (L ++ M) (cs ++ ds)
 | [],_,cs,ds,h,k => by rw [show cs=[] from h]; exact k
 | _ :: _,_,_,_,⟨r,rest,e,h1,h2,h3⟩,k => ⟨r,rest ++ _,by rw [e,List.append_assoc],h1,h2,h3.append k⟩
theorem RowsOn.get : ∀ {L : List α} {cs : List Value} {i : Nat} {x : α},RowsOn z agg F w L cs→L[i]? = some x→∃ r,r.length=z∧(F x).on (elV agg r) w∧∀ (j : Nat) u,r[j]? = some u→cs[i*z+j]? = some u
 | [],_,_,_,_,hi => by simp at hi
 | y :: L,cs,0,x,⟨r,rest,e,h1,h2,h3⟩,hi => by
  have e2 : y=x := by simpa using hi
  subst e2
  refine ⟨r,h1,h2,fun j u hj => ?_⟩
  rw [e,Nat.zero_mul,Nat.zero_add,List.getElem?_append_left (List.getElem?_eq_some_iff.1 hj).1]
  exact hj
 | y :: L,cs,i+1,x,⟨r,rest,e,h1,h2,h3⟩,hi => by
  obtain ⟨s,k1,k2,k3⟩ := h3.get (i := i) (x := x) (by simpa using hi)
  refine ⟨s,k1,k2,fun j u hj => ?_⟩
  rw [e,List.getElem?_append_right (by rw [h1,Nat.add_mul]; omega),h1,show (i+1)*z+j - z=i*z+j by rw [Nat.add_mul]; omega]
  exact k3 j u hj
theorem RowsOn.set : ∀ {L : List α} {cs : List Value} {i : Nat} {x : α} {r : List Value},RowsOn z agg F w L cs→i < L.length→r.length=z→(F x).on (elV agg r) w→RowsOn z agg F w (L.set i x) (cs.take (i*z) ++ (r ++ cs.drop (i*z+z)))
 | [],_,_,_,_,_,hi,_,_ => by simp at hi
 | y :: L,cs,0,x,r,⟨s,rest,e,h1,h2,h3⟩,hi,hr,hF => by
  refine ⟨r,rest,?_,hr,hF,h3⟩
  rw [e,Nat.zero_mul,List.take_zero,List.nil_append,Nat.zero_add,List.drop_append_of_le_length (by omega),List.drop_eq_nil_of_le (by omega),List.nil_append]
 | y :: L,cs,i+1,x,r,⟨s,rest,e,h1,h2,h3⟩,hi,hr,hF => by
  refine ⟨s,rest.take (i*z) ++ (r ++ rest.drop (i*z+z)),?_,h1,h2,h3.set (by simpa using hi) hr hF⟩
  have e1 : (i+1)*z=s.length+i*z := by rw [h1,Nat.add_mul,Nat.one_mul,Nat.add_comm]
  rw [e,e1,List.take_length_add_append,show s.length+i*z+z=s.length+(i*z+z) by omega,List.drop_length_add_append,List.append_assoc]
end
def OwnL {α : Type} (t : TypeId) (z : Nat) (agg : Bool) (F : α→Fact) (w : World) (B : Nat) (Gs : List Nat) (v : Value) (L : List α) : Prop :=
 (v=.slice none 0 0∧L=[]) ∨ ∃ g cap cs us,v=.slice (some ⟨g,0,none⟩) L.length cap∧B≤g∧g ∉ Gs∧Bk w g (cs ++ us) t∧RowsOn z agg F w L cs∧(∀ c ∈ cs ++ us,okV c=true)∧(cs ++ us).length=cap*z
section
variable {α : Type} {t : TypeId} {z : Nat} {agg : Bool} {F : α→Fact} {w w' : World} {B : Nat} {Gs : List Nat} {v : Value} {L : List α}
theorem OwnL.slice (h : OwnL t z agg F w B Gs v L) : ∃ ao c,v=.slice ao L.length c := by
 rcases h with ⟨rfl,rfl⟩ | ⟨g,cap,cs,us,rfl,_⟩
 ·exact ⟨_,_,rfl⟩
 ·exact ⟨_,_,rfl⟩
theorem OwnL.keep (h : OwnL t z agg F w B Gs v L) (hg : Grows w w') (hf : ∀ g,g < w.heap.size→g ∉ Gs→w'.heap[g]? = w.heap[g]?) : OwnL t z agg F w' B Gs v L := by
 rcases h with h | ⟨g,cap,cs,us,e,h1,h2,h3,h4,h5,h6⟩
 ·exact Or.inl h
 ·exact Or.inr ⟨g,cap,cs,us,e,h1,h2,(hf g h3.lt h2).trans h3,h4.grows hg,h5,h6⟩
theorem OwnL.below (h : OwnL t z agg F w B Gs v L) (hb : Below w.heap.size w w') : OwnL t z agg F w' B Gs v L :=
 h.keep (Grows.of hb) fun g hg _ => hb.block g hg
theorem OwnL.app {T : TypeId} {i : TypeInfo} {zero : Value} (hu : Tryz.prog.underlying T=some (.slice t)) (hi : Tryz.prog.info? t=some i) (hz0 : i.zero=some zero) (hz1 : zero.cells.size=z) (hz2 : i.size=z) (hz3 : 0 < z) (hz4 : 4000000*i.bytes≤140737488355328) (hzo : ∀ u ∈ zero.cells.toList,okV u=true) (hbT : PK t=true) (hnl : ∀ c : Value,okV c=true→Qm c=true)
  (h : OwnL t z agg F w B Gs v L) (hB : B≤w.heap.size) (hGs : ∀ g ∈ Gs,g < w.heap.size) {x : α} {r : List Value} (hr : r.length=z) (hF : (F x).on (elV agg r) w) (hok : ∀ c ∈ r,okV c=true) {ad : Addr} (hc : ∀ (j : Nat) u,r[j]? = some u→w.cell? (ad.add j)=some u) (hn : L.length < 3000000) (ty : TypeId) (cy : Nat) :
  ∃ v' w',(Builtin.append_ #[T,T] ty #[v,.slice (some ad) 1 cy]).run Tryz.prog w=.ok v' w'∧OwnL t z agg F w' B Gs v' (L ++ [x])∧Grows w w'∧Below B w w'∧∀ g,g < w.heap.size→g ∈ Gs→w'.heap[g]? = w.heap[g]? := by
 subst hz2
 have hnews : r.length=1*i.size := by rw [hr,Nat.one_mul]
 have grow : ∀ (ao : Option Addr) (c : Nat) (cs : List Value),v=.slice ao L.length c→RowsOn i.size agg F w L cs→(∀ b,ao=some b→∀ (j : Nat) u,cs[j]? = some u→w.cell? (b.add j)=some u)→(ao=Option.none→L.length=0∧c=0)→c < L.length+1→(∀ c ∈ cs,okV c=true) →
   ∃ v' w',(Builtin.append_ #[T,T] ty #[v,.slice (some ad) 1 cy]).run Tryz.prog w=.ok v' w'∧OwnL t i.size agg F w' B Gs v' (L ++ [x])∧Grows w w'∧Below B w w'∧∀ g,g < w.heap.size→g ∈ Gs→w'.heap[g]? = w.heap[g]? := fun ao c cs e hrows holds hnone hlt hcs => by
  obtain ⟨cap,us,k1,k2,k3,k4⟩ := To (P := Tryz.prog) (w := w) (ty := ty) hu hi hz0 hz1 hz3 (ao := ao) (k := L.length) (c := c) (olds := cs) hrows.len holds hnone (ad := ad) (m := 1) (cy := cy) (news := r) hnews hc (by simp) hlt (by omega) (by
   refine Nat.le_trans (Nat.mul_le_mul_right _ (show L.length+1≤4000000 by omega)) hz4)
  have hbd := Ot w (.cells (cs ++ r ++ us).toArray t)
  refine ⟨_,_,by rw [e]; exact k4,Or.inr ⟨w.heap.size,cap,cs ++ r,us,?_,hB,fun q => Nat.lt_irrefl _ (hGs _ q),Bk.new w.drew _ _,?_,fun q hq => ?_,k2⟩,Grows.of hbd,hbd.mono hB,fun g hg _ => hbd.block g hg⟩
  ·rw [List.length_append]
   rfl
  ·exact (hrows.append (RowsOn.one hr hF)).grows (Grows.of hbd)
  ·rcases List.mem_append.1 hq with hq | hq
   ·rcases List.mem_append.1 hq with hq | hq
    ·exact hcs q hq
    ·exact hok q hq
   ·exact hzo q (k3 q hq)
 rcases h with ⟨rfl,rfl⟩ | ⟨g,cap,cs,us,rfl,h1,h2,h3,h4,h5,h6⟩
 ·exact grow Option.none 0 [] rfl rfl (fun _ e => by cases e) (fun _ => ⟨rfl,rfl⟩) (by simp) (fun _ hc => by cases hc)
 ·have hlen := h4.len
  by_cases hroom : L.length+1≤cap
  ·have hle : L.length*i.size+r.length≤(cs ++ us).length := by
    rw [h6,hr]
    calc L.length*i.size+i.size=(L.length+1)*i.size := by rw [Nat.add_mul,Nat.one_mul]
     _≤cap*i.size := Nat.mul_le_mul_right _ hroom
   obtain ⟨w',hs,hk,hsv⟩ := ZN (P := Tryz.prog) (o := L.length*i.size) r 0 w (cs ++ us) h3 hok (by rw [Nat.add_zero]; exact hle)
   have hfc := run_firstCells_some (P := Tryz.prog) w i.size 1 ad 1 cy r hnews hc
   have hrun : (Builtin.append_ #[T,T] ty #[.slice (some ⟨g,0,Option.none⟩) L.length cap,.slice (some ad) 1 cy]).run Tryz.prog w=.ok (.slice (some ⟨g,0,Option.none⟩) (L.length+1) cap) w' := by
    simp [Builtin.append_,run_underlying hu,Go.sizeOf,typeInfo,hi,Builtin.lenOf,hroom,hfc,Addr.add_lit,hs]
   rw [Nat.add_zero,← hlen,List.take_left,← List.drop_drop,List.drop_left,← List.append_assoc] at hk
   have hall : ∀ q ∈ cs ++ r ++ us.drop r.length,okV q=true := fun q hq => by
    rcases List.mem_append.1 hq with hq | hq
    ·rcases List.mem_append.1 hq with hq | hq
     ·exact h5 q (List.mem_append_left _ hq)
     ·exact hok q hq
    ·exact h5 q (List.mem_append_right _ (List.mem_of_mem_drop hq))
   have hll : (cs ++ r ++ us.drop r.length).length=cap*i.size := by
    rw [← h6]
    simp only [List.length_append,List.length_drop]
    rw [List.length_append] at hle
    omega
   have hbx : Boxed w g := ⟨_,_,h3,hbT,by rw [List.all_toArray]; exact List.all_eq_true.2 fun q hq => hnl q (h5 q hq)⟩
   have hgr : Grows w w' := ⟨by rw [hsv.size]; exact Nat.le_refl _,fun k _ hn' => hsv.block k fun e => hn' (e ▸ hbx)⟩
   refine ⟨_,w',hrun,Or.inr ⟨g,cap,cs ++ r,us.drop r.length,?_,h1,h2,hk,(h4.append (RowsOn.one hr hF)).grows hgr,hall,hll⟩,hgr,⟨hsv.os,hsv.tape,hsv.output,by rw [hsv.size]; exact Nat.le_refl _,fun k hk' => hsv.block k (by omega)⟩,fun k _ hk' => hsv.block k fun e => h2 (e ▸ hk')⟩
   rw [List.length_append]
   rfl
  ·exact grow (some ⟨g,0,Option.none⟩) cap cs rfl h4 (fun b e j u hj => by
    cases e
    rw [show (⟨g,0,Option.none⟩ : Addr).add j=⟨g,j,Option.none⟩ from by (simp [Addr.add]; omega),h3.cell j,List.getElem?_append_left (List.getElem?_eq_some_iff.1 hj).1]
    exact hj) (fun e => by cases e) (by omega) fun q hq => h5 q (List.mem_append_left _ hq)
end
end Go.Proofs.YtnhplfjlhdpgoaaGreatDoor
/- ZWT -/
namespace Go.Proofs.YtnhplfjlhdpgoaaGreatDoor
open Go Go.RowKit Cx
theorem Ma {c : Value} (h : Qm c=true∧c.oneCell'=true) : okV c=true := by
 unfold okV
 have e : Pg c=Qm c := by
  unfold Pg Qm
  rfl
 rw [e,h.1,h.2]
 rfl
theorem RE (c : Value) (h : okV c=true) : Qm c=true := by
 have e : Pg c=Qm c := by
  unfold Pg Qm
  rfl
 unfold okV at h
 rw [e] at h
 simp at h
 exact h.1
def ListAt {α : Type} (t : TypeId) (z : Nat) (agg : Bool) (F : α→Fact) (w : World) (g : Nat) (v : Value) (L : List α) : Prop :=
 ∃ cap cs us,v=.slice (some ⟨g,0,none⟩) L.length cap∧Bk w g (cs ++ us) t∧RowsOn z agg F w L cs∧(∀ c ∈ cs ++ us,okV c=true)∧(cs ++ us).length=cap*z
def Frz {α : Type} (t : TypeId) (z : Nat) (agg : Bool) (F : α→Fact) (w : World) (ids : List Nat) (g : Nat) (v : Value) (L : List α) : Prop := ListAt t z agg F w g v L∧g ∉ ids
theorem Wn (g i : Nat) : (⟨g,0,none⟩ : Addr).add i=⟨g,i,none⟩ := by
 unfold Addr.add
 by_cases h : i=0
 ·subst h
  rfl
 ·rw [if_neg h]
  simp
theorem Hv (g i j : Nat) : (⟨g,i,none⟩ : Addr).add j=⟨g,i+j,none⟩ := by rw [← Wn g i,DW,Wn]
theorem Ng {w w' : World} {p : Addr} (h : w'.heap[p.block]? = w.heap[p.block]?) : w'.cell? p=w.cell? p := by
 unfold World.cell?
 rw [h]
theorem KJ {γ : Nat→Nat} {pl : List Plan} {bx : List (Nat × TypeId × Fact)} {w w' : World} {g : Nat} (Z : BehN pl γ bx w w') (hg : g < w.heap.size) (h : g ∉ bx.map (·.1)) : g ∉ (ZT pl 0 bx ++ JQ γ pl 0 pl).map (·.1) := fun q => by
 rw [List.map_append] at q
 rcases List.mem_append.1 q with q | q
 ·rw [UY] at q
  exact h q
 ·obtain ⟨x,hx,rfl⟩ := List.mem_map.1 q
  have := Z.fresh x hx
  omega
section
variable {α : Type} {t : TypeId} {z : Nat} {agg : Bool} {F : α→Fact} {w w' : World} {B : Nat} {Gs : List Nat} {v : Value} {L : List α} {g : Nat}
theorem OwnL.at (h : OwnL t z agg F w B Gs v L) (hL : L ≠ []) : ∃ g,B≤g∧g ∉ Gs∧ListAt t z agg F w g v L := by
 rcases h with ⟨_,e⟩ | ⟨g,cap,cs,us,e,h1,h2,h3,h4,h5,h6⟩
 ·exact absurd e hL
 ·exact ⟨g,h1,h2,cap,cs,us,e,h3,h4,h5,h6⟩
theorem ListAt.lt (h : ListAt t z agg F w g v L) : g < w.heap.size := by
 obtain ⟨cap,cs,us,e,h3,_⟩ := h
 exact h3.lt
theorem ListAt.slice (h : ListAt t z agg F w g v L) : ∃ ao c,v=.slice ao L.length c := by
 obtain ⟨cap,cs,us,e,_⟩ := h
 exact ⟨_,_,e⟩
theorem ListAt.keep (h : ListAt t z agg F w g v L) (hg : Grows w w') (hs : w'.heap[g]? = w.heap[g]?) : ListAt t z agg F w' g v L := by
 obtain ⟨cap,cs,us,e,h3,h4,h5,h6⟩ := h
 exact ⟨cap,cs,us,e,hs.trans h3,h4.grows hg,h5,h6⟩
theorem OwnL.step {γ : Nat→Nat} {pl : List Plan} {bx : List (Nat × TypeId × Fact)} {ex : List Nat} (h : OwnL t z agg F w B (bx.map (·.1) ++ ex) v L) (Z : BehN pl γ bx w w') : OwnL t z agg F w' B ((ZT pl 0 bx ++ JQ γ pl 0 pl).map (·.1) ++ ex) v L := by
 rcases h with h | ⟨g,cap,cs,us,e,h1,h2,h3,h4,h5,h6⟩
 ·exact Or.inl h
 ·refine Or.inr ⟨g,cap,cs,us,e,h1,fun q => ?_,(Z.frm g h3.lt fun x hx e => h2 (e ▸ List.mem_append_left _ (List.mem_map_of_mem hx))).trans h3,h4.grows Z.gro,h5,h6⟩
  rcases List.mem_append.1 q with q | q
  ·exact KJ Z h3.lt (fun q => h2 (List.mem_append_left _ q)) q
  ·exact h2 (List.mem_append_right _ q)
theorem Frz.step {γ : Nat→Nat} {pl : List Plan} {bx : List (Nat × TypeId × Fact)} (h : Frz t z agg F w (bx.map (·.1)) g v L) (Z : BehN pl γ bx w w') : Frz t z agg F w' ((ZT pl 0 bx ++ JQ γ pl 0 pl).map (·.1)) g v L :=
 ⟨h.1.keep Z.gro (Z.frm g h.1.lt fun _ hx e => h.2 (e ▸ List.mem_map_of_mem hx)),KJ Z h.1.lt h.2⟩
end
theorem BehN.own {α : Type} {t : TypeId} {z : Nat} {agg : Bool} {F : α→Fact} {w w' : World} {B : Nat} {v : Value} {L : List α} {γ : Nat→Nat} {pl : List Plan} {bx : List (Nat × TypeId × Fact)} (Z : BehN pl γ bx w w') {ex : List Nat} (h : OwnL t z agg F w B (bx.map (·.1) ++ ex) v L) : OwnL t z agg F w' B ((ZT pl 0 bx ++ JQ γ pl 0 pl).map (·.1) ++ ex) v L := h.step Z
theorem BehN.frz {α : Type} {t : TypeId} {z : Nat} {agg : Bool} {F : α→Fact} {w w' : World} {g : Nat} {v : Value} {L : List α} {γ : Nat→Nat} {pl : List Plan} {bx : List (Nat × TypeId × Fact)} (Z : BehN pl γ bx w w') (h : Frz t z agg F w (bx.map (·.1)) g v L) : Frz t z agg F w' ((ZT pl 0 bx ++ JQ γ pl 0 pl).map (·.1)) g v L := h.step Z
theorem OwnL.less {α : Type} {t : TypeId} {z : Nat} {agg : Bool} {F : α→Fact} {w : World} {B : Nat} {Gs Gs' : List Nat} {v : Value} {L : List α} (h : OwnL t z agg F w B Gs v L) (hs : ∀ g ∈ Gs',g ∈ Gs) : OwnL t z agg F w B Gs' v L := by
 rcases h with h | ⟨g,cap,cs,us,e,h1,h2,h3⟩
 ·exact Or.inl h
 ·exact Or.inr ⟨g,cap,cs,us,e,h1,fun q => h2 (hs g q),h3⟩
def NX (p : Nat→Prop) (w0 w : World) (ids : List Nat) : Prop := ∀ g,p g→w.heap[g]? = w0.heap[g]? ∧ g < w.heap.size∧g ∉ ids
theorem BehN.outs {p : Nat→Prop} {w0 w w' : World} {γ : Nat→Nat} {pl : List Plan} {bx : List (Nat × TypeId × Fact)} (Z : BehN pl γ bx w w') (h : NX p w0 w (bx.map (·.1))) : NX p w0 w' ((ZT pl 0 bx ++ JQ γ pl 0 pl).map (·.1)) := fun g hg => by
 obtain ⟨h1,h2,h3⟩ := h g hg
 exact ⟨(Z.frm g h2 fun x hx e => h3 (e ▸ List.mem_map_of_mem hx)).trans h1,Nat.lt_of_lt_of_le h2 Z.gro.size,KJ Z h2 h3⟩
theorem OwnL.mono {α : Type} {t : TypeId} {z : Nat} {agg : Bool} {F : α→Fact} {w : World} {B B' : Nat} {Gs : List Nat} {v : Value} {L : List α} (h : OwnL t z agg F w B Gs v L) (hB : B'≤B) : OwnL t z agg F w B' Gs v L := by
 rcases h with h | ⟨g,cap,cs,us,e,h1,h2⟩
 ·exact Or.inl h
 ·exact Or.inr ⟨g,cap,cs,us,e,Nat.le_trans hB h1,h2⟩
theorem OwnL.low {α : Type} {t : TypeId} {z : Nat} {agg : Bool} {F : α→Fact} {w : World} {B : Nat} {Gs Gs' : List Nat} {v : Value} {L : List α} (h : OwnL t z agg F w B Gs v L) (hs : ∀ g ∈ Gs',g ∈ Gs ∨ g < B) : OwnL t z agg F w B Gs' v L := by
 rcases h with h | ⟨g,cap,cs,us,e,h1,h2,h3⟩
 ·exact Or.inl h
 ·refine Or.inr ⟨g,cap,cs,us,e,h1,fun q => ?_,h3⟩
  rcases hs g q with q | q
  ·exact h2 q
  ·omega
def Lf : Value→Nat
 | .slice _ n _ => n
 | _ => 0
theorem OwnL.len {α : Type} {t : TypeId} {z : Nat} {agg : Bool} {F : α→Fact} {w : World} {B : Nat} {Gs : List Nat} {v : Value} {L : List α} (h : OwnL t z agg F w B Gs v L) : Lf v=L.length := by
 obtain ⟨ao,c,rfl⟩ := h.slice
 rfl
def El (w : World) (ids : List Nat) (z : Nat) (agg : Bool) (F : Fact) : Fact := ⟨fun v _ => ∃ (p : Addr) (r : List Value),v=.pointer (some p)∧p.block < w.heap.size∧p.block ∉ ids∧r.length=z∧(∀ (j : Nat) u,r[j]? = some u→w.cell? (p.add j)=some u)∧F.on (elV agg r) w,fun _ h => h⟩
theorem Frz.elem {α : Type} {t : TypeId} {z : Nat} {agg : Bool} {F : α→Fact} {w : World} {ids : List Nat} {g : Nat} {v : Value} {L : List α} (h : Frz t z agg F w ids g v L) {k : Nat} {x : α} (hx : L[k]? = some x) : ∃ c,v=.slice (some ⟨g,0,none⟩) L.length c∧∀ w',(El w ids z agg (F x)).on (.pointer (some ⟨g,k*z,none⟩)) w' := by
 obtain ⟨⟨cap,cs,us,e,h3,h4,h5,h6⟩,hg⟩ := h
 obtain ⟨r,k1,k2,k3⟩ := h4.get hx
 refine ⟨cap,e,fun _ => ⟨_,r,rfl,h3.lt,hg,k1,fun j u hj => ?_,k2⟩⟩
 have := k3 j u hj
 rw [Hv,h3.cell]
 rw [List.getElem?_append_left (List.getElem?_eq_some_iff.1 this).1]
 exact this
section
variable {P : Program} {Q : Exit→Act→World→Prop} {w0 : World} {n : Nat} {tm : List (Nat × Fact)} {bx : List (Nat × TypeId × Fact)} {a0 : Act} {wr : World} {os : List Oper} {pl : List Plan}
theorem Rh {i m : Nat} {o : Oper} {x : Operand} {t e : TypeId} {v : Value} (hv : ∃ ao c,v=.slice ao m c) (ho : os[i]? = some o) (hp : pl[i]? = some (.pure (Jus (.int .i64 (m : Nat))))) (hw : JM w0 bx a0 wr os pl o true) (hop : o.op=.call { callee := .builtin .len,args := #[x],argTypes := #[t] })
  (hx : Opn w0 bx a0 wr os pl i o x (Jus v)) (hu : P.underlying t=some (.slice e)) : AStep P Q os a0 (RInv w0 bx a0 wr os pl) i o := Zg ho hp hw fun d τ w hr hd hn => by
 obtain ⟨ao,c,rfl⟩ := hv
 have ev : (Qi a0 τ 0 os).eval x=.slice ao m c := hx d τ w hr hd hn
 refine ⟨_,w,?_,Below.refl _ _,rfl⟩
 unfold execOp
 rw [hop]
 show (resolve (Qi a0 τ 0 os).eval _ o.type >>= fun d => invoke d.target d.args).run P w=_
 unfold resolve
 show (Builtin.len_ #[t] o.type (#[x].map (Qi a0 τ 0 os).eval) >>= fun v => pure (Next.value v) : Sem Next).run P w=_
 have e4 : (Builtin.len_ #[t] o.type (#[x].map (Qi a0 τ 0 os).eval)).run P w=.ok (.int .i64 (m : Nat)) w := by
  unfold Builtin.len_
  simp only [List.map_toArray,List.map_cons,List.map_nil,ev]
  show (Go.underlying t >>= _ : Sem Value).run _ _=_
  rw [Sem.run_bind,Qr hu]
  rfl
 rw [Sem.run_bind,e4]
 rfl
theorem PD {i : Nat} {o : Oper} {x : Operand} {t : TypeId} {s : ByteArray} (ho : os[i]? = some o) (hp : pl[i]? = some (.pure (Jus (.int .i64 (s.size : Nat))))) (hw : JM w0 bx a0 wr os pl o true) (hop : o.op=.call { callee := .builtin .len,args := #[x],argTypes := #[t] })
  (hx : Opn w0 bx a0 wr os pl i o x (Jus (.string s))) (hu : P.underlying t=some .string) : AStep P Q os a0 (RInv w0 bx a0 wr os pl) i o := Zg ho hp hw fun d τ w hr hd hn => by
 have ev : (Qi a0 τ 0 os).eval x=.string s := hx d τ w hr hd hn
 refine ⟨_,w,?_,Below.refl _ _,rfl⟩
 unfold execOp
 rw [hop]
 show (resolve (Qi a0 τ 0 os).eval _ o.type >>= fun d => invoke d.target d.args).run P w=_
 unfold resolve
 show (Builtin.len_ #[t] o.type (#[x].map (Qi a0 τ 0 os).eval) >>= fun v => pure (Next.value v) : Sem Next).run P w=_
 have e4 : (Builtin.len_ #[t] o.type (#[x].map (Qi a0 τ 0 os).eval)).run P w=.ok (.int .i64 (s.size : Nat)) w := by
  unfold Builtin.len_
  simp only [List.map_toArray,List.map_cons,List.map_nil,ev]
  show (Go.underlying t >>= _ : Sem Value).run _ _=_
  rw [Sem.run_bind,Qr hu]
  rfl
 rw [Sem.run_bind,e4]
 rfl
theorem PG {α : Type} {t1 : TypeId} {z : Nat} {agg : Bool} {F : α→Fact} {g : Nat} {v : Value} {L : List α} {i : Nat} {o : Oper} {x y : Operand} {t : TypeId} (k : Nat) {u : α} (hL : Frz t1 z agg F wr (bx.map (·.1)) g v L) (hk : L[k]? = some u) (ho : os[i]? = some o) (hp : pl[i]? = some (.pure (El wr (bx.map (·.1)) z agg (F u)))) (hw : JM w0 bx a0 wr os pl o true) (hop : o.op=.indexAddr t x y)
  (hx : Opn w0 bx a0 wr os pl i o x (Jus v)) (hy : Opn w0 bx a0 wr os pl i o y (Jus (.int .i64 k))) (hr0 : ∀ (a : Addr) (n c : Nat) (w : World),k < n→(Instr.indexAt t (.slice (some a) n c) (.int .i64 k)).run P w=.ok (.pointer (some (a.add (k*z)))) w) : AStep P Q os a0 (RInv w0 bx a0 wr os pl) i o := Zg ho hp hw fun d τ w hr hd hn => by
 obtain ⟨c,ev,hE⟩ := hL.elem hk
 have hx' : (Qi a0 τ 0 os).eval x=v := hx d τ w hr hd hn
 have hy' : (Qi a0 τ 0 os).eval y=.int .i64 k := hy d τ w hr hd hn
 refine ⟨.pointer (some ⟨g,k*z,none⟩),w,?_,Below.refl _ _,hE w⟩
 unfold execOp
 rw [hop]
 show (do pure (Next.value (← Instr.indexAt t ((Qi a0 τ 0 os).eval x) ((Qi a0 τ 0 os).eval y))) : Sem Next).run P w=_
 rw [hx',hy',ev]
 have h := hr0 ⟨g,0,none⟩ L.length c w (List.getElem?_eq_some_iff.1 hk).1
 rw [Wn] at h
 revert h
 generalize Instr.indexAt t (.slice (some ⟨g,0,none⟩) L.length c) (.int .i64 k)=s
 intro h
 simp [go_sem,h]
theorem Rm {z : Nat} {agg : Bool} {F : Fact} {i : Nat} {o : Oper} {x : Operand} {t : TypeId} (ho : os[i]? = some o) (hp : pl[i]? = some (.pure F)) (hw : JM w0 bx a0 wr os pl o true) (hop : o.op=.load t x)
  (hx : Opn w0 bx a0 wr os pl i o x (El wr (bx.map (·.1)) z agg F)) (hr0 : ∀ (a : Addr) (r : List Value) (w : World),r.length=z→(∀ (j : Nat) u,r[j]? = some u→w.cell? (a.add j)=some u)→(Instr.loadAt t (.pointer (some a))).run P w=.ok (elV agg r) w) : AStep P Q os a0 (RInv w0 bx a0 wr os pl) i o := Zg ho hp hw fun d τ w hr hd hn => by
 obtain ⟨p,r,ev,h1,h2,h3,h4,h5⟩ := hx d τ w hr hd hn
 have hsame : w.heap[p.block]? = wr.heap[p.block]? := hr.frm p.block h1 fun x hx e => h2 (e ▸ List.mem_map_of_mem hx)
 refine ⟨_,w,?_,Below.refl _ _,F.st hr.gro h5⟩
 unfold execOp
 rw [hop]
 show (do pure (Next.value (← Instr.loadAt t ((Qi a0 τ 0 os).eval x))) : Sem Next).run P w=_
 rw [ev]
 have h := hr0 p r w h3 fun j u hj => by
  exact (Ng (p := p.add j) (by rw [Cx.add_block]; exact hsame)).trans (h4 j u hj)
 revert h
 generalize Instr.loadAt t (.pointer (some p))=s
 intro h
 simp [go_sem,h]
end
def CellsE (z : Nat) (agg : Bool) (F : Fact) : Prop := (∀ v w,F.on v w→∃ r : List Value,v=elV agg r∧r.length=z∧∀ c ∈ r,Qm c=true∧c.oneCell'=true)∧∀ r : List Value,r.length=z→agg=false→∃ c,r=[c]
theorem CellsE.of {z : Nat} {F : Fact} (h : Ut z F) : CellsE z true F := ⟨fun v w hv => by
 obtain ⟨r,h1,h2,h3⟩ := h v w hv
 exact ⟨r,h1,h2,h3⟩,fun _ _ e => by cases e⟩
theorem CellsE.one {F : Fact} (h : ∀ v w,F.on v w→Qm v=true∧v.oneCell'=true) : CellsE 1 false F := ⟨fun v w hv => ⟨[v],rfl,rfl,fun c hc => by rw [List.mem_singleton.1 hc]; exact h v w hv⟩,fun r hr _ => by
 match r,hr with
 | [c],_ => exact ⟨c,rfl⟩⟩
theorem Nc {v : Value} (h : v.oneCell'=true) : v.cells=#[v] := by
 cases v <;> first | rfl | cases h
theorem GZ {agg : Bool} {r : List Value} (h : agg=false→∃ c,r=[c]) (hok : ∀ c ∈ r,c.oneCell'=true) : (elV agg r).cells=r.toArray := by
 cases agg with
 | true => rfl
 | false =>
  obtain ⟨c,rfl⟩ := h rfl
  exact Nc (hok c (List.mem_singleton.2 rfl))
theorem bs_one {P : Program} {w : World} {T e : TypeId} {z : Nat} (hu : P.underlying T=some (.slice e)) {ie : TypeInfo} {zero : Value} (hi : P.info? e=some ie) (hz0 : ie.zero=some zero) (hz2 : ie.size=z) (hz3 : 0 < z) (hz5 : z≤16777216) {v : Value} {r : List Value} (hv : v.cells=r.toArray) (hr : r.length=z) :
  (Instr.buildSlice T 1 #[(0,v)]).run P w=.ok (.slice (some ⟨w.heap.size,0,none⟩) 1 1) (w.alloc (.cells r.toArray e)) := by
 refine run_buildSlice w T e 1 _ r.toArray ie zero hu hi hz0 (by omega) (by omega) ?_
 have := TX (n := ie.size) [(0,v)] [r] 0 [] ((Array.range (1*ie.size)).map (zero.cells[· % zero.cells.size]!)).toList rfl ⟨⟨hv,by rw [hr,hz2]⟩,trivial⟩ (by simp) (by simp)
 rw [List.nil_append,List.nil_append,Array.toArray_toList] at this
 simpa using this
theorem LH {P : Program} {t : TypeId} {z : Nat} (h1 : Oo P t=some true) (h2 : Zh P t=some z) (a : Addr) (r : List Value) (w : World) (hl : r.length=z) (hc : ∀ (j : Nat) u,r[j]? = some u→w.cell? (a.add j)=some u) : (Instr.loadAt t (.pointer (some a))).run P w=.ok (elV true r) w := by
 have e0 : Instr.loadAt t (.pointer (some a))=loadVar t a := rfl
 rw [e0]
 unfold loadVar
 rw [Sem.run_bind,Vy h1]
 show ((if true=true then (do let n ← Go.sizeOf t; let c ← loadCells a n; pure (Value.agg c)) else load a : Sem Value)).run P w=_
 rw [if_pos rfl,Sem.run_bind,QW h2]
 show (do let c ← loadCells a z; pure (Value.agg c) : Sem Value).run P w=_
 rw [Sem.run_bind]
 have := run_loadCells_list (P := P) (w := w) a r hc
 rw [hl] at this
 rw [this]
 rfl
theorem LK {P : Program} {t : TypeId} (h1 : Oo P t=some false) (a : Addr) (r : List Value) (w : World) (hl : r.length=1) (hc : ∀ (j : Nat) u,r[j]? = some u→w.cell? (a.add j)=some u) : (Instr.loadAt t (.pointer (some a))).run P w=.ok (elV false r) w := by
 match r,hl with
 | [c],_ =>
  have h0 := hc 0 c rfl
  rw [show a.add 0=a from rfl] at h0
  have e0 : Instr.loadAt t (.pointer (some a))=loadVar t a := rfl
  rw [e0]
  unfold loadVar
  rw [Sem.run_bind,Vy h1]
  show ((if false=true then (do let n ← Go.sizeOf t; let c ← loadCells a n; pure (Value.agg c)) else load a : Sem Value)).run P w=_
  rw [if_neg (by decide)]
  show (load a).run P w=.ok c w
  simp [go_sem,h0]
structure App (Gs : List Nat) (w w' : World) : Prop where
 gro : Grows w w'
 frm : ∀ g,g < w.heap.size→g ∈ Gs→w'.heap[g]? = w.heap[g]?
theorem Frz.app {α : Type} {t : TypeId} {z : Nat} {agg : Bool} {F : α→Fact} {w w' : World} {ids : List Nat} {g : Nat} {v : Value} {L : List α} {Gs : List Nat} (h : Frz t z agg F w ids g v L) (H : App Gs w w') (hg : g ∈ Gs) : Frz t z agg F w' ids g v L := ⟨h.1.keep H.gro (H.frm g h.1.lt hg),h.2⟩
theorem SR {ops : Array Oper} {Q : Exit→Act→World→Prop} {rest : List Oper} {o1 o2 : Oper} {w0 : World} {n : Nat} {tm : List (Nat × Fact)} {bx : List (Nat × TypeId × Fact)} {ex : List Nat} {a : Act} {w : World} {T t : TypeId} {t1 t2 : Tmp} {s x : Operand}
  {α : Type} {z : Nat} {agg : Bool} {F : α→Fact} {v : Value} {L : List α} {u : α}
  (S : AS w0 n tm bx a w) (O : OwnL t z agg F w w0.heap.size (bx.map (·.1) ++ ex) v L) (hex : ∀ g ∈ ex,g < w.heap.size) (hg1 : o1.guard=none) (hg2 : o2.guard=none) (hop1 : o1.op=.buildSlice T 1 #[(0,x)]) (hd1 : o1.dst=some t1) (hop2 : o2.op=.call { callee := .builtin .append,args := #[s,.tmp t1],argTypes := #[T,T] }) (hd2 : o2.dst=some t2)
  (hb1 : Nat.blt t1 n=true) (hb2 : Nat.blt t2 n=true) (hs : a.eval s=v) (hs1 : ∀ q,(a.put (some t1) q).eval s=a.eval s) (hx : (F u).on (a.eval x) w) (hc : CellsE z agg (F u))
  (hu : Tryz.prog.underlying T=some (.slice t)) {i : TypeInfo} {zero : Value} (hi : Tryz.prog.info? t=some i) (hz0 : i.zero=some zero) (hz1 : zero.cells.size=z) (hz2 : i.size=z) (hz3 : 0 < z) (hz4 : 4000000*i.bytes≤140737488355328) (hzo : ∀ u ∈ zero.cells.toList,okV u=true) (hbT : PK t=true) (hn : L.length < 3000000)
  (hz5 : z≤16777216)
  (K : ∀ a' v' w',AS w0 n ((t2,Jus v') :: tm.filter fun x => !Nat.beq x.1 t1 && !Nat.beq x.1 t2) bx a' w'→OwnL t z agg F w' w0.heap.size (bx.map (·.1) ++ ex) v' (L ++ [u])→App (bx.map (·.1) ++ ex) w w'→wpList Tryz.prog ops Q rest a' w') : wpList Tryz.prog ops Q (o1 :: o2 :: rest) a w := by
 obtain ⟨r,er,hr,hok⟩ := hc.1 _ _ hx
 have hcz := hc.2
 have hbn := Qh w (.cells r.toArray t)
 have e1 : (execOp a.eval o1).run Tryz.prog w=.ok (.value (.slice (some ⟨w.heap.size,0,none⟩) 1 1)) (w.alloc (.cells r.toArray t)) := by
  unfold execOp
  rw [hop1]
  show (do pure (Next.value (← Instr.buildSlice T 1 ((#[(0,x)] : Array (Nat × Operand)).map fun (i,x) => (i,a.eval x)))) : Sem Next).run Tryz.prog w=_
  have h := bs_one (P := Tryz.prog) (w := w) hu hi hz0 hz2 hz3 hz5 (v := a.eval x) (r := r) (by rw [er]; exact GZ (hcz r hr) fun c hc => (hok c hc).2) hr
  rw [show ((#[(0,x)] : Array (Nat × Operand)).map fun (i,x) => (i,a.eval x))=#[(0,a.eval x)] by simp]
  revert h
  generalize Instr.buildSlice T 1 #[(0,a.eval x)]=s
  intro h
  simp [go_sem,h]
 refine wpList_plain hg1 fun K1 hK1 => ?_
 unfold Oper.wp
 rw [e1]
 refine hK1 _ _ ?_
 rw [hd1]
 have O1 := O.below hbn
 have hsz : w.heap.size < (w.alloc (.cells r.toArray t)).heap.size := by simp
 have hcell : ∀ (j : Nat) u,r[j]? = some u→(w.alloc (.cells r.toArray t)).cell? ((⟨w.heap.size,0,none⟩ : Addr).add j)=some u := fun j u hj => by
  have hk : Blk (w.alloc (.cells r.toArray t)) w.heap.size r.toArray t := Blk.new _ _ _
  have := hk.cell j
  rw [Wn,this]
  simpa using hj
 obtain ⟨v',w',hrun,O2,hgr,hbl,hfr⟩ := OwnL.app (ty := o2.type) (cy := 1) hu hi hz0 hz1 hz2 hz3 hz4 hzo hbT RE O1 (Nat.le_trans S.bel.size hbn.size) (fun g hg => by
  rcases List.mem_append.1 hg with hg | hg
  ·obtain ⟨⟨G,T',F'⟩,hx,rfl⟩ := List.mem_map.1 hg
   obtain ⟨k,hk⟩ := List.getElem?_of_mem hx
   have := (S.box k G T' F' hk).2.lt
   exact Nat.lt_of_lt_of_le this hbn.size
  ·exact Nat.lt_of_lt_of_le (hex g hg) hbn.size) (x := u) (r := r) hr (by rw [← er]; exact (F u).st (Grows.of hbn) hx) (fun c hc => Ma (hok c hc)) hcell hn
 refine wpList_plain hg2 fun K2 hK2 => ?_
 have e2 : (execOp (a.put (some t1) (.slice (some ⟨w.heap.size,0,none⟩) 1 1)).eval o2).run Tryz.prog (w.alloc (.cells r.toArray t))=.ok (.value v') w' := by
  have ea : (a.put (some t1) (.slice (some ⟨w.heap.size,0,none⟩) 1 1)).eval (.tmp t1)=.slice (some ⟨w.heap.size,0,none⟩) 1 1 := UA a _ (by rw [S.siz]; simpa using hb1)
  have eb := hs1 (.slice (some ⟨w.heap.size,0,none⟩) 1 1)
  unfold execOp
  simp only [hop2,resolve,invoke,builtin,Sem.run_bind,Sem.run_pure,Result.andThen_ok,List.map_toArray,List.map_cons,List.map_nil,ea,eb,hs,hrun]
 unfold Oper.wp
 rw [e2]
 refine hK2 _ _ ?_
 rw [hd2]
 have hg2' : Grows w w' := (Grows.of hbn).trans hgr
 have hap : App (bx.map (·.1) ++ ex) w w' := ⟨hg2',fun g hg hm => (hfr g (Nat.lt_of_lt_of_le hg hbn.size) hm).trans (hbn.block g hg)⟩
 refine K _ v' w' ?_ O2 hap
 refine ⟨S.bel.trans ((hbn.mono S.bel.size).trans hbl),?_,S.nod,fun q G hm => ?_,fun k G t' Fs hk => ?_,S.dis⟩
 ·show ((a.tmps.setIfInBounds t1 _).setIfInBounds t2 v').size=n
  rw [Array.size_setIfInBounds,Array.size_setIfInBounds]
  exact S.siz
 ·rcases List.mem_cons.1 hm with e | hm
  ·cases e
   rw [UA _ v' (by show t2 < (a.tmps.setIfInBounds t1 _).size; rw [Array.size_setIfInBounds,S.siz]; simpa using hb2)]
   rfl
  ·obtain ⟨hm,hq⟩ := List.mem_filter.1 hm
   simp only [Bool.and_eq_true,Bool.not_eq_true'] at hq
   have n1 : q ≠ t1 := fun e => by rw [e,Nat.beq_refl] at hq; cases hq.1
   have n2 : q ≠ t2 := fun e => by rw [e,Nat.beq_refl] at hq; cases hq.2
   rw [XV _ v' (fun e => n2 (Option.some.inj e).symm),XV _ _ (fun e => n1 (Option.some.inj e).symm)]
   exact G.st hg2' (S.tmp q G hm)
 ·obtain ⟨h1,h2⟩ := S.box k G t' Fs hk
  exact ⟨h1,h2.same hg2' (hap.frm G h2.lt (List.mem_append_left _ (List.mem_map_of_mem (f := (·.1)) (List.mem_of_getElem? hk))))⟩
theorem NP {P : Program} {t : TypeId} {z g i : Nat} {w w' : World} {v : Value} {r : List Value} (hz : Zh P t=some z) (hc : v.cells=r.toArray) (hr : r.length=z) (hs : (storeCells ⟨g,i,none⟩ r).run P w=.ok () w') : (Instr.storeAt t (.pointer (some ⟨g,i,none⟩)) v).run P w=.ok () w' := by
 have e0 : Instr.storeAt t (.pointer (some ⟨g,i,none⟩)) v=storeVar t ⟨g,i,none⟩ v := rfl
 rw [e0]
 unfold storeVar
 rw [Sem.run_bind,QW hz]
 show (if v.cells.size ≠ z then ((stuck "storeVar: the value has not the size of the variable" : Sem Unit) >>= fun _ => storeCells ⟨g, i, none⟩ v.cells.toList) else storeCells ⟨g, i, none⟩ v.cells.toList : Sem Unit).run P w = _
 rw [if_neg (by rw [hc]; simpa using hr),hc]
 exact hs
theorem Cb {α : Type} {z : Nat} {agg : Bool} {F : α→Fact} {w : World} {x0 : α} {r0 : List Value} (hr : r0.length=z) (hF : (F x0).on (elV agg r0) w) : ∀ n : Nat,RowsOn z agg F w (List.replicate n x0) (List.replicate n r0).flatten
 | 0 => rfl
 | n+1 => ⟨r0,(List.replicate n r0).flatten,by rw [List.replicate_succ,List.flatten_cons],hr,hF,Cb hr hF n⟩
theorem AS.pick {w0 : World} {n : Nat} {tm : List (Nat × Fact)} {bx : List (Nat × TypeId × Fact)} {a : Act} {w : World} (is : List Nat) (h : AS w0 n tm bx a w) : AS w0 n (is.filterMap fun i => tm[i]?) bx a w := h.sub fun x hx => by
 obtain ⟨i,_,hi⟩ := List.mem_filterMap.1 hx
 exact List.mem_of_getElem? hi
theorem AS.app {w0 : World} {n : Nat} {tm : List (Nat × Fact)} {bx : List (Nat × TypeId × Fact)} {ex : List Nat} {a : Act} {w w' : World} {t1 : Tmp} {v : Value} {G : Fact} (S : AS w0 n tm bx a w) (H : App (bx.map (·.1) ++ ex) w w') (hb : Below w0.heap.size w w') (h1 : Nat.blt t1 n=true) (hv : G.on v w') : AS w0 n ((t1,G) :: tm.filter fun x => !Nat.beq x.1 t1) bx (a.put (some t1) v) w' := by
 refine ⟨S.bel.trans hb,?_,S.nod,fun q G' hm => ?_,fun k G' t' Fs hk => ?_,S.dis⟩
 ·show (a.tmps.setIfInBounds t1 _).size=n
  rw [Array.size_setIfInBounds]
  exact S.siz
 ·rcases List.mem_cons.1 hm with e | hm
  ·cases e
   rw [UA _ v (by rw [S.siz]; simpa using h1)]
   exact hv
  ·obtain ⟨hm,hq⟩ := List.mem_filter.1 hm
   have n1 : q ≠ t1 := fun e => by rw [e,Nat.beq_refl] at hq; cases hq
   rw [XV _ _ (fun e => n1 (Option.some.inj e).symm)]
   exact G'.st H.gro (S.tmp q G' hm)
 ·obtain ⟨h1,h2⟩ := S.box k G' t' Fs hk
  exact ⟨h1,h2.same H.gro (H.frm G' h2.lt (List.mem_append_left _ (List.mem_map_of_mem (f := (·.1)) (List.mem_of_getElem? hk))))⟩
theorem SE {ops : Array Oper} {Q : Exit→Act→World→Prop} {rest : List Oper} {o : Oper} {w0 : World} {n : Nat} {tm : List (Nat × Fact)} {bx : List (Nat × TypeId × Fact)} {ex : List Nat} {a : Act} {w : World} {T t : TypeId} {t1 : Tmp} {l c : Operand}
  {α : Type} {z : Nat} {agg : Bool} {F : α→Fact} {m : Nat} (x0 : α)
  (S : AS w0 n tm bx a w) (hex : ∀ g ∈ ex,g < w.heap.size) (hg : o.guard=none) (hop : o.op=.makeSlice T l c) (hd : o.dst=some t1) (hb1 : Nat.blt t1 n=true) (hl : a.eval l=.int .i64 m) (hc : a.eval c=.int .i64 m)
  (hu : Tryz.prog.underlying T=some (.slice t)) {i : TypeInfo} {zero : Value} (hi : Tryz.prog.info? t=some i) (hz0 : i.zero=some zero) (hz1 : zero.cells.size=z) (hz2 : i.size=z) (hz3 : 0 < z) (hz4 : 4000000*i.bytes≤140737488355328) (hzo : ∀ u ∈ zero.cells.toList,okV u=true) (hF : ∀ w,(F x0).on (elV agg zero.cells.toList) w) (hm : m < 3000000)
  (K : ∀ a' v' w',AS w0 n ((t1,Jus v') :: tm.filter fun x => !Nat.beq x.1 t1) bx a' w'→OwnL t z agg F w' w0.heap.size (bx.map (·.1) ++ ex) v' (List.replicate m x0)→App (bx.map (·.1) ++ ex) w w'→wpList Tryz.prog ops Q rest a' w') : wpList Tryz.prog ops Q (o :: rest) a w := by
 subst hz2
 have hbytes : (i.bytes : Int)*(m : Int)≤281474976710656 := by
  have h1 : i.bytes*m≤i.bytes*4000000 := Nat.mul_le_mul_left _ (by omega)
  have h2 : ((i.bytes*m : Nat) : Int)≤281474976710656 := by omega
  rwa [Int.natCast_mul] at h2
 have hrun := run_make (P := Tryz.prog) w T t i zero hu hi hz0 .i64 .i64 m m (by omega) (Int.le_refl _) hbytes (by omega)
 rw [Int.toNat_natCast] at hrun
 have hcells : madeCells zero.cells (m*i.size)=(List.replicate m zero.cells.toList).flatten.toArray := by
  apply Array.ext'
  unfold madeCells
  have := CV (zs := zero.cells.toList) (z := i.size) (by rw [Array.length_toList]; exact hz1) hz3 m
  simpa using this
 rw [hcells] at hrun
 have hbn := Qh w (.cells (List.replicate m zero.cells.toList).flatten.toArray t)
 refine wpList_plain hg fun K1 hK1 => ?_
 have e : (execOp a.eval o).run Tryz.prog w=.ok (.value (.slice (some ⟨w.heap.size,0,none⟩) m m)) (w.alloc (.cells (List.replicate m zero.cells.toList).flatten.toArray t)) := by
  unfold execOp
  rw [hop]
  refine Zs ?_
  rw [hl,hc]
  exact hrun
 unfold Oper.wp
 rw [e]
 refine hK1 _ _ ?_
 rw [hd]
 have hap : App (bx.map (·.1) ++ ex) w (w.alloc (.cells (List.replicate m zero.cells.toList).flatten.toArray t)) := ⟨Grows.of hbn,fun g hg _ => hbn.block g hg⟩
 have hlz : zero.cells.toList.length=i.size := by simpa using hz1
 refine K _ _ _ (S.app hap (hbn.mono S.bel.size) hb1 rfl) (Or.inr ⟨w.heap.size,m,(List.replicate m zero.cells.toList).flatten,[],by rw [List.length_replicate],S.bel.size,fun q => ?_,by rw [List.append_nil]; exact Blk.new _ _ _,Cb hlz (hF _) m,fun q hq => ?_,?_⟩) hap
 ·rcases List.mem_append.1 q with q | q
  ·obtain ⟨⟨G,T',F'⟩,hx,e⟩ := List.mem_map.1 q
   obtain ⟨k,hk⟩ := List.getElem?_of_mem hx
   have := (S.box k G T' F' hk).2.lt
   dsimp only at e
   omega
  ·exact Nat.lt_irrefl _ (hex _ q)
 ·rw [List.append_nil] at hq
  obtain ⟨r,hr,hq⟩ := List.mem_flatten.1 hq
  rw [(List.mem_replicate.1 hr).2] at hq
  exact hzo q hq
 ·rw [List.append_nil,List.length_flatten,List.map_replicate,List.sum_replicate_nat,hlz]
theorem Cj {ops : Array Oper} {Q : Exit→Act→World→Prop} {rest : List Oper} {o1 o2 : Oper} {w0 : World} {n : Nat} {tm : List (Nat × Fact)} {bx : List (Nat × TypeId × Fact)} {ex : List Nat} {a : Act} {w : World} {T t : TypeId} {t1 : Tmp} {s y x : Operand}
  {α : Type} {z : Nat} {agg : Bool} {F : α→Fact} {v : Value} {L : List α} {u : α} {k : Nat}
  (S : AS w0 n tm bx a w) (O : OwnL t z agg F w w0.heap.size (bx.map (·.1) ++ ex) v L) (hk : k < L.length) (hg1 : o1.guard=none) (hg2 : o2.guard=none) (hop1 : o1.op=.indexAddr T s y) (hd1 : o1.dst=some t1) (hop2 : o2.op=.store t (.tmp t1) x) (hd2 : o2.dst=none)
  (hb1 : Nat.blt t1 n=true) (hs : a.eval s=v) (hy : a.eval y=.int .i64 k) (hs1 : ∀ q,(a.put (some t1) q).eval x=a.eval x) (hx : (F u).on (a.eval x) w) (hc : CellsE z agg (F u))
  (hr0 : ∀ (a : Addr) (n c : Nat) (w : World),k < n→(Instr.indexAt T (.slice (some a) n c) (.int .i64 k)).run Tryz.prog w=.ok (.pointer (some (a.add (k*z)))) w) (hz : Zh Tryz.prog t=some z) (hbT : PK t=true)
  (K : ∀ a' w',AS w0 n (tm.filter fun x => !Nat.beq x.1 t1) bx a' w'→OwnL t z agg F w' w0.heap.size (bx.map (·.1) ++ ex) v (L.set k u)→App (bx.map (·.1) ++ ex) w w'→wpList Tryz.prog ops Q rest a' w') : wpList Tryz.prog ops Q (o1 :: o2 :: rest) a w := by
 obtain ⟨g,hB,hgG,cap,cs,us,ev,h3,h4,h5,h6⟩ := O.at (fun e => by rw [e] at hk; cases hk)
 obtain ⟨r,er,hr,hok⟩ := hc.1 _ _ hx
 have hlen := h4.len
 have e1 : (execOp a.eval o1).run Tryz.prog w=.ok (.value (.pointer (some ⟨g,k*z,none⟩))) w := by
  unfold execOp
  rw [hop1]
  refine Zs ?_
  rw [hs,hy,ev]
  have := hr0 ⟨g,0,none⟩ L.length cap w hk
  rw [Wn] at this
  exact this
 refine wpList_plain hg1 fun K1 hK1 => ?_
 unfold Oper.wp
 rw [e1]
 refine hK1 _ _ ?_
 rw [hd1]
 have hkz : k*z+z≤L.length*z := by
  calc k*z+z=(k+1)*z := by rw [Nat.add_mul,Nat.one_mul]
   _≤L.length*z := Nat.mul_le_mul_right _ hk
 obtain ⟨w',hst,hbk,hsv⟩ := ZN (P := Tryz.prog) (o := k*z) r 0 w (cs ++ us) h3 (fun c hc => Ma (hok c hc)) (by rw [List.length_append,hlen,hr]; omega)
 refine wpList_plain hg2 fun K2 hK2 => ?_
 have e2 : (execOp (a.put (some t1) (.pointer (some ⟨g,k*z,none⟩))).eval o2).run Tryz.prog w=.ok .skip w' := by
  have ea : (a.put (some t1) (.pointer (some ⟨g,k*z,none⟩))).eval (.tmp t1)=.pointer (some ⟨g,k*z,none⟩) := UA a _ (by rw [S.siz]; simpa using hb1)
  have eb := hs1 (.pointer (some ⟨g,k*z,none⟩))
  have ec : (a.eval x).cells=r.toArray := by rw [er]; exact GZ (hc.2 r hr) fun c hc => (hok c hc).2
  unfold execOp
  rw [hop2]
  refine Sf ?_
  rw [ea,eb]
  exact NP hz ec hr hst
 unfold Oper.wp
 rw [e2]
 refine hK2 _ _ ?_
 rw [hd2]
 rw [Nat.add_zero,List.take_append_of_le_length (by rw [hlen]; omega),List.drop_append_of_le_length (by rw [hlen,hr]; omega),← List.append_assoc,← List.append_assoc,List.append_assoc (cs.take (k*z)),hr] at hbk
 have hall : ∀ q ∈ (cs.take (k*z) ++ (r ++ cs.drop (k*z+z))) ++ us,okV q=true := fun q hq => by
  rcases List.mem_append.1 hq with hq | hq
  ·rcases List.mem_append.1 hq with hq | hq
   ·exact h5 q (List.mem_append_left _ (List.mem_of_mem_take hq))
   ·rcases List.mem_append.1 hq with hq | hq
    ·exact Ma (hok q hq)
    ·exact h5 q (List.mem_append_left _ (List.mem_of_mem_drop hq))
  ·exact h5 q (List.mem_append_right _ hq)
 have hll : ((cs.take (k*z) ++ (r ++ cs.drop (k*z+z))) ++ us).length=cap*z := by
  rw [← h6]
  simp only [List.length_append,List.length_take,List.length_drop,hr]
  omega
 have hbx : Boxed w g := ⟨_,_,h3,hbT,by rw [List.all_toArray]; exact List.all_eq_true.2 fun q hq => RE q (h5 q hq)⟩
 have hgr : Grows w w' := ⟨by rw [hsv.size]; exact Nat.le_refl _,fun k _ hn' => hsv.block k fun e => hn' (e ▸ hbx)⟩
 have hap : App (bx.map (·.1) ++ ex) w w' := ⟨hgr,fun k _ hk' => hsv.block k fun e => hgG (e ▸ hk')⟩
 have hbl : Below w0.heap.size w w' := ⟨hsv.os,hsv.tape,hsv.output,by rw [hsv.size]; exact Nat.le_refl _,fun k hk' => hsv.block k (by omega)⟩
 refine K _ w' ((S.app hap hbl hb1 (G := Any) trivial).sub fun q hq => List.mem_cons_of_mem _ hq) (Or.inr ⟨g,cap,_,us,by rw [List.length_set]; exact ev,hB,hgG,hbk,(h4.grows hgr).set hk hr ((F u).st hgr (er ▸ hx)),hall,hll⟩) hap
end Go.Proofs.YtnhplfjlhdpgoaaGreatDoor
/- GWK -/
namespace Go.Proofs.YtnhplfjlhdpgoaaGreatDoor
open Go.RowKit Cx
end Go.Proofs.YtnhplfjlhdpgoaaGreatDoor
/- GST -/
namespace Go.Proofs.YtnhplfjlhdpgoaaGreatDoor
open Go.RowKit Cx
theorem WS (vs : Array Value) (w : World) : (callFunc 57 vs).run Tryz.prog w=.ok (.enter 57 vs) w := QY Tryz.func57 (by kernel_rfl) (by kernel_rfl) vs w
theorem GD (vs : Array Value) (w : World) : (callFunc 71 vs).run Tryz.prog w=.ok (.enter 71 vs) w := QY Tryz.func71 (by kernel_rfl) (by kernel_rfl) vs w
theorem TZ (vs : Array Value) (w : World) : (callFunc 24 vs).run Tryz.prog w=.ok (.enter 24 vs) w := QY Tryz.func24 (by kernel_rfl) (by kernel_rfl) vs w
theorem IX (vs : Array Value) (w : World) : (callFunc 58 vs).run Tryz.prog w=.ok (.enter 58 vs) w := QY Tryz.func58 (by kernel_rfl) (by kernel_rfl) vs w
theorem Pq {u l : Int} (hu1 : -9223372036854775808 < u) (hu2 : u < 9223372036854775808) (hl1 : -9223372036854775808 < l) (hl2 : l < 9223372036854775808) : Con Tryz.prog QZ 57 [In u,In l] (Wv ((l : Int) : Rat) ((u : Int) : Rat)) := by
 refine Uv (n := 10) Tryz.func57 rfl rfl (Nat.le_of_ble_eq_true rfl) ?_
 intro w a0 hp S0
 have HPRE : ∀ w',Below w.heap.size w w'→QZ w' := fun w' hb => Jb hp hb
 refine wp_seq ?_
 refine Qn [.alloc 61 (Any)] ⟨S0,by decide +kernel⟩ (by kernel_rfl) (by kernel_rfl) rfl (by kernel_rfl) ?_ ?_
 ·intro C
  refine ASteps.cons ?_ (ASteps.nil)
  ·exact Zo [.bool false,.slice none 0 0,.slice none 0 0,.bool false,.slice none 0 0,.slice none 0 0] UX rfl rfl (Qa rfl) rfl (Ze (by kernel_rfl)) Yd (by simp [Qm]) (by kernel_rfl)
 intro γ a1 w1 Z1 S1
 replace S1 : AS w 10 [(4,Jus (.pointer (some ⟨γ 0,0,none⟩))),(0,In (u)),(1,In (l))] [(γ 0,61,Any)] a1 w1 := cast (by kernel_rfl) (S1.keep [0,1,4])
 generalize γ 0=G1_0 at S1
 clear S0
 refine Qe ?_
 refine wp_seq ?_
 refine Qn [.pure (In (l)),.pure (Qv (((l : Int) : Rat))),.pure (In (u)),.pure (Qv (((u : Int) : Rat))),.pure (Wv (((l : Int) : Rat)) (((u : Int) : Rat))),.over 0 (Wv (((l : Int) : Rat)) (((u : Int) : Rat)))] ⟨S1,by decide +kernel⟩ (by kernel_rfl) (by kernel_rfl) rfl (by kernel_rfl) ?_ ?_
 ·intro C
  refine ASteps.cons ?_ (ASteps.cons ?_ (ASteps.cons ?_ (ASteps.cons ?_ (ASteps.cons ?_ (ASteps.cons ?_ (ASteps.nil))))))
  ·exact Qj rfl rfl (Qa rfl) rfl (Qg C 2 (by kernel_rfl) rfl)
  ·exact Ql HPRE rfl rfl (Qa rfl) rfl KH (Opns.cons (Qc C 0 0 rfl rfl rfl rfl rfl rfl) Opns.nil) ((MK (by omega) (by omega)))
  ·exact Qj rfl rfl (Qa rfl) rfl (Qg C 1 (by kernel_rfl) rfl)
  ·exact Ql HPRE rfl rfl (Qa rfl) rfl KH (Opns.cons (Qc C 2 0 rfl rfl rfl rfl rfl rfl) Opns.nil) ((MK (by omega) (by omega)))
  ·exact Ko rfl rfl (Qa rfl) rfl (Opns.cons (Qc C 1 0 rfl rfl rfl rfl rfl rfl) (Opns.cons (Qc C 3 1 rfl rfl rfl rfl rfl rfl) Opns.nil)) (EH _ _)
  ·exact ZE C (k := 0) rfl rfl rfl (Qa rfl) rfl (Qg C 0 (by kernel_rfl) rfl) (by decide) (ZM (by kernel_rfl)) (Qc C 4 0 rfl rfl rfl rfl rfl rfl) (JR (Ym _ _))
 intro γ a2 w2 Z2 S2
 replace S2 : AS w 10 [(4,Jus (.pointer (some ⟨G1_0,0,none⟩)))] [(G1_0,61,Wv (((l : Int) : Rat)) (((u : Int) : Rat)))] a2 w2 := cast (by kernel_rfl) (S2.keep [4])
 clear S1
 refine Qe ?_
 refine wp_ret ?_
 exact S2.retCell 0 0 rfl rfl rfl XY fun v hv => ⟨S2.bel,v,rfl,hv⟩
theorem EC {x y : Rat} {k l : Nat} (fx : QS k x) (fy : QS l y) (hk : l+k+1≤35184372088640) : Con Tryz.prog QZ 71 [Wv x y] (Qv (y / x)) := by
 refine Uv (n := 8) Tryz.func71 rfl rfl (Nat.le_of_ble_eq_true rfl) ?_
 intro w a0 hp S0
 have HPRE : ∀ w',Below w.heap.size w w'→QZ w' := fun w' hb => Jb hp hb
 refine wp_seq ?_
 refine Qn [.alloc 61 (Wv x y),.alloc 58 (Any)] ⟨S0,by decide +kernel⟩ (by kernel_rfl) (by kernel_rfl) rfl (by kernel_rfl) ?_ ?_
 ·intro C
  refine ASteps.cons ?_ (ASteps.cons ?_ (ASteps.nil))
  ·exact ZF rfl rfl (Qa rfl) rfl (Ze (by kernel_rfl)) (Qg C 0 (by kernel_rfl) rfl) (boxes_W (Ym _ _))
  ·exact Zo [.bool false,.slice none 0 0,.slice none 0 0] YC rfl rfl (Qa rfl) rfl (Ze (by kernel_rfl)) JH (by simp [Qm]) (by kernel_rfl)
 intro γ a1 w1 Z1 S1
 replace S1 : AS w 8 [(2,Jus (.pointer (some ⟨γ 1,0,none⟩))),(1,Jus (.pointer (some ⟨γ 0,0,none⟩)))] [(γ 0,61,Wv x y),(γ 1,58,Any)] a1 w1 := cast (by kernel_rfl) (S1.keep [1,2])
 generalize γ 0=G1_0 at S1
 generalize γ 1=G1_1 at S1
 clear S0
 refine Qe ?_
 refine wp_seq ?_
 refine Qn [.pure (Jus (.pointer (some ⟨G1_0,3,none⟩))),.pure (Qv y),.pure (Jus (.pointer (some ⟨G1_0,0,none⟩))),.pure (Qv x),.pure (Qv ((y / x))),.over 1 (Qv ((y / x)))] ⟨S1,by decide +kernel⟩ (by kernel_rfl) (by kernel_rfl) rfl (by kernel_rfl) ?_ ?_
 ·intro C
  refine ASteps.cons ?_ (ASteps.cons ?_ (ASteps.cons ?_ (ASteps.cons ?_ (ASteps.cons ?_ (ASteps.cons ?_ (ASteps.nil))))))
  ·exact Qw rfl rfl (Qa rfl) rfl (Qg C 1 (by kernel_rfl) rfl) (Nr _)
  ·exact QP (k := 0) rfl rfl rfl (Qa rfl) rfl (Qc C 0 0 rfl rfl rfl rfl rfl rfl) (QE (by kernel_rfl)) Hr
  ·exact Qw rfl rfl (Qa rfl) rfl (Qg C 1 (by kernel_rfl) rfl) (EN _)
  ·exact QP (k := 0) rfl rfl rfl (Qa rfl) rfl (Qc C 2 0 rfl rfl rfl rfl rfl rfl) (QE (by kernel_rfl)) Hw
  ·exact Ql HPRE rfl rfl (Qa rfl) rfl GE (Opns.cons (Qc C 1 0 rfl rfl rfl rfl rfl rfl) (Opns.cons (Qc C 3 1 rfl rfl rfl rfl rfl rfl) Opns.nil)) ((LF fy fx hk))
  ·exact ZE C (k := 1) rfl rfl rfl (Qa rfl) rfl (Qg C 0 (by kernel_rfl) rfl) (by decide) (ZM (by kernel_rfl)) (Qc C 4 0 rfl rfl rfl rfl rfl rfl) (Jg (Zm _))
 intro γ a2 w2 Z2 S2
 replace S2 : AS w 8 [(2,Jus (.pointer (some ⟨G1_1,0,none⟩)))] [(G1_0,61,Wv x y),(G1_1,58,Qv ((y / x)))] a2 w2 := cast (by kernel_rfl) (S2.keep [2])
 clear S1
 refine Qe ?_
 refine wp_ret ?_
 exact S2.retCell 0 1 rfl rfl rfl QT fun v hv => ⟨S2.bel,v,rfl,hv⟩
theorem PT {w : World} (hp : QZ w) : Calls Tryz.prog 24 #[] w fun e w' => Below w.heap.size w w'∧∃ go gb : Nat,e=.returned (.func (.func 58) #[] #[.pointer (some ⟨go,0,none⟩),.pointer (some ⟨gb,0,none⟩)])∧w.heap.size≤go∧w.heap.size≤gb∧go ≠ gb ∧
  BoxIs w' go 61 (Wv ((1 : Int) : Rat) ((0 : Int) : Rat))∧BoxIs w' gb 61 (Wv ((0 : Int) : Rat) ((1 : Int) : Rat)) := by
 refine Jk (w0 := w) (n := 6) (Fs := []) (vs := []) (bx := []) Tryz.func24 rfl rfl (Nat.le_of_ble_eq_true rfl) (Below.refl _ _) trivial (fun k G t F h => by simp at h) List.nodup_nil ?_
 intro a0 S0
 have HPRE : ∀ w',Below w.heap.size w w'→QZ w' := fun w' hb => Jb hp hb
 refine wp_seq ?_
 refine Qn [.pure (Jus (.nilFunc))] ⟨S0,by decide +kernel⟩ (by kernel_rfl) (by kernel_rfl) rfl (by kernel_rfl) ?_ ?_
 ·intro C
  refine ASteps.cons ?_ (ASteps.nil)
  ·exact Qk rfl rfl (Qa rfl) rfl (Qp _)
 intro γ a1 w1 Z1 S1
 replace S1 : AS w 6 [(0,Jus (.nilFunc))] [] a1 w1 := cast (by kernel_rfl) (S1.keep [0])
 clear S0
 refine Qe ?_
 refine wp_seq ?_
 refine Qn [.pure (Wv (((0 : Int) : Rat)) (((1 : Int) : Rat))),.pure (Wv (((1 : Int) : Rat)) (((0 : Int) : Rat))),.alloc 61 (Any),.alloc 61 (Any),.fill 2 (Wv (((0 : Int) : Rat)) (((1 : Int) : Rat))),.fill 3 (Wv (((1 : Int) : Rat)) (((0 : Int) : Rat)))] ⟨S1,by decide +kernel⟩ (by kernel_rfl) (by kernel_rfl) rfl (by kernel_rfl) ?_ ?_
 ·intro C
  refine ASteps.cons ?_ (ASteps.cons ?_ (ASteps.cons ?_ (ASteps.cons ?_ (ASteps.cons ?_ (ASteps.cons ?_ (ASteps.nil))))))
  ·exact Ql HPRE rfl rfl (Qa rfl) rfl WS (Opns.cons (Qp _) (Opns.cons (Qp _) Opns.nil)) ((Pq (by decide) (by decide) (by decide) (by decide)))
  ·exact Ql HPRE rfl rfl (Qa rfl) rfl WS (Opns.cons (Qp _) (Opns.cons (Qp _) Opns.nil)) ((Pq (by decide) (by decide) (by decide) (by decide)))
  ·exact Zo [.bool false,.slice none 0 0,.slice none 0 0,.bool false,.slice none 0 0,.slice none 0 0] UX rfl rfl (Qa rfl) rfl (Jt (s0 := 4) (k := 0) (by kernel_rfl) rfl rfl rfl rfl) Yd (by simp [Qm]) (by kernel_rfl)
  ·exact Zo [.bool false,.slice none 0 0,.slice none 0 0,.bool false,.slice none 0 0,.slice none 0 0] UX rfl rfl (Qa rfl) rfl (Jt (s0 := 5) (k := 0) (by kernel_rfl) rfl rfl rfl rfl) Yd (by simp [Qm]) (by kernel_rfl)
  ·exact JO C (a := 2) (k := 0) rfl rfl rfl rfl (Qa rfl) rfl rfl rfl rfl rfl (by decide) (JZ (by kernel_rfl)) (Qc C 0 1 rfl rfl rfl rfl rfl rfl) (JR (Ym _ _))
  ·exact JO C (a := 3) (k := 0) rfl rfl rfl rfl (Qa rfl) rfl rfl rfl rfl rfl (by decide) (JZ (by kernel_rfl)) (Qc C 1 1 rfl rfl rfl rfl rfl rfl) (JR (Ym _ _))
 intro γ a2 w2 Z2 S2
 replace S2 : AS w 6 [(2,Jus (.pointer (some ⟨γ 3,0,none⟩))),(1,Jus (.pointer (some ⟨γ 2,0,none⟩))),(0,Jus (.nilFunc))] [(γ 2,61,Wv (((0 : Int) : Rat)) (((1 : Int) : Rat))),(γ 3,61,Wv (((1 : Int) : Rat)) (((0 : Int) : Rat)))] a2 w2 := cast (by kernel_rfl) (S2.keep [0,1,2])
 generalize γ 2=G2_2 at S2
 generalize γ 3=G2_3 at S2
 clear S1
 refine Qe ?_
 refine wp_seq ?_
 refine Qn [.pure (Jus (.func (.func 58) #[] #[.pointer (some ⟨G2_3,0,none⟩),.pointer (some ⟨G2_2,0,none⟩)])),.pure (Jus (.func (.func 58) #[] #[.pointer (some ⟨G2_3,0,none⟩),.pointer (some ⟨G2_2,0,none⟩)]))] ⟨S2,by decide +kernel⟩ (by kernel_rfl) (by kernel_rfl) rfl (by kernel_rfl) ?_ ?_
 ·intro C
  refine ASteps.cons ?_ (ASteps.cons ?_ (ASteps.nil))
  ·exact LJ (vs := [.pointer (some ⟨G2_3,0,none⟩),.pointer (some ⟨G2_2,0,none⟩)]) rfl rfl (Qa rfl) rfl (Opns.cons (Qg C 0 (by kernel_rfl) rfl) (Opns.cons (Qg C 1 (by kernel_rfl) rfl) Opns.nil))
  ·exact Qk rfl rfl (Qa rfl) rfl (Qc C 0 0 rfl rfl rfl rfl rfl rfl)
 intro γ a3 w3 Z3 S3
 replace S3 : AS w 6 [(0,Jus (.func (.func 58) #[] #[.pointer (some ⟨G2_3,0,none⟩),.pointer (some ⟨G2_2,0,none⟩)]))] [(G2_2,61,Wv (((0 : Int) : Rat)) (((1 : Int) : Rat))),(G2_3,61,Wv (((1 : Int) : Rat)) (((0 : Int) : Rat)))] a3 w3 := cast (by kernel_rfl) (S3.keep [0])
 clear S2
 refine Qe ?_
 refine wp_ret ?_
 exact S3.ret 0 rfl rfl fun v hv => ⟨S3.bel,G2_3,G2_2,by rw [show v=_ from hv],(S3.box 1 _ _ _ rfl).1,(S3.box 0 _ _ _ rfl).1,by have := S3.dis; simp at this; omega,(S3.box 1 _ _ _ rfl).2,(S3.box 0 _ _ _ rfl).2⟩
end Go.Proofs.YtnhplfjlhdpgoaaGreatDoor
/- ZWU -/
namespace Go.Proofs.YtnhplfjlhdpgoaaGreatDoor
open Go Go.RowKit Cx
def Ai (P : Program) (t : TypeId) (z : Nat) : Bool := match P.info? t with
 | some i => match i.zero with
  | some zv => Nat.beq zv.cells.size z && (Nat.beq i.size z && (Nat.ble (4000000*i.bytes) 140737488355328 && zv.cells.toList.all okV))
  | none => false
 | none => false
theorem Er {P : Program} {t : TypeId} {z : Nat} (h : Ai P t z=true) : ∃ i zv,P.info? t=some i∧i.zero=some zv∧zv.cells.size=z∧i.size=z∧4000000*i.bytes≤140737488355328∧∀ u ∈ zv.cells.toList,okV u=true := by
 unfold Ai at h
 cases hi : P.info? t with
 | none =>
  rw [hi] at h
  cases h
 | some i =>
  rw [hi] at h
  dsimp only at h
  cases hz : i.zero with
  | none =>
   rw [hz] at h
   cases h
  | some zv =>
   rw [hz] at h
   simp only [Bool.and_eq_true,Nat.beq_eq,Nat.ble_eq,List.all_eq_true] at h
   exact ⟨i,zv,rfl,hz,h.1,h.2.1,h.2.2.1,h.2.2.2⟩
structure LT (T t : TypeId) (z : Nat) (agg : Bool) : Prop where
 hu : Tryz.prog.underlying T=some (.slice t)
 inf : Ai Tryz.prog t z=true
 siz : Zh Tryz.prog t=some z
 agt : Oo Tryz.prog t=some agg
 pos : 0 < z
 le : z≤16777216
 box : PK t=true
 one : agg=false→z=1
section
variable {T t : TypeId} {z : Nat} {agg : Bool}
theorem LT.idx (H : LT T t z agg) {k : Nat} (a : Addr) (n c : Nat) (w : World) (hk : k < n) : (Instr.indexAt T (.slice (some a) n c) (.int .i64 k)).run Tryz.prog w=.ok (.pointer (some (a.add (k*z)))) w := by
 have he : Tryz.prog.elem T=t := by simp [Program.elem,H.hu]
 rw [run_indexAt_slice (h := by rw [he]; exact H.hu),if_pos (by omega),he,QW H.siz]
 simp [Result.andThen]
theorem LT.load (H : LT T t z agg) (a : Addr) (r : List Value) (w : World) (hl : r.length=z) (hc : ∀ (j : Nat) u,r[j]? = some u→w.cell? (a.add j)=some u) : (Instr.loadAt t (.pointer (some a))).run Tryz.prog w=.ok (elV agg r) w := by
 cases agg with
 | true => exact LH H.agt H.siz a r w hl hc
 | false => exact LK H.agt a r w (by rw [hl]; exact H.one rfl) hc
variable {ops : Array Oper} {Q : Exit→Act→World→Prop} {rest : List Oper} {o1 o2 : Oper} {w0 : World} {n : Nat} {tm : List (Nat × Fact)} {bx : List (Nat × TypeId × Fact)} {ex : List Nat} {a : Act} {w : World} {t1 t2 : Tmp} {s x y : Operand} {α : Type} {F : α→Fact} {v : Value} {L : List α} {u : α}
theorem LT.app1 (H : LT T t z agg) (S : AS w0 n tm bx a w) (O : OwnL t z agg F w w0.heap.size (bx.map (·.1) ++ ex) v L) (hex : ∀ g ∈ ex,g < w.heap.size) (hg1 : o1.guard=none) (hg2 : o2.guard=none) (hop1 : o1.op=.buildSlice T 1 #[(0,x)]) (hd1 : o1.dst=some t1) (hop2 : o2.op=.call { callee := .builtin .append,args := #[s,.tmp t1],argTypes := #[T,T] }) (hd2 : o2.dst=some t2)
  (hb1 : Nat.blt t1 n=true) (hb2 : Nat.blt t2 n=true) (hs : a.eval s=v) (hs1 : ∀ q,(a.put (some t1) q).eval s=a.eval s) (hx : (F u).on (a.eval x) w) (hc : CellsE z agg (F u)) (hn : L.length < 3000000)
  (K : ∀ a' v' w',AS w0 n ((t2,Jus v') :: tm.filter fun x => !Nat.beq x.1 t1 && !Nat.beq x.1 t2) bx a' w'→OwnL t z agg F w' w0.heap.size (bx.map (·.1) ++ ex) v' (L ++ [u])→App (bx.map (·.1) ++ ex) w w'→wpList Tryz.prog ops Q rest a' w') : wpList Tryz.prog ops Q (o1 :: o2 :: rest) a w := by
 obtain ⟨i,zv,k1,k2,k3,k4,k5,k6⟩ := Er H.inf
 exact SR S O hex hg1 hg2 hop1 hd1 hop2 hd2 hb1 hb2 hs hs1 hx hc H.hu k1 k2 k3 k4 H.pos k5 k6 H.box hn H.le K
theorem LT.make1 (H : LT T t z agg) {m : Nat} (x0 : α) {zv : Value} (S : AS w0 n tm bx a w) (hex : ∀ g ∈ ex,g < w.heap.size) (hg : o1.guard=none) (hop : o1.op=.makeSlice T x y) (hd : o1.dst=some t1) (hb1 : Nat.blt t1 n=true) (hl : a.eval x=.int .i64 m) (hc : a.eval y=.int .i64 m)
  (hzv : (Tryz.prog.info? t).bind (·.zero)=some zv) (hF : ∀ w,(F x0).on (elV agg zv.cells.toList) w) (hm : m < 3000000)
  (K : ∀ a' v' w',AS w0 n ((t1,Jus v') :: tm.filter fun x => !Nat.beq x.1 t1) bx a' w'→OwnL t z agg F w' w0.heap.size (bx.map (·.1) ++ ex) v' (List.replicate m x0)→App (bx.map (·.1) ++ ex) w w'→wpList Tryz.prog ops Q rest a' w') : wpList Tryz.prog ops Q (o1 :: rest) a w := by
 obtain ⟨i,zv',k1,k2,k3,k4,k5,k6⟩ := Er H.inf
 have e : zv'=zv := by
  rw [k1] at hzv
  exact Option.some.inj (k2.symm.trans hzv)
 subst e
 exact SE x0 S hex hg hop hd hb1 hl hc H.hu k1 k2 k3 k4 H.pos k5 k6 hF hm K
theorem LT.set1 (H : LT T t z agg) {k : Nat} (S : AS w0 n tm bx a w) (O : OwnL t z agg F w w0.heap.size (bx.map (·.1) ++ ex) v L) (hk : k < L.length) (hg1 : o1.guard=none) (hg2 : o2.guard=none) (hop1 : o1.op=.indexAddr T s y) (hd1 : o1.dst=some t1) (hop2 : o2.op=.store t (.tmp t1) x) (hd2 : o2.dst=none)
  (hb1 : Nat.blt t1 n=true) (hs : a.eval s=v) (hy : a.eval y=.int .i64 k) (hs1 : ∀ q,(a.put (some t1) q).eval x=a.eval x) (hx : (F u).on (a.eval x) w) (hc : CellsE z agg (F u))
  (K : ∀ a' w',AS w0 n (tm.filter fun x => !Nat.beq x.1 t1) bx a' w'→OwnL t z agg F w' w0.heap.size (bx.map (·.1) ++ ex) v (L.set k u)→App (bx.map (·.1) ++ ex) w w'→wpList Tryz.prog ops Q rest a' w') : wpList Tryz.prog ops Q (o1 :: o2 :: rest) a w :=
 Cj S O hk hg1 hg2 hop1 hd1 hop2 hd2 hb1 hs hy hs1 hx hc (fun a n c w hk => H.idx a n c w hk) H.siz H.box K
end
theorem ltQ : LT 54 58 3 true := ⟨Tryz.underlying54,by kernel_rfl,by kernel_rfl,by kernel_rfl,by decide,by decide,by decide,fun e => by cases e⟩
theorem ltW : LT 51 61 6 true := ⟨Tryz.underlying51,by kernel_rfl,by kernel_rfl,by kernel_rfl,by decide,by decide,by decide,fun e => by cases e⟩
theorem ltT : LT 23 22 1 false := ⟨Tryz.underlying23,by kernel_rfl,by kernel_rfl,by kernel_rfl,by decide,by decide,by decide,fun _ => rfl⟩
theorem zv_text : (Tryz.prog.info? 22).bind (·.zero)=some (.string ByteArray.empty) := by kernel_rfl
theorem ce_qv (q : Rat) : CellsE 3 true (Qv q) := .of (Zm q)
theorem ce_wv (x y : Rat) : CellsE 6 true (Wv x y) := .of (Ym x y)
theorem ce_text (s : ByteArray) : CellsE 1 false (Tx s) := .one fun v _ h => by
 rw [show v=.string s from h]
 exact ⟨rfl,rfl⟩
end Go.Proofs.YtnhplfjlhdpgoaaGreatDoor
/- GNR -/
namespace Go.Proofs.YtnhplfjlhdpgoaaGreatDoor
open Go.RowKit Cx
def cf (a : Int) (b : Nat) : List Int := if _h : b=0 then [] else a / (b : Int) :: cf (b : Int) (a % (b : Int)).toNat
termination_by b
decreasing_by
 have h1 : 0 < (b : Int) := by omega
 have := Int.emod_lt_of_pos a h1
 have := Int.emod_nonneg a (b := (b : Int)) (by omega)
 omega
theorem YZ (a : Int) : cf a 0=[] := by
 rw [cf]
 simp
theorem Va (a : Int) {b : Nat} (h : ¬ b=0) : cf a b=a / (b : Int) :: cf (b : Int) (a % (b : Int)).toNat := by
 rw [cf]
 simp [h]
theorem Sq (a : Int) {b : Nat} (h : ¬ b=0) : (((a % (b : Int)).toNat : Nat) : Int)=a % (b : Int) := Int.toNat_of_nonneg (Int.emod_nonneg a (by omega))
theorem TU (a : Int) {b : Nat} (h : ¬ b=0) : (a % (b : Int)).toNat < b := by
 have h1 : 0 < (b : Int) := by omega
 have := Int.emod_lt_of_pos a h1
 have := Int.emod_nonneg a (b := (b : Int)) (by omega)
 omega
theorem Dh : ∀ (m : Nat) (a : Int) (b : Nat),b < 2 ^ m→(cf a b).length≤2*m
 | 0,a,b,h => by
  have : b=0 := by omega
  subst this
  rw [YZ]
  simp
 | m+1,a,b,h => by
  by_cases hb : b=0
  ·subst hb
   rw [YZ]
   simp
  ·rw [Va a hb]
   have hr := TU a hb
   generalize (a % (b : Int)).toNat=r at hr
   by_cases hr0 : r=0
   ·subst hr0
    rw [YZ]
    simp only [List.length_cons,List.length_nil]
    omega
   ·rw [Va _ hr0]
    have h1 : ((b : Int) % (r : Int)).toNat=b % r := by
     have e : (b : Int) % (r : Int)=((b % r : Nat) : Int) := by exact_mod_cast rfl
     rw [e,Int.toNat_natCast]
    rw [h1]
    have h2 : b % r < r := Nat.mod_lt _ (by omega)
    have h3 : b=b / r*r+b % r := by rw [Nat.mul_comm]; exact (Nat.div_add_mod b r).symm
    have h4 : 1≤b / r := Nat.div_pos (by omega) (by omega)
    have h5 : r≤b / r*r := Nat.le_mul_of_pos_left _ h4
    have ih := Dh m (r : Int) (b % r) (by rw [Nat.pow_succ] at h; omega)
    simp only [List.length_cons]
    omega
theorem ER {q : Rat} (h : q=0) : Con Tryz.prog Zx 62 [Qv q] (In 0) := by
 have : QK q=0 := by rw [h]; rfl
 rw [← this]
 exact YP
theorem Nq {q : Rat} (h : 0 < q) : Con Tryz.prog Zx 62 [Qv q] (In 1) := by
 have : QK q=1 := by
  unfold QK
  rw [if_neg (by grind),if_neg (by grind)]
 rw [← this]
 exact YP
theorem flq_int {a : Int} {b : Nat} (h : ¬ b=0) : flq (((a : Int) : Rat) / (((b : Nat) : Int) : Rat))=a / (b : Int) := by
 have hb : 0 < (b : Int) := by omega
 have e : ((a : Int) : Rat) / (((b : Nat) : Int) : Rat)=mkRat a b := by
  rw [Rat.mkRat_eq_div]
  rfl
 rw [e]
 exact CH a b (by omega)
theorem con_flo {a : Int} {b : Nat} {k l : Nat} (h : ¬ b=0) (fa : QS k ((a : Int) : Rat)) (fb : QS l (((b : Nat) : Int) : Rat)) (hk : k+l≤35184372088640) : Con Tryz.prog Zx 63 [Qv ((a : Int) : Rat),Qv (((b : Nat) : Int) : Rat)] (Qv (((a / (b : Int) : Int)) : Rat)) := fun w vs _ hall => by
 obtain ⟨p,q,rfl,h0,h1⟩ := Yi hall
 have := OG h0 h1 fa fb hk
 rw [flq_int h] at this
 exact this.mono fun e w' ⟨hb,v,e1,h⟩ => ⟨hb,v,e1,h⟩
theorem Ms {x y z : Rat} {k l : Nat} (e : z=x - y) (fx : QS k x) (fy : QS l y) (hk : k+l+1≤35184372088640) : Con Tryz.prog Zx 64 [Qv x,Qv y] (Qv z) := fun w vs _ hall => by
 obtain ⟨p,q,rfl,h0,h1⟩ := Yi hall
 rw [e]
 exact (Wm h0 h1 fx fy hk).mono fun e w' ⟨hb,v,e1,h⟩ => ⟨hb,v,e1,h⟩
theorem CR {x y z : Rat} {k l : Nat} (e : z=x*y) (fx : QS k x) (fy : QS l y) (hk : k+l+1≤35184372088640) : Con Tryz.prog Zx 65 [Qv x,Qv y] (Qv z) := fun w vs _ hall => by
 obtain ⟨p,q,rfl,h0,h1⟩ := Yi hall
 rw [e]
 exact (XZ h0 h1 fx fy hk).mono fun e w' ⟨hb,v,e1,h⟩ => ⟨hb,v,e1,h⟩
theorem LP (a : Int) {b : Nat} (h : ¬ b=0) : ((((a % (b : Int)).toNat : Nat) : Int) : Rat)=((a : Int) : Rat) - (((b : Nat) : Int) : Rat)*(((a / (b : Int) : Int)) : Rat) := by
 rw [Sq a h,Int.emod_def,Rat.intCast_sub,Rat.intCast_mul]
theorem DN {K : Nat} {z : Int} (h0 : 0 < K) (h : z.natAbs < 2 ^ K) : QS K ((z : Int) : Rat) := QS.whole h0 h
theorem Po {K : Nat} {a : Int} {b : Nat} (h : a.natAbs < 2 ^ K) : (a / (b : Int)).natAbs < 2 ^ K := Nat.lt_of_le_of_lt (Int.natAbs_ediv_le_natAbs _ _) h
theorem Cn (vs : Array Value) (w : World) : (callFunc 26 vs).run Tryz.prog w=.ok (.enter 26 vs) w := QY Tryz.func26 (by kernel_rfl) (by kernel_rfl) vs w
theorem IM (vs : Array Value) (w : World) : (callFunc 25 vs).run Tryz.prog w=.ok (.enter 25 vs) w := QY Tryz.func25 (by kernel_rfl) (by kernel_rfl) vs w
theorem GI (vs : Array Value) (w : World) : (callFunc 27 vs).run Tryz.prog w=.ok (.enter 27 vs) w := QY Tryz.func27 (by kernel_rfl) (by kernel_rfl) vs w
theorem IF (vs : Array Value) (w : World) : (callFunc 5 vs).run Tryz.prog w=.ok (.enter 5 vs) w := QY Tryz.func5 (by kernel_rfl) (by kernel_rfl) vs w
theorem KA (vs : Array Value) (w : World) : (callFunc 64 vs).run Tryz.prog w=.ok (.enter 64 vs) w := QY Tryz.func64 (by kernel_rfl) (by kernel_rfl) vs w
theorem TV (vs : Array Value) (w : World) : (callFunc 65 vs).run Tryz.prog w=.ok (.enter 65 vs) w := QY Tryz.func65 (by kernel_rfl) (by kernel_rfl) vs w
theorem Kh (vs : Array Value) (w : World) : (callFunc 63 vs).run Tryz.prog w=.ok (.enter 63 vs) w := QY Tryz.func63 (by kernel_rfl) (by kernel_rfl) vs w
theorem KW (vs : Array Value) (w : World) : (callFunc 61 vs).run Tryz.prog w=.ok (.enter 61 vs) w := QY Tryz.func61 (by kernel_rfl) (by kernel_rfl) vs w
theorem KV {w : World} {v0 : Value} {q : Rat} {K : Nat} (hq : QV w v0 q) (fq : QS K q) (hK : K≤1000000) (hp : QZ w) : Calls Tryz.prog 25 #[v0] w fun e w' => Below w.heap.size w w'∧∃ v,e=.returned v∧OwnL 58 3 true (fun z : Int => Qv ((z : Int) : Rat)) w' w.heap.size [] v (cf q.num q.den) := by
 have hK2 : K+K≤35184372088640 := by omega
 have hK3 : K+K+1≤35184372088640 := by omega
 have hK4 : K+(K+K)+1≤35184372088640 := by omega
 refine Jk (w0 := w) (n := 29) (Fs := [Qv q]) (vs := [v0]) (bx := []) Tryz.func25 rfl rfl (Nat.le_of_ble_eq_true rfl) (Below.refl _ _) ⟨hq,trivial⟩ (fun k G t F h => by simp at h) List.nodup_nil ?_
 intro a0 S0
 have HPRE : ∀ w',Below w.heap.size w w'→QZ w' := fun w' hb => Jb hp hb
 refine wp_seq ?_
 refine Qn [.alloc 58 (Qv q),.pure (Jus (.slice none 0 0))] ⟨S0,by decide +kernel⟩ (by kernel_rfl) (by kernel_rfl) rfl (by kernel_rfl) ?_ ?_
 ·intro C
  refine ASteps.cons ?_ (ASteps.cons ?_ (ASteps.nil))
  ·exact ZF rfl rfl (Qa rfl) rfl (Ze (by kernel_rfl)) (Qg C 0 (by kernel_rfl) rfl) (Jp (Zm _))
  ·exact Qk rfl rfl (Qa rfl) rfl (Qp _)
 intro γ a1 w1 Z1 S1
 replace S1 : AS w 29 [(2,Jus (.slice none 0 0)),(1,Jus (.pointer (some ⟨γ 0,0,none⟩)))] [(γ 0,58,Qv q)] a1 w1 := cast (by kernel_rfl) (S1.keep [1,2])
 generalize γ 0=G1_0 at S1
 clear S0
 refine Qe ?_
 refine wp_seq ?_
 refine Qn [.pure (Jus (.slice none 0 0))] ⟨S1,by decide +kernel⟩ (by kernel_rfl) (by kernel_rfl) rfl (by kernel_rfl) ?_ ?_
 ·intro C
  refine ASteps.cons ?_ (ASteps.nil)
  ·exact Qk rfl rfl (Qa rfl) rfl (Qp _)
 intro γ a2 w2 Z2 S2
 replace S2 : AS w 29 [(3,Jus (.slice none 0 0)),(2,Jus (.slice none 0 0)),(1,Jus (.pointer (some ⟨G1_0,0,none⟩)))] [(G1_0,58,Qv q)] a2 w2 := cast (by kernel_rfl) (S2.keep [1,2,3])
 clear S1
 refine Qe ?_
 refine wp_seq ?_
 refine Qn [.pure (Qv q),.pure (Tup [Qv (((q.num : Int) : Rat)),Qv (((q.den : Int) : Rat))]),.pure (Tup [Qv (((q.num : Int) : Rat)),Qv (((q.den : Int) : Rat))]),.pure (Qv (((q.num : Int) : Rat))),.pure (Qv (((q.den : Int) : Rat))),.alloc 58 (Any),.alloc 58 (Any),.fill 5 (Qv (((q.num : Int) : Rat))),.fill 6 (Qv (((q.den : Int) : Rat)))] ⟨S2,by decide +kernel⟩ (by kernel_rfl) (by kernel_rfl) rfl (by kernel_rfl) ?_ ?_
 ·intro C
  refine ASteps.cons ?_ (ASteps.cons ?_ (ASteps.cons ?_ (ASteps.cons ?_ (ASteps.cons ?_ (ASteps.cons ?_ (ASteps.cons ?_ (ASteps.cons ?_ (ASteps.cons ?_ (ASteps.nil)))))))))
  ·exact QG (k := 0) rfl rfl rfl (Qa rfl) rfl (Qg C 2 (by kernel_rfl) rfl) (QE (by kernel_rfl)) QT
  ·exact Ql HPRE rfl rfl (Qa rfl) rfl KW (Opns.cons (Qc C 0 0 rfl rfl rfl rfl rfl rfl) Opns.nil) ((IK GX))
  ·exact Qj rfl rfl (Qa rfl) rfl (Qc C 1 0 rfl rfl rfl rfl rfl rfl)
  ·exact QX (k := 0) rfl rfl (Qa rfl) rfl (Qc C 2 0 rfl rfl rfl rfl rfl rfl) rfl
  ·exact QX (k := 1) rfl rfl (Qa rfl) rfl (Qc C 2 0 rfl rfl rfl rfl rfl rfl) rfl
  ·exact Zo [.bool false,.slice none 0 0,.slice none 0 0] YC rfl rfl (Qa rfl) rfl (Jt (s0 := 7) (k := 0) (by kernel_rfl) rfl rfl rfl rfl) JH (by simp [Qm]) (by kernel_rfl)
  ·exact Zo [.bool false,.slice none 0 0,.slice none 0 0] YC rfl rfl (Qa rfl) rfl (Jt (s0 := 8) (k := 0) (by kernel_rfl) rfl rfl rfl rfl) JH (by simp [Qm]) (by kernel_rfl)
  ·exact JO C (a := 5) (k := 0) rfl rfl rfl rfl (Qa rfl) rfl rfl rfl rfl rfl (by decide) (JZ (by kernel_rfl)) (Qc C 3 1 rfl rfl rfl rfl rfl rfl) (Jg (Zm _))
  ·exact JO C (a := 6) (k := 0) rfl rfl rfl rfl (Qa rfl) rfl rfl rfl rfl rfl (by decide) (JZ (by kernel_rfl)) (Qc C 4 1 rfl rfl rfl rfl rfl rfl) (Jg (Zm _))
 intro γ a3 w3 Z3 S3
 replace S3 : AS w 29 [(5,Jus (.pointer (some ⟨γ 6,0,none⟩))),(4,Jus (.pointer (some ⟨γ 5,0,none⟩))),(3,Jus (.slice none 0 0)),(2,Jus (.slice none 0 0))] [(G1_0,58,Qv q),(γ 5,58,Qv (((q.num : Int) : Rat))),(γ 6,58,Qv (((q.den : Int) : Rat)))] a3 w3 := cast (by kernel_rfl) (S3.keep [2,3,4,5])
 generalize γ 5=G3_5 at S3
 generalize γ 6=G3_6 at S3
 clear S2
 refine Qe ?_
 refine wp_seq ?_
 refine wp_block ?_
 refine wp_loop (fun a w' => ∃ (v : Value) (L : List Int) (x : Int) (b : Nat),(L ++ cf x b=cf q.num q.den∧x.natAbs < 2 ^ K∧b < 2 ^ K∧OwnL 58 3 true (fun z : Int => Qv ((z : Int) : Rat)) w' w.heap.size ([G1_0,G3_5,G3_6] ++ []) v L)∧AS w 29 [(5,Jus (.pointer (some ⟨G3_6,0,none⟩))),(4,Jus (.pointer (some ⟨G3_5,0,none⟩))),(3,Jus v)] [(G1_0,58,Qv q),(G3_5,58,Qv (((x : Int) : Rat))),(G3_6,58,Qv ((((b : Nat) : Int) : Rat)))] a w') (fun a _ => (2*K+2) - Lf (a.tmps.getD 3 undef)) ⟨.slice none 0 0,[],q.num,q.den,⟨by simp,fq.num,fq.den,Or.inl ⟨rfl,rfl⟩⟩,cast (by kernel_rfl) (S3.keep [5,4,3])⟩ ?_
 clear S3
 intro a4 w4 hI4
 obtain ⟨v,L,x,b,⟨hL,hA,hB,OL⟩,S4⟩ := hI4
 have hM : Lf (a4.tmps.getD 3 undef)=L.length := by rw [show a4.tmps.getD 3 undef=v from S4.val 2 rfl]; exact OL.len
 have hLen : L.length≤2*K := by have h := Dh K q.num q.den fq.den; rw [← hL,List.length_append] at h; omega
 have fA : QS K ((x : Int) : Rat) := DN fq.pos hA
 have fB : QS K (((b : Nat) : Int) : Rat) := DN fq.pos (by rw [Int.natAbs_natCast]; exact hB)
 have fO : QS K (((x / (b : Int) : Int)) : Rat) := DN fq.pos (Po hA)
 refine wp_seq ?_
 refine wp_seq ?_
 by_cases h1 : b=0
 ·
  refine Qn [.pure (Qv ((((b : Nat) : Int) : Rat))),.pure (In (0)),.pure (Bo false)] ⟨S4,by decide +kernel⟩ (by kernel_rfl) (by kernel_rfl) rfl (by kernel_rfl) ?_ ?_
  ·intro C
   refine ASteps.cons ?_ (ASteps.cons ?_ (ASteps.cons ?_ (ASteps.nil)))
   ·exact QG (k := 2) rfl rfl rfl (Qa rfl) rfl (Qg C 0 (by kernel_rfl) rfl) (QE (by kernel_rfl)) QT
   ·exact Ql HPRE rfl rfl (Qa rfl) rfl Jc (Opns.cons (Qc C 0 0 rfl rfl rfl rfl rfl rfl) Opns.nil) ((IK (ER (by rw [h1]; rfl))))
   ·exact QU rfl rfl (Qa rfl) rfl (Qc C 1 0 rfl rfl rfl rfl rfl rfl) (Qp _) (Xk _ _ _ _ _ _ rfl)
  intro γ a5 w5 Z5 S5
  replace S5 : AS w 29 [(14,Bo false),(5,Jus (.pointer (some ⟨G3_6,0,none⟩))),(4,Jus (.pointer (some ⟨G3_5,0,none⟩))),(3,Jus v)] [(G1_0,58,Qv q),(G3_5,58,Qv (((x : Int) : Rat))),(G3_6,58,Qv ((((b : Nat) : Int) : Rat)))] a5 w5 := cast (by kernel_rfl) (S5.keep [3,4,5,14])
  replace OL : OwnL 58 3 true (fun z : Int => Qv ((z : Int) : Rat)) w5 w.heap.size ([G1_0,G3_5,G3_6] ++ []) v L := cast (by kernel_rfl) (Z5.own (ex := []) OL)
  clear S4
  refine Qe ?_
  refine wp_cond_false (S5.val 0 rfl) ?_
  refine wp_exit ?_
  refine Xh ?_
  refine Xh ?_
  refine Yr ?_
  refine Qe ?_
  refine wp_seq ?_
  refine Qn [.pure (Jus v),.pure (Jus v)] ⟨S5,by decide +kernel⟩ (by kernel_rfl) (by kernel_rfl) rfl (by kernel_rfl) ?_ ?_
  ·intro C
   refine ASteps.cons ?_ (ASteps.cons ?_ (ASteps.nil))
   ·exact Qj rfl rfl (Qa rfl) rfl (Qg C 3 (by kernel_rfl) rfl)
   ·exact Qk rfl rfl (Qa rfl) rfl (Qc C 0 0 rfl rfl rfl rfl rfl rfl)
  intro γ a6 w6 Z6 S6
  replace S6 : AS w 29 [(2,Jus v)] [(G1_0,58,Qv q),(G3_5,58,Qv (((x : Int) : Rat))),(G3_6,58,Qv ((((b : Nat) : Int) : Rat)))] a6 w6 := cast (by kernel_rfl) (S6.keep [2])
  replace OL : OwnL 58 3 true (fun z : Int => Qv ((z : Int) : Rat)) w6 w.heap.size ([G1_0,G3_5,G3_6] ++ []) v L := cast (by kernel_rfl) (Z6.own (ex := []) OL)
  clear S5
  refine Qe ?_
  refine wp_ret ?_
  exact S6.ret 0 rfl rfl fun v' hv => ⟨S6.bel,v',rfl,by rw [show v'=v from hv,← hL,h1,YZ,List.append_nil]; exact OL.less (fun g hg => by cases hg)⟩
 ·
  refine Qn [.pure (Qv ((((b : Nat) : Int) : Rat))),.pure (In (1)),.pure (Bo true)] ⟨S4,by decide +kernel⟩ (by kernel_rfl) (by kernel_rfl) rfl (by kernel_rfl) ?_ ?_
  ·intro C
   refine ASteps.cons ?_ (ASteps.cons ?_ (ASteps.cons ?_ (ASteps.nil)))
   ·exact QG (k := 2) rfl rfl rfl (Qa rfl) rfl (Qg C 0 (by kernel_rfl) rfl) (QE (by kernel_rfl)) QT
   ·exact Ql HPRE rfl rfl (Qa rfl) rfl Jc (Opns.cons (Qc C 0 0 rfl rfl rfl rfl rfl rfl) Opns.nil) ((IK (Nq (by have := h1; exact_mod_cast (show (0 : Int) < (b : Int) by omega)))))
   ·exact QU rfl rfl (Qa rfl) rfl (Qc C 1 0 rfl rfl rfl rfl rfl rfl) (Qp _) (Xk _ _ _ _ _ _ rfl)
  intro γ a7 w7 Z7 S7
  replace S7 : AS w 29 [(14,Bo true),(5,Jus (.pointer (some ⟨G3_6,0,none⟩))),(4,Jus (.pointer (some ⟨G3_5,0,none⟩))),(3,Jus v)] [(G1_0,58,Qv q),(G3_5,58,Qv (((x : Int) : Rat))),(G3_6,58,Qv ((((b : Nat) : Int) : Rat)))] a7 w7 := cast (by kernel_rfl) (S7.keep [3,4,5,14])
  replace OL : OwnL 58 3 true (fun z : Int => Qv ((z : Int) : Rat)) w7 w.heap.size ([G1_0,G3_5,G3_6] ++ []) v L := cast (by kernel_rfl) (Z7.own (ex := []) OL)
  clear S4
  refine Qe ?_
  refine wp_cond_true (S7.val 0 rfl) ?_
  refine wp_skip ?_
  refine Qe ?_
  refine wp_block ?_
  refine wp_seq ?_
  have hb0 : ¬ b=0 := h1
  refine Qn [.pure (Qv (((x : Int) : Rat))),.pure (Qv ((((b : Nat) : Int) : Rat))),.pure (Qv ((((x / (b : Int) : Int)) : Rat))),.alloc 58 (Any),.fill 3 (Qv ((((x / (b : Int) : Int)) : Rat)))] ⟨S7,by decide +kernel⟩ (by kernel_rfl) (by kernel_rfl) rfl (by kernel_rfl) ?_ ?_
  ·intro C
   refine ASteps.cons ?_ (ASteps.cons ?_ (ASteps.cons ?_ (ASteps.cons ?_ (ASteps.cons ?_ (ASteps.nil)))))
   ·exact QG (k := 1) rfl rfl rfl (Qa rfl) rfl (Qg C 2 (by kernel_rfl) rfl) (QE (by kernel_rfl)) QT
   ·exact QG (k := 2) rfl rfl rfl (Qa rfl) rfl (Qg C 1 (by kernel_rfl) rfl) (QE (by kernel_rfl)) QT
   ·exact Ql HPRE rfl rfl (Qa rfl) rfl Kh (Opns.cons (Qc C 0 0 rfl rfl rfl rfl rfl rfl) (Opns.cons (Qc C 1 1 rfl rfl rfl rfl rfl rfl) Opns.nil)) ((IK (con_flo hb0 fA fB hK2)))
   ·exact Zo [.bool false,.slice none 0 0,.slice none 0 0] YC rfl rfl (Qa rfl) rfl (Jt (s0 := 4) (k := 0) (by kernel_rfl) rfl rfl rfl rfl) JH (by simp [Qm]) (by kernel_rfl)
   ·exact JO C (a := 3) (k := 0) rfl rfl rfl rfl (Qa rfl) rfl rfl rfl rfl rfl (by decide) (JZ (by kernel_rfl)) (Qc C 2 1 rfl rfl rfl rfl rfl rfl) (Jg (Zm _))
  intro γ a8 w8 Z8 S8
  replace S8 : AS w 29 [(6,Jus (.pointer (some ⟨γ 3,0,none⟩))),(5,Jus (.pointer (some ⟨G3_6,0,none⟩))),(4,Jus (.pointer (some ⟨G3_5,0,none⟩))),(3,Jus v)] [(G1_0,58,Qv q),(G3_5,58,Qv (((x : Int) : Rat))),(G3_6,58,Qv ((((b : Nat) : Int) : Rat))),(γ 3,58,Qv ((((x / (b : Int) : Int)) : Rat)))] a8 w8 := cast (by kernel_rfl) (S8.keep [3,4,5,6])
  replace OL : OwnL 58 3 true (fun z : Int => Qv ((z : Int) : Rat)) w8 w.heap.size ([G1_0,G3_5,G3_6,γ 3] ++ []) v L := cast (by kernel_rfl) (Z8.own (ex := []) OL)
  generalize γ 3=G8_3 at S8 OL
  clear S7
  refine Qe ?_
  refine wp_seq ?_
  refine JF 2 ?_
  refine Zd [.pure (Jus v),.pure (Qv ((((x / (b : Int) : Int)) : Rat)))] ⟨S8,by decide +kernel⟩ (by kernel_rfl) (by kernel_rfl) rfl (by kernel_rfl) ?_ ?_
  ·intro C
   refine ASteps.cons ?_ (ASteps.cons ?_ (ASteps.nil))
   ·exact Qj rfl rfl (Qa rfl) rfl (Qg C 3 (by kernel_rfl) rfl)
   ·exact QG (k := 3) rfl rfl rfl (Qa rfl) rfl (Qg C 0 (by kernel_rfl) rfl) (QE (by kernel_rfl)) QT
  intro γ a9 w9 Z9 S9
  replace S9 : AS w 29 [(19,Qv ((((x / (b : Int) : Int)) : Rat))),(18,Jus v),(6,Jus (.pointer (some ⟨G8_3,0,none⟩))),(5,Jus (.pointer (some ⟨G3_6,0,none⟩))),(4,Jus (.pointer (some ⟨G3_5,0,none⟩))),(3,Jus v)] [(G1_0,58,Qv q),(G3_5,58,Qv (((x : Int) : Rat))),(G3_6,58,Qv ((((b : Nat) : Int) : Rat))),(G8_3,58,Qv ((((x / (b : Int) : Int)) : Rat)))] a9 w9 := cast (by kernel_rfl) (S9.keep [3,4,5,6,18,19])
  replace OL : OwnL 58 3 true (fun z : Int => Qv ((z : Int) : Rat)) w9 w.heap.size ([G1_0,G3_5,G3_6,G8_3] ++ []) v L := cast (by kernel_rfl) (Z9.own (ex := []) OL)
  clear S8
  refine Qe ?_
  refine ltQ.app1 (F := (fun z : Int => Qv ((z : Int) : Rat))) (u := (x / (b : Int))) (ex := []) S9 OL (fun g hg => by cases hg) rfl rfl rfl rfl rfl rfl rfl rfl (S9.val 1 rfl) (fun q => XV _ q (by simp)) (S9.fact 0 rfl) (ce_qv _) (by omega) ?_
  intro a10 v10 w10 S10 O10 H10
  replace OL := O10
  replace S10 : AS w 29 [(21,Jus v10),(6,Jus (.pointer (some ⟨G8_3,0,none⟩))),(5,Jus (.pointer (some ⟨G3_6,0,none⟩))),(4,Jus (.pointer (some ⟨G3_5,0,none⟩))),(3,Jus v)] [(G1_0,58,Qv q),(G3_5,58,Qv (((x : Int) : Rat))),(G3_6,58,Qv ((((b : Nat) : Int) : Rat))),(G8_3,58,Qv ((((x / (b : Int) : Int)) : Rat)))] a10 w10 := cast (by kernel_rfl) (S10.keep [21,6,5,4,3])
  clear S9
  refine Zn 4 ?_
  refine Zd [.pure (Jus v10)] ⟨S10,by decide +kernel⟩ (by kernel_rfl) (by kernel_rfl) rfl (by kernel_rfl) ?_ ?_
  ·intro C
   refine ASteps.cons ?_ (ASteps.nil)
   ·exact Qk rfl rfl (Qa rfl) rfl (Qg C 0 (by kernel_rfl) rfl)
  intro γ a11 w11 Z11 S11
  replace S11 : AS w 29 [(3,Jus v10),(6,Jus (.pointer (some ⟨G8_3,0,none⟩))),(5,Jus (.pointer (some ⟨G3_6,0,none⟩))),(4,Jus (.pointer (some ⟨G3_5,0,none⟩)))] [(G1_0,58,Qv q),(G3_5,58,Qv (((x : Int) : Rat))),(G3_6,58,Qv ((((b : Nat) : Int) : Rat))),(G8_3,58,Qv ((((x / (b : Int) : Int)) : Rat)))] a11 w11 := cast (by kernel_rfl) (S11.keep [3,4,5,6])
  replace OL : OwnL 58 3 true (fun z : Int => Qv ((z : Int) : Rat)) w11 w.heap.size ([G1_0,G3_5,G3_6,G8_3] ++ []) v10 (L ++ [(x / (b : Int))]) := cast (by kernel_rfl) (Z11.own (ex := []) OL)
  clear S10
  refine Qe ?_
  refine Qn [.pure (Qv ((((b : Nat) : Int) : Rat))),.pure (Qv (((x : Int) : Rat))),.pure (Qv ((((b : Nat) : Int) : Rat))),.pure (Qv ((((x / (b : Int) : Int)) : Rat))),.pure (Qv (((((b : Nat) : Int) : Rat)*(((x / (b : Int) : Int)) : Rat)))),.pure (Qv (((((x % (b : Int)).toNat : Nat) : Int) : Rat))),.over 1 (Qv ((((b : Nat) : Int) : Rat))),.over 2 (Qv (((((x % (b : Int)).toNat : Nat) : Int) : Rat)))] ⟨S11,by decide +kernel⟩ (by kernel_rfl) (by kernel_rfl) rfl (by kernel_rfl) ?_ ?_
  ·intro C
   refine ASteps.cons ?_ (ASteps.cons ?_ (ASteps.cons ?_ (ASteps.cons ?_ (ASteps.cons ?_ (ASteps.cons ?_ (ASteps.cons ?_ (ASteps.cons ?_ (ASteps.nil))))))))
   ·exact QG (k := 2) rfl rfl rfl (Qa rfl) rfl (Qg C 2 (by kernel_rfl) rfl) (XQ (s0 := 7) (k := 2) (by kernel_rfl) rfl rfl rfl rfl) QT
   ·exact QG (k := 1) rfl rfl rfl (Qa rfl) rfl (Qg C 3 (by kernel_rfl) rfl) (XQ (s0 := 6) (k := 3) (by kernel_rfl) rfl rfl rfl rfl) QT
   ·exact QG (k := 2) rfl rfl rfl (Qa rfl) rfl (Qg C 2 (by kernel_rfl) rfl) (XQ (s0 := 7) (k := 4) (by kernel_rfl) rfl rfl rfl rfl) QT
   ·exact QG (k := 3) rfl rfl rfl (Qa rfl) rfl (Qg C 1 (by kernel_rfl) rfl) (QE (by kernel_rfl)) QT
   ·exact Ql HPRE rfl rfl (Qa rfl) rfl TV (Opns.cons (Qc C 2 0 rfl rfl rfl rfl rfl rfl) (Opns.cons (Qc C 3 1 rfl rfl rfl rfl rfl rfl) Opns.nil)) ((IK (CR rfl fB fO hK3)))
   ·exact Ql HPRE rfl rfl (Qa rfl) rfl KA (Opns.cons (Qc C 1 0 rfl rfl rfl rfl rfl rfl) (Opns.cons (Qc C 4 1 rfl rfl rfl rfl rfl rfl) Opns.nil)) ((IK (Ms (LP x hb0) fA (QS.mul fB fO) hK4)))
   ·exact ZE C (k := 1) rfl rfl rfl (Qa rfl) rfl (Qg C 3 (by kernel_rfl) rfl) (by decide) (ZM (by kernel_rfl)) (Qc C 0 0 rfl rfl rfl rfl rfl rfl) (Jg (Zm _))
   ·exact ZE C (k := 2) rfl rfl rfl (Qa rfl) rfl (Qg C 2 (by kernel_rfl) rfl) (by decide) (ZM (by kernel_rfl)) (Qc C 5 0 rfl rfl rfl rfl rfl rfl) (Jg (Zm _))
  intro γ a12 w12 Z12 S12
  replace S12 : AS w 29 [(3,Jus v10),(5,Jus (.pointer (some ⟨G3_6,0,none⟩))),(4,Jus (.pointer (some ⟨G3_5,0,none⟩)))] [(G1_0,58,Qv q),(G3_5,58,Qv ((((b : Nat) : Int) : Rat))),(G3_6,58,Qv (((((x % (b : Int)).toNat : Nat) : Int) : Rat))),(G8_3,58,Qv ((((x / (b : Int) : Int)) : Rat)))] a12 w12 := cast (by kernel_rfl) (S12.keep [3,4,5])
  replace OL : OwnL 58 3 true (fun z : Int => Qv ((z : Int) : Rat)) w12 w.heap.size ([G1_0,G3_5,G3_6,G8_3] ++ []) v10 (L ++ [(x / (b : Int))]) := cast (by kernel_rfl) (Z12.own (ex := []) OL)
  clear S11
  refine XB ?_
  refine Qe ?_
  refine ⟨⟨v10,(L ++ [(x / (b : Int))]),(b : Int),(x % (b : Int)).toNat,⟨by rw [← hL,Va x hb0]; simp,by rw [Int.natAbs_natCast]; exact hB,Nat.lt_trans (TU x hb0) hB,OL.less (fun g hg => by simp at hg ⊢; omega)⟩,cast (by kernel_rfl) ((S12.pick [1,2,0]).takeB 3)⟩,?_⟩
  show (2*K+2) - Lf (a12.tmps.getD 3 undef) < (2*K+2) - Lf (a4.tmps.getD 3 undef)
  rw [hM,show a12.tmps.getD 3 undef=v10 from S12.val 0 rfl,OL.len,List.length_append,List.length_singleton]
  omega
def txB (q : Rat) : ByteArray := ⟨(tx q).toArray⟩
theorem NF {x : Rat} {k : Nat} (fx : QS k x) (hk : k≤35184372088640) : Con Tryz.prog QZ 72 [Qv x] (Tx (txB x)) := fun w vs hp h => by
 refine (AF fx hk w vs hp h).mono ?_
 rintro e w' ⟨hb,v,e1,s,rfl,hs⟩
 refine ⟨hb,_,e1,?_⟩
 show Value.string s=.string (txB x)
 congr 1
 unfold txB
 rw [← hs]
def tlW (p : Rat × Rat) : ByteArray := txB (p.2 / p.1)
def Yn (ws : List (Rat × Rat)) (k : Nat) : List ByteArray := (ws.take k).map tlW ++ List.replicate (ws.length - k) ByteArray.empty
theorem Mw (ws : List (Rat × Rat)) : Yn ws 0=List.replicate ws.length ByteArray.empty := by
 unfold Yn
 simp
theorem NE (ws : List (Rat × Rat)) : Yn ws ws.length=ws.map tlW := by
 unfold Yn
 simp
theorem Nv (ws : List (Rat × Rat)) (k : Nat) (h : k≤ws.length) : (Yn ws k).length=ws.length := by
 unfold Yn
 simp only [List.length_append,List.length_map,List.length_take,List.length_replicate]
 omega
theorem CZ {ws : List (Rat × Rat)} {k : Nat} {p : Rat × Rat} (h : ws[k]? = some p) : (Yn ws k).set k (tlW p)=Yn ws (k+1) := by
 have hlt := (List.getElem?_eq_some_iff.1 h).1
 have hl : ((ws.take k).map tlW).length=k := by rw [List.length_map,List.length_take]; omega
 unfold Yn
 rw [List.set_append_right _ _ (by omega),hl,Nat.sub_self,List.take_add_one,h]
 obtain ⟨m,hm⟩ : ∃ m,ws.length - k=m+1 := ⟨ws.length - k - 1,by omega⟩
 rw [hm,show ws.length - (k+1)=m by omega,List.replicate_succ]
 simp
abbrev Ww (p : Rat × Rat) : Fact := Wv p.1 p.2
theorem FE {w : World} {v0 : Value} {g : Nat} {ws : List (Rat × Rat)} {K : Nat} (hA : ListAt 61 6 true Ww w g v0 ws) (hsz : ∀ p ∈ ws,QS K p.1∧QS K p.2) (hK : K≤1000000) (hn : ws.length < 3000000) (hp : QZ w) : Calls Tryz.prog 27 #[v0] w fun e w' => Below w.heap.size w w'∧∃ v,e=.returned v∧OwnL 22 1 false (fun s : ByteArray => Tx s) w' w.heap.size [] v (ws.map tlW) := by
 have HL : Frz 61 6 true Ww w [] g v0 ws := ⟨hA,fun q => by cases q⟩
 refine Jk (w0 := w) (n := 24) (Fs := [Jus v0]) (vs := [v0]) (bx := []) Tryz.func27 rfl rfl (Nat.le_of_ble_eq_true rfl) (Below.refl _ _) ⟨rfl,trivial⟩ (fun k G t F h => by simp at h) List.nodup_nil ?_
 intro a0 S0
 have HPRE : ∀ w',Below w.heap.size w w'→QZ w' := fun w' hb => Jb hp hb
 refine wp_seq ?_
 refine Qn [.pure (Jus (.slice none 0 0))] ⟨S0,by decide +kernel⟩ (by kernel_rfl) (by kernel_rfl) rfl (by kernel_rfl) ?_ ?_
 ·intro C
  refine ASteps.cons ?_ (ASteps.nil)
  ·exact Qk rfl rfl (Qa rfl) rfl (Qp _)
 intro γ a1 w1 Z1 S1
 replace S1 : AS w 24 [(2,Jus (.slice none 0 0)),(0,Jus v0)] [] a1 w1 := cast (by kernel_rfl) (S1.keep [0,2])
 replace HL : Frz 61 6 true Ww w1 [] g v0 ws := cast (by kernel_rfl) (Z1.frz HL)
 clear S0
 refine Qe ?_
 refine wp_seq ?_
 refine JF 2 ?_
 refine Zd [.pure (Jus v0),.pure (In (ws.length))] ⟨S1,by decide +kernel⟩ (by kernel_rfl) (by kernel_rfl) rfl (by kernel_rfl) ?_ ?_
 ·intro C
  refine ASteps.cons ?_ (ASteps.cons ?_ (ASteps.nil))
  ·exact Qj rfl rfl (Qa rfl) rfl (Qg C 1 (by kernel_rfl) rfl)
  ·exact Rh HL.1.slice rfl rfl (Qa rfl) rfl (Qc C 0 0 rfl rfl rfl rfl rfl rfl) ltW.hu
 intro γ a2 w2 Z2 S2
 replace S2 : AS w 24 [(7,In (ws.length)),(2,Jus (.slice none 0 0)),(0,Jus v0)] [] a2 w2 := cast (by kernel_rfl) (S2.keep [0,2,7])
 replace HL : Frz 61 6 true Ww w2 [] g v0 ws := cast (by kernel_rfl) (Z2.frz HL)
 clear S1
 refine Qe ?_
 refine ltT.make1 (F := (fun s : ByteArray => Tx s)) (m := ws.length) (ex := [g]) ByteArray.empty S2 (fun g' hg => by rw [List.mem_singleton.1 hg]; exact HL.1.lt) rfl rfl rfl rfl (S2.val 0 rfl) (S2.val 0 rfl) zv_text (fun w => rfl) hn ?_
 intro a3 v3 w3 S3 OT H3
 replace S3 : AS w 24 [(8,Jus v3),(2,Jus (.slice none 0 0)),(0,Jus v0)] [] a3 w3 := cast (by kernel_rfl) (S3.keep [8,2,0])
 replace HL := Frz.app HL H3 (by simp)
 clear S2
 refine Zn 3 ?_
 refine Zd [.pure (Jus v3)] ⟨S3,by decide +kernel⟩ (by kernel_rfl) (by kernel_rfl) rfl (by kernel_rfl) ?_ ?_
 ·intro C
  refine ASteps.cons ?_ (ASteps.nil)
  ·exact Qk rfl rfl (Qa rfl) rfl (Qg C 0 (by kernel_rfl) rfl)
 intro γ a4 w4 Z4 S4
 replace S4 : AS w 24 [(3,Jus v3),(2,Jus (.slice none 0 0)),(0,Jus v0)] [] a4 w4 := cast (by kernel_rfl) (S4.keep [0,2,3])
 replace OT : OwnL 22 1 false (fun s : ByteArray => Tx s) w4 w.heap.size ([] ++ [g]) v3 (List.replicate ws.length ByteArray.empty) := cast (by kernel_rfl) (Z4.own (ex := [g]) OT)
 replace HL : Frz 61 6 true Ww w4 [] g v0 ws := cast (by kernel_rfl) (Z4.frz HL)
 clear S3
 refine Qe ?_
 refine wp_seq ?_
 refine wp_seq ?_
 refine Qn [.pure (Jus v0),.pure (In (ws.length)),.pure (In (0))] ⟨S4,by decide +kernel⟩ (by kernel_rfl) (by kernel_rfl) rfl (by kernel_rfl) ?_ ?_
 ·intro C
  refine ASteps.cons ?_ (ASteps.cons ?_ (ASteps.cons ?_ (ASteps.nil)))
  ·exact Qj rfl rfl (Qa rfl) rfl (Qg C 2 (by kernel_rfl) rfl)
  ·exact Rh HL.1.slice rfl rfl (Qa rfl) rfl (Qc C 0 0 rfl rfl rfl rfl rfl rfl) ltW.hu
  ·exact Qj rfl rfl (Qa rfl) rfl (Qp _)
 intro γ a5 w5 Z5 S5
 replace S5 : AS w 24 [(11,In (0)),(10,In (ws.length)),(9,Jus v0),(3,Jus v3),(2,Jus (.slice none 0 0))] [] a5 w5 := cast (by kernel_rfl) (S5.keep [2,3,9,10,11])
 replace OT : OwnL 22 1 false (fun s : ByteArray => Tx s) w5 w.heap.size ([] ++ [g]) v3 (List.replicate ws.length ByteArray.empty) := cast (by kernel_rfl) (Z5.own (ex := [g]) OT)
 replace HL : Frz 61 6 true Ww w5 [] g v0 ws := cast (by kernel_rfl) (Z5.frz HL)
 clear S4
 refine Qe ?_
 refine wp_block ?_
 refine wp_loop (fun a w' => ∃ k : Nat,(k≤ws.length∧OwnL 22 1 false (fun s : ByteArray => Tx s) w' w.heap.size ([] ++ [g]) v3 (Yn ws k)∧Frz 61 6 true Ww w' [] g v0 ws)∧AS w 24 [(11,In (k)),(10,In (ws.length)),(9,Jus v0),(3,Jus v3)] [] a w') (fun a _ => ws.length - (intOf (a.tmps.getD 11 undef)).toNat) ⟨0,⟨Nat.zero_le _,by rw [Mw]; exact OT,HL⟩,cast (by kernel_rfl) (S5.keep [11,10,9,3])⟩ ?_
 clear S5
 intro a6 w6 hI6
 obtain ⟨k,⟨hk,OT,HL⟩,S6⟩ := hI6
 have hM : a6.tmps.getD 11 undef=.int .i64 (k : Int) := S6.val 0 rfl
 refine wp_seq ?_
 by_cases h1 : (k : Int) < ws.length
 ·
  refine Qn [.pure (Bo true)] ⟨S6,by decide +kernel⟩ (by kernel_rfl) (by kernel_rfl) rfl (by kernel_rfl) ?_ ?_
  ·intro C
   refine ASteps.cons ?_ (ASteps.nil)
   ·exact QU rfl rfl (Qa rfl) rfl (Qg C 0 (by kernel_rfl) rfl) (Qg C 1 (by kernel_rfl) rfl) (Xg _ _ _ _ _ _ (decide_eq_true h1))
  intro γ a7 w7 Z7 S7
  replace S7 : AS w 24 [(12,Bo true),(11,In (k)),(10,In (ws.length)),(9,Jus v0),(3,Jus v3)] [] a7 w7 := cast (by kernel_rfl) (S7.keep [3,9,10,11,12])
  replace OT : OwnL 22 1 false (fun s : ByteArray => Tx s) w7 w.heap.size ([] ++ [g]) v3 (Yn ws k) := cast (by kernel_rfl) (Z7.own (ex := [g]) OT)
  replace HL : Frz 61 6 true Ww w7 [] g v0 ws := cast (by kernel_rfl) (Z7.frz HL)
  clear S6
  refine Qe ?_
  refine wp_seq ?_
  refine wp_cond_true (S7.val 0 rfl) ?_
  refine wp_skip ?_
  refine Qe ?_
  refine wp_seq ?_
  refine wp_block ?_
  refine wp_seq ?_
  have hkl : k < ws.length := by omega
  obtain ⟨p,hz⟩ : ∃ p,ws[k]? = some p := ⟨_,List.getElem?_eq_getElem hkl⟩
  obtain ⟨fp1,fp2⟩ := hsz p (List.mem_of_getElem? hz)
  refine Qn [.pure (In (k)),.pure (El w7 [] 6 true (Wv (p.1) (p.2))),.pure (Wv (p.1) (p.2)),.alloc 61 (Any),.pure (In (k)),.fill 3 (Wv (p.1) (p.2))] ⟨S7,by decide +kernel⟩ (by kernel_rfl) (by kernel_rfl) rfl (by kernel_rfl) ?_ ?_
  ·intro C
   refine ASteps.cons ?_ (ASteps.cons ?_ (ASteps.cons ?_ (ASteps.cons ?_ (ASteps.cons ?_ (ASteps.cons ?_ (ASteps.nil))))))
   ·exact Qj rfl rfl (Qa rfl) rfl (Qg C 1 (by kernel_rfl) rfl)
   ·exact PG (F := Ww) k HL hz rfl rfl (Qa rfl) rfl (Qg C 3 (by kernel_rfl) rfl) (Qg C 1 (by kernel_rfl) rfl) (fun a n c w h => ltW.idx a n c w h)
   ·exact Rm rfl rfl (Qa rfl) rfl (Qc C 1 0 rfl rfl rfl rfl rfl rfl) ltW.load
   ·exact Zo [.bool false,.slice none 0 0,.slice none 0 0,.bool false,.slice none 0 0,.slice none 0 0] UX rfl rfl (Qa rfl) rfl (Jt (s0 := 5) (k := 0) (by kernel_rfl) rfl rfl rfl rfl) Yd (by simp [Qm]) (by kernel_rfl)
   ·exact Qk rfl rfl (Qa rfl) rfl (Qc C 0 0 rfl rfl rfl rfl rfl rfl)
   ·exact JO C (a := 3) (k := 0) rfl rfl rfl rfl (Qa rfl) rfl rfl rfl rfl rfl (by decide) (JZ (by kernel_rfl)) (Qc C 2 1 rfl rfl rfl rfl rfl rfl) (JR (Ym _ _))
  intro γ a8 w8 Z8 S8
  replace S8 : AS w 24 [(4,In (k)),(5,Jus (.pointer (some ⟨γ 3,0,none⟩))),(11,In (k)),(10,In (ws.length)),(9,Jus v0),(3,Jus v3)] [(γ 3,61,Wv (p.1) (p.2))] a8 w8 := cast (by kernel_rfl) (S8.keep [3,4,5,9,10,11])
  replace OT : OwnL 22 1 false (fun s : ByteArray => Tx s) w8 w.heap.size ([γ 3] ++ [g]) v3 (Yn ws k) := cast (by kernel_rfl) (Z8.own (ex := [g]) OT)
  replace HL : Frz 61 6 true Ww w8 [γ 3] g v0 ws := cast (by kernel_rfl) (Z8.frz HL)
  generalize γ 3=G8_3 at S8 OT HL
  clear S7
  refine Qe ?_
  refine JF 5 ?_
  refine Zd [.pure (Jus v3),.pure (In (k)),.pure (Wv (p.1) (p.2)),.pure (Qv ((p.2 / p.1))),.pure (Tx (tlW p))] ⟨S8,by decide +kernel⟩ (by kernel_rfl) (by kernel_rfl) rfl (by kernel_rfl) ?_ ?_
  ·intro C
   refine ASteps.cons ?_ (ASteps.cons ?_ (ASteps.cons ?_ (ASteps.cons ?_ (ASteps.cons ?_ (ASteps.nil)))))
   ·exact Qj rfl rfl (Qa rfl) rfl (Qg C 5 (by kernel_rfl) rfl)
   ·exact Qj rfl rfl (Qa rfl) rfl (Qg C 0 (by kernel_rfl) rfl)
   ·exact QG (k := 0) rfl rfl rfl (Qa rfl) rfl (Qg C 1 (by kernel_rfl) rfl) (QE (by kernel_rfl)) XY
   ·exact Ql HPRE rfl rfl (Qa rfl) rfl GD (Opns.cons (Qc C 2 0 rfl rfl rfl rfl rfl rfl) Opns.nil) ((EC fp1 fp2 (by omega)))
   ·exact Ql HPRE rfl rfl (Qa rfl) rfl Gn (Opns.cons (Qc C 3 0 rfl rfl rfl rfl rfl rfl) Opns.nil) ((NF (QS.div fp2 fp1) (by omega)))
  intro γ a9 w9 Z9 S9
  replace S9 : AS w 24 [(20,Tx (tlW p)),(17,In (k)),(16,Jus v3),(11,In (k)),(10,In (ws.length)),(9,Jus v0),(3,Jus v3)] [(G8_3,61,Wv (p.1) (p.2))] a9 w9 := cast (by kernel_rfl) (S9.keep [3,9,10,11,16,17,20])
  replace OT : OwnL 22 1 false (fun s : ByteArray => Tx s) w9 w.heap.size ([G8_3] ++ [g]) v3 (Yn ws k) := cast (by kernel_rfl) (Z9.own (ex := [g]) OT)
  replace HL : Frz 61 6 true Ww w9 [G8_3] g v0 ws := cast (by kernel_rfl) (Z9.frz HL)
  clear S8
  refine Qe ?_
  refine ltT.set1 (F := (fun s : ByteArray => Tx s)) (u := (tlW p)) (k := k) (ex := [g]) S9 OT (by rw [Nv ws k hk]; exact hkl) rfl rfl rfl rfl rfl rfl rfl (S9.val 2 rfl) (S9.val 1 rfl) (fun q => XV _ q (by simp)) (S9.fact 0 rfl) (ce_text _) ?_
  intro a10 w10 S10 O10 H10
  replace OT := O10
  replace S10 : AS w 24 [(11,In (k)),(10,In (ws.length)),(9,Jus v0),(3,Jus v3)] [(G8_3,61,Wv (p.1) (p.2))] a10 w10 := cast (by kernel_rfl) (S10.keep [11,10,9,3])
  replace HL := Frz.app HL H10 (by simp)
  clear S9
  refine wpList_nil ?_
  refine XB ?_
  refine Qe ?_
  refine Qn [.pure (In (k+1)),.pure (In (k+1))] ⟨S10,by decide +kernel⟩ (by kernel_rfl) (by kernel_rfl) rfl (by kernel_rfl) ?_ ?_
  ·intro C
   refine ASteps.cons ?_ (ASteps.cons ?_ (ASteps.nil))
   ·exact QU rfl rfl (Qa rfl) rfl (Tu C 1 0 0 rfl rfl rfl rfl rfl rfl rfl) (Qp _) (Xp _ _ _ _ _ _ (Ux (by omega) (by omega)))
   ·exact Qj rfl rfl (Qa rfl) rfl (Qc C 0 0 rfl rfl rfl rfl rfl rfl)
  intro γ a11 w11 Z11 S11
  replace S11 : AS w 24 [(11,In (k+1)),(10,In (ws.length)),(9,Jus v0),(3,Jus v3)] [(G8_3,61,Wv (p.1) (p.2))] a11 w11 := cast (by kernel_rfl) (S11.keep [3,9,10,11])
  replace OT : OwnL 22 1 false (fun s : ByteArray => Tx s) w11 w.heap.size ([G8_3] ++ [g]) v3 ((Yn ws k).set k (tlW p)) := cast (by kernel_rfl) (Z11.own (ex := [g]) OT)
  replace HL : Frz 61 6 true Ww w11 [G8_3] g v0 ws := cast (by kernel_rfl) (Z11.frz HL)
  clear S10
  refine Qe ?_
  refine ⟨⟨k+1,⟨by omega,by rw [← CZ hz]; exact OT.less (fun g hg => by simp at hg ⊢; omega),⟨HL.1,fun q => HL.2 (by simp at q ⊢)⟩⟩,cast (by kernel_rfl) ((S11.pick [0,1,2,3]).takeB 0)⟩,?_⟩
  show ws.length - (intOf (a11.tmps.getD 11 undef)).toNat < ws.length - (intOf (a6.tmps.getD 11 undef)).toNat
  rw [hM,show a11.tmps.getD 11 undef=.int .i64 ((k : Int)+1) from S11.val 0 rfl]
  simp only [intOf]
  omega
 ·
  refine Qn [.pure (Bo false)] ⟨S6,by decide +kernel⟩ (by kernel_rfl) (by kernel_rfl) rfl (by kernel_rfl) ?_ ?_
  ·intro C
   refine ASteps.cons ?_ (ASteps.nil)
   ·exact QU rfl rfl (Qa rfl) rfl (Qg C 0 (by kernel_rfl) rfl) (Qg C 1 (by kernel_rfl) rfl) (Xg _ _ _ _ _ _ (decide_eq_false h1))
  intro γ a12 w12 Z12 S12
  replace S12 : AS w 24 [(12,Bo false),(11,In (k)),(10,In (ws.length)),(9,Jus v0),(3,Jus v3)] [] a12 w12 := cast (by kernel_rfl) (S12.keep [3,9,10,11,12])
  replace OT : OwnL 22 1 false (fun s : ByteArray => Tx s) w12 w.heap.size ([] ++ [g]) v3 (Yn ws k) := cast (by kernel_rfl) (Z12.own (ex := [g]) OT)
  replace HL : Frz 61 6 true Ww w12 [] g v0 ws := cast (by kernel_rfl) (Z12.frz HL)
  clear S6
  refine Qe ?_
  refine wp_seq ?_
  refine wp_cond_false (S12.val 0 rfl) ?_
  refine wp_exit ?_
  refine Xh ?_
  refine Xh ?_
  refine Yr ?_
  refine Qe ?_
  refine wp_seq ?_
  have hkn : k=ws.length := by omega
  refine Qn [.pure (Jus v3),.pure (Jus v3)] ⟨S12,by decide +kernel⟩ (by kernel_rfl) (by kernel_rfl) rfl (by kernel_rfl) ?_ ?_
  ·intro C
   refine ASteps.cons ?_ (ASteps.cons ?_ (ASteps.nil))
   ·exact Qj rfl rfl (Qa rfl) rfl (Qg C 4 (by kernel_rfl) rfl)
   ·exact Qk rfl rfl (Qa rfl) rfl (Qc C 0 0 rfl rfl rfl rfl rfl rfl)
  intro γ a13 w13 Z13 S13
  replace S13 : AS w 24 [(2,Jus v3)] [] a13 w13 := cast (by kernel_rfl) (S13.keep [2])
  replace OT : OwnL 22 1 false (fun s : ByteArray => Tx s) w13 w.heap.size ([] ++ [g]) v3 (Yn ws k) := cast (by kernel_rfl) (Z13.own (ex := [g]) OT)
  replace HL : Frz 61 6 true Ww w13 [] g v0 ws := cast (by kernel_rfl) (Z13.frz HL)
  clear S12
  refine Qe ?_
  refine wp_ret ?_
  exact S13.ret 0 rfl rfl fun v' hv => ⟨S13.bel,v',rfl,by rw [show v'=v3 from hv,← NE,← hkn]; exact OT.less (fun g hg => by cases hg)⟩
theorem DH {w : World} {B go gb : Nat} {vn : Value} {n ox oy bx bY zx zy : Rat} {k l m : Nat} (hBw : B≤w.heap.size) (hgo : B≤go) (hgb : B≤gb) (hne : go ≠ gb) (hn : QV w vn n) (ho : BoxIs w go 61 (Wv ox oy)) (hb : BoxIs w gb 61 (Wv bx bY))
  (fbx : QS k bx) (fby : QS k bY) (fn : QS l n) (fox : QS m ox) (foy : QS m oy) (hk1 : k+l+1≤35184372088640) (hk2 : m+(k+l)+1≤35184372088640) (ezx : ox+bx*n=zx) (ezy : oy+bY*n=zy) :
  Calls Tryz.prog 58 #[vn,.pointer (some ⟨go,0,none⟩),.pointer (some ⟨gb,0,none⟩)] w fun e w' => Below B w w'∧Grows w w'∧(∀ g,g < w.heap.size→g ≠ go→g ≠ gb→w'.heap[g]? = w.heap[g]?)∧∃ v,e=.returned v∧(Tup [Wv zx zy,Wv bx bY]).on v w'∧BoxIs w' go 61 (Wv bx bY)∧BoxIs w' gb 61 (Wv zx zy) := by
 have HO : NX (fun g => g < w.heap.size∧g ≠ go∧g ≠ gb) w w [go,gb] := fun g hg => ⟨rfl,hg.1,by simp [hg.2.1,hg.2.2]⟩
 refine Jk (w0 := IG B w) (n := 14) (Fs := [Qv n,Jus (.pointer (some ⟨go,0,none⟩)),Jus (.pointer (some ⟨gb,0,none⟩))]) (vs := [vn,.pointer (some ⟨go,0,none⟩),.pointer (some ⟨gb,0,none⟩)]) (bx := [(go,61,Wv ox oy),(gb,61,Wv bx bY)]) Tryz.func58 rfl rfl (Nat.le_of_ble_eq_true rfl) (Cq hBw) ⟨hn,rfl,rfl,trivial⟩ ?_ ?_ ?_
 ·intro j G t F hj
  rw [Wy hBw]
  match j,hj with
  | 0,hj => cases hj; exact ⟨hgo,ho⟩
  | 1,hj => cases hj; exact ⟨hgb,hb⟩
  | j+2,hj => simp at hj
 ·simp [hne]
 intro a0 S0
 have HPRE : ∀ w',Below (IG B w).heap.size (IG B w) w'→Zx w' := fun _ _ => trivial
 refine wp_seq ?_
 refine Qn [.alloc 58 (Qv n),.alloc 61 (Any),.alloc 61 (Any)] ⟨S0,by decide +kernel⟩ (by kernel_rfl) (by kernel_rfl) rfl (by kernel_rfl) ?_ ?_
 ·intro C
  refine ASteps.cons ?_ (ASteps.cons ?_ (ASteps.cons ?_ (ASteps.nil)))
  ·exact ZF rfl rfl (Qa rfl) rfl (Ze (by kernel_rfl)) (Qg C 0 (by kernel_rfl) rfl) (Jp (Zm _))
  ·exact Zo [.bool false,.slice none 0 0,.slice none 0 0,.bool false,.slice none 0 0,.slice none 0 0] UX rfl rfl (Qa rfl) rfl (Ze (by kernel_rfl)) Yd (by simp [Qm]) (by kernel_rfl)
  ·exact Zo [.bool false,.slice none 0 0,.slice none 0 0,.bool false,.slice none 0 0,.slice none 0 0] UX rfl rfl (Qa rfl) rfl (Ze (by kernel_rfl)) Yd (by simp [Qm]) (by kernel_rfl)
 intro γ a1 w1 Z1 S1
 replace S1 : AS (IG B w) 14 [(5,Jus (.pointer (some ⟨γ 2,0,none⟩))),(4,Jus (.pointer (some ⟨γ 1,0,none⟩))),(3,Jus (.pointer (some ⟨γ 0,0,none⟩))),(1,Jus (.pointer (some ⟨go,0,none⟩))),(2,Jus (.pointer (some ⟨gb,0,none⟩)))] [(go,61,Wv ox oy),(gb,61,Wv bx bY),(γ 0,58,Qv n),(γ 1,61,Any),(γ 2,61,Any)] a1 w1 := cast (by kernel_rfl) (S1.keep [1,2,3,4,5])
 replace HO : NX (fun g => g < w.heap.size∧g ≠ go∧g ≠ gb) w w1 [go,gb,γ 0,γ 1,γ 2] := cast (by kernel_rfl) (Z1.outs HO)
 generalize γ 0=G1_0 at S1 HO
 generalize γ 1=G1_1 at S1 HO
 generalize γ 2=G1_2 at S1 HO
 clear S0
 refine Qe ?_
 refine wp_seq ?_
 refine Qn [.pure (Wv ox oy),.pure (Wv bx bY),.pure (Qv n),.pure (Wv (bx*n) (bY*n)),.pure (Wv zx zy),.pure (Wv bx bY),.over 1 (Wv zx zy),.over 0 (Wv bx bY)] ⟨S1,by decide +kernel⟩ (by kernel_rfl) (by kernel_rfl) rfl (by kernel_rfl) ?_ ?_
 ·intro C
  refine ASteps.cons ?_ (ASteps.cons ?_ (ASteps.cons ?_ (ASteps.cons ?_ (ASteps.cons ?_ (ASteps.cons ?_ (ASteps.cons ?_ (ASteps.cons ?_ (ASteps.nil))))))))
  ·exact QG (k := 0) rfl rfl rfl (Qa rfl) rfl (Qg C 3 (by kernel_rfl) rfl) (XQ (s0 := 7) (k := 2) (by kernel_rfl) rfl rfl rfl rfl) XY
  ·exact QG (k := 1) rfl rfl rfl (Qa rfl) rfl (Qg C 4 (by kernel_rfl) rfl) (XQ (s0 := 6) (k := 3) (by kernel_rfl) rfl rfl rfl rfl) XY
  ·exact QG (k := 2) rfl rfl rfl (Qa rfl) rfl (Qg C 2 (by kernel_rfl) rfl) (QE (by kernel_rfl)) QT
  ·exact Ql HPRE rfl rfl (Qa rfl) rfl Re (Opns.cons (Qc C 1 0 rfl rfl rfl rfl rfl rfl) (Opns.cons (Qc C 2 1 rfl rfl rfl rfl rfl rfl) Opns.nil)) ((Me fbx fby fn hk1))
  ·exact Ql HPRE rfl rfl (Qa rfl) rfl Tg (Opns.cons (Qc C 0 0 rfl rfl rfl rfl rfl rfl) (Opns.cons (Qc C 3 1 rfl rfl rfl rfl rfl rfl) Opns.nil)) ((ezx ▸ ezy ▸ Ex fox foy (QS.mul fbx fn) (QS.mul fby fn) hk2))
  ·exact QG (k := 1) rfl rfl rfl (Qa rfl) rfl (Qg C 4 (by kernel_rfl) rfl) (XQ (s0 := 6) (k := 7) (by kernel_rfl) rfl rfl rfl rfl) XY
  ·exact ZE C (k := 1) rfl rfl rfl (Qa rfl) rfl (Qg C 4 (by kernel_rfl) rfl) (by decide) (ZM (by kernel_rfl)) (Qc C 4 0 rfl rfl rfl rfl rfl rfl) (JR (Ym _ _))
  ·exact ZE C (k := 0) rfl rfl rfl (Qa rfl) rfl (Qg C 3 (by kernel_rfl) rfl) (by decide) (ZM (by kernel_rfl)) (Qc C 5 0 rfl rfl rfl rfl rfl rfl) (JR (Ym _ _))
 intro γ a2 w2 Z2 S2
 replace S2 : AS (IG B w) 14 [(5,Jus (.pointer (some ⟨G1_2,0,none⟩))),(4,Jus (.pointer (some ⟨G1_1,0,none⟩))),(1,Jus (.pointer (some ⟨go,0,none⟩))),(2,Jus (.pointer (some ⟨gb,0,none⟩)))] [(go,61,Wv bx bY),(gb,61,Wv zx zy),(G1_0,58,Qv n),(G1_1,61,Any),(G1_2,61,Any)] a2 w2 := cast (by kernel_rfl) (S2.keep [1,2,4,5])
 replace HO : NX (fun g => g < w.heap.size∧g ≠ go∧g ≠ gb) w w2 [go,gb,G1_0,G1_1,G1_2] := cast (by kernel_rfl) (Z2.outs HO)
 clear S1
 refine Qe ?_
 refine wp_seq ?_
 refine Qn [.pure (Wv zx zy),.pure (Wv bx bY),.over 3 (Wv zx zy),.over 4 (Wv bx bY)] ⟨S2,by decide +kernel⟩ (by kernel_rfl) (by kernel_rfl) rfl (by kernel_rfl) ?_ ?_
 ·intro C
  refine ASteps.cons ?_ (ASteps.cons ?_ (ASteps.cons ?_ (ASteps.cons ?_ (ASteps.nil))))
  ·exact QG (k := 1) rfl rfl rfl (Qa rfl) rfl (Qg C 3 (by kernel_rfl) rfl) (QE (by kernel_rfl)) XY
  ·exact QG (k := 0) rfl rfl rfl (Qa rfl) rfl (Qg C 2 (by kernel_rfl) rfl) (QE (by kernel_rfl)) XY
  ·exact ZE C (k := 3) rfl rfl rfl (Qa rfl) rfl (Qg C 1 (by kernel_rfl) rfl) (by decide) (ZM (by kernel_rfl)) (Qc C 0 0 rfl rfl rfl rfl rfl rfl) (JR (Ym _ _))
  ·exact ZE C (k := 4) rfl rfl rfl (Qa rfl) rfl (Qg C 0 (by kernel_rfl) rfl) (by decide) (ZM (by kernel_rfl)) (Qc C 1 0 rfl rfl rfl rfl rfl rfl) (JR (Ym _ _))
 intro γ a3 w3 Z3 S3
 replace S3 : AS (IG B w) 14 [(5,Jus (.pointer (some ⟨G1_2,0,none⟩))),(4,Jus (.pointer (some ⟨G1_1,0,none⟩)))] [(go,61,Wv bx bY),(gb,61,Wv zx zy),(G1_0,58,Qv n),(G1_1,61,Wv zx zy),(G1_2,61,Wv bx bY)] a3 w3 := cast (by kernel_rfl) (S3.keep [4,5])
 replace HO : NX (fun g => g < w.heap.size∧g ≠ go∧g ≠ gb) w w3 [go,gb,G1_0,G1_1,G1_2] := cast (by kernel_rfl) (Z3.outs HO)
 clear S2
 refine Qe ?_
 refine wp_ret ?_
 exact S3.ret22 1 3 0 4 rfl rfl rfl XY rfl rfl XY fun v hv => ⟨EW hBw S3.bel (Z1.gro.trans (Z2.gro.trans Z3.gro)).size,(Z1.gro.trans (Z2.gro.trans Z3.gro)),fun g h1 h2 h3 => (HO g ⟨h1,h2,h3⟩).1,v,rfl,hv,(S3.box 0 _ _ _ rfl).2,(S3.box 1 _ _ _ rfl).2⟩
theorem Nu {s : ByteArray} {x : Rat} (hs : s.size≤4294967296) (hx : Cx.rd s.data.toList=x) : Con Tryz.prog QZ 26 [Tx s] (Qv x) := fun w vs hp h => by
 obtain ⟨v0,rfl,h0⟩ := Xu h
 cases h0
 refine (Kv s w hs).mono ?_
 rintro e w' ⟨hb,v,e1,h⟩
 exact ⟨hb,v,e1,hx ▸ h⟩
theorem TY {K : Nat} : ∀ (m : Nat) (a : Int) (b : Nat),b < m→a.natAbs < 2 ^ K→b < 2 ^ K→∀ z ∈ cf a b,z.natAbs < 2 ^ K
 | 0,_,_,h,_,_,_,_ => absurd h (Nat.not_lt_zero _)
 | m+1,a,b,h,ha,hb,z,hz => by
  by_cases h0 : b=0
  ·subst h0
   rw [YZ] at hz
   cases hz
  ·rw [Va a h0] at hz
   have hr := TU a h0
   rcases List.mem_cons.1 hz with rfl | hz
   ·exact Po ha
   ·exact TY m (b : Int) _ (by omega) (by rw [Int.natAbs_natCast]; exact hb) (Nat.lt_trans hr hb) z hz
theorem Sr {a : Int} {b : Nat} (h : ¬ b=0) : cf a b ≠ [] := by
 rw [Va a h]
 exact List.cons_ne_nil _ _
def UH (s : Int × Int × Int × Int) (k : Int) : Int × Int × Int × Int := (s.2.2.1+s.1*k,s.2.2.2+s.2.1*k,s.1,s.2.1)
def Zc (l : List Int) (k : Nat) : Int × Int × Int × Int := (l.take k).foldl UH (0,1,1,0)
def hB1 (l : List Int) (k : Nat) : Rat := ((Zc l k).1 : Rat)
def hB2 (l : List Int) (k : Nat) : Rat := ((Zc l k).2.1 : Rat)
def hO1 (l : List Int) (k : Nat) : Rat := ((Zc l k).2.2.1 : Rat)
def hO2 (l : List Int) (k : Nat) : Rat := ((Zc l k).2.2.2 : Rat)
theorem Yw {l : List Int} {k : Nat} {z : Int} (h : l[k]? = some z) : Zc l (k+1)=UH (Zc l k) z := by
 unfold Zc
 rw [List.take_add_one,h]
 simp
theorem h_next {l : List Int} {k : Nat} {z : Int} (h : l[k]? = some z) : hO1 l k+hB1 l k*((z : Int) : Rat)=hB1 l (k+1)∧hO2 l k+hB2 l k*((z : Int) : Rat)=hB2 l (k+1)∧hB1 l k=hO1 l (k+1)∧hB2 l k=hO2 l (k+1) := by
 unfold hB1 hB2 hO1 hO2
 rw [Yw h]
 unfold UH
 exact ⟨by rw [Rat.intCast_add,Rat.intCast_mul],by rw [Rat.intCast_add,Rat.intCast_mul],rfl,rfl⟩
theorem Fh (l : List Int) : hB1 l 0=((0 : Int) : Rat)∧hB2 l 0=((1 : Int) : Rat)∧hO1 l 0=((1 : Int) : Rat)∧hO2 l 0=((0 : Int) : Rat) := ⟨rfl,rfl,rfl,rfl⟩
theorem Ga {K : Nat} : ∀ (l : List Int) (m : Nat) (s : Int × Int × Int × Int),(∀ z ∈ l,z.natAbs < 2 ^ K)→s.1.natAbs < 2 ^ m∧s.2.1.natAbs < 2 ^ m∧s.2.2.1.natAbs < 2 ^ m∧s.2.2.2.natAbs < 2 ^ m→(l.foldl UH s).1.natAbs < 2 ^ (m+(K+1)*l.length)∧(l.foldl UH s).2.1.natAbs < 2 ^ (m+(K+1)*l.length)∧(l.foldl UH s).2.2.1.natAbs < 2 ^ (m+(K+1)*l.length)∧(l.foldl UH s).2.2.2.natAbs < 2 ^ (m+(K+1)*l.length)
 | [],m,s,_,h => h
 | z :: l,m,s,hl,h => by
  have hz := hl z List.mem_cons_self
  obtain ⟨h1,h2,h3,h4⟩ := h
  have up : ∀ x : Int,x.natAbs < 2 ^ m→x.natAbs < 2 ^ (m+(K+1)) := fun x hx => Nat.lt_of_lt_of_le hx (Nat.pow_le_pow_right (by decide) (by omega))
  have key : ∀ x y : Int,x.natAbs < 2 ^ m→y.natAbs < 2 ^ m→(x+y*z).natAbs < 2 ^ (m+(K+1)) := fun x y hx hy => by
   have h5 : y.natAbs*z.natAbs < 2 ^ m*2 ^ K := Nat.mul_lt_mul'' hy hz
   have h6 : 2 ^ (m+(K+1))=2 ^ m*2 ^ K+2 ^ m*2 ^ K := by
    rw [show m+(K+1)=(m+K)+1 by omega,Nat.pow_succ,Nat.pow_add]
    omega
   have h7 : 2 ^ m≤2 ^ m*2 ^ K := Nat.le_mul_of_pos_right _ (Nat.two_pow_pos K)
   have h8 : (x+y*z).natAbs≤x.natAbs+y.natAbs*z.natAbs := by
    rw [← Int.natAbs_mul]
    exact Int.natAbs_add_le _ _
   omega
  have := Ga l (m+(K+1)) (UH s z) (fun j hj => hl j (List.mem_cons_of_mem _ hj)) ⟨key _ _ h3 h1,key _ _ h4 h2,up _ h1,up _ h2⟩
  rw [List.length_cons,show m+(K+1)*(l.length+1)=m+(K+1)+(K+1)*l.length by rw [Nat.mul_add]; omega]
  exact this
theorem Df {l : List Int} (hl : ∀ z ∈ l,z.natAbs < 2 ^ 245) (hn : l.length≤490) (k : Nat) : QS 120542 (hB1 l k)∧QS 120542 (hB2 l k)∧QS 120542 (hO1 l k)∧QS 120542 (hO2 l k) := by
 have h := Ga (K := 245) (l.take k) 2 (0,1,1,0) (fun z hz => hl z (List.mem_of_mem_take hz)) (by decide)
 have hlen : 2+(245+1)*(l.take k).length≤120542 := by
  rw [List.length_take]
  omega
 have up : ∀ K : Nat,2+(245+1)*(l.take k).length≤K→∀ x : Int,x.natAbs < 2 ^ (2+(245+1)*(l.take k).length)→QS K ((x : Int) : Rat) := fun K hK x hx => QS.whole (by omega) (Nat.lt_of_lt_of_le hx (Nat.pow_le_pow_right (by decide) hK))
 exact ⟨up _ hlen _ h.1,up _ hlen _ h.2.1,up _ hlen _ h.2.2.1,up _ hlen _ h.2.2.2⟩
def wsI (l : List Int) (k : Nat) : List (Rat × Rat) := (List.range k).map fun j => (hB1 l (j+1),hB2 l (j+1))
theorem LD (l : List Int) (k : Nat) : wsI l k ++ [(hB1 l (k+1),hB2 l (k+1))]=wsI l (k+1) := by
 unfold wsI
 rw [List.range_succ,List.map_append]
 rfl
theorem Tz (l : List Int) (k : Nat) : (wsI l k).length=k := by simp [wsI]
theorem wsI_mem {l : List Int} (hl : ∀ z ∈ l,z.natAbs < 2 ^ 245) (hn : l.length≤490) (k : Nat) : ∀ p ∈ wsI l k,QS 120542 p.1∧QS 120542 p.2 := fun p hp => by
 obtain ⟨j,_,rfl⟩ := List.mem_map.1 hp
 have := Df hl hn (j+1)
 exact ⟨this.1,this.2.1⟩
theorem Dx {w : World} {B go gb : Nat} {vn : Value} {n ox oy bx bY zx zy ux uy : Rat} (hBw : B≤w.heap.size) (hgo : B≤go) (hgb : B≤gb) (hne : go ≠ gb) (hn : QV w vn n) (ho : BoxIs w go 61 (Wv ox oy)) (hb : BoxIs w gb 61 (Wv bx bY))
  (f1 : QS 120542 bx) (f2 : QS 120542 bY) (f3 : QS 245 n) (f4 : QS 120542 ox) (f5 : QS 120542 oy) (e : ox+bx*n=zx∧oy+bY*n=zy∧bx=ux∧bY=uy) :
  Calls Tryz.prog 58 #[vn,.pointer (some ⟨go,0,none⟩),.pointer (some ⟨gb,0,none⟩)] w fun e w' => Below B w w'∧Grows w w'∧(∀ g,g < w.heap.size→g ≠ go→g ≠ gb→w'.heap[g]? = w.heap[g]?)∧∃ v,e=.returned v∧(Tup [Wv zx zy,Wv ux uy]).on v w'∧BoxIs w' go 61 (Wv ux uy)∧BoxIs w' gb 61 (Wv zx zy) := by
 obtain ⟨e1,e2,rfl,rfl⟩ := e
 exact DH hBw hgo hgb hne hn ho hb f1 f2 f3 f4 f5 (by decide) (by decide) e1 e2
def QJ (q : Rat) : List ByteArray := (wsI (cf q.num q.den) (cf q.num q.den).length).map tlW
theorem Ez {w : World} {s : ByteArray} {q : Rat} (hrd : Cx.rd s.data.toList=q) (hs60 : s.size≤60) (hp : QZ w) : Calls Tryz.prog 5 #[.string s] w fun e w' => Below w.heap.size w w'∧∃ v,e=.returned (.tuple #[v,.int .i64 0])∧OwnL 22 1 false (fun s : ByteArray => Tx s) w' w.heap.size [] v (QJ q) := by
 have h60 : ¬ (60 : Int) < s.size := by omega
 have fq : QS 245 q := by
  rw [← hrd]
  refine QS.mono (QS.rd _) ?_
  have : s.data.toList.length=s.size := Array.length_toList
  omega
 have hl2 : ∀ z ∈ cf q.num q.den,z.natAbs < 2 ^ 245 := TY (q.den+1) _ _ (by omega) fq.num fq.den
 have hl1 : (cf q.num q.den).length≤490 := Dh 245 _ _ fq.den
 refine Jk (w0 := w) (n := 35) (Fs := [Tx s]) (vs := [.string s]) (bx := []) Tryz.func5 rfl rfl (Nat.le_of_ble_eq_true rfl) (Below.refl _ _) ⟨rfl,trivial⟩ (fun k G t F h => by simp at h) List.nodup_nil ?_
 intro a0 S0
 have HPRE : ∀ w',Below w.heap.size w w'→QZ w' := fun w' hb => Jb hp hb
 refine wp_seq ?_
 refine Qn [.pure (Jus (.slice none 0 0)),.pure (In (0))] ⟨S0,by decide +kernel⟩ (by kernel_rfl) (by kernel_rfl) rfl (by kernel_rfl) ?_ ?_
 ·intro C
  refine ASteps.cons ?_ (ASteps.cons ?_ (ASteps.nil))
  ·exact Qk rfl rfl (Qa rfl) rfl (Qp _)
  ·exact Qk rfl rfl (Qa rfl) rfl (Qp _)
 intro γ a1 w1 Z1 S1
 replace S1 : AS w 35 [(3,In (0)),(2,Jus (.slice none 0 0)),(0,Tx (s))] [] a1 w1 := cast (by kernel_rfl) (S1.keep [0,2,3])
 clear S0
 refine Qe ?_
 refine wp_seq ?_
 refine wp_seq ?_
 refine Qn [.pure (Tx (s)),.pure (In (s.size)),.pure (Bo false)] ⟨S1,by decide +kernel⟩ (by kernel_rfl) (by kernel_rfl) rfl (by kernel_rfl) ?_ ?_
 ·intro C
  refine ASteps.cons ?_ (ASteps.cons ?_ (ASteps.cons ?_ (ASteps.nil)))
  ·exact Qj rfl rfl (Qa rfl) rfl (Qg C 2 (by kernel_rfl) rfl)
  ·exact PD rfl rfl (Qa rfl) rfl (Qc C 0 0 rfl rfl rfl rfl rfl rfl) Tryz.underlying22
  ·exact QU rfl rfl (Qa rfl) rfl (Qc C 1 0 rfl rfl rfl rfl rfl rfl) (Qp _) (UT _ _ _ _ _ _ (decide_eq_false h60))
 intro γ a2 w2 Z2 S2
 replace S2 : AS w 35 [(12,Bo false),(3,In (0)),(2,Jus (.slice none 0 0)),(0,Tx (s))] [] a2 w2 := cast (by kernel_rfl) (S2.keep [0,2,3,12])
 clear S1
 refine Qe ?_
 refine wp_cond_false (S2.val 0 rfl) ?_
 refine wp_skip ?_
 refine Qe ?_
 refine wp_seq ?_
 refine Qn [.pure (Jus (.slice none 0 0))] ⟨S2,by decide +kernel⟩ (by kernel_rfl) (by kernel_rfl) rfl (by kernel_rfl) ?_ ?_
 ·intro C
  refine ASteps.cons ?_ (ASteps.nil)
  ·exact Qk rfl rfl (Qa rfl) rfl (Qp _)
 intro γ a3 w3 Z3 S3
 replace S3 : AS w 35 [(4,Jus (.slice none 0 0)),(3,In (0)),(2,Jus (.slice none 0 0)),(0,Tx (s))] [] a3 w3 := cast (by kernel_rfl) (S3.keep [0,2,3,4])
 clear S2
 refine Qe ?_
 refine wp_seq ?_
 refine wp_region_lit ?_
 refine Zw rfl rfl TZ ?_
 rw [Array.map_empty]
 refine (PT (HPRE _ S3.bel)).mono ?_
 rintro _ wk ⟨hbk,go,gb,rfl,hgo,hgb,hne,hbo,hbb⟩
 refine ⟨_,rfl,?_⟩
 have S4 := S3.call (t := 13) (F := Jus (.func (.func 58) #[] #[.pointer (some ⟨go,0,none⟩),.pointer (some ⟨gb,0,none⟩)])) (nbx := [(go,61,Wv (((1 : Int) : Rat)) (((0 : Int) : Rat))),(gb,61,Wv (((0 : Int) : Rat)) (((1 : Int) : Rat)))]) rfl hbk rfl (fun j G t F hj => by
  match j,hj with
  | 0,hj => cases hj; exact ⟨hgo,hbo⟩
  | 1,hj => cases hj; exact ⟨hgb,hbb⟩
  | j+2,hj => simp at hj) (by simp [hne])
 obtain ⟨a4,ea4⟩ : ∃ a : Act,a=a3.put (some 13) (.func (.func 58) #[] #[.pointer (some ⟨go,0,none⟩),.pointer (some ⟨gb,0,none⟩)]) := ⟨_,rfl⟩
 rw [← ea4] at S4
 show wpList _ _ _ _ (a3.put (some 13) _) wk
 rw [← ea4]
 obtain ⟨w4,ew4⟩ : ∃ w : World,w=wk := ⟨_,rfl⟩
 subst ew4
 replace S4 : AS w 35 [(13,Jus (.func (.func 58) #[] #[.pointer (some ⟨go,0,none⟩),.pointer (some ⟨gb,0,none⟩)])),(4,Jus (.slice none 0 0)),(3,In (0)),(2,Jus (.slice none 0 0)),(0,Tx (s))] [(go,61,Wv (((1 : Int) : Rat)) (((0 : Int) : Rat))),(gb,61,Wv (((0 : Int) : Rat)) (((1 : Int) : Rat)))] a4 w4 := cast (by kernel_rfl) (S4.keep [13,4,3,2,0])
 clear S3 ea4
 refine Zn 1 ?_
 refine Zd [.pure (Jus (.func (.func 58) #[] #[.pointer (some ⟨go,0,none⟩),.pointer (some ⟨gb,0,none⟩)]))] ⟨S4,by decide +kernel⟩ (by kernel_rfl) (by kernel_rfl) rfl (by kernel_rfl) ?_ ?_
 ·intro C
  refine ASteps.cons ?_ (ASteps.nil)
  ·exact Qk rfl rfl (Qa rfl) rfl (Qg C 0 (by kernel_rfl) rfl)
 intro γ a5 w5 Z5 S5
 replace S5 : AS w 35 [(5,Jus (.func (.func 58) #[] #[.pointer (some ⟨go,0,none⟩),.pointer (some ⟨gb,0,none⟩)])),(4,Jus (.slice none 0 0)),(3,In (0)),(2,Jus (.slice none 0 0)),(0,Tx (s))] [(go,61,Wv (((1 : Int) : Rat)) (((0 : Int) : Rat))),(gb,61,Wv (((0 : Int) : Rat)) (((1 : Int) : Rat)))] a5 w5 := cast (by kernel_rfl) (S5.keep [0,2,3,4,5])
 clear S4
 refine Qe ?_
 refine wp_seq ?_
 refine wp_seq ?_
 refine JF 2 ?_
 refine Zd [.pure (Tx (s)),.pure (Qv q)] ⟨S5,by decide +kernel⟩ (by kernel_rfl) (by kernel_rfl) rfl (by kernel_rfl) ?_ ?_
 ·intro C
  refine ASteps.cons ?_ (ASteps.cons ?_ (ASteps.nil))
  ·exact Qj rfl rfl (Qa rfl) rfl (Qg C 4 (by kernel_rfl) rfl)
  ·exact Ql HPRE rfl rfl (Qa rfl) rfl Cn (Opns.cons (Qc C 0 0 rfl rfl rfl rfl rfl rfl) Opns.nil) ((Nu (by omega) hrd))
 intro γ a6 w6 Z6 S6
 replace S6 : AS w 35 [(15,Qv q),(5,Jus (.func (.func 58) #[] #[.pointer (some ⟨go,0,none⟩),.pointer (some ⟨gb,0,none⟩)])),(4,Jus (.slice none 0 0)),(3,In (0)),(2,Jus (.slice none 0 0))] [(go,61,Wv (((1 : Int) : Rat)) (((0 : Int) : Rat))),(gb,61,Wv (((0 : Int) : Rat)) (((1 : Int) : Rat)))] a6 w6 := cast (by kernel_rfl) (S6.keep [2,3,4,5,15])
 clear S5
 refine Qe ?_
 refine Zw rfl rfl IM ?_
 rw [show (#[Operand.tmp 15] : Array Operand).map a6.eval=#[a6.eval (.tmp 15)] from by simp]
 refine (KV (S6.fact 0 rfl) fq (by decide) (HPRE _ S6.bel)).mono ?_
 rintro _ wu ⟨hbu,vn,rfl,hO⟩
 refine ⟨vn,rfl,?_⟩
 obtain ⟨g,hgB,_,hA⟩ := hO.at (Sr q.den_nz)
 have hG0 : go < w6.heap.size := (S6.box 0 _ _ _ rfl).2.lt
 have hG1 : gb < w6.heap.size := (S6.box 1 _ _ _ rfl).2.lt
 have HL : Frz 58 3 true (fun z : Int => Qv ((z : Int) : Rat)) wu [go,gb] g vn (cf q.num q.den) := ⟨hA,fun q => by simp at q; omega⟩
 have S7 := S6.call (t := 16) (F := Jus vn) (nbx := []) rfl hbu rfl (fun j G t F hj => by simp at hj) List.nodup_nil
 obtain ⟨a7,ea7⟩ : ∃ a : Act,a=a6.put (some 16) (vn) := ⟨_,rfl⟩
 rw [← ea7] at S7
 show wpList _ _ _ _ (a6.put (some 16) _) wu
 rw [← ea7]
 obtain ⟨w7,ew7⟩ : ∃ w : World,w=wu := ⟨_,rfl⟩
 subst ew7
 replace S7 : AS w 35 [(16,Jus vn),(5,Jus (.func (.func 58) #[] #[.pointer (some ⟨go,0,none⟩),.pointer (some ⟨gb,0,none⟩)])),(4,Jus (.slice none 0 0)),(3,In (0)),(2,Jus (.slice none 0 0))] [(go,61,Wv (((1 : Int) : Rat)) (((0 : Int) : Rat))),(gb,61,Wv (((0 : Int) : Rat)) (((1 : Int) : Rat)))] a7 w7 := cast (by kernel_rfl) (S7.keep [16,5,4,3,2])
 clear S6 ea7
 refine Zn 3 ?_
 refine Zd [.pure (In ((cf q.num q.den).length)),.pure (In (0))] ⟨S7,by decide +kernel⟩ (by kernel_rfl) (by kernel_rfl) rfl (by kernel_rfl) ?_ ?_
 ·intro C
  refine ASteps.cons ?_ (ASteps.cons ?_ (ASteps.nil))
  ·exact Rh HL.1.slice rfl rfl (Qa rfl) rfl (Qg C 0 (by kernel_rfl) rfl) ltQ.hu
  ·exact Qj rfl rfl (Qa rfl) rfl (Qp _)
 intro γ a8 w8 Z8 S8
 replace S8 : AS w 35 [(18,In (0)),(17,In ((cf q.num q.den).length)),(16,Jus vn),(5,Jus (.func (.func 58) #[] #[.pointer (some ⟨go,0,none⟩),.pointer (some ⟨gb,0,none⟩)])),(4,Jus (.slice none 0 0)),(3,In (0)),(2,Jus (.slice none 0 0))] [(go,61,Wv (((1 : Int) : Rat)) (((0 : Int) : Rat))),(gb,61,Wv (((0 : Int) : Rat)) (((1 : Int) : Rat)))] a8 w8 := cast (by kernel_rfl) (S8.keep [2,3,4,5,16,17,18])
 replace HL : Frz 58 3 true (fun z : Int => Qv ((z : Int) : Rat)) w8 [go,gb] g vn (cf q.num q.den) := cast (by kernel_rfl) (Z8.frz HL)
 clear S7
 refine Qe ?_
 refine wp_block ?_
 refine wp_loop (fun a w' => ∃ (k : Nat) (v : Value),(k≤(cf q.num q.den).length∧OwnL 61 6 true Ww w' w.heap.size ([go,gb] ++ [g]) v (wsI (cf q.num q.den) k)∧Frz 58 3 true (fun z : Int => Qv ((z : Int) : Rat)) w' [go,gb] g vn (cf q.num q.den))∧AS w 35 [(18,In (k)),(17,In ((cf q.num q.den).length)),(16,Jus vn),(5,Jus (.func (.func 58) #[] #[.pointer (some ⟨go,0,none⟩),.pointer (some ⟨gb,0,none⟩)])),(4,Jus v)] [(go,61,Wv ((hO1 (cf q.num q.den) k)) ((hO2 (cf q.num q.den) k))),(gb,61,Wv ((hB1 (cf q.num q.den) k)) ((hB2 (cf q.num q.den) k)))] a w') (fun a _ => (cf q.num q.den).length - (intOf (a.tmps.getD 18 undef)).toNat) ⟨0,.slice none 0 0,⟨Nat.zero_le _,Or.inl ⟨rfl,rfl⟩,HL⟩,AS.conv (S8.keep [18,17,16,5,4]) (by kernel_rfl) (by rw [(Fh (cf q.num q.den)).1,(Fh (cf q.num q.den)).2.1,(Fh (cf q.num q.den)).2.2.1,(Fh (cf q.num q.den)).2.2.2])⟩ ?_
 clear S8
 intro a9 w9 hI9
 obtain ⟨k,v,⟨hk,ON,HL⟩,S9⟩ := hI9
 have hM : a9.tmps.getD 18 undef=.int .i64 (k : Int) := S9.val 0 rfl
 have hs := Df hl2 hl1 k
 refine wp_seq ?_
 by_cases h1 : (k : Int) < (cf q.num q.den).length
 ·
  refine Qn [.pure (Bo true)] ⟨S9,by decide +kernel⟩ (by kernel_rfl) (by kernel_rfl) rfl (by kernel_rfl) ?_ ?_
  ·intro C
   refine ASteps.cons ?_ (ASteps.nil)
   ·exact QU rfl rfl (Qa rfl) rfl (Qg C 0 (by kernel_rfl) rfl) (Qg C 1 (by kernel_rfl) rfl) (Xg _ _ _ _ _ _ (decide_eq_true h1))
  intro γ a10 w10 Z10 S10
  replace S10 : AS w 35 [(19,Bo true),(18,In (k)),(17,In ((cf q.num q.den).length)),(16,Jus vn),(5,Jus (.func (.func 58) #[] #[.pointer (some ⟨go,0,none⟩),.pointer (some ⟨gb,0,none⟩)])),(4,Jus v)] [(go,61,Wv ((hO1 (cf q.num q.den) k)) ((hO2 (cf q.num q.den) k))),(gb,61,Wv ((hB1 (cf q.num q.den) k)) ((hB2 (cf q.num q.den) k)))] a10 w10 := cast (by kernel_rfl) (S10.keep [4,5,16,17,18,19])
  replace ON : OwnL 61 6 true Ww w10 w.heap.size ([go,gb] ++ [g]) v (wsI (cf q.num q.den) k) := cast (by kernel_rfl) (Z10.own (ex := [g]) ON)
  replace HL : Frz 58 3 true (fun z : Int => Qv ((z : Int) : Rat)) w10 [go,gb] g vn (cf q.num q.den) := cast (by kernel_rfl) (Z10.frz HL)
  clear S9
  refine Qe ?_
  refine wp_seq ?_
  refine wp_cond_true (S10.val 0 rfl) ?_
  refine wp_skip ?_
  refine Qe ?_
  refine wp_seq ?_
  refine wp_block ?_
  refine wp_seq ?_
  have hkl : k < (cf q.num q.den).length := by omega
  obtain ⟨z,hz⟩ : ∃ z,(cf q.num q.den)[k]? = some z := ⟨_,List.getElem?_eq_getElem hkl⟩
  have fz : QS 245 ((z : Int) : Rat) := DN (by decide) (hl2 z (List.mem_of_getElem? hz))
  refine Qn [.pure (El w10 [go,gb] 3 true (Qv (((z : Int) : Rat)))),.pure (Qv (((z : Int) : Rat))),.alloc 58 (Any),.fill 2 (Qv (((z : Int) : Rat)))] ⟨S10,by decide +kernel⟩ (by kernel_rfl) (by kernel_rfl) rfl (by kernel_rfl) ?_ ?_
  ·intro C
   refine ASteps.cons ?_ (ASteps.cons ?_ (ASteps.cons ?_ (ASteps.cons ?_ (ASteps.nil))))
   ·exact PG (F := (fun z : Int => Qv ((z : Int) : Rat))) k HL hz rfl rfl (Qa rfl) rfl (Qg C 3 (by kernel_rfl) rfl) (Qg C 1 (by kernel_rfl) rfl) (fun a n c w h => ltQ.idx a n c w h)
   ·exact Rm rfl rfl (Qa rfl) rfl (Qc C 0 0 rfl rfl rfl rfl rfl rfl) ltQ.load
   ·exact Zo [.bool false,.slice none 0 0,.slice none 0 0] YC rfl rfl (Qa rfl) rfl (Jt (s0 := 3) (k := 0) (by kernel_rfl) rfl rfl rfl rfl) JH (by simp [Qm]) (by kernel_rfl)
   ·exact JO C (a := 2) (k := 0) rfl rfl rfl rfl (Qa rfl) rfl rfl rfl rfl rfl (by decide) (JZ (by kernel_rfl)) (Qc C 1 1 rfl rfl rfl rfl rfl rfl) (Jg (Zm _))
  intro γ a11 w11 Z11 S11
  replace S11 : AS w 35 [(7,Jus (.pointer (some ⟨γ 2,0,none⟩))),(18,In (k)),(17,In ((cf q.num q.den).length)),(16,Jus vn),(5,Jus (.func (.func 58) #[] #[.pointer (some ⟨go,0,none⟩),.pointer (some ⟨gb,0,none⟩)])),(4,Jus v)] [(go,61,Wv ((hO1 (cf q.num q.den) k)) ((hO2 (cf q.num q.den) k))),(gb,61,Wv ((hB1 (cf q.num q.den) k)) ((hB2 (cf q.num q.den) k))),(γ 2,58,Qv (((z : Int) : Rat)))] a11 w11 := cast (by kernel_rfl) (S11.keep [4,5,7,16,17,18])
  replace ON : OwnL 61 6 true Ww w11 w.heap.size ([go,gb,γ 2] ++ [g]) v (wsI (cf q.num q.den) k) := cast (by kernel_rfl) (Z11.own (ex := [g]) ON)
  replace HL : Frz 58 3 true (fun z : Int => Qv ((z : Int) : Rat)) w11 [go,gb,γ 2] g vn (cf q.num q.den) := cast (by kernel_rfl) (Z11.frz HL)
  generalize γ 2=G11_2 at S11 ON HL
  clear S10
  refine Qe ?_
  refine wp_seq ?_
  refine JF 2 ?_
  refine Zd [.pure (Jus (.func (.func 58) #[] #[.pointer (some ⟨go,0,none⟩),.pointer (some ⟨gb,0,none⟩)])),.pure (Qv (((z : Int) : Rat)))] ⟨S11,by decide +kernel⟩ (by kernel_rfl) (by kernel_rfl) rfl (by kernel_rfl) ?_ ?_
  ·intro C
   refine ASteps.cons ?_ (ASteps.cons ?_ (ASteps.nil))
   ·exact Qj rfl rfl (Qa rfl) rfl (Qg C 4 (by kernel_rfl) rfl)
   ·exact QG (k := 2) rfl rfl rfl (Qa rfl) rfl (Qg C 0 (by kernel_rfl) rfl) (QE (by kernel_rfl)) QT
  intro γ a12 w12 Z12 S12
  replace S12 : AS w 35 [(24,Qv (((z : Int) : Rat))),(23,Jus (.func (.func 58) #[] #[.pointer (some ⟨go,0,none⟩),.pointer (some ⟨gb,0,none⟩)])),(18,In (k)),(17,In ((cf q.num q.den).length)),(16,Jus vn),(5,Jus (.func (.func 58) #[] #[.pointer (some ⟨go,0,none⟩),.pointer (some ⟨gb,0,none⟩)])),(4,Jus v)] [(go,61,Wv ((hO1 (cf q.num q.den) k)) ((hO2 (cf q.num q.den) k))),(gb,61,Wv ((hB1 (cf q.num q.den) k)) ((hB2 (cf q.num q.den) k))),(G11_2,58,Qv (((z : Int) : Rat)))] a12 w12 := cast (by kernel_rfl) (S12.keep [4,5,16,17,18,23,24])
  replace ON : OwnL 61 6 true Ww w12 w.heap.size ([go,gb,G11_2] ++ [g]) v (wsI (cf q.num q.den) k) := cast (by kernel_rfl) (Z12.own (ex := [g]) ON)
  replace HL : Frz 58 3 true (fun z : Int => Qv ((z : Int) : Rat)) w12 [go,gb,G11_2] g vn (cf q.num q.den) := cast (by kernel_rfl) (Z12.frz HL)
  clear S11
  refine Qe ?_
  refine DI rfl rfl (S12.val 1 rfl) IX ?_
  have hq : QV w12 (a12.eval (.tmp 24)) ((z : Int) : Rat) := S12.fact 0 rfl
  have b0 := S12.box 0 _ _ _ rfl
  have b1 := S12.box 1 _ _ _ rfl
  have b2 := S12.box 2 _ _ _ rfl
  have hne : go ≠ gb := by have := S12.dis; simp at this; omega
  have hd2 : G11_2 ≠ go∧G11_2 ≠ gb := by have := S12.dis; simp at this; omega
  rw [show (#[Operand.tmp 24] : Array Operand).map a12.eval ++ #[.pointer (some ⟨go,0,none⟩),.pointer (some ⟨gb,0,none⟩)]=#[a12.eval (.tmp 24),.pointer (some ⟨go,0,none⟩),.pointer (some ⟨gb,0,none⟩)] from by simp]
  refine (Dx (B := w.heap.size) S12.bel.size b0.1 b1.1 hne hq b0.2 b1.2 hs.1 hs.2.1 fz hs.2.2.1 hs.2.2.2 (h_next hz)).mono ?_
  rintro _ wc ⟨hbc,hgc,hfr,vc,rfl,hv,c1,c2⟩
  refine ⟨vc,rfl,?_⟩
  have S12k : AS w 35 [(18,In (k)),(17,In ((cf q.num q.den).length)),(16,Jus vn),(5,Jus (.func (.func 58) #[] #[.pointer (some ⟨go,0,none⟩),.pointer (some ⟨gb,0,none⟩)])),(4,Jus v)] [(go,61,Wv ((hO1 (cf q.num q.den) k)) ((hO2 (cf q.num q.den) k))),(gb,61,Wv ((hB1 (cf q.num q.den) k)) ((hB2 (cf q.num q.den) k))),(G11_2,58,Qv (((z : Int) : Rat)))] a12 w12 := cast (by kernel_rfl) (S12.keep [18,17,16,5,4])
  have S13 : AS w 35 [(25,Tup [Wv ((hB1 (cf q.num q.den) (k+1))) ((hB2 (cf q.num q.den) (k+1))),Wv ((hO1 (cf q.num q.den) (k+1))) ((hO2 (cf q.num q.den) (k+1)))]),(18,In (k)),(17,In ((cf q.num q.den).length)),(16,Jus vn),(5,Jus (.func (.func 58) #[] #[.pointer (some ⟨go,0,none⟩),.pointer (some ⟨gb,0,none⟩)])),(4,Jus v)] [(go,61,Wv ((hO1 (cf q.num q.den) (k+1))) ((hO2 (cf q.num q.den) (k+1)))),(gb,61,Wv ((hB1 (cf q.num q.den) (k+1))) ((hB2 (cf q.num q.den) (k+1)))),(G11_2,58,Qv (((z : Int) : Rat)))] (a12.put (some 25) vc) wc := S12k.put (by decide) (S12.bel.trans hbc) hv (by intro x hx e; simp only [List.mem_cons,List.not_mem_nil,or_false] at hx; rcases hx with rfl | rfl | rfl | rfl | rfl <;> simp at e) (fun u G hm => G.st hgc (S12k.tmp u G hm)) (fun j G t F hj => by
   match j,hj with
   | 0,hj => cases hj; exact ⟨b0.1,c1⟩
   | 1,hj => cases hj; exact ⟨b1.1,c2⟩
   | 2,hj => cases hj; exact ⟨b2.1,b2.2.same hgc (hfr _ b2.2.lt hd2.1 hd2.2)⟩
   | j+3,hj => simp at hj) S12.dis
  replace ON := OwnL.keep ON hgc (fun g2 h1 h2 => hfr g2 h1 (fun e => h2 (by simp [e])) (fun e => h2 (by simp [e])))
  replace HL : Frz 58 3 true (fun z : Int => Qv ((z : Int) : Rat)) wc [go,gb,G11_2] g vn (cf q.num q.den) := ⟨HL.1.keep hgc (hfr _ HL.1.lt (fun e => HL.2 (by simp [e])) (fun e => HL.2 (by simp [e]))),HL.2⟩
  obtain ⟨a13,ea13⟩ : ∃ a : Act,a=a12.put (some 25) (vc) := ⟨_,rfl⟩
  rw [← ea13] at S13
  show wpList _ _ _ _ (a12.put (some 25) _) wc
  rw [← ea13]
  obtain ⟨w13,ew13⟩ : ∃ w : World,w=wc := ⟨_,rfl⟩
  subst ew13
  replace S13 : AS w 35 [(25,Tup [Wv ((hB1 (cf q.num q.den) (k+1))) ((hB2 (cf q.num q.den) (k+1))),Wv ((hO1 (cf q.num q.den) (k+1))) ((hO2 (cf q.num q.den) (k+1)))]),(18,In (k)),(17,In ((cf q.num q.den).length)),(16,Jus vn),(5,Jus (.func (.func 58) #[] #[.pointer (some ⟨go,0,none⟩),.pointer (some ⟨gb,0,none⟩)])),(4,Jus v)] [(go,61,Wv ((hO1 (cf q.num q.den) (k+1))) ((hO2 (cf q.num q.den) (k+1)))),(gb,61,Wv ((hB1 (cf q.num q.den) (k+1))) ((hB2 (cf q.num q.den) (k+1)))),(G11_2,58,Qv (((z : Int) : Rat)))] a13 w13 := cast (by kernel_rfl) (S13.keep [25,18,17,16,5,4])
  clear S12 ea13
  clear S12k hq hv c1 c2
  refine Zn 3 ?_
  refine Zd [.pure (Tup [Wv ((hB1 (cf q.num q.den) (k+1))) ((hB2 (cf q.num q.den) (k+1))),Wv ((hO1 (cf q.num q.den) (k+1))) ((hO2 (cf q.num q.den) (k+1)))]),.pure (Wv ((hB1 (cf q.num q.den) (k+1))) ((hB2 (cf q.num q.den) (k+1)))),.pure (Wv ((hO1 (cf q.num q.den) (k+1))) ((hO2 (cf q.num q.den) (k+1)))),.alloc 61 (Any),.alloc 61 (Any),.fill 3 (Wv ((hB1 (cf q.num q.den) (k+1))) ((hB2 (cf q.num q.den) (k+1)))),.fill 4 (Wv ((hO1 (cf q.num q.den) (k+1))) ((hO2 (cf q.num q.den) (k+1))))] ⟨S13,by decide +kernel⟩ (by kernel_rfl) (by kernel_rfl) rfl (by kernel_rfl) ?_ ?_
  ·intro C
   refine ASteps.cons ?_ (ASteps.cons ?_ (ASteps.cons ?_ (ASteps.cons ?_ (ASteps.cons ?_ (ASteps.cons ?_ (ASteps.cons ?_ (ASteps.nil)))))))
   ·exact Qj rfl rfl (Qa rfl) rfl (Qg C 0 (by kernel_rfl) rfl)
   ·exact QX (k := 0) rfl rfl (Qa rfl) rfl (Qc C 0 0 rfl rfl rfl rfl rfl rfl) rfl
   ·exact QX (k := 1) rfl rfl (Qa rfl) rfl (Qc C 0 0 rfl rfl rfl rfl rfl rfl) rfl
   ·exact Zo [.bool false,.slice none 0 0,.slice none 0 0,.bool false,.slice none 0 0,.slice none 0 0] UX rfl rfl (Qa rfl) rfl (Jt (s0 := 5) (k := 0) (by kernel_rfl) rfl rfl rfl rfl) Yd (by simp [Qm]) (by kernel_rfl)
   ·exact Zo [.bool false,.slice none 0 0,.slice none 0 0,.bool false,.slice none 0 0,.slice none 0 0] UX rfl rfl (Qa rfl) rfl (Jt (s0 := 6) (k := 0) (by kernel_rfl) rfl rfl rfl rfl) Yd (by simp [Qm]) (by kernel_rfl)
   ·exact JO C (a := 3) (k := 0) rfl rfl rfl rfl (Qa rfl) rfl rfl rfl rfl rfl (by decide) (JZ (by kernel_rfl)) (Qc C 1 1 rfl rfl rfl rfl rfl rfl) (JR (Ym _ _))
   ·exact JO C (a := 4) (k := 0) rfl rfl rfl rfl (Qa rfl) rfl rfl rfl rfl rfl (by decide) (JZ (by kernel_rfl)) (Qc C 2 1 rfl rfl rfl rfl rfl rfl) (JR (Ym _ _))
  intro γ a14 w14 Z14 S14
  replace S14 : AS w 35 [(8,Jus (.pointer (some ⟨γ 3,0,none⟩))),(18,In (k)),(17,In ((cf q.num q.den).length)),(16,Jus vn),(5,Jus (.func (.func 58) #[] #[.pointer (some ⟨go,0,none⟩),.pointer (some ⟨gb,0,none⟩)])),(4,Jus v)] [(go,61,Wv ((hO1 (cf q.num q.den) (k+1))) ((hO2 (cf q.num q.den) (k+1)))),(gb,61,Wv ((hB1 (cf q.num q.den) (k+1))) ((hB2 (cf q.num q.den) (k+1)))),(G11_2,58,Qv (((z : Int) : Rat))),(γ 3,61,Wv ((hB1 (cf q.num q.den) (k+1))) ((hB2 (cf q.num q.den) (k+1)))),(γ 4,61,Wv ((hO1 (cf q.num q.den) (k+1))) ((hO2 (cf q.num q.den) (k+1))))] a14 w14 := cast (by kernel_rfl) (S14.keep [4,5,8,16,17,18])
  replace ON : OwnL 61 6 true Ww w14 w.heap.size ([go,gb,G11_2,γ 3,γ 4] ++ [g]) v (wsI (cf q.num q.den) k) := cast (by kernel_rfl) (Z14.own (ex := [g]) ON)
  replace HL : Frz 58 3 true (fun z : Int => Qv ((z : Int) : Rat)) w14 [go,gb,G11_2,γ 3,γ 4] g vn (cf q.num q.den) := cast (by kernel_rfl) (Z14.frz HL)
  generalize γ 3=G14_3 at S14 ON HL
  generalize γ 4=G14_4 at S14 ON HL
  clear S13
  refine Qe ?_
  refine JF 2 ?_
  refine Zd [.pure (Jus v),.pure (Wv ((hB1 (cf q.num q.den) (k+1))) ((hB2 (cf q.num q.den) (k+1))))] ⟨S14,by decide +kernel⟩ (by kernel_rfl) (by kernel_rfl) rfl (by kernel_rfl) ?_ ?_
  ·intro C
   refine ASteps.cons ?_ (ASteps.cons ?_ (ASteps.nil))
   ·exact Qj rfl rfl (Qa rfl) rfl (Qg C 5 (by kernel_rfl) rfl)
   ·exact QG (k := 3) rfl rfl rfl (Qa rfl) rfl (Qg C 0 (by kernel_rfl) rfl) (QE (by kernel_rfl)) XY
  intro γ a15 w15 Z15 S15
  replace S15 : AS w 35 [(29,Wv ((hB1 (cf q.num q.den) (k+1))) ((hB2 (cf q.num q.den) (k+1)))),(28,Jus v),(18,In (k)),(17,In ((cf q.num q.den).length)),(16,Jus vn),(5,Jus (.func (.func 58) #[] #[.pointer (some ⟨go,0,none⟩),.pointer (some ⟨gb,0,none⟩)])),(4,Jus v)] [(go,61,Wv ((hO1 (cf q.num q.den) (k+1))) ((hO2 (cf q.num q.den) (k+1)))),(gb,61,Wv ((hB1 (cf q.num q.den) (k+1))) ((hB2 (cf q.num q.den) (k+1)))),(G11_2,58,Qv (((z : Int) : Rat))),(G14_3,61,Wv ((hB1 (cf q.num q.den) (k+1))) ((hB2 (cf q.num q.den) (k+1)))),(G14_4,61,Wv ((hO1 (cf q.num q.den) (k+1))) ((hO2 (cf q.num q.den) (k+1))))] a15 w15 := cast (by kernel_rfl) (S15.keep [4,5,16,17,18,28,29])
  replace ON : OwnL 61 6 true Ww w15 w.heap.size ([go,gb,G11_2,G14_3,G14_4] ++ [g]) v (wsI (cf q.num q.den) k) := cast (by kernel_rfl) (Z15.own (ex := [g]) ON)
  replace HL : Frz 58 3 true (fun z : Int => Qv ((z : Int) : Rat)) w15 [go,gb,G11_2,G14_3,G14_4] g vn (cf q.num q.den) := cast (by kernel_rfl) (Z15.frz HL)
  clear S14
  refine Qe ?_
  refine ltW.app1 (F := Ww) (u := (hB1 (cf q.num q.den) (k+1),hB2 (cf q.num q.den) (k+1))) (ex := [g]) S15 ON (fun g2 hg => by rw [List.mem_singleton.1 hg]; exact HL.1.lt) rfl rfl rfl rfl rfl rfl rfl rfl (S15.val 1 rfl) (fun q => XV _ q (by simp)) (S15.fact 0 rfl) (ce_wv _ _) (by rw [Tz]; omega) ?_
  intro a16 v16 w16 S16 O16 H16
  replace ON := O16
  replace S16 : AS w 35 [(31,Jus v16),(18,In (k)),(17,In ((cf q.num q.den).length)),(16,Jus vn),(5,Jus (.func (.func 58) #[] #[.pointer (some ⟨go,0,none⟩),.pointer (some ⟨gb,0,none⟩)])),(4,Jus v)] [(go,61,Wv ((hO1 (cf q.num q.den) (k+1))) ((hO2 (cf q.num q.den) (k+1)))),(gb,61,Wv ((hB1 (cf q.num q.den) (k+1))) ((hB2 (cf q.num q.den) (k+1)))),(G11_2,58,Qv (((z : Int) : Rat))),(G14_3,61,Wv ((hB1 (cf q.num q.den) (k+1))) ((hB2 (cf q.num q.den) (k+1)))),(G14_4,61,Wv ((hO1 (cf q.num q.den) (k+1))) ((hO2 (cf q.num q.den) (k+1))))] a16 w16 := cast (by kernel_rfl) (S16.keep [31,18,17,16,5,4])
  replace HL := Frz.app HL H16 (by simp)
  clear S15
  refine Zn 4 ?_
  refine Zd [.pure (Jus v16)] ⟨S16,by decide +kernel⟩ (by kernel_rfl) (by kernel_rfl) rfl (by kernel_rfl) ?_ ?_
  ·intro C
   refine ASteps.cons ?_ (ASteps.nil)
   ·exact Qk rfl rfl (Qa rfl) rfl (Qg C 0 (by kernel_rfl) rfl)
  intro γ a17 w17 Z17 S17
  replace S17 : AS w 35 [(4,Jus v16),(18,In (k)),(17,In ((cf q.num q.den).length)),(16,Jus vn),(5,Jus (.func (.func 58) #[] #[.pointer (some ⟨go,0,none⟩),.pointer (some ⟨gb,0,none⟩)]))] [(go,61,Wv ((hO1 (cf q.num q.den) (k+1))) ((hO2 (cf q.num q.den) (k+1)))),(gb,61,Wv ((hB1 (cf q.num q.den) (k+1))) ((hB2 (cf q.num q.den) (k+1)))),(G11_2,58,Qv (((z : Int) : Rat))),(G14_3,61,Wv ((hB1 (cf q.num q.den) (k+1))) ((hB2 (cf q.num q.den) (k+1)))),(G14_4,61,Wv ((hO1 (cf q.num q.den) (k+1))) ((hO2 (cf q.num q.den) (k+1))))] a17 w17 := cast (by kernel_rfl) (S17.keep [4,5,16,17,18])
  replace ON : OwnL 61 6 true Ww w17 w.heap.size ([go,gb,G11_2,G14_3,G14_4] ++ [g]) v16 ((wsI (cf q.num q.den) k) ++ [(hB1 (cf q.num q.den) (k+1),hB2 (cf q.num q.den) (k+1))]) := cast (by kernel_rfl) (Z17.own (ex := [g]) ON)
  replace HL : Frz 58 3 true (fun z : Int => Qv ((z : Int) : Rat)) w17 [go,gb,G11_2,G14_3,G14_4] g vn (cf q.num q.den) := cast (by kernel_rfl) (Z17.frz HL)
  clear S16
  refine XB ?_
  refine Qe ?_
  refine Qn [.pure (In (k+1)),.pure (In (k+1))] ⟨S17,by decide +kernel⟩ (by kernel_rfl) (by kernel_rfl) rfl (by kernel_rfl) ?_ ?_
  ·intro C
   refine ASteps.cons ?_ (ASteps.cons ?_ (ASteps.nil))
   ·exact QU rfl rfl (Qa rfl) rfl (Tu C 1 0 1 rfl rfl rfl rfl rfl rfl rfl) (Qp _) (Xp _ _ _ _ _ _ (Ux (by omega) (by omega)))
   ·exact Qj rfl rfl (Qa rfl) rfl (Qc C 0 0 rfl rfl rfl rfl rfl rfl)
  intro γ a18 w18 Z18 S18
  replace S18 : AS w 35 [(18,In (k+1)),(4,Jus v16),(17,In ((cf q.num q.den).length)),(16,Jus vn),(5,Jus (.func (.func 58) #[] #[.pointer (some ⟨go,0,none⟩),.pointer (some ⟨gb,0,none⟩)]))] [(go,61,Wv ((hO1 (cf q.num q.den) (k+1))) ((hO2 (cf q.num q.den) (k+1)))),(gb,61,Wv ((hB1 (cf q.num q.den) (k+1))) ((hB2 (cf q.num q.den) (k+1)))),(G11_2,58,Qv (((z : Int) : Rat))),(G14_3,61,Wv ((hB1 (cf q.num q.den) (k+1))) ((hB2 (cf q.num q.den) (k+1)))),(G14_4,61,Wv ((hO1 (cf q.num q.den) (k+1))) ((hO2 (cf q.num q.den) (k+1))))] a18 w18 := cast (by kernel_rfl) (S18.keep [4,5,16,17,18])
  replace ON : OwnL 61 6 true Ww w18 w.heap.size ([go,gb,G11_2,G14_3,G14_4] ++ [g]) v16 ((wsI (cf q.num q.den) k) ++ [(hB1 (cf q.num q.den) (k+1),hB2 (cf q.num q.den) (k+1))]) := cast (by kernel_rfl) (Z18.own (ex := [g]) ON)
  replace HL : Frz 58 3 true (fun z : Int => Qv ((z : Int) : Rat)) w18 [go,gb,G11_2,G14_3,G14_4] g vn (cf q.num q.den) := cast (by kernel_rfl) (Z18.frz HL)
  clear S17
  refine Qe ?_
  refine ⟨⟨k+1,v16,⟨by omega,by rw [← LD]; exact ON.less (fun g hg => by simp at hg ⊢; omega),⟨HL.1,fun q => HL.2 (by simp at q ⊢; omega)⟩⟩,cast (by kernel_rfl) ((S18.pick [0,2,3,4,1]).takeB 2)⟩,?_⟩
  show (cf q.num q.den).length - (intOf (a18.tmps.getD 18 undef)).toNat < (cf q.num q.den).length - (intOf (a9.tmps.getD 18 undef)).toNat
  rw [hM,show a18.tmps.getD 18 undef=.int .i64 ((k : Int)+1) from S18.val 0 rfl]
  simp only [intOf]
  omega
 ·
  refine Qn [.pure (Bo false)] ⟨S9,by decide +kernel⟩ (by kernel_rfl) (by kernel_rfl) rfl (by kernel_rfl) ?_ ?_
  ·intro C
   refine ASteps.cons ?_ (ASteps.nil)
   ·exact QU rfl rfl (Qa rfl) rfl (Qg C 0 (by kernel_rfl) rfl) (Qg C 1 (by kernel_rfl) rfl) (Xg _ _ _ _ _ _ (decide_eq_false h1))
  intro γ a19 w19 Z19 S19
  replace S19 : AS w 35 [(19,Bo false),(18,In (k)),(17,In ((cf q.num q.den).length)),(16,Jus vn),(5,Jus (.func (.func 58) #[] #[.pointer (some ⟨go,0,none⟩),.pointer (some ⟨gb,0,none⟩)])),(4,Jus v)] [(go,61,Wv ((hO1 (cf q.num q.den) k)) ((hO2 (cf q.num q.den) k))),(gb,61,Wv ((hB1 (cf q.num q.den) k)) ((hB2 (cf q.num q.den) k)))] a19 w19 := cast (by kernel_rfl) (S19.keep [4,5,16,17,18,19])
  replace ON : OwnL 61 6 true Ww w19 w.heap.size ([go,gb] ++ [g]) v (wsI (cf q.num q.den) k) := cast (by kernel_rfl) (Z19.own (ex := [g]) ON)
  replace HL : Frz 58 3 true (fun z : Int => Qv ((z : Int) : Rat)) w19 [go,gb] g vn (cf q.num q.den) := cast (by kernel_rfl) (Z19.frz HL)
  clear S9
  refine Qe ?_
  refine wp_seq ?_
  refine wp_cond_false (S19.val 0 rfl) ?_
  refine wp_exit ?_
  refine Xh ?_
  refine Xh ?_
  refine Yr ?_
  refine Qe ?_
  refine wp_seq ?_
  have hkn : k=(cf q.num q.den).length := by omega
  refine JF 1 ?_
  refine Zd [.pure (Jus v)] ⟨S19,by decide +kernel⟩ (by kernel_rfl) (by kernel_rfl) rfl (by kernel_rfl) ?_ ?_
  ·intro C
   refine ASteps.cons ?_ (ASteps.nil)
   ·exact Qj rfl rfl (Qa rfl) rfl (Qg C 5 (by kernel_rfl) rfl)
  intro γ a20 w20 Z20 S20
  replace S20 : AS w 35 [(33,Jus v)] [(go,61,Wv ((hO1 (cf q.num q.den) k)) ((hO2 (cf q.num q.den) k))),(gb,61,Wv ((hB1 (cf q.num q.den) k)) ((hB2 (cf q.num q.den) k)))] a20 w20 := cast (by kernel_rfl) (S20.keep [33])
  replace ON : OwnL 61 6 true Ww w20 w.heap.size ([go,gb] ++ [g]) v (wsI (cf q.num q.den) k) := cast (by kernel_rfl) (Z20.own (ex := [g]) ON)
  replace HL : Frz 58 3 true (fun z : Int => Qv ((z : Int) : Rat)) w20 [go,gb] g vn (cf q.num q.den) := cast (by kernel_rfl) (Z20.frz HL)
  clear S19
  refine Qe ?_
  refine Zw rfl rfl GI ?_
  rw [show (#[Operand.tmp 33] : Array Operand).map a20.eval=#[v] from by simp [S20.val 0 rfl]]
  obtain ⟨gN,hgNB,_,hAN⟩ := ON.at (by intro e; have h := congrArg List.length e; rw [Tz,hkn] at h; exact Sr q.den_nz (List.length_eq_zero_iff.1 h))
  refine (FE hAN (wsI_mem hl2 hl1 k) (by decide) (by rw [Tz]; omega) (HPRE _ S20.bel)).mono ?_
  rintro _ wt ⟨hbt,vt,rfl,hT⟩
  refine ⟨vt,rfl,?_⟩
  have hbel := S20.bel
  have hsz : w.heap.size≤w20.heap.size := S20.bel.size
  have S21 := S20.call (t := 34) (F := Jus vt) (nbx := []) rfl hbt rfl (fun j G t F hj => by simp at hj) List.nodup_nil
  have hG0 : go < w20.heap.size := (S20.box 0 _ _ _ rfl).2.lt
  have hG1 : gb < w20.heap.size := (S20.box 1 _ _ _ rfl).2.lt
  have OT : OwnL 22 1 false (fun s : ByteArray => Tx s) wt w.heap.size ([go,gb] ++ []) vt ((wsI (cf q.num q.den) k).map tlW) := (hT.low (fun g2 hg => by simp at hg; omega)).mono hsz
  obtain ⟨a21,ea21⟩ : ∃ a : Act,a=a20.put (some 34) (vt) := ⟨_,rfl⟩
  rw [← ea21] at S21
  show wpList _ _ _ _ (a20.put (some 34) _) wt
  rw [← ea21]
  obtain ⟨w21,ew21⟩ : ∃ w : World,w=wt := ⟨_,rfl⟩
  subst ew21
  replace S21 : AS w 35 [(34,Jus vt)] [(go,61,Wv ((hO1 (cf q.num q.den) k)) ((hO2 (cf q.num q.den) k))),(gb,61,Wv ((hB1 (cf q.num q.den) k)) ((hB2 (cf q.num q.den) k)))] a21 w21 := cast (by kernel_rfl) (S21.keep [34])
  clear S20 ea21
  refine Zn 2 ?_
  refine Zd [.pure (Jus vt),.pure (In (0))] ⟨S21,by decide +kernel⟩ (by kernel_rfl) (by kernel_rfl) rfl (by kernel_rfl) ?_ ?_
  ·intro C
   refine ASteps.cons ?_ (ASteps.cons ?_ (ASteps.nil))
   ·exact Qk rfl rfl (Qa rfl) rfl (Qg C 0 (by kernel_rfl) rfl)
   ·exact Qk rfl rfl (Qa rfl) rfl (Qp _)
  intro γ a22 w22 Z22 S22
  replace S22 : AS w 35 [(3,In (0)),(2,Jus vt)] [(go,61,Wv ((hO1 (cf q.num q.den) k)) ((hO2 (cf q.num q.den) k))),(gb,61,Wv ((hB1 (cf q.num q.den) k)) ((hB2 (cf q.num q.den) k)))] a22 w22 := cast (by kernel_rfl) (S22.keep [2,3])
  replace OT : OwnL 22 1 false (fun s : ByteArray => Tx s) w22 w.heap.size ([go,gb] ++ []) vt ((wsI (cf q.num q.den) k).map tlW) := cast (by kernel_rfl) (Z22.own (ex := []) OT)
  clear S21
  refine Qe ?_
  refine wp_ret ?_
  exact S22.retTT 1 0 rfl rfl rfl fun v' v2 hv hv2 => ⟨S22.bel,vt,by rw [show v'=vt from hv,show v2=_ from hv2],by unfold QJ; rw [← hkn]; exact OT.less (fun g hg => by cases hg)⟩
end Go.Proofs.YtnhplfjlhdpgoaaGreatDoor
/- GNM -/
namespace Go.Proofs.YtnhplfjlhdpgoaaGreatDoor
open Go.RowKit Cx
theorem Dg : ∀ (m : Nat) (a : Int) (b : Nat),b < m→∀ z ∈ (cf a b).tail,1≤z
 | 0,_,_,h,_,_ => absurd h (Nat.not_lt_zero _)
 | m+1,a,b,h,z,hz => by
  by_cases h0 : b=0
  ·subst h0
   rw [YZ] at hz
   cases hz
  ·rw [Va a h0,List.tail_cons] at hz
   have hr := TU a h0
   generalize (a % (b : Int)).toNat=r at hz hr
   by_cases h1 : r=0
   ·subst h1
    rw [YZ] at hz
    cases hz
   ·have ih := Dg m (b : Int) r (by omega)
    rw [Va _ h1] at hz ih
    rw [List.tail_cons] at ih
    rcases List.mem_cons.1 hz with rfl | hz
    ·have h2 : 0 < (r : Int) := by omega
     exact (Int.le_ediv_iff_mul_le h2).2 (by omega)
    ·exact ih z hz
def yI : List Int→Rat
 | [] => 0
 | [z] => ((z : Int) : Rat)
 | z :: y :: r => ((z : Int) : Rat)+1 / yI (y :: r)
theorem CF : ∀ {l : List Int},l ≠ []→(∀ z ∈ l,1≤z)→0 < yI l
 | [],h,_ => absurd rfl h
 | [z],_,h => by
  have : (1 : Int)≤z := h z List.mem_cons_self
  show (0 : Rat) < ((z : Int) : Rat)
  exact_mod_cast (by omega : (0 : Int) < z)
 | z :: y :: r,_,h => by
  have h1 := CF (l := y :: r) (List.cons_ne_nil _ _) fun x hx => h x (List.mem_cons_of_mem _ hx)
  have h2 : (0 : Rat)≤((z : Int) : Rat) := by
   have := h z List.mem_cons_self
   exact_mod_cast (by omega : (0 : Int)≤z)
  have h3 : 0 < 1 / yI (y :: r) := by
   rw [Rat.div_def,Rat.one_mul]
   exact Rat.inv_pos.2 h1
  show 0 < ((z : Int) : Rat)+1 / yI (y :: r)
  grind
theorem mdm2 {y A B : Rat} (hy : y ≠ 0) : y*A / (y*B)=A / B := by
 by_cases hB : B=0
 ·subst hB
  rw [Rat.mul_zero,Rat.div_def,Rat.div_def,Rat.inv_zero,Rat.mul_zero,Rat.mul_zero]
 ·have : y*B ≠ 0 := fun e => by
   rcases Rat.mul_eq_zero.1 e with h | h
   ·exact hy h
   ·exact hB h
  grind
theorem Ts : ∀ (l : List Int) (s : Int × Int × Int × Int),l ≠ []→(∀ z ∈ l.tail,1≤z) →
  (((l.foldl UH s).2.1 : Int) : Rat) / (((l.foldl UH s).1 : Int) : Rat)=(((s.2.2.2 : Int) : Rat)+yI l*((s.2.1 : Int) : Rat)) / (((s.2.2.1 : Int) : Rat)+yI l*((s.1 : Int) : Rat))
 | [],_,h,_ => absurd rfl h
 | [z],s,_,_ => by
  show (((s.2.2.2+s.2.1*z : Int)) : Rat) / (((s.2.2.1+s.1*z : Int)) : Rat)=(((s.2.2.2 : Int) : Rat)+((z : Int) : Rat)*((s.2.1 : Int) : Rat)) / (((s.2.2.1 : Int) : Rat)+((z : Int) : Rat)*((s.1 : Int) : Rat))
  rw [Rat.intCast_add,Rat.intCast_mul,Rat.intCast_add,Rat.intCast_mul]
  congr 1 <;> grind
 | z :: y :: r,s,_,h => by
  have hr : ∀ x ∈ y :: r,1≤x := fun x hx => h x hx
  have hy := CF (List.cons_ne_nil y r) hr
  have ih := Ts (y :: r) (UH s z) (List.cons_ne_nil _ _) fun x hx => hr x (List.mem_of_mem_tail hx)
  refine (show _=_ from ih).trans ?_
  show (((s.2.1 : Int) : Rat)+yI (y :: r)*(((s.2.2.2+s.2.1*z : Int)) : Rat)) / (((s.1 : Int) : Rat)+yI (y :: r)*(((s.2.2.1+s.1*z : Int)) : Rat))=(((s.2.2.2 : Int) : Rat)+(((z : Int) : Rat)+1 / yI (y :: r))*((s.2.1 : Int) : Rat)) / (((s.2.2.1 : Int) : Rat)+(((z : Int) : Rat)+1 / yI (y :: r))*((s.1 : Int) : Rat))
  rw [Rat.intCast_add,Rat.intCast_mul,Rat.intCast_add,Rat.intCast_mul]
  generalize ((s.2.1 : Int) : Rat)=a at *
  generalize ((s.2.2.2 : Int) : Rat)=b at *
  generalize ((s.1 : Int) : Rat)=c at *
  generalize ((s.2.2.1 : Int) : Rat)=d at *
  generalize ((z : Int) : Rat)=x at *
  generalize yI (y :: r)=u at *
  have hu : u ≠ 0 := by
   intro e
   rw [e] at hy
   exact absurd hy (by decide)
  have e1 : a+u*(b+a*x)=u*(b+(x+1 / u)*a) := by grind
  have e2 : c+u*(d+c*x)=u*(d+(x+1 / u)*c) := by grind
  rw [e1,e2]
  exact mdm2 hu
theorem OJ {l : List Int} (h : ∀ z ∈ l.tail,1≤z) {i : Nat} (hi : i < l.length) : hB2 l (i+1) / hB1 l (i+1)=yI (l.take (i+1)) := by
 have hne : l.take (i+1) ≠ [] := fun e => by
  have e2 := congrArg List.length e
  rw [List.length_take,List.length_nil] at e2
  omega
 have ht : ∀ z ∈ (l.take (i+1)).tail,1≤z := fun z hz => by
  have e : (l.take (i+1)).tail=l.tail.take i := by cases l <;> simp
  rw [e] at hz
  exact h z (List.mem_of_mem_take hz)
 have := Ts (l.take (i+1)) (0,1,1,0) hne ht
 unfold hB1 hB2 Zc
 refine (show _=_ from this).trans ?_
 show (((0 : Int) : Rat)+yI (l.take (i+1))*((1 : Int) : Rat)) / (((1 : Int) : Rat)+yI (l.take (i+1))*((0 : Int) : Rat))=_
 grind
theorem Nn {q : Rat} {i : Nat} (hi : i < (cf q.num q.den).length) : (QJ q)[i]? = some (txB (yI ((cf q.num q.den).take (i+1)))) := by
 unfold QJ wsI
 rw [List.getElem?_map,List.getElem?_map,List.getElem?_range hi]
 show some (tlW (hB1 (cf q.num q.den) (i+1),hB2 (cf q.num q.den) (i+1)))=_
 unfold tlW
 rw [OJ (Dg (q.den+1) _ _ (by omega)) hi]
theorem XJ (q : Rat) : (QJ q).length=(cf q.num q.den).length := by
 unfold QJ
 rw [List.length_map,Tz]
theorem Hk (x : Rat) : (x - ((x.num / (x.den : Int) : Int) : Rat)=0→cf x.num x.den=[x.num / (x.den : Int)]) ∧
  (¬ x - ((x.num / (x.den : Int) : Int) : Rat)=0→0 < x - ((x.num / (x.den : Int) : Int) : Rat)∧cf x.num x.den=x.num / (x.den : Int) :: cf (1 / (x - ((x.num / (x.den : Int) : Int) : Rat))).num (1 / (x - ((x.num / (x.den : Int) : Int) : Rat))).den ∧
   (1 / (x - ((x.num / (x.den : Int) : Int) : Rat))).num.natAbs=x.den∧(1 / (x - ((x.num / (x.den : Int) : Int) : Rat))).den < x.den) := by
 have hd := x.den_nz
 have hd' : ((x.den : Int) : Rat) ≠ 0 := by exact_mod_cast (by omega : (x.den : Int) ≠ 0)
 have hx : x*((x.den : Int) : Rat)=(x.num : Rat) := by
  have h2 : x=(x.num : Rat) / ((x.den : Int) : Rat) := by
   have := (Rat.mkRat_self x).symm
   rw [Rat.mkRat_eq_div] at this
   exact this
  grind
 have hrc := Sq x.num hd
 have hrl := TU x.num hd
 have hcop : Nat.Coprime x.den (x.num % (x.den : Int)).toNat := by
  show x.den.gcd (x.num % (x.den : Int)).toNat=1
  have h1 := Nat.gcd_dvd_left x.den (x.num % (x.den : Int)).toNat
  have h2 := Nat.gcd_dvd_right x.den (x.num % (x.den : Int)).toNat
  have h4 : x.num=(x.den : Int)*(x.num / (x.den : Int))+(((x.num % (x.den : Int)).toNat : Nat) : Int) := by
   rw [hrc]
   exact (Int.mul_ediv_add_emod x.num _).symm
  generalize x.den.gcd (x.num % (x.den : Int)).toNat=g at h1 h2 ⊢
  have h3 : ((g : Nat) : Int) ∣ x.num := by
   rw [h4]
   exact Int.dvd_add (Int.dvd_mul_of_dvd_left (Int.natCast_dvd_natCast.2 h1)) (Int.natCast_dvd_natCast.2 h2)
  have h5 : g ∣ x.num.natAbs := Int.natCast_dvd_natCast.1 (Int.dvd_natAbs.2 h3)
  have h6 := Nat.dvd_gcd h5 h1
  rw [x.reduced] at h6
  exact Nat.dvd_one.1 h6
 have hre := LP x.num hd
 have hmul : (x - ((x.num / (x.den : Int) : Int) : Rat))*((x.den : Int) : Rat)=((((x.num % (x.den : Int)).toNat : Nat) : Int) : Rat) := by
  rw [hre,← hx]
  grind
 generalize hz : x.num / (x.den : Int)=z at *
 generalize hr : (x.num % (x.den : Int)).toNat=r at *
 have hcf : cf x.num x.den=z :: cf (x.den : Int) r := by
  rw [Va x.num hd,hz,hr]
 refine ⟨fun e => ?_,fun e => ?_⟩
 ·rw [e,Rat.zero_mul] at hmul
  have : (r : Int)=0 := by exact_mod_cast hmul.symm
  have r0 : r=0 := by omega
  subst r0
  rw [hcf,YZ]
 ·have hr0 : r ≠ 0 := fun h => by
   subst h
   have : (x - (z : Rat))*((x.den : Int) : Rat)=0 := hmul
   rcases Rat.mul_eq_zero.1 this with h | h
   ·exact e h
   ·exact hd' h
  have hrq : (((r : Nat) : Int) : Rat) ≠ 0 := by exact_mod_cast (by omega : (r : Int) ≠ 0)
  have hq : 1 / (x - (z : Rat))=⟨(x.den : Int),r,hr0,by rw [Int.natAbs_natCast]; exact hcop⟩ := by
   rw [Rat.mk_eq_divInt,Rat.divInt_eq_div]
   grind
  have hpos : 0 < x - (z : Rat) := by
   have p1 : (0 : Rat) < (((r : Nat) : Int) : Rat) := by exact_mod_cast (by omega : (0 : Int) < (r : Int))
   have p2 : (0 : Rat) < ((x.den : Int) : Rat) := by exact_mod_cast (by omega : (0 : Int) < (x.den : Int))
   have p3 : x - (z : Rat)=(((r : Nat) : Int) : Rat)*((x.den : Int) : Rat)⁻¹ := by grind
   rw [p3]
   exact Rat.mul_pos p1 (Rat.inv_pos.2 p2)
  refine ⟨hpos,?_,?_,?_⟩
  ·rw [hq,hcf]
  ·rw [hq]
   exact Int.natAbs_natCast _
  ·rw [hq]
   exact hrl
end Go.Proofs.YtnhplfjlhdpgoaaGreatDoor
/- GNB -/
namespace Go.Proofs.YtnhplfjlhdpgoaaGreatDoor
open Go.RowKit Cx
def dtI (s : Int × Int × Int × Int) : Int := s.1*s.2.2.2 - s.2.1*s.2.2.1
theorem dt_step (s : Int × Int × Int × Int) (z : Int) : dtI (UH s z)=-dtI s := by
 unfold dtI UH
 dsimp only
 grind
theorem MH : ∀ (l : List Int) (s : Int × Int × Int × Int),dtI (l.foldl UH s)=dtI s ∨ dtI (l.foldl UH s)=-dtI s
 | [],s => Or.inl rfl
 | z :: l,s => by
  have := MH l (UH s z)
  rw [dt_step] at this
  rw [List.foldl_cons]
  rcases this with h | h
  ·exact Or.inr h
  ·left
   rw [h]
   omega
theorem AQ (l : List Int) (k : Nat) : dtI (Zc l k)=1 ∨ dtI (Zc l k)=-1 := by
 have h := MH (l.take k) (0,1,1,0)
 rw [show dtI (0,1,1,0)=-1 from rfl] at h
 unfold Zc
 omega
theorem cop_run (l : List Int) (k : Nat) : Nat.Coprime (Zc l k).2.1.natAbs (Zc l k).1.natAbs := by
 have h := AQ l k
 show Nat.gcd _ _=1
 have h1 := Nat.gcd_dvd_left (Zc l k).2.1.natAbs (Zc l k).1.natAbs
 have h2 := Nat.gcd_dvd_right (Zc l k).2.1.natAbs (Zc l k).1.natAbs
 generalize Nat.gcd (Zc l k).2.1.natAbs (Zc l k).1.natAbs=g at h1 h2 ⊢
 have h3 : ((g : Nat) : Int) ∣ (Zc l k).2.1 := Int.dvd_natAbs.1 (Int.natCast_dvd_natCast.2 h1)
 have h4 : ((g : Nat) : Int) ∣ (Zc l k).1 := Int.dvd_natAbs.1 (Int.natCast_dvd_natCast.2 h2)
 have h5 : ((g : Nat) : Int) ∣ dtI (Zc l k) := by
  unfold dtI
  exact Int.dvd_sub (Int.dvd_mul_of_dvd_left h4) (Int.dvd_mul_of_dvd_left h3)
 have h6 : ((g : Nat) : Int) ∣ 1 := by
  rcases h with h | h
  ·rw [h] at h5
   exact h5
  ·rw [h] at h5
   exact (Int.dvd_neg).1 h5
 have : (g : Int).natAbs ∣ 1 := by
  have := Int.natAbs_dvd_natAbs.2 h6
  simpa using this
 simpa using this
theorem WD {l : List Int} (h : ∀ z ∈ l.tail,1≤z) : ∀ {k : Nat},k < l.length→1≤(Zc l (k+1)).1∧0≤(Zc l k).1
 | 0,hk => by
  have hz : ∃ z,l[0]? = some z := ⟨_,List.getElem?_eq_getElem hk⟩
  obtain ⟨z,hz⟩ := hz
  rw [Yw hz]
  show 1≤(1 : Int)+0*z∧(0 : Int)≤0
  omega
 | k+1,hk => by
  have ih := WD h (k := k) (by omega)
  obtain ⟨z,hz⟩ : ∃ z,l[k+1]? = some z := ⟨_,List.getElem?_eq_getElem hk⟩
  have hz1 : 1≤z := h z (by
   have : l.tail[k]? = some z := by
    rw [List.getElem?_tail]
    exact hz
   exact List.mem_of_getElem? this)
  obtain ⟨y,hy⟩ : ∃ y,l[k]? = some y := ⟨_,List.getElem?_eq_getElem (by omega)⟩
  have e1 := Yw hz
  have e2 := Yw hy
  have e3 : (Zc l (k+1)).2.2.1=(Zc l k).1 := by
   rw [e2]
   rfl
  refine ⟨?_,by omega⟩
  rw [e1]
  show 1≤(Zc l (k+1)).2.2.1+(Zc l (k+1)).1*z
  rw [e3]
  have : 1≤(Zc l (k+1)).1*z := by
   have := Int.mul_le_mul ih.1 hz1 (by decide) (by omega)
   simpa using this
  omega
theorem Bn {l : List Int} (h : ∀ z ∈ l.tail,1≤z) {i : Nat} (hi : i < l.length) : (hB2 l (i+1) / hB1 l (i+1)).den=(Zc l (i+1)).1.toNat := by
 have hp := (WD h hi).1
 have hc := cop_run l (i+1)
 have hn : ((Zc l (i+1)).1.toNat : Int)=(Zc l (i+1)).1 := Int.toNat_of_nonneg (by omega)
 have h0 : (Zc l (i+1)).1.toNat ≠ 0 := by omega
 have e : hB2 l (i+1) / hB1 l (i+1)=⟨(Zc l (i+1)).2.1,(Zc l (i+1)).1.toNat,h0,by
   have : (Zc l (i+1)).1.natAbs=(Zc l (i+1)).1.toNat := by omega
   rw [← this]
   exact hc⟩ := by
  rw [Rat.mk_eq_divInt,Rat.divInt_eq_div]
  unfold hB1 hB2
  rw [hn]
 rw [e]
theorem yI_ge {z : Int} {r : List Int} (h : ∀ x ∈ r,1≤x) : ((z : Int) : Rat)≤yI (z :: r) := by
 cases r with
 | nil => exact Rat.le_refl
 | cons y r =>
  have hp := CF (List.cons_ne_nil y r) h
  have h3 : 0 < 1 / yI (y :: r) := by
   rw [Rat.div_def,Rat.one_mul]
   exact Rat.inv_pos.2 hp
  show ((z : Int) : Rat)≤((z : Int) : Rat)+1 / yI (y :: r)
  grind
theorem Lb : ∀ (m : Nat) (x : Rat),x.den < m→yI (cf x.num x.den)=x
 | 0,_,h => absurd h (Nat.not_lt_zero _)
 | m+1,x,h => by
  by_cases e : x - ((x.num / (x.den : Int) : Int) : Rat)=0
  ·rw [(Hk x).1 e]
   show ((x.num / (x.den : Int) : Int) : Rat)=x
   grind
  ·obtain ⟨h1,h2,_,h4⟩ := (Hk x).2 e
   have ih := Lb m (1 / (x - ((x.num / (x.den : Int) : Int) : Rat))) (by omega)
   rw [h2]
   generalize hu : 1 / (x - ((x.num / (x.den : Int) : Int) : Rat))=u at *
   have hne := Sr (a := u.num) u.den_nz
   cases hl : cf u.num u.den with
   | nil => exact absurd hl hne
   | cons y r =>
    rw [hl] at ih
    show ((x.num / (x.den : Int) : Int) : Rat)+1 / yI (y :: r)=x
    rw [ih,← hu]
    generalize ((x.num / (x.den : Int) : Int) : Rat)=z at *
    grind
theorem inv_le {u v : Rat} (hu : 0 < u) (hv : 0 < v) (h : u≤v) : 1 / v≤1 / u := by
 have hu0 : u ≠ 0 := by intro e; rw [e] at hu; exact absurd hu (by decide)
 have hv0 : v ≠ 0 := by intro e; rw [e] at hv; exact absurd hv (by decide)
 have e : 1 / u - 1 / v=(v - u)*((1 / u)*(1 / v)) := by grind
 have i1 : 0 < 1 / u := by
  rw [Rat.div_def,Rat.one_mul]
  exact Rat.inv_pos.2 hu
 have i2 : 0 < 1 / v := by
  rw [Rat.div_def,Rat.one_mul]
  exact Rat.inv_pos.2 hv
 have i3 : 0≤(v - u)*((1 / u)*(1 / v)) := Rat.mul_nonneg (by grind) (Rat.le_of_lt (Rat.mul_pos i1 i2))
 rw [← e] at i3
 grind
theorem Af {b p o r c y : Rat} (p1 : 0 < b) (p2 : 0≤o) (p3 : 0 < c) (hy : c≤y) (hd : b*r - p*o=1 ∨ b*r - p*o=-1) :
  (r+y*p) / (o+y*b) - p / b≤1 / (b*(o+b*c))∧-((r+y*p) / (o+y*b) - p / b)≤1 / (b*(o+b*c)) := by
 have q1 : 0 < b*c := Rat.mul_pos p1 p3
 have q2 : b*c≤b*y := Rat.mul_le_mul_of_nonneg_left hy (Rat.le_of_lt p1)
 have q3 : 0 < o+b*c := by grind
 have q4 : o+b*c≤o+y*b := by grind
 have q5 : 0 < o+y*b := by grind
 have hb : b ≠ 0 := by intro e; rw [e] at p1; exact absurd p1 (by decide)
 have hq : o+y*b ≠ 0 := by intro e; rw [e] at q5; exact absurd q5 (by decide)
 have hq' : o+b*c ≠ 0 := by intro e; rw [e] at q3; exact absurd q3 (by decide)
 have e1 : (r+y*p) / (o+y*b) - p / b=(b*r - p*o)*(1 / (b*(o+y*b))) := by grind
 have i1 : 0 < 1 / (b*(o+y*b)) := by
  rw [Rat.div_def,Rat.one_mul]
  exact Rat.inv_pos.2 (Rat.mul_pos p1 q5)
 have i2 : 1 / (b*(o+y*b))≤1 / (b*(o+b*c)) := by
  have hv : 0 < b*(o+y*b) := Rat.mul_pos p1 q5
  have hu : 0 < b*(o+b*c) := Rat.mul_pos p1 q3
  have huv : b*(o+b*c)≤b*(o+y*b) := Rat.mul_le_mul_of_nonneg_left q4 (Rat.le_of_lt p1)
  exact inv_le hu hv huv
 rw [e1]
 rcases hd with h | h <;> rw [h] <;> constructor <;> grind
theorem Lw {l : List Int} (h : ∀ z ∈ l.tail,1≤z) {i : Nat} (hi : i+1 < l.length) :
  yI l - hB2 l (i+1) / hB1 l (i+1)≤1 / (hB1 l (i+1)*hB1 l (i+2))∧-(yI l - hB2 l (i+1) / hB1 l (i+1))≤1 / (hB1 l (i+1)*hB1 l (i+2)) := by
 have hl1 := WD h (k := i) (by omega)
 have hl2 := WD h (k := i+1) hi
 obtain ⟨z,hz⟩ : ∃ z,l[i+1]? = some z := ⟨_,List.getElem?_eq_getElem hi⟩
 obtain ⟨z0,hz0⟩ : ∃ z,l[i]? = some z := ⟨_,List.getElem?_eq_getElem (by omega)⟩
 have hd : l.drop (i+1)=z :: l.drop (i+2) := by
  rw [List.drop_eq_getElem_cons hi]
  congr 1
  exact (List.getElem?_eq_some_iff.1 hz).2
 have hmem : ∀ x ∈ l.drop (i+1),1≤x := fun x hx => h x (by
  have : l.drop (i+1)=l.tail.drop i := by cases l <;> simp
  rw [this] at hx
  exact List.mem_of_mem_drop hx)
 have hy := yI_ge (z := z) (r := l.drop (i+2)) fun x hx => hmem x (by rw [hd]; exact List.mem_cons_of_mem _ hx)
 have hz1 : 1≤z := hmem z (by rw [hd]; exact List.mem_cons_self)
 have hfold := Ts (l.drop (i+1)) (Zc l (i+1)) (by rw [hd]; exact List.cons_ne_nil _ _) fun x hx => hmem x (List.mem_of_mem_tail hx)
 have hall : (l.drop (i+1)).foldl UH (Zc l (i+1))=l.foldl UH (0,1,1,0) := by
  unfold Zc
  rw [← List.foldl_append,List.take_append_drop]
 have hwhole := Ts l (0,1,1,0) (fun e => by rw [e] at hi; cases hi) h
 rw [hall] at hfold
 have ex : yI l=(((Zc l (i+1)).2.2.2 : Int)+yI (l.drop (i+1))*((Zc l (i+1)).2.1 : Int)) / (((Zc l (i+1)).2.2.1 : Int)+yI (l.drop (i+1))*((Zc l (i+1)).1 : Int)) := by
  rw [← hfold,hwhole]
  show _=(((0 : Int) : Rat)+yI l*((1 : Int) : Rat)) / (((1 : Int) : Rat)+yI l*((0 : Int) : Rat))
  grind
 have hdt := AQ l (i+1)
 have hnext := Yw hz
 have hn1 : (Zc l (i+2)).1=(Zc l (i+1)).2.2.1+(Zc l (i+1)).1*z := by
  rw [hnext]
  rfl
 have ho : 0≤(Zc l (i+1)).2.2.1 := by
  rw [Yw hz0]
  exact hl1.2
 unfold hB1 hB2
 rw [ex,hn1,hd]
 have hdt' : ((((Zc l (i+1)).1 : Int) : Rat)*(((Zc l (i+1)).2.2.2 : Int) : Rat) - (((Zc l (i+1)).2.1 : Int) : Rat)*(((Zc l (i+1)).2.2.1 : Int) : Rat))=1 ∨ ((((Zc l (i+1)).1 : Int) : Rat)*(((Zc l (i+1)).2.2.2 : Int) : Rat) - (((Zc l (i+1)).2.1 : Int) : Rat)*(((Zc l (i+1)).2.2.1 : Int) : Rat))=-1 := by
  rw [← Rat.intCast_mul,← Rat.intCast_mul,← Rat.intCast_sub]
  rcases hdt with e | e
  ·left
   show ((dtI (Zc l (i+1)) : Int) : Rat)=1
   rw [e]
   rfl
  ·right
   show ((dtI (Zc l (i+1)) : Int) : Rat)=-1
   rw [e]
   rfl
 rw [Rat.intCast_add,Rat.intCast_mul]
 have p1 : (0 : Rat) < (((Zc l (i+1)).1 : Int) : Rat) := by exact_mod_cast (by omega : (0 : Int) < (Zc l (i+1)).1)
 have p2 : (0 : Rat)≤(((Zc l (i+1)).2.2.1 : Int) : Rat) := by exact_mod_cast ho
 have p3 : (0 : Rat) < ((z : Int) : Rat) := by exact_mod_cast (by omega : (0 : Int) < z)
 generalize (((Zc l (i+1)).1 : Int) : Rat)=b at *
 generalize (((Zc l (i+1)).2.1 : Int) : Rat)=p at *
 generalize (((Zc l (i+1)).2.2.1 : Int) : Rat)=o at *
 generalize (((Zc l (i+1)).2.2.2 : Int) : Rat)=r at *
 generalize ((z : Int) : Rat)=c at *
 generalize yI (z :: l.drop (i+2))=y at *
 exact Af p1 p2 p3 hy hdt'
end Go.Proofs.YtnhplfjlhdpgoaaGreatDoor
/- GFD -/
namespace Go.Proofs.YtnhplfjlhdpgoaaGreatDoor
open Go.RowKit Cx
def Dr (G : Nat) : Fact := ⟨fun v w => v=.pointer (some ⟨G,0,none⟩)∧Blk w G #[.bool false,.slice none 0 0,.bool false,.slice none 0 0] 35,fun hg h => ⟨h.1,h.2.grows hg (by decide)⟩⟩
def Di (G : Nat) : Fact := ⟨fun v w => v=.pointer (some ⟨G,0,none⟩)∧Blk w G #[.bool false,.slice none 0 0] 33,fun hg h => ⟨h.1,h.2.grows hg (by decide)⟩⟩
def Rb (G : Nat) (q : Rat) : Fact := ⟨fun v w => ∃ g,v=.pointer (some ⟨g,0,none⟩)∧g < G∧RV w g q,fun hg ⟨g,e,h1,h2⟩ => ⟨g,e,h1,h2.grows hg⟩⟩
theorem Own2.grows {w w' : World} {g : Nat} {z : Int} (hg : Grows w w') (h : Own2 w g z) : Own2 w' g z := by
 obtain ⟨ao,n,c,h0,h1⟩ := h
 exact ⟨ao,n,c,h0.grows hg (by decide),h1.grows hg⟩
def Iv (z : Int) : Fact := ⟨fun v w => ∃ g,v=.pointer (some ⟨g,0,none⟩)∧(Own2 w g z ∨ ∃ q : Rat,RV w g q∧q.num=z),fun hg ⟨g,e,h⟩ => ⟨g,e,h.elim (fun h => Or.inl (h.grows hg)) fun ⟨q,h,e⟩ => Or.inr ⟨q,h.grows hg,e⟩⟩⟩
def Ig (G : Nat) (z : Int) : Fact := ⟨fun v w => v=.pointer (some ⟨G,0,none⟩)∧Own2 w G z,fun hg h => ⟨h.1,h.2.grows hg⟩⟩
def Ib (G : Nat) (z : Int) : Fact := ⟨fun v w => ∃ g,v=.pointer (some ⟨g,0,none⟩)∧g < G∧(Own2 w g z ∨ ∃ q : Rat,RV w g q∧q.num=z),fun hg ⟨g,e,h1,h⟩ => ⟨g,e,h1,h.elim (fun h => Or.inl (h.grows hg)) fun ⟨q,h,e⟩ => Or.inr ⟨q,h.grows hg,e⟩⟩⟩
theorem KN {q : Rat} {v : Value} {w w' : World} (h : (Rt q).on v w) (hb : Below w.heap.size w w') : (Rb w.heap.size q).on v w' := by
 obtain ⟨g,e,h⟩ := h
 exact ⟨g,e,h.lt,h.below hb⟩
theorem ib_of {z : Int} {v : Value} {w w' : World} (h : (Iv z).on v w) (hb : Below w.heap.size w w') : (Ib w.heap.size z).on v w' := by
 obtain ⟨g,e,h⟩ := h
 refine ⟨g,e,?_,h.elim (fun h => Or.inl (h.below hb)) fun ⟨q,h,e⟩ => Or.inr ⟨q,h.below hb,e⟩⟩
 rcases h with h | ⟨q,h,_⟩
 ·exact h.lt
 ·exact h.lt
theorem UB {G G' : Nat} {q : Rat} {v : Value} {w w' : World} (h : (Rb G q).on v w) (hG : G≤G') (hh : YU w G') (hs : Save G' w w') : (Rb G q).on v w' := by
 obtain ⟨g,e,h1,h2⟩ := h
 exact ⟨g,e,h1,h2.save (by omega) hh hs⟩
theorem ib_save {G G' : Nat} {z : Int} {v : Value} {w w' : World} (h : (Ib G z).on v w) (hG : G≤G') (hh : YU w G') (hs : Save G' w w') : (Ib G z).on v w' := by
 obtain ⟨g,e,h1,h⟩ := h
 exact ⟨g,e,h1,h.elim (fun h => Or.inl (h.save (by omega) hh hs)) fun ⟨q,h,e⟩ => Or.inr ⟨q,h.save (by omega) hh hs,e⟩⟩
theorem dr_save {G G' : Nat} {v : Value} {w w' : World} (h : (Dr G).on v w) (hG : G ≠ G') (hs : Save G' w w') : (Dr G).on v w' := ⟨h.1,(hs.block G h.2.lt hG).trans h.2⟩
theorem IH {G : Nat} {q : Rat} {v : Value} {w : World} (h : (Rb G q).on v w) : (Rt q).on v w := by
 obtain ⟨g,e,_,h⟩ := h
 exact ⟨g,e,h⟩
theorem iv_ib {G : Nat} {z : Int} {v : Value} {w : World} (h : (Ib G z).on v w) : (Iv z).on v w := by
 obtain ⟨g,e,_,h⟩ := h
 exact ⟨g,e,h⟩
theorem iv_ig {G : Nat} {z : Int} {v : Value} {w : World} (h : (Ig G z).on v w) : (Iv z).on v w := ⟨G,h.1,Or.inl h.2⟩
theorem MW {z : Int} {v : Value} {w : World} (h : (Iv z).on v w) : IV w v z := by
 obtain ⟨g,rfl,h | ⟨q,h,rfl⟩⟩ := h
 ·exact h.iv
 ·exact h.num
theorem Lj {v : Value} {G g : Nat} (e : v=.pointer (some ⟨g,0,none⟩)) (h : g ≠ G) : YX v G := fun g1 o1 t q => by
 rw [e] at q
 cases q
 exact h
theorem Ob {ops : Array Oper} {Q : Exit→Act→World→Prop} {rest : List Oper} {o : Oper} {a : Act} {w : World} (hgd : o.guard=none) (hop : o.op=.alloc 35)
  (h : wpList Tryz.prog ops Q rest (a.put o.dst (.pointer (some ⟨w.heap.size,0,none⟩))) (w.alloc (.cells #[.bool false,.slice none 0 0,.bool false,.slice none 0 0] 35))) : wpList Tryz.prog ops Q (o :: rest) a w := by
 refine wpList_plain hgd fun K hK => ?_
 have e : (execOp a.eval o).run Tryz.prog w=.ok (.value (.pointer (some ⟨w.heap.size,0,none⟩))) (w.alloc (.cells #[.bool false,.slice none 0 0,.bool false,.slice none 0 0] 35)) := by
  unfold execOp
  rw [hop]
  simp [go_sem]
 unfold Oper.wp
 rw [e]
 exact hK _ _ h
theorem GM {ops : Array Oper} {Q : Exit→Act→World→Prop} {rest : List Oper} {o : Oper} {a : Act} {w : World} (hgd : o.guard=none) (hop : o.op=.alloc 33)
  (h : wpList Tryz.prog ops Q rest (a.put o.dst (.pointer (some ⟨w.heap.size,0,none⟩))) (w.alloc (.cells #[.bool false,.slice none 0 0] 33))) : wpList Tryz.prog ops Q (o :: rest) a w := by
 refine wpList_plain hgd fun K hK => ?_
 have e : (execOp a.eval o).run Tryz.prog w=.ok (.value (.pointer (some ⟨w.heap.size,0,none⟩))) (w.alloc (.cells #[.bool false,.slice none 0 0] 33)) := by
  unfold execOp
  rw [hop]
  simp [go_sem]
 unfold Oper.wp
 rw [e]
 exact hK _ _ h
theorem Uu {a : Act} {w : World} : ∀ u F,(u,F) ∈ ([] : List (Nat × Fact))→F.on (a.tmps.getD u undef) w := fun _ _ h => by cases h
theorem Qu {a : Act} {w : World} {t : Nat} {G : Fact} {l : List (Nat × Fact)} (h : G.on (a.tmps.getD t undef) w) (hl : ∀ u F,(u,F) ∈ l→F.on (a.tmps.getD u undef) w) : ∀ u F,(u,F) ∈ (t,G) :: l→F.on (a.tmps.getD u undef) w := fun u F hm => by
 rcases List.mem_cons.1 hm with e | hm
 ·cases e
  exact h
 ·exact hl u F hm
theorem Uq {w0 w : World} : ∀ (k G : Nat) (t : TypeId) (Fs : Fact),([] : List (Nat × TypeId × Fact))[k]? = some (G,t,Fs)→w0.heap.size≤G∧BoxIs w G t Fs := fun _ _ _ _ h => by simp at h
theorem Xq (vs : Array Value) (w : World) : (callFunc 11 vs).run Tryz.prog w=.ok (.enter 11 vs) w := QY Tryz.func11 (by kernel_rfl) (by kernel_rfl) vs w
theorem UI (vs : Array Value) (w : World) : (callFunc 22 vs).run Tryz.prog w=.ok (.enter 22 vs) w := QY Tryz.func22 (by kernel_rfl) (by kernel_rfl) vs w
theorem Wa (vs : Array Value) (w : World) : (callFunc 21 vs).run Tryz.prog w=.ok (.enter 21 vs) w := QY Tryz.func21 (by kernel_rfl) (by kernel_rfl) vs w
theorem UF (vs : Array Value) (w : World) : (callFunc 23 vs).run Tryz.prog w=.ok (.enter 23 vs) w := QY Tryz.func23 (by kernel_rfl) (by kernel_rfl) vs w
theorem XL (vs : Array Value) (w : World) : (callFunc 7 vs).run Tryz.prog w=.ok (.enter 7 vs) w := QY Tryz.func7 (by kernel_rfl) (by kernel_rfl) vs w
theorem Jz (vs : Array Value) (w : World) : (callFunc 6 vs).run Tryz.prog w=.ok (.enter 6 vs) w := QY Tryz.func6 (by kernel_rfl) (by kernel_rfl) vs w
theorem con_Of {s : ByteArray} (hs : s.size≤4294967280) : Con Tryz.prog QZ 7 [Tx s] (Rt (Cx.rd s.data.toList)) := fun w vs hp h => by
 obtain ⟨v0,rfl,h0⟩ := Xu h
 cases h0
 refine (RZ s w hp.2 hs).mono ?_
 rintro _ w' ⟨hb,g,rfl,_,h⟩
 exact ⟨hb,_,rfl,g,rfl,h⟩
theorem tx_sz {q : Rat} {s : ByteArray} {k : Nat} (e : s.data.toList=tx q) (f : QS k q) (hk : 2*k+4≤4294967280) : s.size≤4294967280 := by
 have := tx_len f
 rw [← e,MR] at this
 omega
theorem con_OfT {x : Rat} {k : Nat} (f : QS k x) (hk : 2*k+4≤4294967280) : Con Tryz.prog QZ 7 [Tt x] (Rt x) := fun w vs hp h => by
 obtain ⟨v0,rfl,s,rfl,hs⟩ := Xu h
 refine (RZ s w hp.2 (tx_sz hs f hk)).mono ?_
 rintro _ w' ⟨hb,g,rfl,_,h⟩
 rw [hs,Sy] at h
 exact ⟨hb,_,rfl,g,rfl,h⟩
theorem Tb {w : World} {g : Nat} {q : Rat} {k : Nat} (h : RV w g q) (f : QS k q) (hk : k≤35184372088640) : Calls Tryz.prog 11 #[.pointer (some ⟨g,0,none⟩)] w fun e w' => Below w.heap.size w w'∧∃ g',e=.returned (.pointer (some ⟨g',0,none⟩))∧w.heap.size≤g'∧Own2 w' g' q.den := by
 have hk1 := Blk.new w #[.bool false,.slice none 0 0] 33
 have hb := Qh w (.cells #[.bool false,.slice none 0 0] 33)
 have HK := Qb hk1
 have HB := Qb hb
 have HR := Qb (h.below hb)
 have HL := Qb h.lt
 have F := Qb (Qs f.den hk)
 have HSZ : Hid ((w.alloc (.cells #[.bool false,.slice none 0 0] 33)).heap.size=w.heap.size+1) := Qb (by simp)
 clear hk1 hb h f
 go_enter Tryz.func11,Tryz.ntmps11
 go_wp2_with fail
 generalize w.alloc (.cells #[.bool false,.slice none 0 0] 33)=W at *
 refine (ZR HR.out).mono ?_
 rintro e w1 ⟨hb1,p,rfl,hp,ha⟩
 have hkk := HK.out.below hb1 (by rw [HSZ.out]; omega)
 have HK1 := Qb hkk
 have HP := Qb hp
 have HA := Qb (ha w.heap.size (by have := HL.out; omega) (by rw [HSZ.out]; omega))
 have HB1 := Qb (HB.out.trans (hb1.mono HB.out.size))
 clear hkk hp ha hb1
 go_wp2_with fail
 refine (Ys (At2.blk HK1.out) HP.out HA.out (by rw [Int.natAbs_natCast]; exact F.out)).mono ?_
 rintro e w2 ⟨rfl,hg⟩
 obtain ⟨ho,hbl⟩ := hg.own HK1.out
 have HO := Qb ho
 have HB2 := Qb (HB1.out.trans (hbl w.heap.size (Nat.le_refl _) HB1.out.size))
 clear hg ho hbl
 go_wp2
 go_ret
 exact ⟨HB2.out,_,rfl,Nat.le_refl _,HO.out⟩
theorem CM {n : Nat} (hn : n < 9223372036854775808) : Con Tryz.prog QZ 21 [In (n : Int)] (Iv (n : Int)) := fun w vs hp hall => by
 obtain ⟨v0,rfl,h⟩ := Xu hall
 cases h
 refine (Jq n hn w).mono ?_
 rintro _ w' ⟨hb,g,rfl,_,ho⟩
 exact ⟨hb,_,rfl,g,rfl,Or.inl ho⟩
def Ia (B : Nat) (z : Int) : Fact := ⟨fun v w => ∃ g,v=.pointer (some ⟨g,0,none⟩)∧B≤g∧Own2 w g z,fun hg ⟨g,e,h1,h2⟩ => ⟨g,e,h1,h2.grows hg⟩⟩
theorem iv_ia {B : Nat} {z : Int} {v : Value} {w : World} (h : (Ia B z).on v w) : (Iv z).on v w := by
 obtain ⟨g,e,_,h⟩ := h
 exact ⟨g,e,Or.inl h⟩
theorem Sk {B G' : Nat} {z : Int} {v : Value} {w : World} (h : (Ia B z).on v w) (hG : G' < B) : YX v G' := by
 obtain ⟨g,e,h1,_⟩ := h
 exact Lj e (by omega)
attribute [local go_sem ↓] Go.wp_at_zero Go.wp_at_succ
end Go.Proofs.YtnhplfjlhdpgoaaGreatDoor
/- RAB -/
namespace Go.Proofs.YtnhplfjlhdpgoaaGreatDoor
open Go.RowKit Cx
def Yf (x : Rat) : Rat := if x < 0 then -x else x
theorem Kr (x : Rat) : (Yf x).num=(x.num.natAbs : Int) := by
 unfold Yf
 have h : x < 0 ↔ x.num < 0 := by
  have := Rat.lt_iff x 0
  simpa using this
 split
 ·have h1 := h.1 (by assumption)
  rw [Rat.neg_num]
  omega
 ·have h1 : ¬ x.num < 0 := fun q => by
   have := h.2 q
   contradiction
  omega
theorem Ch (x : Rat) : (Yf x).den=x.den := by
 unfold Yf
 split
 ·exact Rat.neg_den x
 ·rfl
theorem RV.abs {w w' : World} {g : Nat} {q : Rat} (h : RV w g q) (hg : Gave w g 0 (q.num.natAbs : Int) w') : RV w' g (Yf q)∧Save g w w' := by
 refine ⟨?_,hg.save⟩
 obtain ⟨a1,l1,c1,a2,l2,c2,h0,h1,h2⟩ := h
 obtain ⟨w1,ao,n,c,hbl,rfl,hn⟩ := hg
 have hb1 := h0.below hbl h0.lt
 have hh1 : YU w1 g := ⟨_,_,hb1,by simp [Qm]⟩
 refine ⟨ao,n,c,a2,l2,c2,?_,?_,?_⟩
 ·have := (hb1.set 1 (.slice ao n c)).set 0 (.bool (decide ((q.num.natAbs : Int) < 0)))
  rw [Kr]
  simpa using this
 ·rw [Kr]
  exact hn.two hh1 rfl
 ·rcases h2 with h2 | ⟨e,h2⟩
  ·rw [Ch]
   exact Or.inl ((h2.below hbl).two hh1 rfl)
  ·exact Or.inr ⟨e,by rw [h2]; rfl⟩
theorem Dz {w : World} {g gx : Nat} {y0 y1 y2 y3 : Value} {x : Rat} {k : Nat} (hk : Blk w g #[y0,y1,y2,y3] 35) (hno : (#[y0,y1,y2,y3] : Array Value).all Qm=true) (hx : RV w gx x) (fx : QS k x) (hkl : k≤35184372088640) :
  Calls Tryz.prog 19 #[.pointer (some ⟨g,0,none⟩),.pointer (some ⟨gx,0,none⟩)] w fun e w' => e=.returned (.pointer (some ⟨g,0,none⟩))∧Save g w w'∧RV w' g (Yf x) := by
 have HX := Qb hx
 have HK := Qb hk
 have FX := Qb fx
 have SX := Qb (XK fx hkl)
 clear hx hk fx
 go_enter Tryz.func19,Tryz.ntmps19
 go_wp2_with fail
 refine (OQ HK.out hno HX.out FX.out hkl).mono ?_
 rintro e w1 ⟨rfl,hs1,hr1⟩
 have HS1 := Qb hs1
 have HR1 := Qb hr1
 clear hs1 hr1
 go_wp2_with fail
 go_region_held3 (fun _ => True) (trivial)
  (first
   | (go_at_call 51; refine (Dy (w := w1.drew) (HR1.out.below (Below.drew (Below.refl _ _))).at2 (HR1.out.below (Below.drew (Below.refl _ _))).num SX.out).mono ?_; rintro e w2 ⟨rfl,hg2⟩)
   )
 all_goals
  have hd : Below w1.heap.size w1 w1.drew := Below.drew (Below.refl _ _)
  obtain ⟨hr2,hs2⟩ := (HR1.out.below hd).abs hg2
  go_wp2
  go_ret
  exact ⟨rfl,HS1.out.trans ((Save.of hd).trans hs2),hr2⟩
end Go.Proofs.YtnhplfjlhdpgoaaGreatDoor
