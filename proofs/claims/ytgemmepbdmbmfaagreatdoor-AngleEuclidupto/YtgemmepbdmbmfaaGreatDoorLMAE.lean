/- Part 13 of the walks and of the mathematics under them: VP VPC VPD VPE VPF VPJ VY VSZ CFangled MAE. -/
import Derived.Test.YtgemmepbdmbmfaaGreatDoorA2
import Derived.Test.YtgemmepbdmbmfaaGreatDoorA12
set_option maxHeartbeats 16000000
set_option maxRecDepth 100000
/- VP -/
namespace Cx
open Go Go.RowKit
abbrev Hs := List (Nat × Nat × Nat × Nat)
def Sx.plus (S : Sx) (X : Hs) : Sx := { S with H := X ++ S.H }
abbrev Ask := Nat × Nat × Nat × Nat
def askZ (a : Nat) : Ask := (0,a,0,a)
def askOk (S : Sx) : Ask→Bool
 | (k,a,b,d) => (Nat.beq k 0 && (Nat.beq b 0 && Nat.beq d a)) || (Nat.beq k 3 && (match S.N[d]? with
  | some (op,ar) => Nat.beq op 3 && beqL ar [a,b]
  | none => false))
def acrossB (S : Sx) (a b : Nat) : List Nat→List Nat→Option (List Ask)
 | c :: l,d :: m => (S.nd 4 [a,d]).bind fun x => (S.nd 4 [c,b]).bind fun y => (S.nd 3 [x,y]).bind fun z => (acrossB S a b l m).map fun r => (3,x,y,z) :: r
 | _,_ => some []
def alikeB (S : Sx) : List Nat→List Nat→List Nat→List Nat→Option (List Ask)
 | pl,pm,a :: l,b :: m => (acrossB S a b pl pm).bind fun r => (alikeB S (pl ++ [a]) (pm ++ [b]) l m).map fun t => r ++ t
 | _,_,_,_ => some []
def sameA (S : Sx) : List Nat→List Nat→Option (List Ask)
 | a :: l,b :: m => (S.nd 3 [a,b]).bind fun d => (sameA S l m).map fun r => (3,a,b,d) :: r
 | _,_ => some []
def asks (S : Sx) (h : List HB) (code : Nat) (args : List AV) : Option (List Ask) :=
 match code with
 | 60 => arg1 (fun x => (asA x).bind fun cs => (qRow S cs).map fun l => l.map askZ) args
 | 61 => arg1 (fun x => (rowB h 1 x).bind fun p => (mapO (acX 0) p.2).map fun l => l.map askZ) args
 | 62 => arg2 (fun x y => (rowB h 1 x).bind fun p => (mapO (acX 0) p.2).bind fun l => (rowB h 1 y).bind fun p' => (mapO (acX 0) p'.2).bind fun m => alikeB S [] [] l m) args
 | 63 => arg1 (fun x => (asA x).bind fun cs => (mapO acTold cs).bind fun l => (plainOf S l).map fun xs => xs.map askZ) args
 | 67 => arg1 (fun x => (asA x).bind fun cs => (mapO (txNode S) (cs.take 3)).map fun l => l.map askZ) args
 | 65 => arg1 (fun x => (asA x).bind fun cs => (mapO (acX 0) cs).map fun l => l.map askZ) args
 | 66 => arg2 (fun x y => (asA x).bind fun cs => (asA y).bind fun ds => (mapO (acX 0) cs).bind fun l => (mapO (acX 0) ds).bind fun m => sameA S l m) args
 | 64 => arg1 (fun x => (asA x).bind fun cs => (qRow S cs).map fun l => (l.take 5).map askZ) args
 | _ => none
def splits : List Ask→Hs→List Hs
 | [],_ => []
 | (k,a,b,_) :: l,X => ((k,a,b,0) :: X) :: splits l ((k,a,b,1) :: X)
def allZ : List Ask→Hs→Hs
 | [],X => X
 | (k,a,b,_) :: l,X => allZ l ((k,a,b,1) :: X)
def bodyC (S : Sx) (call : CallF) : CallF := fun f args h nx => S.P.funcs[f]?.bind fun fn => fn.body.bind fun c => ifO (Nat.ble args.length fn.ntmps) ((runB S call fn.ntmps c { tm := numb1 0 args,h := h,nx := nx }).bind fun r =>
   ifO (Nat.ble r.1 1) ((mapO (resB S.P r.2) fn.results.toList).map fun xs => (tupB xs,r.2.h,r.2.nx)))
abbrev CRes := Option (AV × List HB × Nat)
def agree (h : List HB) (b : Bool) (hi : Nat) : CRes→Bool
 | some (v,h',nx') => (match asB v with
  | some c => b == c
  | none => false) && (Nat.ble nx' hi && h.all fun x => h'.any fun y => Nat.beq y.1 x.1 && acsW x.2 y.2)
 | none => false
def topN : Nat→List CRes→Nat
 | m,[] => m
 | m,some p :: rs => topN (bif Nat.ble m p.2.2 then p.2.2 else m) rs
 | m,none :: rs => topN m rs
def joinC (h : List HB) (nx : Nat) (rs : List CRes) : CRes :=
 match rs with
 | some p :: _ => (asB p.1).bind fun b => ifO (rs.all (agree h b (topN nx rs))) (some (kB b,h,topN nx rs))
 | _ => none
def askIt (S : Sx) (X : Hs) (h : List HB) (c : Nat) (args : List AV) : Option (List Ask × Nat) :=
 (asks (S.plus X) h c args).bind fun l => ifO (l.all (askOk S)) ((sqN S (l.map (·.2.2.2))).bind fun s => ((S.plus X).kn 0 s 0).map fun r => (l,r))
theorem askIt_some {S : Sx} {X : Hs} {h : List HB} {c : Nat} {args : List AV} {l : List Ask} {r : Nat} (e : askIt S X h c args=some (l,r)) : (∀ a ∈ l,askOk S a=true)∧∃ s,sqN S (l.map (·.2.2.2))=some s∧(S.plus X).kn 0 s 0=some r := by
 unfold askIt at e
 simp only [Option.bind_eq_some_iff,ifO_some,Option.map_eq_some_iff,List.all_eq_true,Prod.mk.injEq] at e
 obtain ⟨l',_,h1,s,h2,r',h3,rfl,rfl⟩ := e
 exact ⟨h1,s,h2,h3⟩
section
variable {S : Sx} {E : Ev S.nb} {w0 : World}
theorem bodyC_ok {call : CallF} (hm : S.P.follows .mixedOrders=true) (N : Knows S E) (hP : PrimOk S E w0) (hC : CallOk S E w0 call) : CallOk S E w0 (bodyC S call) := fun f args h nx p hp γ w vs hi hA hb hlt hf => by
 unfold bodyC at hp
 simp only [Option.bind_eq_some_iff,ifO_some,Option.map_eq_some_iff,Nat.ble_eq] at hp
 obtain ⟨fn,h1,c,h2,h3,⟨e,s'⟩,h4,h5,xs,h6,rfl⟩ := hp
 dsimp only at h5 h6
 rcases (show e=0 ∨ e=1 by omega) with rfl | rfl
 all_goals
  obtain ⟨_,_,r⟩ := runB_ok hm N hP hC c _ _ _ h4
  refine calls_of_wp h1 h2 (r γ _ w _ ⟨hi,fun t v q => ?_,hb,hlt,?_,rfl⟩ hf fun a' w' γ' hef hs => ?_)
  ·obtain ⟨_,q2⟩ := numb1_get q
   rw [Nat.sub_zero] at q2
   obtain ⟨u,hu,hv⟩ := hA.get q2
   have hlt : t < vs.length := (List.getElem?_eq_some_iff.1 hu).1
   have : (vs.toArray ++ Array.replicate (fn.ntmps - vs.toArray.size) undef).getD t undef=u := by
    rw [Array.getD_eq_getD_getElem?,Array.getElem?_append_left (by simpa using hlt)]
    simp [hu]
   show avOn _ v ((vs.toArray ++ Array.replicate (fn.ntmps - vs.toArray.size) undef).getD t undef)
   rw [this]
   exact hv
  ·have := hA.len
   simp
   omega
  ·obtain ⟨v,hv,hx⟩ := results_run hs h6
   exact ⟨hs.df,v,hv,v,γ',rfl,hef,hx,hs.bx⟩
theorem asB_kB {v : AV} {b : Bool} (h : asB v=some b) : v=kB b := by
 unfold asB at h
 rw [Option.bind_eq_some_iff] at h
 obtain ⟨c,h1,h2⟩ := h
 unfold asC at h1
 split at h1
 ·cases h1
  unfold acB at h2
  split at h2
  ·cases h2
   rfl
  ·cases h2
 ·cases h1
theorem agree_some {h : List HB} {b : Bool} {hi : Nat} {r : CRes} (hr : agree h b hi r=true) : ∃ h' nx',r=some (kB b,h',nx')∧nx'≤hi∧∀ x ∈ h,x ∈ h' := by
 unfold agree at hr
 split at hr
 ·rename_i v h' nx'
  rw [Bool.and_eq_true,Bool.and_eq_true,Nat.ble_eq,List.all_eq_true] at hr
  obtain ⟨h1,h2,h3⟩ := hr
  refine ⟨h',nx',?_,h2,fun x hx => ?_⟩
  ·split at h1
   ·rename_i c hc
    rw [asB_kB hc,show c=b from (by simpa using h1 : b=c).symm]
   ·cases h1
  ·have := h3 x hx
   rw [List.any_eq_true] at this
   obtain ⟨y,hy,e⟩ := this
   rw [Bool.and_eq_true,Nat.beq_eq] at e
   have : x=y := Prod.ext e.1.symm (acsW_eq e.2)
   rw [this]
   exact hy
 ·cases hr
variable {T : Hs→Prop} {z : Nat→Prop}
def AskTrue (S : Sx) (T : Hs→Prop) (z : Nat→Prop) : Prop := ∀ X,T X→∀ a,askOk S a=true→(z a.2.2.2→T ((a.1,a.2.1,a.2.2.1,1) :: X))∧(¬ z a.2.2.2→T ((a.1,a.2.1,a.2.2.1,0) :: X))
theorem allZ_true (hk : AskTrue S T z) : ∀ {l : List Ask} {X : Hs},T X→(∀ a ∈ l,askOk S a=true)→(∀ a ∈ l,z a.2.2.2)→T (allZ l X)
 | [],_,h,_,_ => h
 | (k,a,b,d) :: l,X,h,ho,hz => allZ_true (l := l) hk ((hk X h (k,a,b,d) (ho _ List.mem_cons_self)).1 (hz _ List.mem_cons_self)) (fun a ha => ho a (List.mem_cons_of_mem _ ha)) (fun a ha => hz a (List.mem_cons_of_mem _ ha))
theorem splits_true (hk : AskTrue S T z) : ∀ {l : List Ask} {X : Hs},T X→(∀ a ∈ l,askOk S a=true)→(∃ a ∈ l,¬ z a.2.2.2)→∃ X' ∈ splits l X,T X'
 | [],_,_,_,⟨_,h,_⟩ => by cases h
 | (k,a,b,d) :: l,X,h,ho,hz => by
  by_cases e : z d
  ·obtain ⟨X',h1,h2⟩ := splits_true (l := l) hk ((hk X h (k,a,b,d) (ho _ List.mem_cons_self)).1 e) (fun a ha => ho a (List.mem_cons_of_mem _ ha)) (by
    obtain ⟨c,hc,hn⟩ := hz
    rcases List.mem_cons.1 hc with rfl | hc
    ·exact (hn e).elim
    ·exact ⟨c,hc,hn⟩)
   exact ⟨X',List.mem_cons_of_mem _ h1,h2⟩
  ·exact ⟨_,List.mem_cons_self,(hk X h (k,a,b,d) (ho _ List.mem_cons_self)).2 e⟩
end
end Cx
/- VPC -/
namespace Go.Proofs.YtgemmepbdmbmfaaGreatDoor
open Cx Go Go.RowKit
section
variable {N : List Nd} {H : List (Nat × Nat × Nat × Nat)} {K : List (FuncId × List AC)} {L C : List (List Nat × Nat)} {Z : List Nat} {q : Nat→Rat} {σ : Nat→ByteArray} {w0 : World} {cl : List FuncId} {cs pr : List (FuncId × Nat)}
theorem kn_cons {k a b k' a' b' r' : Nat} {r : Nat} (h : knFrom k a b ((k',a',b',r') :: H)=some r) : (k=k'∧a=a'∧b=b'∧r=r') ∨ knFrom k a b H=some r := by
 unfold knFrom at h
 cases e : (Nat.beq k k' && (Nat.beq a a' && Nat.beq b b')) with
 | true =>
  rw [e] at h
  simp only [Bool.and_eq_true,Nat.beq_eq] at e
  exact Or.inl ⟨e.1,e.2.1,e.2.2,(Option.some.inj h).symm⟩
 | false =>
  rw [e] at h
  exact Or.inr h
theorem Hy.add0 (Y : Hy N H L C Z q σ) {a r : Nat} (h : Nat.beq 1 r=true ↔ q a=0) : Hy N ((0,a,0,r) :: H) L C Z q σ where
 nat := Y.nat
 qs := Y.qs
 zs := Y.zs
 par := Y.par
 lit := Y.lit
 k0 := fun a' r' g => by
  rcases kn_cons g with ⟨_,e1,_,e2⟩ | g
  ·rw [e1,e2]
   exact h
  ·exact Y.k0 a' r' g
 k1 := fun a' r' g => by
  rcases kn_cons g with ⟨e,_⟩ | g
  ·cases e
  ·exact Y.k1 a' r' g
 k2 := fun a' r' g => by
  rcases kn_cons g with ⟨e,_⟩ | g
  ·cases e
  ·exact Y.k2 a' r' g
 k4 := fun l a' b' r' g1 g => by
  rcases kn_cons g with ⟨e,_⟩ | g
  ·cases e
  ·exact Y.k4 l a' b' r' g1 g
 k3 := fun a' b' r' g => by
  rcases kn_cons g with ⟨e,_⟩ | g
  ·cases e
  ·exact Y.k3 a' b' r' g
 k6 := fun a' b' r' g => by
  rcases kn_cons g with ⟨e,_⟩ | g
  ·cases e
  ·exact Y.k6 a' b' r' g
 k5 := fun a' r' g => by
  rcases kn_cons g with ⟨e,_⟩ | g
  ·cases e
  ·exact Y.k5 a' r' g
theorem Hy.add3 (Y : Hy N H L C Z q σ) {a b r : Nat} (h : Nat.beq 1 r=true ↔ q a=q b) : Hy N ((3,a,b,r) :: H) L C Z q σ where
 nat := Y.nat
 qs := Y.qs
 zs := Y.zs
 par := Y.par
 lit := Y.lit
 k0 := fun a' r' g => by
  rcases kn_cons g with ⟨e,_⟩ | g
  ·cases e
  ·exact Y.k0 a' r' g
 k1 := fun a' r' g => by
  rcases kn_cons g with ⟨e,_⟩ | g
  ·cases e
  ·exact Y.k1 a' r' g
 k2 := fun a' r' g => by
  rcases kn_cons g with ⟨e,_⟩ | g
  ·cases e
  ·exact Y.k2 a' r' g
 k4 := fun l a' b' r' g1 g => by
  rcases kn_cons g with ⟨e,_⟩ | g
  ·cases e
  ·exact Y.k4 l a' b' r' g1 g
 k3 := fun a' b' r' g => by
  rcases kn_cons g with ⟨_,e1,e2,e3⟩ | g
  ·rw [e1,e2,e3]
   exact h
  ·exact Y.k3 a' b' r' g
 k6 := fun a' b' r' g => by
  rcases kn_cons g with ⟨e,_⟩ | g
  ·cases e
  ·exact Y.k6 a' b' r' g
 k5 := fun a' r' g => by
  rcases kn_cons g with ⟨e,_⟩ | g
  ·cases e
  ·exact Y.k5 a' r' g
theorem ask_true : AskTrue (sx Tryz.prog N H K L C Z pr) (fun X => Hy N (X ++ H) L C Z q σ) (fun d => q d=0) := fun X Y a ha => by
 obtain ⟨k,a,b,d⟩ := a
 have t1 : Nat.beq 1 1=true := rfl
 have t0 : Nat.beq 1 0 ≠ true := fun h => by cases h
 unfold askOk at ha
 rw [Bool.or_eq_true] at ha
 rcases ha with ha | ha
 ·simp only [Bool.and_eq_true,Nat.beq_eq] at ha
  obtain ⟨rfl,rfl,rfl⟩ := ha
  exact ⟨fun h => Hy.add0 Y ⟨fun _ => h,fun _ => t1⟩,fun h => Hy.add0 Y ⟨fun g => (t0 g).elim,fun g => (h g).elim⟩⟩
 ·rw [Bool.and_eq_true,Nat.beq_eq] at ha
  obtain ⟨rfl,hb⟩ := ha
  split at hb
  ·rename_i op ar hn
   rw [Bool.and_eq_true,Nat.beq_eq] at hb
   obtain ⟨rfl,hb⟩ := hb
   have e := beqL_eq hb
   subst e
   have hv : q d=q a - q b := Y.nat d _ hn
   have h2 : q d=0 ↔ q a=q b := by
    rw [hv]
    constructor <;> intro h <;> grind
   exact ⟨fun h => Hy.add3 Y ⟨fun _ => h2.1 h,fun _ => t1⟩,fun h => Hy.add3 Y ⟨fun g => (t0 g).elim,fun g => (h (h2.2 g)).elim⟩⟩
  ·cases hb
theorem sq_nn (y : Rat) : 0≤y*y := by
 by_cases h : y=0
 ·rw [h,Rat.zero_mul]
  exact Rat.le_refl
 ·exact Rat.le_of_lt (sq1_pos h)
theorem sq_sum {x y : Rat} (hx : 0≤x) : x+y*y=0 ↔ x=0∧y=0 := by
 constructor
 ·intro h
  have h2 := sq_nn y
  have h3 : x=0 := by grind
  refine ⟨h3,?_⟩
  have : y*y=0 := by grind
  rcases Rat.mul_eq_zero.1 this with g | g <;> exact g
 ·rintro ⟨rfl,rfl⟩
  grind
theorem sqF_val {H' : List (Nat × Nat × Nat × Nat)} (Y : Hy N H' L C Z q σ) : ∀ {l : List Nat} {s t : Nat},sqF (sx Tryz.prog N H K L C Z pr) s l=some t→0≤q s→0≤q t∧(q t=0 ↔ q s=0∧∀ d ∈ l,q d=0)
 | [],s,t,h,hs => by
  cases h
  exact ⟨hs,fun e => ⟨e,fun d hd => by cases hd⟩,fun e => e.1⟩
 | a :: l,s,t,h,hs => by
  unfold sqF at h
  simp only [Option.bind_eq_some_iff] at h
  obtain ⟨b,h1,c,h2,h3⟩ := h
  have e1 : q b=q a*q a := Hy.nd (H := H') (K := K) (pr := pr) Y h1
  have e2 : q c=q s+q b := Hy.nd (H := H') (K := K) (pr := pr) Y h2
  have n := sq_nn (q a)
  obtain ⟨g1,g2⟩ := sqF_val Y h3 (by grind)
  refine ⟨g1,g2.trans ?_⟩
  have e3 := sq_sum (y := q a) hs
  rw [e2,e1,e3]
  constructor
  ·rintro ⟨⟨x,y⟩,z⟩
   refine ⟨x,fun d hd => ?_⟩
   rcases List.mem_cons.1 hd with rfl | hd
   ·exact y
   ·exact z d hd
  ·rintro ⟨x,y⟩
   exact ⟨⟨x,y a List.mem_cons_self⟩,fun d hd => y d (List.mem_cons_of_mem _ hd)⟩
theorem sqN_val {H' : List (Nat × Nat × Nat × Nat)} (Y : Hy N H' L C Z q σ) {l : List Nat} {s : Nat} (h : sqN (sx Tryz.prog N H K L C Z pr) l=some s) : q s=0 ↔ ∀ d ∈ l,q d=0 := by
 unfold sqN at h
 split at h
 ·cases h
 ·rename_i a l
  rw [Option.bind_eq_some_iff] at h
  obtain ⟨b,h1,h2⟩ := h
  have e1 : q b=q a*q a := Hy.nd (H := H') (K := K) (pr := pr) Y h1
  have n := sq_nn (q a)
  obtain ⟨_,g⟩ := sqF_val Y h2 (by grind)
  rw [g,e1]
  constructor
  ·rintro ⟨x,y⟩ d hd
   rcases List.mem_cons.1 hd with rfl | hd
   ·rcases Rat.mul_eq_zero.1 x with x | x <;> exact x
   ·exact y d hd
  ·intro y
   refine ⟨?_,fun d hd => y d (List.mem_cons_of_mem _ hd)⟩
   rw [y a List.mem_cons_self,Rat.zero_mul]
end
end Go.Proofs.YtgemmepbdmbmfaaGreatDoor
/- VPD -/
namespace Cx
open Go Go.RowKit
def a1sB : List A1→List A1→Bool
 | [],[] => true
 | (a,x) :: l,(b,y) :: m => (a == b && acsW x y) && a1sB l m
 | _,_ => false
theorem a1sB_eq : ∀ {l m : List A1},a1sB l m=true→l=m
 | [],[],_ => rfl
 | (a,x) :: l,(b,y) :: m,h => by
  unfold a1sB at h
  simp only [Bool.and_eq_true,beq_iff_eq] at h
  obtain ⟨⟨h1,h2⟩,h3⟩ := h
  rw [h1,acsW_eq h2,a1sB_eq h3]
 | [],_ :: _,h => by cases h
 | _ :: _,[],h => by cases h
def avsB : List AV→List AV→Bool
 | [],[] => true
 | (a,x) :: l,(b,y) :: m => (a == b && a1sB x y) && avsB l m
 | _,_ => false
theorem avsB_eq : ∀ {l m : List AV},avsB l m=true→l=m
 | [],[],_ => rfl
 | (a,x) :: l,(b,y) :: m,h => by
  unfold avsB at h
  simp only [Bool.and_eq_true,beq_iff_eq] at h
  obtain ⟨⟨h1,h2⟩,h3⟩ := h
  rw [h1,a1sB_eq h2,avsB_eq h3]
 | [],_ :: _,h => by cases h
 | _ :: _,[],h => by cases h
abbrev Memo := List (FuncId × List AV × AV)
def memoGet (f : FuncId) (args : List AV) : Memo→Option AV
 | [] => none
 | (g,bs,v) :: m => bif Nat.beq f g && avsB args bs then some v else memoGet f args m
theorem memoGet_mem {f : FuncId} {args : List AV} {v : AV} : ∀ {m : Memo},memoGet f args m=some v→(f,args,v) ∈ m
 | [],h => by cases h
 | (g,bs,u) :: m,h => by
  unfold memoGet at h
  cases e : (Nat.beq f g && avsB args bs) with
  | true =>
   rw [e] at h
   rw [Bool.and_eq_true,Nat.beq_eq] at e
   rw [e.1,avsB_eq e.2,show u=v from Option.some.inj h]
   exact List.mem_cons_self
  | false =>
   rw [e] at h
   exact List.mem_cons_of_mem _ (memoGet_mem h)
def MemoOk (S : Sx) (E : Ev S.nb) (w0 : World) (M : Memo) : Prop := ∀ f args v,(f,args,v) ∈ M→∀ (γ : Nat→Option Nat) (w : World) (vs : List Value),WI w0 γ w→A2 (avOn (cOn E S.K γ w)) args vs →
 Calls S.P f vs.toArray w fun e w' => ∃ r,e=.returned r∧(∀ wr nx,(∀ b ∈ wr,Live γ b)→Ef S.nb w0 wr nx nx γ w γ w')∧avOn (cOn E S.K γ w') v r
section
variable {S : Sx} {E : Ev S.nb} {w0 : World}
variable {T : Hs→Prop} {z : Nat→Prop}
theorem memo_nil : MemoOk S E w0 [] := fun _ _ _ h => by cases h
end
end Cx
/- VPE -/
namespace Go.Proofs.YtgemmepbdmbmfaaGreatDoor
open Cx Go Go.RowKit
section
variable {N : List Nd} {H : List (Nat × Nat × Nat × Nat)} {K : List (FuncId × List AC)} {L C : List (List Nat × Nat)} {Z : List Nat} {q : Nat→Rat} {σ : Nat→ByteArray} {cl : List FuncId} {cs pr : List (FuncId × Nat)} {M : Memo} {w : World}
def MemoAll (N : List Nd) (L C : List (List Nat × Nat)) (Z : List Nat) (q : Nat→Rat) (σ : Nat→ByteArray) (cl : List FuncId) (w : World) (M : Memo) : Prop := ∀ H K,MemoOk (sx Tryz.prog N H K L C Z (prC cl)) (evS q σ) w M
theorem memoAll_nil : MemoAll N L C Z q σ cl w [] := fun _ _ => memo_nil
end
end Go.Proofs.YtgemmepbdmbmfaaGreatDoor
/- VPF -/
namespace Cx
open Go Go.RowKit
def hbsIn (l m : List HB) : Bool := l.all fun x => m.any fun y => Nat.beq x.1 y.1 && acsW x.2 y.2
theorem hbsIn_mem {l m : List HB} (h : hbsIn l m=true) {x : HB} (hx : x ∈ l) : x ∈ m := by
 unfold hbsIn at h
 rw [List.all_eq_true] at h
 have := h x hx
 rw [List.any_eq_true] at this
 obtain ⟨y,hy,e⟩ := this
 rw [Bool.and_eq_true,Nat.beq_eq] at e
 rw [show x=y from Prod.ext e.1 (acsW_eq e.2)]
 exact hy
abbrev MemoX := List (FuncId × List AV × List HB × Nat × AV × List HB × Nat)
def mxGet (f : FuncId) (args : List AV) (h : List HB) (nx : Nat) : MemoX→CRes
 | [] => none
 | (g,bs,k,n,p) :: m => bif (Nat.beq f g && Nat.beq nx n) && (avsB args bs && hbsIn k h) then some p else mxGet f args h nx m
section
variable {S : Sx} {E : Ev S.nb} {w0 : World}
def CallAt (S : Sx) (E : Ev S.nb) (w0 : World) (f : FuncId) (args : List AV) (h : List HB) (nx : Nat) (p : AV × List HB × Nat) : Prop := ∀ (γ : Nat→Option Nat) (w : World) (vs : List Value),WI w0 γ w→A2 (avOn (cOn E S.K γ w)) args vs→(∀ x ∈ h,boxOn E S.K γ w x)→(∀ x ∈ h,x.1 < nx)→(∀ b,nx≤b→b < p.2.2→γ b=none) →
 Calls S.P f vs.toArray w fun e w' => ∃ r γ',e=.returned r∧Ef S.nb w0 (h.map (·.1)) nx p.2.2 γ w γ' w'∧avOn (cOn E S.K γ' w') p.1 r∧∀ x ∈ p.2.1,boxOn E S.K γ' w' x
def MemoXOk (S : Sx) (E : Ev S.nb) (w0 : World) (B : MemoX) : Prop := ∀ f args h nx p,(f,args,h,nx,p) ∈ B→CallAt S E w0 f args h nx p
theorem mxGet_ok : ∀ {B : MemoX} {f : FuncId} {args : List AV} {h : List HB} {nx : Nat} {p : AV × List HB × Nat},MemoXOk S E w0 B→mxGet f args h nx B=some p→CallAt S E w0 f args h nx p
 | [],_,_,_,_,_,_,h => by cases h
 | (g,bs,k,n,u) :: m,f,args,h,nx,p,hB,hg => by
  unfold mxGet at hg
  cases e : ((Nat.beq f g && Nat.beq nx n) && (avsB args bs && hbsIn k h)) with
  | true =>
   rw [e] at hg
   have hu : u=p := Option.some.inj hg
   simp only [Bool.and_eq_true,Nat.beq_eq] at e
   obtain ⟨⟨e1,e2⟩,e3,e4⟩ := e
   subst hu e1 e2
   have ea := avsB_eq e3
   subst ea
   have base := hB f args k nx u List.mem_cons_self
   intro γ w vs hi hA hb hlt hf
   refine (base γ w vs hi hA (fun x hx => hb x (hbsIn_mem e4 hx)) (fun x hx => hlt x (hbsIn_mem e4 hx)) hf).mono ?_
   rintro _ w' ⟨r,γ',rfl,hef,hr,hx⟩
   refine ⟨r,γ',rfl,hef.more (fun b hb' => ?_) (fun b hb' => ?_),hr,hx⟩
   ·obtain ⟨x,hx',rfl⟩ := List.mem_map.1 hb'
    exact List.mem_map.2 ⟨x,hbsIn_mem e4 hx',rfl⟩
   ·obtain ⟨x,hx',rfl⟩ := List.mem_map.1 hb'
    obtain ⟨_,_,_,_,hl,_⟩ := hb x hx'
    exact hl
  | false =>
   rw [e] at hg
   exact mxGet_ok (fun f' a' h' n' p' hm => hB f' a' h' n' p' (List.mem_cons_of_mem _ hm)) hg
variable {T : Hs→Prop} {z : Nat→Prop}
end
end Cx
namespace Go.Proofs.YtgemmepbdmbmfaaGreatDoor
open Cx Go Go.RowKit
section
variable {N : List Nd} {H : List (Nat × Nat × Nat × Nat)} {K : List (FuncId × List AC)} {L C : List (List Nat × Nat)} {Z : List Nat} {q : Nat→Rat} {σ : Nat→ByteArray} {cl : List FuncId} {cs : List (FuncId × Nat)} {M : Memo} {B : MemoX} {w : World}
theorem memoX_nil : MemoXOk (sx Tryz.prog N H K L C Z (prC cl)) (evS q σ) w [] := fun _ _ _ _ _ h => by cases h
end
end Go.Proofs.YtgemmepbdmbmfaaGreatDoor
/- VPJ -/
namespace Cx
open Go Go.RowKit
def zN (S : Sx) : Nat→Nat→Bool
 | 0,_ => false
 | d+1,i => (match S.kn 0 i 0 with
  | some r => Nat.beq 1 r
  | none => false) || (match S.N[i]? with
  | some (op,[a]) => Nat.beq op 5 && zN S d a
  | some (op,[a,b]) => Nat.beq op 4 && (zN S d a || zN S d b)
  | _ => false)
def sameN (S : Sx) (i j : Nat) : Bool := Nat.beq i j || (match S.N[i]? with
 | some (op,[a,b]) => Nat.beq op 2 && (Nat.beq a j && zN S 3 b)
 | _ => false)
def sameV (S : Sx) (v u : AV) : Bool := avsB [v] [u] || (match rN v with
 | some i => (match rN u with
  | some j => sameN S i j
  | none => false)
 | none => false)
def okT (S : Sx) (s0 s1 : St) (t : Nat) : Bool := match tget t s1.tm with
 | some v => (match tget t s0.tm with
  | some u => sameV S v u
  | none => false)
 | none => false
def joinSt (S : Sx) : Option (Nat × St)→Option (Nat × St)→Option (Nat × St)
 | some (e0,s0),some (e1,s1) => ifO (Nat.beq e0 e1) (some (e1,{ tm := s1.tm.filter fun p => okT S s0 s1 p.1,h := s1.h.filter fun x => s0.h.any fun y => Nat.beq x.1 y.1 && acsW x.2 y.2,nx := bif Nat.ble s0.nx s1.nx then s1.nx else s0.nx }))
 | _,_ => none
def loopJ (S : Sx) (R : Hs→St→Option (Nat × St)) (X : Hs) : List Nat→St→Option (Nat × St)
 | [],s => loopB (R X) 100 s
 | a :: l,s => (joinSt (S.plus ((0,a,0,1) :: X)) (R ((0,a,0,1) :: X) s) (R ((0,a,0,0) :: X) s)).bind fun r => bif Nat.beq r.1 0 then loopJ S R X l r.2 else some r
def runJ (S : Sx) (cl : Hs→CallF) (X : Hs) (n : Nat) (l : List Nat) : Code→St→Option (Nat × St)
 | .seq a b,s => (runJ S cl X n l a s).bind fun r => bif Nat.beq r.1 0 then runJ S cl X n l b r.2 else some r
 | .block id c,s => (runJ S cl X n l c s).map fun r => bif Nat.beq r.1 (id+2) then (0,r.2) else r
 | .loop c,s => loopJ S (fun Y => runB (S.plus Y) (cl Y) n c) X l s
 | c,s => runB (S.plus X) (cl X) n c s
def bodyJ (S : Sx) (cl : Hs→CallF) (X : Hs) (l : List Nat) : CallF := fun f args h nx => S.P.funcs[f]?.bind fun fn => fn.body.bind fun c => ifO (Nat.ble args.length fn.ntmps) ((runJ S cl X fn.ntmps l c { tm := numb1 0 args,h := h,nx := nx }).bind fun r =>
   ifO (Nat.ble r.1 1) ((mapO (resB S.P r.2) fn.results.toList).map fun xs => (tupB xs,r.2.h,r.2.nx)))
def jRow (h : List HB) (args : List AV) : Option (List Nat) := arg1 (fun x => (rowB h 1 x).bind fun p => p.2.head?.bind fun c => (rowB h 1 (v1 c)).bind fun p' => mapO (acX 0) p'.2) args
def callJ (S : Sx) (cs : List (FuncId × Nat)) (M : Memo) (B : MemoX) (J : FuncId) : Nat→Hs→CallF
 | 0,_,_,_,_,_ => none
 | n+1,X,f,args,h,nx => match memoGet f args M with
  | some v => some (v,h,nx)
  | none => match mxGet f args h nx B with
   | some p => some p
   | none => bif Nat.beq f J then (jRow h args).bind fun l => bodyJ S (callJ S cs M B J n) X l f args h nx else match prGet f cs with
    | none => bodyC (S.plus X) (callJ S cs M B J n X) f args h nx
    | some c => match askIt S X h c args with
     | none => bodyC (S.plus X) (callJ S cs M B J n X) f args h nx
     | some (l,r) => bif Nat.beq 1 r then bodyC (S.plus (allZ l X)) (callJ S cs M B J n (allZ l X)) f args h nx
      else joinC h nx ((splits l X).map fun X' => bodyC (S.plus X') (callJ S cs M B J n X') f args h nx)
section
variable {S : Sx} {E : Ev S.nb} {w0 : World} {n : Nat} {T : Hs→Prop} {z : Nat→Prop}
theorem tget_filter {f : Nat→Bool} {t : Nat} {v : AV} : ∀ {tm : List (Nat × AV)},tget t (tm.filter fun p => f p.1)=some v→f t=true∧tget t tm=some v
 | [],h => by cases h
 | (u,x) :: tm,h => by
  cases e : f u with
  | true =>
   rw [List.filter_cons_of_pos (by exact e)] at h
   unfold tget at h ⊢
   cases g : Nat.beq t u with
   | true =>
    rw [g] at h
    rw [Nat.beq_eq] at g
    subst g
    exact ⟨e,h⟩
   | false =>
    rw [g] at h
    exact tget_filter (tm := tm) h
  | false =>
   rw [List.filter_cons_of_neg (by rw [e]; decide)] at h
   obtain ⟨h1,h2⟩ := tget_filter (tm := tm) h
   refine ⟨h1,?_⟩
   unfold tget
   cases g : Nat.beq t u with
   | true =>
    rw [Nat.beq_eq] at g
    subst g
    rw [e] at h1
    cases h1
   | false => exact h2
theorem rN_on {γ : Nat→Option Nat} {w : World} {v : AV} {i : Nat} {x : Value} (h : rN v=some i) (hx : avOn (cOn E S.K γ w) v x) : (E.X 0 (E.q i)).on x w := by
 unfold rN at h
 rw [Option.bind_eq_some_iff] at h
 obtain ⟨c,h1,h2⟩ := h
 exact acX_on h2 (asC_on h1 hx)
theorem on_rN {γ : Nat→Option Nat} {w : World} {v : AV} {i : Nat} {x : Value} (h : rN v=some i) (hx : (E.X 0 (E.q i)).on x w) : avOn (cOn E S.K γ w) v x := by
 unfold rN at h
 rw [Option.bind_eq_some_iff] at h
 obtain ⟨c,h1,h2⟩ := h
 unfold asC at h1
 split at h1
 ·cases h1
  unfold acX at h2
  split at h2
  ·rw [ifO_some,Bool.and_eq_true,Nat.beq_eq,Nat.beq_eq] at h2
   obtain ⟨⟨e1,e2⟩,e3⟩ := h2
   cases e3
   subst e1 e2
   exact v1_on hx
  ·cases h2
 ·cases h1
theorem joinSt_ok {X : Hs} {a : Nat} {R : Hs→St→Option (Nat × St)} {wp : (Exit→Act→World→Prop)→Act→World→Prop} (hR : ∀ Y,T Y→RunOk S E w0 n (R Y) wp) (hk : AskTrue S T z) (hX : T X) (hq : ∀ Y,T Y→∀ i j,sameN (S.plus Y) i j=true→E.q i=E.q j) :
  RunOk S E w0 n (fun s => joinSt (S.plus ((0,a,0,1) :: X)) (R ((0,a,0,1) :: X) s) (R ((0,a,0,0) :: X) s)) wp := by
 intro s e s' hr
 dsimp only at hr
 unfold joinSt at hr
 split at hr
 ·rename_i e0 s0 e1 s1 g0 g1
  rw [ifO_some,Nat.beq_eq] at hr
  obtain ⟨he,hs'⟩ := hr
  cases hs'
  have ask := hk X hX (0,a,0,a) (by simp [askOk])
  have m0 : s0.nx≤(bif Nat.ble s0.nx s1.nx then s1.nx else s0.nx) := by
   cases q : Nat.ble s0.nx s1.nx with
   | true => rw [Nat.ble_eq] at q; exact q
   | false => exact Nat.le_refl _
  have m1 : s1.nx≤(bif Nat.ble s0.nx s1.nx then s1.nx else s0.nx) := by
   cases q : Nat.ble s0.nx s1.nx with
   | true => exact Nat.le_refl _
   | false =>
    have : ¬ s0.nx≤s1.nx := fun h => by rw [← Nat.ble_eq,q] at h; cases h
    show s1.nx≤s0.nx
    omega
  have inH : ∀ x ∈ (s1.h.filter fun x => s0.h.any fun y => Nat.beq x.1 y.1 && acsW x.2 y.2),x ∈ s1.h∧x ∈ s0.h := fun x hx => by
   rw [List.mem_filter,List.any_eq_true] at hx
   obtain ⟨h1,y,hy,h2⟩ := hx
   rw [Bool.and_eq_true,Nat.beq_eq] at h2
   rw [show x=y from Prod.ext h2.1 (acsW_eq h2.2)] at h1 ⊢
   exact ⟨h1,hy⟩
  by_cases hz : z a
  ·have hT := ask.1 hz
   obtain ⟨l,i,r⟩ := hR _ hT s e0 s0 g0
   refine ⟨Nat.le_trans l m0,fun x hx => ?_,fun γ b w Q hs hf hQ => ?_⟩
   ·rcases i x (inH x hx).2 with q | q
    ·exact Or.inl q
    ·exact Or.inr ⟨q.1,Nat.lt_of_lt_of_le q.2 m0⟩
   ·rw [← he] at hQ
    refine r γ b w Q hs (fun c q1 q2 => hf c q1 (Nat.lt_of_lt_of_le q2 m0)) fun b1 w1 γ1 hef hs1 => hQ b1 w1 γ1 (hef.wide (Nat.le_refl _) m0) ⟨hs1.wi,fun t v ht => ?_,fun x hx => hs1.bx x (inH x hx).2,fun x hx => Nat.lt_of_lt_of_le (hs1.lt x (inH x hx).2) m0,hs1.sz,hs1.df⟩
    obtain ⟨k1,k2⟩ := tget_filter (f := okT (S.plus ((0,a,0,1) :: X)) s0 s1) ht
    unfold okT at k1
    rw [k2] at k1
    dsimp only at k1
    split at k1
    ·rename_i u hu
     have hv := hs1.tm t u hu
     unfold sameV at k1
     rw [Bool.or_eq_true] at k1
     rcases k1 with k1 | k1
     ·have := avsB_eq k1
      cases this
      exact hv
     ·split at k1
      ·rename_i i1 hi1
       split at k1
       ·rename_i j1 hj1
        have := rN_on hj1 hv
        rw [← hq _ hT i1 j1 k1] at this
        exact on_rN hi1 this
       ·cases k1
      ·cases k1
    ·cases k1
  ·have hT := ask.2 hz
   obtain ⟨l,i,r⟩ := hR _ hT s e s1 g1
   refine ⟨Nat.le_trans l m1,fun x hx => ?_,fun γ b w Q hs hf hQ => ?_⟩
   ·rcases i x (inH x hx).1 with q | q
    ·exact Or.inl q
    ·exact Or.inr ⟨q.1,Nat.lt_of_lt_of_le q.2 m1⟩
   ·refine r γ b w Q hs (fun c q1 q2 => hf c q1 (Nat.lt_of_lt_of_le q2 m1)) fun b1 w1 γ1 hef hs1 => hQ b1 w1 γ1 (hef.wide (Nat.le_refl _) m1) ⟨hs1.wi,fun t v ht => ?_,fun x hx => hs1.bx x (inH x hx).1,fun x hx => Nat.lt_of_lt_of_le (hs1.lt x (inH x hx).1) m1,hs1.sz,hs1.df⟩
    exact hs1.tm t v (tget_filter (f := okT (S.plus ((0,a,0,1) :: X)) s0 s1) ht).2
 ·cases hr
theorem loopB_ok {f : St→Option (Nat × St)} {c : Code} (hc : RunOk S E w0 n f (fun Q a w => c.wp S.P Q a w)) (k : Nat) : RunOk S E w0 n (loopB f k) (fun Q a w => Code.rounds S.P c Q k a w) := by
 induction k with
 | zero => intro s e s' hr; cases hr
 | succ k ih =>
  intro s e s' hr
  unfold loopB at hr
  rw [Option.bind_eq_some_iff] at hr
  obtain ⟨⟨e1,s1⟩,h1,hr⟩ := hr
  obtain ⟨l1,i1,r1⟩ := hc s e1 s1 h1
  dsimp only at hr
  cases hz : Nat.beq e1 0 with
  | true =>
   rw [hz] at hr
   obtain ⟨l2,i2,r2⟩ := ih s1 e s' hr
   rw [Nat.beq_eq] at hz
   subst hz
   refine ⟨Nat.le_trans l1 l2,ids_seq l1 l2 i1 i2,fun γ a w Q hs hf hQ => ?_⟩
   show c.wp S.P (Exit.then (fun a w => Code.rounds S.P c Q k a w) Q) a w
   refine r1 γ a w _ hs (fun b q1 q2 => hf b q1 (by omega)) fun a1 w1 γ1 he1 hs1 => ?_
   refine r2 γ1 a1 w1 Q hs1 (fun b q1 q2 => ?_) fun a2 w2 γ2 he2 hs2 => hQ a2 w2 γ2 (he1.seq he2 l1 l2 hf i1) hs2
   rw [he1.same b (by omega)]
   exact hf b (by omega) q2
  | false =>
   rw [hz] at hr
   cases hr
   refine ⟨l1,i1,fun γ a w Q hs hf hQ => ?_⟩
   show c.wp S.P (Exit.then (fun a w => Code.rounds S.P c Q k a w) Q) a w
   exact r1 γ a w _ hs hf fun a1 w1 γ1 he1 hs1 => then_other (exitOf_ne hz) (hQ a1 w1 γ1 he1 hs1)
theorem loopJ_ok {X : Hs} {R : Hs→St→Option (Nat × St)} {c : Code} (hR : ∀ Y,T Y→RunOk S E w0 n (R Y) (fun Q a w => c.wp S.P Q a w)) (hk : AskTrue S T z) (hX : T X) (hq : ∀ Y,T Y→∀ i j,sameN (S.plus Y) i j=true→E.q i=E.q j) :
  ∀ (l : List Nat),RunOk S E w0 n (loopJ S R X l) (fun Q a w => Code.rounds S.P c Q (100+l.length) a w)
 | [] => loopB_ok (hR X hX) 100
 | a :: l => by
  intro s e s' hr
  unfold loopJ at hr
  rw [Option.bind_eq_some_iff] at hr
  obtain ⟨⟨e1,s1⟩,h1,hr⟩ := hr
  obtain ⟨l1,i1,r1⟩ := joinSt_ok (a := a) hR hk hX hq s e1 s1 h1
  dsimp only at hr
  cases hz : Nat.beq e1 0 with
  | true =>
   rw [hz] at hr
   obtain ⟨l2,i2,r2⟩ := loopJ_ok hR hk hX hq l s1 e s' hr
   rw [Nat.beq_eq] at hz
   subst hz
   refine ⟨Nat.le_trans l1 l2,ids_seq l1 l2 i1 i2,fun γ b w Q hs hf hQ => ?_⟩
   show c.wp S.P (Exit.then (fun a w => Code.rounds S.P c Q (100+l.length) a w) Q) b w
   refine r1 γ b w _ hs (fun b q1 q2 => hf b q1 (by omega)) fun a1 w1 γ1 he1 hs1 => ?_
   refine r2 γ1 a1 w1 Q hs1 (fun b q1 q2 => ?_) fun a2 w2 γ2 he2 hs2 => hQ a2 w2 γ2 (he1.seq he2 l1 l2 hf i1) hs2
   rw [he1.same b (by omega)]
   exact hf b (by omega) q2
  | false =>
   rw [hz] at hr
   cases hr
   refine ⟨l1,i1,fun γ b w Q hs hf hQ => ?_⟩
   show c.wp S.P (Exit.then (fun a w => Code.rounds S.P c Q (100+l.length) a w) Q) b w
   exact r1 γ b w _ hs hf fun a1 w1 γ1 he1 hs1 => then_other (exitOf_ne hz) (hQ a1 w1 γ1 he1 hs1)
theorem RunOk.less {X : Hs} {f : St→Option (Nat × St)} {wp : (Exit→Act→World→Prop)→Act→World→Prop} (h : RunOk (S.plus X) E w0 n f wp) : RunOk S E w0 n f wp := fun s e s' hr => by
 obtain ⟨h1,h2,h3⟩ := h s e s' hr
 exact ⟨h1,h2,fun γ a w Q hs hf hQ => h3 γ a w Q ⟨hs.wi,hs.tm,hs.bx,hs.lt,hs.sz,hs.df⟩ hf fun a' w' γ' q1 q2 => hQ a' w' γ' q1 ⟨q2.wi,q2.tm,q2.bx,q2.lt,q2.sz,q2.df⟩⟩
theorem runJ_ok {cl : Hs→CallF} {X : Hs} {l : List Nat} (hm : S.P.follows .mixedOrders=true) (hN : ∀ Y,T Y→Knows (S.plus Y) E) (hP : ∀ Y,T Y→PrimOk (S.plus Y) E w0) (hC : ∀ Y,T Y→CallOk S E w0 (cl Y)) (hk : AskTrue S T z) (hX : T X) (hq : ∀ Y,T Y→∀ i j,sameN (S.plus Y) i j=true→E.q i=E.q j) :
  ∀ (c : Code),RunOk S E w0 n (runJ S cl X n l c) (fun Q a w => c.wp S.P Q a w)
 | .seq c1 c2 => fun s e s' hr => by
  unfold runJ at hr
  rw [Option.bind_eq_some_iff] at hr
  obtain ⟨⟨e1,s1⟩,h1,hr⟩ := hr
  obtain ⟨l1,i1,r1⟩ := runJ_ok hm hN hP hC hk hX hq c1 s e1 s1 h1
  dsimp only at hr
  cases hz : Nat.beq e1 0 with
  | true =>
   rw [hz] at hr
   obtain ⟨l2,i2,r2⟩ := runJ_ok hm hN hP hC hk hX hq c2 s1 e s' hr
   rw [Nat.beq_eq] at hz
   subst hz
   refine ⟨Nat.le_trans l1 l2,ids_seq l1 l2 i1 i2,fun γ a w Q hs hf hQ => wp_seq (r1 γ a w _ hs (fun b q1 q2 => hf b q1 (by omega)) fun a1 w1 γ1 he1 hs1 => ?_)⟩
   refine r2 γ1 a1 w1 Q hs1 (fun b q1 q2 => ?_) fun a2 w2 γ2 he2 hs2 => hQ a2 w2 γ2 (he1.seq he2 l1 l2 hf i1) hs2
   rw [he1.same b (by omega)]
   exact hf b (by omega) q2
  | false =>
   rw [hz] at hr
   cases hr
   exact ⟨l1,i1,fun γ a w Q hs hf hQ => wp_seq (r1 γ a w _ hs hf fun a1 w1 γ1 he1 hs1 => then_other (exitOf_ne hz) (hQ a1 w1 γ1 he1 hs1))⟩
 | .block id c => fun s e s' hr => by
  unfold runJ at hr
  rw [Option.map_eq_some_iff] at hr
  obtain ⟨⟨e1,s1⟩,h1,hr⟩ := hr
  obtain ⟨l,i,r⟩ := runJ_ok hm hN hP hC hk hX hq c s e1 s1 h1
  dsimp only at hr
  cases hz : Nat.beq e1 (id+2) with
  | true =>
   rw [hz] at hr
   cases hr
   rw [Nat.beq_eq] at hz
   subst hz
   refine ⟨l,i,fun γ a w Q hs hf hQ => wp_block (r γ a w _ hs hf fun a1 w1 γ1 he1 hs1 => ?_)⟩
   show (if id=id then Q .normal a1 w1 else Q (.exit id) a1 w1)
   rw [if_pos rfl]
   exact hQ a1 w1 γ1 he1 hs1
  | false =>
   rw [hz] at hr
   cases hr
   exact ⟨l,i,fun γ a w Q hs hf hQ => wp_block (r γ a w _ hs hf fun a1 w1 γ1 he1 hs1 => inBlock_other hz (hQ a1 w1 γ1 he1 hs1))⟩
 | .loop c => fun s e s' hr => by
  unfold runJ at hr
  obtain ⟨l1,i,r⟩ := loopJ_ok (c := c) (fun Y hY => RunOk.less (runB_ok (S := S.plus Y) (n := n) hm (hN Y hY) (hP Y hY) (hC Y hY) c)) hk hX hq l s e s' hr
  exact ⟨l1,i,fun γ a w Q hs hf hQ => wp_loop_rounds (100+l.length) (r γ a w Q hs hf hQ)⟩
 | .region id os dr => fun s e s' hr => RunOk.less (runB_ok (S := S.plus X) (n := n) hm (hN X hX) (hP X hX) (hC X hX) (.region id os dr)) s e s' hr
 | .skip => fun s e s' hr => RunOk.less (runB_ok (S := S.plus X) (n := n) hm (hN X hX) (hP X hX) (hC X hX) .skip) s e s' hr
 | .exit id => fun s e s' hr => RunOk.less (runB_ok (S := S.plus X) (n := n) hm (hN X hX) (hP X hX) (hC X hX) (.exit id)) s e s' hr
 | .ret => fun s e s' hr => RunOk.less (runB_ok (S := S.plus X) (n := n) hm (hN X hX) (hP X hX) (hC X hX) .ret) s e s' hr
 | .cond x a b => fun s e s' hr => RunOk.less (runB_ok (S := S.plus X) (n := n) hm (hN X hX) (hP X hX) (hC X hX) (.cond x a b)) s e s' hr
 | .rangeFunc _ _ _ _ => fun _ _ _ hr => by cases hr
 | .scope _ => fun _ _ _ hr => by cases hr
 | .label _ => fun _ _ _ hr => by cases hr
 | .goto _ => fun _ _ _ hr => by cases hr
 | .refuse _ => fun _ _ _ hr => by cases hr
theorem bodyJ_ok {cl : Hs→CallF} {X : Hs} {l : List Nat} (hm : S.P.follows .mixedOrders=true) (hN : ∀ Y,T Y→Knows (S.plus Y) E) (hP : ∀ Y,T Y→PrimOk (S.plus Y) E w0) (hC : ∀ Y,T Y→CallOk S E w0 (cl Y)) (hk : AskTrue S T z) (hX : T X) (hq : ∀ Y,T Y→∀ i j,sameN (S.plus Y) i j=true→E.q i=E.q j) : CallOk S E w0 (bodyJ S cl X l) := fun f args h nx p hp γ w vs hi hA hb hlt hf => by
 unfold bodyJ at hp
 simp only [Option.bind_eq_some_iff,ifO_some,Option.map_eq_some_iff,Nat.ble_eq] at hp
 obtain ⟨fn,h1,c,h2,h3,⟨e,s'⟩,h4,h5,xs,h6,rfl⟩ := hp
 dsimp only at h5 h6
 rcases (show e=0 ∨ e=1 by omega) with rfl | rfl
 all_goals
  obtain ⟨_,_,r⟩ := runJ_ok hm hN hP hC hk hX hq c _ _ _ h4
  refine calls_of_wp h1 h2 (r γ _ w _ ⟨hi,fun t v q => ?_,hb,hlt,?_,rfl⟩ hf fun a' w' γ' hef hs => ?_)
  ·obtain ⟨_,q2⟩ := numb1_get q
   rw [Nat.sub_zero] at q2
   obtain ⟨u,hu,hv⟩ := hA.get q2
   have hlt : t < vs.length := (List.getElem?_eq_some_iff.1 hu).1
   have : (vs.toArray ++ Array.replicate (fn.ntmps - vs.toArray.size) undef).getD t undef=u := by
    rw [Array.getD_eq_getD_getElem?,Array.getElem?_append_left (by simpa using hlt)]
    simp [hu]
   show avOn _ v ((vs.toArray ++ Array.replicate (fn.ntmps - vs.toArray.size) undef).getD t undef)
   rw [this]
   exact hv
  ·have := hA.len
   simp
   omega
  ·obtain ⟨v,hv,hx⟩ := results_run hs h6
   exact ⟨hs.df,v,hv,v,γ',rfl,hef,hx,hs.bx⟩
theorem callJ_ok {cs : List (FuncId × Nat)} {M : Memo} {B : MemoX} {J : FuncId} (hm : S.P.follows .mixedOrders=true) (hM : MemoOk S E w0 M) (hB : MemoXOk S E w0 B) (hN : ∀ X,T X→Knows (S.plus X) E) (hP : ∀ X,T X→PrimOk (S.plus X) E w0) (hk : AskTrue S T z)
  (hs : ∀ X,T X→∀ l s r,sqN S l=some s→(S.plus X).kn 0 s 0=some r→(Nat.beq 1 r=true→∀ d ∈ l,z d)∧(Nat.beq 1 r=false→∃ d ∈ l,¬ z d)) (hq : ∀ Y,T Y→∀ i j,sameN (S.plus Y) i j=true→E.q i=E.q j) : ∀ n X,T X→CallOk S E w0 (callJ S cs M B J n X)
 | 0,_,_ => fun _ _ _ _ _ h => by cases h
 | n+1,X,hX => fun f args h nx p hp => by
  have body : ∀ Y,T Y→CallOk S E w0 (bodyC (S.plus Y) (callJ S cs M B J n Y)) := fun Y hY => bodyC_ok (S := S.plus Y) hm (hN Y hY) (hP Y hY) (callJ_ok hm hM hB hN hP hk hs hq n Y hY)
  unfold callJ at hp
  split at hp
  ·rename_i v hv
   cases hp
   intro γ w vs hi hA hb hlt hf
   refine (hM f args v (memoGet_mem hv) γ w vs hi hA).mono ?_
   rintro _ w' ⟨r,rfl,hef,hr⟩
   have live : ∀ b ∈ h.map (·.1),Live γ b := fun b hb' => by
    obtain ⟨x,hx,rfl⟩ := List.mem_map.1 hb'
    obtain ⟨_,_,_,_,hl,_⟩ := hb x hx
    exact hl
   exact ⟨r,γ,rfl,hef _ _ live,hr,fun x hx => (hef [] nx no_live).box hi (hb x hx) (by simp)⟩
  ·split at hp
   ·rename_i u hu
    cases hp
    exact mxGet_ok hB hu
   ·cases ej : Nat.beq f J with
    | true =>
     rw [ej] at hp
     replace hp : ((jRow h args).bind fun l => bodyJ S (callJ S cs M B J n) X l f args h nx)=some p := hp
     rw [Option.bind_eq_some_iff] at hp
     obtain ⟨l,_,hp⟩ := hp
     exact bodyJ_ok hm hN hP (fun Y hY => callJ_ok hm hM hB hN hP hk hs hq n Y hY) hk hX hq f args h nx p hp
    | false =>
     rw [ej] at hp
     dsimp only [cond_false] at hp
     split at hp
     ·exact body X hX f args h nx p hp
     ·split at hp
      ·exact body X hX f args h nx p hp
      rename_i l r hk'
      obtain ⟨hl,s,h1,h2⟩ := askIt_some hk'
      have h3 := hp
      obtain ⟨a1,a0⟩ := hs X hX _ s r h1 h2
      cases e : Nat.beq 1 r with
      | true =>
       rw [e] at h3
       exact body _ (allZ_true hk hX hl fun a ha => a1 e _ (List.mem_map_of_mem ha)) f args h nx p h3
      | false =>
       rw [e] at h3
       obtain ⟨d,hd,hz⟩ := a0 e
       obtain ⟨a,ha,rfl⟩ := List.mem_map.1 hd
       obtain ⟨X',m1,m2⟩ := splits_true hk hX hl ⟨a,ha,hz⟩
       replace h3 : joinC h nx ((splits l X).map fun X' => bodyC (S.plus X') (callJ S cs M B J n X') f args h nx)=some p := h3
       unfold joinC at h3
       split at h3
       ·rename_i p0 rs hrs
        rw [Option.bind_eq_some_iff] at h3
        obtain ⟨b,hb,h4⟩ := h3
        rw [ifO_some,List.all_eq_true] at h4
        obtain ⟨h5,h6⟩ := h4
        cases h6
        obtain ⟨h',nx',q1,q2,q3⟩ := agree_some (h5 _ (List.mem_map_of_mem m1))
        intro γ w vs hi hA hb hlt hf
        refine (body X' m2 f args h nx _ q1 γ w vs hi hA hb hlt fun b g1 g2 => hf b g1 (Nat.lt_of_lt_of_le g2 q2)).mono ?_
        rintro _ w' ⟨r',γ',rfl,hef,hv,hx⟩
        exact ⟨r',γ',rfl,hef.wide (Nat.le_refl _) q2,hv,fun x hh => hx x (q3 x hh)⟩
       ·cases h3
end
end Cx
namespace Go.Proofs.YtgemmepbdmbmfaaGreatDoor
open Cx Go Go.RowKit
section
variable {N : List Nd} {H : List (Nat × Nat × Nat × Nat)} {K : List (FuncId × List AC)} {L C : List (List Nat × Nat)} {Z : List Nat} {q : Nat→Rat} {σ : Nat→ByteArray} {cl : List FuncId} {cs : List (FuncId × Nat)} {M : Memo} {B : MemoX} {w : World} {J : FuncId} {pr : List (FuncId × Nat)}
theorem zN_val (Y : Hy N H L C Z q σ) : ∀ {d i : Nat},zN (sx Tryz.prog N H K L C Z pr) d i=true→q i=0
 | 0,_,h => by cases h
 | d+1,i,h => by
  unfold zN at h
  rw [Bool.or_eq_true] at h
  rcases h with h | h
  ·split at h
   ·rename_i r hr
    exact (Y.k0 i r hr).1 h
   ·cases h
  ·split at h
   ·rename_i op a ha
    rw [Bool.and_eq_true,Nat.beq_eq] at h
    obtain ⟨rfl,h⟩ := h
    have e := Y.nat i _ ha
    rw [e]
    show -(q a)=0
    rw [zN_val Y h]
    rfl
   ·rename_i op a b ha
    rw [Bool.and_eq_true,Nat.beq_eq,Bool.or_eq_true] at h
    obtain ⟨rfl,h⟩ := h
    have e := Y.nat i _ ha
    rw [e]
    show q a*q b=0
    rcases h with h | h
    ·rw [zN_val Y h,Rat.zero_mul]
    ·rw [zN_val Y h,Rat.mul_zero]
   ·cases h
theorem sameN_val (Y : Hy N H L C Z q σ) {i j : Nat} (h : sameN (sx Tryz.prog N H K L C Z pr) i j=true) : q i=q j := by
 unfold sameN at h
 rw [Bool.or_eq_true] at h
 rcases h with h | h
 ·rw [Nat.beq_eq] at h
  rw [h]
 ·split at h
  ·rename_i op a b ha
   rw [Bool.and_eq_true,Bool.and_eq_true,Nat.beq_eq,Nat.beq_eq] at h
   obtain ⟨rfl,rfl,h⟩ := h
   rw [Y.nat i _ ha]
   show q a+q b=q a
   rw [zN_val Y h,Rat.add_zero]
  ·cases h
theorem run_toldJ' {f : FuncId} {args : List AV} {vs : List Value} (k : Nat) (Y : Hy N H L C Z q σ) (hc : ∀ f ∈ cl,Closed f) (hm : (Tryz.prog).follows .mixedOrders=true) (hp : PreS w) (hM : MemoAll N L C Z q σ cl w M) (hB : MemoXOk (sx Tryz.prog N H K L C Z (prC cl)) (evS q σ) w B) (hr : (callJ (sx Tryz.prog N H K L C Z (prC cl)) cs M B J k [] f args [] 0).map (·.1)=some (kB true))
  (hA : A2 (avOn (cOn (evS q σ) K (fun _ => none) w)) args vs) : Calls Tryz.prog f vs.toArray w fun e w' => Below w.heap.size w w'∧e=.returned (.bool true) := by
 rw [Option.map_eq_some_iff] at hr
 obtain ⟨⟨v,p⟩,h1,h2⟩ := hr
 dsimp only at h2
 subst h2
 have ok := callJ_ok (S := sx Tryz.prog N H K L C Z (prC cl)) (E := evS q σ) (w0 := w) (J := J) (cs := cs) (T := fun X => Hy N (X ++ H) L C Z q σ) (z := fun d => q d=0) hm (hM H K) hB (fun X hX => knows hX) (fun X hX => primOk hX hp hc) ask_true (fun X hX l s r h1 h2 => by
  have e := hX.k0 s r h2
  have g := sqN_val hX h1
  refine ⟨fun h => g.1 (e.1 h),fun h => ?_⟩
  have hn : ¬ ∀ d ∈ l,q d=0 := fun q' => by
   rw [e.2 (g.2 q')] at h
   cases h
  simpa using hn) (fun X hX i j h => sameN_val hX h) k [] Y
 refine (ok f args [] 0 (kB true,p) h1 (fun _ => none) w vs ⟨Below.refl _ _,(fun _ _ h => by cases h)⟩ hA (fun x hx => by cases hx) (fun x hx => by cases hx) (fun _ _ _ => rfl)).mono ?_
 rintro _ w' ⟨r,γ',rfl,hef,hv,_⟩
 exact ⟨hef.wi.bel,by rw [show r=.bool true from (asC_on (v := kB true) (c := .inl (.bool true)) rfl hv).1]⟩
end
end Go.Proofs.YtgemmepbdmbmfaaGreatDoor
/- VY -/
namespace Go.Proofs.YtgemmepbdmbmfaaGreatDoor
open Go.RowKit Cx
theorem den_num (t : Rat) : t*(t.den : Rat)=((t.num : Int) : Rat) := by
 conv => lhs; lhs; rw [← Rat.mkRat_self t]
 have h0 : (t.den : Rat) ≠ 0 := fun h => t.den_nz (by exact_mod_cast h)
 rw [Rat.mkRat_eq_div,Rat.div_mul_cancel h0]
theorem whole {q : Rat} (h : q.den=1) : q=((q.num : Int) : Rat) := by
 have := den_num q
 rw [h] at this
 rw [← this]
 show q=q*((1 : Nat) : Rat)
 exact (Rat.mul_one q).symm
theorem plain_uniq {us : List Rat} {t : Rat} (hU : PlainOk us) (hV : PlainOk (us.map fun u => t*u)) : t=1 := by
 have hb := den_num t
 have key : ∀ u ∈ us,(t*u).num*(t.den : Int)=t.num*u.num := fun u hu => by
  have e1 := whole (hU.den u hu)
  have e2 := whole (hV.den (t*u) (List.mem_map_of_mem (f := fun u => t*u) hu))
  have e3 : (((t*u).num*(t.den : Int) : Int) : Rat)=((t.num*u.num : Int) : Rat) := by
   rw [Rat.intCast_mul,Rat.intCast_mul,← e2,← e1,← hb]
   show t*u*((t.den : Int) : Rat)=t*(t.den : Rat)*u
   have : (((t.den : Nat) : Int) : Rat)=(t.den : Rat) := rfl
   rw [this]
   grind
  exact_mod_cast e3
 have h1 : t.den=1 := by
  have : t.den ∣ gN us := gN_great fun u hu => by
   have hd : (t.den : Int) ∣ t.num*u.num := ⟨(t*u).num,by rw [← key u hu,Int.mul_comm]⟩
   have hd' : t.den ∣ t.num.natAbs*u.num.natAbs := by
    have := Int.natAbs_dvd_natAbs.2 hd
    rwa [Int.natAbs_natCast,Int.natAbs_mul] at this
   exact Nat.Coprime.dvd_of_dvd_mul_left t.reduced.symm hd'
  rw [hU.gcd] at this
  exact Nat.dvd_one.1 this
 have ht := whole h1
 have h2 : t.num.natAbs=1 := by
  have : t.num.natAbs ∣ gN (us.map fun u => t*u) := gN_great fun v hv => by
   obtain ⟨u,hu,rfl⟩ := List.mem_map.1 hv
   have := key u hu
   rw [h1] at this
   refine ⟨u.num.natAbs,?_⟩
   rw [← Int.natAbs_mul,← this]
   simp
  rw [hV.gcd] at this
  exact Nat.dvd_one.1 this
 -- the first that is not 0
 have hne : ∃ (j : Nat) (hj : j < us.length),us[j] ≠ 0∧∀ (i : Nat) (hi : i < us.length),i < j→us[i]=0 := by
  apply Classical.byContradiction
  intro hn
  have all0 : ∀ (n j : Nat) (hj : j < us.length),j < n→us[j]=0 := by
   intro n
   induction n with
   | zero => intro j _ h; omega
   | succ n ih =>
    intro j hj hjn
    apply Classical.byContradiction
    intro h
    exact hn ⟨j,hj,h,fun i hi hij => ih i hi (by omega)⟩
  have h0 : (0 : Nat) ∣ gN us := gN_great fun u hu => by
   obtain ⟨j,hj,rfl⟩ := List.getElem_of_mem hu
   rw [all0 us.length j hj hj]
   decide
  rw [hU.gcd] at h0
  exact absurd (Nat.zero_dvd.1 h0) (by decide)
 obtain ⟨j,hj,hj1,hj2⟩ := hne
 have p1 := hU.sgn j hj hj2 hj1
 have ht0 : t ≠ 0 := fun e => by rw [e] at h2; exact absurd h2 (by decide)
 have p2 := hV.sgn j (by simpa using hj) (fun i hi hij => by
  rw [List.getElem_map,hj2 i (by simpa using hi) hij,Rat.mul_zero]) (by
  rw [List.getElem_map]
  exact fun e => (Rat.mul_eq_zero.1 e).elim ht0 hj1)
 rw [List.getElem_map] at p2
 have hk := key us[j] (List.getElem_mem hj)
 rw [h1] at hk
 have hk' : (t*us[j]).num=t.num*us[j].num := by simpa using hk
 rw [hk'] at p2
 have ht1 : t.num=1 := by
  rcases Int.natAbs_eq t.num with e | e
  ·rw [h2] at e
   exact e
  ·rw [h2] at e
   rw [e] at p2
   omega
 rw [ht,ht1]
 rfl
theorem fac_scale {qs : List Rat} {q0 r : Rat} (h0 : q0 ∈ qs) (hz : q0 ≠ 0) (hr : r ≠ 0) : r*fac (qs.map fun q => r*q)=fac qs := by
 have hf := fac_ne h0 hz
 have hU := plain_fac h0 hz
 have hV := plain_fac (qs := qs.map fun q => r*q) (List.mem_map_of_mem (f := fun q => r*q) h0) (fun e => (Rat.mul_eq_zero.1 e).elim hr hz)
 have he : (qs.map fun q => r*q).map (fun q => q*fac (qs.map fun q => r*q))=(qs.map (fun q => q*fac qs)).map fun u => (r*fac (qs.map fun q => r*q) / fac qs)*u := by
  rw [List.map_map,List.map_map]
  apply List.map_congr_left
  intro q _
  show r*q*fac (qs.map fun q => r*q)=r*fac (qs.map fun q => r*q) / fac qs*(q*fac qs)
  generalize fac (qs.map fun q => r*q)=g
  generalize fac qs=f at *
  have : f*f⁻¹=1 := Rat.mul_inv_cancel f hf
  rw [Rat.div_def]
  grind
 rw [he] at hV
 have := plain_uniq hU hV
 generalize fac (qs.map fun q => r*q)=g at *
 generalize fac qs=f at *
 have h2 : r*g / f*f=r*g := Rat.div_mul_cancel hf
 rw [this] at h2
 grind
theorem fac_two {a b c d : Rat} (h : a*d=b*c) (h1 : ¬ (a=0∧b=0)) (h2 : ¬ (c=0∧d=0)) : a*fac [a,b]=c*fac [c,d]∧b*fac [a,b]=d*fac [c,d] := by
 have key : ∀ r : Rat,r ≠ 0→c=r*a→d=r*b→a*fac [a,b]=c*fac [c,d]∧b*fac [a,b]=d*fac [c,d] := fun r hr e1 e2 => by
  have hs : r*fac [r*a,r*b]=fac [a,b] := by
   by_cases ha : a=0
   ·exact fac_scale (qs := [a,b]) (q0 := b) (by simp) (fun e => h1 ⟨ha,e⟩) hr
   ·exact fac_scale (qs := [a,b]) (q0 := a) (by simp) ha hr
  rw [e1,e2]
  generalize fac [r*a,r*b]=g at *
  rw [← hs]
  constructor <;> grind
 by_cases ha : a=0
 ·have hb : b ≠ 0 := fun e => h1 ⟨ha,e⟩
  have hc : c=0 := by
   rw [ha,Rat.zero_mul] at h
   exact (Rat.mul_eq_zero.1 h.symm).resolve_left hb
  have hd : d ≠ 0 := fun e => h2 ⟨hc,e⟩
  have e : d / b*b=d := Rat.div_mul_cancel hb
  refine key (d / b) (fun q => hd (by rw [← e,q,Rat.zero_mul])) (by rw [hc,ha,Rat.mul_zero]) e.symm
 ·have e : c / a*a=c := Rat.div_mul_cancel ha
  have hd : d=c / a*b := by
   have h3 : a*(d - c / a*b)=0 := by grind
   have := (Rat.mul_eq_zero.1 h3).resolve_left ha
   grind
  refine key (c / a) (fun q => h2 ⟨by rw [← e,q,Rat.zero_mul],by rw [hd,q,Rat.zero_mul]⟩) e.symm hd
end Go.Proofs.YtgemmepbdmbmfaaGreatDoor
/- VSZ -/
namespace Go.Proofs.YtgemmepbdmbmfaaGreatDoor
open Go.RowKit Cx
def szW (Z : List Nat) (I : List Bool) (z : Nat) (b : Bool) (nd : Nd) : Bool := match nd.1,nd.2 with
 | 0,[_,n,d] => (Nat.blt n (2 ^ z) && (Nat.blt 0 d && Nat.blt d (2 ^ z))) && (!b || Nat.beq d 1)
 | 1,[_] => Nat.ble 3495259 z && !b
 | 2,[a,c] => (match Z[a]?,Z[c]?,I[a]?,I[c]? with
  | some x,some y,some true,some true => Nat.ble (Nat.max x y+1) z
  | some x,some y,_,_ => Nat.ble (x+y+1) z && !b
  | _,_,_,_ => false)
 | 3,[a,c] => (match Z[a]?,Z[c]?,I[a]?,I[c]? with
  | some x,some y,some true,some true => Nat.ble (Nat.max x y+1) z
  | some x,some y,_,_ => Nat.ble (x+y+1) z && !b
  | _,_,_,_ => false)
 | 4,[a,c] => (match Z[a]?,Z[c]?,I[a]?,I[c]? with
  | some x,some y,some true,some true => Nat.ble (x+y) z
  | some x,some y,_,_ => Nat.ble (x+y) z && !b
  | _,_,_,_ => false)
 | 5,[a] => (match Z[a]?,I[a]? with
  | some x,some true => Nat.ble x z
  | some x,_ => Nat.ble x z && !b
  | _,_ => false)
 | 6,[a,c] => (match Z[a]?,Z[c]? with
  | some x,some y => Nat.ble (x+y) z && !b
  | _,_ => false)
 | 8,i :: xs => (match getsO Z xs with
  | some zs => Nat.blt i xs.length && (Nat.ble ((xs.length+1)*maxL zs+1) z || (xs.all (fun a => match I[a]? with
   | some true => true
   | _ => false) && (match xs[i]? with
   | some a => (match Z[a]? with
    | some x => Nat.ble (x+1) z
    | none => false)
   | none => false)))
  | none => false)
 | _,_ => false
def szC (Z : List Nat) (I : List Bool) : List Nd→List Nat→List Bool→Bool
 | [],[],[] => true
 | nd :: ns,z :: zs,b :: bs => (szW Z I z b nd && Nat.ble z 1000000000000) && szC Z I ns zs bs
 | _,_,_ => false
theorem szC_get {Z : List Nat} {I : List Bool} : ∀ {ns : List Nd} {zs : List Nat} {bs : List Bool} {i z : Nat},szC Z I ns zs bs=true→zs[i]? = some z→∃ nd b,ns[i]? = some nd∧bs[i]? = some b∧szW Z I z b nd=true∧z≤1000000000000
 | [],[],[],_,_,_,h => by simp at h
 | [],[],_ :: _,_,_,h,_ => by cases h
 | [],_ :: _,_,_,_,h,_ => by cases h
 | _ :: _,[],_,_,_,h,_ => by cases h
 | _ :: _,_ :: _,[],_,_,h,_ => by cases h
 | nd :: ns,z' :: zs,b :: bs,0,z,h,e => by
  have : z'=z := by simpa using e
  subst this
  unfold szC at h
  simp only [Bool.and_eq_true,Nat.ble_eq] at h
  exact ⟨nd,b,rfl,rfl,h.1.1,h.1.2⟩
 | nd :: ns,z' :: zs,b :: bs,i+1,z,h,e => by
  unfold szC at h
  rw [Bool.and_eq_true] at h
  obtain ⟨nd2,b2,g1,g2,g3⟩ := szC_get (ns := ns) (zs := zs) (bs := bs) h.2 (show zs[i]? = some z by simpa using e)
  exact ⟨nd2,b2,by simpa using g1,by simpa using g2,g3⟩
theorem szC_len {Z : List Nat} {I : List Bool} : ∀ {ns : List Nd} {zs : List Nat} {bs : List Bool},szC Z I ns zs bs=true→ns.length=zs.length
 | [],[],[],_ => rfl
 | [],[],_ :: _,h => by cases h
 | [],_ :: _,_,h => by cases h
 | _ :: _,[],_,h => by cases h
 | _ :: _,_ :: _,[],h => by cases h
 | _ :: _,_ :: _,_ :: _,h => by
  unfold szC at h
  rw [Bool.and_eq_true] at h
  exact congrArg (· + 1) (szC_len h.2)
structure QW (z : Nat) (x : Rat) : Prop where
 qs : QS z x
 wh : x.den=1
theorem QW.of {z : Nat} {n : Int} (h : n.natAbs < 2 ^ z) (hz : 0 < z) : QW z ((n : Int) : Rat) :=
 ⟨⟨by simpa using h,by
  show ((n : Int) : Rat).den < 2 ^ z
  rw [Rat.den_intCast]
  exact Nat.one_lt_two_pow (by omega)⟩,Rat.den_intCast n⟩
theorem QW.mono {k l : Nat} {x : Rat} (h : QW k x) (hk : k≤l) : QW l x := ⟨h.qs.mono hk,h.wh⟩
theorem two_max {a b x y : Nat} (h1 : a < 2 ^ x) (h2 : b < 2 ^ y) : a+b < 2 ^ (Nat.max x y+1) := by
 have e1 : 2 ^ x≤2 ^ Nat.max x y := Nat.pow_le_pow_right (by decide) (Nat.le_max_left x y)
 have e2 : 2 ^ y≤2 ^ Nat.max x y := Nat.pow_le_pow_right (by decide) (Nat.le_max_right x y)
 rw [Nat.pow_succ]
 omega
theorem QW.add {x y : Nat} {a b : Rat} (h1 : QW x a) (h2 : QW y b) : QW (Nat.max x y+1) (a+b) := by
 rw [whole h1.wh,whole h2.wh,← Rat.intCast_add]
 refine QW.of ?_ (by omega)
 have := two_max h1.qs.num h2.qs.num
 omega
theorem QW.sub {x y : Nat} {a b : Rat} (h1 : QW x a) (h2 : QW y b) : QW (Nat.max x y+1) (a - b) := by
 rw [whole h1.wh,whole h2.wh,← Rat.intCast_sub]
 refine QW.of ?_ (by omega)
 have := two_max h1.qs.num h2.qs.num
 omega
theorem QW.mul {x y : Nat} {a b : Rat} (h1 : QW x a) (h2 : QW y b) : QW (x+y) (a*b) := by
 refine ⟨h1.qs.mul h2.qs,?_⟩
 rw [whole h1.wh,whole h2.wh,← Rat.intCast_mul]
 exact Rat.den_intCast _
theorem QW.neg {x : Nat} {a : Rat} (h1 : QW x a) : QW x (-a) := ⟨h1.qs.neg,h1.wh⟩
theorem lD_one : ∀ {qs : List Rat} {m : Nat},(∀ q ∈ qs,q.den=1)→qs.foldl (fun m q => m*(q.den / Nat.gcd m q.den)) m=m
 | [],_,_ => rfl
 | q :: qs,m,h => by
  rw [List.foldl_cons,h q List.mem_cons_self,Nat.gcd_one_right,Nat.div_self (by decide),Nat.mul_one]
  exact lD_one fun p hp => h p (List.mem_cons_of_mem _ hp)
theorem QW.fac {z : Nat} {qs : List Rat} {x : Rat} (hx : QS z x) (h : x ∈ qs) (hw : ∀ y ∈ qs,y.den=1) : QS (z+1) (x*fac qs) := by
 have hl : lD qs=1 := lD_one hw
 refine ⟨?_,?_⟩
 ·rw [fac_abs h,hl,hw x h,Nat.div_self (by decide),Nat.mul_one]
  exact Nat.lt_of_le_of_lt (Nat.div_le_self _ _) (Nat.lt_of_lt_of_le hx.num (Nat.pow_le_pow_right (by decide) (by omega)))
 ·rw [fac_den h]
  exact Nat.one_lt_two_pow (by omega)
theorem ten_three : ∀ n : Nat,10 ^ n≤2 ^ ((10*n+2) / 3)
 | 0 => by decide
 | 1 => by decide
 | 2 => by decide
 | n+3 => by
  have h := ten_three n
  have e : (10*(n+3)+2) / 3=(10*n+2) / 3+10 := by omega
  rw [e,Nat.pow_add,Nat.pow_add]
  exact Nat.mul_le_mul h (by decide)
theorem QS.rd3 (l : List UInt8) : QS ((10*l.length+2) / 3+5) (Cx.rd l) := by
 have key : ∀ {m : List UInt8},digs m=true→dv m < 2 ^ ((10*m.length+2) / 3) := fun {m} h => Nat.lt_of_lt_of_le (dv_lt (digs_all h)) (ten_three _)
 unfold Cx.rd
 split
 ·rename_i h
  rw [Bool.and_eq_true] at h
  have h1 := key h.1
  have h2 := key h.2
  have h3 := up_len (tailOf l)
  have h4 := low_len (tailOf l)
  have h5 := tail_len l
  apply QS.mkr
  ·rw [sg_abs]; exact Nat.lt_of_lt_of_le h1 (Nat.pow_le_pow_right (by decide) (by omega))
  ·exact Nat.lt_of_lt_of_le h2 (Nat.pow_le_pow_right (by decide) (by omega))
 ·exact QS.zero.mono (by omega)
section
variable {N : List Nd} {Z : List Nat} {I : List Bool} {q : Nat→Rat}
theorem sizes_okW {σ : Nat→ByteArray} (hσ : ∀ j,(σ j).size≤1048576) (hw : wfB 0 N=true) (hz : szC Z I N Z I=true) (hq : ∀ (a : Nat) nd,N[a]? = some nd→q a=valN σ q nd) (h0 : ∀ a,N.length≤a→q a=0) : (∀ (a : Nat) z,Z[a]? = some z→QS z (q a))∧∀ a,QS 1000000000000 (q a) := by
 have h2 : ∀ (a : Nat) z,Z[a]? = some z→QS z (q a)∧(I[a]? = some true→(q a).den=1) := by
  intro a
  induction a using Nat.strongRecOn with
  | ind a ih =>
   intro z hz'
   obtain ⟨nd,b,hn,hb,hs,_⟩ := szC_get hz hz'
   have hwf := wfB_get hw hn
   rw [Nat.zero_add] at hwf
   rw [hq a nd hn,hb]
   obtain ⟨op,xs⟩ := nd
   unfold szW at hs
   unfold valN
   unfold wfN at hwf
   dsimp only at hs hwf ⊢
   have W : ∀ {c x},c < a→Z[c]? = some x→I[c]? = some true→QW x (q c) := fun hc hx hi => ⟨(ih _ hc _ hx).1,(ih _ hc _ hx).2 hi⟩
   have no : ∀ {v : Rat},b=false→(some b=some true→v.den=1) := fun e h => by rw [e] at h; cases h
   split at hs
   ·rename_i s n d
    simp only [Bool.and_eq_true] at hs
    obtain ⟨⟨h1,h2,h3⟩,h4⟩ := hs
    refine ⟨QS.const (by simpa [Nat.blt_eq] using h1) (by simpa [Nat.blt_eq] using h2) (by simpa [Nat.blt_eq] using h3),fun e => ?_⟩
    rw [show b=true from Option.some.inj e] at h4
    have hd : d=1 := by simpa using h4
    subst hd
    show (if s=0 then mkRat (n : Int) 1 else mkRat (-(n : Int)) 1).den=1
    split
    ·rw [Rat.mkRat_one]
     exact Rat.den_intCast _
    ·rw [Rat.mkRat_one]
     exact Rat.den_intCast _
   ·rename_i j
    simp only [Bool.and_eq_true,Nat.ble_eq,Bool.not_eq_true'] at hs
    exact ⟨QS.mono (QS.rd3 _) (by have := hσ j; rw [str_len]; omega),no hs.2⟩
   ·simp only [List.all_cons,List.all_nil,Bool.and_true,Bool.and_eq_true] at hwf
    have l1 := (by simpa [Nat.blt_eq] using hwf.1 : _ < a)
    have l2 := (by simpa [Nat.blt_eq] using hwf.2 : _ < a)
    split at hs
    ·rename_i x y hx hy i1 i2
     rw [Nat.ble_eq] at hs
     have := ((W l1 hx i1).add (W l2 hy i2)).mono hs
     exact ⟨this.qs,fun _ => this.wh⟩
    ·rename_i x y hx hy _
     simp only [Bool.and_eq_true,Nat.ble_eq,Bool.not_eq_true'] at hs
     exact ⟨((ih _ l1 x hx).1.add (ih _ l2 y hy).1).mono hs.1,no hs.2⟩
    ·cases hs
   ·simp only [List.all_cons,List.all_nil,Bool.and_true,Bool.and_eq_true] at hwf
    have l1 := (by simpa [Nat.blt_eq] using hwf.1 : _ < a)
    have l2 := (by simpa [Nat.blt_eq] using hwf.2 : _ < a)
    split at hs
    ·rename_i x y hx hy i1 i2
     rw [Nat.ble_eq] at hs
     have := ((W l1 hx i1).sub (W l2 hy i2)).mono hs
     exact ⟨this.qs,fun _ => this.wh⟩
    ·rename_i x y hx hy _
     simp only [Bool.and_eq_true,Nat.ble_eq,Bool.not_eq_true'] at hs
     exact ⟨((ih _ l1 x hx).1.sub (ih _ l2 y hy).1).mono hs.1,no hs.2⟩
    ·cases hs
   ·simp only [List.all_cons,List.all_nil,Bool.and_true,Bool.and_eq_true] at hwf
    have l1 := (by simpa [Nat.blt_eq] using hwf.1 : _ < a)
    have l2 := (by simpa [Nat.blt_eq] using hwf.2 : _ < a)
    split at hs
    ·rename_i x y hx hy i1 i2
     rw [Nat.ble_eq] at hs
     have := ((W l1 hx i1).mul (W l2 hy i2)).mono hs
     exact ⟨this.qs,fun _ => this.wh⟩
    ·rename_i x y hx hy _
     simp only [Bool.and_eq_true,Nat.ble_eq,Bool.not_eq_true'] at hs
     exact ⟨((ih _ l1 x hx).1.mul (ih _ l2 y hy).1).mono hs.1,no hs.2⟩
    ·cases hs
   ·simp only [List.all_cons,List.all_nil,Bool.and_true] at hwf
    have l1 := (by simpa [Nat.blt_eq] using hwf : _ < a)
    split at hs
    ·rename_i x hx i1
     rw [Nat.ble_eq] at hs
     have := (W l1 hx i1).neg.mono hs
     exact ⟨this.qs,fun _ => this.wh⟩
    ·rename_i x hx _
     simp only [Bool.and_eq_true,Nat.ble_eq,Bool.not_eq_true'] at hs
     exact ⟨((ih _ l1 x hx).1.neg).mono hs.1,no hs.2⟩
    ·cases hs
   ·simp only [List.all_cons,List.all_nil,Bool.and_true,Bool.and_eq_true] at hwf
    split at hs
    ·rename_i x y hx hy
     simp only [Bool.and_eq_true,Nat.ble_eq,Bool.not_eq_true'] at hs
     exact ⟨((ih _ (by simpa [Nat.blt_eq] using hwf.1) x hx).1.div (ih _ (by simpa [Nat.blt_eq] using hwf.2) y hy).1).mono hs.1,no hs.2⟩
    ·cases hs
   ·rename_i i ys
    split at hs
    ·rename_i zs hzs
     rw [Bool.and_eq_true] at hs
     have hi : i < ys.length := by simpa [Nat.blt_eq] using hs.1
     have hwf' : ys.all (Nat.blt · a)=true := hwf
     rw [List.all_eq_true] at hwf'
     have hlt : ∀ c ∈ ys,c < a := fun c hc => by simpa [Nat.blt_eq] using hwf' c hc
     have hm : q ys[i] ∈ ys.map q := List.mem_map_of_mem (List.getElem_mem hi)
     have hg : (ys.map q).getD i 0=q ys[i] := by
      rw [List.getD_eq_getElem?_getD,List.getElem?_map,List.getElem?_eq_getElem hi]
      rfl
     show QS z ((ys.map q).getD i 0*fac (ys.map q))∧(some b=some true→((ys.map q).getD i 0*fac (ys.map q)).den=1)
     rw [hg]
     refine ⟨?_,fun _ => fac_den hm⟩
     rcases Bool.or_eq_true _ _ ▸ hs.2 with h3 | h3
     ·rw [Nat.ble_eq] at h3
      have hall : ∀ y ∈ ys.map q,QS (maxL zs) y := fun y hy => by
       obtain ⟨c,hc,rfl⟩ := List.mem_map.1 hy
       obtain ⟨z',hm',hz2⟩ := getsO_get hzs c hc
       exact (ih c (hlt c hc) z' hz2).1.mono (le_maxL z' hm')
      have := QS.facN hall (x := q ys[i]) hm
      rw [List.length_map] at this
      exact this.mono h3
     ·rw [Bool.and_eq_true,List.all_eq_true] at h3
      obtain ⟨h4,h5⟩ := h3
      have hwh : ∀ y ∈ ys.map q,y.den=1 := fun y hy => by
       obtain ⟨c,hc,rfl⟩ := List.mem_map.1 hy
       obtain ⟨z',_,hz2⟩ := getsO_get hzs c hc
       refine (ih c (hlt c hc) z' hz2).2 ?_
       have := h4 c hc
       split at this
       ·assumption
       ·cases this
      rw [List.getElem?_eq_getElem hi] at h5
      dsimp only at h5
      split at h5
      ·rename_i x hx
       rw [Nat.ble_eq] at h5
       exact (QW.fac (ih _ (hlt _ (List.getElem_mem hi)) x hx).1 hm hwh).mono h5
      ·cases h5
    ·cases hs
   ·cases hs
 refine ⟨fun a z h => (h2 a z h).1,fun a => ?_⟩
 have hl := szC_len hz
 by_cases ha : a < Z.length
 ·obtain ⟨nd,b,_,_,_,hle⟩ := szC_get hz (List.getElem?_eq_getElem ha)
  exact (h2 a _ (List.getElem?_eq_getElem ha)).1.mono hle
 ·rw [h0 a (by omega)]
  exact QS.zero.mono (by decide)
theorem hy_ofW {L C : List (List Nat × Nat)} {σ : Nat→ByteArray} {H : List (Nat × Nat × Nat × Nat)} (hσ : ∀ j,(σ j).size≤1048576) (hw : wfB 0 N=true) (hz : szC Z I N Z I=true) (hl : litB N L=true) (hcn : canB N C=true) (hq : ∀ (a : Nat) nd,N[a]? = some nd→q a=valN σ q nd) (h0 : ∀ a,N.length≤a→q a=0) (hH : hAll q H) : Hy N H L C Z q σ where
 nat := hq
 qs := (sizes_okW hσ hw hz hq h0).2
 zs := (sizes_okW hσ hw hz hq h0).1
 par := hσ
 lit := fun s b h => lit_rd hl hq h
 k0 := fun a r h => kn_at hH h
 k1 := fun a r h => kn_at hH h
 k2 := fun a r h => kn_at hH h
 k3 := fun a b r h => kn_at hH h
 k4 := fun l a b r h1 h2 => by
  have h3 : Nat.beq 1 r=true ↔ q a=q b := kn_at hH h2
  rw [h3,← can_tx hcn hq h1]
  exact ⟨fun e => by rw [e],fun e => tellS_inj (bytesN_inj e)⟩
 k6 := fun a b r h => kn_at hH h
 k5 := fun a r h => kn_at hH h
end
end Go.Proofs.YtgemmepbdmbmfaaGreatDoor
/- CFangled -/
namespace Go.Proofs.YtgemmepbdmbmfaaGreatDoor
open Go.RowKit Cx
theorem closed_angled : Closed 93 :=
 closed_told (N := [(0,[0,0,1]),(0,[0,1,1]),(0,[1,1,1]),(5,[1]),(5,[2]),(4,[0,1]),(4,[3,4]),(2,[5,6]),(5,[3]),(4,[0,2]),(4,[8,1]),(3,[9,10]),(8,[0,7,11]),(8,[1,7,11]),(8,[0,12,13]),(8,[1,12,13]),(5,[15]),(4,[1,14]),(4,[0,16]),(2,[17,18]),(5,[0]),(4,[1,15]),(4,[20,14]),(3,[21,22]),(4,[19,14]),(4,[23,16]),(2,[24,25]),(5,[23]),(4,[19,15]),(4,[27,14]),(3,[28,29]),(8,[0,26,30]),(8,[1,26,30]),(3,[1,0]),(3,[0,0]),(5,[34]),(5,[33]),(4,[33,34]),(4,[35,36]),(2,[37,38]),(5,[35]),(4,[33,33]),(4,[40,34]),(3,[41,42]),(8,[0,39,43]),(8,[1,39,43])]) (H := [(0,0,0,1),(0,1,0,0),(0,12,0,0),(0,33,0,0),(0,34,0,1),(4,13,1,1),(4,12,1,1),(4,32,1,1),(4,31,0,1),(3,45,32,1),(3,44,31,1)]) (K := []) (L := [([48],0),([49],1),([],0),([45,49],2)]) (C := [([49],1),([48],0)]) (Z := [2,2,2,2,2,4,4,9,2,4,4,9,28,28,85,85,85,87,87,175,2,87,87,175,260,260,521,175,260,260,521,1564,1564,5,5,5,5,10,10,21,5,10,10,21,64,64]) (cl := []) 6 (fun _ h => by cases h) (by kernel_rfl) (by kernel_rfl) (by kernel_rfl) (by kernel_rfl) (by kernel_rfl) (by kernel_rfl) (by kernel_rfl)
end Go.Proofs.YtgemmepbdmbmfaaGreatDoor
/- MAE -/
namespace Go.Proofs.YtgemmepbdmbmfaaGreatDoor
open Go.RowKit Cx
def aE_N : List Nd := [(1,[4]),(1,[5]),(1,[0]),(1,[1]),(3,[2,0]),(3,[3,1]),(1,[2]),(1,[3]),(3,[6,0]),(3,[7,1]),(4,[4,4]),(4,[5,5]),(2,[10,11]),(1,[6]),(1,[7]),(3,[2,13]),(3,[3,14]),(3,[6,13]),(3,[7,14]),(4,[15,15]),(4,[16,16]),(2,[19,20]),(4,[17,17]),(4,[18,18]),(2,[22,23]),(5,[16]),(5,[18]),(4,[15,17]),(4,[25,26]),(2,[27,28]),(5,[25]),(4,[15,18]),(4,[30,17]),(3,[31,32]),(8,[0,29,33]),(8,[1,29,33]),(4,[8,8]),(4,[9,9]),(2,[36,37]),(5,[5]),(5,[9]),(4,[4,8]),(4,[39,40]),(2,[41,42]),(5,[39]),(4,[4,9]),(4,[44,8]),(3,[45,46]),(8,[0,43,47]),(8,[1,43,47]),(3,[2,6]),(3,[3,7]),(4,[50,50]),(4,[51,51]),(2,[52,53]),(3,[49,35]),(3,[48,34]),(4,[55,55]),(4,[56,56]),(2,[57,58]),(4,[2,2]),(4,[3,3]),(2,[60,61]),(0,[0,1,1]),(4,[6,6]),(4,[7,7]),(2,[64,65]),(4,[0,0]),(4,[1,1]),(2,[67,68]),(4,[13,13]),(4,[14,14]),(2,[70,71]),(0,[0,0,1]),(4,[1,63]),(2,[73,74]),(4,[63,14]),(5,[76]),(2,[75,77]),(4,[6,78]),(2,[73,79]),(4,[0,63]),(2,[73,81]),(4,[63,13]),(5,[83]),(2,[82,84]),(4,[7,85]),(5,[86]),(2,[80,87]),(4,[0,14]),(2,[73,89]),(4,[1,13]),(5,[91]),(2,[90,92]),(4,[63,93]),(2,[88,94]),(4,[62,95]),(2,[73,96]),(4,[66,78]),(2,[73,98]),(4,[69,63]),(2,[73,100]),(4,[63,72]),(5,[102]),(2,[101,103]),(4,[7,104]),(5,[105]),(2,[99,106]),(4,[69,14]),(2,[73,108]),(4,[1,72]),(5,[110]),(2,[109,111]),(4,[63,112]),(2,[107,113]),(4,[2,114]),(5,[115]),(2,[97,116]),(4,[66,85]),(2,[73,118]),(4,[6,104]),(5,[120]),(2,[119,121]),(4,[69,13]),(2,[73,123]),(4,[0,72]),(5,[125]),(2,[124,126]),(4,[63,127]),(2,[122,128]),(4,[3,129]),(2,[117,130]),(4,[66,93]),(2,[73,132]),(4,[6,112]),(5,[134]),(2,[133,135]),(4,[7,127]),(2,[136,137]),(4,[63,138]),(5,[139]),(2,[131,140])]
def aE_L : List (List Nat × Nat) := []
def aE_C : List (List Nat × Nat) := []
def aE_Z : List Nat := [3495259,3495259,3495259,3495259,6990519,6990519,3495259,3495259,6990519,6990519,13981038,13981038,27962077,3495259,3495259,6990519,6990519,6990519,6990519,13981038,13981038,27962077,13981038,13981038,27962077,6990519,6990519,13981038,13981038,27962077,6990519,13981038,13981038,27962077,83886232,83886232,13981038,13981038,27962077,6990519,6990519,13981038,13981038,27962077,6990519,13981038,13981038,27962077,83886232,83886232,6990519,6990519,13981038,13981038,27962077,83886233,83886233,167772466,167772466,167772467,6990518,6990518,13981037,2,6990518,6990518,13981037,6990518,6990518,13981037,6990518,6990518,13981037,2,3495261,3495264,3495261,3495261,6990526,10485785,10485788,3495261,3495264,3495261,3495261,6990526,10485785,10485785,20971574,6990518,6990521,6990518,6990518,13981040,13981042,34952617,48933654,48933657,20971563,20971566,13981039,13981042,13981039,13981039,27962082,31457341,31457341,52428908,17476296,17476299,17476296,17476296,34952596,34952598,87381507,90876766,90876766,139810424,20971563,20971566,31457341,31457341,52428908,17476296,17476299,17476296,17476296,34952596,34952598,87381507,90876766,230687191,27962077,27962080,38447855,38447855,66409936,38447855,104857792,104857794,104857794,335544986]
abbrev aE_Q (q : Nat→Rat) (σ : Nat→ByteArray) : Prop := ∀ (a : Nat) nd,aE_N[a]? = some nd→q a=valN σ q nd
variable {q : Nat→Rat} {σ : Nat→ByteArray}
def aE_I : List Bool := [false,false,false,false,false,false,false,false,false,false,false,false,false,false,false,false,false,false,false,false,false,false,false,false,false,false,false,false,false,false,false,false,false,false,true,true,false,false,false,false,false,false,false,false,false,false,false,false,true,true,false,false,false,false,false,true,true,true,true,true,false,false,false,true,false,false,false,false,false,false,false,false,false,true,false,false,false,false,false,false,false,false,false,false,false,false,false,false,false,false,false,false,false,false,false,false,false,false,false,false,false,false,false,false,false,false,false,false,false,false,false,false,false,false,false,false,false,false,false,false,false,false,false,false,false,false,false,false,false,false,false,false,false,false,false,false,false,false,false,false,false,false]
theorem aE_wf : wfB 0 aE_N=true := by kernel_rfl
theorem aE_sz : szC aE_Z aE_I aE_N aE_Z aE_I=true := by kernel_rfl
theorem aE_lt : litB aE_N aE_L=true := by kernel_rfl
theorem aE_cn : canB aE_N aE_C=true := by kernel_rfl
theorem aE_c63 : cst 0 1 1=(1 : Rat) := by decide +kernel
theorem aE_c73 : cst 0 0 1=(0 : Rat) := by decide +kernel
def aE_A : List AV := [(false,[(true,[.inr (2,0,0,0,0),.inr (2,1,0,0,0)])]),(false,[(true,[.inr (2,2,0,0,0),.inr (2,3,0,0,0)])]),(false,[(true,[.inr (2,4,0,0,0),.inr (2,5,0,0,0)])]),(false,[(true,[.inr (2,6,0,0,0),.inr (2,7,0,0,0)])])]
theorem sq2 {x y m1 m2 s : Rat} (h1 : m1=x*x) (h2 : m2=y*y) (hs : s=m1+m2) : s=0 ↔ (x=0∧y=0) := by
 have a1 := sq_facts x
 have a2 := sq_facts y
 subst_vars
 constructor
 ·intro h
  refine ⟨a1.2.1 ?_,a2.2.1 ?_⟩ <;> grind
 ·rintro ⟨h1,h2⟩
  rw [h1,h2]; grind
theorem cy_two {u1 u2 v1 v2 p1 p2 r1 r2 : Rat} (hu : ¬ (u1=0∧u2=0)) (hv : ¬ (v1=0∧v2=0)) (e1 : p1=u1*fac [u1,u2]) (e2 : p2=u2*fac [u1,u2]) (e3 : r1=v1*fac [v1,v2]) (e4 : r2=v2*fac [v1,v2]) : (p1 - r1=0∧p2 - r2=0) ↔ u1*v2 - u2*v1=0 := by
 have hf : fac [u1,u2] ≠ 0 := fun h => hu ⟨fac_zero (by simp) h,fac_zero (by simp) h⟩
 have hg : fac [v1,v2] ≠ 0 := fun h => hv ⟨fac_zero (by simp) h,fac_zero (by simp) h⟩
 constructor
 ·rintro ⟨h1,h2⟩
  generalize fac [u1,u2]=f at *
  generalize fac [v1,v2]=g at *
  have h3 : (f*g)*(u1*v2 - u2*v1)=0 := by
   have q1 : u1*f=v1*g := by rw [← e1,← e3]; grind
   have q2 : u2*f=v2*g := by rw [← e2,← e4]; grind
   have : (f*g)*(u1*v2 - u2*v1)=(u1*f)*(v2*g) - (u2*f)*(v1*g) := by grind
   rw [this,q1,q2]
   grind
  exact (Rat.mul_eq_zero.1 h3).resolve_left (mul_ne hf hg)
 ·intro h
  have ⟨h1,h2⟩ := fac_two (a := u1) (b := u2) (c := v1) (d := v2) (by grind) hu hv
  rw [e1,e2,e3,e4,h1,h2]
  exact ⟨by grind,by grind⟩
theorem cy_nz {a1 a2 b1 b2 u1 u2 m n : Rat} (hm : m=a1*a1+a2*a2) (hn : n=b1*b1+b2*b2) (e1 : u1=a1*b1+a2*b2) (e2 : u2=a1*b2 - a2*b1) (h1 : ¬ (m=0)) (h2 : ¬ (n=0)) : ¬ (u1=0∧u2=0) := by
 rintro ⟨x,y⟩
 have : m*n=u1*u1+u2*u2 := by rw [hm,hn,e1,e2]; grind
 rw [x,y] at this
 rcases Rat.mul_eq_zero.1 (this.trans (by grind)) with h | h
 ·exact h1 h
 ·exact h2 h
theorem cy_four {p r s t x y k w S : Rat} (hx : x=p*p+s*s) (hy : y=r*r+t*t) (hk : k=2*(p*r+s*t)) (hw : w=s*r - p*t) (hS : S=4*x*y) : (k*k=S→w=0)∧(¬ (k*k=S)→¬ (w=0)) := by
 have h : S - k*k=4*(w*w) := by rw [hS,hx,hy,hk,hw]; grind
 refine ⟨fun e => ?_,fun e h0 => e ?_⟩
 ·have : w*w=0 := by rw [e] at h; grind
  exact (Rat.mul_eq_zero.1 this).elim id id
 ·rw [h0] at h
  grind
theorem aE_T1z {z0 z1 z2 z3 z4 z5 z6 z7 z8 z9 z10 z11 z12 z13 z14 z15 z16 z17 z18 z19 z20 z21 z22 z23 z24 z25 z26 z27 z28 z29 z30 z31 z32 z33 z34 z35 z36 z37 z38 z39 z40 z41 z42 z43 z44 z45 z46 z47 z48 z49 z55 z56 z57 z58 z59 z60 z61 z62 z63 z64 z65 z66 z67 z68 z69 z70 z71 z72 z73 z74 z75 z76 z77 z78 z79 z80 z81 z82 z83 z84 z85 z86 z87 z88 z89 z90 z91 z92 z93 z94 z95 z96 z97 z98 z99 z100 z101 z102 z103 z104 z105 z106 z107 z108 z109 z110 z111 z112 z113 z114 z115 z116 z117 z118 z119 z120 z121 z122 z123 z124 z125 z126 z127 z128 z129 z130 z131 z132 z133 z134 z135 z136 z137 z138 z139 z140 z141 : Rat} : z4=z2-z0→z5=z3-z1→z8=z6-z0→z9=z7-z1→z10=z4*z4→z11=z5*z5→z12=z10+z11→z15=z2-z13→z16=z3-z14→z17=z6-z13→z18=z7-z14→z19=z15*z15→z20=z16*z16→z21=z19+z20→z22=z17*z17→z23=z18*z18→z24=z22+z23→z25=-z16→z26=-z18→z27=z15*z17→z28=z25*z26→z29=z27+z28→z30=-z25→z31=z15*z18→z32=z30*z17→z33=z31-z32→z34=z29*fac [z29,z33]→z35=z33*fac [z29,z33]→z36=z8*z8→z37=z9*z9→z38=z36+z37→z39=-z5→z40=-z9→z41=z4*z8→z42=z39*z40→z43=z41+z42→z44=-z39→z45=z4*z9→z46=z44*z8→z47=z45-z46→z48=z43*fac [z43,z47]→z49=z47*fac [z43,z47]→z55=z49-z35→z56=z48-z34→z57=z55*z55→z58=z56*z56→z59=z57+z58→z60=z2*z2→z61=z3*z3→z62=z60+z61→z63=1→z64=z6*z6→z65=z7*z7→z66=z64+z65→z67=z0*z0→z68=z1*z1→z69=z67+z68→z70=z13*z13→z71=z14*z14→z72=z70+z71→z73=0→z74=z1*z63→z75=z73+z74→z76=z63*z14→z77=-z76→z78=z75+z77→z79=z6*z78→z80=z73+z79→z81=z0*z63→z82=z73+z81→z83=z63*z13→z84=-z83→z85=z82+z84→z86=z7*z85→z87=-z86→z88=z80+z87→z89=z0*z14→z90=z73+z89→z91=z1*z13→z92=-z91→z93=z90+z92→z94=z63*z93→z95=z88+z94→z96=z62*z95→z97=z73+z96→z98=z66*z78→z99=z73+z98→z100=z69*z63→z101=z73+z100→z102=z63*z72→z103=-z102→z104=z101+z103→z105=z7*z104→z106=-z105→z107=z99+z106→z108=z69*z14→z109=z73+z108→z110=z1*z72→z111=-z110→z112=z109+z111→z113=z63*z112→z114=z107+z113→z115=z2*z114→z116=-z115→z117=z97+z116→z118=z66*z85→z119=z73+z118→z120=z6*z104→z121=-z120→z122=z119+z121→z123=z69*z13→z124=z73+z123→z125=z0*z72→z126=-z125→z127=z124+z126→z128=z63*z127→z129=z122+z128→z130=z3*z129→z131=z117+z130→z132=z66*z93→z133=z73+z132→z134=z6*z112→z135=-z134→z136=z133+z135→z137=z7*z127→z138=z136+z137→z139=z63*z138→z140=-z139→z141=z131+z140→(¬ (z12=0))→(¬ (z38=0))→(¬ (z21=0))→(¬ (z24=0))→((z59=0→z141=0)∧(¬ (z59=0)→¬ (z141=0))) := by
 intro e4 e5 e8 e9 e10 e11 e12 e15 e16 e17 e18 e19 e20 e21 e22 e23 e24 e25 e26 e27 e28 e29 e30 e31 e32 e33 e34 e35 e36 e37 e38 e39 e40 e41 e42 e43 e44 e45 e46 e47 e48 e49 e55 e56 e57 e58 e59 e60 e61 e62 e63 e64 e65 e66 e67 e68 e69 e70 e71 e72 e73 e74 e75 e76 e77 e78 e79 e80 e81 e82 e83 e84 e85 e86 e87 e88 e89 e90 e91 e92 e93 e94 e95 e96 e97 e98 e99 e100 e101 e102 e103 e104 e105 e106 e107 e108 e109 e110 e111 e112 e113 e114 e115 e116 e117 e118 e119 e120 e121 e122 e123 e124 e125 e126 e127 e128 e129 e130 e131 e132 e133 e134 e135 e136 e137 e138 e139 e140 e141
 intro hu1 hu2 hv1 hv2
 have u1 : z43=z4*z8+z5*z9 := by
  rw [e43,e42,e41,e40,e39]
  grind
 have u2 : z47=z4*z9 - z5*z8 := by
  rw [e47,e46,e45,e44,e39]
  grind
 have um : z12=z4*z4+z5*z5 := by rw [e12,e11,e10]
 have un : z38=z8*z8+z9*z9 := by rw [e38,e37,e36]
 have uz := cy_nz um un u1 u2 hu1 hu2
 have v1 : z29=z15*z17+z16*z18 := by
  rw [e29,e28,e27,e26,e25]
  grind
 have v2 : z33=z15*z18 - z16*z17 := by
  rw [e33,e32,e31,e30,e25]
  grind
 have vm : z21=z15*z15+z16*z16 := by rw [e21,e20,e19]
 have vn : z24=z17*z17+z18*z18 := by rw [e24,e23,e22]
 have vz := cy_nz vm vn v1 v2 hv1 hv2
 have hd : z141=z43*z33 - z47*z29 := by
  rw [u1,u2,v1,v2,e4,e5,e8,e9,e15,e16,e17,e18,e141,e140,e139,e138,e137,e136,e135,e134,e133,e132,e131,e130,e129,e128,e127,e126,e125,e124,e123,e122,e121,e120,e119,e118,e117,e116,e115,e114,e113,e112,e111,e110,e109,e108,e107,e106,e105,e104,e103,e102,e101,e100,e99,e98,e97,e96,e95,e94,e93,e92,e91,e90,e89,e88,e87,e86,e85,e84,e83,e82,e81,e80,e79,e78,e77,e76,e75,e74,e73,e72,e71,e70,e69,e68,e67,e66,e65,e64,e63,e62,e61,e60]
  clear hu1 hu2 hv1 hv2 uz vz
  grind
 have t := cy_two uz vz e48 e49 e34 e35
 rw [← e56,← e55] at t
 have s := sq2 e57 e58 e59
 have s2 : z59=0 ↔ (z56=0∧z55=0) := s.trans And.comm
 refine ⟨fun h => ?_,fun h h0 => h (s2.2 (t.2 ?_))⟩
 ·rw [hd,t.1 (s2.1 h)]
 ·rw [hd] at h0; exact h0
theorem aE_T1 (H : aE_Q q σ) : (¬ (q 12=0))→(¬ (q 38=0))→(¬ (q 21=0))→(¬ (q 24=0))→((q 59=0→q 141=0)∧(¬ (q 59=0)→¬ (q 141=0))) := by
 have e4:q 4=q 2-q 0:=H 4 _ rfl;have e5:q 5=q 3-q 1:=H 5 _ rfl;have e8:q 8=q 6-q 0:=H 8 _ rfl;have e9:q 9=q 7-q 1:=H 9 _ rfl;have e10:q 10=q 4*q 4:=H 10 _ rfl;have e11:q 11=q 5*q 5:=H 11 _ rfl;have e12:q 12=q 10+q 11:=H 12 _ rfl;have e15:q 15=q 2-q 13:=H 15 _ rfl;have e16:q 16=q 3-q 14:=H 16 _ rfl;have e17:q 17=q 6-q 13:=H 17 _ rfl;have e18:q 18=q 7-q 14:=H 18 _ rfl;have e19:q 19=q 15*q 15:=H 19 _ rfl;have e20:q 20=q 16*q 16:=H 20 _ rfl;have e21:q 21=q 19+q 20:=H 21 _ rfl;have e22:q 22=q 17*q 17:=H 22 _ rfl;have e23:q 23=q 18*q 18:=H 23 _ rfl;have e24:q 24=q 22+q 23:=H 24 _ rfl;have e25:q 25=-q 16:=H 25 _ rfl;have e26:q 26=-q 18:=H 26 _ rfl;have e27:q 27=q 15*q 17:=H 27 _ rfl;have e28:q 28=q 25*q 26:=H 28 _ rfl;have e29:q 29=q 27+q 28:=H 29 _ rfl;have e30:q 30=-q 25:=H 30 _ rfl;have e31:q 31=q 15*q 18:=H 31 _ rfl;have e32:q 32=q 30*q 17:=H 32 _ rfl;have e33:q 33=q 31-q 32:=H 33 _ rfl;have e34:q 34=q 29*fac [q 29,q 33]:=H 34 _ rfl;have e35:q 35=q 33*fac [q 29,q 33]:=H 35 _ rfl;have e36:q 36=q 8*q 8:=H 36 _ rfl;have e37:q 37=q 9*q 9:=H 37 _ rfl;have e38:q 38=q 36+q 37:=H 38 _ rfl;have e39:q 39=-q 5:=H 39 _ rfl;have e40:q 40=-q 9:=H 40 _ rfl;have e41:q 41=q 4*q 8:=H 41 _ rfl;have e42:q 42=q 39*q 40:=H 42 _ rfl;have e43:q 43=q 41+q 42:=H 43 _ rfl;have e44:q 44=-q 39:=H 44 _ rfl;have e45:q 45=q 4*q 9:=H 45 _ rfl;have e46:q 46=q 44*q 8:=H 46 _ rfl;have e47:q 47=q 45-q 46:=H 47 _ rfl;have e48:q 48=q 43*fac [q 43,q 47]:=H 48 _ rfl;have e49:q 49=q 47*fac [q 43,q 47]:=H 49 _ rfl;have e55:q 55=q 49-q 35:=H 55 _ rfl;have e56:q 56=q 48-q 34:=H 56 _ rfl;have e57:q 57=q 55*q 55:=H 57 _ rfl;have e58:q 58=q 56*q 56:=H 58 _ rfl;have e59:q 59=q 57+q 58:=H 59 _ rfl;have e60:q 60=q 2*q 2:=H 60 _ rfl;have e61:q 61=q 3*q 3:=H 61 _ rfl;have e62:q 62=q 60+q 61:=H 62 _ rfl;have e63:q 63=1:=(H 63 _ rfl).trans aE_c63;have e64:q 64=q 6*q 6:=H 64 _ rfl;have e65:q 65=q 7*q 7:=H 65 _ rfl;have e66:q 66=q 64+q 65:=H 66 _ rfl;have e67:q 67=q 0*q 0:=H 67 _ rfl;have e68:q 68=q 1*q 1:=H 68 _ rfl;have e69:q 69=q 67+q 68:=H 69 _ rfl;have e70:q 70=q 13*q 13:=H 70 _ rfl;have e71:q 71=q 14*q 14:=H 71 _ rfl;have e72:q 72=q 70+q 71:=H 72 _ rfl;have e73:q 73=0:=(H 73 _ rfl).trans aE_c73;have e74:q 74=q 1*q 63:=H 74 _ rfl;have e75:q 75=q 73+q 74:=H 75 _ rfl;have e76:q 76=q 63*q 14:=H 76 _ rfl;have e77:q 77=-q 76:=H 77 _ rfl;have e78:q 78=q 75+q 77:=H 78 _ rfl;have e79:q 79=q 6*q 78:=H 79 _ rfl;have e80:q 80=q 73+q 79:=H 80 _ rfl;have e81:q 81=q 0*q 63:=H 81 _ rfl;have e82:q 82=q 73+q 81:=H 82 _ rfl;have e83:q 83=q 63*q 13:=H 83 _ rfl;have e84:q 84=-q 83:=H 84 _ rfl;have e85:q 85=q 82+q 84:=H 85 _ rfl;have e86:q 86=q 7*q 85:=H 86 _ rfl;have e87:q 87=-q 86:=H 87 _ rfl;have e88:q 88=q 80+q 87:=H 88 _ rfl;have e89:q 89=q 0*q 14:=H 89 _ rfl;have e90:q 90=q 73+q 89:=H 90 _ rfl;have e91:q 91=q 1*q 13:=H 91 _ rfl;have e92:q 92=-q 91:=H 92 _ rfl;have e93:q 93=q 90+q 92:=H 93 _ rfl;have e94:q 94=q 63*q 93:=H 94 _ rfl;have e95:q 95=q 88+q 94:=H 95 _ rfl;have e96:q 96=q 62*q 95:=H 96 _ rfl;have e97:q 97=q 73+q 96:=H 97 _ rfl;have e98:q 98=q 66*q 78:=H 98 _ rfl;have e99:q 99=q 73+q 98:=H 99 _ rfl;have e100:q 100=q 69*q 63:=H 100 _ rfl;have e101:q 101=q 73+q 100:=H 101 _ rfl;have e102:q 102=q 63*q 72:=H 102 _ rfl;have e103:q 103=-q 102:=H 103 _ rfl;have e104:q 104=q 101+q 103:=H 104 _ rfl;have e105:q 105=q 7*q 104:=H 105 _ rfl;have e106:q 106=-q 105:=H 106 _ rfl;have e107:q 107=q 99+q 106:=H 107 _ rfl;have e108:q 108=q 69*q 14:=H 108 _ rfl;have e109:q 109=q 73+q 108:=H 109 _ rfl;have e110:q 110=q 1*q 72:=H 110 _ rfl;have e111:q 111=-q 110:=H 111 _ rfl;have e112:q 112=q 109+q 111:=H 112 _ rfl;have e113:q 113=q 63*q 112:=H 113 _ rfl;have e114:q 114=q 107+q 113:=H 114 _ rfl;have e115:q 115=q 2*q 114:=H 115 _ rfl;have e116:q 116=-q 115:=H 116 _ rfl;have e117:q 117=q 97+q 116:=H 117 _ rfl;have e118:q 118=q 66*q 85:=H 118 _ rfl;have e119:q 119=q 73+q 118:=H 119 _ rfl;have e120:q 120=q 6*q 104:=H 120 _ rfl;have e121:q 121=-q 120:=H 121 _ rfl;have e122:q 122=q 119+q 121:=H 122 _ rfl;have e123:q 123=q 69*q 13:=H 123 _ rfl;have e124:q 124=q 73+q 123:=H 124 _ rfl;have e125:q 125=q 0*q 72:=H 125 _ rfl;have e126:q 126=-q 125:=H 126 _ rfl;have e127:q 127=q 124+q 126:=H 127 _ rfl;have e128:q 128=q 63*q 127:=H 128 _ rfl;have e129:q 129=q 122+q 128:=H 129 _ rfl;have e130:q 130=q 3*q 129:=H 130 _ rfl;have e131:q 131=q 117+q 130:=H 131 _ rfl;have e132:q 132=q 66*q 93:=H 132 _ rfl;have e133:q 133=q 73+q 132:=H 133 _ rfl;have e134:q 134=q 6*q 112:=H 134 _ rfl;have e135:q 135=-q 134:=H 135 _ rfl;have e136:q 136=q 133+q 135:=H 136 _ rfl;have e137:q 137=q 7*q 127:=H 137 _ rfl;have e138:q 138=q 136+q 137:=H 138 _ rfl;have e139:q 139=q 63*q 138:=H 139 _ rfl;have e140:q 140=-q 139:=H 140 _ rfl;have e141:q 141=q 131+q 140:=H 141 _ rfl
 exact aE_T1z e4 e5 e8 e9 e10 e11 e12 e15 e16 e17 e18 e19 e20 e21 e22 e23 e24 e25 e26 e27 e28 e29 e30 e31 e32 e33 e34 e35 e36 e37 e38 e39 e40 e41 e42 e43 e44 e45 e46 e47 e48 e49 e55 e56 e57 e58 e59 e60 e61 e62 e63 e64 e65 e66 e67 e68 e69 e70 e71 e72 e73 e74 e75 e76 e77 e78 e79 e80 e81 e82 e83 e84 e85 e86 e87 e88 e89 e90 e91 e92 e93 e94 e95 e96 e97 e98 e99 e100 e101 e102 e103 e104 e105 e106 e107 e108 e109 e110 e111 e112 e113 e114 e115 e116 e117 e118 e119 e120 e121 e122 e123 e124 e125 e126 e127 e128 e129 e130 e131 e132 e133 e134 e135 e136 e137 e138 e139 e140 e141
theorem aE_r0 : (callJ (sx Tryz.prog aE_N [(0,12,0,1),(0,21,0,1)] [] aE_L aE_C aE_Z (prC [93])) [(124,60),(52,61),(53,62),(36,63),(102,63),(272,64),(64,65),(55,66),(156,60)] [] [] 196 5 [] 14 aE_A [] 0).map (·.1)=some (kB true) := by kernel_rfl
theorem aE_r1 : (callJ (sx Tryz.prog aE_N [(0,12,0,1),(0,21,0,0),(0,24,0,1)] [] aE_L aE_C aE_Z (prC [93])) [(124,60),(52,61),(53,62),(36,63),(102,63),(272,64),(64,65),(55,66),(156,60)] [] [] 196 5 [] 14 aE_A [] 0).map (·.1)=some (kB true) := by kernel_rfl
theorem aE_r2 : (callJ (sx Tryz.prog aE_N [(0,12,0,1),(0,21,0,0),(0,24,0,0)] [] aE_L aE_C aE_Z (prC [93])) [(124,60),(52,61),(53,62),(36,63),(102,63),(272,64),(64,65),(55,66),(156,60)] [] [] 196 6 [] 14 aE_A [] 0).map (·.1)=some (kB true) := by kernel_rfl
theorem aE_r3 : (callJ (sx Tryz.prog aE_N [(0,12,0,0),(0,38,0,1),(0,21,0,1)] [] aE_L aE_C aE_Z (prC [93])) [(124,60),(52,61),(53,62),(36,63),(102,63),(272,64),(64,65),(55,66),(156,60)] [] [] 196 5 [] 14 aE_A [] 0).map (·.1)=some (kB true) := by kernel_rfl
theorem aE_r4 : (callJ (sx Tryz.prog aE_N [(0,12,0,0),(0,38,0,1),(0,21,0,0),(0,24,0,1)] [] aE_L aE_C aE_Z (prC [93])) [(124,60),(52,61),(53,62),(36,63),(102,63),(272,64),(64,65),(55,66),(156,60)] [] [] 196 5 [] 14 aE_A [] 0).map (·.1)=some (kB true) := by kernel_rfl
theorem aE_r5 : (callJ (sx Tryz.prog aE_N [(0,12,0,0),(0,38,0,1),(0,21,0,0),(0,24,0,0)] [] aE_L aE_C aE_Z (prC [93])) [(124,60),(52,61),(53,62),(36,63),(102,63),(272,64),(64,65),(55,66),(156,60)] [] [] 196 6 [] 14 aE_A [] 0).map (·.1)=some (kB true) := by kernel_rfl
theorem aE_r6 : (callJ (sx Tryz.prog aE_N [(0,12,0,0),(0,38,0,0),(0,21,0,1)] [] aE_L aE_C aE_Z (prC [93])) [(124,60),(52,61),(53,62),(36,63),(102,63),(272,64),(64,65),(55,66),(156,60)] [] [] 196 6 [] 14 aE_A [] 0).map (·.1)=some (kB true) := by kernel_rfl
theorem aE_r7 : (callJ (sx Tryz.prog aE_N [(0,12,0,0),(0,38,0,0),(0,21,0,0),(0,24,0,1)] [] aE_L aE_C aE_Z (prC [93])) [(124,60),(52,61),(53,62),(36,63),(102,63),(272,64),(64,65),(55,66),(156,60)] [] [] 196 6 [] 14 aE_A [] 0).map (·.1)=some (kB true) := by kernel_rfl
theorem aE_r8 : (callJ (sx Tryz.prog aE_N [(0,12,0,0),(0,38,0,0),(0,21,0,0),(0,24,0,0),(0,54,0,1)] [] aE_L aE_C aE_Z (prC [93])) [(124,60),(52,61),(53,62),(36,63),(102,63),(272,64),(64,65),(55,66),(156,60)] [] [] 196 6 [] 14 aE_A [] 0).map (·.1)=some (kB true) := by kernel_rfl
theorem aE_r9 : (callJ (sx Tryz.prog aE_N [(0,12,0,0),(0,38,0,0),(0,21,0,0),(0,24,0,0),(0,54,0,0),(0,59,0,1),(0,141,0,1)] [] aE_L aE_C aE_Z (prC [93])) [(124,60),(52,61),(53,62),(36,63),(102,63),(272,64),(64,65),(55,66),(156,60)] [] [] 196 7 [] 14 aE_A [] 0).map (·.1)=some (kB true) := by kernel_rfl
theorem aE_r10 : (callJ (sx Tryz.prog aE_N [(0,12,0,0),(0,38,0,0),(0,21,0,0),(0,24,0,0),(0,54,0,0),(0,59,0,0),(0,141,0,0)] [] aE_L aE_C aE_Z (prC [93])) [(124,60),(52,61),(53,62),(36,63),(102,63),(272,64),(64,65),(55,66),(156,60)] [] [] 196 7 [] 14 aE_A [] 0).map (·.1)=some (kB true) := by kernel_rfl
theorem aE_An {a b : Prop} (x : a) (y : b) : a∧b := ⟨x,y⟩
theorem aE_leafJ {H : List (Nat × Nat × Nat × Nat)} {K : List (FuncId × List AC)} {k : Nat} {q : Nat→Rat} {σ : Nat→ByteArray} {args : List AV} {vs : List Value} {w : World} (hr : (callJ (sx Tryz.prog aE_N H K aE_L aE_C aE_Z (prC [93])) [(124,60),(52,61),(53,62),(36,63),(102,63),(272,64),(64,65),(55,66),(156,60)] [] [] 196 k [] 14 args [] 0).map (·.1)=some (kB true)) (hσ : ∀ j,(σ j).size≤1048576) (hq : ∀ (a : Nat) nd,aE_N[a]? = some nd→q a=valN σ q nd) (h0 : ∀ a,aE_N.length≤a→q a=0) (hH : hAll q H) (hp : PreS w) (hA : ∀ K,A2 (avOn (cOn (evS q σ) K (fun _ => none) w)) args vs) : Calls Tryz.prog 14 vs.toArray w fun e w' => Below w.heap.size w w'∧e=.returned (.bool true) :=
 run_toldJ' k (hy_ofW hσ aE_wf aE_sz aE_lt aE_cn hq h0 hH) (by simp [closed_angled]) (by kernel_rfl) hp memoAll_nil memoX_nil hr (hA K)
theorem aE_walk {w : World} {kx kz lx lz nx nz ux uz : ByteArray} (skx : kx.size≤1048576) (skz : kz.size≤1048576) (slx : lx.size≤1048576) (slz : lz.size≤1048576) (snx : nx.size≤1048576) (snz : nz.size≤1048576) (sux : ux.size≤1048576) (suz : uz.size≤1048576) (tab : Tab w) (mx : MaxL w) :
  Calls Tryz.prog 14 #[.agg #[.string kx,.string kz],.agg #[.string lx,.string lz],.agg #[.string nx,.string nz],.agg #[.string ux,.string uz]] w fun e w' => Below w.heap.size w w'∧e=.returned (.bool true) := by
 have hσ : ∀ j,(sgOf [kx,kz,lx,lz,nx,nz,ux,uz] j).size≤1048576 := sgOf_size (by simp [skx,skz,slx,slz,snx,snz,sux,suz])
 obtain ⟨q,hq,h0⟩ := nodes_exist (sgOf [kx,kz,lx,lz,nx,nz,ux,uz]) aE_N aE_wf
 have hA : ∀ K,A2 (avOn (cOn (evS q (sgOf [kx,kz,lx,lz,nx,nz,ux,uz])) K (fun _ => none) w)) [(false,[(true,[.inr (2,0,0,0,0),.inr (2,1,0,0,0)])]),(false,[(true,[.inr (2,2,0,0,0),.inr (2,3,0,0,0)])]),(false,[(true,[.inr (2,4,0,0,0),.inr (2,5,0,0,0)])]),(false,[(true,[.inr (2,6,0,0,0),.inr (2,7,0,0,0)])])] [.agg #[.string kx,.string kz],.agg #[.string lx,.string lz],.agg #[.string nx,.string nz],.agg #[.string ux,.string uz]] := fun K => ⟨⟨⟨[.string kx,.string kz],rfl,rfl,rfl,trivial⟩,trivial⟩,⟨⟨[.string lx,.string lz],rfl,rfl,rfl,trivial⟩,trivial⟩,⟨⟨[.string nx,.string nz],rfl,rfl,rfl,trivial⟩,trivial⟩,⟨⟨[.string ux,.string uz],rfl,rfl,rfl,trivial⟩,trivial⟩,trivial⟩
 by_cases b12 : q 12=0
 ·
  by_cases b21 : q 21=0
  ·
   exact aE_leafJ aE_r0 hσ hq h0 (aE_An (hT b12) (aE_An (hT b21) trivial)) ⟨tab,mx⟩ hA
  ·
   by_cases b24 : q 24=0
   ·
    exact aE_leafJ aE_r1 hσ hq h0 (aE_An (hT b12) (aE_An (hF b21) (aE_An (hT b24) trivial))) ⟨tab,mx⟩ hA
   ·
    exact aE_leafJ aE_r2 hσ hq h0 (aE_An (hT b12) (aE_An (hF b21) (aE_An (hF b24) trivial))) ⟨tab,mx⟩ hA
 ·
  by_cases b38 : q 38=0
  ·
   by_cases b21 : q 21=0
   ·
    exact aE_leafJ aE_r3 hσ hq h0 (aE_An (hF b12) (aE_An (hT b38) (aE_An (hT b21) trivial))) ⟨tab,mx⟩ hA
   ·
    by_cases b24 : q 24=0
    ·
     exact aE_leafJ aE_r4 hσ hq h0 (aE_An (hF b12) (aE_An (hT b38) (aE_An (hF b21) (aE_An (hT b24) trivial)))) ⟨tab,mx⟩ hA
    ·
     exact aE_leafJ aE_r5 hσ hq h0 (aE_An (hF b12) (aE_An (hT b38) (aE_An (hF b21) (aE_An (hF b24) trivial)))) ⟨tab,mx⟩ hA
  ·
   by_cases b21 : q 21=0
   ·
    exact aE_leafJ aE_r6 hσ hq h0 (aE_An (hF b12) (aE_An (hF b38) (aE_An (hT b21) trivial))) ⟨tab,mx⟩ hA
   ·
    by_cases b24 : q 24=0
    ·
     exact aE_leafJ aE_r7 hσ hq h0 (aE_An (hF b12) (aE_An (hF b38) (aE_An (hF b21) (aE_An (hT b24) trivial)))) ⟨tab,mx⟩ hA
    ·
     by_cases b54 : q 54=0
     ·
      exact aE_leafJ aE_r8 hσ hq h0 (aE_An (hF b12) (aE_An (hF b38) (aE_An (hF b21) (aE_An (hF b24) (aE_An (hT b54) trivial))))) ⟨tab,mx⟩ hA
     ·
      by_cases b59 : q 59=0
      ·
       have gT1 := aE_T1 hq b12 b38 b21 b24
       have b141 : q 141=0 := gT1.1 b59
       exact aE_leafJ aE_r9 hσ hq h0 (aE_An (hF b12) (aE_An (hF b38) (aE_An (hF b21) (aE_An (hF b24) (aE_An (hF b54) (aE_An (hT b59) (aE_An (hT b141) trivial))))))) ⟨tab,mx⟩ hA
      ·
       have gT1 := aE_T1 hq b12 b38 b21 b24
       have b141 : ¬ (q 141=0) := gT1.2 b59
       exact aE_leafJ aE_r10 hσ hq h0 (aE_An (hF b12) (aE_An (hF b38) (aE_An (hF b21) (aE_An (hF b24) (aE_An (hF b54) (aE_An (hF b59) (aE_An (hF b141) trivial))))))) ⟨tab,mx⟩ hA
end Go.Proofs.YtgemmepbdmbmfaaGreatDoor
