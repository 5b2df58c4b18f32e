/- Part 13 of the walks and of the mathematics under them: VP VPC VPD VPE VPF VPJ VY VSZ CFangled VPK VSA MAQ. -/
import Derived.Test.YtgemmepbdmbmfaaGreatDoorA2
import Derived.Test.YtgemmepbdmbmfaaGreatDoorA12
set_option maxHeartbeats 16000000
set_option maxRecDepth 100000
/- VP -/
namespace Cx
open Go Go.RowKit
abbrev Hs := List (Nat × Nat × Nat × Nat)
def Sx.plus (S : Sx) (X : Hs) : Sx := { S with H := X ++ S.H }
abbrev Ask := Nat × Nat × Nat × Nat
def askZ (a : Nat) : Ask := (0,a,0,a)
def askOk (S : Sx) : Ask→Bool
 | (k,a,b,d) => (Nat.beq k 0 && (Nat.beq b 0 && Nat.beq d a)) || (Nat.beq k 3 && (match S.N[d]? with
  | some (op,ar) => Nat.beq op 3 && beqL ar [a,b]
  | none => false))
def acrossB (S : Sx) (a b : Nat) : List Nat→List Nat→Option (List Ask)
 | c :: l,d :: m => (S.nd 4 [a,d]).bind fun x => (S.nd 4 [c,b]).bind fun y => (S.nd 3 [x,y]).bind fun z => (acrossB S a b l m).map fun r => (3,x,y,z) :: r
 | _,_ => some []
def alikeB (S : Sx) : List Nat→List Nat→List Nat→List Nat→Option (List Ask)
 | pl,pm,a :: l,b :: m => (acrossB S a b pl pm).bind fun r => (alikeB S (pl ++ [a]) (pm ++ [b]) l m).map fun t => r ++ t
 | _,_,_,_ => some []
def sameA (S : Sx) : List Nat→List Nat→Option (List Ask)
 | a :: l,b :: m => (S.nd 3 [a,b]).bind fun d => (sameA S l m).map fun r => (3,a,b,d) :: r
 | _,_ => some []
def asks (S : Sx) (h : List HB) (code : Nat) (args : List AV) : Option (List Ask) :=
 match code with
 | 60 => arg1 (fun x => (asA x).bind fun cs => (qRow S cs).map fun l => l.map askZ) args
 | 61 => arg1 (fun x => (rowB h 1 x).bind fun p => (mapO (acX 0) p.2).map fun l => l.map askZ) args
 | 62 => arg2 (fun x y => (rowB h 1 x).bind fun p => (mapO (acX 0) p.2).bind fun l => (rowB h 1 y).bind fun p' => (mapO (acX 0) p'.2).bind fun m => alikeB S [] [] l m) args
 | 63 => arg1 (fun x => (asA x).bind fun cs => (mapO acTold cs).bind fun l => (plainOf S l).map fun xs => xs.map askZ) args
 | 67 => arg1 (fun x => (asA x).bind fun cs => (mapO (txNode S) (cs.take 3)).map fun l => l.map askZ) args
 | 65 => arg1 (fun x => (asA x).bind fun cs => (mapO (acX 0) cs).map fun l => l.map askZ) args
 | 66 => arg2 (fun x y => (asA x).bind fun cs => (asA y).bind fun ds => (mapO (acX 0) cs).bind fun l => (mapO (acX 0) ds).bind fun m => sameA S l m) args
 | 64 => arg1 (fun x => (asA x).bind fun cs => (qRow S cs).map fun l => (l.take 5).map askZ) args
 | _ => none
def splits : List Ask→Hs→List Hs
 | [],_ => []
 | (k,a,b,_) :: l,X => ((k,a,b,0) :: X) :: splits l ((k,a,b,1) :: X)
def allZ : List Ask→Hs→Hs
 | [],X => X
 | (k,a,b,_) :: l,X => allZ l ((k,a,b,1) :: X)
def bodyC (S : Sx) (call : CallF) : CallF := fun f args h nx => S.P.funcs[f]?.bind fun fn => fn.body.bind fun c => ifO (Nat.ble args.length fn.ntmps) ((runB S call fn.ntmps c { tm := numb1 0 args,h := h,nx := nx }).bind fun r =>
   ifO (Nat.ble r.1 1) ((mapO (resB S.P r.2) fn.results.toList).map fun xs => (tupB xs,r.2.h,r.2.nx)))
abbrev CRes := Option (AV × List HB × Nat)
def agree (h : List HB) (b : Bool) (hi : Nat) : CRes→Bool
 | some (v,h',nx') => (match asB v with
  | some c => b == c
  | none => false) && (Nat.ble nx' hi && h.all fun x => h'.any fun y => Nat.beq y.1 x.1 && acsW x.2 y.2)
 | none => false
def topN : Nat→List CRes→Nat
 | m,[] => m
 | m,some p :: rs => topN (bif Nat.ble m p.2.2 then p.2.2 else m) rs
 | m,none :: rs => topN m rs
def joinC (h : List HB) (nx : Nat) (rs : List CRes) : CRes :=
 match rs with
 | some p :: _ => (asB p.1).bind fun b => ifO (rs.all (agree h b (topN nx rs))) (some (kB b,h,topN nx rs))
 | _ => none
def askIt (S : Sx) (X : Hs) (h : List HB) (c : Nat) (args : List AV) : Option (List Ask × Nat) :=
 (asks (S.plus X) h c args).bind fun l => ifO (l.all (askOk S)) ((sqN S (l.map (·.2.2.2))).bind fun s => ((S.plus X).kn 0 s 0).map fun r => (l,r))
theorem askIt_some {S : Sx} {X : Hs} {h : List HB} {c : Nat} {args : List AV} {l : List Ask} {r : Nat} (e : askIt S X h c args=some (l,r)) : (∀ a ∈ l,askOk S a=true)∧∃ s,sqN S (l.map (·.2.2.2))=some s∧(S.plus X).kn 0 s 0=some r := by
 unfold askIt at e
 simp only [Option.bind_eq_some_iff,ifO_some,Option.map_eq_some_iff,List.all_eq_true,Prod.mk.injEq] at e
 obtain ⟨l',_,h1,s,h2,r',h3,rfl,rfl⟩ := e
 exact ⟨h1,s,h2,h3⟩
section
variable {S : Sx} {E : Ev S.nb} {w0 : World}
theorem bodyC_ok {call : CallF} (hm : S.P.follows .mixedOrders=true) (N : Knows S E) (hP : PrimOk S E w0) (hC : CallOk S E w0 call) : CallOk S E w0 (bodyC S call) := fun f args h nx p hp γ w vs hi hA hb hlt hf => by
 unfold bodyC at hp
 simp only [Option.bind_eq_some_iff,ifO_some,Option.map_eq_some_iff,Nat.ble_eq] at hp
 obtain ⟨fn,h1,c,h2,h3,⟨e,s'⟩,h4,h5,xs,h6,rfl⟩ := hp
 dsimp only at h5 h6
 rcases (show e=0 ∨ e=1 by omega) with rfl | rfl
 all_goals
  obtain ⟨_,_,r⟩ := runB_ok hm N hP hC c _ _ _ h4
  refine calls_of_wp h1 h2 (r γ _ w _ ⟨hi,fun t v q => ?_,hb,hlt,?_,rfl⟩ hf fun a' w' γ' hef hs => ?_)
  ·obtain ⟨_,q2⟩ := numb1_get q
   rw [Nat.sub_zero] at q2
   obtain ⟨u,hu,hv⟩ := hA.get q2
   have hlt : t < vs.length := (List.getElem?_eq_some_iff.1 hu).1
   have : (vs.toArray ++ Array.replicate (fn.ntmps - vs.toArray.size) undef).getD t undef=u := by
    rw [Array.getD_eq_getD_getElem?,Array.getElem?_append_left (by simpa using hlt)]
    simp [hu]
   show avOn _ v ((vs.toArray ++ Array.replicate (fn.ntmps - vs.toArray.size) undef).getD t undef)
   rw [this]
   exact hv
  ·have := hA.len
   simp
   omega
  ·obtain ⟨v,hv,hx⟩ := results_run hs h6
   exact ⟨hs.df,v,hv,v,γ',rfl,hef,hx,hs.bx⟩
theorem asB_kB {v : AV} {b : Bool} (h : asB v=some b) : v=kB b := by
 unfold asB at h
 rw [Option.bind_eq_some_iff] at h
 obtain ⟨c,h1,h2⟩ := h
 unfold asC at h1
 split at h1
 ·cases h1
  unfold acB at h2
  split at h2
  ·cases h2
   rfl
  ·cases h2
 ·cases h1
theorem agree_some {h : List HB} {b : Bool} {hi : Nat} {r : CRes} (hr : agree h b hi r=true) : ∃ h' nx',r=some (kB b,h',nx')∧nx'≤hi∧∀ x ∈ h,x ∈ h' := by
 unfold agree at hr
 split at hr
 ·rename_i v h' nx'
  rw [Bool.and_eq_true,Bool.and_eq_true,Nat.ble_eq,List.all_eq_true] at hr
  obtain ⟨h1,h2,h3⟩ := hr
  refine ⟨h',nx',?_,h2,fun x hx => ?_⟩
  ·split at h1
   ·rename_i c hc
    rw [asB_kB hc,show c=b from (by simpa using h1 : b=c).symm]
   ·cases h1
  ·have := h3 x hx
   rw [List.any_eq_true] at this
   obtain ⟨y,hy,e⟩ := this
   rw [Bool.and_eq_true,Nat.beq_eq] at e
   have : x=y := Prod.ext e.1.symm (acsW_eq e.2)
   rw [this]
   exact hy
 ·cases hr
variable {T : Hs→Prop} {z : Nat→Prop}
def AskTrue (S : Sx) (T : Hs→Prop) (z : Nat→Prop) : Prop := ∀ X,T X→∀ a,askOk S a=true→(z a.2.2.2→T ((a.1,a.2.1,a.2.2.1,1) :: X))∧(¬ z a.2.2.2→T ((a.1,a.2.1,a.2.2.1,0) :: X))
theorem allZ_true (hk : AskTrue S T z) : ∀ {l : List Ask} {X : Hs},T X→(∀ a ∈ l,askOk S a=true)→(∀ a ∈ l,z a.2.2.2)→T (allZ l X)
 | [],_,h,_,_ => h
 | (k,a,b,d) :: l,X,h,ho,hz => allZ_true (l := l) hk ((hk X h (k,a,b,d) (ho _ List.mem_cons_self)).1 (hz _ List.mem_cons_self)) (fun a ha => ho a (List.mem_cons_of_mem _ ha)) (fun a ha => hz a (List.mem_cons_of_mem _ ha))
theorem splits_true (hk : AskTrue S T z) : ∀ {l : List Ask} {X : Hs},T X→(∀ a ∈ l,askOk S a=true)→(∃ a ∈ l,¬ z a.2.2.2)→∃ X' ∈ splits l X,T X'
 | [],_,_,_,⟨_,h,_⟩ => by cases h
 | (k,a,b,d) :: l,X,h,ho,hz => by
  by_cases e : z d
  ·obtain ⟨X',h1,h2⟩ := splits_true (l := l) hk ((hk X h (k,a,b,d) (ho _ List.mem_cons_self)).1 e) (fun a ha => ho a (List.mem_cons_of_mem _ ha)) (by
    obtain ⟨c,hc,hn⟩ := hz
    rcases List.mem_cons.1 hc with rfl | hc
    ·exact (hn e).elim
    ·exact ⟨c,hc,hn⟩)
   exact ⟨X',List.mem_cons_of_mem _ h1,h2⟩
  ·exact ⟨_,List.mem_cons_self,(hk X h (k,a,b,d) (ho _ List.mem_cons_self)).2 e⟩
end
end Cx
/- VPC -/
namespace Go.Proofs.YtgemmepbdmbmfaaGreatDoor
open Cx Go Go.RowKit
section
variable {N : List Nd} {H : List (Nat × Nat × Nat × Nat)} {K : List (FuncId × List AC)} {L C : List (List Nat × Nat)} {Z : List Nat} {q : Nat→Rat} {σ : Nat→ByteArray} {w0 : World} {cl : List FuncId} {cs pr : List (FuncId × Nat)}
theorem kn_cons {k a b k' a' b' r' : Nat} {r : Nat} (h : knFrom k a b ((k',a',b',r') :: H)=some r) : (k=k'∧a=a'∧b=b'∧r=r') ∨ knFrom k a b H=some r := by
 unfold knFrom at h
 cases e : (Nat.beq k k' && (Nat.beq a a' && Nat.beq b b')) with
 | true =>
  rw [e] at h
  simp only [Bool.and_eq_true,Nat.beq_eq] at e
  exact Or.inl ⟨e.1,e.2.1,e.2.2,(Option.some.inj h).symm⟩
 | false =>
  rw [e] at h
  exact Or.inr h
theorem Hy.add0 (Y : Hy N H L C Z q σ) {a r : Nat} (h : Nat.beq 1 r=true ↔ q a=0) : Hy N ((0,a,0,r) :: H) L C Z q σ where
 nat := Y.nat
 qs := Y.qs
 zs := Y.zs
 par := Y.par
 lit := Y.lit
 k0 := fun a' r' g => by
  rcases kn_cons g with ⟨_,e1,_,e2⟩ | g
  ·rw [e1,e2]
   exact h
  ·exact Y.k0 a' r' g
 k1 := fun a' r' g => by
  rcases kn_cons g with ⟨e,_⟩ | g
  ·cases e
  ·exact Y.k1 a' r' g
 k2 := fun a' r' g => by
  rcases kn_cons g with ⟨e,_⟩ | g
  ·cases e
  ·exact Y.k2 a' r' g
 k4 := fun l a' b' r' g1 g => by
  rcases kn_cons g with ⟨e,_⟩ | g
  ·cases e
  ·exact Y.k4 l a' b' r' g1 g
 k3 := fun a' b' r' g => by
  rcases kn_cons g with ⟨e,_⟩ | g
  ·cases e
  ·exact Y.k3 a' b' r' g
 k6 := fun a' b' r' g => by
  rcases kn_cons g with ⟨e,_⟩ | g
  ·cases e
  ·exact Y.k6 a' b' r' g
 k5 := fun a' r' g => by
  rcases kn_cons g with ⟨e,_⟩ | g
  ·cases e
  ·exact Y.k5 a' r' g
theorem Hy.add3 (Y : Hy N H L C Z q σ) {a b r : Nat} (h : Nat.beq 1 r=true ↔ q a=q b) : Hy N ((3,a,b,r) :: H) L C Z q σ where
 nat := Y.nat
 qs := Y.qs
 zs := Y.zs
 par := Y.par
 lit := Y.lit
 k0 := fun a' r' g => by
  rcases kn_cons g with ⟨e,_⟩ | g
  ·cases e
  ·exact Y.k0 a' r' g
 k1 := fun a' r' g => by
  rcases kn_cons g with ⟨e,_⟩ | g
  ·cases e
  ·exact Y.k1 a' r' g
 k2 := fun a' r' g => by
  rcases kn_cons g with ⟨e,_⟩ | g
  ·cases e
  ·exact Y.k2 a' r' g
 k4 := fun l a' b' r' g1 g => by
  rcases kn_cons g with ⟨e,_⟩ | g
  ·cases e
  ·exact Y.k4 l a' b' r' g1 g
 k3 := fun a' b' r' g => by
  rcases kn_cons g with ⟨_,e1,e2,e3⟩ | g
  ·rw [e1,e2,e3]
   exact h
  ·exact Y.k3 a' b' r' g
 k6 := fun a' b' r' g => by
  rcases kn_cons g with ⟨e,_⟩ | g
  ·cases e
  ·exact Y.k6 a' b' r' g
 k5 := fun a' r' g => by
  rcases kn_cons g with ⟨e,_⟩ | g
  ·cases e
  ·exact Y.k5 a' r' g
theorem ask_true : AskTrue (sx Tryz.prog N H K L C Z pr) (fun X => Hy N (X ++ H) L C Z q σ) (fun d => q d=0) := fun X Y a ha => by
 obtain ⟨k,a,b,d⟩ := a
 have t1 : Nat.beq 1 1=true := rfl
 have t0 : Nat.beq 1 0 ≠ true := fun h => by cases h
 unfold askOk at ha
 rw [Bool.or_eq_true] at ha
 rcases ha with ha | ha
 ·simp only [Bool.and_eq_true,Nat.beq_eq] at ha
  obtain ⟨rfl,rfl,rfl⟩ := ha
  exact ⟨fun h => Hy.add0 Y ⟨fun _ => h,fun _ => t1⟩,fun h => Hy.add0 Y ⟨fun g => (t0 g).elim,fun g => (h g).elim⟩⟩
 ·rw [Bool.and_eq_true,Nat.beq_eq] at ha
  obtain ⟨rfl,hb⟩ := ha
  split at hb
  ·rename_i op ar hn
   rw [Bool.and_eq_true,Nat.beq_eq] at hb
   obtain ⟨rfl,hb⟩ := hb
   have e := beqL_eq hb
   subst e
   have hv : q d=q a - q b := Y.nat d _ hn
   have h2 : q d=0 ↔ q a=q b := by
    rw [hv]
    constructor <;> intro h <;> grind
   exact ⟨fun h => Hy.add3 Y ⟨fun _ => h2.1 h,fun _ => t1⟩,fun h => Hy.add3 Y ⟨fun g => (t0 g).elim,fun g => (h (h2.2 g)).elim⟩⟩
  ·cases hb
theorem sq_nn (y : Rat) : 0≤y*y := by
 by_cases h : y=0
 ·rw [h,Rat.zero_mul]
  exact Rat.le_refl
 ·exact Rat.le_of_lt (sq1_pos h)
theorem sq_sum {x y : Rat} (hx : 0≤x) : x+y*y=0 ↔ x=0∧y=0 := by
 constructor
 ·intro h
  have h2 := sq_nn y
  have h3 : x=0 := by grind
  refine ⟨h3,?_⟩
  have : y*y=0 := by grind
  rcases Rat.mul_eq_zero.1 this with g | g <;> exact g
 ·rintro ⟨rfl,rfl⟩
  grind
theorem sqF_val {H' : List (Nat × Nat × Nat × Nat)} (Y : Hy N H' L C Z q σ) : ∀ {l : List Nat} {s t : Nat},sqF (sx Tryz.prog N H K L C Z pr) s l=some t→0≤q s→0≤q t∧(q t=0 ↔ q s=0∧∀ d ∈ l,q d=0)
 | [],s,t,h,hs => by
  cases h
  exact ⟨hs,fun e => ⟨e,fun d hd => by cases hd⟩,fun e => e.1⟩
 | a :: l,s,t,h,hs => by
  unfold sqF at h
  simp only [Option.bind_eq_some_iff] at h
  obtain ⟨b,h1,c,h2,h3⟩ := h
  have e1 : q b=q a*q a := Hy.nd (H := H') (K := K) (pr := pr) Y h1
  have e2 : q c=q s+q b := Hy.nd (H := H') (K := K) (pr := pr) Y h2
  have n := sq_nn (q a)
  obtain ⟨g1,g2⟩ := sqF_val Y h3 (by grind)
  refine ⟨g1,g2.trans ?_⟩
  have e3 := sq_sum (y := q a) hs
  rw [e2,e1,e3]
  constructor
  ·rintro ⟨⟨x,y⟩,z⟩
   refine ⟨x,fun d hd => ?_⟩
   rcases List.mem_cons.1 hd with rfl | hd
   ·exact y
   ·exact z d hd
  ·rintro ⟨x,y⟩
   exact ⟨⟨x,y a List.mem_cons_self⟩,fun d hd => y d (List.mem_cons_of_mem _ hd)⟩
theorem sqN_val {H' : List (Nat × Nat × Nat × Nat)} (Y : Hy N H' L C Z q σ) {l : List Nat} {s : Nat} (h : sqN (sx Tryz.prog N H K L C Z pr) l=some s) : q s=0 ↔ ∀ d ∈ l,q d=0 := by
 unfold sqN at h
 split at h
 ·cases h
 ·rename_i a l
  rw [Option.bind_eq_some_iff] at h
  obtain ⟨b,h1,h2⟩ := h
  have e1 : q b=q a*q a := Hy.nd (H := H') (K := K) (pr := pr) Y h1
  have n := sq_nn (q a)
  obtain ⟨_,g⟩ := sqF_val Y h2 (by grind)
  rw [g,e1]
  constructor
  ·rintro ⟨x,y⟩ d hd
   rcases List.mem_cons.1 hd with rfl | hd
   ·rcases Rat.mul_eq_zero.1 x with x | x <;> exact x
   ·exact y d hd
  ·intro y
   refine ⟨?_,fun d hd => y d (List.mem_cons_of_mem _ hd)⟩
   rw [y a List.mem_cons_self,Rat.zero_mul]
end
end Go.Proofs.YtgemmepbdmbmfaaGreatDoor
/- VPD -/
namespace Cx
open Go Go.RowKit
def a1sB : List A1→List A1→Bool
 | [],[] => true
 | (a,x) :: l,(b,y) :: m => (a == b && acsW x y) && a1sB l m
 | _,_ => false
theorem a1sB_eq : ∀ {l m : List A1},a1sB l m=true→l=m
 | [],[],_ => rfl
 | (a,x) :: l,(b,y) :: m,h => by
  unfold a1sB at h
  simp only [Bool.and_eq_true,beq_iff_eq] at h
  obtain ⟨⟨h1,h2⟩,h3⟩ := h
  rw [h1,acsW_eq h2,a1sB_eq h3]
 | [],_ :: _,h => by cases h
 | _ :: _,[],h => by cases h
def avsB : List AV→List AV→Bool
 | [],[] => true
 | (a,x) :: l,(b,y) :: m => (a == b && a1sB x y) && avsB l m
 | _,_ => false
theorem avsB_eq : ∀ {l m : List AV},avsB l m=true→l=m
 | [],[],_ => rfl
 | (a,x) :: l,(b,y) :: m,h => by
  unfold avsB at h
  simp only [Bool.and_eq_true,beq_iff_eq] at h
  obtain ⟨⟨h1,h2⟩,h3⟩ := h
  rw [h1,a1sB_eq h2,avsB_eq h3]
 | [],_ :: _,h => by cases h
 | _ :: _,[],h => by cases h
abbrev Memo := List (FuncId × List AV × AV)
def memoGet (f : FuncId) (args : List AV) : Memo→Option AV
 | [] => none
 | (g,bs,v) :: m => bif Nat.beq f g && avsB args bs then some v else memoGet f args m
theorem memoGet_mem {f : FuncId} {args : List AV} {v : AV} : ∀ {m : Memo},memoGet f args m=some v→(f,args,v) ∈ m
 | [],h => by cases h
 | (g,bs,u) :: m,h => by
  unfold memoGet at h
  cases e : (Nat.beq f g && avsB args bs) with
  | true =>
   rw [e] at h
   rw [Bool.and_eq_true,Nat.beq_eq] at e
   rw [e.1,avsB_eq e.2,show u=v from Option.some.inj h]
   exact List.mem_cons_self
  | false =>
   rw [e] at h
   exact List.mem_cons_of_mem _ (memoGet_mem h)
def bareC : AC→Bool
 | .inl _ => true
 | .inr (k,_) => Nat.ble k 2
def bareV (v : AV) : Bool := v.2.all fun x => x.2.all bareC
def callD (S : Sx) (cs : List (FuncId × Nat)) (M : Memo) : Nat→Hs→CallF
 | 0,_,_,_,_,_ => none
 | n+1,X,f,args,h,nx => match memoGet f args M with
  | some v => some (v,h,nx)
  | none => match prGet f cs with
   | none => bodyC (S.plus X) (callD S cs M n X) f args h nx
   | some c => match askIt S X h c args with
    | none => bodyC (S.plus X) (callD S cs M n X) f args h nx
    | some (l,r) => bif Nat.beq 1 r then bodyC (S.plus (allZ l X)) (callD S cs M n (allZ l X)) f args h nx
     else joinC h nx ((splits l X).map fun X' => bodyC (S.plus X') (callD S cs M n X') f args h nx)
def MemoOk (S : Sx) (E : Ev S.nb) (w0 : World) (M : Memo) : Prop := ∀ f args v,(f,args,v) ∈ M→∀ (γ : Nat→Option Nat) (w : World) (vs : List Value),WI w0 γ w→A2 (avOn (cOn E S.K γ w)) args vs →
 Calls S.P f vs.toArray w fun e w' => ∃ r,e=.returned r∧(∀ wr nx,(∀ b ∈ wr,Live γ b)→Ef S.nb w0 wr nx nx γ w γ w')∧avOn (cOn E S.K γ w') v r
section
variable {S : Sx} {E : Ev S.nb} {w0 : World}
theorem bareC_on {K K' : List (FuncId × List AC)} {γ γ' : Nat→Option Nat} {w : World} {d : Nat} {c : AC} {v : Value} (hc : bareC c=true) (h : cellOn E K γ w d c v) : cellOn E K' γ' w d c v := by
 cases c with
 | inl u =>
  unfold cellOn at h ⊢
  exact h
 | inr t =>
  obtain ⟨k,a,b,n,c⟩ := t
  have hk : k≤2 := by
   unfold bareC at hc
   rw [Nat.ble_eq] at hc
   exact hc
  match k,hk with
  | 0,_ =>
   unfold cellOn at h ⊢
   exact h
  | 1,_ =>
   unfold cellOn at h ⊢
   exact h
  | 2,_ =>
   unfold cellOn at h ⊢
   exact h
theorem A2_imp {α : Type} {R R' : α→Value→Prop} {P : α→Prop} (h : ∀ a v,P a→R a v→R' a v) : ∀ {l : List α} {vs : List Value},(∀ a ∈ l,P a)→A2 R l vs→A2 R' l vs
 | [],[],_,_ => trivial
 | _ :: _,_ :: _,hp,q => ⟨h _ _ (hp _ List.mem_cons_self) q.1,A2_imp h (fun a ha => hp a (List.mem_cons_of_mem _ ha)) q.2⟩
 | [],_ :: _,_,q => q.elim
 | _ :: _,[],_,q => q.elim
theorem bareV_on {K K' : List (FuncId × List AC)} {γ γ' : Nat→Option Nat} {w : World} {x : AV} {v : Value} (hx : bareV x=true) (h : avOn (cOn E K γ w) x v) : avOn (cOn E K' γ' w) x v := by
 unfold bareV at hx
 rw [List.all_eq_true] at hx
 have one : ∀ (y : A1) u,(∀ c ∈ y.2,bareC c=true)→a1On (cOn E K γ w) y u→a1On (cOn E K' γ' w) y u := fun y u hy q => by
  obtain ⟨b,cs⟩ := y
  cases b with
  | true =>
   obtain ⟨us,e,q⟩ := q
   exact ⟨us,e,A2_imp (P := fun c => bareC c=true) (fun _ _ hc q => bareC_on hc q) hy q⟩
  | false => exact A2_imp (P := fun c => bareC c=true) (fun _ _ hc q => bareC_on hc q) hy q
 have all : ∀ y ∈ x.2,∀ c ∈ y.2,bareC c=true := fun y hy c hc => (List.all_eq_true.1 (hx y hy)) c hc
 obtain ⟨b,ys⟩ := x
 cases b with
 | true =>
  obtain ⟨us,e,q⟩ := h
  exact ⟨us,e,A2_imp (P := fun y : A1 => ∀ c ∈ y.2,bareC c=true) (fun y u hy q => one y u hy q) all q⟩
 | false => exact A2_imp (P := fun y : A1 => ∀ c ∈ y.2,bareC c=true) (fun y u hy q => one y u hy q) all h
variable {T : Hs→Prop} {z : Nat→Prop}
theorem callD_ok {cs : List (FuncId × Nat)} {M : Memo} (hm : S.P.follows .mixedOrders=true) (hM : MemoOk S E w0 M) (hN : ∀ X,T X→Knows (S.plus X) E) (hP : ∀ X,T X→PrimOk (S.plus X) E w0) (hk : AskTrue S T z)
  (hs : ∀ X,T X→∀ l s r,sqN S l=some s→(S.plus X).kn 0 s 0=some r→(Nat.beq 1 r=true→∀ d ∈ l,z d)∧(Nat.beq 1 r=false→∃ d ∈ l,¬ z d)) : ∀ n X,T X→CallOk S E w0 (callD S cs M n X)
 | 0,_,_ => fun _ _ _ _ _ h => by cases h
 | n+1,X,hX => fun f args h nx p hp => by
  have body : ∀ Y,T Y→CallOk S E w0 (bodyC (S.plus Y) (callD S cs M n Y)) := fun Y hY => bodyC_ok (S := S.plus Y) hm (hN Y hY) (hP Y hY) (callD_ok hm hM hN hP hk hs n Y hY)
  unfold callD at hp
  split at hp
  ·rename_i v hv
   cases hp
   intro γ w vs hi hA hb hlt hf
   refine (hM f args v (memoGet_mem hv) γ w vs hi hA).mono ?_
   rintro _ w' ⟨r,rfl,hef,hr⟩
   have live : ∀ b ∈ h.map (·.1),Live γ b := fun b hb' => by
    obtain ⟨x,hx,rfl⟩ := List.mem_map.1 hb'
    obtain ⟨_,_,_,_,hl,_⟩ := hb x hx
    exact hl
   exact ⟨r,γ,rfl,hef _ _ live,hr,fun x hx => (hef [] nx no_live).box hi (hb x hx) (by simp)⟩
  ·split at hp
   ·exact body X hX f args h nx p hp
   ·split at hp
    ·exact body X hX f args h nx p hp
    rename_i l r hk'
    obtain ⟨hl,s,h1,h2⟩ := askIt_some hk'
    have h3 := hp
    obtain ⟨a1,a0⟩ := hs X hX _ s r h1 h2
    cases e : Nat.beq 1 r with
    | true =>
     rw [e] at h3
     exact body _ (allZ_true hk hX hl fun a ha => a1 e _ (List.mem_map_of_mem ha)) f args h nx p h3
    | false =>
     rw [e] at h3
     obtain ⟨d,hd,hz⟩ := a0 e
     obtain ⟨a,ha,rfl⟩ := List.mem_map.1 hd
     obtain ⟨X',m1,m2⟩ := splits_true hk hX hl ⟨a,ha,hz⟩
     replace h3 : joinC h nx ((splits l X).map fun X' => bodyC (S.plus X') (callD S cs M n X') f args h nx)=some p := h3
     unfold joinC at h3
     split at h3
     ·rename_i p0 rs hrs
      rw [Option.bind_eq_some_iff] at h3
      obtain ⟨b,hb,h4⟩ := h3
      rw [ifO_some,List.all_eq_true] at h4
      obtain ⟨h5,h6⟩ := h4
      cases h6
      obtain ⟨h',nx',q1,q2,q3⟩ := agree_some (h5 _ (List.mem_map_of_mem m1))
      intro γ w vs hi hA hb hlt hf
      refine (body X' m2 f args h nx _ q1 γ w vs hi hA hb hlt fun b g1 g2 => hf b g1 (Nat.lt_of_lt_of_le g2 q2)).mono ?_
      rintro _ w' ⟨r',γ',rfl,hef,hv,hx⟩
      exact ⟨r',γ',rfl,hef.wide (Nat.le_refl _) q2,hv,fun x hh => hx x (q3 x hh)⟩
     ·cases h3
theorem memo_run {K1 K2 : List (FuncId × List AC)} {H1 H2 : Hs} {M : Memo} {f : FuncId} {args : List AV} {v : AV} {p : List HB × Nat} {call : CallF} (hC : CallOk { S with H := H1,K := K1 } E w0 call) (hr : call f args [] 0=some (v,p)) (ha : args.all bareV=true) (hv : bareV v=true) (hM : MemoOk { S with H := H2,K := K2 } E w0 M) : MemoOk { S with H := H2,K := K2 } E w0 ((f,args,v) :: M) := fun g bs u hmem => by
 rcases List.mem_cons.1 hmem with e | hmem
 ·cases e
  intro γ w vs hi hA
  rw [List.all_eq_true] at ha
  refine (hC f args [] 0 (v,p) hr (fun _ => none) w vs ⟨hi.bel,(fun _ _ h => by cases h)⟩ (A2_imp (P := fun x => bareV x=true) (fun _ _ hx q => bareV_on hx q) ha hA) (fun x hx => by cases hx) (fun x hx => by cases hx) (fun _ _ _ => rfl)).mono ?_
  rintro _ w' ⟨r,γ',rfl,hef,hr,_⟩
  refine ⟨r,rfl,fun wr nx hl => ⟨leG.refl _,fun _ _ => rfl,fun _ _ h => Or.inl h,⟨hef.wi.bel,fun b G q => ⟨(hi.lo b G q).1,Nat.lt_of_lt_of_le (hi.lo b G q).2 hef.gr.size⟩⟩,hef.gr,fun G hG _ => hef.keep G hG (fun b hb => by cases hb),hl⟩,bareV_on hv hr⟩
 ·exact hM g bs u hmem
def memoOne (S : Sx) (cs : List (FuncId × Nat)) (k : Nat) : Memo→Bool
 | (f,args,v) :: M => (match callD S cs M k [] f args [] 0 with
  | some (u,_) => avsB [u] [v]
  | none => false) && (args.all bareV && bareV v)
 | [] => false
def memoChk (S : Sx) (cs : List (FuncId × Nat)) (k : Nat) : Nat→Memo→Bool
 | 0,_ => true
 | n+1,M => memoOne S cs k M && memoChk S cs k n M.tail
def qA (l : List Nat) : AV := (false,[(true,l.flatMap qCells)])
def rC (a : Nat) : AC := .inr (0,0,a,0,0)
def rA (l : List Nat) : AV := (false,[(true,l.map rC)])
def tA (l : List Nat) : AV := (false,[(true,l.map fun a => .inr (1,a,0,0,0))])
theorem memo_nil : MemoOk S E w0 [] := fun _ _ _ h => by cases h
end
end Cx
/- VPE -/
namespace Go.Proofs.YtgemmepbdmbmfaaGreatDoor
open Cx Go Go.RowKit
section
variable {N : List Nd} {H : List (Nat × Nat × Nat × Nat)} {K : List (FuncId × List AC)} {L C : List (List Nat × Nat)} {Z : List Nat} {q : Nat→Rat} {σ : Nat→ByteArray} {cl : List FuncId} {cs pr : List (FuncId × Nat)} {M : Memo} {w : World}
theorem callD_told (Y : Hy N H L C Z q σ) (hc : ∀ f ∈ cl,Closed f) (hm : (Tryz.prog).follows .mixedOrders=true) (hp : PreS w) (hM : MemoOk (sx Tryz.prog N H K L C Z (prC cl)) (evS q σ) w M) (k : Nat) : CallOk (sx Tryz.prog N H K L C Z (prC cl)) (evS q σ) w (callD (sx Tryz.prog N H K L C Z (prC cl)) cs M k []) :=
 callD_ok (S := sx Tryz.prog N H K L C Z (prC cl)) (E := evS q σ) (w0 := w) (T := fun X => Hy N (X ++ H) L C Z q σ) (z := fun d => q d=0) hm hM (fun X hX => knows hX) (fun X hX => primOk hX hp hc) ask_true (fun X hX l s r h1 h2 => by
  have e := hX.k0 s r h2
  have g := sqN_val hX h1
  refine ⟨fun h => g.1 (e.1 h),fun h => ?_⟩
  have hn : ¬ ∀ d ∈ l,q d=0 := fun q' => by
   rw [e.2 (g.2 q')] at h
   cases h
  simpa using hn) k [] Y
def MemoAll (N : List Nd) (L C : List (List Nat × Nat)) (Z : List Nat) (q : Nat→Rat) (σ : Nat→ByteArray) (cl : List FuncId) (w : World) (M : Memo) : Prop := ∀ H K,MemoOk (sx Tryz.prog N H K L C Z (prC cl)) (evS q σ) w M
theorem memoAll_nil : MemoAll N L C Z q σ cl w [] := fun _ _ => memo_nil
theorem memoAll_cons {H1 : List (Nat × Nat × Nat × Nat)} (Y : Hy N H1 L C Z q σ) (hc : ∀ f ∈ cl,Closed f) (hm : (Tryz.prog).follows .mixedOrders=true) (hp : PreS w) {f : FuncId} {args : List AV} {v : AV} (k : Nat) (hr : memoOne (sx Tryz.prog N H1 [] L C Z (prC cl)) cs k ((f,args,v) :: M)=true) (hM : MemoAll N L C Z q σ cl w M) : MemoAll N L C Z q σ cl w ((f,args,v) :: M) := fun H K => by
 unfold memoOne at hr
 simp only [Bool.and_eq_true] at hr
 obtain ⟨h1,h2,h3⟩ := hr
 split at h1
 ·rename_i u p hu
  have e := avsB_eq h1
  cases e
  exact memo_run (S := sx Tryz.prog N H K L C Z (prC cl)) (K1 := []) (H1 := H1) (K2 := K) (H2 := H) (callD_told (K := []) (cs := cs) Y hc hm hp (hM H1 []) k) hu h2 h3 (hM H K)
 ·cases h1
theorem memoAll_drop {i : Nat} {H1 : List (Nat × Nat × Nat × Nat)} (Y : Hy N H1 L C Z q σ) (hc : ∀ f ∈ cl,Closed f) (hm : (Tryz.prog).follows .mixedOrders=true) (hp : PreS w) {k : Nat} (hr : memoOne (sx Tryz.prog N H1 [] L C Z (prC cl)) cs k (M.drop i)=true) (hM : MemoAll N L C Z q σ cl w (M.drop (i+1))) : MemoAll N L C Z q σ cl w (M.drop i) := by
 rw [← List.tail_drop] at hM
 generalize M.drop i=D at *
 match D with
 | [] => cases hr
 | (f,args,v) :: D => exact memoAll_cons Y hc hm hp k hr hM
theorem memoAll_chk {H1 : List (Nat × Nat × Nat × Nat)} (Y : Hy N H1 L C Z q σ) (hc : ∀ f ∈ cl,Closed f) (hm : (Tryz.prog).follows .mixedOrders=true) (hp : PreS w) {k : Nat} : ∀ (n : Nat) {M : Memo},memoChk (sx Tryz.prog N H1 [] L C Z (prC cl)) cs k n M=true→MemoAll N L C Z q σ cl w (M.drop n)→MemoAll N L C Z q σ cl w M
 | 0,_,_,h => h
 | n+1,M,hr,h => by
  unfold memoChk at hr
  rw [Bool.and_eq_true] at hr
  have h1 := memoAll_chk Y hc hm hp n hr.2 (by rw [List.drop_tail]; exact h)
  exact memoAll_drop (i := 0) Y hc hm hp hr.1 (by rw [Nat.zero_add,List.drop_one]; exact h1)
end
end Go.Proofs.YtgemmepbdmbmfaaGreatDoor
/- VPF -/
namespace Cx
open Go Go.RowKit
def hbsIn (l m : List HB) : Bool := l.all fun x => m.any fun y => Nat.beq x.1 y.1 && acsW x.2 y.2
theorem hbsIn_mem {l m : List HB} (h : hbsIn l m=true) {x : HB} (hx : x ∈ l) : x ∈ m := by
 unfold hbsIn at h
 rw [List.all_eq_true] at h
 have := h x hx
 rw [List.any_eq_true] at this
 obtain ⟨y,hy,e⟩ := this
 rw [Bool.and_eq_true,Nat.beq_eq] at e
 rw [show x=y from Prod.ext e.1 (acsW_eq e.2)]
 exact hy
abbrev MemoX := List (FuncId × List AV × List HB × Nat × AV × List HB × Nat)
def mxGet (f : FuncId) (args : List AV) (h : List HB) (nx : Nat) : MemoX→CRes
 | [] => none
 | (g,bs,k,n,p) :: m => bif (Nat.beq f g && Nat.beq nx n) && (avsB args bs && hbsIn k h) then some p else mxGet f args h nx m
section
variable {S : Sx} {E : Ev S.nb} {w0 : World}
def CallAt (S : Sx) (E : Ev S.nb) (w0 : World) (f : FuncId) (args : List AV) (h : List HB) (nx : Nat) (p : AV × List HB × Nat) : Prop := ∀ (γ : Nat→Option Nat) (w : World) (vs : List Value),WI w0 γ w→A2 (avOn (cOn E S.K γ w)) args vs→(∀ x ∈ h,boxOn E S.K γ w x)→(∀ x ∈ h,x.1 < nx)→(∀ b,nx≤b→b < p.2.2→γ b=none) →
 Calls S.P f vs.toArray w fun e w' => ∃ r γ',e=.returned r∧Ef S.nb w0 (h.map (·.1)) nx p.2.2 γ w γ' w'∧avOn (cOn E S.K γ' w') p.1 r∧∀ x ∈ p.2.1,boxOn E S.K γ' w' x
def MemoXOk (S : Sx) (E : Ev S.nb) (w0 : World) (B : MemoX) : Prop := ∀ f args h nx p,(f,args,h,nx,p) ∈ B→CallAt S E w0 f args h nx p
theorem mxGet_ok : ∀ {B : MemoX} {f : FuncId} {args : List AV} {h : List HB} {nx : Nat} {p : AV × List HB × Nat},MemoXOk S E w0 B→mxGet f args h nx B=some p→CallAt S E w0 f args h nx p
 | [],_,_,_,_,_,_,h => by cases h
 | (g,bs,k,n,u) :: m,f,args,h,nx,p,hB,hg => by
  unfold mxGet at hg
  cases e : ((Nat.beq f g && Nat.beq nx n) && (avsB args bs && hbsIn k h)) with
  | true =>
   rw [e] at hg
   have hu : u=p := Option.some.inj hg
   simp only [Bool.and_eq_true,Nat.beq_eq] at e
   obtain ⟨⟨e1,e2⟩,e3,e4⟩ := e
   subst hu e1 e2
   have ea := avsB_eq e3
   subst ea
   have base := hB f args k nx u List.mem_cons_self
   intro γ w vs hi hA hb hlt hf
   refine (base γ w vs hi hA (fun x hx => hb x (hbsIn_mem e4 hx)) (fun x hx => hlt x (hbsIn_mem e4 hx)) hf).mono ?_
   rintro _ w' ⟨r,γ',rfl,hef,hr,hx⟩
   refine ⟨r,γ',rfl,hef.more (fun b hb' => ?_) (fun b hb' => ?_),hr,hx⟩
   ·obtain ⟨x,hx',rfl⟩ := List.mem_map.1 hb'
    exact List.mem_map.2 ⟨x,hbsIn_mem e4 hx',rfl⟩
   ·obtain ⟨x,hx',rfl⟩ := List.mem_map.1 hb'
    obtain ⟨_,_,_,_,hl,_⟩ := hb x hx'
    exact hl
  | false =>
   rw [e] at hg
   exact mxGet_ok (fun f' a' h' n' p' hm => hB f' a' h' n' p' (List.mem_cons_of_mem _ hm)) hg
variable {T : Hs→Prop} {z : Nat→Prop}
end
end Cx
namespace Go.Proofs.YtgemmepbdmbmfaaGreatDoor
open Cx Go Go.RowKit
section
variable {N : List Nd} {H : List (Nat × Nat × Nat × Nat)} {K : List (FuncId × List AC)} {L C : List (List Nat × Nat)} {Z : List Nat} {q : Nat→Rat} {σ : Nat→ByteArray} {cl : List FuncId} {cs : List (FuncId × Nat)} {M : Memo} {B : MemoX} {w : World}
theorem memoX_nil : MemoXOk (sx Tryz.prog N H K L C Z (prC cl)) (evS q σ) w [] := fun _ _ _ _ _ h => by cases h
end
end Go.Proofs.YtgemmepbdmbmfaaGreatDoor
/- VPJ -/
namespace Cx
open Go Go.RowKit
def zN (S : Sx) : Nat→Nat→Bool
 | 0,_ => false
 | d+1,i => (match S.kn 0 i 0 with
  | some r => Nat.beq 1 r
  | none => false) || (match S.N[i]? with
  | some (op,[a]) => Nat.beq op 5 && zN S d a
  | some (op,[a,b]) => Nat.beq op 4 && (zN S d a || zN S d b)
  | _ => false)
def sameN (S : Sx) (i j : Nat) : Bool := Nat.beq i j || (match S.N[i]? with
 | some (op,[a,b]) => Nat.beq op 2 && (Nat.beq a j && zN S 3 b)
 | _ => false)
def sameV (S : Sx) (v u : AV) : Bool := avsB [v] [u] || (match rN v with
 | some i => (match rN u with
  | some j => sameN S i j
  | none => false)
 | none => false)
def okT (S : Sx) (s0 s1 : St) (t : Nat) : Bool := match tget t s1.tm with
 | some v => (match tget t s0.tm with
  | some u => sameV S v u
  | none => false)
 | none => false
def joinSt (S : Sx) : Option (Nat × St)→Option (Nat × St)→Option (Nat × St)
 | some (e0,s0),some (e1,s1) => ifO (Nat.beq e0 e1) (some (e1,{ tm := s1.tm.filter fun p => okT S s0 s1 p.1,h := s1.h.filter fun x => s0.h.any fun y => Nat.beq x.1 y.1 && acsW x.2 y.2,nx := bif Nat.ble s0.nx s1.nx then s1.nx else s0.nx }))
 | _,_ => none
def loopJ (S : Sx) (R : Hs→St→Option (Nat × St)) (X : Hs) : List Nat→St→Option (Nat × St)
 | [],s => loopB (R X) 100 s
 | a :: l,s => (joinSt (S.plus ((0,a,0,1) :: X)) (R ((0,a,0,1) :: X) s) (R ((0,a,0,0) :: X) s)).bind fun r => bif Nat.beq r.1 0 then loopJ S R X l r.2 else some r
def runJ (S : Sx) (cl : Hs→CallF) (X : Hs) (n : Nat) (l : List Nat) : Code→St→Option (Nat × St)
 | .seq a b,s => (runJ S cl X n l a s).bind fun r => bif Nat.beq r.1 0 then runJ S cl X n l b r.2 else some r
 | .block id c,s => (runJ S cl X n l c s).map fun r => bif Nat.beq r.1 (id+2) then (0,r.2) else r
 | .loop c,s => loopJ S (fun Y => runB (S.plus Y) (cl Y) n c) X l s
 | c,s => runB (S.plus X) (cl X) n c s
def bodyJ (S : Sx) (cl : Hs→CallF) (X : Hs) (l : List Nat) : CallF := fun f args h nx => S.P.funcs[f]?.bind fun fn => fn.body.bind fun c => ifO (Nat.ble args.length fn.ntmps) ((runJ S cl X fn.ntmps l c { tm := numb1 0 args,h := h,nx := nx }).bind fun r =>
   ifO (Nat.ble r.1 1) ((mapO (resB S.P r.2) fn.results.toList).map fun xs => (tupB xs,r.2.h,r.2.nx)))
def jRow (h : List HB) (args : List AV) : Option (List Nat) := arg1 (fun x => (rowB h 1 x).bind fun p => p.2.head?.bind fun c => (rowB h 1 (v1 c)).bind fun p' => mapO (acX 0) p'.2) args
def callJ (S : Sx) (cs : List (FuncId × Nat)) (M : Memo) (B : MemoX) (J : FuncId) : Nat→Hs→CallF
 | 0,_,_,_,_,_ => none
 | n+1,X,f,args,h,nx => match memoGet f args M with
  | some v => some (v,h,nx)
  | none => match mxGet f args h nx B with
   | some p => some p
   | none => bif Nat.beq f J then (jRow h args).bind fun l => bodyJ S (callJ S cs M B J n) X l f args h nx else match prGet f cs with
    | none => bodyC (S.plus X) (callJ S cs M B J n X) f args h nx
    | some c => match askIt S X h c args with
     | none => bodyC (S.plus X) (callJ S cs M B J n X) f args h nx
     | some (l,r) => bif Nat.beq 1 r then bodyC (S.plus (allZ l X)) (callJ S cs M B J n (allZ l X)) f args h nx
      else joinC h nx ((splits l X).map fun X' => bodyC (S.plus X') (callJ S cs M B J n X') f args h nx)
section
variable {S : Sx} {E : Ev S.nb} {w0 : World} {n : Nat} {T : Hs→Prop} {z : Nat→Prop}
theorem tget_filter {f : Nat→Bool} {t : Nat} {v : AV} : ∀ {tm : List (Nat × AV)},tget t (tm.filter fun p => f p.1)=some v→f t=true∧tget t tm=some v
 | [],h => by cases h
 | (u,x) :: tm,h => by
  cases e : f u with
  | true =>
   rw [List.filter_cons_of_pos (by exact e)] at h
   unfold tget at h ⊢
   cases g : Nat.beq t u with
   | true =>
    rw [g] at h
    rw [Nat.beq_eq] at g
    subst g
    exact ⟨e,h⟩
   | false =>
    rw [g] at h
    exact tget_filter (tm := tm) h
  | false =>
   rw [List.filter_cons_of_neg (by rw [e]; decide)] at h
   obtain ⟨h1,h2⟩ := tget_filter (tm := tm) h
   refine ⟨h1,?_⟩
   unfold tget
   cases g : Nat.beq t u with
   | true =>
    rw [Nat.beq_eq] at g
    subst g
    rw [e] at h1
    cases h1
   | false => exact h2
theorem rN_on {γ : Nat→Option Nat} {w : World} {v : AV} {i : Nat} {x : Value} (h : rN v=some i) (hx : avOn (cOn E S.K γ w) v x) : (E.X 0 (E.q i)).on x w := by
 unfold rN at h
 rw [Option.bind_eq_some_iff] at h
 obtain ⟨c,h1,h2⟩ := h
 exact acX_on h2 (asC_on h1 hx)
theorem on_rN {γ : Nat→Option Nat} {w : World} {v : AV} {i : Nat} {x : Value} (h : rN v=some i) (hx : (E.X 0 (E.q i)).on x w) : avOn (cOn E S.K γ w) v x := by
 unfold rN at h
 rw [Option.bind_eq_some_iff] at h
 obtain ⟨c,h1,h2⟩ := h
 unfold asC at h1
 split at h1
 ·cases h1
  unfold acX at h2
  split at h2
  ·rw [ifO_some,Bool.and_eq_true,Nat.beq_eq,Nat.beq_eq] at h2
   obtain ⟨⟨e1,e2⟩,e3⟩ := h2
   cases e3
   subst e1 e2
   exact v1_on hx
  ·cases h2
 ·cases h1
theorem joinSt_ok {X : Hs} {a : Nat} {R : Hs→St→Option (Nat × St)} {wp : (Exit→Act→World→Prop)→Act→World→Prop} (hR : ∀ Y,T Y→RunOk S E w0 n (R Y) wp) (hk : AskTrue S T z) (hX : T X) (hq : ∀ Y,T Y→∀ i j,sameN (S.plus Y) i j=true→E.q i=E.q j) :
  RunOk S E w0 n (fun s => joinSt (S.plus ((0,a,0,1) :: X)) (R ((0,a,0,1) :: X) s) (R ((0,a,0,0) :: X) s)) wp := by
 intro s e s' hr
 dsimp only at hr
 unfold joinSt at hr
 split at hr
 ·rename_i e0 s0 e1 s1 g0 g1
  rw [ifO_some,Nat.beq_eq] at hr
  obtain ⟨he,hs'⟩ := hr
  cases hs'
  have ask := hk X hX (0,a,0,a) (by simp [askOk])
  have m0 : s0.nx≤(bif Nat.ble s0.nx s1.nx then s1.nx else s0.nx) := by
   cases q : Nat.ble s0.nx s1.nx with
   | true => rw [Nat.ble_eq] at q; exact q
   | false => exact Nat.le_refl _
  have m1 : s1.nx≤(bif Nat.ble s0.nx s1.nx then s1.nx else s0.nx) := by
   cases q : Nat.ble s0.nx s1.nx with
   | true => exact Nat.le_refl _
   | false =>
    have : ¬ s0.nx≤s1.nx := fun h => by rw [← Nat.ble_eq,q] at h; cases h
    show s1.nx≤s0.nx
    omega
  have inH : ∀ x ∈ (s1.h.filter fun x => s0.h.any fun y => Nat.beq x.1 y.1 && acsW x.2 y.2),x ∈ s1.h∧x ∈ s0.h := fun x hx => by
   rw [List.mem_filter,List.any_eq_true] at hx
   obtain ⟨h1,y,hy,h2⟩ := hx
   rw [Bool.and_eq_true,Nat.beq_eq] at h2
   rw [show x=y from Prod.ext h2.1 (acsW_eq h2.2)] at h1 ⊢
   exact ⟨h1,hy⟩
  by_cases hz : z a
  ·have hT := ask.1 hz
   obtain ⟨l,i,r⟩ := hR _ hT s e0 s0 g0
   refine ⟨Nat.le_trans l m0,fun x hx => ?_,fun γ b w Q hs hf hQ => ?_⟩
   ·rcases i x (inH x hx).2 with q | q
    ·exact Or.inl q
    ·exact Or.inr ⟨q.1,Nat.lt_of_lt_of_le q.2 m0⟩
   ·rw [← he] at hQ
    refine r γ b w Q hs (fun c q1 q2 => hf c q1 (Nat.lt_of_lt_of_le q2 m0)) fun b1 w1 γ1 hef hs1 => hQ b1 w1 γ1 (hef.wide (Nat.le_refl _) m0) ⟨hs1.wi,fun t v ht => ?_,fun x hx => hs1.bx x (inH x hx).2,fun x hx => Nat.lt_of_lt_of_le (hs1.lt x (inH x hx).2) m0,hs1.sz,hs1.df⟩
    obtain ⟨k1,k2⟩ := tget_filter (f := okT (S.plus ((0,a,0,1) :: X)) s0 s1) ht
    unfold okT at k1
    rw [k2] at k1
    dsimp only at k1
    split at k1
    ·rename_i u hu
     have hv := hs1.tm t u hu
     unfold sameV at k1
     rw [Bool.or_eq_true] at k1
     rcases k1 with k1 | k1
     ·have := avsB_eq k1
      cases this
      exact hv
     ·split at k1
      ·rename_i i1 hi1
       split at k1
       ·rename_i j1 hj1
        have := rN_on hj1 hv
        rw [← hq _ hT i1 j1 k1] at this
        exact on_rN hi1 this
       ·cases k1
      ·cases k1
    ·cases k1
  ·have hT := ask.2 hz
   obtain ⟨l,i,r⟩ := hR _ hT s e s1 g1
   refine ⟨Nat.le_trans l m1,fun x hx => ?_,fun γ b w Q hs hf hQ => ?_⟩
   ·rcases i x (inH x hx).1 with q | q
    ·exact Or.inl q
    ·exact Or.inr ⟨q.1,Nat.lt_of_lt_of_le q.2 m1⟩
   ·refine r γ b w Q hs (fun c q1 q2 => hf c q1 (Nat.lt_of_lt_of_le q2 m1)) fun b1 w1 γ1 hef hs1 => hQ b1 w1 γ1 (hef.wide (Nat.le_refl _) m1) ⟨hs1.wi,fun t v ht => ?_,fun x hx => hs1.bx x (inH x hx).1,fun x hx => Nat.lt_of_lt_of_le (hs1.lt x (inH x hx).1) m1,hs1.sz,hs1.df⟩
    exact hs1.tm t v (tget_filter (f := okT (S.plus ((0,a,0,1) :: X)) s0 s1) ht).2
 ·cases hr
theorem loopB_ok {f : St→Option (Nat × St)} {c : Code} (hc : RunOk S E w0 n f (fun Q a w => c.wp S.P Q a w)) (k : Nat) : RunOk S E w0 n (loopB f k) (fun Q a w => Code.rounds S.P c Q k a w) := by
 induction k with
 | zero => intro s e s' hr; cases hr
 | succ k ih =>
  intro s e s' hr
  unfold loopB at hr
  rw [Option.bind_eq_some_iff] at hr
  obtain ⟨⟨e1,s1⟩,h1,hr⟩ := hr
  obtain ⟨l1,i1,r1⟩ := hc s e1 s1 h1
  dsimp only at hr
  cases hz : Nat.beq e1 0 with
  | true =>
   rw [hz] at hr
   obtain ⟨l2,i2,r2⟩ := ih s1 e s' hr
   rw [Nat.beq_eq] at hz
   subst hz
   refine ⟨Nat.le_trans l1 l2,ids_seq l1 l2 i1 i2,fun γ a w Q hs hf hQ => ?_⟩
   show c.wp S.P (Exit.then (fun a w => Code.rounds S.P c Q k a w) Q) a w
   refine r1 γ a w _ hs (fun b q1 q2 => hf b q1 (by omega)) fun a1 w1 γ1 he1 hs1 => ?_
   refine r2 γ1 a1 w1 Q hs1 (fun b q1 q2 => ?_) fun a2 w2 γ2 he2 hs2 => hQ a2 w2 γ2 (he1.seq he2 l1 l2 hf i1) hs2
   rw [he1.same b (by omega)]
   exact hf b (by omega) q2
  | false =>
   rw [hz] at hr
   cases hr
   refine ⟨l1,i1,fun γ a w Q hs hf hQ => ?_⟩
   show c.wp S.P (Exit.then (fun a w => Code.rounds S.P c Q k a w) Q) a w
   exact r1 γ a w _ hs hf fun a1 w1 γ1 he1 hs1 => then_other (exitOf_ne hz) (hQ a1 w1 γ1 he1 hs1)
theorem loopJ_ok {X : Hs} {R : Hs→St→Option (Nat × St)} {c : Code} (hR : ∀ Y,T Y→RunOk S E w0 n (R Y) (fun Q a w => c.wp S.P Q a w)) (hk : AskTrue S T z) (hX : T X) (hq : ∀ Y,T Y→∀ i j,sameN (S.plus Y) i j=true→E.q i=E.q j) :
  ∀ (l : List Nat),RunOk S E w0 n (loopJ S R X l) (fun Q a w => Code.rounds S.P c Q (100+l.length) a w)
 | [] => loopB_ok (hR X hX) 100
 | a :: l => by
  intro s e s' hr
  unfold loopJ at hr
  rw [Option.bind_eq_some_iff] at hr
  obtain ⟨⟨e1,s1⟩,h1,hr⟩ := hr
  obtain ⟨l1,i1,r1⟩ := joinSt_ok (a := a) hR hk hX hq s e1 s1 h1
  dsimp only at hr
  cases hz : Nat.beq e1 0 with
  | true =>
   rw [hz] at hr
   obtain ⟨l2,i2,r2⟩ := loopJ_ok hR hk hX hq l s1 e s' hr
   rw [Nat.beq_eq] at hz
   subst hz
   refine ⟨Nat.le_trans l1 l2,ids_seq l1 l2 i1 i2,fun γ b w Q hs hf hQ => ?_⟩
   show c.wp S.P (Exit.then (fun a w => Code.rounds S.P c Q (100+l.length) a w) Q) b w
   refine r1 γ b w _ hs (fun b q1 q2 => hf b q1 (by omega)) fun a1 w1 γ1 he1 hs1 => ?_
   refine r2 γ1 a1 w1 Q hs1 (fun b q1 q2 => ?_) fun a2 w2 γ2 he2 hs2 => hQ a2 w2 γ2 (he1.seq he2 l1 l2 hf i1) hs2
   rw [he1.same b (by omega)]
   exact hf b (by omega) q2
  | false =>
   rw [hz] at hr
   cases hr
   refine ⟨l1,i1,fun γ b w Q hs hf hQ => ?_⟩
   show c.wp S.P (Exit.then (fun a w => Code.rounds S.P c Q (100+l.length) a w) Q) b w
   exact r1 γ b w _ hs hf fun a1 w1 γ1 he1 hs1 => then_other (exitOf_ne hz) (hQ a1 w1 γ1 he1 hs1)
theorem RunOk.less {X : Hs} {f : St→Option (Nat × St)} {wp : (Exit→Act→World→Prop)→Act→World→Prop} (h : RunOk (S.plus X) E w0 n f wp) : RunOk S E w0 n f wp := fun s e s' hr => by
 obtain ⟨h1,h2,h3⟩ := h s e s' hr
 exact ⟨h1,h2,fun γ a w Q hs hf hQ => h3 γ a w Q ⟨hs.wi,hs.tm,hs.bx,hs.lt,hs.sz,hs.df⟩ hf fun a' w' γ' q1 q2 => hQ a' w' γ' q1 ⟨q2.wi,q2.tm,q2.bx,q2.lt,q2.sz,q2.df⟩⟩
theorem runJ_ok {cl : Hs→CallF} {X : Hs} {l : List Nat} (hm : S.P.follows .mixedOrders=true) (hN : ∀ Y,T Y→Knows (S.plus Y) E) (hP : ∀ Y,T Y→PrimOk (S.plus Y) E w0) (hC : ∀ Y,T Y→CallOk S E w0 (cl Y)) (hk : AskTrue S T z) (hX : T X) (hq : ∀ Y,T Y→∀ i j,sameN (S.plus Y) i j=true→E.q i=E.q j) :
  ∀ (c : Code),RunOk S E w0 n (runJ S cl X n l c) (fun Q a w => c.wp S.P Q a w)
 | .seq c1 c2 => fun s e s' hr => by
  unfold runJ at hr
  rw [Option.bind_eq_some_iff] at hr
  obtain ⟨⟨e1,s1⟩,h1,hr⟩ := hr
  obtain ⟨l1,i1,r1⟩ := runJ_ok hm hN hP hC hk hX hq c1 s e1 s1 h1
  dsimp only at hr
  cases hz : Nat.beq e1 0 with
  | true =>
   rw [hz] at hr
   obtain ⟨l2,i2,r2⟩ := runJ_ok hm hN hP hC hk hX hq c2 s1 e s' hr
   rw [Nat.beq_eq] at hz
   subst hz
   refine ⟨Nat.le_trans l1 l2,ids_seq l1 l2 i1 i2,fun γ a w Q hs hf hQ => wp_seq (r1 γ a w _ hs (fun b q1 q2 => hf b q1 (by omega)) fun a1 w1 γ1 he1 hs1 => ?_)⟩
   refine r2 γ1 a1 w1 Q hs1 (fun b q1 q2 => ?_) fun a2 w2 γ2 he2 hs2 => hQ a2 w2 γ2 (he1.seq he2 l1 l2 hf i1) hs2
   rw [he1.same b (by omega)]
   exact hf b (by omega) q2
  | false =>
   rw [hz] at hr
   cases hr
   exact ⟨l1,i1,fun γ a w Q hs hf hQ => wp_seq (r1 γ a w _ hs hf fun a1 w1 γ1 he1 hs1 => then_other (exitOf_ne hz) (hQ a1 w1 γ1 he1 hs1))⟩
 | .block id c => fun s e s' hr => by
  unfold runJ at hr
  rw [Option.map_eq_some_iff] at hr
  obtain ⟨⟨e1,s1⟩,h1,hr⟩ := hr
  obtain ⟨l,i,r⟩ := runJ_ok hm hN hP hC hk hX hq c s e1 s1 h1
  dsimp only at hr
  cases hz : Nat.beq e1 (id+2) with
  | true =>
   rw [hz] at hr
   cases hr
   rw [Nat.beq_eq] at hz
   subst hz
   refine ⟨l,i,fun γ a w Q hs hf hQ => wp_block (r γ a w _ hs hf fun a1 w1 γ1 he1 hs1 => ?_)⟩
   show (if id=id then Q .normal a1 w1 else Q (.exit id) a1 w1)
   rw [if_pos rfl]
   exact hQ a1 w1 γ1 he1 hs1
  | false =>
   rw [hz] at hr
   cases hr
   exact ⟨l,i,fun γ a w Q hs hf hQ => wp_block (r γ a w _ hs hf fun a1 w1 γ1 he1 hs1 => inBlock_other hz (hQ a1 w1 γ1 he1 hs1))⟩
 | .loop c => fun s e s' hr => by
  unfold runJ at hr
  obtain ⟨l1,i,r⟩ := loopJ_ok (c := c) (fun Y hY => RunOk.less (runB_ok (S := S.plus Y) (n := n) hm (hN Y hY) (hP Y hY) (hC Y hY) c)) hk hX hq l s e s' hr
  exact ⟨l1,i,fun γ a w Q hs hf hQ => wp_loop_rounds (100+l.length) (r γ a w Q hs hf hQ)⟩
 | .region id os dr => fun s e s' hr => RunOk.less (runB_ok (S := S.plus X) (n := n) hm (hN X hX) (hP X hX) (hC X hX) (.region id os dr)) s e s' hr
 | .skip => fun s e s' hr => RunOk.less (runB_ok (S := S.plus X) (n := n) hm (hN X hX) (hP X hX) (hC X hX) .skip) s e s' hr
 | .exit id => fun s e s' hr => RunOk.less (runB_ok (S := S.plus X) (n := n) hm (hN X hX) (hP X hX) (hC X hX) (.exit id)) s e s' hr
 | .ret => fun s e s' hr => RunOk.less (runB_ok (S := S.plus X) (n := n) hm (hN X hX) (hP X hX) (hC X hX) .ret) s e s' hr
 | .cond x a b => fun s e s' hr => RunOk.less (runB_ok (S := S.plus X) (n := n) hm (hN X hX) (hP X hX) (hC X hX) (.cond x a b)) s e s' hr
 | .rangeFunc _ _ _ _ => fun _ _ _ hr => by cases hr
 | .scope _ => fun _ _ _ hr => by cases hr
 | .label _ => fun _ _ _ hr => by cases hr
 | .goto _ => fun _ _ _ hr => by cases hr
 | .refuse _ => fun _ _ _ hr => by cases hr
theorem bodyJ_ok {cl : Hs→CallF} {X : Hs} {l : List Nat} (hm : S.P.follows .mixedOrders=true) (hN : ∀ Y,T Y→Knows (S.plus Y) E) (hP : ∀ Y,T Y→PrimOk (S.plus Y) E w0) (hC : ∀ Y,T Y→CallOk S E w0 (cl Y)) (hk : AskTrue S T z) (hX : T X) (hq : ∀ Y,T Y→∀ i j,sameN (S.plus Y) i j=true→E.q i=E.q j) : CallOk S E w0 (bodyJ S cl X l) := fun f args h nx p hp γ w vs hi hA hb hlt hf => by
 unfold bodyJ at hp
 simp only [Option.bind_eq_some_iff,ifO_some,Option.map_eq_some_iff,Nat.ble_eq] at hp
 obtain ⟨fn,h1,c,h2,h3,⟨e,s'⟩,h4,h5,xs,h6,rfl⟩ := hp
 dsimp only at h5 h6
 rcases (show e=0 ∨ e=1 by omega) with rfl | rfl
 all_goals
  obtain ⟨_,_,r⟩ := runJ_ok hm hN hP hC hk hX hq c _ _ _ h4
  refine calls_of_wp h1 h2 (r γ _ w _ ⟨hi,fun t v q => ?_,hb,hlt,?_,rfl⟩ hf fun a' w' γ' hef hs => ?_)
  ·obtain ⟨_,q2⟩ := numb1_get q
   rw [Nat.sub_zero] at q2
   obtain ⟨u,hu,hv⟩ := hA.get q2
   have hlt : t < vs.length := (List.getElem?_eq_some_iff.1 hu).1
   have : (vs.toArray ++ Array.replicate (fn.ntmps - vs.toArray.size) undef).getD t undef=u := by
    rw [Array.getD_eq_getD_getElem?,Array.getElem?_append_left (by simpa using hlt)]
    simp [hu]
   show avOn _ v ((vs.toArray ++ Array.replicate (fn.ntmps - vs.toArray.size) undef).getD t undef)
   rw [this]
   exact hv
  ·have := hA.len
   simp
   omega
  ·obtain ⟨v,hv,hx⟩ := results_run hs h6
   exact ⟨hs.df,v,hv,v,γ',rfl,hef,hx,hs.bx⟩
theorem callJ_ok {cs : List (FuncId × Nat)} {M : Memo} {B : MemoX} {J : FuncId} (hm : S.P.follows .mixedOrders=true) (hM : MemoOk S E w0 M) (hB : MemoXOk S E w0 B) (hN : ∀ X,T X→Knows (S.plus X) E) (hP : ∀ X,T X→PrimOk (S.plus X) E w0) (hk : AskTrue S T z)
  (hs : ∀ X,T X→∀ l s r,sqN S l=some s→(S.plus X).kn 0 s 0=some r→(Nat.beq 1 r=true→∀ d ∈ l,z d)∧(Nat.beq 1 r=false→∃ d ∈ l,¬ z d)) (hq : ∀ Y,T Y→∀ i j,sameN (S.plus Y) i j=true→E.q i=E.q j) : ∀ n X,T X→CallOk S E w0 (callJ S cs M B J n X)
 | 0,_,_ => fun _ _ _ _ _ h => by cases h
 | n+1,X,hX => fun f args h nx p hp => by
  have body : ∀ Y,T Y→CallOk S E w0 (bodyC (S.plus Y) (callJ S cs M B J n Y)) := fun Y hY => bodyC_ok (S := S.plus Y) hm (hN Y hY) (hP Y hY) (callJ_ok hm hM hB hN hP hk hs hq n Y hY)
  unfold callJ at hp
  split at hp
  ·rename_i v hv
   cases hp
   intro γ w vs hi hA hb hlt hf
   refine (hM f args v (memoGet_mem hv) γ w vs hi hA).mono ?_
   rintro _ w' ⟨r,rfl,hef,hr⟩
   have live : ∀ b ∈ h.map (·.1),Live γ b := fun b hb' => by
    obtain ⟨x,hx,rfl⟩ := List.mem_map.1 hb'
    obtain ⟨_,_,_,_,hl,_⟩ := hb x hx
    exact hl
   exact ⟨r,γ,rfl,hef _ _ live,hr,fun x hx => (hef [] nx no_live).box hi (hb x hx) (by simp)⟩
  ·split at hp
   ·rename_i u hu
    cases hp
    exact mxGet_ok hB hu
   ·cases ej : Nat.beq f J with
    | true =>
     rw [ej] at hp
     replace hp : ((jRow h args).bind fun l => bodyJ S (callJ S cs M B J n) X l f args h nx)=some p := hp
     rw [Option.bind_eq_some_iff] at hp
     obtain ⟨l,_,hp⟩ := hp
     exact bodyJ_ok hm hN hP (fun Y hY => callJ_ok hm hM hB hN hP hk hs hq n Y hY) hk hX hq f args h nx p hp
    | false =>
     rw [ej] at hp
     dsimp only [cond_false] at hp
     split at hp
     ·exact body X hX f args h nx p hp
     ·split at hp
      ·exact body X hX f args h nx p hp
      rename_i l r hk'
      obtain ⟨hl,s,h1,h2⟩ := askIt_some hk'
      have h3 := hp
      obtain ⟨a1,a0⟩ := hs X hX _ s r h1 h2
      cases e : Nat.beq 1 r with
      | true =>
       rw [e] at h3
       exact body _ (allZ_true hk hX hl fun a ha => a1 e _ (List.mem_map_of_mem ha)) f args h nx p h3
      | false =>
       rw [e] at h3
       obtain ⟨d,hd,hz⟩ := a0 e
       obtain ⟨a,ha,rfl⟩ := List.mem_map.1 hd
       obtain ⟨X',m1,m2⟩ := splits_true hk hX hl ⟨a,ha,hz⟩
       replace h3 : joinC h nx ((splits l X).map fun X' => bodyC (S.plus X') (callJ S cs M B J n X') f args h nx)=some p := h3
       unfold joinC at h3
       split at h3
       ·rename_i p0 rs hrs
        rw [Option.bind_eq_some_iff] at h3
        obtain ⟨b,hb,h4⟩ := h3
        rw [ifO_some,List.all_eq_true] at h4
        obtain ⟨h5,h6⟩ := h4
        cases h6
        obtain ⟨h',nx',q1,q2,q3⟩ := agree_some (h5 _ (List.mem_map_of_mem m1))
        intro γ w vs hi hA hb hlt hf
        refine (body X' m2 f args h nx _ q1 γ w vs hi hA hb hlt fun b g1 g2 => hf b g1 (Nat.lt_of_lt_of_le g2 q2)).mono ?_
        rintro _ w' ⟨r',γ',rfl,hef,hv,hx⟩
        exact ⟨r',γ',rfl,hef.wide (Nat.le_refl _) q2,hv,fun x hh => hx x (q3 x hh)⟩
       ·cases h3
end
end Cx
namespace Go.Proofs.YtgemmepbdmbmfaaGreatDoor
open Cx Go Go.RowKit
section
variable {N : List Nd} {H : List (Nat × Nat × Nat × Nat)} {K : List (FuncId × List AC)} {L C : List (List Nat × Nat)} {Z : List Nat} {q : Nat→Rat} {σ : Nat→ByteArray} {cl : List FuncId} {cs : List (FuncId × Nat)} {M : Memo} {B : MemoX} {w : World} {J : FuncId} {pr : List (FuncId × Nat)}
theorem zN_val (Y : Hy N H L C Z q σ) : ∀ {d i : Nat},zN (sx Tryz.prog N H K L C Z pr) d i=true→q i=0
 | 0,_,h => by cases h
 | d+1,i,h => by
  unfold zN at h
  rw [Bool.or_eq_true] at h
  rcases h with h | h
  ·split at h
   ·rename_i r hr
    exact (Y.k0 i r hr).1 h
   ·cases h
  ·split at h
   ·rename_i op a ha
    rw [Bool.and_eq_true,Nat.beq_eq] at h
    obtain ⟨rfl,h⟩ := h
    have e := Y.nat i _ ha
    rw [e]
    show -(q a)=0
    rw [zN_val Y h]
    rfl
   ·rename_i op a b ha
    rw [Bool.and_eq_true,Nat.beq_eq,Bool.or_eq_true] at h
    obtain ⟨rfl,h⟩ := h
    have e := Y.nat i _ ha
    rw [e]
    show q a*q b=0
    rcases h with h | h
    ·rw [zN_val Y h,Rat.zero_mul]
    ·rw [zN_val Y h,Rat.mul_zero]
   ·cases h
theorem sameN_val (Y : Hy N H L C Z q σ) {i j : Nat} (h : sameN (sx Tryz.prog N H K L C Z pr) i j=true) : q i=q j := by
 unfold sameN at h
 rw [Bool.or_eq_true] at h
 rcases h with h | h
 ·rw [Nat.beq_eq] at h
  rw [h]
 ·split at h
  ·rename_i op a b ha
   rw [Bool.and_eq_true,Bool.and_eq_true,Nat.beq_eq,Nat.beq_eq] at h
   obtain ⟨rfl,rfl,h⟩ := h
   rw [Y.nat i _ ha]
   show q a+q b=q a
   rw [zN_val Y h,Rat.add_zero]
  ·cases h
theorem run_toldJ' {f : FuncId} {args : List AV} {vs : List Value} (k : Nat) (Y : Hy N H L C Z q σ) (hc : ∀ f ∈ cl,Closed f) (hm : (Tryz.prog).follows .mixedOrders=true) (hp : PreS w) (hM : MemoAll N L C Z q σ cl w M) (hB : MemoXOk (sx Tryz.prog N H K L C Z (prC cl)) (evS q σ) w B) (hr : (callJ (sx Tryz.prog N H K L C Z (prC cl)) cs M B J k [] f args [] 0).map (·.1)=some (kB true))
  (hA : A2 (avOn (cOn (evS q σ) K (fun _ => none) w)) args vs) : Calls Tryz.prog f vs.toArray w fun e w' => Below w.heap.size w w'∧e=.returned (.bool true) := by
 rw [Option.map_eq_some_iff] at hr
 obtain ⟨⟨v,p⟩,h1,h2⟩ := hr
 dsimp only at h2
 subst h2
 have ok := callJ_ok (S := sx Tryz.prog N H K L C Z (prC cl)) (E := evS q σ) (w0 := w) (J := J) (cs := cs) (T := fun X => Hy N (X ++ H) L C Z q σ) (z := fun d => q d=0) hm (hM H K) hB (fun X hX => knows hX) (fun X hX => primOk hX hp hc) ask_true (fun X hX l s r h1 h2 => by
  have e := hX.k0 s r h2
  have g := sqN_val hX h1
  refine ⟨fun h => g.1 (e.1 h),fun h => ?_⟩
  have hn : ¬ ∀ d ∈ l,q d=0 := fun q' => by
   rw [e.2 (g.2 q')] at h
   cases h
  simpa using hn) (fun X hX i j h => sameN_val hX h) k [] Y
 refine (ok f args [] 0 (kB true,p) h1 (fun _ => none) w vs ⟨Below.refl _ _,(fun _ _ h => by cases h)⟩ hA (fun x hx => by cases hx) (fun x hx => by cases hx) (fun _ _ _ => rfl)).mono ?_
 rintro _ w' ⟨r,γ',rfl,hef,hv,_⟩
 exact ⟨hef.wi.bel,by rw [show r=.bool true from (asC_on (v := kB true) (c := .inl (.bool true)) rfl hv).1]⟩
end
end Go.Proofs.YtgemmepbdmbmfaaGreatDoor
/- VY -/
namespace Go.Proofs.YtgemmepbdmbmfaaGreatDoor
open Go.RowKit Cx
theorem den_num (t : Rat) : t*(t.den : Rat)=((t.num : Int) : Rat) := by
 conv => lhs; lhs; rw [← Rat.mkRat_self t]
 have h0 : (t.den : Rat) ≠ 0 := fun h => t.den_nz (by exact_mod_cast h)
 rw [Rat.mkRat_eq_div,Rat.div_mul_cancel h0]
theorem whole {q : Rat} (h : q.den=1) : q=((q.num : Int) : Rat) := by
 have := den_num q
 rw [h] at this
 rw [← this]
 show q=q*((1 : Nat) : Rat)
 exact (Rat.mul_one q).symm
theorem plain_uniq {us : List Rat} {t : Rat} (hU : PlainOk us) (hV : PlainOk (us.map fun u => t*u)) : t=1 := by
 have hb := den_num t
 have key : ∀ u ∈ us,(t*u).num*(t.den : Int)=t.num*u.num := fun u hu => by
  have e1 := whole (hU.den u hu)
  have e2 := whole (hV.den (t*u) (List.mem_map_of_mem (f := fun u => t*u) hu))
  have e3 : (((t*u).num*(t.den : Int) : Int) : Rat)=((t.num*u.num : Int) : Rat) := by
   rw [Rat.intCast_mul,Rat.intCast_mul,← e2,← e1,← hb]
   show t*u*((t.den : Int) : Rat)=t*(t.den : Rat)*u
   have : (((t.den : Nat) : Int) : Rat)=(t.den : Rat) := rfl
   rw [this]
   grind
  exact_mod_cast e3
 have h1 : t.den=1 := by
  have : t.den ∣ gN us := gN_great fun u hu => by
   have hd : (t.den : Int) ∣ t.num*u.num := ⟨(t*u).num,by rw [← key u hu,Int.mul_comm]⟩
   have hd' : t.den ∣ t.num.natAbs*u.num.natAbs := by
    have := Int.natAbs_dvd_natAbs.2 hd
    rwa [Int.natAbs_natCast,Int.natAbs_mul] at this
   exact Nat.Coprime.dvd_of_dvd_mul_left t.reduced.symm hd'
  rw [hU.gcd] at this
  exact Nat.dvd_one.1 this
 have ht := whole h1
 have h2 : t.num.natAbs=1 := by
  have : t.num.natAbs ∣ gN (us.map fun u => t*u) := gN_great fun v hv => by
   obtain ⟨u,hu,rfl⟩ := List.mem_map.1 hv
   have := key u hu
   rw [h1] at this
   refine ⟨u.num.natAbs,?_⟩
   rw [← Int.natAbs_mul,← this]
   simp
  rw [hV.gcd] at this
  exact Nat.dvd_one.1 this
 -- the first that is not 0
 have hne : ∃ (j : Nat) (hj : j < us.length),us[j] ≠ 0∧∀ (i : Nat) (hi : i < us.length),i < j→us[i]=0 := by
  apply Classical.byContradiction
  intro hn
  have all0 : ∀ (n j : Nat) (hj : j < us.length),j < n→us[j]=0 := by
   intro n
   induction n with
   | zero => intro j _ h; omega
   | succ n ih =>
    intro j hj hjn
    apply Classical.byContradiction
    intro h
    exact hn ⟨j,hj,h,fun i hi hij => ih i hi (by omega)⟩
  have h0 : (0 : Nat) ∣ gN us := gN_great fun u hu => by
   obtain ⟨j,hj,rfl⟩ := List.getElem_of_mem hu
   rw [all0 us.length j hj hj]
   decide
  rw [hU.gcd] at h0
  exact absurd (Nat.zero_dvd.1 h0) (by decide)
 obtain ⟨j,hj,hj1,hj2⟩ := hne
 have p1 := hU.sgn j hj hj2 hj1
 have ht0 : t ≠ 0 := fun e => by rw [e] at h2; exact absurd h2 (by decide)
 have p2 := hV.sgn j (by simpa using hj) (fun i hi hij => by
  rw [List.getElem_map,hj2 i (by simpa using hi) hij,Rat.mul_zero]) (by
  rw [List.getElem_map]
  exact fun e => (Rat.mul_eq_zero.1 e).elim ht0 hj1)
 rw [List.getElem_map] at p2
 have hk := key us[j] (List.getElem_mem hj)
 rw [h1] at hk
 have hk' : (t*us[j]).num=t.num*us[j].num := by simpa using hk
 rw [hk'] at p2
 have ht1 : t.num=1 := by
  rcases Int.natAbs_eq t.num with e | e
  ·rw [h2] at e
   exact e
  ·rw [h2] at e
   rw [e] at p2
   omega
 rw [ht,ht1]
 rfl
theorem fac_scale {qs : List Rat} {q0 r : Rat} (h0 : q0 ∈ qs) (hz : q0 ≠ 0) (hr : r ≠ 0) : r*fac (qs.map fun q => r*q)=fac qs := by
 have hf := fac_ne h0 hz
 have hU := plain_fac h0 hz
 have hV := plain_fac (qs := qs.map fun q => r*q) (List.mem_map_of_mem (f := fun q => r*q) h0) (fun e => (Rat.mul_eq_zero.1 e).elim hr hz)
 have he : (qs.map fun q => r*q).map (fun q => q*fac (qs.map fun q => r*q))=(qs.map (fun q => q*fac qs)).map fun u => (r*fac (qs.map fun q => r*q) / fac qs)*u := by
  rw [List.map_map,List.map_map]
  apply List.map_congr_left
  intro q _
  show r*q*fac (qs.map fun q => r*q)=r*fac (qs.map fun q => r*q) / fac qs*(q*fac qs)
  generalize fac (qs.map fun q => r*q)=g
  generalize fac qs=f at *
  have : f*f⁻¹=1 := Rat.mul_inv_cancel f hf
  rw [Rat.div_def]
  grind
 rw [he] at hV
 have := plain_uniq hU hV
 generalize fac (qs.map fun q => r*q)=g at *
 generalize fac qs=f at *
 have h2 : r*g / f*f=r*g := Rat.div_mul_cancel hf
 rw [this] at h2
 grind
theorem fac_two {a b c d : Rat} (h : a*d=b*c) (h1 : ¬ (a=0∧b=0)) (h2 : ¬ (c=0∧d=0)) : a*fac [a,b]=c*fac [c,d]∧b*fac [a,b]=d*fac [c,d] := by
 have key : ∀ r : Rat,r ≠ 0→c=r*a→d=r*b→a*fac [a,b]=c*fac [c,d]∧b*fac [a,b]=d*fac [c,d] := fun r hr e1 e2 => by
  have hs : r*fac [r*a,r*b]=fac [a,b] := by
   by_cases ha : a=0
   ·exact fac_scale (qs := [a,b]) (q0 := b) (by simp) (fun e => h1 ⟨ha,e⟩) hr
   ·exact fac_scale (qs := [a,b]) (q0 := a) (by simp) ha hr
  rw [e1,e2]
  generalize fac [r*a,r*b]=g at *
  rw [← hs]
  constructor <;> grind
 by_cases ha : a=0
 ·have hb : b ≠ 0 := fun e => h1 ⟨ha,e⟩
  have hc : c=0 := by
   rw [ha,Rat.zero_mul] at h
   exact (Rat.mul_eq_zero.1 h.symm).resolve_left hb
  have hd : d ≠ 0 := fun e => h2 ⟨hc,e⟩
  have e : d / b*b=d := Rat.div_mul_cancel hb
  refine key (d / b) (fun q => hd (by rw [← e,q,Rat.zero_mul])) (by rw [hc,ha,Rat.mul_zero]) e.symm
 ·have e : c / a*a=c := Rat.div_mul_cancel ha
  have hd : d=c / a*b := by
   have h3 : a*(d - c / a*b)=0 := by grind
   have := (Rat.mul_eq_zero.1 h3).resolve_left ha
   grind
  refine key (c / a) (fun q => h2 ⟨by rw [← e,q,Rat.zero_mul],by rw [hd,q,Rat.zero_mul]⟩) e.symm hd
theorem mid_far {ax az bx bz cx cz d h k ox oz : Rat} (hd : d ≠ 0) (ed : d=(bx - ax)*(cz - az) - (bz - az)*(cx - ax)) (eh : h=((bx*bx+bz*bz) - (ax*ax+az*az)) / 2) (ek : k=((cx*cx+cz*cz) - (ax*ax+az*az)) / 2) (ex : ox=(h*(cz - az) - k*(bz - az)) / d) (ez : oz=((bx - ax)*k - (cx - ax)*h) / d) :
  (bx - ox)*(bx - ox)+(bz - oz)*(bz - oz)=(ax - ox)*(ax - ox)+(az - oz)*(az - oz)∧(cx - ox)*(cx - ox)+(cz - oz)*(cz - oz)=(ax - ox)*(ax - ox)+(az - oz)*(az - oz) := by
 have e1 : ox*d=h*(cz - az) - k*(bz - az) := by rw [ex]; exact Rat.div_mul_cancel hd
 have e2 : oz*d=(bx - ax)*k - (cx - ax)*h := by rw [ez]; exact Rat.div_mul_cancel hd
 have e3 : h*2=(bx*bx+bz*bz) - (ax*ax+az*az) := by rw [eh]; exact Rat.div_mul_cancel (by decide)
 have e4 : k*2=(cx*cx+cz*cz) - (ax*ax+az*az) := by rw [ek]; exact Rat.div_mul_cancel (by decide)
 clear ex ez eh ek
 have q1 : (h - (ox*(bx - ax)+oz*(bz - az)))*d=0 := by
  have : (h - (ox*(bx - ax)+oz*(bz - az)))*d=h*d - ((ox*d)*(bx - ax)+(oz*d)*(bz - az)) := by grind
  rw [this,e1,e2,ed]
  grind
 have q2 : (k - (ox*(cx - ax)+oz*(cz - az)))*d=0 := by
  have : (k - (ox*(cx - ax)+oz*(cz - az)))*d=k*d - ((ox*d)*(cx - ax)+(oz*d)*(cz - az)) := by grind
  rw [this,e1,e2,ed]
  grind
 have q3 := (Rat.mul_eq_zero.1 q1).resolve_right hd
 have q4 := (Rat.mul_eq_zero.1 q2).resolve_right hd
 clear q1 q2 e1 e2 ed hd
 constructor <;> grind
end Go.Proofs.YtgemmepbdmbmfaaGreatDoor
/- VSZ -/
namespace Go.Proofs.YtgemmepbdmbmfaaGreatDoor
open Go.RowKit Cx
structure QW (z : Nat) (x : Rat) : Prop where
 qs : QS z x
 wh : x.den=1
theorem QW.of {z : Nat} {n : Int} (h : n.natAbs < 2 ^ z) (hz : 0 < z) : QW z ((n : Int) : Rat) :=
 ⟨⟨by simpa using h,by
  show ((n : Int) : Rat).den < 2 ^ z
  rw [Rat.den_intCast]
  exact Nat.one_lt_two_pow (by omega)⟩,Rat.den_intCast n⟩
theorem QW.mono {k l : Nat} {x : Rat} (h : QW k x) (hk : k≤l) : QW l x := ⟨h.qs.mono hk,h.wh⟩
theorem two_max {a b x y : Nat} (h1 : a < 2 ^ x) (h2 : b < 2 ^ y) : a+b < 2 ^ (Nat.max x y+1) := by
 have e1 : 2 ^ x≤2 ^ Nat.max x y := Nat.pow_le_pow_right (by decide) (Nat.le_max_left x y)
 have e2 : 2 ^ y≤2 ^ Nat.max x y := Nat.pow_le_pow_right (by decide) (Nat.le_max_right x y)
 rw [Nat.pow_succ]
 omega
theorem QW.add {x y : Nat} {a b : Rat} (h1 : QW x a) (h2 : QW y b) : QW (Nat.max x y+1) (a+b) := by
 rw [whole h1.wh,whole h2.wh,← Rat.intCast_add]
 refine QW.of ?_ (by omega)
 have := two_max h1.qs.num h2.qs.num
 omega
theorem QW.sub {x y : Nat} {a b : Rat} (h1 : QW x a) (h2 : QW y b) : QW (Nat.max x y+1) (a - b) := by
 rw [whole h1.wh,whole h2.wh,← Rat.intCast_sub]
 refine QW.of ?_ (by omega)
 have := two_max h1.qs.num h2.qs.num
 omega
theorem QW.mul {x y : Nat} {a b : Rat} (h1 : QW x a) (h2 : QW y b) : QW (x+y) (a*b) := by
 refine ⟨h1.qs.mul h2.qs,?_⟩
 rw [whole h1.wh,whole h2.wh,← Rat.intCast_mul]
 exact Rat.den_intCast _
theorem QW.neg {x : Nat} {a : Rat} (h1 : QW x a) : QW x (-a) := ⟨h1.qs.neg,h1.wh⟩
theorem ten_three : ∀ n : Nat,10 ^ n≤2 ^ ((10*n+2) / 3)
 | 0 => by decide
 | 1 => by decide
 | 2 => by decide
 | n+3 => by
  have h := ten_three n
  have e : (10*(n+3)+2) / 3=(10*n+2) / 3+10 := by omega
  rw [e,Nat.pow_add,Nat.pow_add]
  exact Nat.mul_le_mul h (by decide)
theorem QS.rd3 (l : List UInt8) : QS ((10*l.length+2) / 3+5) (Cx.rd l) := by
 have key : ∀ {m : List UInt8},digs m=true→dv m < 2 ^ ((10*m.length+2) / 3) := fun {m} h => Nat.lt_of_lt_of_le (dv_lt (digs_all h)) (ten_three _)
 unfold Cx.rd
 split
 ·rename_i h
  rw [Bool.and_eq_true] at h
  have h1 := key h.1
  have h2 := key h.2
  have h3 := up_len (tailOf l)
  have h4 := low_len (tailOf l)
  have h5 := tail_len l
  apply QS.mkr
  ·rw [sg_abs]; exact Nat.lt_of_lt_of_le h1 (Nat.pow_le_pow_right (by decide) (by omega))
  ·exact Nat.lt_of_lt_of_le h2 (Nat.pow_le_pow_right (by decide) (by omega))
 ·exact QS.zero.mono (by omega)
section
variable {N : List Nd} {Z : List Nat} {I : List Bool} {q : Nat→Rat}
end
end Go.Proofs.YtgemmepbdmbmfaaGreatDoor
/- CFangled -/
namespace Go.Proofs.YtgemmepbdmbmfaaGreatDoor
open Go.RowKit Cx
theorem closed_angled : Closed 93 :=
 closed_told (N := [(0,[0,0,1]),(0,[0,1,1]),(0,[1,1,1]),(5,[1]),(5,[2]),(4,[0,1]),(4,[3,4]),(2,[5,6]),(5,[3]),(4,[0,2]),(4,[8,1]),(3,[9,10]),(8,[0,7,11]),(8,[1,7,11]),(8,[0,12,13]),(8,[1,12,13]),(5,[15]),(4,[1,14]),(4,[0,16]),(2,[17,18]),(5,[0]),(4,[1,15]),(4,[20,14]),(3,[21,22]),(4,[19,14]),(4,[23,16]),(2,[24,25]),(5,[23]),(4,[19,15]),(4,[27,14]),(3,[28,29]),(8,[0,26,30]),(8,[1,26,30]),(3,[1,0]),(3,[0,0]),(5,[34]),(5,[33]),(4,[33,34]),(4,[35,36]),(2,[37,38]),(5,[35]),(4,[33,33]),(4,[40,34]),(3,[41,42]),(8,[0,39,43]),(8,[1,39,43])]) (H := [(0,0,0,1),(0,1,0,0),(0,12,0,0),(0,33,0,0),(0,34,0,1),(4,13,1,1),(4,12,1,1),(4,32,1,1),(4,31,0,1),(3,45,32,1),(3,44,31,1)]) (K := []) (L := [([48],0),([49],1),([],0),([45,49],2)]) (C := [([49],1),([48],0)]) (Z := [2,2,2,2,2,4,4,9,2,4,4,9,28,28,85,85,85,87,87,175,2,87,87,175,260,260,521,175,260,260,521,1564,1564,5,5,5,5,10,10,21,5,10,10,21,64,64]) (cl := []) 6 (fun _ h => by cases h) (by kernel_rfl) (by kernel_rfl) (by kernel_rfl) (by kernel_rfl) (by kernel_rfl) (by kernel_rfl) (by kernel_rfl)
end Go.Proofs.YtgemmepbdmbmfaaGreatDoor
/- VPK -/
namespace Cx
open Go Go.RowKit
def memoOneJ (S : Sx) (cs : List (FuncId × Nat)) (J : FuncId) (k : Nat) : Memo→Bool
 | (f,args,v) :: M => (match callJ S cs M [] J k [] f args [] 0 with
  | some (u,_) => avsB [u] [v]
  | none => false) && (args.all bareV && bareV v)
 | [] => false
end Cx
namespace Go.Proofs.YtgemmepbdmbmfaaGreatDoor
open Cx Go Go.RowKit
section
variable {N : List Nd} {H : List (Nat × Nat × Nat × Nat)} {K : List (FuncId × List AC)} {L C : List (List Nat × Nat)} {Z : List Nat} {q : Nat→Rat} {σ : Nat→ByteArray} {cl : List FuncId} {cs : List (FuncId × Nat)} {M : Memo} {w : World} {J : FuncId}
theorem callJ_told (Y : Hy N H L C Z q σ) (hc : ∀ f ∈ cl,Closed f) (hm : (Tryz.prog).follows .mixedOrders=true) (hp : PreS w) (hM : MemoOk (sx Tryz.prog N H K L C Z (prC cl)) (evS q σ) w M) (k : Nat) : CallOk (sx Tryz.prog N H K L C Z (prC cl)) (evS q σ) w (callJ (sx Tryz.prog N H K L C Z (prC cl)) cs M [] J k []) :=
 callJ_ok (S := sx Tryz.prog N H K L C Z (prC cl)) (E := evS q σ) (w0 := w) (J := J) (cs := cs) (T := fun X => Hy N (X ++ H) L C Z q σ) (z := fun d => q d=0) hm hM memoX_nil (fun X hX => knows hX) (fun X hX => primOk hX hp hc) ask_true (fun X hX l s r h1 h2 => by
  have e := hX.k0 s r h2
  have g := sqN_val hX h1
  refine ⟨fun h => g.1 (e.1 h),fun h => ?_⟩
  have hn : ¬ ∀ d ∈ l,q d=0 := fun q' => by
   rw [e.2 (g.2 q')] at h
   cases h
  simpa using hn) (fun X hX i j h => sameN_val hX h) k [] Y
theorem memoAll_J {H1 : List (Nat × Nat × Nat × Nat)} (Y : Hy N H1 L C Z q σ) (hc : ∀ f ∈ cl,Closed f) (hm : (Tryz.prog).follows .mixedOrders=true) (hp : PreS w) {f : FuncId} {args : List AV} {v : AV} (k : Nat) (hr : memoOneJ (sx Tryz.prog N H1 [] L C Z (prC cl)) cs J k ((f,args,v) :: M)=true) (hM : MemoAll N L C Z q σ cl w M) : MemoAll N L C Z q σ cl w ((f,args,v) :: M) := fun H K => by
 unfold memoOneJ at hr
 simp only [Bool.and_eq_true] at hr
 obtain ⟨h1,h2,h3⟩ := hr
 split at h1
 ·rename_i u p hu
  have e := avsB_eq h1
  cases e
  exact memo_run (S := sx Tryz.prog N H K L C Z (prC cl)) (K1 := []) (H1 := H1) (K2 := K) (H2 := H) (callJ_told (K := []) (cs := cs) (J := J) Y hc hm hp (hM H1 []) k) hu h2 h3 (hM H K)
 ·cases h1
end
end Go.Proofs.YtgemmepbdmbmfaaGreatDoor
/- VSA -/
namespace Go.Proofs.YtgemmepbdmbmfaaGreatDoor
open Go.RowKit Cx
def inB : Nat := 3495259
abbrev Atm := Nat × Nat
def remA (x : Atm) : List Atm→Option (List Atm)
 | [] => none
 | y :: l => bif Nat.beq x.1 y.1 && Nat.beq x.2 y.2 then some l else (remA x l).map (y :: ·)
def subA : List Atm→List Atm→Option (List Atm)
 | l,[] => some l
 | l,x :: r => (remA x l).bind fun l' => subA l' r
def leftA : List Atm→List Atm→List Atm
 | _,[] => []
 | U,x :: D => match remA x U with
  | some U' => leftA U' D
  | none => x :: leftA U D
def uniA (E : List (Nat × List Atm)) : List Nat→List Atm→List Atm
 | [],U => U
 | a :: l,U => uniA E l (match E[a]? with
  | some p => U ++ leftA U p.2
  | none => U)
def bitA (E : List (Nat × List Atm)) (x : Atm) : Nat := match x.1 with
 | 0 => inB
 | 1 => (match E[x.2]? with
  | some p => p.1
  | none => 1)
 | _ => Nat.log2 x.2+1
def bitL (E : List (Nat × List Atm)) : List Atm→Nat
 | [] => 1
 | x :: l => bitA E x+bitL E l
def noneA (l : Option (List Atm)) : Bool := match l with
 | some [] => true
 | _ => false
def saN (E : List (Nat × List Atm)) (k z : Nat) (D : List Atm) (nd : Nd) : Bool := (Nat.blt 0 z && D.all fun x => !Nat.beq x.1 1 || Nat.blt x.2 k) && match nd.1,nd.2 with
 | 0,[_,n,d] => (Nat.blt n (2 ^ z) && Nat.blt 0 d) && noneA (subA D (bif Nat.beq d 1 then [] else [(2,d)]))
 | 1,[j] => Nat.ble inB z && noneA (subA D [(0,j)])
 | 2,[a,b] => (match E[a]?,E[b]? with
  | some p,some r => (match subA D p.2,subA D r.2 with
   | some c,some e => Nat.ble (Nat.max (p.1+bitL E c) (r.1+bitL E e)+1) z
   | _,_ => false)
  | _,_ => false)
 | 3,[a,b] => (match E[a]?,E[b]? with
  | some p,some r => (match subA D p.2,subA D r.2 with
   | some c,some e => Nat.ble (Nat.max (p.1+bitL E c) (r.1+bitL E e)+1) z
   | _,_ => false)
  | _,_ => false)
 | 4,[a,b] => (match E[a]?,E[b]? with
  | some p,some r => (match subA D p.2 with
   | some c => noneA (subA c r.2) && Nat.ble (p.1+r.1) z
   | _ => false)
  | _,_ => false)
 | 5,[a] => (match E[a]? with
  | some p => noneA (subA D p.2) && Nat.ble p.1 z
  | _ => false)
 | 6,[a,b] => (match E[a]?,E[b]?,remA (1,b) D with
  | some p,some r,some D' => (match subA p.2 D' with
   | some c => (match subA r.2 c with
    | some e => Nat.ble (p.1+bitL E e) z
    | none => false)
   | none => false)
  | _,_,_ => false)
 | 8,i :: xs => Nat.beq D.length 0 && (xs.all (fun a => match E[a]? with
   | some p => (subA (uniA E xs []) p.2).isSome
   | none => false) && (match xs[i]? with
   | some a => (match E[a]? with
    | some p => (match subA (uniA E xs []) p.2 with
     | some e => Nat.ble (p.1+bitL E e) z
     | none => false)
    | none => false)
   | none => false))
 | _,_ => false
def saB (E : List (Nat × List Atm)) : Nat→List Nd→List (Nat × List Atm)→List Nat→Bool
 | _,[],[],[] => true
 | k,nd :: ns,p :: ps,z :: zs => (saN E k p.1 p.2 nd && (Nat.ble p.1 z && (Nat.ble (bitL E p.2) z && Nat.ble z 1000000000000))) && saB E (k+1) ns ps zs
 | _,_,_,_ => false
theorem saB_get {E : List (Nat × List Atm)} : ∀ {ns : List Nd} {ps : List (Nat × List Atm)} {zs : List Nat} {k i : Nat} {nd : Nd},saB E k ns ps zs=true→ns[i]? = some nd→∃ p z,ps[i]? = some p∧zs[i]? = some z∧saN E (k+i) p.1 p.2 nd=true∧p.1≤z∧bitL E p.2≤z∧z≤1000000000000
 | [],_,_,_,_,_,_,h => by simp at h
 | _ :: _,[],_,_,_,_,h,_ => by cases h
 | _ :: _,_ :: _,[],_,_,_,h,_ => by cases h
 | nd' :: ns,p :: ps,z :: zs,k,0,nd,h,e => by
  have : nd'=nd := by simpa using e
  subst this
  unfold saB at h
  simp only [Bool.and_eq_true,Nat.ble_eq] at h
  exact ⟨p,z,rfl,rfl,h.1.1,h.1.2.1,h.1.2.2.1,h.1.2.2.2⟩
 | nd' :: ns,p :: ps,z :: zs,k,i+1,nd,h,e => by
  unfold saB at h
  rw [Bool.and_eq_true] at h
  obtain ⟨p',z',g1,g2,g3,g4⟩ := saB_get (k := k+1) (i := i) h.2 (by simpa using e)
  exact ⟨p',z',by simpa using g1,by simpa using g2,by rw [show k+(i+1)=k+1+i by omega]; exact g3,g4⟩
theorem saB_len {E : List (Nat × List Atm)} : ∀ {ns : List Nd} {ps : List (Nat × List Atm)} {zs : List Nat} {k : Nat},saB E k ns ps zs=true→ns.length=ps.length∧ns.length=zs.length
 | [],[],[],_,_ => ⟨rfl,rfl⟩
 | [],[],_ :: _,_,h => by cases h
 | [],_ :: _,_,_,h => by cases h
 | _ :: _,[],_,_,h => by cases h
 | _ :: _,_ :: _,[],_,h => by cases h
 | _ :: _,_ :: _,_ :: _,k,h => by
  unfold saB at h
  rw [Bool.and_eq_true] at h
  have := saB_len h.2
  exact ⟨congrArg (· + 1) this.1,congrArg (· + 1) this.2⟩
def valA (dn : Nat→Nat) (M : Nat→Rat) (x : Atm) : Rat := match x.1 with
 | 0 => ((dn x.2 : Nat) : Rat)
 | 1 => if M x.2=0 then 1 else M x.2
 | _ => if x.2=0 then 1 else ((x.2 : Nat) : Rat)
def proA (dn : Nat→Nat) (M : Nat→Rat) : List Atm→Rat
 | [] => 1
 | x :: l => valA dn M x*proA dn M l
theorem remA_pro {dn : Nat→Nat} {M : Nat→Rat} {x : Atm} : ∀ {l c : List Atm},remA x l=some c→proA dn M l=valA dn M x*proA dn M c
 | [],_,h => by cases h
 | y :: l,c,h => by
  unfold remA at h
  cases e : (Nat.beq x.1 y.1 && Nat.beq x.2 y.2) with
  | true =>
   rw [e] at h
   cases h
   rw [Bool.and_eq_true,Nat.beq_eq,Nat.beq_eq] at e
   have : x=y := Prod.ext e.1 e.2
   rw [this]
   rfl
  | false =>
   rw [e] at h
   simp only [cond_false,Option.map_eq_some_iff] at h
   obtain ⟨c',h1,rfl⟩ := h
   show valA dn M y*proA dn M l=valA dn M x*(valA dn M y*proA dn M c')
   rw [remA_pro h1]
   grind
theorem subA_pro {dn : Nat→Nat} {M : Nat→Rat} : ∀ {r l c : List Atm},subA l r=some c→proA dn M l=proA dn M r*proA dn M c
 | [],l,c,h => by
  have : l=c := by simpa [subA] using h
  rw [this]
  exact (Rat.one_mul _).symm
 | x :: r,l,c,h => by
  unfold subA at h
  rw [Option.bind_eq_some_iff] at h
  obtain ⟨l',h1,h2⟩ := h
  rw [remA_pro h1,subA_pro h2]
  exact (Rat.mul_assoc _ _ _).symm
theorem noneA_some {l : Option (List Atm)} (h : noneA l=true) : l=some [] := by
 unfold noneA at h
 split at h
 ·rfl
 ·cases h
theorem QW.one {z : Nat} (h : 0 < z) : QW z 1 := ⟨⟨by
  show (1 : Int).natAbs < 2 ^ z
  exact Nat.one_lt_two_pow (by omega),by
  show 1 < 2 ^ z
  exact Nat.one_lt_two_pow (by omega)⟩,rfl⟩
theorem QW.zero {z : Nat} (h : 0 < z) : QW z 0 := ⟨⟨by
  show (0 : Int).natAbs < 2 ^ z
  exact Nat.two_pow_pos z,by
  show 1 < 2 ^ z
  exact Nat.one_lt_two_pow (by omega)⟩,rfl⟩
theorem QW.nat {z n : Nat} (h : n < 2 ^ z) (hz : 0 < z) : QW z ((n : Nat) : Rat) := by
 have : ((n : Nat) : Rat)=(((n : Nat) : Int) : Rat) := (Rat.intCast_natCast n).symm
 rw [this]
 exact QW.of (by simpa using h) hz
section
variable {E : List (Nat × List Atm)} {dn : Nat→Nat} {M : Nat→Rat} {k : Nat}
def BelA (E : List (Nat × List Atm)) (dn : Nat→Nat) (M : Nat→Rat) (q : Nat→Rat) (k : Nat) : Prop := ∀ a,a < k→∃ p,E[a]? = some p∧QW p.1 (M a)∧0 < p.1∧(∀ x ∈ p.2,x.1=1→x.2 < a)∧q a*proA dn M p.2=M a
theorem valA_ok {q : Nat→Rat} (hdn : ∀ j,0 < dn j∧dn j < 2 ^ inB) (hM : BelA E dn M q k) {x : Atm} (hx : x.1=1→x.2 < k) : QW (bitA E x) (valA dn M x)∧valA dn M x ≠ 0 := by
 obtain ⟨i,j⟩ := x
 match i with
 | 0 =>
  show QW inB ((dn j : Nat) : Rat)∧((dn j : Nat) : Rat) ≠ 0
  refine ⟨QW.nat (hdn j).2 (by unfold inB; omega),fun h => ?_⟩
  have := (hdn j).1
  have h2 : dn j=0 := by exact_mod_cast h
  omega
 | 1 =>
  obtain ⟨p,h1,h2,h3,_⟩ := hM j (hx rfl)
  show QW (match E[j]? with
   | some p => p.1
   | none => 1) (if M j=0 then 1 else M j)∧(if M j=0 then 1 else M j) ≠ 0
  rw [h1]
  by_cases h : M j=0
  ·rw [if_pos h]
   exact ⟨QW.one h3,by decide⟩
  ·rw [if_neg h]
   exact ⟨h2,h⟩
 | i+2 =>
  show QW (Nat.log2 j+1) (if j=0 then 1 else ((j : Nat) : Rat))∧(if j=0 then 1 else ((j : Nat) : Rat)) ≠ 0
  by_cases h : j=0
  ·rw [if_pos h]
   exact ⟨QW.one (by omega),by decide⟩
  ·rw [if_neg h]
   refine ⟨QW.nat Nat.lt_log2_self (by omega),fun h2 => h ?_⟩
   exact_mod_cast h2
theorem proA_ok {q : Nat→Rat} (hdn : ∀ j,0 < dn j∧dn j < 2 ^ inB) (hM : BelA E dn M q k) : ∀ {l : List Atm},(∀ x ∈ l,x.1=1→x.2 < k)→QW (bitL E l) (proA dn M l)∧proA dn M l ≠ 0
 | [],_ => ⟨QW.one (show 0 < 1 by decide),by show (1 : Rat) ≠ 0; decide⟩
 | x :: l,h => by
  have h1 := valA_ok hdn hM (h x List.mem_cons_self)
  have h2 := proA_ok hdn hM (l := l) fun y hy => h y (List.mem_cons_of_mem _ hy)
  exact ⟨h1.1.mul h2.1,mul_ne h1.2 h2.2⟩
theorem proA_congr {M' : Nat→Rat} : ∀ {l : List Atm},(∀ x ∈ l,x.1=1→M x.2=M' x.2)→proA dn M l=proA dn M' l
 | [],_ => rfl
 | x :: l,h => by
  show valA dn M x*proA dn M l=valA dn M' x*proA dn M' l
  rw [proA_congr (l := l) fun y hy => h y (List.mem_cons_of_mem _ hy)]
  have e : valA dn M x=valA dn M' x := by
   obtain ⟨i,j⟩ := x
   match i with
   | 0 => rfl
   | 1 =>
    have := h (1,j) List.mem_cons_self rfl
    show (if M j=0 then 1 else M j)=(if M' j=0 then 1 else M' j)
    rw [this]
   | i+2 => rfl
  rw [e]
theorem remA_mem {x y : Atm} : ∀ {l c : List Atm},remA x l=some c→y ∈ c→y ∈ l
 | [],_,h,_ => by cases h
 | z :: l,c,h,hy => by
  unfold remA at h
  cases e : (Nat.beq x.1 z.1 && Nat.beq x.2 z.2) with
  | true => rw [e] at h; cases h; exact List.mem_cons_of_mem _ hy
  | false =>
   rw [e] at h
   simp only [cond_false,Option.map_eq_some_iff] at h
   obtain ⟨c',h1,rfl⟩ := h
   rcases List.mem_cons.1 hy with rfl | hy
   ·exact List.mem_cons_self
   ·exact List.mem_cons_of_mem _ (remA_mem h1 hy)
theorem subA_mem {y : Atm} : ∀ {r l c : List Atm},subA l r=some c→y ∈ c→y ∈ l
 | [],l,c,h,hy => by
  have : l=c := by simpa [subA] using h
  rw [this]; exact hy
 | x :: r,l,c,h,hy => by
  unfold subA at h
  rw [Option.bind_eq_some_iff] at h
  obtain ⟨l',h1,h2⟩ := h
  exact remA_mem h1 (subA_mem h2 hy)
theorem nat_ne {n : Nat} (h : n ≠ 0) : ((n : Nat) : Rat) ≠ 0 := fun e => h (by exact_mod_cast e)
theorem mul_low (x : Rat) : x*((x.den : Nat) : Rat)=((x.num : Int) : Rat) := by
 have e : x=((x.num : Int) : Rat) / ((x.den : Nat) : Rat) := by
  have := Rat.mkRat_self x
  rw [Rat.mkRat_eq_div] at this
  exact this.symm
 conv => lhs; lhs; rw [e]
 exact Rat.div_mul_cancel (nat_ne x.den_nz)
theorem lD_dvd_of {qs : List Rat} {m M : Nat} (hm : m ∣ M) (h : ∀ q ∈ qs,q.den ∣ M) : qs.foldl (fun m q => m*(q.den / Nat.gcd m q.den)) m ∣ M := by
 induction qs generalizing m with
 | nil => exact hm
 | cons q qs ih =>
  rw [List.foldl_cons]
  refine ih ?_ fun p hp => h p (List.mem_cons_of_mem _ hp)
  have e : m*(q.den / Nat.gcd m q.den)=Nat.lcm m q.den := by
   unfold Nat.lcm
   exact (Nat.mul_div_assoc _ (Nat.gcd_dvd_right _ _)).symm
  rw [e]
  exact Nat.lcm_dvd hm (h q List.mem_cons_self)
theorem den_dvd {x : Rat} {m : Int} (h : (x*((m : Int) : Rat)).den=1) : x.den ∣ m.natAbs := by
 have e := whole h
 generalize (x*((m : Int) : Rat)).num=n at e
 have h1 : x*((x.den : Nat) : Rat)=((x.num : Int) : Rat) := mul_low x
 have h2 : ((x.num : Int) : Rat)*((m : Int) : Rat)=((n : Int) : Rat)*(((x.den : Nat) : Int) : Rat) := by
  rw [← h1,← e,Rat.intCast_natCast]
  grind
 have h3 : x.num*m=n*(x.den : Int) := by exact_mod_cast h2
 have h4 : (x.den : Int) ∣ x.num*m := ⟨n,by rw [h3,Int.mul_comm]⟩
 have h5 : x.den ∣ x.num.natAbs*m.natAbs := by
  have := Int.natAbs_dvd_natAbs.2 h4
  rwa [Int.natAbs_mul,Int.natAbs_natCast] at this
 exact (Nat.Coprime.symm x.reduced).dvd_of_dvd_mul_left h5
theorem fac_whole {qs : List Rat} {x : Rat} {z : Nat} {m : Int} (hx : x ∈ qs) (hm : m ≠ 0) (hall : ∀ y ∈ qs,(y*((m : Int) : Rat)).den=1) (hz : QW z (x*((m : Int) : Rat))) : QW z (x*fac qs) := by
 have hl : lD qs ∣ m.natAbs := lD_dvd_of (Nat.one_dvd _) fun y hy => den_dvd (hall y hy)
 have hd := fac_den hx
 have hpos : 0 < m.natAbs := Int.natAbs_pos.2 hm
 have hle : lD qs≤m.natAbs := Nat.le_of_dvd hpos hl
 have hn : (x*fac qs).num.natAbs≤(x*((m : Int) : Rat)).num.natAbs := by
  rw [fac_abs hx]
  have e := whole hz.wh
  generalize (x*((m : Int) : Rat)).num=n at e
  have h1 : x*((x.den : Nat) : Rat)=((x.num : Int) : Rat) := mul_low x
  have h2 : ((x.num : Int) : Rat)*((m : Int) : Rat)=((n : Int) : Rat)*(((x.den : Nat) : Int) : Rat) := by
   rw [← h1,← e,Rat.intCast_natCast]
   grind
  have h3 : x.num*m=n*(x.den : Int) := by exact_mod_cast h2
  have h4 : x.num.natAbs*m.natAbs=n.natAbs*x.den := by
   have := congrArg Int.natAbs h3
   rwa [Int.natAbs_mul,Int.natAbs_mul,Int.natAbs_natCast] at this
  obtain ⟨c,hc⟩ := den_dvd (x := x) (m := m) (hall x hx)
  have h5 : n.natAbs=x.num.natAbs*c := by
   rw [hc] at h4
   refine Nat.eq_of_mul_eq_mul_right x.den_pos ?_
   rw [← h4]
   rw [Nat.mul_assoc,Nat.mul_comm c]
  show x.num.natAbs / gN qs*(lD qs / x.den)≤n.natAbs
  rw [h5]
  refine Nat.mul_le_mul (Nat.div_le_self _ _) ?_
  have : lD qs / x.den≤m.natAbs / x.den := Nat.div_le_div_right hle
  rw [hc,Nat.mul_div_cancel_left _ x.den_pos] at this
  exact this
 refine ⟨⟨Nat.lt_of_le_of_lt hn hz.qs.num,?_⟩,hd⟩
 rw [hd]
 have := hz.qs.den
 rw [hz.wh] at this
 exact this
theorem leftA_mem {y : Atm} : ∀ {D U : List Atm},y ∈ leftA U D→y ∈ D
 | [],_,h => by cases h
 | x :: D,U,h => by
  unfold leftA at h
  split at h
  ·exact List.mem_cons_of_mem _ (leftA_mem h)
  ·rcases List.mem_cons.1 h with rfl | h
   ·exact List.mem_cons_self
   ·exact List.mem_cons_of_mem _ (leftA_mem h)
theorem uniA_low {q : Nat→Rat} (hM : BelA E dn M q k) : ∀ {l : List Nat} {U : List Atm},(∀ c ∈ l,c < k)→(∀ x ∈ U,x.1=1→x.2 < k)→∀ x ∈ uniA E l U,x.1=1→x.2 < k
 | [],_,_,hU => hU
 | a :: l,U,hl,hU => by
  unfold uniA
  refine uniA_low hM (fun c hc => hl c (List.mem_cons_of_mem _ hc)) ?_
  have ha := hl a List.mem_cons_self
  obtain ⟨p,h1,_,_,h4,_⟩ := hM a ha
  rw [h1]
  intro x hx h
  rcases List.mem_append.1 hx with hx | hx
  ·exact hU x hx h
  ·exact Nat.lt_trans (h4 x (leftA_mem hx) h) ha
theorem node_ok {q : Nat→Rat} {σ : Nat→ByteArray} (hσ : ∀ j,(σ j).size≤1048576) (hdn : ∀ j,dn j=(Cx.rd (σ j).data.toList).den) (hM : BelA E dn M q k) {z : Nat} {D : List Atm} {nd : Nd} (hwf : wfN k nd=true) (hs : saN E k z D nd=true) : QW z (valN σ q nd*proA dn M D)∧0 < z∧∀ x ∈ D,x.1=1→x.2 < k := by
 have hdn' : ∀ j,0 < dn j∧dn j < 2 ^ inB := fun j => by
  rw [hdn j]
  refine ⟨Rat.den_pos _,Nat.lt_of_lt_of_le (QS.rd3 _).den (Nat.pow_le_pow_right (by decide) ?_)⟩
  have := hσ j
  rw [str_len]
  unfold inB
  omega
 obtain ⟨op,xs⟩ := nd
 unfold saN at hs
 rw [Bool.and_eq_true,Bool.and_eq_true] at hs
 obtain ⟨⟨hz0,hD⟩,hs⟩ := hs
 have hz : 0 < z := by simpa [Nat.blt_eq] using hz0
 have hD' : ∀ x ∈ D,x.1=1→x.2 < k := fun x hx h1 => by
  rw [List.all_eq_true] at hD
  have := hD x hx
  rw [h1] at this
  simpa [Nat.blt_eq] using this
 refine ⟨?_,hz,hD'⟩
 have hlow : ∀ {a : Nat} {p : Nat × List Atm},a < k→E[a]? = some p→QW p.1 (M a)∧(∀ x ∈ p.2,x.1=1→x.2 < k)∧q a*proA dn M p.2=M a := fun {a p} ha hp => by
  obtain ⟨p',h1,h2,_,h4,h5⟩ := hM a ha
  rw [hp] at h1
  cases h1
  exact ⟨h2,fun x hx h => Nat.lt_trans (h4 x hx h) ha,h5⟩
 have hpr : ∀ {l : List Atm},(∀ x ∈ l,x.1=1→x.2 < k)→QW (bitL E l) (proA dn M l)∧proA dn M l ≠ 0 := fun h => proA_ok hdn' hM h
 unfold wfN at hwf
 unfold valN
 dsimp only at hs hwf ⊢
 split at hs
 ·rename_i s n d
  simp only [Bool.and_eq_true] at hs
  obtain ⟨⟨h1,h2⟩,h3⟩ := hs
  have h1' : n < 2 ^ z := by simpa [Nat.blt_eq] using h1
  have h2' : d ≠ 0 := by
   have : 0 < d := by simpa [Nat.blt_eq] using h2
   omega
  have hp : proA dn M D=((d : Nat) : Rat) := by
   have := subA_pro (dn := dn) (M := M) (noneA_some h3)
   rw [this]
   cases e : Nat.beq d 1 with
   | true =>
    rw [Nat.beq_eq] at e
    rw [e]
    show (1 : Rat)*1=((1 : Nat) : Rat)
    rw [Rat.mul_one]
    exact_mod_cast rfl
   | false =>
    show (if d=0 then (1 : Rat) else ((d : Nat) : Rat))*1*1=_
    rw [if_neg h2',Rat.mul_one,Rat.mul_one]
  show QW z ((if s=0 then mkRat (n : Int) d else mkRat (-(n : Int)) d)*proA dn M D)
  rw [hp]
  have key : ∀ m : Int,m.natAbs < 2 ^ z→QW z (mkRat m d*((d : Nat) : Rat)) := fun m hm => by
   rw [Rat.mkRat_eq_div,Rat.div_mul_cancel (nat_ne h2')]
   exact QW.of hm hz
  by_cases hs0 : s=0
  ·rw [if_pos hs0]
   exact key _ (by simpa using h1')
  ·rw [if_neg hs0]
   exact key _ (by simpa using h1')
 ·rename_i j
  simp only [Bool.and_eq_true,Nat.ble_eq] at hs
  have hp : proA dn M D=(((Cx.rd (σ j).data.toList).den : Nat) : Rat) := by
   rw [subA_pro (dn := dn) (M := M) (noneA_some hs.2)]
   show ((dn j : Nat) : Rat)*1*1=_
   rw [Rat.mul_one,Rat.mul_one,hdn j]
  show QW z (Cx.rd (σ j).data.toList*proA dn M D)
  rw [hp,mul_low]
  refine QW.of (Nat.lt_of_lt_of_le (QS.rd3 _).num (Nat.pow_le_pow_right (by decide) ?_)) hz
  have := hσ j
  have := hs.1
  unfold inB at this
  rw [str_len]
  omega
 ·simp only [List.all_cons,List.all_nil,Bool.and_true,Bool.and_eq_true] at hwf
  rename_i a b
  have l1 : a < k := by simpa [Nat.blt_eq] using hwf.1
  have l2 : b < k := by simpa [Nat.blt_eq] using hwf.2
  split at hs
  ·rename_i p r hp hr
   split at hs
   ·rename_i c e hc he
    rw [Nat.ble_eq] at hs
    obtain ⟨a1,a2,a3⟩ := hlow l1 hp
    obtain ⟨b1,b2,b3⟩ := hlow l2 hr
    have hc' := hpr (l := c) fun x hx => hD' x (subA_mem hc hx)
    have he' := hpr (l := e) fun x hx => hD' x (subA_mem he hx)
    have e1 : (q a+q b)*proA dn M D=M a*proA dn M c+M b*proA dn M e := by
     rw [Rat.add_mul]
     congr 1
     ·rw [subA_pro hc,← Rat.mul_assoc,a3]
     ·rw [subA_pro he,← Rat.mul_assoc,b3]
    show QW z ((q a+q b)*proA dn M D)
    rw [e1]
    exact ((a1.mul hc'.1).add (b1.mul he'.1)).mono hs
   ·cases hs
  ·cases hs
 ·simp only [List.all_cons,List.all_nil,Bool.and_true,Bool.and_eq_true] at hwf
  rename_i a b
  have l1 : a < k := by simpa [Nat.blt_eq] using hwf.1
  have l2 : b < k := by simpa [Nat.blt_eq] using hwf.2
  split at hs
  ·rename_i p r hp hr
   split at hs
   ·rename_i c e hc he
    rw [Nat.ble_eq] at hs
    obtain ⟨a1,a2,a3⟩ := hlow l1 hp
    obtain ⟨b1,b2,b3⟩ := hlow l2 hr
    have hc' := hpr (l := c) fun x hx => hD' x (subA_mem hc hx)
    have he' := hpr (l := e) fun x hx => hD' x (subA_mem he hx)
    have e1 : (q a - q b)*proA dn M D=M a*proA dn M c - M b*proA dn M e := by
     rw [show (q a - q b)*proA dn M D=q a*proA dn M D - q b*proA dn M D by grind]
     congr 1
     ·rw [subA_pro hc,← Rat.mul_assoc,a3]
     ·rw [subA_pro he,← Rat.mul_assoc,b3]
    show QW z ((q a - q b)*proA dn M D)
    rw [e1]
    exact ((a1.mul hc'.1).sub (b1.mul he'.1)).mono hs
   ·cases hs
  ·cases hs
 ·simp only [List.all_cons,List.all_nil,Bool.and_true,Bool.and_eq_true] at hwf
  rename_i a b
  have l1 : a < k := by simpa [Nat.blt_eq] using hwf.1
  have l2 : b < k := by simpa [Nat.blt_eq] using hwf.2
  split at hs
  ·rename_i p r hp hr
   split at hs
   ·rename_i c hc
    rw [Bool.and_eq_true,Nat.ble_eq] at hs
    obtain ⟨a1,a2,a3⟩ := hlow l1 hp
    obtain ⟨b1,b2,b3⟩ := hlow l2 hr
    have e1 : q a*q b*proA dn M D=M a*M b := by
     rw [subA_pro hc,subA_pro (noneA_some hs.1),← a3,← b3]
     show q a*q b*(proA dn M p.2*(proA dn M r.2*1))=_
     grind
    show QW z (q a*q b*proA dn M D)
    rw [e1]
    exact (a1.mul b1).mono hs.2
   ·cases hs
  ·cases hs
 ·simp only [List.all_cons,List.all_nil,Bool.and_true] at hwf
  rename_i a
  have l1 : a < k := by simpa [Nat.blt_eq] using hwf
  split at hs
  ·rename_i p hp
   rw [Bool.and_eq_true,Nat.ble_eq] at hs
   obtain ⟨a1,a2,a3⟩ := hlow l1 hp
   have e1 : -q a*proA dn M D=-M a := by
    rw [subA_pro (noneA_some hs.1),← a3]
    show -q a*(proA dn M p.2*1)=_
    grind
   show QW z (-q a*proA dn M D)
   rw [e1]
   exact a1.neg.mono hs.2
  ·cases hs
 ·simp only [List.all_cons,List.all_nil,Bool.and_true,Bool.and_eq_true] at hwf
  rename_i a b
  have l1 : a < k := by simpa [Nat.blt_eq] using hwf.1
  have l2 : b < k := by simpa [Nat.blt_eq] using hwf.2
  split at hs
  ·rename_i p r D' hp hr hD1
   split at hs
   ·rename_i c hc
    split at hs
    ·rename_i e he
     rw [Nat.ble_eq] at hs
     obtain ⟨a1,a2,a3⟩ := hlow l1 hp
     obtain ⟨b1,b2,b3⟩ := hlow l2 hr
     have he' := hpr (l := e) fun x hx => b2 x (subA_mem he hx)
     by_cases h0 : M b=0
     ·have hb : q b=0 := by
       rw [h0] at b3
       exact (Rat.mul_eq_zero.1 b3).resolve_right (hpr b2).2
      show QW z (q a / q b*proA dn M D)
      rw [hb,Rat.div_def,Rat.inv_zero,Rat.mul_zero,Rat.zero_mul]
      exact QW.zero hz
     ·have hb : q b ≠ 0 := fun h => h0 (by rw [← b3,h,Rat.zero_mul])
      have e1 : q a / q b*proA dn M D=M a*proA dn M e := by
       have e2 : proA dn M D=M b*proA dn M D' := by
        rw [remA_pro hD1]
        show (if M b=0 then (1 : Rat) else M b)*_=_
        rw [if_neg h0]
       have e3 : q a / q b*q b=q a := Rat.div_mul_cancel hb
       rw [e2,← a3,← b3,subA_pro hc,subA_pro he]
       generalize q a / q b=t at e3
       rw [← e3]
       grind
      show QW z (q a / q b*proA dn M D)
      rw [e1]
      exact (a1.mul he'.1).mono hs
    ·cases hs
   ·cases hs
  ·cases hs
 ·rename_i i ys
  rw [Bool.and_eq_true,Bool.and_eq_true,List.all_eq_true] at hs
  obtain ⟨h1,h2,h3⟩ := hs
  have hD0 : D=[] := by
   rw [Nat.beq_eq] at h1
   exact List.length_eq_zero_iff.1 h1
  have hwf' : ys.all (Nat.blt · k)=true := hwf
  rw [List.all_eq_true] at hwf'
  have hlt : ∀ c ∈ ys,c < k := fun c hc => by simpa [Nat.blt_eq] using hwf' c hc
  split at h3
  ·rename_i a ha
   split at h3
   ·rename_i p hp
    split at h3
    ·rename_i e he
     rw [Nat.ble_eq] at h3
     obtain ⟨hi,ha'⟩ := List.getElem?_eq_some_iff.1 ha
     have hmem : a ∈ ys := List.mem_of_getElem? ha
     have hg : (ys.map q).getD i 0=q a := by
      rw [List.getD_eq_getElem?_getD,List.getElem?_map,ha]
      rfl
     show QW z ((ys.map q).getD i 0*fac (ys.map q)*proA dn M D)
     rw [hg,hD0]
     show QW z (q a*fac (ys.map q)*1)
     rw [Rat.mul_one]
     -- what makes all of them whole
     have hU : ∀ x ∈ uniA E ys [],x.1=1→x.2 < k := uniA_low hM hlt (fun x hx => by cases hx)
     have hUp := hpr hU
     have hw := whole hUp.1.wh
     generalize hm : (proA dn M (uniA E ys [])).num=m at hw
     have hm0 : m ≠ 0 := fun h => hUp.2 (by rw [hw,h]; rfl)
     have hall : ∀ y ∈ ys.map q,(y*((m : Int) : Rat)).den=1 := fun y hy => by
      obtain ⟨c,hc,rfl⟩ := List.mem_map.1 hy
      have h4 := h2 c hc
      split at h4
      ·rename_i r hr
       obtain ⟨c1,c2,c3⟩ := hlow (hlt c hc) hr
       cases hs2 : subA (uniA E ys []) r.2 with
       | none => rw [hs2] at h4; cases h4
       | some f =>
        have hf := hpr (l := f) fun x hx => hU x (subA_mem hs2 hx)
        rw [← hw,subA_pro hs2,← Rat.mul_assoc,c3]
        exact (c1.mul hf.1).wh
      ·cases h4
     obtain ⟨a1,a2,a3⟩ := hlow (hlt a hmem) hp
     have he' := hpr (l := e) fun x hx => hU x (subA_mem he hx)
     refine fac_whole (List.mem_map_of_mem hmem) hm0 hall ?_
     rw [← hw,subA_pro he,← Rat.mul_assoc,a3]
     exact (a1.mul he'.1).mono h3
    ·cases h3
   ·cases h3
  ·cases h3
 ·cases hs
end
theorem QS_over {x m p : Rat} {z y K : Nat} (hm : QW z m) (hp : QW y p) (h0 : p ≠ 0) (e : x*p=m) (hz : z≤K) (hy : y≤K) : QS K x := by
 have hw := whole hp.wh
 generalize p.num=P at hw
 have hP : P ≠ 0 := fun h => h0 (by rw [hw,h]; rfl)
 have hpos : 0 < P.natAbs := Int.natAbs_pos.2 hP
 have hd : x.den ∣ P.natAbs := den_dvd (x := x) (m := P) (by rw [← hw,e]; exact hm.wh)
 have hdle : x.den≤P.natAbs := Nat.le_of_dvd hpos hd
 have hPlt : P.natAbs < 2 ^ y := by
  have := hp.qs.num
  rw [hw,Rat.num_intCast] at this
  exact this
 have hmw := whole hm.wh
 have hmlt := hm.qs.num
 generalize m.num=n at hmw hmlt
 have h1 : x*((x.den : Nat) : Rat)=((x.num : Int) : Rat) := mul_low x
 have h2 : ((x.num : Int) : Rat)*((P : Int) : Rat)=((n : Int) : Rat)*(((x.den : Nat) : Int) : Rat) := by
  rw [← h1,← hw,← hmw,← e,Rat.intCast_natCast]
  grind
 have h3 : x.num*P=n*(x.den : Int) := by exact_mod_cast h2
 have h4 : x.num.natAbs*P.natAbs=n.natAbs*x.den := by
  have := congrArg Int.natAbs h3
  rwa [Int.natAbs_mul,Int.natAbs_mul,Int.natAbs_natCast] at this
 have h5 : x.num.natAbs≤n.natAbs := by
  refine Nat.le_of_mul_le_mul_right (c := P.natAbs) ?_ hpos
  rw [h4]
  exact Nat.mul_le_mul_left _ hdle
 exact ⟨Nat.lt_of_lt_of_le (Nat.lt_of_le_of_lt h5 hmlt) (Nat.pow_le_pow_right (by decide) hz),Nat.lt_of_lt_of_le (Nat.lt_of_le_of_lt hdle hPlt) (Nat.pow_le_pow_right (by decide) hy)⟩
section
variable {N : List Nd} {Z : List Nat} {E : List (Nat × List Atm)} {q : Nat→Rat}
theorem sizes_okA {σ : Nat→ByteArray} (hσ : ∀ j,(σ j).size≤1048576) (hw : wfB 0 N=true) (hz : saB E 0 N E Z=true) (hq : ∀ (a : Nat) nd,N[a]? = some nd→q a=valN σ q nd) (h0 : ∀ a,N.length≤a→q a=0) : (∀ (a : Nat) z,Z[a]? = some z→QS z (q a))∧∀ a,QS 1000000000000 (q a) := by
 have hl := saB_len hz
 have key : ∀ k,k≤N.length→∃ M,BelA E (fun j => (Cx.rd (σ j).data.toList).den) M q k := by
  intro k
  induction k with
  | zero => exact fun _ => ⟨fun _ => 0,fun a ha => by omega⟩
  | succ k ih =>
   intro hk
   obtain ⟨M,hM⟩ := ih (by omega)
   have hn : N[k]? = some N[k] := List.getElem?_eq_getElem (by omega)
   obtain ⟨p,z,h1,_,h3,_⟩ := saB_get hz hn
   rw [Nat.zero_add] at h3
   have hwf := wfB_get hw hn
   rw [Nat.zero_add] at hwf
   obtain ⟨g1,g2,g3⟩ := node_ok hσ (fun _ => rfl) hM hwf h3
   rw [← hq k _ hn] at g1
   refine ⟨fun x => if x=k then q k*proA (fun j => (Cx.rd (σ j).data.toList).den) M p.2 else M x,fun a ha => ?_⟩
   have same : ∀ {l : List Atm},(∀ x ∈ l,x.1=1→x.2 < k)→proA (fun j => (Cx.rd (σ j).data.toList).den) (fun x => if x=k then q k*proA (fun j => (Cx.rd (σ j).data.toList).den) M p.2 else M x) l=proA (fun j => (Cx.rd (σ j).data.toList).den) M l := fun hl => (proA_congr fun x hx h => by
    have := hl x hx h
    rw [if_neg (by omega)]).symm
   by_cases e : a=k
   ·subst e
    refine ⟨p,h1,?_,g2,g3,?_⟩
    ·show QW p.1 (if a=a then _ else _)
     rw [if_pos rfl]
     exact g1
    ·rw [same g3]
     show _=(if a=a then _ else _)
     rw [if_pos rfl]
   ·obtain ⟨p',f1,f2,f3,f4,f5⟩ := hM a (by omega)
    refine ⟨p',f1,?_,f3,f4,?_⟩
    ·show QW p'.1 (if a=k then _ else M a)
     rw [if_neg e]
     exact f2
    ·rw [same fun x hx h => by have := f4 x hx h; omega]
     show _=(if a=k then _ else M a)
     rw [if_neg e]
     exact f5
 obtain ⟨M,hM⟩ := key N.length (Nat.le_refl _)
 have hdn : ∀ j,0 < (Cx.rd (σ j).data.toList).den∧(Cx.rd (σ j).data.toList).den < 2 ^ inB := fun j => by
  refine ⟨Rat.den_pos _,Nat.lt_of_lt_of_le (QS.rd3 _).den (Nat.pow_le_pow_right (by decide) ?_)⟩
  have := hσ j
  rw [str_len]
  unfold inB
  omega
 have h2 : ∀ (a : Nat) z,Z[a]? = some z→QS z (q a)∧z≤1000000000000 := by
  intro a z ha
  have hlt : a < N.length := by
   have := (List.getElem?_eq_some_iff.1 ha).1
   omega
  have hn : N[a]? = some N[a] := List.getElem?_eq_getElem hlt
  obtain ⟨p,z',h1,h2,_,h4,h5,h6⟩ := saB_get hz hn
  rw [ha] at h2
  cases h2
  obtain ⟨p',f1,f2,f3,f4,f5⟩ := hM a hlt
  rw [h1] at f1
  cases f1
  have hp := proA_ok hdn hM (l := p.2) fun x hx h => Nat.lt_trans (f4 x hx h) hlt
  exact ⟨QS_over f2 hp.1 hp.2 f5 h4 h5,h6⟩
 refine ⟨fun a z h => (h2 a z h).1,fun a => ?_⟩
 by_cases ha : a < Z.length
 ·have := h2 a _ (List.getElem?_eq_getElem ha)
  exact this.1.mono this.2
 ·rw [h0 a (by omega)]
  exact QS.zero.mono (by decide)
theorem hy_ofA {L C : List (List Nat × Nat)} {σ : Nat→ByteArray} {H : List (Nat × Nat × Nat × Nat)} (hσ : ∀ j,(σ j).size≤1048576) (hw : wfB 0 N=true) (hz : saB E 0 N E Z=true) (hl : litB N L=true) (hcn : canB N C=true) (hq : ∀ (a : Nat) nd,N[a]? = some nd→q a=valN σ q nd) (h0 : ∀ a,N.length≤a→q a=0) (hH : hAll q H) : Hy N H L C Z q σ where
 nat := hq
 qs := (sizes_okA hσ hw hz hq h0).2
 zs := (sizes_okA hσ hw hz hq h0).1
 par := hσ
 lit := fun s b h => lit_rd hl hq h
 k0 := fun a r h => kn_at hH h
 k1 := fun a r h => kn_at hH h
 k2 := fun a r h => kn_at hH h
 k3 := fun a b r h => kn_at hH h
 k4 := fun l a b r h1 h2 => by
  have h3 : Nat.beq 1 r=true ↔ q a=q b := kn_at hH h2
  rw [h3,← can_tx hcn hq h1]
  exact ⟨fun e => by rw [e],fun e => tellS_inj (bytesN_inj e)⟩
 k6 := fun a b r h => kn_at hH h
 k5 := fun a r h => kn_at hH h
end
end Go.Proofs.YtgemmepbdmbmfaaGreatDoor
/- MAQ -/
namespace Go.Proofs.YtgemmepbdmbmfaaGreatDoor
open Go.RowKit Cx
def aM_N : List Nd := [(1,[0]),(1,[1]),(1,[2]),(1,[3]),(1,[4]),(1,[5]),(3,[2,0]),(3,[3,1]),(3,[4,0]),(3,[5,1]),(4,[6,9]),(4,[7,8]),(3,[10,11]),(1,[6]),(3,[4,2]),(3,[5,3]),(4,[14,13]),(4,[15,13]),(2,[2,16]),(2,[3,17]),(1,[7]),(3,[0,4]),(3,[1,5]),(4,[21,20]),(4,[22,20]),(2,[4,23]),(2,[5,24]),(1,[8]),(4,[6,27]),(4,[7,27]),(2,[0,28]),(2,[1,29]),(3,[25,0]),(3,[26,1]),(3,[30,0]),(3,[31,1]),(4,[32,35]),(4,[33,34]),(3,[36,37]),(3,[30,2]),(3,[31,3]),(3,[18,2]),(3,[19,3]),(4,[39,42]),(4,[40,41]),(3,[43,44]),(3,[18,4]),(3,[19,5]),(3,[25,4]),(3,[26,5]),(4,[46,49]),(4,[47,48]),(3,[50,51]),(4,[25,25]),(4,[26,26]),(2,[53,54]),(4,[0,0]),(4,[1,1]),(2,[56,57]),(3,[55,58]),(0,[0,2,1]),(6,[59,60]),(4,[30,30]),(4,[31,31]),(2,[62,63]),(3,[64,58]),(6,[65,60]),(4,[61,35]),(4,[66,33]),(3,[67,68]),(6,[69,38]),(4,[32,66]),(4,[34,61]),(3,[71,72]),(6,[73,38]),(4,[2,2]),(4,[3,3]),(2,[75,76]),(3,[64,77]),(6,[78,60]),(4,[18,18]),(4,[19,19]),(2,[80,81]),(3,[82,77]),(6,[83,60]),(4,[79,42]),(4,[84,40]),(3,[85,86]),(6,[87,45]),(4,[39,84]),(4,[41,79]),(3,[89,90]),(6,[91,45]),(3,[70,88]),(3,[74,92]),(4,[93,93]),(4,[94,94]),(2,[95,96]),(3,[88,70]),(3,[92,74]),(5,[99]),(4,[100,100]),(4,[98,98]),(2,[101,102]),(4,[100,70]),(4,[98,74]),(2,[104,105]),(5,[106]),(8,[0,100,98,107]),(8,[1,100,98,107]),(8,[2,100,98,107]),(4,[108,108]),(4,[109,109]),(2,[111,112]),(4,[108,30]),(4,[109,31]),(2,[114,115]),(2,[116,110]),(5,[117]),(4,[108,118]),(4,[109,118]),(6,[119,113]),(6,[120,113]),(4,[121,60]),(4,[122,60]),(0,[0,0,1]),(2,[125,30]),(2,[125,31]),(2,[126,123]),(2,[127,124]),(4,[4,4]),(4,[5,5]),(2,[130,131]),(0,[0,1,1]),(4,[128,128]),(4,[129,129]),(2,[134,135]),(4,[26,133]),(2,[125,137]),(4,[133,129]),(5,[139]),(2,[138,140]),(4,[18,141]),(2,[125,142]),(4,[25,133]),(2,[125,144]),(4,[133,128]),(5,[146]),(2,[145,147]),(4,[19,148]),(5,[149]),(2,[143,150]),(4,[25,129]),(2,[125,152]),(4,[26,128]),(5,[154]),(2,[153,155]),(4,[133,156]),(2,[151,157]),(4,[132,158]),(2,[125,159]),(4,[82,141]),(2,[125,161]),(4,[55,133]),(2,[125,163]),(4,[133,136]),(5,[165]),(2,[164,166]),(4,[19,167]),(5,[168]),(2,[162,169]),(4,[55,129]),(2,[125,171]),(4,[26,136]),(5,[173]),(2,[172,174]),(4,[133,175]),(2,[170,176]),(4,[4,177]),(5,[178]),(2,[160,179]),(4,[82,148]),(2,[125,181]),(4,[18,167]),(5,[183]),(2,[182,184]),(4,[55,128]),(2,[125,186]),(4,[25,136]),(5,[188]),(2,[187,189]),(4,[133,190]),(2,[185,191]),(4,[5,192]),(2,[180,193]),(4,[82,156]),(2,[125,195]),(4,[18,175]),(5,[197]),(2,[196,198]),(4,[19,190]),(2,[199,200]),(4,[133,201]),(5,[202]),(2,[194,203]),(3,[128,18]),(3,[129,19]),(4,[205,205]),(4,[206,206]),(2,[207,208]),(3,[128,25]),(3,[129,26]),(4,[210,210]),(4,[211,211]),(2,[212,213]),(3,[128,30]),(3,[129,31]),(4,[215,215]),(4,[216,216]),(2,[217,218]),(5,[15]),(4,[220,220]),(4,[14,14]),(2,[221,222]),(4,[220,2]),(4,[14,3]),(2,[224,225]),(5,[226]),(8,[0,220,14,227]),(8,[1,220,14,227]),(8,[2,220,14,227]),(3,[18,128]),(3,[19,129]),(5,[232]),(4,[233,233]),(4,[231,231]),(2,[234,235]),(4,[233,128]),(4,[231,129]),(2,[237,238]),(5,[239]),(8,[0,233,231,240]),(8,[1,233,231,240]),(8,[2,233,231,240]),(4,[228,228]),(4,[229,229]),(2,[244,245]),(4,[241,241]),(4,[242,242]),(2,[247,248]),(5,[229]),(5,[242]),(4,[228,241]),(4,[250,251]),(2,[252,253]),(5,[250]),(4,[228,242]),(4,[255,241]),(3,[256,257]),(8,[0,254,258]),(8,[1,254,258]),(5,[22]),(4,[261,261]),(4,[21,21]),(2,[262,263]),(4,[261,4]),(4,[21,5]),(2,[265,266]),(5,[267]),(8,[0,261,21,268]),(8,[1,261,21,268]),(8,[2,261,21,268]),(3,[25,128]),(3,[26,129]),(5,[273]),(4,[274,274]),(4,[272,272]),(2,[275,276]),(4,[274,128]),(4,[272,129]),(2,[278,279]),(5,[280]),(8,[0,274,272,281]),(8,[1,274,272,281]),(8,[2,274,272,281]),(4,[269,269]),(4,[270,270]),(2,[285,286]),(4,[282,282]),(4,[283,283]),(2,[288,289]),(5,[270]),(5,[283]),(4,[269,282]),(4,[291,292]),(2,[293,294]),(5,[291]),(4,[269,283]),(4,[296,282]),(3,[297,298]),(8,[0,295,299]),(8,[1,295,299]),(3,[301,260]),(3,[300,259]),(4,[302,302]),(4,[303,303]),(2,[304,305]),(5,[7]),(4,[307,307]),(4,[6,6]),(2,[308,309]),(4,[307,0]),(4,[6,1]),(2,[311,312]),(5,[313]),(8,[0,307,6,314]),(8,[1,307,6,314]),(8,[2,307,6,314]),(3,[30,128]),(3,[31,129]),(5,[319]),(4,[320,320]),(4,[318,318]),(2,[321,322]),(4,[320,128]),(4,[318,129]),(2,[324,325]),(5,[326]),(8,[0,320,318,327]),(8,[1,320,318,327]),(8,[2,320,318,327]),(4,[315,315]),(4,[316,316]),(2,[331,332]),(4,[328,328]),(4,[329,329]),(2,[334,335]),(5,[316]),(5,[329]),(4,[315,328]),(4,[337,338]),(2,[339,340]),(5,[337]),(4,[315,329]),(4,[342,328]),(3,[343,344]),(8,[0,341,345]),(8,[1,341,345]),(3,[347,301]),(3,[346,300]),(4,[348,348]),(4,[349,349]),(2,[350,351])]
def aM_L : List (List Nat × Nat) := []
def aM_C : List (List Nat × Nat) := []
def aM_Z : List Nat := [3495260,3495260,3495260,3495260,3495260,3495260,6990520,6990520,6990520,6990520,13981040,13981040,20971560,3495260,6990520,6990520,10485779,10485779,10485781,10485781,3495260,6990520,6990520,10485779,10485779,10485781,10485781,3495260,10485779,10485779,10485781,10485781,10485783,10485783,10485783,10485783,20971566,20971566,27962086,10485783,10485783,10485783,10485783,20971566,20971566,27962086,10485783,10485783,10485783,10485783,20971566,20971566,27962086,20971562,20971562,34952600,6990519,6990519,13981038,34952602,2,34952603,20971562,20971562,34952600,34952602,34952603,45438386,45438386,59419424,59419425,45438386,45438386,59419424,59419425,6990519,6990519,13981038,34952602,34952603,20971562,20971562,34952600,34952602,34952603,45438386,45438386,59419424,59419425,45438386,45438386,59419424,59419425,94372031,94372031,188744062,188744062,202725100,94372031,94372031,94372031,188744062,188744062,202725100,153791456,153791456,157286717,157286717,157286710,157286710,157286718,314573420,314573420,314573422,167772491,167772491,174763011,174763015,174763015,332049725,332049725,332049726,332049726,332049728,332049728,1,10485783,10485783,332049730,332049730,6990519,6990519,13981038,1,664099460,664099460,664099462,10485782,10485784,332049731,332049731,339040251,349526032,349526034,10485782,10485784,332049731,332049731,339040251,349526032,349526032,353021295,342535511,342535513,342535511,342535511,349526033,349526034,360011815,373992853,373992855,373992851,373992853,34952601,34952603,664099463,664099463,685071019,695556800,695556800,702547320,367002330,367002332,674585243,674585243,692061540,692061541,709537840,713033099,713033099,713033101,373992851,373992853,695556800,695556800,702547320,367002330,367002332,674585243,674585243,692061540,692061541,709537840,713033099,713033103,384478633,384478635,702547321,702547321,713033100,702547321,713033102,713033103,713033103,713033105,339040250,339040250,678080500,678080500,685071020,339040250,339040250,678080500,678080500,685071020,332049732,332049732,664099464,664099464,664099466,6990520,13981040,13981040,27962078,10485779,10485779,13981040,13981040,13981039,13981039,13981041,339040250,339040250,339040250,678080500,678080500,685071020,671089980,671089980,674585241,674585241,674585227,674585227,674585242,27962078,27962078,27962080,1349170454,1349170454,1349170456,13981039,674585227,688566266,688566266,688566268,13981039,688566266,688566266,688566268,688566269,688566269,6990520,13981040,13981040,27962078,10485779,10485779,13981040,13981040,13981039,13981039,13981041,339040250,339040250,339040250,678080500,678080500,685071020,671089980,671089980,674585241,674585241,674585227,674585227,674585242,27962078,27962078,27962080,1349170454,1349170454,1349170456,13981039,674585227,688566266,688566266,688566268,13981039,688566266,688566266,688566268,688566269,688566269,688566271,688566271,1377132542,1377132542,1377132544,6990520,13981040,13981040,27962078,10485779,10485779,13981040,13981040,13981039,13981039,13981041,332049732,332049732,332049732,664099464,664099464,664099466,664099462,664099462,664099464,664099464,664099450,664099450,664099465,27962078,27962078,27962080,1328198900,1328198900,1328198902,13981039,664099450,678080489,678080489,678080491,13981039,678080489,678080489,678080491,678080492,678080492,688566271,688566271,1377132542,1377132542,1377132544]
def aM_D0 : List Atm := [(0,1),(0,3)]
def aM_D1 : List Atm := [(0,0),(0,4)]
def aM_D2 : List Atm := [(0,1),(0,5)]
def aM_D3 : List Atm := [(0,3),(0,5)]
def aM_D4 : List Atm := [(0,2),(0,4),(0,6)]
def aM_D5 : List Atm := [(0,3),(0,5),(0,6)]
def aM_D6 : List Atm := [(0,0),(0,4),(0,7)]
def aM_D7 : List Atm := [(0,1),(0,5),(0,7)]
def aM_D8 : List Atm := [(0,0),(0,2),(0,8)]
def aM_D9 : List Atm := [(0,1),(0,3),(0,8)]
def aM_D10 : List Atm := [(0,0),(0,0),(0,1),(0,1),(0,4),(0,4),(0,5),(0,5),(0,7),(0,7)]
def aM_D11 : List Atm := [(0,0),(0,0),(0,1),(0,1),(0,2),(0,2),(0,3),(0,3),(0,8),(0,8)]
def aM_D12 : List Atm := [(0,0),(0,0),(0,1),(0,1),(0,2),(0,2),(0,3),(0,3),(0,8),(0,8),(1,60)]
def aM_D13 : List Atm := [(0,2),(0,2),(0,3),(0,3),(0,4),(0,4),(0,5),(0,5),(0,6),(0,6)]
def aM_D14 : List Atm := [(0,0),(0,1),(0,1),(0,2),(0,3),(0,3),(0,4),(0,5),(0,6),(0,7),(0,8),(1,38),(1,45),(1,60)]
def aM_D15 : List Atm := [(0,0),(0,0),(0,1),(0,2),(0,2),(0,3),(0,4),(0,5),(0,6),(0,7),(0,8),(1,38),(1,45),(1,60)]
def aM_D16 : List Atm := [(0,0),(0,0),(0,1),(0,1),(0,1),(0,1),(0,2),(0,2),(0,3),(0,3),(0,3),(0,3),(0,4),(0,4),(0,5),(0,5),(0,6),(0,6),(0,7),(0,7),(0,8),(0,8),(1,38),(1,38),(1,45),(1,45),(1,60),(1,60)]
def aM_D17 : List Atm := [(0,0),(0,0),(0,0),(0,0),(0,1),(0,1),(0,2),(0,2),(0,2),(0,2),(0,3),(0,3),(0,4),(0,4),(0,5),(0,5),(0,6),(0,6),(0,7),(0,7),(0,8),(0,8),(1,38),(1,38),(1,45),(1,45),(1,60),(1,60)]
def aM_D18 : List Atm := [(0,0),(0,0),(0,0),(0,0),(0,1),(0,1),(0,1),(0,1),(0,2),(0,2),(0,2),(0,2),(0,3),(0,3),(0,3),(0,3),(0,4),(0,4),(0,5),(0,5),(0,6),(0,6),(0,7),(0,7),(0,8),(0,8),(1,38),(1,38),(1,45),(1,45),(1,60),(1,60)]
def aM_D19 : List Atm := [(0,0),(0,0),(0,0),(0,1),(0,1),(0,1),(0,2),(0,2),(0,2),(0,3),(0,3),(0,3),(0,4),(0,4),(0,5),(0,5),(0,6),(0,7),(0,7),(0,8),(0,8),(1,38),(1,38),(1,45),(1,60),(1,60)]
def aM_D20 : List Atm := [(0,0),(0,1),(0,2),(0,3),(0,8)]
def aM_D21 : List Atm := [(0,0),(0,1),(0,2),(0,3),(0,8),(1,113)]
def aM_D22 : List Atm := [(0,0),(0,0),(0,1),(0,1),(0,2),(0,2),(0,3),(0,3),(0,8),(0,8),(1,113),(1,113)]
def aM_D23 : List Atm := [(0,0),(0,1),(0,2),(0,3),(0,5),(0,7),(0,8),(1,113)]
def aM_D24 : List Atm := [(0,0),(0,1),(0,2),(0,2),(0,3),(0,4),(0,5),(0,6),(0,7),(0,8),(1,113)]
def aM_D25 : List Atm := [(0,0),(0,1),(0,2),(0,3),(0,4),(0,7),(0,8),(1,113)]
def aM_D26 : List Atm := [(0,0),(0,1),(0,2),(0,3),(0,3),(0,4),(0,5),(0,6),(0,7),(0,8),(1,113)]
def aM_D27 : List Atm := [(0,0),(0,0),(0,1),(0,2),(0,3),(0,4),(0,7),(0,8),(1,113)]
def aM_D28 : List Atm := [(0,0),(0,1),(0,1),(0,2),(0,3),(0,5),(0,7),(0,8),(1,113)]
def aM_D29 : List Atm := [(0,0),(0,0),(0,1),(0,1),(0,2),(0,3),(0,4),(0,5),(0,7),(0,8),(1,113)]
def aM_D30 : List Atm := [(0,0),(0,0),(0,1),(0,1),(0,2),(0,2),(0,3),(0,3),(0,4),(0,4),(0,4),(0,5),(0,5),(0,5),(0,6),(0,7),(0,8),(1,113)]
def aM_D31 : List Atm := [(0,0),(0,1),(0,2),(0,2),(0,2),(0,3),(0,3),(0,3),(0,4),(0,4),(0,5),(0,5),(0,5),(0,6),(0,6),(0,7),(0,8),(1,113)]
def aM_D32 : List Atm := [(0,0),(0,0),(0,1),(0,1),(0,2),(0,2),(0,3),(0,3),(0,4),(0,4),(0,5),(0,5),(0,7),(0,7),(0,8),(0,8),(1,113),(1,113)]
def aM_D33 : List Atm := [(0,0),(0,0),(0,1),(0,1),(0,2),(0,2),(0,3),(0,3),(0,3),(0,4),(0,4),(0,5),(0,5),(0,5),(0,6),(0,7),(0,7),(0,8),(0,8),(1,113),(1,113)]
def aM_D34 : List Atm := [(0,0),(0,0),(0,0),(0,1),(0,1),(0,1),(0,2),(0,3),(0,4),(0,4),(0,5),(0,5),(0,7),(0,7),(0,8),(1,113)]
def aM_D35 : List Atm := [(0,0),(0,0),(0,1),(0,1),(0,1),(0,2),(0,2),(0,3),(0,3),(0,5),(0,7),(0,8),(0,8),(1,113),(1,113)]
def aM_D36 : List Atm := [(0,0),(0,0),(0,0),(0,1),(0,1),(0,1),(0,2),(0,2),(0,3),(0,3),(0,4),(0,4),(0,5),(0,5),(0,7),(0,7),(0,8),(0,8),(1,113),(1,113)]
def aM_D37 : List Atm := [(0,0),(0,0),(0,0),(0,1),(0,1),(0,1),(0,2),(0,2),(0,2),(0,3),(0,3),(0,3),(0,4),(0,4),(0,4),(0,5),(0,5),(0,5),(0,6),(0,6),(0,7),(0,7),(0,8),(0,8),(1,113),(1,113)]
def aM_D38 : List Atm := [(0,0),(0,1),(0,2),(0,2),(0,2),(0,3),(0,3),(0,3),(0,4),(0,4),(0,4),(0,5),(0,5),(0,6),(0,6),(0,7),(0,8),(1,113)]
def aM_D39 : List Atm := [(0,0),(0,0),(0,1),(0,1),(0,2),(0,2),(0,2),(0,3),(0,3),(0,4),(0,4),(0,4),(0,5),(0,5),(0,6),(0,7),(0,7),(0,8),(0,8),(1,113),(1,113)]
def aM_D40 : List Atm := [(0,0),(0,0),(0,0),(0,1),(0,1),(0,2),(0,2),(0,3),(0,3),(0,4),(0,7),(0,8),(0,8),(1,113),(1,113)]
def aM_D41 : List Atm := [(0,0),(0,0),(0,1),(0,1),(0,2),(0,2),(0,2),(0,3),(0,3),(0,3),(0,4),(0,4),(0,4),(0,5),(0,5),(0,5),(0,6),(0,6),(0,7),(0,8),(1,113)]
def aM_D42 : List Atm := [(0,0),(0,0),(0,0),(0,1),(0,1),(0,1),(0,2),(0,2),(0,2),(0,3),(0,3),(0,4),(0,4),(0,4),(0,5),(0,5),(0,6),(0,7),(0,7),(0,8),(0,8),(1,113),(1,113)]
def aM_D43 : List Atm := [(0,0),(0,1),(0,2),(0,3),(0,4),(0,6),(0,8),(1,113)]
def aM_D44 : List Atm := [(0,0),(0,1),(0,2),(0,3),(0,5),(0,6),(0,8),(1,113)]
def aM_D45 : List Atm := [(0,0),(0,0),(0,1),(0,1),(0,2),(0,2),(0,3),(0,3),(0,4),(0,4),(0,6),(0,6),(0,8),(0,8),(1,113),(1,113)]
def aM_D46 : List Atm := [(0,0),(0,0),(0,1),(0,1),(0,2),(0,2),(0,3),(0,3),(0,5),(0,5),(0,6),(0,6),(0,8),(0,8),(1,113),(1,113)]
def aM_D47 : List Atm := [(0,0),(0,0),(0,1),(0,1),(0,2),(0,2),(0,3),(0,3),(0,4),(0,4),(0,5),(0,5),(0,6),(0,6),(0,8),(0,8),(1,113),(1,113)]
def aM_D48 : List Atm := [(0,0),(0,0),(0,1),(0,1),(0,2),(0,2),(0,3),(0,3),(0,4),(0,4),(0,7),(0,7),(0,8),(0,8),(1,113),(1,113)]
def aM_D49 : List Atm := [(0,0),(0,0),(0,1),(0,1),(0,2),(0,2),(0,3),(0,3),(0,5),(0,5),(0,7),(0,7),(0,8),(0,8),(1,113),(1,113)]
def aM_D50 : List Atm := [(0,2),(0,3),(0,4),(0,5)]
def aM_D51 : List Atm := [(0,0),(0,0),(0,1),(0,1),(0,2),(0,2),(0,3),(0,3),(0,4),(0,5),(0,6),(0,8),(0,8),(1,113),(1,113)]
def aM_D52 : List Atm := [(0,0),(0,1),(0,4),(0,5)]
def aM_D53 : List Atm := [(0,0),(0,0),(0,1),(0,1),(0,2),(0,2),(0,3),(0,3),(0,4),(0,5),(0,7),(0,8),(0,8),(1,113),(1,113)]
def aM_D54 : List Atm := [(0,0),(0,1),(0,2),(0,3)]
def aM_E : List (Nat × List Atm) := [(3495259,[(0,0)]),(3495259,[(0,1)]),(3495259,[(0,2)]),(3495259,[(0,3)]),(3495259,[(0,4)]),(3495259,[(0,5)]),(6990520,[(0,0),(0,2)]),(6990520,aM_D0),(6990520,aM_D1),(6990520,aM_D2),(13981040,[(0,0),(0,1),(0,2),(0,5)]),(13981040,[(0,0),(0,1),(0,3),(0,4)]),(20971560,[(0,0),(0,1),(0,2),(0,3),(0,4),(0,5)]),(3495259,[(0,6)]),(6990520,[(0,2),(0,4)]),(6990520,aM_D3),(10485779,aM_D4),(10485779,aM_D5),(10485781,aM_D4),(10485781,aM_D5),(3495259,[(0,7)]),(6990520,aM_D1),(6990520,aM_D2),(10485779,aM_D6),(10485779,aM_D7),(10485781,aM_D6),(10485781,aM_D7),(3495259,[(0,8)]),(10485779,aM_D8),(10485779,aM_D9),(10485781,aM_D8),(10485781,aM_D9),(10485783,aM_D6),(10485783,aM_D7),(10485783,aM_D8),(10485783,aM_D9),(20971566,[(0,0),(0,1),(0,3),(0,4),(0,7),(0,8)]),(20971566,[(0,0),(0,1),(0,2),(0,5),(0,7),(0,8)]),(27962086,[(0,0),(0,1),(0,2),(0,3),(0,4),(0,5),(0,7),(0,8)]),(10485783,aM_D8),(10485783,aM_D9),(10485783,aM_D4),(10485783,aM_D5),(20971566,[(0,0),(0,2),(0,3),(0,5),(0,6),(0,8)]),(20971566,[(0,1),(0,2),(0,3),(0,4),(0,6),(0,8)]),(27962086,[(0,0),(0,1),(0,2),(0,3),(0,4),(0,5),(0,6),(0,8)]),(10485783,aM_D4),(10485783,aM_D5),(10485783,aM_D6),(10485783,aM_D7),(20971566,[(0,1),(0,2),(0,4),(0,5),(0,6),(0,7)]),(20971566,[(0,0),(0,3),(0,4),(0,5),(0,6),(0,7)]),(27962086,[(0,0),(0,1),(0,2),(0,3),(0,4),(0,5),(0,6),(0,7)]),(20971562,[(0,0),(0,0),(0,4),(0,4),(0,7),(0,7)]),(20971562,[(0,1),(0,1),(0,5),(0,5),(0,7),(0,7)]),(34952600,aM_D10),(6990518,[(0,0),(0,0)]),(6990518,[(0,1),(0,1)]),(13981038,[(0,0),(0,0),(0,1),(0,1)]),(34952602,aM_D10),(2,[]),(34952603,[(0,0),(0,0),(0,1),(0,1),(0,4),(0,4),(0,5),(0,5),(0,7),(0,7),(1,60)]),(20971562,[(0,0),(0,0),(0,2),(0,2),(0,8),(0,8)]),(20971562,[(0,1),(0,1),(0,3),(0,3),(0,8),(0,8)]),(34952600,aM_D11),(34952602,aM_D11),(34952603,aM_D12),(45438386,[(0,0),(0,0),(0,1),(0,1),(0,1),(0,3),(0,4),(0,4),(0,5),(0,5),(0,7),(0,7),(0,8),(1,60)]),(45438386,[(0,0),(0,0),(0,1),(0,1),(0,1),(0,2),(0,2),(0,3),(0,3),(0,5),(0,7),(0,8),(0,8),(1,60)]),(59419424,[(0,0),(0,0),(0,1),(0,1),(0,1),(0,2),(0,2),(0,3),(0,3),(0,4),(0,4),(0,5),(0,5),(0,7),(0,7),(0,8),(0,8),(1,60)]),(59419425,[(0,0),(0,1),(0,1),(0,2),(0,3),(0,4),(0,5),(0,7),(0,8),(1,38),(1,60)]),(45438386,[(0,0),(0,0),(0,0),(0,1),(0,1),(0,2),(0,2),(0,3),(0,3),(0,4),(0,7),(0,8),(0,8),(1,60)]),(45438386,[(0,0),(0,0),(0,0),(0,1),(0,1),(0,2),(0,4),(0,4),(0,5),(0,5),(0,7),(0,7),(0,8),(1,60)]),(59419424,[(0,0),(0,0),(0,0),(0,1),(0,1),(0,2),(0,2),(0,3),(0,3),(0,4),(0,4),(0,5),(0,5),(0,7),(0,7),(0,8),(0,8),(1,60)]),(59419425,[(0,0),(0,0),(0,1),(0,2),(0,3),(0,4),(0,5),(0,7),(0,8),(1,38),(1,60)]),(6990518,[(0,2),(0,2)]),(6990518,[(0,3),(0,3)]),(13981038,[(0,2),(0,2),(0,3),(0,3)]),(34952602,aM_D11),(34952603,aM_D12),(20971562,[(0,2),(0,2),(0,4),(0,4),(0,6),(0,6)]),(20971562,[(0,3),(0,3),(0,5),(0,5),(0,6),(0,6)]),(34952600,aM_D13),(34952602,aM_D13),(34952603,[(0,2),(0,2),(0,3),(0,3),(0,4),(0,4),(0,5),(0,5),(0,6),(0,6),(1,60)]),(45438386,[(0,0),(0,0),(0,1),(0,1),(0,2),(0,2),(0,3),(0,3),(0,3),(0,5),(0,6),(0,8),(0,8),(1,60)]),(45438386,[(0,1),(0,2),(0,2),(0,3),(0,3),(0,3),(0,4),(0,4),(0,5),(0,5),(0,6),(0,6),(0,8),(1,60)]),(59419424,[(0,0),(0,0),(0,1),(0,1),(0,2),(0,2),(0,3),(0,3),(0,3),(0,4),(0,4),(0,5),(0,5),(0,6),(0,6),(0,8),(0,8),(1,60)]),(59419425,[(0,0),(0,1),(0,2),(0,3),(0,3),(0,4),(0,5),(0,6),(0,8),(1,45),(1,60)]),(45438386,[(0,0),(0,2),(0,2),(0,2),(0,3),(0,3),(0,4),(0,4),(0,5),(0,5),(0,6),(0,6),(0,8),(1,60)]),(45438386,[(0,0),(0,0),(0,1),(0,1),(0,2),(0,2),(0,2),(0,3),(0,3),(0,4),(0,6),(0,8),(0,8),(1,60)]),(59419424,[(0,0),(0,0),(0,1),(0,1),(0,2),(0,2),(0,2),(0,3),(0,3),(0,4),(0,4),(0,5),(0,5),(0,6),(0,6),(0,8),(0,8),(1,60)]),(59419425,[(0,0),(0,1),(0,2),(0,2),(0,3),(0,4),(0,5),(0,6),(0,8),(1,45),(1,60)]),(94372031,aM_D14),(94372031,aM_D15),(188744062,aM_D16),(188744062,aM_D17),(202725100,aM_D18),(94372031,aM_D14),(94372031,aM_D15),(94372031,aM_D15),(188744062,aM_D17),(188744062,aM_D16),(202725100,aM_D18),(153791456,[(0,0),(0,0),(0,0),(0,1),(0,1),(0,1),(0,2),(0,2),(0,2),(0,3),(0,3),(0,4),(0,4),(0,5),(0,5),(0,6),(0,7),(0,7),(0,8),(0,8),(1,38),(1,38),(1,45),(1,60),(1,60)]),(153791456,[(0,0),(0,0),(0,0),(0,1),(0,1),(0,1),(0,2),(0,2),(0,3),(0,3),(0,3),(0,4),(0,4),(0,5),(0,5),(0,6),(0,7),(0,7),(0,8),(0,8),(1,38),(1,38),(1,45),(1,60),(1,60)]),(157286717,aM_D19),(157286717,aM_D19),(157286710,[]),(157286710,[]),(157286718,[]),(314573420,[]),(314573420,[]),(314573422,[]),(167772491,aM_D8),(167772491,aM_D9),(174763011,aM_D20),(174763015,aM_D20),(174763015,aM_D20),(332049725,aM_D20),(332049725,aM_D20),(332049726,aM_D21),(332049726,aM_D21),(332049728,aM_D21),(332049728,aM_D21),(1,[]),(10485783,aM_D8),(10485783,aM_D9),(332049730,aM_D21),(332049730,aM_D21),(6990518,[(0,4),(0,4)]),(6990518,[(0,5),(0,5)]),(13981038,[(0,4),(0,4),(0,5),(0,5)]),(1,[]),(664099460,aM_D22),(664099460,aM_D22),(664099462,aM_D22),(10485782,aM_D7),(10485784,aM_D7),(332049731,aM_D21),(332049731,aM_D21),(339040251,aM_D23),(349526032,aM_D24),(349526034,aM_D24),(10485782,aM_D6),(10485784,aM_D6),(332049731,aM_D21),(332049731,aM_D21),(339040251,aM_D25),(349526032,aM_D26),(349526032,aM_D26),(353021295,[(0,0),(0,1),(0,2),(0,2),(0,3),(0,3),(0,4),(0,5),(0,6),(0,7),(0,8),(1,113)]),(342535511,aM_D27),(342535513,aM_D27),(342535511,aM_D28),(342535511,aM_D28),(349526033,aM_D29),(349526034,aM_D29),(360011815,[(0,0),(0,0),(0,1),(0,1),(0,2),(0,2),(0,3),(0,3),(0,4),(0,5),(0,6),(0,7),(0,8),(1,113)]),(373992853,aM_D30),(373992855,aM_D30),(373992851,aM_D31),(373992853,aM_D31),(34952601,aM_D10),(34952603,aM_D10),(664099463,aM_D22),(664099463,aM_D22),(685071019,aM_D32),(695556800,aM_D33),(695556800,aM_D33),(702547320,[(0,0),(0,0),(0,1),(0,1),(0,2),(0,2),(0,2),(0,3),(0,3),(0,3),(0,4),(0,4),(0,5),(0,5),(0,5),(0,6),(0,6),(0,7),(0,7),(0,8),(0,8),(1,113),(1,113)]),(367002330,aM_D34),(367002332,aM_D34),(674585243,aM_D35),(674585243,aM_D35),(692061540,aM_D36),(692061541,aM_D36),(709537840,[(0,0),(0,0),(0,0),(0,1),(0,1),(0,1),(0,2),(0,2),(0,2),(0,3),(0,3),(0,3),(0,4),(0,4),(0,5),(0,5),(0,5),(0,6),(0,6),(0,7),(0,7),(0,8),(0,8),(1,113),(1,113)]),(713033099,aM_D37),(713033099,aM_D37),(713033101,aM_D37),(373992851,aM_D38),(373992853,aM_D38),(695556800,aM_D39),(695556800,aM_D39),(702547320,[(0,0),(0,0),(0,1),(0,1),(0,2),(0,2),(0,2),(0,3),(0,3),(0,3),(0,4),(0,4),(0,4),(0,5),(0,5),(0,6),(0,6),(0,7),(0,7),(0,8),(0,8),(1,113),(1,113)]),(367002330,aM_D34),(367002332,aM_D34),(674585243,aM_D40),(674585243,aM_D40),(692061540,aM_D36),(692061541,aM_D36),(709537840,[(0,0),(0,0),(0,0),(0,1),(0,1),(0,1),(0,2),(0,2),(0,2),(0,3),(0,3),(0,3),(0,4),(0,4),(0,4),(0,5),(0,5),(0,6),(0,6),(0,7),(0,7),(0,8),(0,8),(1,113),(1,113)]),(713033099,aM_D37),(713033103,aM_D37),(384478633,aM_D41),(384478635,aM_D41),(702547321,aM_D42),(702547321,aM_D42),(713033100,aM_D37),(702547321,[(0,0),(0,0),(0,0),(0,1),(0,1),(0,1),(0,2),(0,2),(0,3),(0,3),(0,3),(0,4),(0,4),(0,5),(0,5),(0,5),(0,6),(0,7),(0,7),(0,8),(0,8),(1,113),(1,113)]),(713033102,aM_D37),(713033103,aM_D37),(713033103,aM_D37),(713033105,aM_D37),(339040250,aM_D43),(339040250,aM_D44),(678080500,aM_D45),(678080500,aM_D46),(685071020,aM_D47),(339040250,aM_D25),(339040250,aM_D23),(678080500,aM_D48),(678080500,aM_D49),(685071020,aM_D32),(332049732,aM_D21),(332049732,aM_D21),(664099464,aM_D22),(664099464,aM_D22),(664099466,aM_D22),(6990520,aM_D3),(13981040,[(0,3),(0,3),(0,5),(0,5)]),(13981040,[(0,2),(0,2),(0,4),(0,4)]),(27962078,[(0,2),(0,2),(0,3),(0,3),(0,4),(0,4),(0,5),(0,5)]),(10485779,[(0,2),(0,3),(0,5)]),(10485779,[(0,2),(0,3),(0,4)]),(13981040,aM_D50),(13981040,aM_D50),(13981039,[]),(13981039,[]),(13981041,[]),(339040250,aM_D43),(339040250,aM_D44),(339040250,aM_D44),(678080500,aM_D46),(678080500,aM_D45),(685071020,aM_D47),(671089980,[(0,0),(0,0),(0,1),(0,1),(0,2),(0,2),(0,3),(0,3),(0,5),(0,6),(0,8),(0,8),(1,113),(1,113)]),(671089980,[(0,0),(0,0),(0,1),(0,1),(0,2),(0,2),(0,3),(0,3),(0,4),(0,6),(0,8),(0,8),(1,113),(1,113)]),(674585241,aM_D51),(674585241,aM_D51),(674585227,[]),(674585227,[]),(674585242,[]),(27962078,[]),(27962078,[]),(27962080,[]),(1349170454,[]),(1349170454,[]),(1349170456,[]),(13981039,[]),(674585227,[]),(688566266,[]),(688566266,[]),(688566268,[]),(13981039,[]),(688566266,[]),(688566266,[]),(688566268,[]),(688566269,[]),(688566269,[]),(6990520,aM_D2),(13981040,[(0,1),(0,1),(0,5),(0,5)]),(13981040,[(0,0),(0,0),(0,4),(0,4)]),(27962078,[(0,0),(0,0),(0,1),(0,1),(0,4),(0,4),(0,5),(0,5)]),(10485779,[(0,1),(0,4),(0,5)]),(10485779,[(0,0),(0,4),(0,5)]),(13981040,aM_D52),(13981040,aM_D52),(13981039,[]),(13981039,[]),(13981041,[]),(339040250,aM_D25),(339040250,aM_D23),(339040250,aM_D23),(678080500,aM_D49),(678080500,aM_D48),(685071020,aM_D32),(671089980,[(0,0),(0,0),(0,1),(0,1),(0,2),(0,2),(0,3),(0,3),(0,5),(0,7),(0,8),(0,8),(1,113),(1,113)]),(671089980,[(0,0),(0,0),(0,1),(0,1),(0,2),(0,2),(0,3),(0,3),(0,4),(0,7),(0,8),(0,8),(1,113),(1,113)]),(674585241,aM_D53),(674585241,aM_D53),(674585227,[]),(674585227,[]),(674585242,[]),(27962078,[]),(27962078,[]),(27962080,[]),(1349170454,[]),(1349170454,[]),(1349170456,[]),(13981039,[]),(674585227,[]),(688566266,[]),(688566266,[]),(688566268,[]),(13981039,[]),(688566266,[]),(688566266,[]),(688566268,[]),(688566269,[]),(688566269,[]),(688566271,[]),(688566271,[]),(1377132542,[]),(1377132542,[]),(1377132544,[]),(6990520,aM_D0),(13981040,[(0,1),(0,1),(0,3),(0,3)]),(13981040,[(0,0),(0,0),(0,2),(0,2)]),(27962078,[(0,0),(0,0),(0,1),(0,1),(0,2),(0,2),(0,3),(0,3)]),(10485779,[(0,0),(0,1),(0,3)]),(10485779,[(0,0),(0,1),(0,2)]),(13981040,aM_D54),(13981040,aM_D54),(13981039,[]),(13981039,[]),(13981041,[]),(332049732,aM_D21),(332049732,aM_D21),(332049732,aM_D21),(664099464,aM_D22),(664099464,aM_D22),(664099466,aM_D22),(664099462,aM_D22),(664099462,aM_D22),(664099464,aM_D22),(664099464,aM_D22),(664099450,[]),(664099450,[]),(664099465,[]),(27962078,[]),(27962078,[]),(27962080,[]),(1328198900,[]),(1328198900,[]),(1328198902,[]),(13981039,[]),(664099450,[]),(678080489,[]),(678080489,[]),(678080491,[]),(13981039,[]),(678080489,[]),(678080489,[]),(678080491,[]),(678080492,[]),(678080492,[]),(688566271,[]),(688566271,[]),(1377132542,[]),(1377132542,[]),(1377132544,[])]
abbrev aM_Q (q : Nat→Rat) (σ : Nat→ByteArray) : Prop := ∀ (a : Nat) nd,aM_N[a]? = some nd→q a=valN σ q nd
variable {q : Nat→Rat} {σ : Nat→ByteArray}
theorem aM_wf : wfB 0 aM_N=true := by kernel_rfl
theorem aM_sz : saB aM_E 0 aM_N aM_E aM_Z=true := by kernel_rfl
theorem aM_lt : litB aM_N aM_L=true := by kernel_rfl
theorem aM_cn : canB aM_N aM_C=true := by kernel_rfl
theorem aM_c60 : cst 0 2 1=(2 : Rat) := by decide +kernel
theorem aM_c125 : cst 0 0 1=(0 : Rat) := by decide +kernel
theorem aM_c133 : cst 0 1 1=(1 : Rat) := by decide +kernel
def aM_A : List AV := [(false,[(true,[.inr (2,0,0,0,0),.inr (2,1,0,0,0),.inr (2,2,0,0,0),.inr (2,3,0,0,0),.inr (2,4,0,0,0),.inr (2,5,0,0,0)])]),(false,[(true,[.inr (2,6,0,0,0),.inr (2,7,0,0,0),.inr (2,8,0,0,0)])])]
theorem sq2 {x y m1 m2 s : Rat} (h1 : m1=x*x) (h2 : m2=y*y) (hs : s=m1+m2) : s=0 ↔ (x=0∧y=0) := by
 have a1 := sq_facts x
 have a2 := sq_facts y
 subst_vars
 constructor
 ·intro h
  refine ⟨a1.2.1 ?_,a2.2.1 ?_⟩ <;> grind
 ·rintro ⟨h1,h2⟩
  rw [h1,h2]; grind
theorem cy_two {u1 u2 v1 v2 p1 p2 r1 r2 : Rat} (hu : ¬ (u1=0∧u2=0)) (hv : ¬ (v1=0∧v2=0)) (e1 : p1=u1*fac [u1,u2]) (e2 : p2=u2*fac [u1,u2]) (e3 : r1=v1*fac [v1,v2]) (e4 : r2=v2*fac [v1,v2]) : (p1 - r1=0∧p2 - r2=0) ↔ u1*v2 - u2*v1=0 := by
 have hf : fac [u1,u2] ≠ 0 := fun h => hu ⟨fac_zero (by simp) h,fac_zero (by simp) h⟩
 have hg : fac [v1,v2] ≠ 0 := fun h => hv ⟨fac_zero (by simp) h,fac_zero (by simp) h⟩
 constructor
 ·rintro ⟨h1,h2⟩
  generalize fac [u1,u2]=f at *
  generalize fac [v1,v2]=g at *
  have h3 : (f*g)*(u1*v2 - u2*v1)=0 := by
   have q1 : u1*f=v1*g := by rw [← e1,← e3]; grind
   have q2 : u2*f=v2*g := by rw [← e2,← e4]; grind
   have : (f*g)*(u1*v2 - u2*v1)=(u1*f)*(v2*g) - (u2*f)*(v1*g) := by grind
   rw [this,q1,q2]
   grind
  exact (Rat.mul_eq_zero.1 h3).resolve_left (mul_ne hf hg)
 ·intro h
  have ⟨h1,h2⟩ := fac_two (a := u1) (b := u2) (c := v1) (d := v2) (by grind) hu hv
  rw [e1,e2,e3,e4,h1,h2]
  exact ⟨by grind,by grind⟩
theorem cy_nz {a1 a2 b1 b2 u1 u2 m n : Rat} (hm : m=a1*a1+a2*a2) (hn : n=b1*b1+b2*b2) (e1 : u1=a1*b1+a2*b2) (e2 : u2=a1*b2 - a2*b1) (h1 : ¬ (m=0)) (h2 : ¬ (n=0)) : ¬ (u1=0∧u2=0) := by
 rintro ⟨x,y⟩
 have : m*n=u1*u1+u2*u2 := by rw [hm,hn,e1,e2]; grind
 rw [x,y] at this
 rcases Rat.mul_eq_zero.1 (this.trans (by grind)) with h | h
 ·exact h1 h
 ·exact h2 h
theorem cy_four {p r s t x y k w S : Rat} (hx : x=p*p+s*s) (hy : y=r*r+t*t) (hk : k=2*(p*r+s*t)) (hw : w=s*r - p*t) (hS : S=4*x*y) : (k*k=S→w=0)∧(¬ (k*k=S)→¬ (w=0)) := by
 have h : S - k*k=4*(w*w) := by rw [hS,hx,hy,hk,hw]; grind
 refine ⟨fun e => ?_,fun e h0 => e ?_⟩
 ·have : w*w=0 := by rw [e] at h; grind
  exact (Rat.mul_eq_zero.1 this).elim id id
 ·rw [h0] at h
  grind
theorem mq_ln {a1 a2 b1 b2 c1 c2 o1 o2 k : Rat} (h1 : c1=a1+(b1 - a1)*k) (h2 : c2=a2+(b2 - a2)*k) (h : (c1 - o1)*(c1 - o1)+(c2 - o2)*(c2 - o2)=(a1 - o1)*(a1 - o1)+(a2 - o2)*(a2 - o2)) (hk : k ≠ 0) : k*((b1 - a1)*(b1 - a1)+(b2 - a2)*(b2 - a2))=2*((b1 - a1)*(o1 - a1)+(b2 - a2)*(o2 - a2)) := by
 have : k*(k*((b1 - a1)*(b1 - a1)+(b2 - a2)*(b2 - a2)) - 2*((b1 - a1)*(o1 - a1)+(b2 - a2)*(o2 - a2)))=0 := by
  rw [h1,h2] at h
  clear hk h1 h2
  grind
 have := (Rat.mul_eq_zero.1 this).resolve_left hk
 grind
theorem mq_ref {A B C g t s1 s2 v1 v2 m1 m2 i j : Rat} (hm : A*m1+B*m2+C=0) (hg : g=A*A+B*B) (h0 : g ≠ 0) (ht : t=-(A*s1+B*s2+C)) (hi : i=A*t / g) (hj : j=B*t / g) (e1 : v1=s1+i*2) (e2 : v2=s2+j*2) : (v1 - m1)*(v1 - m1)+(v2 - m2)*(v2 - m2)=(s1 - m1)*(s1 - m1)+(s2 - m2)*(s2 - m2) := by
 obtain ⟨r,hr⟩ : ∃ r,r=t / g := ⟨_,rfl⟩
 have q : r*g=t := by rw [hr]; exact Rat.div_mul_cancel h0
 have qi : i=A*r := by rw [hi,hr,Rat.div_def,Rat.div_def]; grind
 have qj : j=B*r := by rw [hj,hr,Rat.div_def,Rat.div_def]; grind
 clear hi hj hr h0
 have q2 : r*(A*s1+B*s2+C+r*g)=0 := by rw [q,ht]; grind
 rw [e1,e2,qi,qj]
 rw [hg] at q2
 clear q qi qj e1 e2 ht hg
 grind
theorem mq_on {A B C g t s1 s2 v1 v2 i j : Rat} (hg : g=A*A+B*B) (h0 : g ≠ 0) (ht : t=-(A*s1+B*s2+C)) (hi : i=A*t / g) (hj : j=B*t / g) (e1 : v1=s1+i*2) (e2 : v2=s2+j*2) (w1 : v1=s1) (w2 : v2=s2) : A*s1+B*s2+C=0 := by
 have i0 : A*t / g=0 := by rw [← hi]; rw [w1] at e1; grind
 have j0 : B*t / g=0 := by rw [← hj]; rw [w2] at e2; grind
 have i1 : A*t=0 := by rw [← Rat.div_mul_cancel (a := A*t) h0,i0,Rat.zero_mul]
 have j1 : B*t=0 := by rw [← Rat.div_mul_cancel (a := B*t) h0,j0,Rat.zero_mul]
 have : g*t=0 := by rw [hg]; grind
 have := (Rat.mul_eq_zero.1 this).resolve_left h0
 grind
theorem mq_sqz {x y : Rat} (h : x*x+y*y=0) : x=0∧y=0 := by
 have a1 := sq_facts x
 have a2 := sq_facts y
 refine ⟨a1.2.1 ?_,a2.2.1 ?_⟩ <;> grind
theorem mq_par {e1 e2 d1 d2 M1 M2 V1 V2 k l : Rat} (hE : l*(e1*e1+e2*e2)=2*(e1*M1+e2*M2)) (hD : k*(d1*d1+d2*d2)=2*(d1*M1+d2*M2)) (hV : V1*V1+V2*V2=2*(M1*V1+M2*V2)) :
  (e1*(e1*l - V1)+e2*(e2*l - V2))*(d1*(d2*k - V2) - d2*(d1*k - V1)) - (e1*(e2*l - V2) - e2*(e1*l - V1))*(d1*(d1*k - V1)+d2*(d2*k - V2))=0 := by
 have a1 : e1*(e1*l - V1)+e2*(e2*l - V2)=2*(e1*M1+e2*M2) - (e1*V1+e2*V2) := by rw [← hE]; grind
 have a2 : d1*(d1*k - V1)+d2*(d2*k - V2)=2*(d1*M1+d2*M2) - (d1*V1+d2*V2) := by rw [← hD]; grind
 have a3 : d1*(d2*k - V2) - d2*(d1*k - V1)=d2*V1 - d1*V2 := by grind
 have a4 : e1*(e2*l - V2) - e2*(e1*l - V1)=e2*V1 - e1*V2 := by grind
 rw [a1,a2,a3,a4]
 clear a1 a2 a3 a4 hE hD
 have : (2*(e1*M1+e2*M2) - (e1*V1+e2*V2))*(d2*V1 - d1*V2) - (e2*V1 - e1*V2)*(2*(d1*M1+d2*M2) - (d1*V1+d2*V2))=(e1*d2 - e2*d1)*(2*(M1*V1+M2*V2) - (V1*V1+V2*V2)) := by
  clear hV
  grind
 rw [this,hV]
 grind
theorem mq_tr {a b c d e f : Rat} (h1 : a*d - b*c=0) (h2 : c*f - d*e=0) (h0 : ¬ (c=0∧d=0)) : a*f - b*e=0 := by
 have q1 : c*(a*f - b*e)=0 := by
  have : c*(a*f - b*e)=a*(c*f - d*e)+e*(a*d - b*c) := by grind
  rw [this,h1,h2]; grind
 have q2 : d*(a*f - b*e)=0 := by
  have : d*(a*f - b*e)=b*(c*f - d*e)+f*(a*d - b*c) := by grind
  rw [this,h1,h2]; grind
 by_cases hc : c=0
 ·exact (Rat.mul_eq_zero.1 q2).resolve_left fun h => h0 ⟨hc,h⟩
 ·exact (Rat.mul_eq_zero.1 q1).resolve_left hc
theorem mq_bar {d1 d2 e1 e2 V1 V2 : Rat} (hT : d1*e2 - d2*e1 ≠ 0) : ∃ Y Z,V1=Y*d1+Z*e1∧V2=Y*d2+Z*e2 := by
 obtain ⟨i,hi⟩ : ∃ i,(d1*e2 - d2*e1)*i=1 := ⟨_,Rat.mul_inv_cancel _ hT⟩
 refine ⟨(V1*e2 - V2*e1)*i,(d1*V2 - d2*V1)*i,?_,?_⟩
 ·have : (V1*e2 - V2*e1)*i*d1+(d1*V2 - d2*V1)*i*e1=V1*((d1*e2 - d2*e1)*i) := by clear hi hT; grind
  rw [this,hi]; grind
 ·have : (V1*e2 - V2*e1)*i*d2+(d1*V2 - d2*V1)*i*e2=V2*((d1*e2 - d2*e1)*i) := by clear hi hT; grind
  rw [this,hi]; grind
theorem mq_tan {d1 d2 a1 a2 b1 b2 k D : Rat} (hk : k*D ≠ 0) (ha : 2*(d1*a1+d2*a2)=k*D) (hb : 2*(d1*b1+d2*b2)=-((1 - k)*D)) (hc : a1*b2 - a2*b1=0) : (1 - k)*a1+k*b1=0∧(1 - k)*a2+k*b2=0 := by
 have hn : d1*a1+d2*a2 ≠ 0 := fun h => hk (by rw [← ha,h]; grind)
 obtain ⟨w1,h1⟩ : ∃ w,w=(1 - k)*a1+k*b1 := ⟨_,rfl⟩
 obtain ⟨w2,h2⟩ : ∃ w,w=(1 - k)*a2+k*b2 := ⟨_,rfl⟩
 have q1 : d1*w1+d2*w2=0 := by
  have : 2*(d1*w1+d2*w2)=(1 - k)*(2*(d1*a1+d2*a2))+k*(2*(d1*b1+d2*b2)) := by rw [h1,h2]; clear ha hb hc hn hk; grind
  rw [ha,hb] at this
  grind
 have q2 : w1*a2 - w2*a1=0 := by
  have : w1*a2 - w2*a1=-(k*(a1*b2 - a2*b1)) := by rw [h1,h2]; clear ha hb hc hn hk q1; grind
  rw [this,hc]; grind
 rw [← h1,← h2]
 clear h1 h2 hc ha hb hk
 constructor
 ·have : (d1*a1+d2*a2)*w1=a1*(d1*w1+d2*w2)+d2*(w1*a2 - w2*a1) := by clear q1 q2 hn; grind
  rw [q1,q2] at this
  exact (Rat.mul_eq_zero.1 (this.trans (by grind))).resolve_left hn
 ·have : (d1*a1+d2*a2)*w2=a2*(d1*w1+d2*w2) - d1*(w1*a2 - w2*a1) := by clear q1 q2 hn; grind
  rw [q1,q2] at this
  exact (Rat.mul_eq_zero.1 (this.trans (by grind))).resolve_left hn
theorem mq_c3 {d1 d2 e1 e2 M1 M2 N1 N2 V1 V2 k k0 k1 : Rat} (hT : d1*e2 - d2*e1 ≠ 0) (hk : k ≠ 0)
  (hE : (1 - k1)*(e1*e1+e2*e2)=2*(e1*M1+e2*M2)) (hD : k*(d1*d1+d2*d2)=2*(d1*M1+d2*M2))
  (hA : (1 - k)*(d1*d1+d2*d2)=-(2*(d1*N1+d2*N2))) (hB : k0*((e1 - d1)*(e1 - d1)+(e2 - d2)*(e2 - d2))=2*((e1 - d1)*N1+(e2 - d2)*N2))
  (hV : V1*V1+V2*V2=2*(M1*V1+M2*V2)) (hW : (V1 - d1)*(V1 - d1)+(V2 - d2)*(V2 - d2)=2*(N1*(V1 - d1)+N2*(V2 - d2)))
  (hv : V1=k*d1→V2=k*d2→(k*d1 - M1)*(k*d2 - d2 - N2) - (k*d2 - M2)*(k*d1 - d1 - N1)=0) :
  ∃ Y Z,V1=Y*d1+Z*e1∧V2=Y*d2+Z*e2∧(V1 - e1)*(V1 - e1)+(V2 - e2)*(V2 - e2) - (1 - Y - Z)*k1*(e1*e1+e2*e2) - Y*(1 - k0)*((e1 - d1)*(e1 - d1)+(e2 - d2)*(e2 - d2))=0 := by
 obtain ⟨Y,Z,v1,v2⟩ := mq_bar (V1 := V1) (V2 := V2) hT
 refine ⟨Y,Z,v1,v2,?_⟩
 obtain ⟨D,gD⟩ : ∃ D,D=d1*d1+d2*d2 := ⟨_,rfl⟩
 obtain ⟨Q,gQ⟩ : ∃ Q,Q=e1*e1+e2*e2 := ⟨_,rfl⟩
 obtain ⟨G,gG⟩ : ∃ G,G=d1*e1+d2*e2 := ⟨_,rfl⟩
 have gP : (e1 - d1)*(e1 - d1)+(e2 - d2)*(e2 - d2)=Q - 2*G+D := by rw [gD,gQ,gG]; grind
 have hD0 : D ≠ 0 := fun h => by
  rw [gD] at h
  obtain ⟨x,y⟩ := mq_sqz h
  exact hT (by rw [x,y]; grind)
 have eM : 2*(e1*M1+e2*M2)=(1 - k1)*Q := by rw [gQ]; exact hE.symm
 have dM : 2*(d1*M1+d2*M2)=k*D := by rw [gD]; exact hD.symm
 have dN : 2*(d1*N1+d2*N2)=-((1 - k)*D) := by rw [gD]; grind
 have eN : 2*(e1*N1+e2*N2)=k0*(Q - 2*G+D) - (1 - k)*D := by
  rw [gP] at hB
  have : 2*(e1*N1+e2*N2)=2*((e1 - d1)*N1+(e2 - d2)*N2)+2*(d1*N1+d2*N2) := by clear hV hW hA hE hD hv; grind
  rw [this,← hB,dN]; grind
 have C1 : Y*Y*D+2*Y*Z*G+Z*Z*Q - Y*(k*D) - Z*((1 - k1)*Q)=0 := by
  have t1 : V1*V1+V2*V2=Y*Y*D+2*Y*Z*G+Z*Z*Q := by rw [v1,v2,gD,gQ,gG]; clear hT hk hE hD hA hB hV hW hv v1 v2 gP hD0 eM dM dN eN; grind
  have t2 : 2*(M1*V1+M2*V2)=Y*(2*(d1*M1+d2*M2))+Z*(2*(e1*M1+e2*M2)) := by rw [v1,v2]; clear hT hk hE hD hA hB hV hW hv v1 v2 gP hD0 eM dM dN eN t1; grind
  rw [t1,t2,dM,eM] at hV
  rw [hV]; grind
 have C2 : (Y - 1)*(Y - 1)*D+2*(Y - 1)*Z*G+Z*Z*Q+(Y - 1)*((1 - k)*D) - Z*(k0*(Q - 2*G+D) - (1 - k)*D)=0 := by
  have t1 : (V1 - d1)*(V1 - d1)+(V2 - d2)*(V2 - d2)=(Y - 1)*(Y - 1)*D+2*(Y - 1)*Z*G+Z*Z*Q := by rw [v1,v2,gD,gQ,gG]; clear hT hk hE hD hA hB hV hW hv v1 v2 gP hD0 eM dM dN eN C1; grind
  have t2 : 2*(N1*(V1 - d1)+N2*(V2 - d2))=(Y - 1)*(2*(d1*N1+d2*N2))+Z*(2*(e1*N1+e2*N2)) := by rw [v1,v2]; clear hT hk hE hD hA hB hV hW hv v1 v2 gP hD0 eM dM dN eN C1 t1; grind
  rw [t1,t2,dN,eN] at hW
  rw [hW]; grind
 have C3 : (V1 - e1)*(V1 - e1)+(V2 - e2)*(V2 - e2)=Y*Y*D+2*Y*(Z - 1)*G+(Z - 1)*(Z - 1)*Q := by rw [v1,v2,gD,gQ,gG]; clear hT hk hE hD hA hB hV hW hv v1 v2 gP hD0 eM dM dN eN C1 C2; grind
 rw [C3,gP,← gQ]
 have key : Z*(Y*Y*D+2*Y*(Z - 1)*G+(Z - 1)*(Z - 1)*Q - (1 - Y - Z)*k1*Q - Y*(1 - k0)*(Q - 2*G+D))=0 := by
  have : Z*(Y*Y*D+2*Y*(Z - 1)*G+(Z - 1)*(Z - 1)*Q - (1 - Y - Z)*k1*Q - Y*(1 - k0)*(Q - 2*G+D))=-((1 - Y - Z)*(Y*Y*D+2*Y*Z*G+Z*Z*Q - Y*(k*D) - Z*((1 - k1)*Q))+Y*((Y - 1)*(Y - 1)*D+2*(Y - 1)*Z*G+Z*Z*Q+(Y - 1)*((1 - k)*D) - Z*(k0*(Q - 2*G+D) - (1 - k)*D))) := by
   clear hT hk hE hD hA hB hV hW hv v1 v2 gP hD0 eM dM dN eN C1 C2 C3 gD gQ gG
   grind
  rw [this,C1,C2]; grind
 by_cases hZ : Z=0
 ·subst hZ
  have hY : Y=k := by
   have s1 : (Y*(Y - k))*D=0 := by clear hT hk hE hD hA hB hV hW hv v1 v2 gP hD0 eM dM dN eN C2 C3 gD gQ gG key; grind
   have s2 : ((Y - 1)*(Y - k))*D=0 := by clear hT hk hE hD hA hB hV hW hv v1 v2 gP hD0 eM dM dN eN C1 C3 gD gQ gG key; grind
   have s3 := (Rat.mul_eq_zero.1 s1).resolve_right hD0
   have s4 := (Rat.mul_eq_zero.1 s2).resolve_right hD0
   clear s1 s2 C1 C2 C3 key hv hV hW v1 v2
   rcases Rat.mul_eq_zero.1 s3 with h | h
   ·rcases Rat.mul_eq_zero.1 s4 with h' | h' <;> grind
   ·grind
  subst hY
  have w1 : V1=Y*d1 := by rw [v1]; grind
  have w2 : V2=Y*d2 := by rw [v2]; grind
  have hc := hv w1 w2
  clear C1 C2 C3 key hv hV hW v1 v2 w1 w2 hE hD hA hB
  obtain ⟨a1,ea1⟩ : ∃ a,a=Y*d1 - M1 := ⟨_,rfl⟩
  obtain ⟨a2,ea2⟩ : ∃ a,a=Y*d2 - M2 := ⟨_,rfl⟩
  obtain ⟨b1,eb1⟩ : ∃ b,b=Y*d1 - d1 - N1 := ⟨_,rfl⟩
  obtain ⟨b2,eb2⟩ : ∃ b,b=Y*d2 - d2 - N2 := ⟨_,rfl⟩
  rw [← ea1,← ea2,← eb1,← eb2] at hc
  have da : 2*(d1*a1+d2*a2)=Y*D := by
   have : 2*(d1*a1+d2*a2)=2*Y*D - 2*(d1*M1+d2*M2) := by rw [ea1,ea2,gD]; clear hc dM dN eM eN gP hT hD0; grind
   rw [this,dM]; grind
  have db : 2*(d1*b1+d2*b2)=-((1 - Y)*D) := by
   have : 2*(d1*b1+d2*b2)=2*(Y - 1)*D - 2*(d1*N1+d2*N2) := by rw [eb1,eb2,gD]; clear hc dM dN eM eN gP hT hD0; grind
   rw [this,dN]; grind
  obtain ⟨x1,x2⟩ := mq_tan (mul_ne hk hD0) da db hc
  have ea : 2*(e1*a1+e2*a2)=2*Y*G - (1 - k1)*Q := by
   have : 2*(e1*a1+e2*a2)=2*Y*G - 2*(e1*M1+e2*M2) := by rw [ea1,ea2,gG]; clear hc dM dN eM eN gP hT hD0 x1 x2 da db; grind
   rw [this,eM]
  have eb : 2*(e1*b1+e2*b2)=2*(Y - 1)*G - (k0*(Q - 2*G+D) - (1 - Y)*D) := by
   have : 2*(e1*b1+e2*b2)=2*(Y - 1)*G - 2*(e1*N1+e2*N2) := by rw [eb1,eb2,gG]; clear hc dM dN eM eN gP hT hD0 x1 x2 da db ea; grind
   rw [this,eN]
  have fin : (1 - Y)*(2*(e1*a1+e2*a2))+Y*(2*(e1*b1+e2*b2))=0 := by
   have : (1 - Y)*(2*(e1*a1+e2*a2))+Y*(2*(e1*b1+e2*b2))=2*e1*((1 - Y)*a1+Y*b1)+2*e2*((1 - Y)*a2+Y*b2) := by clear hc dM dN eM eN gP hT hD0 x1 x2 da db ea eb ea1 ea2 eb1 eb2 gD gQ gG; grind
   rw [this,x1,x2]; grind
  rw [ea,eb] at fin
  clear ea eb x1 x2 da db hc dM dN eM eN gP hT hD0 ea1 ea2 eb1 eb2 gD gQ gG hk
  grind
 ·exact (Rat.mul_eq_zero.1 key).resolve_left hZ
theorem mq_pair {r1 r2 r3 n1 n2 n3 A1 A2 B1 B2 D1 D2 W1 W2 u1 u2 : Rat} (hr1 : r1=-D2) (hr2 : r2=D1) (hn1 : n1=-W2) (hn2 : n2=W1) (hA1 : A1=r1*fac [r1,r2,r3]) (hA2 : A2=r2*fac [r1,r2,r3]) (hB1 : B1=n1*fac [n1,n2,n3]) (hB2 : B2=n2*fac [n1,n2,n3]) (hu1 : u1=A1*B1+-A2*-B2) (hu2 : u2=A1*B2 - - -A2*B1) (hD : ¬ (D1*D1+D2*D2=0)) (hW : ¬ (W1*W1+W2*W2=0)) :
  ¬ (A1*A1+A2*A2=0)∧¬ (B1*B1+B2*B2=0)∧∃ F,F ≠ 0∧u1=F*(D1*W1+D2*W2)∧u2=F*(D1*W2 - D2*W1) := by
 have hf : fac [r1,r2,r3] ≠ 0 := fun h => hD (by
  have a := fac_zero (x := r1) (by simp) h
  have b := fac_zero (x := r2) (by simp) h
  rw [hr1] at a; rw [hr2] at b
  have a' : D2=0 := by grind
  rw [a',b]; grind)
 have hg : fac [n1,n2,n3] ≠ 0 := fun h => hW (by
  have a := fac_zero (x := n1) (by simp) h
  have b := fac_zero (x := n2) (by simp) h
  rw [hn1] at a; rw [hn2] at b
  have a' : W2=0 := by grind
  rw [a',b]; grind)
 generalize fac [r1,r2,r3]=f at *
 generalize fac [n1,n2,n3]=g at *
 rw [hr1] at hA1; rw [hr2] at hA2; rw [hn1] at hB1; rw [hn2] at hB2
 refine ⟨fun h => ?_,fun h => ?_,f*g,mul_ne hf hg,?_,?_⟩
 ·have : (f*f)*(D1*D1+D2*D2)=0 := by rw [hA1,hA2] at h; rw [← h]; clear h; grind
  exact hD ((Rat.mul_eq_zero.1 this).resolve_left (mul_ne hf hf))
 ·have : (g*g)*(W1*W1+W2*W2)=0 := by rw [hB1,hB2] at h; rw [← h]; clear h; grind
  exact hW ((Rat.mul_eq_zero.1 this).resolve_left (mul_ne hg hg))
 ·rw [hu1,hA1,hA2,hB1,hB2]; clear hD hW hf hg; grind
 ·rw [hu2,hA1,hA2,hB1,hB2]; clear hD hW hf hg; grind
theorem mq_fne {F a b : Rat} (hF : F ≠ 0) (h : ¬ (a=0∧b=0)) : ¬ (F*a=0∧F*b=0) := fun ⟨x,y⟩ => h ⟨(Rat.mul_eq_zero.1 x).resolve_left hF,(Rat.mul_eq_zero.1 y).resolve_left hF⟩
theorem mq_cr {F G a b c d : Rat} (h : a*d - b*c=0) : (F*a)*(G*d) - (F*b)*(G*c)=0 := by
 have : (F*a)*(G*d) - (F*b)*(G*c)=(F*G)*(a*d - b*c) := by clear h; grind
 rw [this,h]; grind
theorem aM_Gez {z0 z1 z2 z3 z4 z5 z6 z7 z8 z9 z10 z11 z12 z13 z14 z15 z16 z17 z18 z19 z20 z21 z22 z23 z24 z25 z26 z27 z28 z29 z30 z31 z32 z33 z34 z35 z36 z37 z38 z39 z40 z41 z42 z43 z44 z45 z53 z54 z55 z56 z57 z58 z59 z60 z61 z62 z63 z64 z65 z66 z67 z68 z69 z70 z71 z72 z73 z74 z75 z76 z77 z78 z79 z80 z81 z82 z83 z84 z85 z86 z87 z88 z89 z90 z91 z92 z93 z94 z95 z96 z97 z98 z99 z100 z101 z102 z103 z104 z105 z106 z107 z108 z109 z110 z111 z112 z113 z114 z115 z116 z117 z118 z119 z120 z121 z122 z123 z124 z125 z126 z127 z128 z129 z130 z131 z132 z133 z134 z135 z136 z137 z138 z139 z140 z141 z142 z143 z144 z145 z146 z147 z148 z149 z150 z151 z152 z153 z154 z155 z156 z157 z158 z159 z160 z161 z162 z163 z164 z165 z166 z167 z168 z169 z170 z171 z172 z173 z174 z175 z176 z177 z178 z179 z180 z181 z182 z183 z184 z185 z186 z187 z188 z189 z190 z191 z192 z193 z194 z195 z196 z197 z198 z199 z200 z201 z202 z203 z204 z231 z232 z272 z273 z318 z319 : Rat} : z6=z2-z0→z7=z3-z1→z8=z4-z0→z9=z5-z1→z10=z6*z9→z11=z7*z8→z12=z10-z11→z14=z4-z2→z15=z5-z3→z16=z14*z13→z17=z15*z13→z18=z2+z16→z19=z3+z17→z21=z0-z4→z22=z1-z5→z23=z21*z20→z24=z22*z20→z25=z4+z23→z26=z5+z24→z28=z6*z27→z29=z7*z27→z30=z0+z28→z31=z1+z29→z32=z25-z0→z33=z26-z1→z34=z30-z0→z35=z31-z1→z36=z32*z35→z37=z33*z34→z38=z36-z37→z39=z30-z2→z40=z31-z3→z41=z18-z2→z42=z19-z3→z43=z39*z42→z44=z40*z41→z45=z43-z44→z53=z25*z25→z54=z26*z26→z55=z53+z54→z56=z0*z0→z57=z1*z1→z58=z56+z57→z59=z55-z58→z60=2→z61=z59/z60→z62=z30*z30→z63=z31*z31→z64=z62+z63→z65=z64-z58→z66=z65/z60→z67=z61*z35→z68=z66*z33→z69=z67-z68→z70=z69/z38→z71=z32*z66→z72=z34*z61→z73=z71-z72→z74=z73/z38→z75=z2*z2→z76=z3*z3→z77=z75+z76→z78=z64-z77→z79=z78/z60→z80=z18*z18→z81=z19*z19→z82=z80+z81→z83=z82-z77→z84=z83/z60→z85=z79*z42→z86=z84*z40→z87=z85-z86→z88=z87/z45→z89=z39*z84→z90=z41*z79→z91=z89-z90→z92=z91/z45→z93=z70-z88→z94=z74-z92→z95=z93*z93→z96=z94*z94→z97=z95+z96→z98=z88-z70→z99=z92-z74→z100=-z99→z101=z100*z100→z102=z98*z98→z103=z101+z102→z104=z100*z70→z105=z98*z74→z106=z104+z105→z107=-z106→z108=z100*fac [z100,z98,z107]→z109=z98*fac [z100,z98,z107]→z110=z107*fac [z100,z98,z107]→z111=z108*z108→z112=z109*z109→z113=z111+z112→z114=z108*z30→z115=z109*z31→z116=z114+z115→z117=z116+z110→z118=-z117→z119=z108*z118→z120=z109*z118→z121=z119/z113→z122=z120/z113→z123=z121*z60→z124=z122*z60→z125=0→z126=z125+z30→z127=z125+z31→z128=z126+z123→z129=z127+z124→z130=z4*z4→z131=z5*z5→z132=z130+z131→z133=1→z134=z128*z128→z135=z129*z129→z136=z134+z135→z137=z26*z133→z138=z125+z137→z139=z133*z129→z140=-z139→z141=z138+z140→z142=z18*z141→z143=z125+z142→z144=z25*z133→z145=z125+z144→z146=z133*z128→z147=-z146→z148=z145+z147→z149=z19*z148→z150=-z149→z151=z143+z150→z152=z25*z129→z153=z125+z152→z154=z26*z128→z155=-z154→z156=z153+z155→z157=z133*z156→z158=z151+z157→z159=z132*z158→z160=z125+z159→z161=z82*z141→z162=z125+z161→z163=z55*z133→z164=z125+z163→z165=z133*z136→z166=-z165→z167=z164+z166→z168=z19*z167→z169=-z168→z170=z162+z169→z171=z55*z129→z172=z125+z171→z173=z26*z136→z174=-z173→z175=z172+z174→z176=z133*z175→z177=z170+z176→z178=z4*z177→z179=-z178→z180=z160+z179→z181=z82*z148→z182=z125+z181→z183=z18*z167→z184=-z183→z185=z182+z184→z186=z55*z128→z187=z125+z186→z188=z25*z136→z189=-z188→z190=z187+z189→z191=z133*z190→z192=z185+z191→z193=z5*z192→z194=z180+z193→z195=z82*z156→z196=z125+z195→z197=z18*z175→z198=-z197→z199=z196+z198→z200=z19*z190→z201=z199+z200→z202=z133*z201→z203=-z202→z204=z194+z203→z231=z18-z128→z232=z19-z129→z272=z25-z128→z273=z26-z129→z318=z30-z128→z319=z31-z129→(¬ (z12=0))→(¬ (z38=0))→(¬ (z45=0))→(¬ (z97=0)∧¬ (z103=0)∧¬ (z113=0)∧z204=0∧((z21*z272+z22*z273)*(z6*z319-z7*z318)-(z21*z273-z22*z272)*(z6*z318+z7*z319)=0)∧((z6*z318+z7*z319)*(z14*z232-z15*z231)-(z6*z319-z7*z318)*(z14*z231+z15*z232)=0)) := by
 intro e6 e7 e8 e9 e10 e11 e12 e14 e15 e16 e17 e18 e19 e21 e22 e23 e24 e25 e26 e28 e29 e30 e31 e32 e33 e34 e35 e36 e37 e38 e39 e40 e41 e42 e43 e44 e45 e53 e54 e55 e56 e57 e58 e59 e60 e61 e62 e63 e64 e65 e66 e67 e68 e69 e70 e71 e72 e73 e74 e75 e76 e77 e78 e79 e80 e81 e82 e83 e84 e85 e86 e87 e88 e89 e90 e91 e92 e93 e94 e95 e96 e97 e98 e99 e100 e101 e102 e103 e104 e105 e106 e107 e108 e109 e110 e111 e112 e113 e114 e115 e116 e117 e118 e119 e120 e121 e122 e123 e124 e125 e126 e127 e128 e129 e130 e131 e132 e133 e134 e135 e136 e137 e138 e139 e140 e141 e142 e143 e144 e145 e146 e147 e148 e149 e150 e151 e152 e153 e154 e155 e156 e157 e158 e159 e160 e161 e162 e163 e164 e165 e166 e167 e168 e169 e170 e171 e172 e173 e174 e175 e176 e177 e178 e179 e180 e181 e182 e183 e184 e185 e186 e187 e188 e189 e190 e191 e192 e193 e194 e195 e196 e197 e198 e199 e200 e201 e202 e203 e204 e231 e232 e272 e273 e318 e319
 intro u0 u1 u2
 have hk : z27 ≠ 0 := fun h => u1 (by rw [e38,e37,e36,e35,e34,e33,e32,e31,e30,e29,e28,e26,e25,e24,e23,e22,e21,e7,e6]; rw [h]; clear u0 u1 u2 h; grind)
 have hl : 1 - z20 ≠ 0 := fun h => u1 (by have h1 : z20=1 := (by grind); rw [e38,e37,e36,e35,e34,e33,e32,e31,e30,e29,e28,e26,e25,e24,e23,e22,e21,e7,e6]; rw [h1]; clear u0 u1 u2 h h1; grind)
 have hk1 : 1 - z27 ≠ 0 := fun h => u2 (by have h1 : z27=1 := (by grind); rw [e45,e44,e43,e42,e41,e40,e39,e31,e30,e29,e28,e19,e18,e17,e16,e15,e14,e7,e6]; rw [h1]; clear u0 u1 u2 h h1; grind)
 have h0 : z13 ≠ 0 := fun h => u2 (by rw [e45,e44,e43,e42,e41,e40,e39,e31,e30,e29,e28,e19,e18,e17,e16,e15,e14,e7,e6]; rw [h]; clear u0 u1 u2 h; grind)
 have ⟨A1,A2⟩ := mid_far u1 (show z38=(z25 - z0)*(z31 - z1) - (z26 - z1)*(z30 - z0) by rw [e38,e37,e36,e35,e34,e33,e32]) (show z61=((z25*z25+z26*z26) - (z0*z0+z1*z1)) / 2 by rw [e61,e60,e59,e58,e57,e56,e55,e54,e53]) (show z66=((z30*z30+z31*z31) - (z0*z0+z1*z1)) / 2 by rw [e66,e65,e64,e63,e62,e60,e58,e57,e56]) (show z70=(z61*(z31 - z1) - z66*(z26 - z1)) / z38 by rw [e70,e69,e68,e67,e35,e33]) (show z74=((z25 - z0)*z66 - (z30 - z0)*z61) / z38 by rw [e74,e73,e72,e71,e34,e32])
 have ⟨B1,B2⟩ := mid_far u2 (show z45=(z30 - z2)*(z19 - z3) - (z31 - z3)*(z18 - z2) by rw [e45,e44,e43,e42,e41,e40,e39]) (show z79=((z30*z30+z31*z31) - (z2*z2+z3*z3)) / 2 by rw [e79,e78,e77,e76,e75,e64,e63,e62,e60]) (show z84=((z18*z18+z19*z19) - (z2*z2+z3*z3)) / 2 by rw [e84,e83,e82,e81,e80,e77,e76,e75,e60]) (show z88=(z79*(z19 - z3) - z84*(z31 - z3)) / z45 by rw [e88,e87,e86,e85,e42,e40]) (show z92=((z30 - z2)*z84 - (z18 - z2)*z79) / z45 by rw [e92,e91,e90,e89,e41,e39])
 have hE := mq_ln (show z25=z0+(z4 - z0)*(1 - z20) by rw [e25,e23,e21]; grind) (show z26=z1+(z5 - z1)*(1 - z20) by rw [e26,e24,e22]; grind) A1 hl
 have hD := mq_ln (show z30=z0+(z2 - z0)*z27 by rw [e30,e28,e6]) (show z31=z1+(z3 - z1)*z27 by rw [e31,e29,e7]) A2 hk
 have hA := mq_ln (show z30=z2+(z0 - z2)*(1 - z27) by rw [e30,e28,e6]; grind) (show z31=z3+(z1 - z3)*(1 - z27) by rw [e31,e29,e7]; grind) B1 hk1
 have hB := mq_ln (show z18=z2+(z4 - z2)*z13 by rw [e18,e16,e14]) (show z19=z3+(z5 - z3)*z13 by rw [e19,e17,e15]) B2 h0
 have nT : z6*z9 - z7*z8 ≠ 0 := fun h => u0 (by rw [e12,e10,e11]; exact h)
 rw [← e8,← e9] at hE
 rw [← e6,← e7] at hD
 have hA2 : (1 - z27)*(z6*z6+z7*z7)=-(2*(z6*(z88 - z2)+z7*(z92 - z3))) := by
  rw [show z0 - z2=-z6 by rw [e6]; grind,show z1 - z3=-z7 by rw [e7]; grind] at hA
  clear A1 A2 B1 B2 hE hD hB nT u0 u1 u2; grind
 have hB2 : z13*((z8 - z6)*(z8 - z6)+(z9 - z7)*(z9 - z7))=2*((z8 - z6)*(z88 - z2)+(z9 - z7)*(z92 - z3)) := by
  rw [show z8 - z6=z4 - z2 by rw [e8,e6]; grind,show z9 - z7=z5 - z3 by rw [e9,e7]; grind]; exact hB
 have hmn : ¬ (z97=0) := fun h => by
  rw [e97,e95,e96] at h
  obtain ⟨a,b⟩ := mq_sqz h
  have a1 : z88=z70 := by rw [e93] at a; grind
  have b1 : z92=z74 := by rw [e94] at b; grind
  rw [a1,b1] at hA2
  have c : z6*z6+z7*z7=0 := by
   have r1 : z6*(z70 - z0)+z7*(z74 - z1)=z6*(z70 - z2)+z7*(z74 - z3)+(z6*z6+z7*z7) := by rw [e6,e7]; clear hA2 hD hE hB2 hB hA A1 A2 B1 B2 nT u0 u1 u2 h a b a1 b1; grind
   rw [r1] at hD
   generalize z6*(z70 - z2)+z7*(z74 - z3)=r at *
   generalize z6*z6+z7*z7=c at *
   clear hE hB2 hB hA A1 A2 B1 B2 nT u0 u1 u2 h a b a1 b1 r1; grind
  obtain ⟨x,y⟩ := mq_sqz c
  exact nT (by rw [x,y]; grind)
 have hll : ¬ (z103=0) := fun h => hmn (by rw [e97,e95,e96,e93,e94]; rw [e103,e101,e102,e100,e99,e98] at h; rw [← h]; clear h hmn; grind)
 have hf : fac [z100,z98,z107] ≠ 0 := fun h => hll (by rw [e103,e101,e102]; rw [fac_zero (x := z100) (by simp) h,fac_zero (x := z98) (by simp) h]; grind)
 obtain ⟨f,gf⟩ : ∃ f,f=fac [z100,z98,z107] := ⟨_,rfl⟩
 rw [← gf] at hf e108 e109 e110
 have hg : z113=z108*z108+z109*z109 := by rw [e113,e111,e112]
 have hg0 : ¬ (z113=0) := fun h => by
  rw [hg,e108,e109] at h
  have h2 : (f*f)*z103=0 := by rw [e103,e101,e102]; rw [← h]; grind
  exact hll ((Rat.mul_eq_zero.1 h2).resolve_left (mul_ne hf hf))
 have hm : z108*z70+z109*z74+z110=0 := by rw [e108,e109,e110]; rw [e107,e106,e105,e104]; grind
 have hn : z108*z88+z109*z92+z110=0 := by rw [e108,e109,e110]; rw [e107,e106,e105,e104,e100,e99,e98]; grind
 have ht : z118=-(z108*z30+z109*z31+z110) := by rw [e118,e117,e116,e115,e114]
 have hi : z121=z108*z118 / z113 := by rw [e121,e119]
 have hj : z122=z109*z118 / z113 := by rw [e122,e120]
 have v1 : z128=z30+z121*2 := by rw [e128,e126,e125,e123,e60]; grind
 have v2 : z129=z31+z122*2 := by rw [e129,e127,e125,e124,e60]; grind
 have Rm := mq_ref hm hg hg0 ht hi hj v1 v2
 have Rn := mq_ref hn hg hg0 ht hi hj v1 v2
 have hV : (z128 - z0)*(z128 - z0)+(z129 - z1)*(z129 - z1)=2*((z70 - z0)*(z128 - z0)+(z74 - z1)*(z129 - z1)) := by
  rw [A2] at Rm; clear A1 B1 B2 hE hD hB hB2 hA hA2 nT u0 u1 u2 hm hn ht hi hj v1 v2 hg hg0 hf hmn hll Rn A2; grind
 have hW0 : (z128 - z2)*(z128 - z2)+(z129 - z3)*(z129 - z3)=2*((z88 - z2)*(z128 - z2)+(z92 - z3)*(z129 - z3)) := by
  rw [B1] at Rn; clear A1 A2 B1 B2 hE hD hB hB2 hA hA2 nT u0 u1 u2 hm hn ht hi hj v1 v2 hg hg0 hf hmn hll Rm; grind
 have s1 : (z128 - z0) - z6=z128 - z2 := by rw [e6]; grind
 have s2 : (z129 - z1) - z7=z129 - z3 := by rw [e7]; grind
 have hW : ((z128 - z0) - z6)*((z128 - z0) - z6)+((z129 - z1) - z7)*((z129 - z1) - z7)=2*((z88 - z2)*((z128 - z0) - z6)+(z92 - z3)*((z129 - z1) - z7)) := by rw [s1,s2]; exact hW0
 have k1 : z30=z0+z6*z27 := by rw [e30,e28]
 have k2 : z31=z1+z7*z27 := by rw [e31,e29]
 have hv : (z128 - z0)=z27*z6→(z129 - z1)=z27*z7→(z27*z6 - (z70 - z0))*(z27*z7 - z7 - (z92 - z3)) - (z27*z7 - (z74 - z1))*(z27*z6 - z6 - (z88 - z2))=0 := by
  intro w1 w2
  have o := mq_on hg hg0 ht hi hj v1 v2 (by rw [k1]; grind) (by rw [k2]; grind)
  rw [e108,e109,e110] at o
  have o2 : f*(z100*z30+z98*z31+z107)=0 := by rw [← o]; grind
  have o3 := (Rat.mul_eq_zero.1 o2).resolve_left hf
  rw [e107,e106,e105,e104,e100,e99,e98] at o3
  rw [k1,k2] at o3
  rw [show (z88 - z2)=z88 - z0 - z6 by rw [e6]; grind,show (z92 - z3)=z92 - z1 - z7 by rw [e7]; grind]
  clear A1 B1 B2 hE hD hB hB2 hA hA2 nT u0 u1 u2 hm hn ht hi hj v1 v2 hg hg0 hf hmn hll Rm Rn A2 hV hW hW0 s1 s2 w1 w2 o o2 k1 k2 hk hl hk1 h0
  grind
 obtain ⟨Y,Z,y1,y2,hC⟩ := mq_c3 nT hk hE hD hA2 hB2 hV hW hv
 have hd : z204=-(((z18 - z4)*(z18 - z4)+(z19 - z5)*(z19 - z5))*((z25 - z4)*(z129 - z5) - (z26 - z5)*(z128 - z4)) - ((z25 - z4)*(z25 - z4)+(z26 - z5)*(z26 - z5))*((z18 - z4)*(z129 - z5) - (z19 - z5)*(z128 - z4))+((z128 - z4)*(z128 - z4)+(z129 - z5)*(z129 - z5))*((z18 - z4)*(z26 - z5) - (z19 - z5)*(z25 - z4))) := by
  rw [e204,e203,e202,e201,e200,e199,e198,e197,e196,e195,e194,e193,e192,e191,e190,e189,e188,e187,e186,e185,e184,e183,e182,e181,e180,e179,e178,e177,e176,e175,e174,e173,e172,e171,e170,e169,e168,e167,e166,e165,e164,e163,e162,e161,e160,e159,e158,e157,e156,e155,e154,e153,e152,e151,e150,e149,e148,e147,e146,e145,e144,e143,e142,e141,e140,e139,e138,e137,e136,e135,e134,e133,e132,e131,e130,e125,e82,e81,e80,e55,e54,e53]
  clear A1 B1 B2 hE hD hB hB2 hA hA2 nT u0 u1 u2 hm hn ht hi hj v1 v2 hg hg0 hf hmn hll Rm Rn A2 hV hW hW0 s1 s2 k1 k2 hk hl hk1 h0 hv hC y1 y2
  grind
 have pp0 : z18 - z4=(1 - z13)*(z6 - z8) := by rw [e18,e16]; rw [e14,e6,e8]; grind
 have qq0 : z25 - z4=-(z20*z8) := by rw [e25,e23]; rw [e21,e8]; grind
 have vv0 : z128 - z4=(z128 - z0) - z8 := by rw [e8]; grind
 have pp1 : z19 - z5=(1 - z13)*(z7 - z9) := by rw [e19,e17]; rw [e15,e7,e9]; grind
 have qq1 : z26 - z5=-(z20*z9) := by rw [e26,e24]; rw [e22,e9]; grind
 have vv1 : z129 - z5=(z129 - z1) - z9 := by rw [e9]; grind
 have hd0 : z204=0 := by
  rw [hd,pp0,pp1,qq0,qq1,vv0,vv1]
  rw [y1,y2] at hC ⊢
  clear A1 B1 B2 hE hD hB hB2 hA hA2 nT u0 u1 u2 hm hn ht hi hj v1 v2 hg hg0 hf hmn hll Rm Rn A2 hV hW hW0 s1 s2 k1 k2 hk hl hk1 h0 hv y1 y2 pp0 pp1 qq0 qq1 vv0 vv1 hd
  have key : ∀ (d1 d2 e1 e2 k k1 Y Z : Rat),-(((1 - k)*(d1 - e1)*((1 - k)*(d1 - e1))+(1 - k)*(d2 - e2)*((1 - k)*(d2 - e2)))*(-(k1*e1)*(Y*d2+Z*e2 - e2) - -(k1*e2)*(Y*d1+Z*e1 - e1)) - (-(k1*e1)*-(k1*e1)+-(k1*e2)*-(k1*e2))*((1 - k)*(d1 - e1)*(Y*d2+Z*e2 - e2) - (1 - k)*(d2 - e2)*(Y*d1+Z*e1 - e1))+((Y*d1+Z*e1 - e1)*(Y*d1+Z*e1 - e1)+(Y*d2+Z*e2 - e2)*(Y*d2+Z*e2 - e2))*((1 - k)*(d1 - e1)*-(k1*e2) - (1 - k)*(d2 - e2)*-(k1*e1)))=((1 - k)*k1*(d1*e2 - d2*e1))*((Y*d1+Z*e1 - e1)*(Y*d1+Z*e1 - e1)+(Y*d2+Z*e2 - e2)*(Y*d2+Z*e2 - e2) - (1 - Y - Z)*k1*(e1*e1+e2*e2) - Y*(1 - k)*((e1 - d1)*(e1 - d1)+(e2 - d2)*(e2 - d2))) := by
   intros; grind
  rw [key,hC,Rat.mul_zero]
 have wq0 : z272=z8*(1 - z20) - (z128 - z0) := by rw [e272]; rw [e25,e23,e21,e8]; grind
 have ws0 : z318=z6*z27 - (z128 - z0) := by rw [e318]; rw [e30,e28,e6]; grind
 have ws0b : z318=-z6*(1 - z27) - (z128 - z2) := by rw [ws0,e6]; grind
 have wp0 : z231=z14*z13 - (z128 - z2) := by rw [e231]; rw [e18,e16]; grind
 have gg0 : z21=-z8 := by rw [e21,e8]; grind
 have wq1 : z273=z9*(1 - z20) - (z129 - z1) := by rw [e273]; rw [e26,e24,e22,e9]; grind
 have ws1 : z319=z7*z27 - (z129 - z1) := by rw [e319]; rw [e31,e29,e7]; grind
 have ws1b : z319=-z7*(1 - z27) - (z129 - z3) := by rw [ws1,e7]; grind
 have wp1 : z232=z15*z13 - (z129 - z3) := by rw [e232]; rw [e19,e17]; grind
 have gg1 : z22=-z9 := by rw [e22,e9]; grind
 have c1 := mq_par hE hD hV
 rw [← wq0,← wq1,← ws0,← ws1] at c1
 have c2 := mq_par (e1 := -z6) (e2 := -z7) (d1 := z14) (d2 := z15) (k := z13) (l := 1 - z27) (M1 := (z88 - z2)) (M2 := (z92 - z3)) (by clear c1 hd hd0 hC hV hW hW0 hv Rm Rn A1 A2 B1 B2 hE hD hB hB2 hA hm hn; grind) (by rw [e14,e15]; exact hB) hW0
 rw [← ws0b,← ws1b,← wp0,← wp1] at c2
 refine ⟨hmn,hll,hg0,hd0,?_,?_⟩
 ·rw [gg0,gg1]; clear c2; grind
 ·clear c1; grind
theorem aM_Ge (H : aM_Q q σ) : (¬ (q 12=0))→(¬ (q 38=0))→(¬ (q 45=0))→(¬ (q 97=0)∧¬ (q 103=0)∧¬ (q 113=0)∧q 204=0∧((q 21*q 272+q 22*q 273)*(q 6*q 319-q 7*q 318)-(q 21*q 273-q 22*q 272)*(q 6*q 318+q 7*q 319)=0)∧((q 6*q 318+q 7*q 319)*(q 14*q 232-q 15*q 231)-(q 6*q 319-q 7*q 318)*(q 14*q 231+q 15*q 232)=0)) := by
 have e6:q 6=q 2-q 0:=H 6 _ rfl;have e7:q 7=q 3-q 1:=H 7 _ rfl;have e8:q 8=q 4-q 0:=H 8 _ rfl;have e9:q 9=q 5-q 1:=H 9 _ rfl;have e10:q 10=q 6*q 9:=H 10 _ rfl;have e11:q 11=q 7*q 8:=H 11 _ rfl;have e12:q 12=q 10-q 11:=H 12 _ rfl;have e14:q 14=q 4-q 2:=H 14 _ rfl;have e15:q 15=q 5-q 3:=H 15 _ rfl;have e16:q 16=q 14*q 13:=H 16 _ rfl;have e17:q 17=q 15*q 13:=H 17 _ rfl;have e18:q 18=q 2+q 16:=H 18 _ rfl;have e19:q 19=q 3+q 17:=H 19 _ rfl;have e21:q 21=q 0-q 4:=H 21 _ rfl;have e22:q 22=q 1-q 5:=H 22 _ rfl;have e23:q 23=q 21*q 20:=H 23 _ rfl;have e24:q 24=q 22*q 20:=H 24 _ rfl;have e25:q 25=q 4+q 23:=H 25 _ rfl;have e26:q 26=q 5+q 24:=H 26 _ rfl;have e28:q 28=q 6*q 27:=H 28 _ rfl;have e29:q 29=q 7*q 27:=H 29 _ rfl;have e30:q 30=q 0+q 28:=H 30 _ rfl;have e31:q 31=q 1+q 29:=H 31 _ rfl;have e32:q 32=q 25-q 0:=H 32 _ rfl;have e33:q 33=q 26-q 1:=H 33 _ rfl;have e34:q 34=q 30-q 0:=H 34 _ rfl;have e35:q 35=q 31-q 1:=H 35 _ rfl;have e36:q 36=q 32*q 35:=H 36 _ rfl;have e37:q 37=q 33*q 34:=H 37 _ rfl;have e38:q 38=q 36-q 37:=H 38 _ rfl;have e39:q 39=q 30-q 2:=H 39 _ rfl;have e40:q 40=q 31-q 3:=H 40 _ rfl;have e41:q 41=q 18-q 2:=H 41 _ rfl;have e42:q 42=q 19-q 3:=H 42 _ rfl;have e43:q 43=q 39*q 42:=H 43 _ rfl;have e44:q 44=q 40*q 41:=H 44 _ rfl;have e45:q 45=q 43-q 44:=H 45 _ rfl;have e53:q 53=q 25*q 25:=H 53 _ rfl;have e54:q 54=q 26*q 26:=H 54 _ rfl;have e55:q 55=q 53+q 54:=H 55 _ rfl;have e56:q 56=q 0*q 0:=H 56 _ rfl;have e57:q 57=q 1*q 1:=H 57 _ rfl;have e58:q 58=q 56+q 57:=H 58 _ rfl;have e59:q 59=q 55-q 58:=H 59 _ rfl;have e60:q 60=2:=(H 60 _ rfl).trans aM_c60;have e61:q 61=q 59/q 60:=H 61 _ rfl;have e62:q 62=q 30*q 30:=H 62 _ rfl;have e63:q 63=q 31*q 31:=H 63 _ rfl;have e64:q 64=q 62+q 63:=H 64 _ rfl;have e65:q 65=q 64-q 58:=H 65 _ rfl;have e66:q 66=q 65/q 60:=H 66 _ rfl;have e67:q 67=q 61*q 35:=H 67 _ rfl;have e68:q 68=q 66*q 33:=H 68 _ rfl;have e69:q 69=q 67-q 68:=H 69 _ rfl;have e70:q 70=q 69/q 38:=H 70 _ rfl;have e71:q 71=q 32*q 66:=H 71 _ rfl;have e72:q 72=q 34*q 61:=H 72 _ rfl;have e73:q 73=q 71-q 72:=H 73 _ rfl;have e74:q 74=q 73/q 38:=H 74 _ rfl;have e75:q 75=q 2*q 2:=H 75 _ rfl;have e76:q 76=q 3*q 3:=H 76 _ rfl;have e77:q 77=q 75+q 76:=H 77 _ rfl;have e78:q 78=q 64-q 77:=H 78 _ rfl;have e79:q 79=q 78/q 60:=H 79 _ rfl;have e80:q 80=q 18*q 18:=H 80 _ rfl;have e81:q 81=q 19*q 19:=H 81 _ rfl;have e82:q 82=q 80+q 81:=H 82 _ rfl;have e83:q 83=q 82-q 77:=H 83 _ rfl;have e84:q 84=q 83/q 60:=H 84 _ rfl;have e85:q 85=q 79*q 42:=H 85 _ rfl;have e86:q 86=q 84*q 40:=H 86 _ rfl;have e87:q 87=q 85-q 86:=H 87 _ rfl;have e88:q 88=q 87/q 45:=H 88 _ rfl;have e89:q 89=q 39*q 84:=H 89 _ rfl;have e90:q 90=q 41*q 79:=H 90 _ rfl;have e91:q 91=q 89-q 90:=H 91 _ rfl;have e92:q 92=q 91/q 45:=H 92 _ rfl;have e93:q 93=q 70-q 88:=H 93 _ rfl;have e94:q 94=q 74-q 92:=H 94 _ rfl;have e95:q 95=q 93*q 93:=H 95 _ rfl;have e96:q 96=q 94*q 94:=H 96 _ rfl;have e97:q 97=q 95+q 96:=H 97 _ rfl;have e98:q 98=q 88-q 70:=H 98 _ rfl;have e99:q 99=q 92-q 74:=H 99 _ rfl;have e100:q 100=-q 99:=H 100 _ rfl;have e101:q 101=q 100*q 100:=H 101 _ rfl;have e102:q 102=q 98*q 98:=H 102 _ rfl;have e103:q 103=q 101+q 102:=H 103 _ rfl;have e104:q 104=q 100*q 70:=H 104 _ rfl;have e105:q 105=q 98*q 74:=H 105 _ rfl;have e106:q 106=q 104+q 105:=H 106 _ rfl;have e107:q 107=-q 106:=H 107 _ rfl;have e108:q 108=q 100*fac [q 100,q 98,q 107]:=H 108 _ rfl;have e109:q 109=q 98*fac [q 100,q 98,q 107]:=H 109 _ rfl;have e110:q 110=q 107*fac [q 100,q 98,q 107]:=H 110 _ rfl;have e111:q 111=q 108*q 108:=H 111 _ rfl;have e112:q 112=q 109*q 109:=H 112 _ rfl;have e113:q 113=q 111+q 112:=H 113 _ rfl;have e114:q 114=q 108*q 30:=H 114 _ rfl;have e115:q 115=q 109*q 31:=H 115 _ rfl;have e116:q 116=q 114+q 115:=H 116 _ rfl;have e117:q 117=q 116+q 110:=H 117 _ rfl;have e118:q 118=-q 117:=H 118 _ rfl;have e119:q 119=q 108*q 118:=H 119 _ rfl;have e120:q 120=q 109*q 118:=H 120 _ rfl;have e121:q 121=q 119/q 113:=H 121 _ rfl;have e122:q 122=q 120/q 113:=H 122 _ rfl;have e123:q 123=q 121*q 60:=H 123 _ rfl;have e124:q 124=q 122*q 60:=H 124 _ rfl;have e125:q 125=0:=(H 125 _ rfl).trans aM_c125;have e126:q 126=q 125+q 30:=H 126 _ rfl;have e127:q 127=q 125+q 31:=H 127 _ rfl;have e128:q 128=q 126+q 123:=H 128 _ rfl;have e129:q 129=q 127+q 124:=H 129 _ rfl;have e130:q 130=q 4*q 4:=H 130 _ rfl;have e131:q 131=q 5*q 5:=H 131 _ rfl;have e132:q 132=q 130+q 131:=H 132 _ rfl;have e133:q 133=1:=(H 133 _ rfl).trans aM_c133;have e134:q 134=q 128*q 128:=H 134 _ rfl;have e135:q 135=q 129*q 129:=H 135 _ rfl;have e136:q 136=q 134+q 135:=H 136 _ rfl;have e137:q 137=q 26*q 133:=H 137 _ rfl;have e138:q 138=q 125+q 137:=H 138 _ rfl;have e139:q 139=q 133*q 129:=H 139 _ rfl;have e140:q 140=-q 139:=H 140 _ rfl;have e141:q 141=q 138+q 140:=H 141 _ rfl;have e142:q 142=q 18*q 141:=H 142 _ rfl;have e143:q 143=q 125+q 142:=H 143 _ rfl;have e144:q 144=q 25*q 133:=H 144 _ rfl;have e145:q 145=q 125+q 144:=H 145 _ rfl;have e146:q 146=q 133*q 128:=H 146 _ rfl;have e147:q 147=-q 146:=H 147 _ rfl;have e148:q 148=q 145+q 147:=H 148 _ rfl;have e149:q 149=q 19*q 148:=H 149 _ rfl;have e150:q 150=-q 149:=H 150 _ rfl;have e151:q 151=q 143+q 150:=H 151 _ rfl;have e152:q 152=q 25*q 129:=H 152 _ rfl;have e153:q 153=q 125+q 152:=H 153 _ rfl;have e154:q 154=q 26*q 128:=H 154 _ rfl;have e155:q 155=-q 154:=H 155 _ rfl;have e156:q 156=q 153+q 155:=H 156 _ rfl;have e157:q 157=q 133*q 156:=H 157 _ rfl;have e158:q 158=q 151+q 157:=H 158 _ rfl;have e159:q 159=q 132*q 158:=H 159 _ rfl;have e160:q 160=q 125+q 159:=H 160 _ rfl;have e161:q 161=q 82*q 141:=H 161 _ rfl;have e162:q 162=q 125+q 161:=H 162 _ rfl;have e163:q 163=q 55*q 133:=H 163 _ rfl;have e164:q 164=q 125+q 163:=H 164 _ rfl;have e165:q 165=q 133*q 136:=H 165 _ rfl;have e166:q 166=-q 165:=H 166 _ rfl;have e167:q 167=q 164+q 166:=H 167 _ rfl;have e168:q 168=q 19*q 167:=H 168 _ rfl;have e169:q 169=-q 168:=H 169 _ rfl;have e170:q 170=q 162+q 169:=H 170 _ rfl;have e171:q 171=q 55*q 129:=H 171 _ rfl;have e172:q 172=q 125+q 171:=H 172 _ rfl;have e173:q 173=q 26*q 136:=H 173 _ rfl;have e174:q 174=-q 173:=H 174 _ rfl;have e175:q 175=q 172+q 174:=H 175 _ rfl;have e176:q 176=q 133*q 175:=H 176 _ rfl;have e177:q 177=q 170+q 176:=H 177 _ rfl;have e178:q 178=q 4*q 177:=H 178 _ rfl;have e179:q 179=-q 178:=H 179 _ rfl;have e180:q 180=q 160+q 179:=H 180 _ rfl;have e181:q 181=q 82*q 148:=H 181 _ rfl;have e182:q 182=q 125+q 181:=H 182 _ rfl;have e183:q 183=q 18*q 167:=H 183 _ rfl;have e184:q 184=-q 183:=H 184 _ rfl;have e185:q 185=q 182+q 184:=H 185 _ rfl;have e186:q 186=q 55*q 128:=H 186 _ rfl;have e187:q 187=q 125+q 186:=H 187 _ rfl;have e188:q 188=q 25*q 136:=H 188 _ rfl;have e189:q 189=-q 188:=H 189 _ rfl;have e190:q 190=q 187+q 189:=H 190 _ rfl;have e191:q 191=q 133*q 190:=H 191 _ rfl;have e192:q 192=q 185+q 191:=H 192 _ rfl;have e193:q 193=q 5*q 192:=H 193 _ rfl;have e194:q 194=q 180+q 193:=H 194 _ rfl;have e195:q 195=q 82*q 156:=H 195 _ rfl;have e196:q 196=q 125+q 195:=H 196 _ rfl;have e197:q 197=q 18*q 175:=H 197 _ rfl;have e198:q 198=-q 197:=H 198 _ rfl;have e199:q 199=q 196+q 198:=H 199 _ rfl;have e200:q 200=q 19*q 190:=H 200 _ rfl;have e201:q 201=q 199+q 200:=H 201 _ rfl;have e202:q 202=q 133*q 201:=H 202 _ rfl;have e203:q 203=-q 202:=H 203 _ rfl;have e204:q 204=q 194+q 203:=H 204 _ rfl;have e231:q 231=q 18-q 128:=H 231 _ rfl;have e232:q 232=q 19-q 129:=H 232 _ rfl;have e272:q 272=q 25-q 128:=H 272 _ rfl;have e273:q 273=q 26-q 129:=H 273 _ rfl;have e318:q 318=q 30-q 128:=H 318 _ rfl;have e319:q 319=q 31-q 129:=H 319 _ rfl
 exact aM_Gez e6 e7 e8 e9 e10 e11 e12 e14 e15 e16 e17 e18 e19 e21 e22 e23 e24 e25 e26 e28 e29 e30 e31 e32 e33 e34 e35 e36 e37 e38 e39 e40 e41 e42 e43 e44 e45 e53 e54 e55 e56 e57 e58 e59 e60 e61 e62 e63 e64 e65 e66 e67 e68 e69 e70 e71 e72 e73 e74 e75 e76 e77 e78 e79 e80 e81 e82 e83 e84 e85 e86 e87 e88 e89 e90 e91 e92 e93 e94 e95 e96 e97 e98 e99 e100 e101 e102 e103 e104 e105 e106 e107 e108 e109 e110 e111 e112 e113 e114 e115 e116 e117 e118 e119 e120 e121 e122 e123 e124 e125 e126 e127 e128 e129 e130 e131 e132 e133 e134 e135 e136 e137 e138 e139 e140 e141 e142 e143 e144 e145 e146 e147 e148 e149 e150 e151 e152 e153 e154 e155 e156 e157 e158 e159 e160 e161 e162 e163 e164 e165 e166 e167 e168 e169 e170 e171 e172 e173 e174 e175 e176 e177 e178 e179 e180 e181 e182 e183 e184 e185 e186 e187 e188 e189 e190 e191 e192 e193 e194 e195 e196 e197 e198 e199 e200 e201 e202 e203 e204 e231 e232 e272 e273 e318 e319
theorem aM_Spz {z0 z1 z2 z3 z4 z5 z6 z7 z8 z9 z10 z11 z12 z14 z15 z18 z19 z128 z129 z205 z206 z207 z208 z209 z220 z221 z222 z223 z227 z228 z229 z231 z232 z233 z234 z235 z236 z240 z241 z242 z244 z245 z246 z247 z248 z249 z250 z251 z252 z253 z254 z255 z256 z257 z258 : Rat} : z6=z2-z0→z7=z3-z1→z8=z4-z0→z9=z5-z1→z10=z6*z9→z11=z7*z8→z12=z10-z11→z14=z4-z2→z15=z5-z3→z205=z128-z18→z206=z129-z19→z207=z205*z205→z208=z206*z206→z209=z207+z208→z220=-z15→z221=z220*z220→z222=z14*z14→z223=z221+z222→z228=z220*fac [z220,z14,z227]→z229=z14*fac [z220,z14,z227]→z231=z18-z128→z232=z19-z129→z233=-z232→z234=z233*z233→z235=z231*z231→z236=z234+z235→z241=z233*fac [z233,z231,z240]→z242=z231*fac [z233,z231,z240]→z244=z228*z228→z245=z229*z229→z246=z244+z245→z247=z241*z241→z248=z242*z242→z249=z247+z248→z250=-z229→z251=-z242→z252=z228*z241→z253=z250*z251→z254=z252+z253→z255=-z250→z256=z228*z242→z257=z255*z241→z258=z256-z257→(¬ (z12=0))→(¬ (z209=0))→(¬ (z223=0)∧¬ (z236=0)∧¬ (z246=0)∧¬ (z249=0)∧¬ (z14*z14+z15*z15=0)∧¬ (z231*z231+z232*z232=0)∧∃ F : Rat,F ≠ 0∧z254=F*(z14*z231+z15*z232)∧z258=F*(z14*z232-z15*z231)) := by
 intro e6 e7 e8 e9 e10 e11 e12 e14 e15 e205 e206 e207 e208 e209 e220 e221 e222 e223 e228 e229 e231 e232 e233 e234 e235 e236 e241 e242 e244 e245 e246 e247 e248 e249 e250 e251 e252 e253 e254 e255 e256 e257 e258
 intro u0 uv
 have hD : ¬ (z14*z14+z15*z15=0) := fun h => by
  obtain ⟨a,b⟩ := mq_sqz h
  refine u0 ?_
  rw [e12,e10,e11]
  rw [e14] at a; rw [e15] at b
  rw [e6,e7,e8,e9]
  clear h
  rw [show z4=z2 by grind,show z5=z3 by grind]; grind
 have hW : ¬ (z231*z231+z232*z232=0) := fun h => uv (by rw [e209,e208,e207,e206,e205]; rw [e231,e232] at h; rw [← h]; clear h; grind)
 have ⟨x1,x2,F,hF,x3,x4⟩ := mq_pair (D1 := z14) (D2 := z15) (W1 := z231) (W2 := z232) e220 rfl e233 rfl e228 e229 e241 e242 (show z254=z228*z241+-z229*-z242 by rw [e254,e252,e253,e250,e251]) (show z258=z228*z242 - - -z229*z241 by rw [e258,e256,e257,e255,e250]) hD hW
 refine ⟨fun h => hD ?_,fun h => hW ?_,fun h => x1 ?_,fun h => x2 ?_,hD,hW,F,hF,x3,x4⟩
 ·rw [e223,e222,e221,e220] at h; rw [← h]; clear h; grind
 ·rw [e236,e235,e234,e233] at h; rw [← h]; clear h; grind
 ·rw [e246,e244,e245] at h; exact h
 ·rw [e249,e247,e248] at h; exact h
theorem aM_Sp (H : aM_Q q σ) : (¬ (q 12=0))→(¬ (q 209=0))→(¬ (q 223=0)∧¬ (q 236=0)∧¬ (q 246=0)∧¬ (q 249=0)∧¬ (q 14*q 14+q 15*q 15=0)∧¬ (q 231*q 231+q 232*q 232=0)∧∃ F : Rat,F ≠ 0∧q 254=F*(q 14*q 231+q 15*q 232)∧q 258=F*(q 14*q 232-q 15*q 231)) := by
 have e6:q 6=q 2-q 0:=H 6 _ rfl;have e7:q 7=q 3-q 1:=H 7 _ rfl;have e8:q 8=q 4-q 0:=H 8 _ rfl;have e9:q 9=q 5-q 1:=H 9 _ rfl;have e10:q 10=q 6*q 9:=H 10 _ rfl;have e11:q 11=q 7*q 8:=H 11 _ rfl;have e12:q 12=q 10-q 11:=H 12 _ rfl;have e14:q 14=q 4-q 2:=H 14 _ rfl;have e15:q 15=q 5-q 3:=H 15 _ rfl;have e205:q 205=q 128-q 18:=H 205 _ rfl;have e206:q 206=q 129-q 19:=H 206 _ rfl;have e207:q 207=q 205*q 205:=H 207 _ rfl;have e208:q 208=q 206*q 206:=H 208 _ rfl;have e209:q 209=q 207+q 208:=H 209 _ rfl;have e220:q 220=-q 15:=H 220 _ rfl;have e221:q 221=q 220*q 220:=H 221 _ rfl;have e222:q 222=q 14*q 14:=H 222 _ rfl;have e223:q 223=q 221+q 222:=H 223 _ rfl;have e228:q 228=q 220*fac [q 220,q 14,q 227]:=H 228 _ rfl;have e229:q 229=q 14*fac [q 220,q 14,q 227]:=H 229 _ rfl;have e231:q 231=q 18-q 128:=H 231 _ rfl;have e232:q 232=q 19-q 129:=H 232 _ rfl;have e233:q 233=-q 232:=H 233 _ rfl;have e234:q 234=q 233*q 233:=H 234 _ rfl;have e235:q 235=q 231*q 231:=H 235 _ rfl;have e236:q 236=q 234+q 235:=H 236 _ rfl;have e241:q 241=q 233*fac [q 233,q 231,q 240]:=H 241 _ rfl;have e242:q 242=q 231*fac [q 233,q 231,q 240]:=H 242 _ rfl;have e244:q 244=q 228*q 228:=H 244 _ rfl;have e245:q 245=q 229*q 229:=H 245 _ rfl;have e246:q 246=q 244+q 245:=H 246 _ rfl;have e247:q 247=q 241*q 241:=H 247 _ rfl;have e248:q 248=q 242*q 242:=H 248 _ rfl;have e249:q 249=q 247+q 248:=H 249 _ rfl;have e250:q 250=-q 229:=H 250 _ rfl;have e251:q 251=-q 242:=H 251 _ rfl;have e252:q 252=q 228*q 241:=H 252 _ rfl;have e253:q 253=q 250*q 251:=H 253 _ rfl;have e254:q 254=q 252+q 253:=H 254 _ rfl;have e255:q 255=-q 250:=H 255 _ rfl;have e256:q 256=q 228*q 242:=H 256 _ rfl;have e257:q 257=q 255*q 241:=H 257 _ rfl;have e258:q 258=q 256-q 257:=H 258 _ rfl
 exact aM_Spz e6 e7 e8 e9 e10 e11 e12 e14 e15 e205 e206 e207 e208 e209 e220 e221 e222 e223 e228 e229 e231 e232 e233 e234 e235 e236 e241 e242 e244 e245 e246 e247 e248 e249 e250 e251 e252 e253 e254 e255 e256 e257 e258
theorem aM_Sqz {z0 z1 z2 z3 z4 z5 z6 z7 z8 z9 z10 z11 z12 z21 z22 z25 z26 z128 z129 z210 z211 z212 z213 z214 z261 z262 z263 z264 z268 z269 z270 z272 z273 z274 z275 z276 z277 z281 z282 z283 z285 z286 z287 z288 z289 z290 z291 z292 z293 z294 z295 z296 z297 z298 z299 : Rat} : z6=z2-z0→z7=z3-z1→z8=z4-z0→z9=z5-z1→z10=z6*z9→z11=z7*z8→z12=z10-z11→z21=z0-z4→z22=z1-z5→z210=z128-z25→z211=z129-z26→z212=z210*z210→z213=z211*z211→z214=z212+z213→z261=-z22→z262=z261*z261→z263=z21*z21→z264=z262+z263→z269=z261*fac [z261,z21,z268]→z270=z21*fac [z261,z21,z268]→z272=z25-z128→z273=z26-z129→z274=-z273→z275=z274*z274→z276=z272*z272→z277=z275+z276→z282=z274*fac [z274,z272,z281]→z283=z272*fac [z274,z272,z281]→z285=z269*z269→z286=z270*z270→z287=z285+z286→z288=z282*z282→z289=z283*z283→z290=z288+z289→z291=-z270→z292=-z283→z293=z269*z282→z294=z291*z292→z295=z293+z294→z296=-z291→z297=z269*z283→z298=z296*z282→z299=z297-z298→(¬ (z12=0))→(¬ (z214=0))→(¬ (z264=0)∧¬ (z277=0)∧¬ (z287=0)∧¬ (z290=0)∧¬ (z21*z21+z22*z22=0)∧¬ (z272*z272+z273*z273=0)∧∃ F : Rat,F ≠ 0∧z295=F*(z21*z272+z22*z273)∧z299=F*(z21*z273-z22*z272)) := by
 intro e6 e7 e8 e9 e10 e11 e12 e21 e22 e210 e211 e212 e213 e214 e261 e262 e263 e264 e269 e270 e272 e273 e274 e275 e276 e277 e282 e283 e285 e286 e287 e288 e289 e290 e291 e292 e293 e294 e295 e296 e297 e298 e299
 intro u0 uv
 have hD : ¬ (z21*z21+z22*z22=0) := fun h => by
  obtain ⟨a,b⟩ := mq_sqz h
  refine u0 ?_
  rw [e12,e10,e11]
  rw [e21] at a; rw [e22] at b
  rw [e6,e7,e8,e9]
  clear h
  rw [show z4=z0 by grind,show z5=z1 by grind]; grind
 have hW : ¬ (z272*z272+z273*z273=0) := fun h => uv (by rw [e214,e213,e212,e211,e210]; rw [e272,e273] at h; rw [← h]; clear h; grind)
 have ⟨x1,x2,F,hF,x3,x4⟩ := mq_pair (D1 := z21) (D2 := z22) (W1 := z272) (W2 := z273) e261 rfl e274 rfl e269 e270 e282 e283 (show z295=z269*z282+-z270*-z283 by rw [e295,e293,e294,e291,e292]) (show z299=z269*z283 - - -z270*z282 by rw [e299,e297,e298,e296,e291]) hD hW
 refine ⟨fun h => hD ?_,fun h => hW ?_,fun h => x1 ?_,fun h => x2 ?_,hD,hW,F,hF,x3,x4⟩
 ·rw [e264,e263,e262,e261] at h; rw [← h]; clear h; grind
 ·rw [e277,e276,e275,e274] at h; rw [← h]; clear h; grind
 ·rw [e287,e285,e286] at h; exact h
 ·rw [e290,e288,e289] at h; exact h
theorem aM_Sq (H : aM_Q q σ) : (¬ (q 12=0))→(¬ (q 214=0))→(¬ (q 264=0)∧¬ (q 277=0)∧¬ (q 287=0)∧¬ (q 290=0)∧¬ (q 21*q 21+q 22*q 22=0)∧¬ (q 272*q 272+q 273*q 273=0)∧∃ F : Rat,F ≠ 0∧q 295=F*(q 21*q 272+q 22*q 273)∧q 299=F*(q 21*q 273-q 22*q 272)) := by
 have e6:q 6=q 2-q 0:=H 6 _ rfl;have e7:q 7=q 3-q 1:=H 7 _ rfl;have e8:q 8=q 4-q 0:=H 8 _ rfl;have e9:q 9=q 5-q 1:=H 9 _ rfl;have e10:q 10=q 6*q 9:=H 10 _ rfl;have e11:q 11=q 7*q 8:=H 11 _ rfl;have e12:q 12=q 10-q 11:=H 12 _ rfl;have e21:q 21=q 0-q 4:=H 21 _ rfl;have e22:q 22=q 1-q 5:=H 22 _ rfl;have e210:q 210=q 128-q 25:=H 210 _ rfl;have e211:q 211=q 129-q 26:=H 211 _ rfl;have e212:q 212=q 210*q 210:=H 212 _ rfl;have e213:q 213=q 211*q 211:=H 213 _ rfl;have e214:q 214=q 212+q 213:=H 214 _ rfl;have e261:q 261=-q 22:=H 261 _ rfl;have e262:q 262=q 261*q 261:=H 262 _ rfl;have e263:q 263=q 21*q 21:=H 263 _ rfl;have e264:q 264=q 262+q 263:=H 264 _ rfl;have e269:q 269=q 261*fac [q 261,q 21,q 268]:=H 269 _ rfl;have e270:q 270=q 21*fac [q 261,q 21,q 268]:=H 270 _ rfl;have e272:q 272=q 25-q 128:=H 272 _ rfl;have e273:q 273=q 26-q 129:=H 273 _ rfl;have e274:q 274=-q 273:=H 274 _ rfl;have e275:q 275=q 274*q 274:=H 275 _ rfl;have e276:q 276=q 272*q 272:=H 276 _ rfl;have e277:q 277=q 275+q 276:=H 277 _ rfl;have e282:q 282=q 274*fac [q 274,q 272,q 281]:=H 282 _ rfl;have e283:q 283=q 272*fac [q 274,q 272,q 281]:=H 283 _ rfl;have e285:q 285=q 269*q 269:=H 285 _ rfl;have e286:q 286=q 270*q 270:=H 286 _ rfl;have e287:q 287=q 285+q 286:=H 287 _ rfl;have e288:q 288=q 282*q 282:=H 288 _ rfl;have e289:q 289=q 283*q 283:=H 289 _ rfl;have e290:q 290=q 288+q 289:=H 290 _ rfl;have e291:q 291=-q 270:=H 291 _ rfl;have e292:q 292=-q 283:=H 292 _ rfl;have e293:q 293=q 269*q 282:=H 293 _ rfl;have e294:q 294=q 291*q 292:=H 294 _ rfl;have e295:q 295=q 293+q 294:=H 295 _ rfl;have e296:q 296=-q 291:=H 296 _ rfl;have e297:q 297=q 269*q 283:=H 297 _ rfl;have e298:q 298=q 296*q 282:=H 298 _ rfl;have e299:q 299=q 297-q 298:=H 299 _ rfl
 exact aM_Sqz e6 e7 e8 e9 e10 e11 e12 e21 e22 e210 e211 e212 e213 e214 e261 e262 e263 e264 e269 e270 e272 e273 e274 e275 e276 e277 e282 e283 e285 e286 e287 e288 e289 e290 e291 e292 e293 e294 e295 e296 e297 e298 e299
theorem aM_Ssz {z0 z1 z2 z3 z4 z5 z6 z7 z8 z9 z10 z11 z12 z30 z31 z128 z129 z215 z216 z217 z218 z219 z307 z308 z309 z310 z314 z315 z316 z318 z319 z320 z321 z322 z323 z327 z328 z329 z331 z332 z333 z334 z335 z336 z337 z338 z339 z340 z341 z342 z343 z344 z345 : Rat} : z6=z2-z0→z7=z3-z1→z8=z4-z0→z9=z5-z1→z10=z6*z9→z11=z7*z8→z12=z10-z11→z215=z128-z30→z216=z129-z31→z217=z215*z215→z218=z216*z216→z219=z217+z218→z307=-z7→z308=z307*z307→z309=z6*z6→z310=z308+z309→z315=z307*fac [z307,z6,z314]→z316=z6*fac [z307,z6,z314]→z318=z30-z128→z319=z31-z129→z320=-z319→z321=z320*z320→z322=z318*z318→z323=z321+z322→z328=z320*fac [z320,z318,z327]→z329=z318*fac [z320,z318,z327]→z331=z315*z315→z332=z316*z316→z333=z331+z332→z334=z328*z328→z335=z329*z329→z336=z334+z335→z337=-z316→z338=-z329→z339=z315*z328→z340=z337*z338→z341=z339+z340→z342=-z337→z343=z315*z329→z344=z342*z328→z345=z343-z344→(¬ (z12=0))→(¬ (z219=0))→(¬ (z310=0)∧¬ (z323=0)∧¬ (z333=0)∧¬ (z336=0)∧¬ (z6*z6+z7*z7=0)∧¬ (z318*z318+z319*z319=0)∧∃ F : Rat,F ≠ 0∧z341=F*(z6*z318+z7*z319)∧z345=F*(z6*z319-z7*z318)) := by
 intro e6 e7 e8 e9 e10 e11 e12 e215 e216 e217 e218 e219 e307 e308 e309 e310 e315 e316 e318 e319 e320 e321 e322 e323 e328 e329 e331 e332 e333 e334 e335 e336 e337 e338 e339 e340 e341 e342 e343 e344 e345
 intro u0 uv
 have hD : ¬ (z6*z6+z7*z7=0) := fun h => by
  obtain ⟨a,b⟩ := mq_sqz h
  refine u0 ?_
  rw [e12,e10,e11]
  rw [a,b]; grind
 have hW : ¬ (z318*z318+z319*z319=0) := fun h => uv (by rw [e219,e218,e217,e216,e215]; rw [e318,e319] at h; rw [← h]; clear h; grind)
 have ⟨x1,x2,F,hF,x3,x4⟩ := mq_pair (D1 := z6) (D2 := z7) (W1 := z318) (W2 := z319) e307 rfl e320 rfl e315 e316 e328 e329 (show z341=z315*z328+-z316*-z329 by rw [e341,e339,e340,e337,e338]) (show z345=z315*z329 - - -z316*z328 by rw [e345,e343,e344,e342,e337]) hD hW
 refine ⟨fun h => hD ?_,fun h => hW ?_,fun h => x1 ?_,fun h => x2 ?_,hD,hW,F,hF,x3,x4⟩
 ·rw [e310,e309,e308,e307] at h; rw [← h]; clear h; grind
 ·rw [e323,e322,e321,e320] at h; rw [← h]; clear h; grind
 ·rw [e333,e331,e332] at h; exact h
 ·rw [e336,e334,e335] at h; exact h
theorem aM_Ss (H : aM_Q q σ) : (¬ (q 12=0))→(¬ (q 219=0))→(¬ (q 310=0)∧¬ (q 323=0)∧¬ (q 333=0)∧¬ (q 336=0)∧¬ (q 6*q 6+q 7*q 7=0)∧¬ (q 318*q 318+q 319*q 319=0)∧∃ F : Rat,F ≠ 0∧q 341=F*(q 6*q 318+q 7*q 319)∧q 345=F*(q 6*q 319-q 7*q 318)) := by
 have e6:q 6=q 2-q 0:=H 6 _ rfl;have e7:q 7=q 3-q 1:=H 7 _ rfl;have e8:q 8=q 4-q 0:=H 8 _ rfl;have e9:q 9=q 5-q 1:=H 9 _ rfl;have e10:q 10=q 6*q 9:=H 10 _ rfl;have e11:q 11=q 7*q 8:=H 11 _ rfl;have e12:q 12=q 10-q 11:=H 12 _ rfl;have e215:q 215=q 128-q 30:=H 215 _ rfl;have e216:q 216=q 129-q 31:=H 216 _ rfl;have e217:q 217=q 215*q 215:=H 217 _ rfl;have e218:q 218=q 216*q 216:=H 218 _ rfl;have e219:q 219=q 217+q 218:=H 219 _ rfl;have e307:q 307=-q 7:=H 307 _ rfl;have e308:q 308=q 307*q 307:=H 308 _ rfl;have e309:q 309=q 6*q 6:=H 309 _ rfl;have e310:q 310=q 308+q 309:=H 310 _ rfl;have e315:q 315=q 307*fac [q 307,q 6,q 314]:=H 315 _ rfl;have e316:q 316=q 6*fac [q 307,q 6,q 314]:=H 316 _ rfl;have e318:q 318=q 30-q 128:=H 318 _ rfl;have e319:q 319=q 31-q 129:=H 319 _ rfl;have e320:q 320=-q 319:=H 320 _ rfl;have e321:q 321=q 320*q 320:=H 321 _ rfl;have e322:q 322=q 318*q 318:=H 322 _ rfl;have e323:q 323=q 321+q 322:=H 323 _ rfl;have e328:q 328=q 320*fac [q 320,q 318,q 327]:=H 328 _ rfl;have e329:q 329=q 318*fac [q 320,q 318,q 327]:=H 329 _ rfl;have e331:q 331=q 315*q 315:=H 331 _ rfl;have e332:q 332=q 316*q 316:=H 332 _ rfl;have e333:q 333=q 331+q 332:=H 333 _ rfl;have e334:q 334=q 328*q 328:=H 334 _ rfl;have e335:q 335=q 329*q 329:=H 335 _ rfl;have e336:q 336=q 334+q 335:=H 336 _ rfl;have e337:q 337=-q 316:=H 337 _ rfl;have e338:q 338=-q 329:=H 338 _ rfl;have e339:q 339=q 315*q 328:=H 339 _ rfl;have e340:q 340=q 337*q 338:=H 340 _ rfl;have e341:q 341=q 339+q 340:=H 341 _ rfl;have e342:q 342=-q 337:=H 342 _ rfl;have e343:q 343=q 315*q 329:=H 343 _ rfl;have e344:q 344=q 342*q 328:=H 344 _ rfl;have e345:q 345=q 343-q 344:=H 345 _ rfl
 exact aM_Ssz e6 e7 e8 e9 e10 e11 e12 e215 e216 e217 e218 e219 e307 e308 e309 e310 e315 e316 e318 e319 e320 e321 e322 e323 e328 e329 e331 e332 e333 e334 e335 e336 e337 e338 e339 e340 e341 e342 e343 e344 e345
theorem aM_E1 (H : aM_Q q σ) : (¬ (q 21*q 21+q 22*q 22=0))→(¬ (q 272*q 272+q 273*q 273=0))→(∃ F : Rat,F ≠ 0∧q 295=F*(q 21*q 272+q 22*q 273)∧q 299=F*(q 21*q 273-q 22*q 272))→(¬ (q 14*q 14+q 15*q 15=0))→(¬ (q 231*q 231+q 232*q 232=0))→(∃ F : Rat,F ≠ 0∧q 254=F*(q 14*q 231+q 15*q 232)∧q 258=F*(q 14*q 232-q 15*q 231))→(¬ (q 6*q 6+q 7*q 7=0))→(¬ (q 318*q 318+q 319*q 319=0))→((q 21*q 272+q 22*q 273)*(q 6*q 319-q 7*q 318)-(q 21*q 273-q 22*q 272)*(q 6*q 318+q 7*q 319)=0)→((q 6*q 318+q 7*q 319)*(q 14*q 232-q 15*q 231)-(q 6*q 319-q 7*q 318)*(q 14*q 231+q 15*q 232)=0)→(q 306=0) := by
 have e259:q 259=q 254*fac [q 254,q 258]:=H 259 _ rfl;have e260:q 260=q 258*fac [q 254,q 258]:=H 260 _ rfl;have e300:q 300=q 295*fac [q 295,q 299]:=H 300 _ rfl;have e301:q 301=q 299*fac [q 295,q 299]:=H 301 _ rfl;have e302:q 302=q 301-q 260:=H 302 _ rfl;have e303:q 303=q 300-q 259:=H 303 _ rfl;have e304:q 304=q 302*q 302:=H 304 _ rfl;have e305:q 305=q 303*q 303:=H 305 _ rfl;have e306:q 306=q 304+q 305:=H 306 _ rfl
 clear H
 intro hDq hWq hxq hDp hWp hxp hDs hWs P1 P2
 obtain ⟨F,hF,a1,a2⟩ := hxq
 obtain ⟨G,hG,b1,b2⟩ := hxp
 have ua : ¬ (q 295=0∧q 299=0) := by rw [a1,a2]; exact mq_fne hF (cy_nz rfl rfl rfl rfl hDq hWq)
 have ub : ¬ (q 254=0∧q 258=0) := by rw [b1,b2]; exact mq_fne hG (cy_nz rfl rfl rfl rfl hDp hWp)
 have cr := mq_tr P1 P2 (cy_nz rfl rfl rfl rfl hDs hWs)
 have t := (cy_two ua ub e300 e301 e259 e260).2 (by rw [a1,a2,b1,b2]; exact mq_cr cr)
 rw [← e303,← e302] at t
 exact (sq2 e304 e305 e306).2 ⟨t.2,t.1⟩
theorem aM_E2 (H : aM_Q q σ) : (¬ (q 6*q 6+q 7*q 7=0))→(¬ (q 318*q 318+q 319*q 319=0))→(∃ F : Rat,F ≠ 0∧q 341=F*(q 6*q 318+q 7*q 319)∧q 345=F*(q 6*q 319-q 7*q 318))→(¬ (q 21*q 21+q 22*q 22=0))→(¬ (q 272*q 272+q 273*q 273=0))→(∃ F : Rat,F ≠ 0∧q 295=F*(q 21*q 272+q 22*q 273)∧q 299=F*(q 21*q 273-q 22*q 272))→((q 21*q 272+q 22*q 273)*(q 6*q 319-q 7*q 318)-(q 21*q 273-q 22*q 272)*(q 6*q 318+q 7*q 319)=0)→(q 352=0) := by
 have e300:q 300=q 295*fac [q 295,q 299]:=H 300 _ rfl;have e301:q 301=q 299*fac [q 295,q 299]:=H 301 _ rfl;have e346:q 346=q 341*fac [q 341,q 345]:=H 346 _ rfl;have e347:q 347=q 345*fac [q 341,q 345]:=H 347 _ rfl;have e348:q 348=q 347-q 301:=H 348 _ rfl;have e349:q 349=q 346-q 300:=H 349 _ rfl;have e350:q 350=q 348*q 348:=H 350 _ rfl;have e351:q 351=q 349*q 349:=H 351 _ rfl;have e352:q 352=q 350+q 351:=H 352 _ rfl
 clear H
 intro hDs hWs hxs hDq hWq hxq P1
 obtain ⟨F,hF,a1,a2⟩ := hxs
 obtain ⟨G,hG,b1,b2⟩ := hxq
 have ua : ¬ (q 341=0∧q 345=0) := by rw [a1,a2]; exact mq_fne hF (cy_nz rfl rfl rfl rfl hDs hWs)
 have ub : ¬ (q 295=0∧q 299=0) := by rw [b1,b2]; exact mq_fne hG (cy_nz rfl rfl rfl rfl hDq hWq)
 have cr : (q 6*q 318+q 7*q 319)*(q 21*q 273 - q 22*q 272) - (q 6*q 319 - q 7*q 318)*(q 21*q 272+q 22*q 273)=0 := by
  generalize (q 6)*q 318+q 7*q 319=a at *
  generalize (q 6)*q 319 - q 7*q 318=b at *
  generalize (q 21)*q 272+q 22*q 273=c at *
  generalize (q 21)*q 273 - q 22*q 272=d at *
  clear a1 a2 b1 b2 ua ub; grind
 have t := (cy_two ua ub e346 e347 e300 e301).2 (by rw [a1,a2,b1,b2]; exact mq_cr cr)
 rw [← e349,← e348] at t
 exact (sq2 e350 e351 e352).2 ⟨t.2,t.1⟩
def aM_cs : List (FuncId × Nat) := [(124,60),(52,61),(53,62),(36,63),(102,63),(272,64),(64,65),(55,66),(156,60)]
def aM_G : Memo := [(268,[qA [100,98,107]],tA [108,109,110]),(96,[rA [2,3],rA [30,31],rA [18,19]],rA [88,92]),(96,[rA [0,1],rA [25,26],rA [30,31]],rA [70,74])]
theorem aM_g0 : memoChk (sx Tryz.prog aM_N [] [] aM_L aM_C aM_Z (prC [93])) aM_cs 5 3 (aM_G.drop 0)=true := by kernel_rfl
theorem aM_memoG {q : Nat→Rat} {σ : Nat→ByteArray} {w : World} (hσ : ∀ j,(σ j).size≤1048576) (hq : ∀ (a : Nat) nd,aM_N[a]? = some nd→q a=valN σ q nd) (h0 : ∀ a,aM_N.length≤a→q a=0) (hp : PreS w) : MemoAll aM_N aM_L aM_C aM_Z q σ [93] w aM_G := by
 have Y : Hy aM_N [] aM_L aM_C aM_Z q σ := hy_ofA hσ aM_wf aM_sz aM_lt aM_cn hq h0 trivial
 have hc : ∀ f ∈ ([93] : List FuncId),Closed f := by simp [closed_angled]
 have hm : (Tryz.prog).follows .mixedOrders=true := by kernel_rfl
 exact (memoAll_chk (M := aM_G.drop 0) Y hc hm hp 3 aM_g0 memoAll_nil)
def aM_M0 : Memo := [(91,[rA [4,5],rA [18,19],rA [25,26],rA [128,129]],(false,[(false,[.inl (.bool true)])]))] ++ aM_G
theorem aM_j0 : memoOneJ (sx Tryz.prog aM_N [(0,204,0,1)] [] aM_L aM_C aM_Z (prC [93])) aM_cs 196 8 aM_M0=true := by kernel_rfl
theorem aM_memoJ0 {q : Nat→Rat} {σ : Nat→ByteArray} {w : World} (hσ : ∀ j,(σ j).size≤1048576) (hq : ∀ (a : Nat) nd,aM_N[a]? = some nd→q a=valN σ q nd) (h0 : ∀ a,aM_N.length≤a→q a=0) (hH : hAll q [(0,204,0,1)]) (hp : PreS w) : MemoAll aM_N aM_L aM_C aM_Z q σ [93] w aM_M0 := by
 have Y : Hy aM_N [(0,204,0,1)] aM_L aM_C aM_Z q σ := hy_ofA hσ aM_wf aM_sz aM_lt aM_cn hq h0 hH
 exact memoAll_J Y (by simp [closed_angled]) (by kernel_rfl) hp _ aM_j0 (aM_memoG hσ hq h0 hp)
theorem aM_r0 : (callJ (sx Tryz.prog aM_N [(0,12,0,1)] [] aM_L aM_C aM_Z (prC [93])) aM_cs aM_G [] 196 4 [] 15 aM_A [] 0).map (·.1)=some (kB true) := by kernel_rfl
theorem aM_r1 : (callJ (sx Tryz.prog aM_N [(0,12,0,0),(0,38,0,1)] [] aM_L aM_C aM_Z (prC [93])) aM_cs aM_G [] 196 4 [] 15 aM_A [] 0).map (·.1)=some (kB true) := by kernel_rfl
theorem aM_r2 : (callJ (sx Tryz.prog aM_N [(0,12,0,0),(0,38,0,0),(0,45,0,1)] [] aM_L aM_C aM_Z (prC [93])) aM_cs aM_G [] 196 4 [] 15 aM_A [] 0).map (·.1)=some (kB true) := by kernel_rfl
theorem aM_r3 : (callJ (sx Tryz.prog aM_N [(0,12,0,0),(0,38,0,0),(0,45,0,0),(0,52,0,1)] [] aM_L aM_C aM_Z (prC [93])) aM_cs aM_G [] 196 4 [] 15 aM_A [] 0).map (·.1)=some (kB true) := by kernel_rfl
theorem aM_r4 : (callJ (sx Tryz.prog aM_N [(0,12,0,0),(0,38,0,0),(0,45,0,0),(0,52,0,0),(0,97,0,0),(0,103,0,0),(0,113,0,0),(0,204,0,1),(0,209,0,1)] [] aM_L aM_C aM_Z (prC [93])) aM_cs aM_G [] 196 7 [] 15 aM_A [] 0).map (·.1)=some (kB true) := by kernel_rfl
theorem aM_r5 : (callJ (sx Tryz.prog aM_N [(0,12,0,0),(0,38,0,0),(0,45,0,0),(0,52,0,0),(0,97,0,0),(0,103,0,0),(0,113,0,0),(0,204,0,1),(0,209,0,0),(0,214,0,1)] [] aM_L aM_C aM_Z (prC [93])) aM_cs aM_G [] 196 7 [] 15 aM_A [] 0).map (·.1)=some (kB true) := by kernel_rfl
theorem aM_r6 : (callJ (sx Tryz.prog aM_N [(0,12,0,0),(0,38,0,0),(0,45,0,0),(0,52,0,0),(0,97,0,0),(0,103,0,0),(0,113,0,0),(0,204,0,1),(0,209,0,0),(0,214,0,0),(0,219,0,1)] [] aM_L aM_C aM_Z (prC [93])) aM_cs aM_G [] 196 7 [] 15 aM_A [] 0).map (·.1)=some (kB true) := by kernel_rfl
theorem aM_r7 : (callJ (sx Tryz.prog aM_N [(0,12,0,0),(0,38,0,0),(0,45,0,0),(0,52,0,0),(0,97,0,0),(0,103,0,0),(0,113,0,0),(0,204,0,1),(0,209,0,0),(0,214,0,0),(0,219,0,0),(0,223,0,0),(0,236,0,0),(0,246,0,0),(0,249,0,0),(0,264,0,0),(0,277,0,0),(0,287,0,0),(0,290,0,0),(0,306,0,1),(0,310,0,0),(0,323,0,0),(0,333,0,0),(0,336,0,0),(0,352,0,1)] [] aM_L aM_C aM_Z (prC [93])) aM_cs aM_M0 [] 196 6 [] 15 aM_A [] 0).map (·.1)=some (kB true) := by kernel_rfl
theorem aM_An {a b : Prop} (x : a) (y : b) : a∧b := ⟨x,y⟩
theorem aM_leafJ {H : List (Nat × Nat × Nat × Nat)} {K : List (FuncId × List AC)} {k : Nat} {q : Nat→Rat} {σ : Nat→ByteArray} {args : List AV} {vs : List Value} {w : World} {M : Memo} (hr : (callJ (sx Tryz.prog aM_N H K aM_L aM_C aM_Z (prC [93])) aM_cs M [] 196 k [] 15 args [] 0).map (·.1)=some (kB true)) (hσ : ∀ j,(σ j).size≤1048576) (hq : ∀ (a : Nat) nd,aM_N[a]? = some nd→q a=valN σ q nd) (h0 : ∀ a,aM_N.length≤a→q a=0) (hH : hAll q H) (hp : PreS w) (hM : MemoAll aM_N aM_L aM_C aM_Z q σ [93] w M) (hA : ∀ K,A2 (avOn (cOn (evS q σ) K (fun _ => none) w)) args vs) : Calls Tryz.prog 15 vs.toArray w fun e w' => Below w.heap.size w w'∧e=.returned (.bool true) :=
 run_toldJ' k (hy_ofA hσ aM_wf aM_sz aM_lt aM_cn hq h0 hH) (by simp [closed_angled]) (by kernel_rfl) hp hM memoX_nil hr (hA K)
theorem aM_walk {w : World} {tax taz tbx tbz tcx tcz ka kb kc : ByteArray} (stax : tax.size≤1048576) (staz : taz.size≤1048576) (stbx : tbx.size≤1048576) (stbz : tbz.size≤1048576) (stcx : tcx.size≤1048576) (stcz : tcz.size≤1048576) (ska : ka.size≤1048576) (skb : kb.size≤1048576) (skc : kc.size≤1048576) (tab : Tab w) (mx : MaxL w) :
  Calls Tryz.prog 15 #[.agg #[.string tax,.string taz,.string tbx,.string tbz,.string tcx,.string tcz],.agg #[.string ka,.string kb,.string kc]] w fun e w' => Below w.heap.size w w'∧e=.returned (.bool true) := by
 have hσ : ∀ j,(sgOf [tax,taz,tbx,tbz,tcx,tcz,ka,kb,kc] j).size≤1048576 := sgOf_size (by simp [stax,staz,stbx,stbz,stcx,stcz,ska,skb,skc])
 obtain ⟨q,hq,h0⟩ := nodes_exist (sgOf [tax,taz,tbx,tbz,tcx,tcz,ka,kb,kc]) aM_N aM_wf
 have hA : ∀ K,A2 (avOn (cOn (evS q (sgOf [tax,taz,tbx,tbz,tcx,tcz,ka,kb,kc])) K (fun _ => none) w)) [(false,[(true,[.inr (2,0,0,0,0),.inr (2,1,0,0,0),.inr (2,2,0,0,0),.inr (2,3,0,0,0),.inr (2,4,0,0,0),.inr (2,5,0,0,0)])]),(false,[(true,[.inr (2,6,0,0,0),.inr (2,7,0,0,0),.inr (2,8,0,0,0)])])] [.agg #[.string tax,.string taz,.string tbx,.string tbz,.string tcx,.string tcz],.agg #[.string ka,.string kb,.string kc]] := fun K => ⟨⟨⟨[.string tax,.string taz,.string tbx,.string tbz,.string tcx,.string tcz],rfl,rfl,rfl,rfl,rfl,rfl,rfl,trivial⟩,trivial⟩,⟨⟨[.string ka,.string kb,.string kc],rfl,rfl,rfl,rfl,trivial⟩,trivial⟩,trivial⟩
 by_cases b12 : q 12=0
 ·
  exact aM_leafJ aM_r0 hσ hq h0 (aM_An (hT b12) trivial) ⟨tab,mx⟩ (aM_memoG hσ hq h0 ⟨tab,mx⟩) hA
 ·
  by_cases b38 : q 38=0
  ·
   exact aM_leafJ aM_r1 hσ hq h0 (aM_An (hF b12) (aM_An (hT b38) trivial)) ⟨tab,mx⟩ (aM_memoG hσ hq h0 ⟨tab,mx⟩) hA
  ·
   by_cases b45 : q 45=0
   ·
    exact aM_leafJ aM_r2 hσ hq h0 (aM_An (hF b12) (aM_An (hF b38) (aM_An (hT b45) trivial))) ⟨tab,mx⟩ (aM_memoG hσ hq h0 ⟨tab,mx⟩) hA
   ·
    by_cases b52 : q 52=0
    ·
     exact aM_leafJ aM_r3 hσ hq h0 (aM_An (hF b12) (aM_An (hF b38) (aM_An (hF b45) (aM_An (hT b52) trivial)))) ⟨tab,mx⟩ (aM_memoG hσ hq h0 ⟨tab,mx⟩) hA
    ·
     have gGe := aM_Ge hq b12 b38 b45
     have b97 : ¬ (q 97=0) := gGe.1
     have b103 : ¬ (q 103=0) := gGe.2.1
     have b113 : ¬ (q 113=0) := gGe.2.2.1
     have b204 : q 204=0 := gGe.2.2.2.1
     by_cases b209 : q 209=0
     ·
      exact aM_leafJ aM_r4 hσ hq h0 (aM_An (hF b12) (aM_An (hF b38) (aM_An (hF b45) (aM_An (hF b52) (aM_An (hF b97) (aM_An (hF b103) (aM_An (hF b113) (aM_An (hT b204) (aM_An (hT b209) trivial))))))))) ⟨tab,mx⟩ (aM_memoG hσ hq h0 ⟨tab,mx⟩) hA
     ·
      by_cases b214 : q 214=0
      ·
       exact aM_leafJ aM_r5 hσ hq h0 (aM_An (hF b12) (aM_An (hF b38) (aM_An (hF b45) (aM_An (hF b52) (aM_An (hF b97) (aM_An (hF b103) (aM_An (hF b113) (aM_An (hT b204) (aM_An (hF b209) (aM_An (hT b214) trivial)))))))))) ⟨tab,mx⟩ (aM_memoG hσ hq h0 ⟨tab,mx⟩) hA
      ·
       by_cases b219 : q 219=0
       ·
        exact aM_leafJ aM_r6 hσ hq h0 (aM_An (hF b12) (aM_An (hF b38) (aM_An (hF b45) (aM_An (hF b52) (aM_An (hF b97) (aM_An (hF b103) (aM_An (hF b113) (aM_An (hT b204) (aM_An (hF b209) (aM_An (hF b214) (aM_An (hT b219) trivial))))))))))) ⟨tab,mx⟩ (aM_memoG hσ hq h0 ⟨tab,mx⟩) hA
       ·
        have gSp := aM_Sp hq b12 b209
        have b223 : ¬ (q 223=0) := gSp.1
        have b236 : ¬ (q 236=0) := gSp.2.1
        have b246 : ¬ (q 246=0) := gSp.2.2.1
        have b249 : ¬ (q 249=0) := gSp.2.2.2.1
        have gSq := aM_Sq hq b12 b214
        have b264 : ¬ (q 264=0) := gSq.1
        have b277 : ¬ (q 277=0) := gSq.2.1
        have b287 : ¬ (q 287=0) := gSq.2.2.1
        have b290 : ¬ (q 290=0) := gSq.2.2.2.1
        have gE1 := aM_E1 hq gSq.2.2.2.2.1 gSq.2.2.2.2.2.1 gSq.2.2.2.2.2.2 gSp.2.2.2.2.1 gSp.2.2.2.2.2.1 gSp.2.2.2.2.2.2 (aM_Ss hq b12 b219).2.2.2.2.1 (aM_Ss hq b12 b219).2.2.2.2.2.1 gGe.2.2.2.2.1 gGe.2.2.2.2.2
        have b306 : q 306=0 := gE1
        have gSs := aM_Ss hq b12 b219
        have b310 : ¬ (q 310=0) := gSs.1
        have b323 : ¬ (q 323=0) := gSs.2.1
        have b333 : ¬ (q 333=0) := gSs.2.2.1
        have b336 : ¬ (q 336=0) := gSs.2.2.2.1
        have gE2 := aM_E2 hq gSs.2.2.2.2.1 gSs.2.2.2.2.2.1 gSs.2.2.2.2.2.2 gSq.2.2.2.2.1 gSq.2.2.2.2.2.1 gSq.2.2.2.2.2.2 gGe.2.2.2.2.1
        have b352 : q 352=0 := gE2
        exact aM_leafJ aM_r7 hσ hq h0 (aM_An (hF b12) (aM_An (hF b38) (aM_An (hF b45) (aM_An (hF b52) (aM_An (hF b97) (aM_An (hF b103) (aM_An (hF b113) (aM_An (hT b204) (aM_An (hF b209) (aM_An (hF b214) (aM_An (hF b219) (aM_An (hF b223) (aM_An (hF b236) (aM_An (hF b246) (aM_An (hF b249) (aM_An (hF b264) (aM_An (hF b277) (aM_An (hF b287) (aM_An (hF b290) (aM_An (hT b306) (aM_An (hF b310) (aM_An (hF b323) (aM_An (hF b333) (aM_An (hF b336) (aM_An (hT b352) trivial))))))))))))))))))))))))) ⟨tab,mx⟩ (aM_memoJ0 hσ hq h0 (aM_An (hT b204) trivial) ⟨tab,mx⟩) hA
end Go.Proofs.YtgemmepbdmbmfaaGreatDoor
