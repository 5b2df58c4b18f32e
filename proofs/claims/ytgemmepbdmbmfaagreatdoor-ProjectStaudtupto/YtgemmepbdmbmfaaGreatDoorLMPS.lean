/- Part 13 of the walks and of the mathematics under them: VP VPC VY VSZ VPD VPE CFprojected MPS. -/
import Derived.Test.YtgemmepbdmbmfaaGreatDoorA2
import Derived.Test.YtgemmepbdmbmfaaGreatDoorA12
set_option maxHeartbeats 16000000
set_option maxRecDepth 100000
/- VP -/
namespace Cx
open Go Go.RowKit
abbrev Hs := List (Nat × Nat × Nat × Nat)
def Sx.plus (S : Sx) (X : Hs) : Sx := { S with H := X ++ S.H }
abbrev Ask := Nat × Nat × Nat × Nat
def askZ (a : Nat) : Ask := (0,a,0,a)
def askOk (S : Sx) : Ask→Bool
 | (k,a,b,d) => (Nat.beq k 0 && (Nat.beq b 0 && Nat.beq d a)) || (Nat.beq k 3 && (match S.N[d]? with
  | some (op,ar) => Nat.beq op 3 && beqL ar [a,b]
  | none => false))
def sqF (S : Sx) : Nat→List Nat→Option Nat
 | s,[] => some s
 | s,a :: l => (S.nd 4 [a,a]).bind fun b => (S.nd 2 [s,b]).bind fun t => sqF S t l
def sqN (S : Sx) : List Nat→Option Nat
 | [] => none
 | a :: l => (S.nd 4 [a,a]).bind fun s => sqF S s l
def acrossB (S : Sx) (a b : Nat) : List Nat→List Nat→Option (List Ask)
 | c :: l,d :: m => (S.nd 4 [a,d]).bind fun x => (S.nd 4 [c,b]).bind fun y => (S.nd 3 [x,y]).bind fun z => (acrossB S a b l m).map fun r => (3,x,y,z) :: r
 | _,_ => some []
def alikeB (S : Sx) : List Nat→List Nat→List Nat→List Nat→Option (List Ask)
 | pl,pm,a :: l,b :: m => (acrossB S a b pl pm).bind fun r => (alikeB S (pl ++ [a]) (pm ++ [b]) l m).map fun t => r ++ t
 | _,_,_,_ => some []
def sameA (S : Sx) : List Nat→List Nat→Option (List Ask)
 | a :: l,b :: m => (S.nd 3 [a,b]).bind fun d => (sameA S l m).map fun r => (3,a,b,d) :: r
 | _,_ => some []
def asks (S : Sx) (h : List HB) (code : Nat) (args : List AV) : Option (List Ask) :=
 match code with
 | 60 => arg1 (fun x => (asA x).bind fun cs => (qRow S cs).map fun l => l.map askZ) args
 | 61 => arg1 (fun x => (rowB h 1 x).bind fun p => (mapO (acX 0) p.2).map fun l => l.map askZ) args
 | 62 => arg2 (fun x y => (rowB h 1 x).bind fun p => (mapO (acX 0) p.2).bind fun l => (rowB h 1 y).bind fun p' => (mapO (acX 0) p'.2).bind fun m => alikeB S [] [] l m) args
 | 63 => arg1 (fun x => (asA x).bind fun cs => (mapO acTold cs).bind fun l => (plainOf S l).map fun xs => xs.map askZ) args
 | 65 => arg1 (fun x => (asA x).bind fun cs => (mapO (acX 0) cs).map fun l => l.map askZ) args
 | 66 => arg2 (fun x y => (asA x).bind fun cs => (asA y).bind fun ds => (mapO (acX 0) cs).bind fun l => (mapO (acX 0) ds).bind fun m => sameA S l m) args
 | 64 => arg1 (fun x => (asA x).bind fun cs => (qRow S cs).map fun l => (l.take 5).map askZ) args
 | _ => none
def splits : List Ask→Hs→List Hs
 | [],_ => []
 | (k,a,b,_) :: l,X => ((k,a,b,0) :: X) :: splits l ((k,a,b,1) :: X)
def allZ : List Ask→Hs→Hs
 | [],X => X
 | (k,a,b,_) :: l,X => allZ l ((k,a,b,1) :: X)
def bodyC (S : Sx) (call : CallF) : CallF := fun f args h nx => S.P.funcs[f]?.bind fun fn => fn.body.bind fun c => ifO (Nat.ble args.length fn.ntmps) ((runB S call fn.ntmps c { tm := numb1 0 args,h := h,nx := nx }).bind fun r =>
   ifO (Nat.ble r.1 1) ((mapO (resB S.P r.2) fn.results.toList).map fun xs => (tupB xs,r.2.h,r.2.nx)))
abbrev CRes := Option (AV × List HB × Nat)
def agree (h : List HB) (b : Bool) (hi : Nat) : CRes→Bool
 | some (v,h',nx') => (match asB v with
  | some c => b == c
  | none => false) && (Nat.ble nx' hi && h.all fun x => h'.any fun y => Nat.beq y.1 x.1 && acsW x.2 y.2)
 | none => false
def topN : Nat→List CRes→Nat
 | m,[] => m
 | m,some p :: rs => topN (bif Nat.ble m p.2.2 then p.2.2 else m) rs
 | m,none :: rs => topN m rs
def joinC (h : List HB) (nx : Nat) (rs : List CRes) : CRes :=
 match rs with
 | some p :: _ => (asB p.1).bind fun b => ifO (rs.all (agree h b (topN nx rs))) (some (kB b,h,topN nx rs))
 | _ => none
def callC (S : Sx) (cs : List (FuncId × Nat)) : Nat→Hs→CallF
 | 0,_,_,_,_,_ => none
 | n+1,X,f,args,h,nx => match prGet f cs with
  | none => bodyC (S.plus X) (callC S cs n X) f args h nx
  | some c => (asks (S.plus X) h c args).bind fun l => ifO (l.all (askOk S)) ((sqN S (l.map (·.2.2.2))).bind fun s => ((S.plus X).kn 0 s 0).bind fun r =>
    bif Nat.beq 1 r then bodyC (S.plus (allZ l X)) (callC S cs n (allZ l X)) f args h nx
    else joinC h nx ((splits l X).map fun X' => bodyC (S.plus X') (callC S cs n X') f args h nx))
section
variable {S : Sx} {E : Ev S.nb} {w0 : World}
theorem bodyC_ok {call : CallF} (hm : S.P.follows .mixedOrders=true) (N : Knows S E) (hP : PrimOk S E w0) (hC : CallOk S E w0 call) : CallOk S E w0 (bodyC S call) := fun f args h nx p hp γ w vs hi hA hb hlt hf => by
 unfold bodyC at hp
 simp only [Option.bind_eq_some_iff,ifO_some,Option.map_eq_some_iff,Nat.ble_eq] at hp
 obtain ⟨fn,h1,c,h2,h3,⟨e,s'⟩,h4,h5,xs,h6,rfl⟩ := hp
 dsimp only at h5 h6
 rcases (show e=0 ∨ e=1 by omega) with rfl | rfl
 all_goals
  obtain ⟨_,_,r⟩ := runB_ok hm N hP hC c _ _ _ h4
  refine calls_of_wp h1 h2 (r γ _ w _ ⟨hi,fun t v q => ?_,hb,hlt,?_,rfl⟩ hf fun a' w' γ' hef hs => ?_)
  ·obtain ⟨_,q2⟩ := numb1_get q
   rw [Nat.sub_zero] at q2
   obtain ⟨u,hu,hv⟩ := hA.get q2
   have hlt : t < vs.length := (List.getElem?_eq_some_iff.1 hu).1
   have : (vs.toArray ++ Array.replicate (fn.ntmps - vs.toArray.size) undef).getD t undef=u := by
    rw [Array.getD_eq_getD_getElem?,Array.getElem?_append_left (by simpa using hlt)]
    simp [hu]
   show avOn _ v ((vs.toArray ++ Array.replicate (fn.ntmps - vs.toArray.size) undef).getD t undef)
   rw [this]
   exact hv
  ·have := hA.len
   simp
   omega
  ·obtain ⟨v,hv,hx⟩ := results_run hs h6
   exact ⟨hs.df,v,hv,v,γ',rfl,hef,hx,hs.bx⟩
theorem asB_kB {v : AV} {b : Bool} (h : asB v=some b) : v=kB b := by
 unfold asB at h
 rw [Option.bind_eq_some_iff] at h
 obtain ⟨c,h1,h2⟩ := h
 unfold asC at h1
 split at h1
 ·cases h1
  unfold acB at h2
  split at h2
  ·cases h2
   rfl
  ·cases h2
 ·cases h1
theorem agree_some {h : List HB} {b : Bool} {hi : Nat} {r : CRes} (hr : agree h b hi r=true) : ∃ h' nx',r=some (kB b,h',nx')∧nx'≤hi∧∀ x ∈ h,x ∈ h' := by
 unfold agree at hr
 split at hr
 ·rename_i v h' nx'
  rw [Bool.and_eq_true,Bool.and_eq_true,Nat.ble_eq,List.all_eq_true] at hr
  obtain ⟨h1,h2,h3⟩ := hr
  refine ⟨h',nx',?_,h2,fun x hx => ?_⟩
  ·split at h1
   ·rename_i c hc
    rw [asB_kB hc,show c=b from (by simpa using h1 : b=c).symm]
   ·cases h1
  ·have := h3 x hx
   rw [List.any_eq_true] at this
   obtain ⟨y,hy,e⟩ := this
   rw [Bool.and_eq_true,Nat.beq_eq] at e
   have : x=y := Prod.ext e.1.symm (acsW_eq e.2)
   rw [this]
   exact hy
 ·cases hr
variable {T : Hs→Prop} {z : Nat→Prop}
def AskTrue (S : Sx) (T : Hs→Prop) (z : Nat→Prop) : Prop := ∀ X,T X→∀ a,askOk S a=true→(z a.2.2.2→T ((a.1,a.2.1,a.2.2.1,1) :: X))∧(¬ z a.2.2.2→T ((a.1,a.2.1,a.2.2.1,0) :: X))
theorem allZ_true (hk : AskTrue S T z) : ∀ {l : List Ask} {X : Hs},T X→(∀ a ∈ l,askOk S a=true)→(∀ a ∈ l,z a.2.2.2)→T (allZ l X)
 | [],_,h,_,_ => h
 | (k,a,b,d) :: l,X,h,ho,hz => allZ_true (l := l) hk ((hk X h (k,a,b,d) (ho _ List.mem_cons_self)).1 (hz _ List.mem_cons_self)) (fun a ha => ho a (List.mem_cons_of_mem _ ha)) (fun a ha => hz a (List.mem_cons_of_mem _ ha))
theorem splits_true (hk : AskTrue S T z) : ∀ {l : List Ask} {X : Hs},T X→(∀ a ∈ l,askOk S a=true)→(∃ a ∈ l,¬ z a.2.2.2)→∃ X' ∈ splits l X,T X'
 | [],_,_,_,⟨_,h,_⟩ => by cases h
 | (k,a,b,d) :: l,X,h,ho,hz => by
  by_cases e : z d
  ·obtain ⟨X',h1,h2⟩ := splits_true (l := l) hk ((hk X h (k,a,b,d) (ho _ List.mem_cons_self)).1 e) (fun a ha => ho a (List.mem_cons_of_mem _ ha)) (by
    obtain ⟨c,hc,hn⟩ := hz
    rcases List.mem_cons.1 hc with rfl | hc
    ·exact (hn e).elim
    ·exact ⟨c,hc,hn⟩)
   exact ⟨X',List.mem_cons_of_mem _ h1,h2⟩
  ·exact ⟨_,List.mem_cons_self,(hk X h (k,a,b,d) (ho _ List.mem_cons_self)).2 e⟩
theorem callC_ok {cs : List (FuncId × Nat)} (hm : S.P.follows .mixedOrders=true) (hN : ∀ X,T X→Knows (S.plus X) E) (hP : ∀ X,T X→PrimOk (S.plus X) E w0) (hk : AskTrue S T z)
  (hs : ∀ X,T X→∀ l s r,sqN S l=some s→(S.plus X).kn 0 s 0=some r→(Nat.beq 1 r=true→∀ d ∈ l,z d)∧(Nat.beq 1 r=false→∃ d ∈ l,¬ z d)) : ∀ n X,T X→CallOk S E w0 (callC S cs n X)
 | 0,_,_ => fun _ _ _ _ _ h => by cases h
 | n+1,X,hX => fun f args h nx p hp => by
  have body : ∀ Y,T Y→CallOk S E w0 (bodyC (S.plus Y) (callC S cs n Y)) := fun Y hY => bodyC_ok (S := S.plus Y) hm (hN Y hY) (hP Y hY) (callC_ok hm hN hP hk hs n Y hY)
  unfold callC at hp
  split at hp
  ·exact body X hX f args h nx p hp
  ·simp only [Option.bind_eq_some_iff,ifO_some,List.all_eq_true] at hp
   obtain ⟨l,_,hl,s,h1,r,h2,h3⟩ := hp
   obtain ⟨a1,a0⟩ := hs X hX _ s r h1 h2
   cases e : Nat.beq 1 r with
   | true =>
    rw [e] at h3
    exact body _ (allZ_true hk hX hl fun a ha => a1 e _ (List.mem_map_of_mem ha)) f args h nx p h3
   | false =>
    rw [e] at h3
    obtain ⟨d,hd,hz⟩ := a0 e
    obtain ⟨a,ha,rfl⟩ := List.mem_map.1 hd
    obtain ⟨X',m1,m2⟩ := splits_true hk hX hl ⟨a,ha,hz⟩
    replace h3 : joinC h nx ((splits l X).map fun X' => bodyC (S.plus X') (callC S cs n X') f args h nx)=some p := h3
    unfold joinC at h3
    split at h3
    ·rename_i p0 rs hrs
     rw [Option.bind_eq_some_iff] at h3
     obtain ⟨b,hb,h4⟩ := h3
     rw [ifO_some,List.all_eq_true] at h4
     obtain ⟨h5,h6⟩ := h4
     cases h6
     obtain ⟨h',nx',q1,q2,q3⟩ := agree_some (h5 _ (List.mem_map_of_mem m1))
     intro γ w vs hi hA hb hlt hf
     refine (body X' m2 f args h nx _ q1 γ w vs hi hA hb hlt fun b g1 g2 => hf b g1 (Nat.lt_of_lt_of_le g2 q2)).mono ?_
     rintro _ w' ⟨r',γ',rfl,hef,hv,hx⟩
     exact ⟨r',γ',rfl,hef.wide (Nat.le_refl _) q2,hv,fun x hh => hx x (q3 x hh)⟩
    ·cases h3
end
end Cx
/- VPC -/
namespace Go.Proofs.YtgemmepbdmbmfaaGreatDoor
open Cx Go Go.RowKit
section
variable {N : List Nd} {H : List (Nat × Nat × Nat × Nat)} {K : List (FuncId × List AC)} {L C : List (List Nat × Nat)} {Z : List Nat} {q : Nat→Rat} {σ : Nat→ByteArray} {w0 : World} {cl : List FuncId} {cs pr : List (FuncId × Nat)}
theorem kn_cons {k a b k' a' b' r' : Nat} {r : Nat} (h : knFrom k a b ((k',a',b',r') :: H)=some r) : (k=k'∧a=a'∧b=b'∧r=r') ∨ knFrom k a b H=some r := by
 unfold knFrom at h
 cases e : (Nat.beq k k' && (Nat.beq a a' && Nat.beq b b')) with
 | true =>
  rw [e] at h
  simp only [Bool.and_eq_true,Nat.beq_eq] at e
  exact Or.inl ⟨e.1,e.2.1,e.2.2,(Option.some.inj h).symm⟩
 | false =>
  rw [e] at h
  exact Or.inr h
theorem Hy.add0 (Y : Hy N H L C Z q σ) {a r : Nat} (h : Nat.beq 1 r=true ↔ q a=0) : Hy N ((0,a,0,r) :: H) L C Z q σ where
 nat := Y.nat
 qs := Y.qs
 zs := Y.zs
 par := Y.par
 lit := Y.lit
 k0 := fun a' r' g => by
  rcases kn_cons g with ⟨_,e1,_,e2⟩ | g
  ·rw [e1,e2]
   exact h
  ·exact Y.k0 a' r' g
 k1 := fun a' r' g => by
  rcases kn_cons g with ⟨e,_⟩ | g
  ·cases e
  ·exact Y.k1 a' r' g
 k2 := fun a' r' g => by
  rcases kn_cons g with ⟨e,_⟩ | g
  ·cases e
  ·exact Y.k2 a' r' g
 k4 := fun l a' b' r' g1 g => by
  rcases kn_cons g with ⟨e,_⟩ | g
  ·cases e
  ·exact Y.k4 l a' b' r' g1 g
 k3 := fun a' b' r' g => by
  rcases kn_cons g with ⟨e,_⟩ | g
  ·cases e
  ·exact Y.k3 a' b' r' g
 k6 := fun a' b' r' g => by
  rcases kn_cons g with ⟨e,_⟩ | g
  ·cases e
  ·exact Y.k6 a' b' r' g
 k5 := fun a' r' g => by
  rcases kn_cons g with ⟨e,_⟩ | g
  ·cases e
  ·exact Y.k5 a' r' g
theorem Hy.add3 (Y : Hy N H L C Z q σ) {a b r : Nat} (h : Nat.beq 1 r=true ↔ q a=q b) : Hy N ((3,a,b,r) :: H) L C Z q σ where
 nat := Y.nat
 qs := Y.qs
 zs := Y.zs
 par := Y.par
 lit := Y.lit
 k0 := fun a' r' g => by
  rcases kn_cons g with ⟨e,_⟩ | g
  ·cases e
  ·exact Y.k0 a' r' g
 k1 := fun a' r' g => by
  rcases kn_cons g with ⟨e,_⟩ | g
  ·cases e
  ·exact Y.k1 a' r' g
 k2 := fun a' r' g => by
  rcases kn_cons g with ⟨e,_⟩ | g
  ·cases e
  ·exact Y.k2 a' r' g
 k4 := fun l a' b' r' g1 g => by
  rcases kn_cons g with ⟨e,_⟩ | g
  ·cases e
  ·exact Y.k4 l a' b' r' g1 g
 k3 := fun a' b' r' g => by
  rcases kn_cons g with ⟨_,e1,e2,e3⟩ | g
  ·rw [e1,e2,e3]
   exact h
  ·exact Y.k3 a' b' r' g
 k6 := fun a' b' r' g => by
  rcases kn_cons g with ⟨e,_⟩ | g
  ·cases e
  ·exact Y.k6 a' b' r' g
 k5 := fun a' r' g => by
  rcases kn_cons g with ⟨e,_⟩ | g
  ·cases e
  ·exact Y.k5 a' r' g
theorem ask_true : AskTrue (sx Tryz.prog N H K L C Z pr) (fun X => Hy N (X ++ H) L C Z q σ) (fun d => q d=0) := fun X Y a ha => by
 obtain ⟨k,a,b,d⟩ := a
 have t1 : Nat.beq 1 1=true := rfl
 have t0 : Nat.beq 1 0 ≠ true := fun h => by cases h
 unfold askOk at ha
 rw [Bool.or_eq_true] at ha
 rcases ha with ha | ha
 ·simp only [Bool.and_eq_true,Nat.beq_eq] at ha
  obtain ⟨rfl,rfl,rfl⟩ := ha
  exact ⟨fun h => Hy.add0 Y ⟨fun _ => h,fun _ => t1⟩,fun h => Hy.add0 Y ⟨fun g => (t0 g).elim,fun g => (h g).elim⟩⟩
 ·rw [Bool.and_eq_true,Nat.beq_eq] at ha
  obtain ⟨rfl,hb⟩ := ha
  split at hb
  ·rename_i op ar hn
   rw [Bool.and_eq_true,Nat.beq_eq] at hb
   obtain ⟨rfl,hb⟩ := hb
   have e := beqL_eq hb
   subst e
   have hv : q d=q a - q b := Y.nat d _ hn
   have h2 : q d=0 ↔ q a=q b := by
    rw [hv]
    constructor <;> intro h <;> grind
   exact ⟨fun h => Hy.add3 Y ⟨fun _ => h2.1 h,fun _ => t1⟩,fun h => Hy.add3 Y ⟨fun g => (t0 g).elim,fun g => (h (h2.2 g)).elim⟩⟩
  ·cases hb
theorem sq_nn (y : Rat) : 0≤y*y := by
 by_cases h : y=0
 ·rw [h,Rat.zero_mul]
  exact Rat.le_refl
 ·exact Rat.le_of_lt (sq1_pos h)
theorem sq_sum {x y : Rat} (hx : 0≤x) : x+y*y=0 ↔ x=0∧y=0 := by
 constructor
 ·intro h
  have h2 := sq_nn y
  have h3 : x=0 := by grind
  refine ⟨h3,?_⟩
  have : y*y=0 := by grind
  rcases Rat.mul_eq_zero.1 this with g | g <;> exact g
 ·rintro ⟨rfl,rfl⟩
  grind
theorem sqF_val {H' : List (Nat × Nat × Nat × Nat)} (Y : Hy N H' L C Z q σ) : ∀ {l : List Nat} {s t : Nat},sqF (sx Tryz.prog N H K L C Z pr) s l=some t→0≤q s→0≤q t∧(q t=0 ↔ q s=0∧∀ d ∈ l,q d=0)
 | [],s,t,h,hs => by
  cases h
  exact ⟨hs,fun e => ⟨e,fun d hd => by cases hd⟩,fun e => e.1⟩
 | a :: l,s,t,h,hs => by
  unfold sqF at h
  simp only [Option.bind_eq_some_iff] at h
  obtain ⟨b,h1,c,h2,h3⟩ := h
  have e1 : q b=q a*q a := Hy.nd (H := H') (K := K) (pr := pr) Y h1
  have e2 : q c=q s+q b := Hy.nd (H := H') (K := K) (pr := pr) Y h2
  have n := sq_nn (q a)
  obtain ⟨g1,g2⟩ := sqF_val Y h3 (by grind)
  refine ⟨g1,g2.trans ?_⟩
  have e3 := sq_sum (y := q a) hs
  rw [e2,e1,e3]
  constructor
  ·rintro ⟨⟨x,y⟩,z⟩
   refine ⟨x,fun d hd => ?_⟩
   rcases List.mem_cons.1 hd with rfl | hd
   ·exact y
   ·exact z d hd
  ·rintro ⟨x,y⟩
   exact ⟨⟨x,y a List.mem_cons_self⟩,fun d hd => y d (List.mem_cons_of_mem _ hd)⟩
theorem sqN_val {H' : List (Nat × Nat × Nat × Nat)} (Y : Hy N H' L C Z q σ) {l : List Nat} {s : Nat} (h : sqN (sx Tryz.prog N H K L C Z pr) l=some s) : q s=0 ↔ ∀ d ∈ l,q d=0 := by
 unfold sqN at h
 split at h
 ·cases h
 ·rename_i a l
  rw [Option.bind_eq_some_iff] at h
  obtain ⟨b,h1,h2⟩ := h
  have e1 : q b=q a*q a := Hy.nd (H := H') (K := K) (pr := pr) Y h1
  have n := sq_nn (q a)
  obtain ⟨_,g⟩ := sqF_val Y h2 (by grind)
  rw [g,e1]
  constructor
  ·rintro ⟨x,y⟩ d hd
   rcases List.mem_cons.1 hd with rfl | hd
   ·rcases Rat.mul_eq_zero.1 x with x | x <;> exact x
   ·exact y d hd
  ·intro y
   refine ⟨?_,fun d hd => y d (List.mem_cons_of_mem _ hd)⟩
   rw [y a List.mem_cons_self,Rat.zero_mul]
theorem run_cases {f : FuncId} {args : List AV} {vs : List Value} {k : Nat} {p : List HB × Nat} {b : Bool} (Y : Hy N H L C Z q σ) (hm : (Tryz.prog).follows .mixedOrders=true) {w : World} (hP : ∀ H',Hy N H' L C Z q σ→PrimOk (sx Tryz.prog N H' K L C Z pr) (evS q σ) w) (hr : callC (sx Tryz.prog N H K L C Z pr) cs k [] f args [] 0=some (kB b,p))
  (hA : A2 (avOn (cOn (evS q σ) K (fun _ => none) w)) args vs) : Calls Tryz.prog f vs.toArray w fun e w' => Below w.heap.size w w'∧e=.returned (.bool b) := by
 refine (callC_ok (S := sx Tryz.prog N H K L C Z pr) (E := evS q σ) (w0 := w) (T := fun X => Hy N (X ++ H) L C Z q σ) (z := fun d => q d=0) hm (fun X hX => knows hX) (fun X hX => hP _ hX) ask_true ?_ k [] Y f args [] 0 (kB b,p) hr (fun _ => none) w vs ⟨Below.refl _ _,(fun _ _ h => by cases h)⟩ hA (fun x hx => by cases hx) (fun x hx => by cases hx) (fun _ _ _ => rfl)).mono ?_
 ·intro X hX l s r h1 h2
  have e := hX.k0 s r h2
  have g := sqN_val hX h1
  refine ⟨fun h => g.1 (e.1 h),fun h => ?_⟩
  have hn : ¬ ∀ d ∈ l,q d=0 := fun q' => by
   rw [e.2 (g.2 q')] at h
   cases h
  simpa using hn
 ·rintro _ w' ⟨r,γ',rfl,hef,hv,_⟩
  exact ⟨hef.wi.bel,by rw [show r=.bool b from (asC_on (v := kB b) (c := .inl (.bool b)) rfl hv).1]⟩
theorem run_toldC {f : FuncId} {args : List AV} {vs : List Value} {k : Nat} {p : List HB × Nat} {b : Bool} (Y : Hy N H L C Z q σ) (hc : ∀ f ∈ cl,Closed f) (hm : (Tryz.prog).follows .mixedOrders=true) (hr : callC (sx Tryz.prog N H K L C Z (prC cl)) cs k [] f args [] 0=some (kB b,p)) {w : World} (hp : PreS w)
  (hA : A2 (avOn (cOn (evS q σ) K (fun _ => none) w)) args vs) : Calls Tryz.prog f vs.toArray w fun e w' => Below w.heap.size w w'∧e=.returned (.bool b) := run_cases Y hm (fun _ Y' => primOk Y' hp hc) hr hA
theorem run_toldC' {f : FuncId} {args : List AV} {vs : List Value} (k : Nat) (Y : Hy N H L C Z q σ) (hc : ∀ f ∈ cl,Closed f) (hm : (Tryz.prog).follows .mixedOrders=true) (hr : (callC (sx Tryz.prog N H K L C Z (prC cl)) cs k [] f args [] 0).map (·.1)=some (kB true)) {w : World} (hp : PreS w)
  (hA : A2 (avOn (cOn (evS q σ) K (fun _ => none) w)) args vs) : Calls Tryz.prog f vs.toArray w fun e w' => Below w.heap.size w w'∧e=.returned (.bool true) := by
 rw [Option.map_eq_some_iff] at hr
 obtain ⟨⟨v,p⟩,h1,h2⟩ := hr
 dsimp only at h2
 subst h2
 exact run_toldC Y hc hm h1 hp hA
end
end Go.Proofs.YtgemmepbdmbmfaaGreatDoor
/- VY -/
namespace Go.Proofs.YtgemmepbdmbmfaaGreatDoor
open Go.RowKit Cx
theorem den_num (t : Rat) : t*(t.den : Rat)=((t.num : Int) : Rat) := by
 conv => lhs; lhs; rw [← Rat.mkRat_self t]
 have h0 : (t.den : Rat) ≠ 0 := fun h => t.den_nz (by exact_mod_cast h)
 rw [Rat.mkRat_eq_div,Rat.div_mul_cancel h0]
theorem whole {q : Rat} (h : q.den=1) : q=((q.num : Int) : Rat) := by
 have := den_num q
 rw [h] at this
 rw [← this]
 show q=q*((1 : Nat) : Rat)
 exact (Rat.mul_one q).symm
theorem plain_uniq {us : List Rat} {t : Rat} (hU : PlainOk us) (hV : PlainOk (us.map fun u => t*u)) : t=1 := by
 have hb := den_num t
 have key : ∀ u ∈ us,(t*u).num*(t.den : Int)=t.num*u.num := fun u hu => by
  have e1 := whole (hU.den u hu)
  have e2 := whole (hV.den (t*u) (List.mem_map_of_mem (f := fun u => t*u) hu))
  have e3 : (((t*u).num*(t.den : Int) : Int) : Rat)=((t.num*u.num : Int) : Rat) := by
   rw [Rat.intCast_mul,Rat.intCast_mul,← e2,← e1,← hb]
   show t*u*((t.den : Int) : Rat)=t*(t.den : Rat)*u
   have : (((t.den : Nat) : Int) : Rat)=(t.den : Rat) := rfl
   rw [this]
   grind
  exact_mod_cast e3
 have h1 : t.den=1 := by
  have : t.den ∣ gN us := gN_great fun u hu => by
   have hd : (t.den : Int) ∣ t.num*u.num := ⟨(t*u).num,by rw [← key u hu,Int.mul_comm]⟩
   have hd' : t.den ∣ t.num.natAbs*u.num.natAbs := by
    have := Int.natAbs_dvd_natAbs.2 hd
    rwa [Int.natAbs_natCast,Int.natAbs_mul] at this
   exact Nat.Coprime.dvd_of_dvd_mul_left t.reduced.symm hd'
  rw [hU.gcd] at this
  exact Nat.dvd_one.1 this
 have ht := whole h1
 have h2 : t.num.natAbs=1 := by
  have : t.num.natAbs ∣ gN (us.map fun u => t*u) := gN_great fun v hv => by
   obtain ⟨u,hu,rfl⟩ := List.mem_map.1 hv
   have := key u hu
   rw [h1] at this
   refine ⟨u.num.natAbs,?_⟩
   rw [← Int.natAbs_mul,← this]
   simp
  rw [hV.gcd] at this
  exact Nat.dvd_one.1 this
 -- the first that is not 0
 have hne : ∃ (j : Nat) (hj : j < us.length),us[j] ≠ 0∧∀ (i : Nat) (hi : i < us.length),i < j→us[i]=0 := by
  apply Classical.byContradiction
  intro hn
  have all0 : ∀ (n j : Nat) (hj : j < us.length),j < n→us[j]=0 := by
   intro n
   induction n with
   | zero => intro j _ h; omega
   | succ n ih =>
    intro j hj hjn
    apply Classical.byContradiction
    intro h
    exact hn ⟨j,hj,h,fun i hi hij => ih i hi (by omega)⟩
  have h0 : (0 : Nat) ∣ gN us := gN_great fun u hu => by
   obtain ⟨j,hj,rfl⟩ := List.getElem_of_mem hu
   rw [all0 us.length j hj hj]
   decide
  rw [hU.gcd] at h0
  exact absurd (Nat.zero_dvd.1 h0) (by decide)
 obtain ⟨j,hj,hj1,hj2⟩ := hne
 have p1 := hU.sgn j hj hj2 hj1
 have ht0 : t ≠ 0 := fun e => by rw [e] at h2; exact absurd h2 (by decide)
 have p2 := hV.sgn j (by simpa using hj) (fun i hi hij => by
  rw [List.getElem_map,hj2 i (by simpa using hi) hij,Rat.mul_zero]) (by
  rw [List.getElem_map]
  exact fun e => (Rat.mul_eq_zero.1 e).elim ht0 hj1)
 rw [List.getElem_map] at p2
 have hk := key us[j] (List.getElem_mem hj)
 rw [h1] at hk
 have hk' : (t*us[j]).num=t.num*us[j].num := by simpa using hk
 rw [hk'] at p2
 have ht1 : t.num=1 := by
  rcases Int.natAbs_eq t.num with e | e
  ·rw [h2] at e
   exact e
  ·rw [h2] at e
   rw [e] at p2
   omega
 rw [ht,ht1]
 rfl
theorem fac_scale {qs : List Rat} {q0 r : Rat} (h0 : q0 ∈ qs) (hz : q0 ≠ 0) (hr : r ≠ 0) : r*fac (qs.map fun q => r*q)=fac qs := by
 have hf := fac_ne h0 hz
 have hU := plain_fac h0 hz
 have hV := plain_fac (qs := qs.map fun q => r*q) (List.mem_map_of_mem (f := fun q => r*q) h0) (fun e => (Rat.mul_eq_zero.1 e).elim hr hz)
 have he : (qs.map fun q => r*q).map (fun q => q*fac (qs.map fun q => r*q))=(qs.map (fun q => q*fac qs)).map fun u => (r*fac (qs.map fun q => r*q) / fac qs)*u := by
  rw [List.map_map,List.map_map]
  apply List.map_congr_left
  intro q _
  show r*q*fac (qs.map fun q => r*q)=r*fac (qs.map fun q => r*q) / fac qs*(q*fac qs)
  generalize fac (qs.map fun q => r*q)=g
  generalize fac qs=f at *
  have : f*f⁻¹=1 := Rat.mul_inv_cancel f hf
  rw [Rat.div_def]
  grind
 rw [he] at hV
 have := plain_uniq hU hV
 generalize fac (qs.map fun q => r*q)=g at *
 generalize fac qs=f at *
 have h2 : r*g / f*f=r*g := Rat.div_mul_cancel hf
 rw [this] at h2
 grind
end Go.Proofs.YtgemmepbdmbmfaaGreatDoor
/- VSZ -/
namespace Go.Proofs.YtgemmepbdmbmfaaGreatDoor
open Go.RowKit Cx
def szW (Z : List Nat) (I : List Bool) (z : Nat) (b : Bool) (nd : Nd) : Bool := match nd.1,nd.2 with
 | 0,[_,n,d] => (Nat.blt n (2 ^ z) && (Nat.blt 0 d && Nat.blt d (2 ^ z))) && (!b || Nat.beq d 1)
 | 1,[_] => Nat.ble 3495259 z && !b
 | 2,[a,c] => (match Z[a]?,Z[c]?,I[a]?,I[c]? with
  | some x,some y,some true,some true => Nat.ble (Nat.max x y+1) z
  | some x,some y,_,_ => Nat.ble (x+y+1) z && !b
  | _,_,_,_ => false)
 | 3,[a,c] => (match Z[a]?,Z[c]?,I[a]?,I[c]? with
  | some x,some y,some true,some true => Nat.ble (Nat.max x y+1) z
  | some x,some y,_,_ => Nat.ble (x+y+1) z && !b
  | _,_,_,_ => false)
 | 4,[a,c] => (match Z[a]?,Z[c]?,I[a]?,I[c]? with
  | some x,some y,some true,some true => Nat.ble (x+y) z
  | some x,some y,_,_ => Nat.ble (x+y) z && !b
  | _,_,_,_ => false)
 | 5,[a] => (match Z[a]?,I[a]? with
  | some x,some true => Nat.ble x z
  | some x,_ => Nat.ble x z && !b
  | _,_ => false)
 | 6,[a,c] => (match Z[a]?,Z[c]? with
  | some x,some y => Nat.ble (x+y) z && !b
  | _,_ => false)
 | 8,i :: xs => (match getsO Z xs with
  | some zs => Nat.blt i xs.length && (Nat.ble ((xs.length+1)*maxL zs+1) z || (xs.all (fun a => match I[a]? with
   | some true => true
   | _ => false) && (match xs[i]? with
   | some a => (match Z[a]? with
    | some x => Nat.ble (x+1) z
    | none => false)
   | none => false)))
  | none => false)
 | _,_ => false
def szC (Z : List Nat) (I : List Bool) : List Nd→List Nat→List Bool→Bool
 | [],[],[] => true
 | nd :: ns,z :: zs,b :: bs => (szW Z I z b nd && Nat.ble z 1000000000000) && szC Z I ns zs bs
 | _,_,_ => false
theorem szC_get {Z : List Nat} {I : List Bool} : ∀ {ns : List Nd} {zs : List Nat} {bs : List Bool} {i z : Nat},szC Z I ns zs bs=true→zs[i]? = some z→∃ nd b,ns[i]? = some nd∧bs[i]? = some b∧szW Z I z b nd=true∧z≤1000000000000
 | [],[],[],_,_,_,h => by simp at h
 | [],[],_ :: _,_,_,h,_ => by cases h
 | [],_ :: _,_,_,_,h,_ => by cases h
 | _ :: _,[],_,_,_,h,_ => by cases h
 | _ :: _,_ :: _,[],_,_,h,_ => by cases h
 | nd :: ns,z' :: zs,b :: bs,0,z,h,e => by
  have : z'=z := by simpa using e
  subst this
  unfold szC at h
  simp only [Bool.and_eq_true,Nat.ble_eq] at h
  exact ⟨nd,b,rfl,rfl,h.1.1,h.1.2⟩
 | nd :: ns,z' :: zs,b :: bs,i+1,z,h,e => by
  unfold szC at h
  rw [Bool.and_eq_true] at h
  obtain ⟨nd2,b2,g1,g2,g3⟩ := szC_get (ns := ns) (zs := zs) (bs := bs) h.2 (show zs[i]? = some z by simpa using e)
  exact ⟨nd2,b2,by simpa using g1,by simpa using g2,g3⟩
theorem szC_len {Z : List Nat} {I : List Bool} : ∀ {ns : List Nd} {zs : List Nat} {bs : List Bool},szC Z I ns zs bs=true→ns.length=zs.length
 | [],[],[],_ => rfl
 | [],[],_ :: _,h => by cases h
 | [],_ :: _,_,h => by cases h
 | _ :: _,[],_,h => by cases h
 | _ :: _,_ :: _,[],h => by cases h
 | _ :: _,_ :: _,_ :: _,h => by
  unfold szC at h
  rw [Bool.and_eq_true] at h
  exact congrArg (· + 1) (szC_len h.2)
structure QW (z : Nat) (x : Rat) : Prop where
 qs : QS z x
 wh : x.den=1
theorem QW.of {z : Nat} {n : Int} (h : n.natAbs < 2 ^ z) (hz : 0 < z) : QW z ((n : Int) : Rat) :=
 ⟨⟨by simpa using h,by
  show ((n : Int) : Rat).den < 2 ^ z
  rw [Rat.den_intCast]
  exact Nat.one_lt_two_pow (by omega)⟩,Rat.den_intCast n⟩
theorem QW.mono {k l : Nat} {x : Rat} (h : QW k x) (hk : k≤l) : QW l x := ⟨h.qs.mono hk,h.wh⟩
theorem two_max {a b x y : Nat} (h1 : a < 2 ^ x) (h2 : b < 2 ^ y) : a+b < 2 ^ (Nat.max x y+1) := by
 have e1 : 2 ^ x≤2 ^ Nat.max x y := Nat.pow_le_pow_right (by decide) (Nat.le_max_left x y)
 have e2 : 2 ^ y≤2 ^ Nat.max x y := Nat.pow_le_pow_right (by decide) (Nat.le_max_right x y)
 rw [Nat.pow_succ]
 omega
theorem QW.add {x y : Nat} {a b : Rat} (h1 : QW x a) (h2 : QW y b) : QW (Nat.max x y+1) (a+b) := by
 rw [whole h1.wh,whole h2.wh,← Rat.intCast_add]
 refine QW.of ?_ (by omega)
 have := two_max h1.qs.num h2.qs.num
 omega
theorem QW.sub {x y : Nat} {a b : Rat} (h1 : QW x a) (h2 : QW y b) : QW (Nat.max x y+1) (a - b) := by
 rw [whole h1.wh,whole h2.wh,← Rat.intCast_sub]
 refine QW.of ?_ (by omega)
 have := two_max h1.qs.num h2.qs.num
 omega
theorem QW.mul {x y : Nat} {a b : Rat} (h1 : QW x a) (h2 : QW y b) : QW (x+y) (a*b) := by
 refine ⟨h1.qs.mul h2.qs,?_⟩
 rw [whole h1.wh,whole h2.wh,← Rat.intCast_mul]
 exact Rat.den_intCast _
theorem QW.neg {x : Nat} {a : Rat} (h1 : QW x a) : QW x (-a) := ⟨h1.qs.neg,h1.wh⟩
theorem lD_one : ∀ {qs : List Rat} {m : Nat},(∀ q ∈ qs,q.den=1)→qs.foldl (fun m q => m*(q.den / Nat.gcd m q.den)) m=m
 | [],_,_ => rfl
 | q :: qs,m,h => by
  rw [List.foldl_cons,h q List.mem_cons_self,Nat.gcd_one_right,Nat.div_self (by decide),Nat.mul_one]
  exact lD_one fun p hp => h p (List.mem_cons_of_mem _ hp)
theorem QW.fac {z : Nat} {qs : List Rat} {x : Rat} (hx : QS z x) (h : x ∈ qs) (hw : ∀ y ∈ qs,y.den=1) : QS (z+1) (x*fac qs) := by
 have hl : lD qs=1 := lD_one hw
 refine ⟨?_,?_⟩
 ·rw [fac_abs h,hl,hw x h,Nat.div_self (by decide),Nat.mul_one]
  exact Nat.lt_of_le_of_lt (Nat.div_le_self _ _) (Nat.lt_of_lt_of_le hx.num (Nat.pow_le_pow_right (by decide) (by omega)))
 ·rw [fac_den h]
  exact Nat.one_lt_two_pow (by omega)
theorem ten_three : ∀ n : Nat,10 ^ n≤2 ^ ((10*n+2) / 3)
 | 0 => by decide
 | 1 => by decide
 | 2 => by decide
 | n+3 => by
  have h := ten_three n
  have e : (10*(n+3)+2) / 3=(10*n+2) / 3+10 := by omega
  rw [e,Nat.pow_add,Nat.pow_add]
  exact Nat.mul_le_mul h (by decide)
theorem QS.rd3 (l : List UInt8) : QS ((10*l.length+2) / 3+5) (Cx.rd l) := by
 have key : ∀ {m : List UInt8},digs m=true→dv m < 2 ^ ((10*m.length+2) / 3) := fun {m} h => Nat.lt_of_lt_of_le (dv_lt (digs_all h)) (ten_three _)
 unfold Cx.rd
 split
 ·rename_i h
  rw [Bool.and_eq_true] at h
  have h1 := key h.1
  have h2 := key h.2
  have h3 := up_len (tailOf l)
  have h4 := low_len (tailOf l)
  have h5 := tail_len l
  apply QS.mkr
  ·rw [sg_abs]; exact Nat.lt_of_lt_of_le h1 (Nat.pow_le_pow_right (by decide) (by omega))
  ·exact Nat.lt_of_lt_of_le h2 (Nat.pow_le_pow_right (by decide) (by omega))
 ·exact QS.zero.mono (by omega)
section
variable {N : List Nd} {Z : List Nat} {I : List Bool} {q : Nat→Rat}
theorem sizes_okW {σ : Nat→ByteArray} (hσ : ∀ j,(σ j).size≤1048576) (hw : wfB 0 N=true) (hz : szC Z I N Z I=true) (hq : ∀ (a : Nat) nd,N[a]? = some nd→q a=valN σ q nd) (h0 : ∀ a,N.length≤a→q a=0) : (∀ (a : Nat) z,Z[a]? = some z→QS z (q a))∧∀ a,QS 1000000000000 (q a) := by
 have h2 : ∀ (a : Nat) z,Z[a]? = some z→QS z (q a)∧(I[a]? = some true→(q a).den=1) := by
  intro a
  induction a using Nat.strongRecOn with
  | ind a ih =>
   intro z hz'
   obtain ⟨nd,b,hn,hb,hs,_⟩ := szC_get hz hz'
   have hwf := wfB_get hw hn
   rw [Nat.zero_add] at hwf
   rw [hq a nd hn,hb]
   obtain ⟨op,xs⟩ := nd
   unfold szW at hs
   unfold valN
   unfold wfN at hwf
   dsimp only at hs hwf ⊢
   have W : ∀ {c x},c < a→Z[c]? = some x→I[c]? = some true→QW x (q c) := fun hc hx hi => ⟨(ih _ hc _ hx).1,(ih _ hc _ hx).2 hi⟩
   have no : ∀ {v : Rat},b=false→(some b=some true→v.den=1) := fun e h => by rw [e] at h; cases h
   split at hs
   ·rename_i s n d
    simp only [Bool.and_eq_true] at hs
    obtain ⟨⟨h1,h2,h3⟩,h4⟩ := hs
    refine ⟨QS.const (by simpa [Nat.blt_eq] using h1) (by simpa [Nat.blt_eq] using h2) (by simpa [Nat.blt_eq] using h3),fun e => ?_⟩
    rw [show b=true from Option.some.inj e] at h4
    have hd : d=1 := by simpa using h4
    subst hd
    show (if s=0 then mkRat (n : Int) 1 else mkRat (-(n : Int)) 1).den=1
    split
    ·rw [Rat.mkRat_one]
     exact Rat.den_intCast _
    ·rw [Rat.mkRat_one]
     exact Rat.den_intCast _
   ·rename_i j
    simp only [Bool.and_eq_true,Nat.ble_eq,Bool.not_eq_true'] at hs
    exact ⟨QS.mono (QS.rd3 _) (by have := hσ j; rw [str_len]; omega),no hs.2⟩
   ·simp only [List.all_cons,List.all_nil,Bool.and_true,Bool.and_eq_true] at hwf
    have l1 := (by simpa [Nat.blt_eq] using hwf.1 : _ < a)
    have l2 := (by simpa [Nat.blt_eq] using hwf.2 : _ < a)
    split at hs
    ·rename_i x y hx hy i1 i2
     rw [Nat.ble_eq] at hs
     have := ((W l1 hx i1).add (W l2 hy i2)).mono hs
     exact ⟨this.qs,fun _ => this.wh⟩
    ·rename_i x y hx hy _
     simp only [Bool.and_eq_true,Nat.ble_eq,Bool.not_eq_true'] at hs
     exact ⟨((ih _ l1 x hx).1.add (ih _ l2 y hy).1).mono hs.1,no hs.2⟩
    ·cases hs
   ·simp only [List.all_cons,List.all_nil,Bool.and_true,Bool.and_eq_true] at hwf
    have l1 := (by simpa [Nat.blt_eq] using hwf.1 : _ < a)
    have l2 := (by simpa [Nat.blt_eq] using hwf.2 : _ < a)
    split at hs
    ·rename_i x y hx hy i1 i2
     rw [Nat.ble_eq] at hs
     have := ((W l1 hx i1).sub (W l2 hy i2)).mono hs
     exact ⟨this.qs,fun _ => this.wh⟩
    ·rename_i x y hx hy _
     simp only [Bool.and_eq_true,Nat.ble_eq,Bool.not_eq_true'] at hs
     exact ⟨((ih _ l1 x hx).1.sub (ih _ l2 y hy).1).mono hs.1,no hs.2⟩
    ·cases hs
   ·simp only [List.all_cons,List.all_nil,Bool.and_true,Bool.and_eq_true] at hwf
    have l1 := (by simpa [Nat.blt_eq] using hwf.1 : _ < a)
    have l2 := (by simpa [Nat.blt_eq] using hwf.2 : _ < a)
    split at hs
    ·rename_i x y hx hy i1 i2
     rw [Nat.ble_eq] at hs
     have := ((W l1 hx i1).mul (W l2 hy i2)).mono hs
     exact ⟨this.qs,fun _ => this.wh⟩
    ·rename_i x y hx hy _
     simp only [Bool.and_eq_true,Nat.ble_eq,Bool.not_eq_true'] at hs
     exact ⟨((ih _ l1 x hx).1.mul (ih _ l2 y hy).1).mono hs.1,no hs.2⟩
    ·cases hs
   ·simp only [List.all_cons,List.all_nil,Bool.and_true] at hwf
    have l1 := (by simpa [Nat.blt_eq] using hwf : _ < a)
    split at hs
    ·rename_i x hx i1
     rw [Nat.ble_eq] at hs
     have := (W l1 hx i1).neg.mono hs
     exact ⟨this.qs,fun _ => this.wh⟩
    ·rename_i x hx _
     simp only [Bool.and_eq_true,Nat.ble_eq,Bool.not_eq_true'] at hs
     exact ⟨((ih _ l1 x hx).1.neg).mono hs.1,no hs.2⟩
    ·cases hs
   ·simp only [List.all_cons,List.all_nil,Bool.and_true,Bool.and_eq_true] at hwf
    split at hs
    ·rename_i x y hx hy
     simp only [Bool.and_eq_true,Nat.ble_eq,Bool.not_eq_true'] at hs
     exact ⟨((ih _ (by simpa [Nat.blt_eq] using hwf.1) x hx).1.div (ih _ (by simpa [Nat.blt_eq] using hwf.2) y hy).1).mono hs.1,no hs.2⟩
    ·cases hs
   ·rename_i i ys
    split at hs
    ·rename_i zs hzs
     rw [Bool.and_eq_true] at hs
     have hi : i < ys.length := by simpa [Nat.blt_eq] using hs.1
     have hwf' : ys.all (Nat.blt · a)=true := hwf
     rw [List.all_eq_true] at hwf'
     have hlt : ∀ c ∈ ys,c < a := fun c hc => by simpa [Nat.blt_eq] using hwf' c hc
     have hm : q ys[i] ∈ ys.map q := List.mem_map_of_mem (List.getElem_mem hi)
     have hg : (ys.map q).getD i 0=q ys[i] := by
      rw [List.getD_eq_getElem?_getD,List.getElem?_map,List.getElem?_eq_getElem hi]
      rfl
     show QS z ((ys.map q).getD i 0*fac (ys.map q))∧(some b=some true→((ys.map q).getD i 0*fac (ys.map q)).den=1)
     rw [hg]
     refine ⟨?_,fun _ => fac_den hm⟩
     rcases Bool.or_eq_true _ _ ▸ hs.2 with h3 | h3
     ·rw [Nat.ble_eq] at h3
      have hall : ∀ y ∈ ys.map q,QS (maxL zs) y := fun y hy => by
       obtain ⟨c,hc,rfl⟩ := List.mem_map.1 hy
       obtain ⟨z',hm',hz2⟩ := getsO_get hzs c hc
       exact (ih c (hlt c hc) z' hz2).1.mono (le_maxL z' hm')
      have := QS.facN hall (x := q ys[i]) hm
      rw [List.length_map] at this
      exact this.mono h3
     ·rw [Bool.and_eq_true,List.all_eq_true] at h3
      obtain ⟨h4,h5⟩ := h3
      have hwh : ∀ y ∈ ys.map q,y.den=1 := fun y hy => by
       obtain ⟨c,hc,rfl⟩ := List.mem_map.1 hy
       obtain ⟨z',_,hz2⟩ := getsO_get hzs c hc
       refine (ih c (hlt c hc) z' hz2).2 ?_
       have := h4 c hc
       split at this
       ·assumption
       ·cases this
      rw [List.getElem?_eq_getElem hi] at h5
      dsimp only at h5
      split at h5
      ·rename_i x hx
       rw [Nat.ble_eq] at h5
       exact (QW.fac (ih _ (hlt _ (List.getElem_mem hi)) x hx).1 hm hwh).mono h5
      ·cases h5
    ·cases hs
   ·cases hs
 refine ⟨fun a z h => (h2 a z h).1,fun a => ?_⟩
 have hl := szC_len hz
 by_cases ha : a < Z.length
 ·obtain ⟨nd,b,_,_,_,hle⟩ := szC_get hz (List.getElem?_eq_getElem ha)
  exact (h2 a _ (List.getElem?_eq_getElem ha)).1.mono hle
 ·rw [h0 a (by omega)]
  exact QS.zero.mono (by decide)
theorem hy_ofW {L C : List (List Nat × Nat)} {σ : Nat→ByteArray} {H : List (Nat × Nat × Nat × Nat)} (hσ : ∀ j,(σ j).size≤1048576) (hw : wfB 0 N=true) (hz : szC Z I N Z I=true) (hl : litB N L=true) (hcn : canB N C=true) (hq : ∀ (a : Nat) nd,N[a]? = some nd→q a=valN σ q nd) (h0 : ∀ a,N.length≤a→q a=0) (hH : hAll q H) : Hy N H L C Z q σ where
 nat := hq
 qs := (sizes_okW hσ hw hz hq h0).2
 zs := (sizes_okW hσ hw hz hq h0).1
 par := hσ
 lit := fun s b h => lit_rd hl hq h
 k0 := fun a r h => kn_at hH h
 k1 := fun a r h => kn_at hH h
 k2 := fun a r h => kn_at hH h
 k3 := fun a b r h => kn_at hH h
 k4 := fun l a b r h1 h2 => by
  have h3 : Nat.beq 1 r=true ↔ q a=q b := kn_at hH h2
  rw [h3,← can_tx hcn hq h1]
  exact ⟨fun e => by rw [e],fun e => tellS_inj (bytesN_inj e)⟩
 k6 := fun a b r h => kn_at hH h
 k5 := fun a r h => kn_at hH h
end
end Go.Proofs.YtgemmepbdmbmfaaGreatDoor
/- VPD -/
namespace Cx
open Go Go.RowKit
def a1sB : List A1→List A1→Bool
 | [],[] => true
 | (a,x) :: l,(b,y) :: m => (a == b && acsW x y) && a1sB l m
 | _,_ => false
theorem a1sB_eq : ∀ {l m : List A1},a1sB l m=true→l=m
 | [],[],_ => rfl
 | (a,x) :: l,(b,y) :: m,h => by
  unfold a1sB at h
  simp only [Bool.and_eq_true,beq_iff_eq] at h
  obtain ⟨⟨h1,h2⟩,h3⟩ := h
  rw [h1,acsW_eq h2,a1sB_eq h3]
 | [],_ :: _,h => by cases h
 | _ :: _,[],h => by cases h
def avsB : List AV→List AV→Bool
 | [],[] => true
 | (a,x) :: l,(b,y) :: m => (a == b && a1sB x y) && avsB l m
 | _,_ => false
theorem avsB_eq : ∀ {l m : List AV},avsB l m=true→l=m
 | [],[],_ => rfl
 | (a,x) :: l,(b,y) :: m,h => by
  unfold avsB at h
  simp only [Bool.and_eq_true,beq_iff_eq] at h
  obtain ⟨⟨h1,h2⟩,h3⟩ := h
  rw [h1,a1sB_eq h2,avsB_eq h3]
 | [],_ :: _,h => by cases h
 | _ :: _,[],h => by cases h
abbrev Memo := List (FuncId × List AV × AV)
def memoGet (f : FuncId) (args : List AV) : Memo→Option AV
 | [] => none
 | (g,bs,v) :: m => bif Nat.beq f g && avsB args bs then some v else memoGet f args m
theorem memoGet_mem {f : FuncId} {args : List AV} {v : AV} : ∀ {m : Memo},memoGet f args m=some v→(f,args,v) ∈ m
 | [],h => by cases h
 | (g,bs,u) :: m,h => by
  unfold memoGet at h
  cases e : (Nat.beq f g && avsB args bs) with
  | true =>
   rw [e] at h
   rw [Bool.and_eq_true,Nat.beq_eq] at e
   rw [e.1,avsB_eq e.2,show u=v from Option.some.inj h]
   exact List.mem_cons_self
  | false =>
   rw [e] at h
   exact List.mem_cons_of_mem _ (memoGet_mem h)
def bareC : AC→Bool
 | .inl _ => true
 | .inr (k,_) => Nat.ble k 2
def bareV (v : AV) : Bool := v.2.all fun x => x.2.all bareC
def callD (S : Sx) (cs : List (FuncId × Nat)) (M : Memo) : Nat→Hs→CallF
 | 0,_,_,_,_,_ => none
 | n+1,X,f,args,h,nx => match memoGet f args M with
  | some v => some (v,h,nx)
  | none => match prGet f cs with
   | none => bodyC (S.plus X) (callD S cs M n X) f args h nx
   | some c => (asks (S.plus X) h c args).bind fun l => ifO (l.all (askOk S)) ((sqN S (l.map (·.2.2.2))).bind fun s => ((S.plus X).kn 0 s 0).bind fun r =>
     bif Nat.beq 1 r then bodyC (S.plus (allZ l X)) (callD S cs M n (allZ l X)) f args h nx
     else joinC h nx ((splits l X).map fun X' => bodyC (S.plus X') (callD S cs M n X') f args h nx))
def MemoOk (S : Sx) (E : Ev S.nb) (w0 : World) (M : Memo) : Prop := ∀ f args v,(f,args,v) ∈ M→∀ (γ : Nat→Option Nat) (w : World) (vs : List Value),WI w0 γ w→A2 (avOn (cOn E S.K γ w)) args vs →
 Calls S.P f vs.toArray w fun e w' => ∃ r,e=.returned r∧(∀ wr nx,(∀ b ∈ wr,Live γ b)→Ef S.nb w0 wr nx nx γ w γ w')∧avOn (cOn E S.K γ w') v r
section
variable {S : Sx} {E : Ev S.nb} {w0 : World}
theorem bareC_on {K K' : List (FuncId × List AC)} {γ γ' : Nat→Option Nat} {w : World} {d : Nat} {c : AC} {v : Value} (hc : bareC c=true) (h : cellOn E K γ w d c v) : cellOn E K' γ' w d c v := by
 cases c with
 | inl u =>
  unfold cellOn at h ⊢
  exact h
 | inr t =>
  obtain ⟨k,a,b,n,c⟩ := t
  have hk : k≤2 := by
   unfold bareC at hc
   rw [Nat.ble_eq] at hc
   exact hc
  match k,hk with
  | 0,_ =>
   unfold cellOn at h ⊢
   exact h
  | 1,_ =>
   unfold cellOn at h ⊢
   exact h
  | 2,_ =>
   unfold cellOn at h ⊢
   exact h
theorem A2_imp {α : Type} {R R' : α→Value→Prop} {P : α→Prop} (h : ∀ a v,P a→R a v→R' a v) : ∀ {l : List α} {vs : List Value},(∀ a ∈ l,P a)→A2 R l vs→A2 R' l vs
 | [],[],_,_ => trivial
 | _ :: _,_ :: _,hp,q => ⟨h _ _ (hp _ List.mem_cons_self) q.1,A2_imp h (fun a ha => hp a (List.mem_cons_of_mem _ ha)) q.2⟩
 | [],_ :: _,_,q => q.elim
 | _ :: _,[],_,q => q.elim
theorem bareV_on {K K' : List (FuncId × List AC)} {γ γ' : Nat→Option Nat} {w : World} {x : AV} {v : Value} (hx : bareV x=true) (h : avOn (cOn E K γ w) x v) : avOn (cOn E K' γ' w) x v := by
 unfold bareV at hx
 rw [List.all_eq_true] at hx
 have one : ∀ (y : A1) u,(∀ c ∈ y.2,bareC c=true)→a1On (cOn E K γ w) y u→a1On (cOn E K' γ' w) y u := fun y u hy q => by
  obtain ⟨b,cs⟩ := y
  cases b with
  | true =>
   obtain ⟨us,e,q⟩ := q
   exact ⟨us,e,A2_imp (P := fun c => bareC c=true) (fun _ _ hc q => bareC_on hc q) hy q⟩
  | false => exact A2_imp (P := fun c => bareC c=true) (fun _ _ hc q => bareC_on hc q) hy q
 have all : ∀ y ∈ x.2,∀ c ∈ y.2,bareC c=true := fun y hy c hc => (List.all_eq_true.1 (hx y hy)) c hc
 obtain ⟨b,ys⟩ := x
 cases b with
 | true =>
  obtain ⟨us,e,q⟩ := h
  exact ⟨us,e,A2_imp (P := fun y : A1 => ∀ c ∈ y.2,bareC c=true) (fun y u hy q => one y u hy q) all q⟩
 | false => exact A2_imp (P := fun y : A1 => ∀ c ∈ y.2,bareC c=true) (fun y u hy q => one y u hy q) all h
variable {T : Hs→Prop} {z : Nat→Prop}
theorem callD_ok {cs : List (FuncId × Nat)} {M : Memo} (hm : S.P.follows .mixedOrders=true) (hM : MemoOk S E w0 M) (hN : ∀ X,T X→Knows (S.plus X) E) (hP : ∀ X,T X→PrimOk (S.plus X) E w0) (hk : AskTrue S T z)
  (hs : ∀ X,T X→∀ l s r,sqN S l=some s→(S.plus X).kn 0 s 0=some r→(Nat.beq 1 r=true→∀ d ∈ l,z d)∧(Nat.beq 1 r=false→∃ d ∈ l,¬ z d)) : ∀ n X,T X→CallOk S E w0 (callD S cs M n X)
 | 0,_,_ => fun _ _ _ _ _ h => by cases h
 | n+1,X,hX => fun f args h nx p hp => by
  have body : ∀ Y,T Y→CallOk S E w0 (bodyC (S.plus Y) (callD S cs M n Y)) := fun Y hY => bodyC_ok (S := S.plus Y) hm (hN Y hY) (hP Y hY) (callD_ok hm hM hN hP hk hs n Y hY)
  unfold callD at hp
  split at hp
  ·rename_i v hv
   cases hp
   intro γ w vs hi hA hb hlt hf
   refine (hM f args v (memoGet_mem hv) γ w vs hi hA).mono ?_
   rintro _ w' ⟨r,rfl,hef,hr⟩
   have live : ∀ b ∈ h.map (·.1),Live γ b := fun b hb' => by
    obtain ⟨x,hx,rfl⟩ := List.mem_map.1 hb'
    obtain ⟨_,_,_,_,hl,_⟩ := hb x hx
    exact hl
   exact ⟨r,γ,rfl,hef _ _ live,hr,fun x hx => (hef [] nx no_live).box hi (hb x hx) (by simp)⟩
  ·split at hp
   ·exact body X hX f args h nx p hp
   ·simp only [Option.bind_eq_some_iff,ifO_some,List.all_eq_true] at hp
    obtain ⟨l,_,hl,s,h1,r,h2,h3⟩ := hp
    obtain ⟨a1,a0⟩ := hs X hX _ s r h1 h2
    cases e : Nat.beq 1 r with
    | true =>
     rw [e] at h3
     exact body _ (allZ_true hk hX hl fun a ha => a1 e _ (List.mem_map_of_mem ha)) f args h nx p h3
    | false =>
     rw [e] at h3
     obtain ⟨d,hd,hz⟩ := a0 e
     obtain ⟨a,ha,rfl⟩ := List.mem_map.1 hd
     obtain ⟨X',m1,m2⟩ := splits_true hk hX hl ⟨a,ha,hz⟩
     replace h3 : joinC h nx ((splits l X).map fun X' => bodyC (S.plus X') (callD S cs M n X') f args h nx)=some p := h3
     unfold joinC at h3
     split at h3
     ·rename_i p0 rs hrs
      rw [Option.bind_eq_some_iff] at h3
      obtain ⟨b,hb,h4⟩ := h3
      rw [ifO_some,List.all_eq_true] at h4
      obtain ⟨h5,h6⟩ := h4
      cases h6
      obtain ⟨h',nx',q1,q2,q3⟩ := agree_some (h5 _ (List.mem_map_of_mem m1))
      intro γ w vs hi hA hb hlt hf
      refine (body X' m2 f args h nx _ q1 γ w vs hi hA hb hlt fun b g1 g2 => hf b g1 (Nat.lt_of_lt_of_le g2 q2)).mono ?_
      rintro _ w' ⟨r',γ',rfl,hef,hv,hx⟩
      exact ⟨r',γ',rfl,hef.wide (Nat.le_refl _) q2,hv,fun x hh => hx x (q3 x hh)⟩
     ·cases h3
theorem memo_run {K1 K2 : List (FuncId × List AC)} {H1 H2 : Hs} {M : Memo} {f : FuncId} {args : List AV} {v : AV} {p : List HB × Nat} {call : CallF} (hC : CallOk { S with H := H1,K := K1 } E w0 call) (hr : call f args [] 0=some (v,p)) (ha : args.all bareV=true) (hv : bareV v=true) (hM : MemoOk { S with H := H2,K := K2 } E w0 M) : MemoOk { S with H := H2,K := K2 } E w0 ((f,args,v) :: M) := fun g bs u hmem => by
 rcases List.mem_cons.1 hmem with e | hmem
 ·cases e
  intro γ w vs hi hA
  rw [List.all_eq_true] at ha
  refine (hC f args [] 0 (v,p) hr (fun _ => none) w vs ⟨hi.bel,(fun _ _ h => by cases h)⟩ (A2_imp (P := fun x => bareV x=true) (fun _ _ hx q => bareV_on hx q) ha hA) (fun x hx => by cases hx) (fun x hx => by cases hx) (fun _ _ _ => rfl)).mono ?_
  rintro _ w' ⟨r,γ',rfl,hef,hr,_⟩
  refine ⟨r,rfl,fun wr nx hl => ⟨leG.refl _,fun _ _ => rfl,fun _ _ h => Or.inl h,⟨hef.wi.bel,fun b G q => ⟨(hi.lo b G q).1,Nat.lt_of_lt_of_le (hi.lo b G q).2 hef.gr.size⟩⟩,hef.gr,fun G hG _ => hef.keep G hG (fun b hb => by cases hb),hl⟩,bareV_on hv hr⟩
 ·exact hM g bs u hmem
def memoOne (S : Sx) (cs : List (FuncId × Nat)) (k : Nat) : Memo→Bool
 | (f,args,v) :: M => (match callD S cs M k [] f args [] 0 with
  | some (u,_) => avsB [u] [v]
  | none => false) && (args.all bareV && bareV v)
 | [] => false
def memoChk (S : Sx) (cs : List (FuncId × Nat)) (k : Nat) : Nat→Memo→Bool
 | 0,_ => true
 | n+1,M => memoOne S cs k M && memoChk S cs k n M.tail
def qA (l : List Nat) : AV := (false,[(true,l.flatMap qCells)])
def tA (l : List Nat) : AV := (false,[(true,l.map fun a => .inr (1,a,0,0,0))])
def pA (l : List Nat) : AV := (false,[(true,l.map fun a => .inr (2,a,0,0,0))])
theorem memo_nil : MemoOk S E w0 [] := fun _ _ _ h => by cases h
end
end Cx
/- VPE -/
namespace Go.Proofs.YtgemmepbdmbmfaaGreatDoor
open Cx Go Go.RowKit
section
variable {N : List Nd} {H : List (Nat × Nat × Nat × Nat)} {K : List (FuncId × List AC)} {L C : List (List Nat × Nat)} {Z : List Nat} {q : Nat→Rat} {σ : Nat→ByteArray} {cl : List FuncId} {cs pr : List (FuncId × Nat)} {M : Memo} {w : World}
theorem callD_told (Y : Hy N H L C Z q σ) (hc : ∀ f ∈ cl,Closed f) (hm : (Tryz.prog).follows .mixedOrders=true) (hp : PreS w) (hM : MemoOk (sx Tryz.prog N H K L C Z (prC cl)) (evS q σ) w M) (k : Nat) : CallOk (sx Tryz.prog N H K L C Z (prC cl)) (evS q σ) w (callD (sx Tryz.prog N H K L C Z (prC cl)) cs M k []) :=
 callD_ok (S := sx Tryz.prog N H K L C Z (prC cl)) (E := evS q σ) (w0 := w) (T := fun X => Hy N (X ++ H) L C Z q σ) (z := fun d => q d=0) hm hM (fun X hX => knows hX) (fun X hX => primOk hX hp hc) ask_true (fun X hX l s r h1 h2 => by
  have e := hX.k0 s r h2
  have g := sqN_val hX h1
  refine ⟨fun h => g.1 (e.1 h),fun h => ?_⟩
  have hn : ¬ ∀ d ∈ l,q d=0 := fun q' => by
   rw [e.2 (g.2 q')] at h
   cases h
  simpa using hn) k [] Y
def MemoAll (N : List Nd) (L C : List (List Nat × Nat)) (Z : List Nat) (q : Nat→Rat) (σ : Nat→ByteArray) (cl : List FuncId) (w : World) (M : Memo) : Prop := ∀ H K,MemoOk (sx Tryz.prog N H K L C Z (prC cl)) (evS q σ) w M
theorem memoAll_nil : MemoAll N L C Z q σ cl w [] := fun _ _ => memo_nil
theorem memoAll_cons {H1 : List (Nat × Nat × Nat × Nat)} (Y : Hy N H1 L C Z q σ) (hc : ∀ f ∈ cl,Closed f) (hm : (Tryz.prog).follows .mixedOrders=true) (hp : PreS w) {f : FuncId} {args : List AV} {v : AV} (k : Nat) (hr : memoOne (sx Tryz.prog N H1 [] L C Z (prC cl)) cs k ((f,args,v) :: M)=true) (hM : MemoAll N L C Z q σ cl w M) : MemoAll N L C Z q σ cl w ((f,args,v) :: M) := fun H K => by
 unfold memoOne at hr
 simp only [Bool.and_eq_true] at hr
 obtain ⟨h1,h2,h3⟩ := hr
 split at h1
 ·rename_i u p hu
  have e := avsB_eq h1
  cases e
  exact memo_run (S := sx Tryz.prog N H K L C Z (prC cl)) (K1 := []) (H1 := H1) (K2 := K) (H2 := H) (callD_told (K := []) (cs := cs) Y hc hm hp (hM H1 []) k) hu h2 h3 (hM H K)
 ·cases h1
theorem memoAll_drop {i : Nat} {H1 : List (Nat × Nat × Nat × Nat)} (Y : Hy N H1 L C Z q σ) (hc : ∀ f ∈ cl,Closed f) (hm : (Tryz.prog).follows .mixedOrders=true) (hp : PreS w) {k : Nat} (hr : memoOne (sx Tryz.prog N H1 [] L C Z (prC cl)) cs k (M.drop i)=true) (hM : MemoAll N L C Z q σ cl w (M.drop (i+1))) : MemoAll N L C Z q σ cl w (M.drop i) := by
 rw [← List.tail_drop] at hM
 generalize M.drop i=D at *
 match D with
 | [] => cases hr
 | (f,args,v) :: D => exact memoAll_cons Y hc hm hp k hr hM
theorem memoAll_chk {H1 : List (Nat × Nat × Nat × Nat)} (Y : Hy N H1 L C Z q σ) (hc : ∀ f ∈ cl,Closed f) (hm : (Tryz.prog).follows .mixedOrders=true) (hp : PreS w) {k : Nat} : ∀ (n : Nat) {M : Memo},memoChk (sx Tryz.prog N H1 [] L C Z (prC cl)) cs k n M=true→MemoAll N L C Z q σ cl w (M.drop n)→MemoAll N L C Z q σ cl w M
 | 0,_,_,h => h
 | n+1,M,hr,h => by
  unfold memoChk at hr
  rw [Bool.and_eq_true] at hr
  have h1 := memoAll_chk Y hc hm hp n hr.2 (by rw [List.drop_tail]; exact h)
  exact memoAll_drop (i := 0) Y hc hm hp hr.1 (by rw [Nat.zero_add,List.drop_one]; exact h1)
theorem run_toldD' {f : FuncId} {args : List AV} {vs : List Value} (k : Nat) (Y : Hy N H L C Z q σ) (hc : ∀ f ∈ cl,Closed f) (hm : (Tryz.prog).follows .mixedOrders=true) (hp : PreS w) (hM : MemoAll N L C Z q σ cl w M) (hr : (callD (sx Tryz.prog N H K L C Z (prC cl)) cs M k [] f args [] 0).map (·.1)=some (kB true))
  (hA : A2 (avOn (cOn (evS q σ) K (fun _ => none) w)) args vs) : Calls Tryz.prog f vs.toArray w fun e w' => Below w.heap.size w w'∧e=.returned (.bool true) := by
 rw [Option.map_eq_some_iff] at hr
 obtain ⟨⟨v,p⟩,h1,h2⟩ := hr
 dsimp only at h2
 subst h2
 refine (callD_told (cs := cs) Y hc hm hp (hM H K) k f args [] 0 (kB true,p) h1 (fun _ => none) w vs ⟨Below.refl _ _,(fun _ _ h => by cases h)⟩ hA (fun x hx => by cases hx) (fun x hx => by cases hx) (fun _ _ _ => rfl)).mono ?_
 rintro _ w' ⟨r,γ',rfl,hef,hv,_⟩
 exact ⟨hef.wi.bel,by rw [show r=.bool true from (asC_on (v := kB true) (c := .inl (.bool true)) rfl hv).1]⟩
end
end Go.Proofs.YtgemmepbdmbmfaaGreatDoor
/- CFprojected -/
namespace Go.Proofs.YtgemmepbdmbmfaaGreatDoor
open Go.RowKit Cx
theorem closed_projected : Closed 22 :=
 closed_told (N := [(0,[0,1,1]),(0,[0,0,1]),(8,[0,0,1,1]),(8,[1,0,1,1]),(8,[2,0,1,1]),(8,[0,1,0,0]),(8,[1,1,0,0]),(8,[2,1,0,0]),(4,[3,7]),(4,[4,6]),(3,[8,9]),(4,[4,5]),(4,[2,7]),(3,[11,12]),(4,[2,6]),(4,[3,5]),(3,[14,15]),(8,[0,10,13,16]),(8,[1,10,13,16]),(8,[2,10,13,16]),(8,[0,1,0,1]),(8,[1,1,0,1]),(8,[2,1,0,1]),(4,[3,22]),(4,[4,21]),(3,[23,24]),(4,[4,20]),(4,[2,22]),(3,[26,27]),(4,[2,21]),(4,[3,20]),(3,[29,30]),(8,[0,0,0,1]),(8,[1,0,0,1]),(8,[2,0,0,1]),(4,[3,34]),(4,[4,33]),(3,[35,36]),(4,[4,32]),(4,[2,34]),(3,[38,39]),(4,[2,33]),(4,[3,32]),(3,[41,42]),(4,[21,34]),(4,[22,33]),(3,[44,45]),(4,[22,32]),(4,[20,34]),(3,[47,48]),(4,[20,33]),(4,[21,32]),(3,[50,51]),(4,[32,25]),(2,[1,53]),(4,[33,28]),(2,[54,55]),(4,[34,31]),(2,[56,57]),(4,[33,22]),(4,[34,21]),(3,[59,60]),(4,[34,20]),(4,[32,22]),(3,[62,63]),(4,[32,21]),(4,[33,20]),(3,[65,66]),(4,[61,25]),(2,[1,68]),(4,[64,28]),(2,[69,70]),(4,[67,31]),(2,[71,72]),(4,[37,25]),(2,[1,74]),(4,[40,28]),(2,[75,76]),(4,[43,31]),(2,[77,78]),(4,[2,73]),(4,[3,73]),(4,[4,73]),(5,[79]),(4,[20,83]),(4,[21,83]),(4,[22,83]),(2,[80,84]),(2,[81,85]),(2,[82,86]),(8,[0,87,88,89]),(8,[1,87,88,89]),(8,[2,87,88,89]),(0,[0,2,1]),(8,[0,0,93,1]),(8,[1,0,93,1]),(8,[2,0,93,1]),(4,[3,96]),(4,[4,95]),(3,[97,98]),(4,[4,94]),(4,[2,96]),(3,[100,101]),(4,[2,95]),(4,[3,94]),(3,[103,104]),(4,[21,96]),(4,[22,95]),(3,[106,107]),(4,[22,94]),(4,[20,96]),(3,[109,110]),(4,[20,95]),(4,[21,94]),(3,[112,113]),(4,[33,96]),(4,[34,95]),(3,[115,116]),(4,[34,94]),(4,[32,96]),(3,[118,119]),(4,[32,95]),(4,[33,94]),(3,[121,122]),(4,[94,25]),(2,[1,124]),(4,[95,28]),(2,[125,126]),(4,[96,31]),(2,[127,128]),(4,[95,22]),(4,[96,21]),(3,[130,131]),(4,[96,20]),(4,[94,22]),(3,[133,134]),(4,[94,21]),(4,[95,20]),(3,[136,137]),(4,[132,25]),(2,[1,139]),(4,[135,28]),(2,[140,141]),(4,[138,31]),(2,[142,143]),(4,[99,25]),(2,[1,145]),(4,[102,28]),(2,[146,147]),(4,[105,31]),(2,[148,149]),(6,[79,73]),(6,[144,150]),(4,[151,152]),(0,[1,1,1]),(0,[0,1,2])]) (H := [(0,0,0,0),(0,1,0,1),(0,10,0,1),(0,13,0,0),(0,25,0,1),(0,28,0,1),(0,31,0,0),(0,37,0,1),(0,40,0,1),(0,43,0,0),(0,46,0,1),(0,49,0,1),(0,52,0,0),(0,58,0,1),(0,99,0,1),(0,102,0,1),(0,105,0,0),(0,108,0,1),(0,111,0,1),(0,114,0,0),(0,117,0,1),(0,120,0,1),(0,123,0,0),(0,129,0,1),(4,17,1,1),(4,18,0,1),(4,19,154,1),(4,90,0,1),(4,91,154,1),(4,92,1,1),(4,153,155,1)]) (K := []) (L := [([49],0),([48],1),([50],93),([45,49],154),([49,47,50],155)]) (C := [([48],1),([49],0),([45,49],154),([49,47,50],155)]) (Z := [2,2,9,9,9,9,9,9,18,18,37,18,18,37,18,18,37,149,149,149,9,9,9,18,18,37,18,18,37,18,18,37,9,9,9,18,18,37,18,18,37,18,18,37,18,18,37,18,18,37,18,18,37,46,49,46,96,46,143,18,18,37,18,18,37,18,18,37,74,77,74,152,74,227,74,77,74,152,74,227,236,236,236,227,236,236,236,473,473,473,1893,1893,1893,3,13,13,13,22,22,45,22,22,45,22,22,45,22,22,45,22,22,45,22,22,45,22,22,45,22,22,45,22,22,45,50,53,50,104,50,155,22,22,45,22,22,45,22,22,45,82,85,82,168,82,251,82,85,82,168,82,251,454,502,956,2,3]) (cl := []) 6 (fun _ h => by cases h) (by kernel_rfl) (by kernel_rfl) (by kernel_rfl) (by kernel_rfl) (by kernel_rfl) (by kernel_rfl) (by kernel_rfl)
end Go.Proofs.YtgemmepbdmbmfaaGreatDoor
/- MPS -/
namespace Go.Proofs.YtgemmepbdmbmfaaGreatDoor
open Go.RowKit Cx
def pT_N : List Nd := [(1,[0]),(1,[1]),(1,[2]),(4,[0,0]),(4,[1,1]),(2,[3,4]),(4,[2,2]),(2,[5,6]),(8,[0,0,1,2]),(8,[1,0,1,2]),(8,[2,0,1,2]),(1,[3]),(1,[4]),(1,[5]),(4,[11,11]),(4,[12,12]),(2,[14,15]),(4,[13,13]),(2,[16,17]),(8,[0,11,12,13]),(8,[1,11,12,13]),(8,[2,11,12,13]),(1,[6]),(1,[7]),(1,[8]),(4,[22,22]),(4,[23,23]),(2,[25,26]),(4,[24,24]),(2,[27,28]),(8,[0,22,23,24]),(8,[1,22,23,24]),(8,[2,22,23,24]),(1,[9]),(1,[10]),(1,[11]),(4,[33,33]),(4,[34,34]),(2,[36,37]),(4,[35,35]),(2,[38,39]),(8,[0,33,34,35]),(8,[1,33,34,35]),(8,[2,33,34,35]),(4,[20,32]),(4,[21,31]),(3,[44,45]),(4,[21,30]),(4,[19,32]),(3,[47,48]),(4,[19,31]),(4,[20,30]),(3,[50,51]),(4,[8,46]),(0,[0,0,1]),(2,[54,53]),(4,[9,49]),(2,[55,56]),(4,[10,52]),(2,[57,58]),(4,[31,10]),(4,[32,9]),(3,[60,61]),(4,[32,8]),(4,[30,10]),(3,[63,64]),(4,[30,9]),(4,[31,8]),(3,[66,67]),(4,[9,21]),(4,[10,20]),(3,[69,70]),(4,[10,19]),(4,[8,21]),(3,[72,73]),(4,[8,20]),(4,[9,19]),(3,[75,76]),(4,[46,41]),(2,[54,78]),(4,[49,42]),(2,[79,80]),(4,[52,43]),(2,[81,82]),(4,[62,41]),(2,[54,84]),(4,[65,42]),(2,[85,86]),(4,[68,43]),(2,[87,88]),(4,[71,41]),(2,[54,90]),(4,[74,42]),(2,[91,92]),(4,[77,43]),(2,[93,94]),(4,[8,83]),(4,[9,83]),(4,[10,83]),(4,[19,89]),(4,[20,89]),(4,[21,89]),(4,[30,95]),(4,[31,95]),(4,[32,95]),(4,[100,104]),(4,[103,101]),(3,[105,106]),(4,[103,98]),(4,[97,104]),(3,[108,109]),(4,[97,101]),(4,[100,98]),(3,[111,112]),(4,[101,102]),(4,[104,99]),(3,[114,115]),(4,[104,96]),(4,[98,102]),(3,[117,118]),(4,[98,99]),(4,[101,96]),(3,[120,121]),(4,[99,103]),(4,[102,100]),(3,[123,124]),(4,[102,97]),(4,[96,103]),(3,[126,127]),(4,[96,100]),(4,[99,97]),(3,[129,130]),(4,[107,96]),(2,[54,132]),(4,[110,99]),(2,[133,134]),(4,[113,102]),(2,[135,136]),(4,[116,96]),(2,[54,138]),(4,[119,99]),(2,[139,140]),(4,[122,102]),(2,[141,142]),(4,[125,96]),(2,[54,144]),(4,[128,99]),(2,[145,146]),(4,[131,102]),(2,[147,148]),(4,[107,97]),(2,[54,150]),(4,[110,100]),(2,[151,152]),(4,[113,103]),(2,[153,154]),(4,[116,97]),(2,[54,156]),(4,[119,100]),(2,[157,158]),(4,[122,103]),(2,[159,160]),(4,[125,97]),(2,[54,162]),(4,[128,100]),(2,[163,164]),(4,[131,103]),(2,[165,166]),(4,[107,98]),(2,[54,168]),(4,[110,101]),(2,[169,170]),(4,[113,104]),(2,[171,172]),(4,[116,98]),(2,[54,174]),(4,[119,101]),(2,[175,176]),(4,[122,104]),(2,[177,178]),(4,[125,98]),(2,[54,180]),(4,[128,101]),(2,[181,182]),(4,[131,104]),(2,[183,184]),(8,[0,137,143,149,155,161,167,173,179,185]),(8,[1,137,143,149,155,161,167,173,179,185]),(8,[2,137,143,149,155,161,167,173,179,185]),(8,[3,137,143,149,155,161,167,173,179,185]),(8,[4,137,143,149,155,161,167,173,179,185]),(8,[5,137,143,149,155,161,167,173,179,185]),(8,[6,137,143,149,155,161,167,173,179,185]),(8,[7,137,143,149,155,161,167,173,179,185]),(8,[8,137,143,149,155,161,167,173,179,185]),(4,[71,71]),(4,[74,74]),(2,[195,196]),(4,[77,77]),(2,[197,198]),(8,[0,71,74,77]),(8,[1,71,74,77]),(8,[2,71,74,77]),(4,[31,43]),(4,[32,42]),(3,[203,204]),(4,[32,41]),(4,[30,43]),(3,[206,207]),(4,[30,42]),(4,[31,41]),(3,[209,210]),(4,[205,205]),(4,[208,208]),(2,[212,213]),(4,[211,211]),(2,[214,215]),(8,[0,205,208,211]),(8,[1,205,208,211]),(8,[2,205,208,211]),(4,[200,200]),(4,[201,201]),(2,[220,221]),(4,[202,202]),(2,[222,223]),(8,[0,200,201,202]),(8,[1,200,201,202]),(8,[2,200,201,202]),(4,[217,217]),(4,[218,218]),(2,[228,229]),(4,[219,219]),(2,[230,231]),(8,[0,217,218,219]),(8,[1,217,218,219]),(8,[2,217,218,219]),(4,[226,235]),(4,[227,234]),(3,[236,237]),(4,[227,233]),(4,[225,235]),(3,[239,240]),(4,[225,234]),(4,[226,233]),(3,[242,243]),(4,[238,238]),(4,[241,241]),(2,[245,246]),(4,[244,244]),(2,[247,248]),(8,[0,238,241,244]),(8,[1,238,241,244]),(8,[2,238,241,244]),(4,[9,32]),(4,[10,31]),(3,[253,254]),(4,[10,30]),(4,[8,32]),(3,[256,257]),(4,[8,31]),(4,[9,30]),(3,[259,260]),(4,[255,255]),(4,[258,258]),(2,[262,263]),(4,[261,261]),(2,[264,265]),(8,[0,255,258,261]),(8,[1,255,258,261]),(8,[2,255,258,261]),(4,[20,43]),(4,[21,42]),(3,[270,271]),(4,[21,41]),(4,[19,43]),(3,[273,274]),(4,[19,42]),(4,[20,41]),(3,[276,277]),(4,[272,272]),(4,[275,275]),(2,[279,280]),(4,[278,278]),(2,[281,282]),(8,[0,272,275,278]),(8,[1,272,275,278]),(8,[2,272,275,278]),(4,[267,267]),(4,[268,268]),(2,[287,288]),(4,[269,269]),(2,[289,290]),(8,[0,267,268,269]),(8,[1,267,268,269]),(8,[2,267,268,269]),(4,[284,284]),(4,[285,285]),(2,[295,296]),(4,[286,286]),(2,[297,298]),(8,[0,284,285,286]),(8,[1,284,285,286]),(8,[2,284,285,286]),(4,[293,302]),(4,[294,301]),(3,[303,304]),(4,[294,300]),(4,[292,302]),(3,[306,307]),(4,[292,301]),(4,[293,300]),(3,[309,310]),(4,[305,305]),(4,[308,308]),(2,[312,313]),(4,[311,311]),(2,[314,315]),(8,[0,305,308,311]),(8,[1,305,308,311]),(8,[2,305,308,311]),(4,[250,250]),(4,[251,251]),(2,[320,321]),(4,[252,252]),(2,[322,323]),(8,[0,250,251,252]),(8,[1,250,251,252]),(8,[2,250,251,252]),(4,[317,317]),(4,[318,318]),(2,[328,329]),(4,[319,319]),(2,[330,331]),(8,[0,317,318,319]),(8,[1,317,318,319]),(8,[2,317,318,319]),(4,[326,335]),(4,[327,334]),(3,[336,337]),(4,[327,333]),(4,[325,335]),(3,[339,340]),(4,[325,334]),(4,[326,333]),(3,[342,343]),(4,[338,338]),(4,[341,341]),(2,[345,346]),(4,[344,344]),(2,[347,348]),(8,[0,338,341,344]),(8,[1,338,341,344]),(8,[2,338,341,344]),(4,[9,43]),(4,[10,42]),(3,[353,354]),(4,[10,41]),(4,[8,43]),(3,[356,357]),(4,[8,42]),(4,[9,41]),(3,[359,360]),(4,[355,355]),(4,[358,358]),(2,[362,363]),(4,[361,361]),(2,[364,365]),(8,[0,355,358,361]),(8,[1,355,358,361]),(8,[2,355,358,361]),(4,[46,46]),(4,[49,49]),(2,[370,371]),(4,[52,52]),(2,[372,373]),(8,[0,46,49,52]),(8,[1,46,49,52]),(8,[2,46,49,52]),(4,[350,350]),(4,[351,351]),(2,[378,379]),(4,[352,352]),(2,[380,381]),(8,[0,350,351,352]),(8,[1,350,351,352]),(8,[2,350,351,352]),(4,[367,367]),(4,[368,368]),(2,[386,387]),(4,[369,369]),(2,[388,389]),(8,[0,367,368,369]),(8,[1,367,368,369]),(8,[2,367,368,369]),(4,[384,393]),(4,[385,392]),(3,[394,395]),(4,[385,391]),(4,[383,393]),(3,[397,398]),(4,[383,392]),(4,[384,391]),(3,[400,401]),(4,[396,396]),(4,[399,399]),(2,[403,404]),(4,[402,402]),(2,[405,406]),(8,[0,396,399,402]),(8,[1,396,399,402]),(8,[2,396,399,402]),(4,[375,375]),(4,[376,376]),(2,[411,412]),(4,[377,377]),(2,[413,414]),(8,[0,375,376,377]),(8,[1,375,376,377]),(8,[2,375,376,377]),(4,[384,418]),(4,[385,417]),(3,[419,420]),(4,[385,416]),(4,[383,418]),(3,[422,423]),(4,[383,417]),(4,[384,416]),(3,[425,426]),(4,[421,421]),(4,[424,424]),(2,[428,429]),(4,[427,427]),(2,[430,431]),(8,[0,421,424,427]),(8,[1,421,424,427]),(8,[2,421,424,427]),(4,[408,408]),(4,[409,409]),(2,[436,437]),(4,[410,410]),(2,[438,439]),(8,[0,408,409,410]),(8,[1,408,409,410]),(8,[2,408,409,410]),(4,[326,443]),(4,[327,442]),(3,[444,445]),(4,[327,441]),(4,[325,443]),(3,[447,448]),(4,[325,442]),(4,[326,441]),(3,[450,451]),(4,[446,446]),(4,[449,449]),(2,[453,454]),(4,[452,452]),(2,[455,456]),(4,[334,443]),(4,[335,442]),(3,[458,459]),(4,[335,441]),(4,[333,443]),(3,[461,462]),(4,[333,442]),(4,[334,441]),(3,[464,465]),(4,[460,460]),(4,[463,463]),(2,[467,468]),(4,[466,466]),(2,[469,470]),(4,[441,338]),(2,[54,472]),(4,[442,341]),(2,[473,474]),(4,[443,344]),(2,[475,476]),(4,[442,335]),(4,[443,334]),(3,[478,479]),(4,[443,333]),(4,[441,335]),(3,[481,482]),(4,[441,334]),(4,[442,333]),(3,[484,485]),(4,[480,338]),(2,[54,487]),(4,[483,341]),(2,[488,489]),(4,[486,344]),(2,[490,491]),(4,[446,338]),(2,[54,493]),(4,[449,341]),(2,[494,495]),(4,[452,344]),(2,[496,497]),(4,[325,492]),(4,[326,492]),(4,[327,492]),(5,[498]),(4,[333,502]),(4,[334,502]),(4,[335,502]),(2,[499,503]),(2,[500,504]),(2,[501,505]),(8,[0,506,507,508]),(8,[1,506,507,508]),(8,[2,506,507,508])]
def pT_L : List (List Nat × Nat) := []
def pT_C : List (List Nat × Nat) := []
def pT_Z : List Nat := [3495259,3495259,3495259,6990518,6990518,13981037,6990518,20971556,13981037,13981037,13981037,3495259,3495259,3495259,6990518,6990518,13981037,6990518,20971556,13981037,13981037,13981037,3495259,3495259,3495259,6990518,6990518,13981037,6990518,20971556,13981037,13981037,13981037,3495259,3495259,3495259,6990518,6990518,13981037,6990518,20971556,13981037,13981037,13981037,27962074,27962074,27962075,27962074,27962074,27962075,27962074,27962074,27962075,41943112,2,41943113,41943112,41943114,41943112,41943115,27962074,27962074,27962075,27962074,27962074,27962075,27962074,27962074,27962075,27962074,27962074,27962075,27962074,27962074,27962075,27962074,27962074,27962075,41943112,41943113,41943112,41943114,41943112,41943115,41943112,41943113,41943112,41943114,41943112,41943115,41943112,41943113,41943112,41943114,41943112,41943115,55924152,55924152,55924152,55924152,55924152,55924152,55924152,55924152,55924152,111848304,111848304,111848305,111848304,111848304,111848305,111848304,111848304,111848305,111848304,111848304,111848305,111848304,111848304,111848305,111848304,111848304,111848305,111848304,111848304,111848305,111848304,111848304,111848305,111848304,111848304,111848305,167772457,167772458,167772457,167772459,167772457,167772460,167772457,167772458,167772457,167772459,167772457,167772460,167772457,167772458,167772457,167772459,167772457,167772460,167772457,167772458,167772457,167772459,167772457,167772460,167772457,167772458,167772457,167772459,167772457,167772460,167772457,167772458,167772457,167772459,167772457,167772460,167772457,167772458,167772457,167772459,167772457,167772460,167772457,167772458,167772457,167772459,167772457,167772460,167772457,167772458,167772457,167772459,167772457,167772460,167772461,167772461,167772461,167772461,167772461,167772461,167772461,167772461,167772461,55924150,55924150,55924151,55924150,55924152,27962076,27962076,27962076,27962074,27962074,27962075,27962074,27962074,27962075,27962074,27962074,27962075,55924150,55924150,55924151,55924150,55924152,27962076,27962076,27962076,55924152,55924152,55924153,55924152,55924154,27962077,27962077,27962077,55924152,55924152,55924153,55924152,55924154,27962077,27962077,27962077,55924154,55924154,55924155,55924154,55924154,55924155,55924154,55924154,55924155,111848310,111848310,111848311,111848310,111848312,55924156,55924156,55924156,27962074,27962074,27962075,27962074,27962074,27962075,27962074,27962074,27962075,55924150,55924150,55924151,55924150,55924152,27962076,27962076,27962076,27962074,27962074,27962075,27962074,27962074,27962075,27962074,27962074,27962075,55924150,55924150,55924151,55924150,55924152,27962076,27962076,27962076,55924152,55924152,55924153,55924152,55924154,27962077,27962077,27962077,55924152,55924152,55924153,55924152,55924154,27962077,27962077,27962077,55924154,55924154,55924155,55924154,55924154,55924155,55924154,55924154,55924155,111848310,111848310,111848311,111848310,111848312,55924156,55924156,55924156,111848312,111848312,111848313,111848312,111848314,55924157,55924157,55924157,111848312,111848312,111848313,111848312,111848314,55924157,55924157,55924157,111848314,111848314,111848315,111848314,111848314,111848315,111848314,111848314,111848315,223696630,223696630,223696631,223696630,223696632,111848316,111848316,111848316,27962074,27962074,27962075,27962074,27962074,27962075,27962074,27962074,27962075,55924150,55924150,55924151,55924150,55924152,27962076,27962076,27962076,55924150,55924150,55924151,55924150,55924152,27962076,27962076,27962076,223696632,223696632,223696633,223696632,223696634,111848317,111848317,111848317,55924152,55924152,55924153,55924152,55924154,27962077,27962077,27962077,139810394,139810394,139810395,139810394,139810394,139810395,139810394,139810394,139810395,279620790,279620790,279620791,279620790,279620792,139810396,139810396,139810396,55924152,55924152,55924153,55924152,55924154,27962077,27962077,27962077,139810394,139810394,139810395,139810394,139810394,139810395,139810394,139810394,139810395,279620790,279620790,279620791,279620790,279620792,139810396,139810396,139810396,279620792,279620792,279620793,279620792,279620794,139810397,139810397,139810397,195734554,195734554,195734555,195734554,195734554,195734555,195734554,195734554,195734555,391469110,391469110,391469111,391469110,391469112,195734554,195734554,195734555,195734554,195734554,195734555,195734554,195734554,195734555,391469110,391469110,391469111,391469110,391469112,251658712,251658713,251658712,251658714,251658712,251658715,195734554,195734554,195734555,195734554,195734554,195734555,195734554,195734554,195734555,307582870,307582871,307582870,307582872,307582870,307582873,307582870,307582871,307582870,307582872,307582870,307582873,363507030,363507030,363507030,307582873,363507030,363507030,363507030,363507031,363507031,363507031,363507032,363507032,363507032]
abbrev pT_Q (q : Nat→Rat) (σ : Nat→ByteArray) : Prop := ∀ (a : Nat) nd,pT_N[a]? = some nd→q a=valN σ q nd
variable {q : Nat→Rat} {σ : Nat→ByteArray}
def pT_I : List Bool := [false,false,false,false,false,false,false,false,true,true,true,false,false,false,false,false,false,false,false,true,true,true,false,false,false,false,false,false,false,false,true,true,true,false,false,false,false,false,false,false,false,true,true,true,true,true,true,true,true,true,true,true,true,true,true,true,true,true,true,true,true,true,true,true,true,true,true,true,true,true,true,true,true,true,true,true,true,true,true,true,true,true,true,true,true,true,true,true,true,true,true,true,true,true,true,true,true,true,true,true,true,true,true,true,true,true,true,true,true,true,true,true,true,true,true,true,true,true,true,true,true,true,true,true,true,true,true,true,true,true,true,true,true,true,true,true,true,true,true,true,true,true,true,true,true,true,true,true,true,true,true,true,true,true,true,true,true,true,true,true,true,true,true,true,true,true,true,true,true,true,true,true,true,true,true,true,true,true,true,true,true,true,true,true,true,true,true,true,true,true,true,true,true,true,true,true,true,true,true,true,true,true,true,true,true,true,true,true,true,true,true,true,true,true,true,true,true,true,true,true,true,true,true,true,true,true,true,true,true,true,true,true,true,true,true,true,true,true,true,true,true,true,true,true,true,true,true,true,true,true,true,true,true,true,true,true,true,true,true,true,true,true,true,true,true,true,true,true,true,true,true,true,true,true,true,true,true,true,true,true,true,true,true,true,true,true,true,true,true,true,true,true,true,true,true,true,true,true,true,true,true,true,true,true,true,true,true,true,true,true,true,true,true,true,true,true,true,true,true,true,true,true,true,true,true,true,true,true,true,true,true,true,true,true,true,true,true,true,true,true,true,true,true,true,true,true,true,true,true,true,true,true,true,true,true,true,true,true,true,true,true,true,true,true,true,true,true,true,true,true,true,true,true,true,true,true,true,true,true,true,true,true,true,true,true,true,true,true,true,true,true,true,true,true,true,true,true,true,true,true,true,true,true,true,true,true,true,true,true,true,true,true,true,true,true,true,true,true,true,true,true,true,true,true,true,true,true,true,true,true,true,true,true,true,true,true,true,true,true,true,true,true,true,true,true,true,true,true,true,true,true,true,true,true,true,true,true,true,true,true,true,true,true,true,true,true,true,true,true,true,true,true,true,true,true,true,true,true,true,true,true,true,true,true,true,true,true,true,true,true,true,true,true,true,true,true,true,true,true,true,true,true,true,true,true,true,true,true,true,true,true,true]
theorem pT_wf : wfB 0 pT_N=true := by kernel_rfl
theorem pT_sz : szC pT_Z pT_I pT_N pT_Z pT_I=true := by kernel_rfl
theorem pT_lt : litB pT_N pT_L=true := by kernel_rfl
theorem pT_cn : canB pT_N pT_C=true := by kernel_rfl
theorem pT_c54 : cst 0 0 1=(0 : Rat) := by decide +kernel
structure V3 where
 x : Rat
 y : Rat
 z : Rat
def V3.cr (u v : V3) : V3 := ⟨u.y*v.z - u.z*v.y,u.z*v.x - u.x*v.z,u.x*v.y - u.y*v.x⟩
def V3.dt (u v : V3) : Rat := u.x*v.x+u.y*v.y+u.z*v.z
def V3.sm (u : V3) (k : Rat) : V3 := ⟨u.x*k,u.y*k,u.z*k⟩
def V3.ad (u v : V3) : V3 := ⟨u.x+v.x,u.y+v.y,u.z+v.z⟩
def V3.no : V3 := ⟨0,0,0⟩
def V3.mv (a b c u : V3) : V3 := ⟨a.dt u,b.dt u,c.dt u⟩
def V3.dm (a b c : V3) : Rat := a.dt (b.cr c)
def V3.Pr (u v : V3) : Prop := ∃ g,g ≠ 0∧u=v.sm g
theorem V3.ext' {u v : V3} (h : u.x=v.x∧u.y=v.y∧u.z=v.z) : u=v := by
 cases u; cases v; cases h.1; cases h.2.1; cases h.2.2; rfl
theorem V3.no_iff {a b c : Rat} : (⟨a,b,c⟩ : V3)=.no ↔ (a=0∧b=0∧c=0) :=
 ⟨fun h => ⟨congrArg V3.x h,congrArg V3.y h,congrArg V3.z h⟩,fun h => V3.ext' h⟩
theorem V3.mk_cr {a b c d e f x y z m1 m2 m3 m4 m5 m6 : Rat} (hx : x=m1 - m2) (hy : y=m3 - m4) (hz : z=m5 - m6) (h1 : m1=b*f) (h2 : m2=c*e) (h3 : m3=c*d) (h4 : m4=a*f) (h5 : m5=a*e) (h6 : m6=b*d) : (⟨x,y,z⟩ : V3)=V3.cr ⟨a,b,c⟩ ⟨d,e,f⟩ := by
 subst_vars; rfl
theorem V3.mk_dt {a b c d e f n p q r s t o : Rat} (ho : o=0) (hn : n=p+q) (hp : p=r+s) (hr : r=o+t) (ht : t=a*d) (hs : s=b*e) (hq : q=c*f) : n=V3.dt ⟨a,b,c⟩ ⟨d,e,f⟩ := by
 subst_vars; simp only [V3.dt]; grind
theorem V3.mk_mv {x y z : Rat} {a b c u : V3} (h1 : x=a.dt u) (h2 : y=b.dt u) (h3 : z=c.dt u) : (⟨x,y,z⟩ : V3)=V3.mv a b c u := by
 subst_vars; rfl
theorem V3.mk_su {a b c d e f k n x y z m1 m2 m3 m4 m5 m6 : Rat} (hx : x=m1+m2) (hy : y=m3+m4) (hz : z=m5+m6) (h1 : m1=k*a) (h2 : m2=n*d) (h3 : m3=k*b) (h4 : m4=n*e) (h5 : m5=k*c) (h6 : m6=n*f) : (⟨x,y,z⟩ : V3)=(V3.sm ⟨a,b,c⟩ k).ad (V3.sm ⟨d,e,f⟩ n) := by
 subst_vars; apply V3.ext'; simp only [V3.sm,V3.ad]; refine ⟨?_,?_,?_⟩ <;> grind
theorem V3.mk_pf {a b c x y z : Rat} (hn : (⟨a,b,c⟩ : V3) ≠ .no) (hx : x=a*fac [a,b,c]) (hy : y=b*fac [a,b,c]) (hz : z=c*fac [a,b,c]) : V3.Pr ⟨x,y,z⟩ ⟨a,b,c⟩ :=
 ⟨fac [a,b,c],fun h => hn (V3.no_iff.2 ⟨fac_zero (by simp) h,fac_zero (by simp) h,fac_zero (by simp) h⟩),by subst_vars; rfl⟩
theorem V3.sq3 {x y z m1 m2 m3 s t : Rat} (h1 : m1=x*x) (h2 : m2=y*y) (hs : s=m1+m2) (h3 : m3=z*z) (ht : t=s+m3) : t=0 ↔ (⟨x,y,z⟩ : V3)=.no := by
 rw [V3.no_iff]
 have a1 := sq_facts x
 have a2 := sq_facts y
 have a3 := sq_facts z
 subst_vars
 constructor
 ·intro h
  refine ⟨a1.2.1 ?_,a2.2.1 ?_,a3.2.1 ?_⟩ <;> grind
 ·rintro ⟨h1,h2,h3⟩
  rw [h1,h2,h3]; grind
theorem V3.Pr.rfl' (u : V3) : V3.Pr u u := ⟨1,by decide,by apply V3.ext'; simp only [V3.sm]; refine ⟨?_,?_,?_⟩ <;> grind⟩
theorem V3.sm_sm (u : V3) (k n : Rat) : (u.sm k).sm n=u.sm (k*n) := by
 apply V3.ext'; simp only [V3.sm]; refine ⟨?_,?_,?_⟩ <;> grind
theorem V3.Pr.trans {u v w : V3} (h : V3.Pr u v) (k : V3.Pr v w) : V3.Pr u w := by
 obtain ⟨g,hg,e⟩ := h
 obtain ⟨h,hh,f⟩ := k
 exact ⟨h*g,mul_ne hh hg,by rw [e,f,V3.sm_sm]⟩
theorem V3.no_sm (k : Rat) : V3.no.sm k=.no := by
 apply V3.ext'; simp only [V3.sm,V3.no]; refine ⟨?_,?_,?_⟩ <;> grind
theorem V3.sm_ne {u : V3} {g : Rat} (hg : g ≠ 0) (h : u ≠ .no) : u.sm g ≠ .no := by
 intro e
 have e1 := congrArg V3.x e
 have e2 := congrArg V3.y e
 have e3 := congrArg V3.z e
 simp only [V3.sm,V3.no] at e1 e2 e3
 exact h (V3.ext' ⟨(Rat.mul_eq_zero.1 e1).resolve_right hg,(Rat.mul_eq_zero.1 e2).resolve_right hg,(Rat.mul_eq_zero.1 e3).resolve_right hg⟩)
theorem V3.Pr.no_iff {u v : V3} (h : V3.Pr u v) : u=.no ↔ v=.no := by
 obtain ⟨g,hg,e⟩ := h
 constructor
 ·intro k
  refine Classical.byContradiction fun q => V3.sm_ne hg q (e.symm.trans k)
 ·intro k
  rw [e,k,V3.no_sm]
theorem V3.Pr.mv {u v : V3} (a b c : V3) (h : V3.Pr u v) : V3.Pr (V3.mv a b c u) (V3.mv a b c v) := by
 obtain ⟨g,hg,e⟩ := h
 refine ⟨g,hg,?_⟩
 rw [e]; apply V3.ext'; simp only [V3.mv,V3.sm,V3.dt]; refine ⟨?_,?_,?_⟩ <;> grind
theorem V3.Pr.cr {u v s t : V3} (h : V3.Pr u v) (k : V3.Pr s t) : V3.Pr (u.cr s) (v.cr t) := by
 obtain ⟨g,hg,e⟩ := h
 obtain ⟨l,hl,f⟩ := k
 refine ⟨g*l,mul_ne hg hl,?_⟩
 rw [e,f]; apply V3.ext'; simp only [V3.cr,V3.sm]; refine ⟨?_,?_,?_⟩ <;> grind
theorem V3.Pr.dt {u v s t : V3} (h : V3.Pr u v) (k : V3.Pr s t) : u.dt s=0 ↔ v.dt t=0 := by
 obtain ⟨g,hg,e⟩ := h
 obtain ⟨l,hl,f⟩ := k
 have q : u.dt s=v.dt t*(g*l) := by rw [e,f]; simp only [V3.dt,V3.sm]; grind
 rw [q]
 exact ⟨fun h => (Rat.mul_eq_zero.1 h).resolve_right (mul_ne hg hl),fun h => by rw [h,Rat.zero_mul]⟩
theorem V3.mv_ne {a b c u : V3} (hd : V3.dm a b c ≠ 0) : V3.mv a b c u=.no ↔ u=.no := by
 constructor
 ·intro h
  have q : u.sm (V3.dm a b c)=(((b.cr c).sm (V3.mv a b c u).x).ad ((c.cr a).sm (V3.mv a b c u).y)).ad ((a.cr b).sm (V3.mv a b c u).z) := by
   apply V3.ext'; simp only [V3.mv,V3.sm,V3.dt,V3.cr,V3.ad,V3.dm]; refine ⟨?_,?_,?_⟩ <;> grind
  refine Classical.byContradiction fun k => V3.sm_ne hd k ?_
  rw [q,h]; apply V3.ext'; simp only [V3.sm,V3.ad,V3.no]; refine ⟨?_,?_,?_⟩ <;> grind
 ·intro h
  rw [h]; apply V3.ext'; simp only [V3.mv,V3.dt,V3.no]; refine ⟨?_,?_,?_⟩ <;> grind
theorem V3.cr_mv (a b c u v : V3) : (V3.mv a b c u).cr (V3.mv a b c v)=V3.mv (b.cr c) (c.cr a) (a.cr b) (u.cr v) := by
 apply V3.ext'; simp only [V3.mv,V3.dt,V3.cr]; refine ⟨?_,?_,?_⟩ <;> grind
theorem V3.dm_cf (a b c : V3) : V3.dm (b.cr c) (c.cr a) (a.cr b)=V3.dm a b c*V3.dm a b c := by
 simp only [V3.dm,V3.dt,V3.cr]; grind
theorem V3.cf_ne {a b c : V3} (hd : V3.dm a b c ≠ 0) : V3.dm (b.cr c) (c.cr a) (a.cr b) ≠ 0 := by
 rw [V3.dm_cf]; exact mul_ne hd hd
theorem V3.mv_dt (a b c u l : V3) : (V3.mv a b c u).dt (V3.mv (b.cr c) (c.cr a) (a.cr b) l)=V3.dm a b c*u.dt l := by
 simp only [V3.mv,V3.dm,V3.dt,V3.cr]; grind
theorem V3.mv_su (a b c u v : V3) (k n : Rat) : V3.mv a b c ((u.sm k).ad (v.sm n))=((V3.mv a b c u).sm k).ad ((V3.mv a b c v).sm n) := by
 apply V3.ext'; simp only [V3.mv,V3.dt,V3.sm,V3.ad]; refine ⟨?_,?_,?_⟩ <;> grind
theorem pk_cr {a b c u v s t : V3} (hd : V3.dm a b c ≠ 0) (h : V3.Pr s (V3.mv a b c u)) (k : V3.Pr t (V3.mv a b c v)) : u.cr v=.no ↔ s.cr t=.no := by
 rw [(h.cr k).no_iff,V3.cr_mv,V3.mv_ne (V3.cf_ne hd)]
theorem pk_on {a b A B C : V3} {k n : Rat} (h : V3.Pr A a) (j : V3.Pr B b) (l : V3.Pr C ((a.sm k).ad (b.sm n))) : C.dt (A.cr B)=0 := by
 rw [l.dt (h.cr j)]; simp only [V3.dt,V3.cr,V3.sm,V3.ad]; grind
theorem pk_k {a b B C : V3} {k n : Rat} (hb : V3.Pr B b) (hc : V3.Pr C ((a.sm k).ad (b.sm n))) (h : B.cr C ≠ .no) : k ≠ 0 := by
 intro e
 apply h
 rw [(hb.cr hc).no_iff,e]; apply V3.ext'; simp only [V3.cr,V3.sm,V3.ad,V3.no]; refine ⟨?_,?_,?_⟩ <;> grind
theorem pk_n {a b A D : V3} {k n : Rat} (ha : V3.Pr A a) (hc : V3.Pr D ((a.sm k).ad (b.sm n))) (h : A.cr D ≠ .no) : n ≠ 0 := by
 intro e
 apply h
 rw [(ha.cr hc).no_iff,e]; apply V3.ext'; simp only [V3.cr,V3.sm,V3.ad,V3.no]; refine ⟨?_,?_,?_⟩ <;> grind
theorem pk_im {a b r s t S C : V3} {k n : Rat} (h : V3.Pr S (V3.mv r s t C)) (j : V3.Pr C ((a.sm k).ad (b.sm n))) : V3.Pr S (((V3.mv r s t a).sm k).ad ((V3.mv r s t b).sm n)) := by
 have q := h.trans (V3.Pr.mv r s t j)
 rw [V3.mv_su] at q
 exact q
theorem pk_ra {a b A B C D : V3} {k n l m : Rat} (ha : V3.Pr A a) (hb : V3.Pr B b) (hc : V3.Pr C ((a.sm k).ad (b.sm n))) (hd : V3.Pr D ((a.sm l).ad (b.sm m))) (hx : A.cr B ≠ .no) (hk : k ≠ 0) (hm : m ≠ 0) : ((A.cr C).dt (A.cr B) / (C.cr B).dt (A.cr B))*((D.cr B).dt (A.cr B) / (A.cr D).dt (A.cr B))=n*l / (k*m) := by
 obtain ⟨α,hα,ea⟩ := ha
 obtain ⟨β,hβ,eb⟩ := hb
 obtain ⟨γ,hγ,ec⟩ := hc
 obtain ⟨δ,hδ,ed⟩ := hd
 have hs : (A.cr B).dt (A.cr B) ≠ 0 := by
  intro h
  apply hx
  have q := V3.sq3 (x := (A.cr B).x) (y := (A.cr B).y) (z := (A.cr B).z) rfl rfl rfl rfl rfl
  exact q.1 h
 have w1 : (A.cr C).dt (A.cr B)*β=n*γ*(A.cr B).dt (A.cr B) := by
  rw [ea,eb,ec]; simp only [V3.dt,V3.cr,V3.sm,V3.ad]; grind
 have w2 : (C.cr B).dt (A.cr B)*α=k*γ*(A.cr B).dt (A.cr B) := by
  rw [ea,eb,ec]; simp only [V3.dt,V3.cr,V3.sm,V3.ad]; grind
 have w3 : (D.cr B).dt (A.cr B)*α=l*δ*(A.cr B).dt (A.cr B) := by
  rw [ea,eb,ed]; simp only [V3.dt,V3.cr,V3.sm,V3.ad]; grind
 have w4 : (A.cr D).dt (A.cr B)*β=m*δ*(A.cr B).dt (A.cr B) := by
  rw [ea,eb,ed]; simp only [V3.dt,V3.cr,V3.sm,V3.ad]; grind
 generalize (A.cr B).dt (A.cr B)=S at *
 generalize (A.cr C).dt (A.cr B)=T at *
 generalize (C.cr B).dt (A.cr B)=U at *
 generalize (D.cr B).dt (A.cr B)=V at *
 generalize (A.cr D).dt (A.cr B)=W at *
 clear ea eb ec ed hx
 have hU : U ≠ 0 := by
  intro h; rw [h,Rat.zero_mul] at w2
  exact mul_ne (mul_ne hk hγ) hs w2.symm
 have hW : W ≠ 0 := by
  intro h; rw [h,Rat.zero_mul] at w4
  exact mul_ne (mul_ne hm hδ) hs w4.symm
 have hkm := mul_ne hk hm
 have q : (T / U*(V / W) - n*l / (k*m))*(U*W*(k*m))=0 := by
  have r : (T / U*(V / W) - n*l / (k*m))*(U*W*(k*m))=(T / U*U)*(V / W*W)*(k*m) - (n*l / (k*m)*(k*m))*(U*W) := by clear w1 w2 w3 w4; grind
  rw [r,Rat.div_mul_cancel hU,Rat.div_mul_cancel hW,Rat.div_mul_cancel hkm]
  have r2 : (T*V*(k*m) - n*l*(U*W))*(α*β)=0 := by
   have r3 : (T*V*(k*m) - n*l*(U*W))*(α*β)=(T*β)*(V*α)*(k*m) - n*l*((U*α)*(W*β)) := by clear w1 w2 w3 w4 r; grind
   rw [r3,w1,w2,w3,w4]; clear w1 w2 w3 w4 r r3; grind
  exact (Rat.mul_eq_zero.1 r2).resolve_right (mul_ne hα hβ)
 have q2 := (Rat.mul_eq_zero.1 q).resolve_right (mul_ne (mul_ne hU hW) hkm)
 clear q w1 w2 w3 w4; grind
theorem pk_li {a b c A L S M : V3} (hd : V3.dm a b c ≠ 0) (h : V3.Pr S (V3.mv a b c A)) (k : V3.Pr M (V3.mv (b.cr c) (c.cr a) (a.cr b) L)) : A.dt L=0 ↔ S.dt M=0 := by
 rw [h.dt k,V3.mv_dt]
 exact ⟨fun e => by rw [e,Rat.mul_zero],fun e => (Rat.mul_eq_zero.1 e).resolve_left hd⟩
theorem neg_ne {a : Rat} (h : a ≠ 0) : -a ≠ 0 := by
 intro q
 apply h
 grind
def V3.sb (u v : V3) : V3 := ⟨u.x - v.x,u.y - v.y,u.z - v.z⟩
theorem V3.cr_cr (a b c d : V3) : (a.cr b).cr (c.cr d)=(c.sm (V3.dm a b d)).sb (d.sm (V3.dm a b c)) := by
 apply V3.ext'; simp only [V3.cr,V3.sm,V3.sb,V3.dm,V3.dt]; refine ⟨?_,?_,?_⟩ <;> grind
theorem V3.cramer (a b c d : V3) : d.sm (V3.dm a b c)=((a.sm (V3.dm b c d)).ad (b.sm (V3.dm c a d))).ad (c.sm (V3.dm a b d)) := by
 apply V3.ext'; simp only [V3.cr,V3.sm,V3.ad,V3.dm,V3.dt]; refine ⟨?_,?_,?_⟩ <;> grind
theorem st_x {a b c d : V3} {D α β γ : Rat} (hD : V3.dm a b c=D) (hα : V3.dm b c d=α) (hβ : V3.dm c a d=β) (hγ : V3.dm a b d=γ) : (a.cr b).cr (c.cr d)=((a.sm α).ad (b.sm β)).sm (-1) := by
 have h := V3.cramer a b c d
 rw [hD,hα,hβ,hγ] at h
 rw [V3.cr_cr,hD,hγ,h]
 apply V3.ext'; simp only [V3.sm,V3.ad,V3.sb]; refine ⟨?_,?_,?_⟩ <;> grind
theorem V3.dm_sw (a b c : V3) : V3.dm a c b=-V3.dm a b c := by
 simp only [V3.dm,V3.dt,V3.cr]; grind
theorem st_y {a b c d : V3} {D α β γ : Rat} (hD : V3.dm a b c=D) (hα : V3.dm b c d=α) (hβ : V3.dm c a d=β) (hγ : V3.dm a b d=γ) : (a.cr c).cr (b.cr d)=(a.sm α).ad (c.sm γ) := by
 have h := V3.cramer a b c d
 rw [hD,hα,hβ,hγ] at h
 have k1 : V3.dm a c d=-β := by rw [← hβ]; simp only [V3.dm,V3.dt,V3.cr]; grind
 rw [V3.cr_cr,V3.dm_sw a b c,hD,k1]
 have k2 : d.sm (-D)=(d.sm D).sm (-1) := by apply V3.ext'; simp only [V3.sm]; refine ⟨?_,?_,?_⟩ <;> grind
 rw [k2,h]
 apply V3.ext'; simp only [V3.sm,V3.ad,V3.sb]; refine ⟨?_,?_,?_⟩ <;> grind
theorem V3.cr_sm (u v : V3) (k : Rat) : u.cr (v.sm k)=(u.cr v).sm k := by
 apply V3.ext'; simp only [V3.cr,V3.sm]; refine ⟨?_,?_,?_⟩ <;> grind
theorem V3.sm_c {u v : V3} {k : Rat} (hk : k ≠ 0) (h : u.sm k=v.sm k) : u=v := by
 have e1 := congrArg V3.x h
 have e2 := congrArg V3.y h
 have e3 := congrArg V3.z h
 simp only [V3.sm] at e1 e2 e3
 have f : ∀ {a b : Rat},a*k=b*k→a=b := by
  intro a b h
  have q : (a - b)*k=0 := by grind
  have := (Rat.mul_eq_zero.1 q).resolve_right hk
  grind
 exact V3.ext' ⟨f e1,f e2,f e3⟩
theorem st_xy {a b c : V3} {α β γ : Rat} : ((a.sm α).ad (b.sm β)).cr ((a.sm α).ad (c.sm γ))=(((a.cr c).sm (α*γ)).ad ((b.cr a).sm (β*α))).ad ((b.cr c).sm (β*γ)) := by
 apply V3.ext'; simp only [V3.cr,V3.sm,V3.ad]; refine ⟨?_,?_,?_⟩ <;> grind
theorem st_u {a b c d X Y : V3} {D α β γ : Rat} (hD : V3.dm a b c=D) (hd : d.sm D=((a.sm α).ad (b.sm β)).ad (c.sm γ)) (h0 : D ≠ 0) (hX : X=(a.sm α).ad (b.sm β)) (hY : Y=(a.sm α).ad (c.sm γ)) : (X.cr Y).cr (a.cr d)=(X.ad Y).sm (-(β*γ)) := by
 refine V3.sm_c h0 ?_
 rw [← V3.cr_sm,← V3.cr_sm,hd,← hD,hX,hY]
 clear hd hD h0 hX hY
 apply V3.ext'; simp only [V3.cr,V3.sm,V3.ad,V3.dm,V3.dt]; refine ⟨?_,?_,?_⟩ <;> grind
theorem st_v {a b c X Y : V3} {D α β γ : Rat} (hD : V3.dm a b c=D) (hX : X=(a.sm α).ad (b.sm β)) (hY : Y=(a.sm α).ad (c.sm γ)) : (X.cr Y).cr (b.cr c)=(X.sb Y).sm (-(α*D)) := by
 rw [← hD,hX,hY]
 clear hD hX hY
 apply V3.ext'; simp only [V3.cr,V3.sm,V3.ad,V3.sb,V3.dm,V3.dt]; refine ⟨?_,?_,?_⟩ <;> grind
theorem st_ne {a b c X Y : V3} {D α β γ : Rat} (hD : V3.dm a b c=D) (h0 : D ≠ 0) (hα : α ≠ 0) (hβ : β ≠ 0) (hX : X=(a.sm α).ad (b.sm β)) (hY : Y=(a.sm α).ad (c.sm γ)) : X.cr Y ≠ .no := by
 intro h
 have k : c.dt (X.cr Y)=-(α*β*D) := by rw [← hD,hX,hY]; clear h hD h0 hα hβ hX hY; simp only [V3.cr,V3.sm,V3.ad,V3.dm,V3.dt]; grind
 rw [h] at k
 have z : c.dt V3.no=0 := by simp only [V3.dt,V3.no]; grind
 rw [z] at k
 have := mul_ne (mul_ne hα hβ) h0
 grind
theorem st_h {X Y x y u : V3} (hx : V3.Pr x X) (hy : V3.Pr y Y) (hu : V3.Pr u (X.ad Y)) (hn : X.cr Y ≠ .no) : V3.Pr ((x.sm ((u.cr y).dt (x.cr y))).ad (y.sm (-((x.cr u).dt (x.cr y))))) (X.sb Y) := by
 obtain ⟨ξ,h1,ex⟩ := hx
 obtain ⟨η,h2,ey⟩ := hy
 obtain ⟨g,h3,eu⟩ := hu
 have hs : (X.cr Y).dt (X.cr Y) ≠ 0 := by
  intro h
  apply hn
  exact (V3.sq3 (x := (X.cr Y).x) (y := (X.cr Y).y) (z := (X.cr Y).z) rfl rfl rfl rfl rfl).1 h
 refine ⟨g*ξ*η*(ξ*η)*(X.cr Y).dt (X.cr Y),mul_ne (mul_ne (mul_ne (mul_ne h3 h1) h2) (mul_ne h1 h2)) hs,?_⟩
 have c1 : u.cr y=(X.cr Y).sm (g*η) := by rw [eu,ey]; apply V3.ext'; simp only [V3.cr,V3.sm,V3.ad]; refine ⟨?_,?_,?_⟩ <;> grind
 have c2 : x.cr y=(X.cr Y).sm (ξ*η) := by rw [ex,ey]; apply V3.ext'; simp only [V3.cr,V3.sm]; refine ⟨?_,?_,?_⟩ <;> grind
 have c3 : x.cr u=(X.cr Y).sm (ξ*g) := by rw [ex,eu]; apply V3.ext'; simp only [V3.cr,V3.sm,V3.ad]; refine ⟨?_,?_,?_⟩ <;> grind
 rw [c1,c2,c3,ex,ey]
 generalize X.cr Y=Z
 apply V3.ext'; simp only [V3.sm,V3.ad,V3.sb,V3.dt]; refine ⟨?_,?_,?_⟩ <;> grind
theorem st_cu {X Y x u : V3} (hx : V3.Pr x X) (hu : V3.Pr u (X.ad Y)) : V3.Pr (x.cr u) (X.cr Y) := by
 have h := hx.cr hu
 have q : X.cr (X.ad Y)=X.cr Y := by apply V3.ext'; simp only [V3.cr,V3.ad]; refine ⟨?_,?_,?_⟩ <;> grind
 rw [q] at h; exact h
theorem st_cv {X Y y u : V3} (hy : V3.Pr y Y) (hu : V3.Pr u (X.ad Y)) : V3.Pr (y.cr u) (X.cr Y) := by
 have h := hy.cr hu
 obtain ⟨g,hg,e⟩ := h
 refine ⟨-g,by intro q; apply hg; grind,?_⟩
 rw [e]; apply V3.ext'; simp only [V3.cr,V3.ad,V3.sm]; refine ⟨?_,?_,?_⟩ <;> grind
theorem st_on {X Y x y u : V3} (hx : V3.Pr x X) (hy : V3.Pr y Y) (hu : V3.Pr u (X.ad Y)) : u.dt (x.cr y)=0 := by
 rw [hu.dt (hx.cr hy)]; simp only [V3.dt,V3.cr,V3.ad]; grind
theorem V3.dm_cy (a b c : V3) : (a.cr b).dt c=V3.dm a b c := by
 simp only [V3.dm,V3.dt,V3.cr]; grind
theorem V3.dm_no {a b c : V3} (h : V3.dm a b c ≠ 0) : a.cr b ≠ .no∧b.cr c ≠ .no∧a.cr c ≠ .no := by
 refine ⟨fun e => h ?_,fun e => h ?_,fun e => h ?_⟩
 ·rw [← V3.dm_cy,e]; simp only [V3.dt,V3.no]; grind
 ·unfold V3.dm; rw [e]; simp only [V3.dt,V3.no]; grind
 ·have q : V3.dm a b c=-(b.dt (a.cr c)) := by simp only [V3.dm,V3.dt,V3.cr]; grind
  rw [q,e]; simp only [V3.dt,V3.no]; grind
theorem V3.Pr.un {u v : V3} {k : Rat} (hk : k ≠ 0) (h : V3.Pr u (v.sm k)) : V3.Pr u v := by
 obtain ⟨g,hg,e⟩ := h
 exact ⟨k*g,mul_ne hk hg,by rw [e,V3.sm_sm]⟩
theorem V3.Pr.sym {u v : V3} (h : V3.Pr u v) : V3.Pr v u := by
 obtain ⟨g,hg,e⟩ := h
 refine ⟨g⁻¹,fun q => ?_,?_⟩
 ·have := Rat.mul_inv_cancel _ hg; rw [q,Rat.mul_zero] at this; exact absurd this (by decide)
 ·rw [e,V3.sm_sm,Rat.mul_inv_cancel _ hg]; apply V3.ext'; simp only [V3.sm]; refine ⟨?_,?_,?_⟩ <;> grind
theorem V3.cr_no {u v : V3} (h : u.cr v ≠ .no) : u ≠ .no∧v ≠ .no := by
 refine ⟨fun e => h ?_,fun e => h ?_⟩ <;> (rw [e]; apply V3.ext'; simp only [V3.cr,V3.no]; refine ⟨?_,?_,?_⟩ <;> grind)
theorem st_ad {X Y : V3} (h : X.cr Y ≠ .no) : X.ad Y ≠ .no∧X.sb Y ≠ .no := by
 refine ⟨fun e => h ?_,fun e => h ?_⟩
 ·have q : X.cr Y=X.cr (X.ad Y) := by apply V3.ext'; simp only [V3.cr,V3.ad]; refine ⟨?_,?_,?_⟩ <;> grind
  rw [q,e]; apply V3.ext'; simp only [V3.cr,V3.no]; refine ⟨?_,?_,?_⟩ <;> grind
 ·have q : X.cr Y=(X.sb Y).cr X := by apply V3.ext'; simp only [V3.cr,V3.sb]; refine ⟨?_,?_,?_⟩ <;> grind
  rw [q,e]; apply V3.ext'; simp only [V3.cr,V3.no]; refine ⟨?_,?_,?_⟩ <;> grind
theorem V3.pf_eq {a b c x y z : Rat} (h : V3.Pr ⟨a,b,c⟩ ⟨x,y,z⟩) (hn : (⟨x,y,z⟩ : V3) ≠ .no) : a*fac [a,b,c]=x*fac [x,y,z]∧b*fac [a,b,c]=y*fac [x,y,z]∧c*fac [a,b,c]=z*fac [x,y,z] := by
 obtain ⟨g,hg,e⟩ := h
 have e1 : a=g*x := (congrArg V3.x e).trans (Rat.mul_comm _ _)
 have e2 : b=g*y := (congrArg V3.y e).trans (Rat.mul_comm _ _)
 have e3 : c=g*z := (congrArg V3.z e).trans (Rat.mul_comm _ _)
 have hs : g*fac [g*x,g*y,g*z]=fac [x,y,z] := by
  by_cases hx : x=0
  ·by_cases hy : y=0
   ·by_cases hz : z=0
    ·exact absurd (V3.no_iff.2 ⟨hx,hy,hz⟩) hn
    ·exact fac_scale (qs := [x,y,z]) (q0 := z) (by simp) hz hg
   ·exact fac_scale (qs := [x,y,z]) (q0 := y) (by simp) hy hg
  ·exact fac_scale (qs := [x,y,z]) (q0 := x) (by simp) hx hg
 rw [e1,e2,e3,← hs]
 refine ⟨?_,?_,?_⟩ <;> grind
theorem V3.mk_sn {a b c d e f s t t' x y z m1 m2 m3 m4 m5 m6 : Rat} (hx : x=m1+m2) (hy : y=m3+m4) (hz : z=m5+m6) (h1 : m1=a*s) (h2 : m2=d*t') (h3 : m3=b*s) (h4 : m4=e*t') (h5 : m5=c*s) (h6 : m6=f*t') (ht : t'=-t) : (⟨x,y,z⟩ : V3)=(V3.sm ⟨a,b,c⟩ s).ad (V3.sm ⟨d,e,f⟩ (-t)) := by
 subst_vars; rfl
theorem V3.Pr.of {u v : V3} (h : u=v) : V3.Pr u v := by rw [h]; exact V3.Pr.rfl' v
theorem pT_T0 (H : pT_Q q σ) : (¬ (q 7=0))→(¬ (q 18=0))→(¬ (q 29=0))→(¬ (q 40=0))→(¬ (q 59=0))→(¬ (q 83=0))→(¬ (q 89=0))→(¬ (q 95=0))→((¬ (q 199=0))∧(¬ (q 216=0))∧(¬ (q 224=0))∧(¬ (q 232=0))∧(¬ (q 249=0))∧(¬ (q 266=0))∧(¬ (q 283=0))∧(¬ (q 291=0))∧(¬ (q 299=0))∧(¬ (q 316=0))∧(¬ (q 324=0))∧(¬ (q 332=0))∧(¬ (q 349=0))∧(¬ (q 366=0))∧(¬ (q 374=0))∧(¬ (q 382=0))∧(¬ (q 390=0))∧(¬ (q 407=0))∧(¬ (q 415=0))∧(¬ (q 432=0))∧(¬ (q 440=0))∧(¬ (q 457=0))∧(¬ (q 471=0))∧(q 477=0)∧(q 509=q 433)∧(q 510=q 434)∧(q 511=q 435)) := by
 have e3:q 3=q 0*q 0:=H 3 _ rfl;have e4:q 4=q 1*q 1:=H 4 _ rfl;have e5:q 5=q 3+q 4:=H 5 _ rfl;have e6:q 6=q 2*q 2:=H 6 _ rfl;have e7:q 7=q 5+q 6:=H 7 _ rfl;have e8:q 8=q 0*fac [q 0,q 1,q 2]:=H 8 _ rfl;have e9:q 9=q 1*fac [q 0,q 1,q 2]:=H 9 _ rfl;have e10:q 10=q 2*fac [q 0,q 1,q 2]:=H 10 _ rfl;have e14:q 14=q 11*q 11:=H 14 _ rfl;have e15:q 15=q 12*q 12:=H 15 _ rfl;have e16:q 16=q 14+q 15:=H 16 _ rfl;have e17:q 17=q 13*q 13:=H 17 _ rfl;have e18:q 18=q 16+q 17:=H 18 _ rfl;have e19:q 19=q 11*fac [q 11,q 12,q 13]:=H 19 _ rfl;have e20:q 20=q 12*fac [q 11,q 12,q 13]:=H 20 _ rfl;have e21:q 21=q 13*fac [q 11,q 12,q 13]:=H 21 _ rfl;have e25:q 25=q 22*q 22:=H 25 _ rfl;have e26:q 26=q 23*q 23:=H 26 _ rfl;have e27:q 27=q 25+q 26:=H 27 _ rfl;have e28:q 28=q 24*q 24:=H 28 _ rfl;have e29:q 29=q 27+q 28:=H 29 _ rfl;have e30:q 30=q 22*fac [q 22,q 23,q 24]:=H 30 _ rfl;have e31:q 31=q 23*fac [q 22,q 23,q 24]:=H 31 _ rfl;have e32:q 32=q 24*fac [q 22,q 23,q 24]:=H 32 _ rfl;have e36:q 36=q 33*q 33:=H 36 _ rfl;have e37:q 37=q 34*q 34:=H 37 _ rfl;have e38:q 38=q 36+q 37:=H 38 _ rfl;have e39:q 39=q 35*q 35:=H 39 _ rfl;have e40:q 40=q 38+q 39:=H 40 _ rfl;have e41:q 41=q 33*fac [q 33,q 34,q 35]:=H 41 _ rfl;have e42:q 42=q 34*fac [q 33,q 34,q 35]:=H 42 _ rfl;have e43:q 43=q 35*fac [q 33,q 34,q 35]:=H 43 _ rfl;have e44:q 44=q 20*q 32:=H 44 _ rfl;have e45:q 45=q 21*q 31:=H 45 _ rfl;have e46:q 46=q 44-q 45:=H 46 _ rfl;have e47:q 47=q 21*q 30:=H 47 _ rfl;have e48:q 48=q 19*q 32:=H 48 _ rfl;have e49:q 49=q 47-q 48:=H 49 _ rfl;have e50:q 50=q 19*q 31:=H 50 _ rfl;have e51:q 51=q 20*q 30:=H 51 _ rfl;have e52:q 52=q 50-q 51:=H 52 _ rfl;have e53:q 53=q 8*q 46:=H 53 _ rfl;have e54:q 54=0:=(H 54 _ rfl).trans pT_c54;have e55:q 55=q 54+q 53:=H 55 _ rfl;have e56:q 56=q 9*q 49:=H 56 _ rfl;have e57:q 57=q 55+q 56:=H 57 _ rfl;have e58:q 58=q 10*q 52:=H 58 _ rfl;have e59:q 59=q 57+q 58:=H 59 _ rfl;have e60:q 60=q 31*q 10:=H 60 _ rfl;have e61:q 61=q 32*q 9:=H 61 _ rfl;have e62:q 62=q 60-q 61:=H 62 _ rfl;have e63:q 63=q 32*q 8:=H 63 _ rfl;have e64:q 64=q 30*q 10:=H 64 _ rfl;have e65:q 65=q 63-q 64:=H 65 _ rfl;have e66:q 66=q 30*q 9:=H 66 _ rfl;have e67:q 67=q 31*q 8:=H 67 _ rfl;have e68:q 68=q 66-q 67:=H 68 _ rfl;have e69:q 69=q 9*q 21:=H 69 _ rfl;have e70:q 70=q 10*q 20:=H 70 _ rfl;have e71:q 71=q 69-q 70:=H 71 _ rfl;have e72:q 72=q 10*q 19:=H 72 _ rfl;have e73:q 73=q 8*q 21:=H 73 _ rfl;have e74:q 74=q 72-q 73:=H 74 _ rfl;have e75:q 75=q 8*q 20:=H 75 _ rfl;have e76:q 76=q 9*q 19:=H 76 _ rfl;have e77:q 77=q 75-q 76:=H 77 _ rfl;have e78:q 78=q 46*q 41:=H 78 _ rfl;have e79:q 79=q 54+q 78:=H 79 _ rfl;have e80:q 80=q 49*q 42:=H 80 _ rfl;have e81:q 81=q 79+q 80:=H 81 _ rfl;have e82:q 82=q 52*q 43:=H 82 _ rfl;have e83:q 83=q 81+q 82:=H 83 _ rfl;have e84:q 84=q 62*q 41:=H 84 _ rfl;have e85:q 85=q 54+q 84:=H 85 _ rfl;have e86:q 86=q 65*q 42:=H 86 _ rfl;have e87:q 87=q 85+q 86:=H 87 _ rfl;have e88:q 88=q 68*q 43:=H 88 _ rfl;have e89:q 89=q 87+q 88:=H 89 _ rfl;have e90:q 90=q 71*q 41:=H 90 _ rfl;have e91:q 91=q 54+q 90:=H 91 _ rfl;have e92:q 92=q 74*q 42:=H 92 _ rfl;have e93:q 93=q 91+q 92:=H 93 _ rfl;have e94:q 94=q 77*q 43:=H 94 _ rfl;have e95:q 95=q 93+q 94:=H 95 _ rfl;have e195:q 195=q 71*q 71:=H 195 _ rfl;have e196:q 196=q 74*q 74:=H 196 _ rfl;have e197:q 197=q 195+q 196:=H 197 _ rfl;have e198:q 198=q 77*q 77:=H 198 _ rfl;have e199:q 199=q 197+q 198:=H 199 _ rfl;have e200:q 200=q 71*fac [q 71,q 74,q 77]:=H 200 _ rfl;have e201:q 201=q 74*fac [q 71,q 74,q 77]:=H 201 _ rfl;have e202:q 202=q 77*fac [q 71,q 74,q 77]:=H 202 _ rfl;have e203:q 203=q 31*q 43:=H 203 _ rfl;have e204:q 204=q 32*q 42:=H 204 _ rfl;have e205:q 205=q 203-q 204:=H 205 _ rfl;have e206:q 206=q 32*q 41:=H 206 _ rfl;have e207:q 207=q 30*q 43:=H 207 _ rfl;have e208:q 208=q 206-q 207:=H 208 _ rfl;have e209:q 209=q 30*q 42:=H 209 _ rfl;have e210:q 210=q 31*q 41:=H 210 _ rfl;have e211:q 211=q 209-q 210:=H 211 _ rfl;have e212:q 212=q 205*q 205:=H 212 _ rfl;have e213:q 213=q 208*q 208:=H 213 _ rfl;have e214:q 214=q 212+q 213:=H 214 _ rfl;have e215:q 215=q 211*q 211:=H 215 _ rfl;have e216:q 216=q 214+q 215:=H 216 _ rfl;have e217:q 217=q 205*fac [q 205,q 208,q 211]:=H 217 _ rfl;have e218:q 218=q 208*fac [q 205,q 208,q 211]:=H 218 _ rfl;have e219:q 219=q 211*fac [q 205,q 208,q 211]:=H 219 _ rfl;have e220:q 220=q 200*q 200:=H 220 _ rfl;have e221:q 221=q 201*q 201:=H 221 _ rfl;have e222:q 222=q 220+q 221:=H 222 _ rfl;have e223:q 223=q 202*q 202:=H 223 _ rfl;have e224:q 224=q 222+q 223:=H 224 _ rfl;have e225:q 225=q 200*fac [q 200,q 201,q 202]:=H 225 _ rfl;have e226:q 226=q 201*fac [q 200,q 201,q 202]:=H 226 _ rfl;have e227:q 227=q 202*fac [q 200,q 201,q 202]:=H 227 _ rfl;have e228:q 228=q 217*q 217:=H 228 _ rfl;have e229:q 229=q 218*q 218:=H 229 _ rfl;have e230:q 230=q 228+q 229:=H 230 _ rfl;have e231:q 231=q 219*q 219:=H 231 _ rfl;have e232:q 232=q 230+q 231:=H 232 _ rfl;have e233:q 233=q 217*fac [q 217,q 218,q 219]:=H 233 _ rfl;have e234:q 234=q 218*fac [q 217,q 218,q 219]:=H 234 _ rfl;have e235:q 235=q 219*fac [q 217,q 218,q 219]:=H 235 _ rfl;have e236:q 236=q 226*q 235:=H 236 _ rfl;have e237:q 237=q 227*q 234:=H 237 _ rfl;have e238:q 238=q 236-q 237:=H 238 _ rfl;have e239:q 239=q 227*q 233:=H 239 _ rfl;have e240:q 240=q 225*q 235:=H 240 _ rfl;have e241:q 241=q 239-q 240:=H 241 _ rfl;have e242:q 242=q 225*q 234:=H 242 _ rfl;have e243:q 243=q 226*q 233:=H 243 _ rfl;have e244:q 244=q 242-q 243:=H 244 _ rfl;have e245:q 245=q 238*q 238:=H 245 _ rfl;have e246:q 246=q 241*q 241:=H 246 _ rfl;have e247:q 247=q 245+q 246:=H 247 _ rfl;have e248:q 248=q 244*q 244:=H 248 _ rfl;have e249:q 249=q 247+q 248:=H 249 _ rfl;have e250:q 250=q 238*fac [q 238,q 241,q 244]:=H 250 _ rfl;have e251:q 251=q 241*fac [q 238,q 241,q 244]:=H 251 _ rfl;have e252:q 252=q 244*fac [q 238,q 241,q 244]:=H 252 _ rfl;have e253:q 253=q 9*q 32:=H 253 _ rfl;have e254:q 254=q 10*q 31:=H 254 _ rfl;have e255:q 255=q 253-q 254:=H 255 _ rfl;have e256:q 256=q 10*q 30:=H 256 _ rfl;have e257:q 257=q 8*q 32:=H 257 _ rfl;have e258:q 258=q 256-q 257:=H 258 _ rfl;have e259:q 259=q 8*q 31:=H 259 _ rfl;have e260:q 260=q 9*q 30:=H 260 _ rfl;have e261:q 261=q 259-q 260:=H 261 _ rfl;have e262:q 262=q 255*q 255:=H 262 _ rfl;have e263:q 263=q 258*q 258:=H 263 _ rfl;have e264:q 264=q 262+q 263:=H 264 _ rfl;have e265:q 265=q 261*q 261:=H 265 _ rfl;have e266:q 266=q 264+q 265:=H 266 _ rfl;have e267:q 267=q 255*fac [q 255,q 258,q 261]:=H 267 _ rfl;have e268:q 268=q 258*fac [q 255,q 258,q 261]:=H 268 _ rfl;have e269:q 269=q 261*fac [q 255,q 258,q 261]:=H 269 _ rfl;have e270:q 270=q 20*q 43:=H 270 _ rfl;have e271:q 271=q 21*q 42:=H 271 _ rfl;have e272:q 272=q 270-q 271:=H 272 _ rfl;have e273:q 273=q 21*q 41:=H 273 _ rfl;have e274:q 274=q 19*q 43:=H 274 _ rfl;have e275:q 275=q 273-q 274:=H 275 _ rfl;have e276:q 276=q 19*q 42:=H 276 _ rfl;have e277:q 277=q 20*q 41:=H 277 _ rfl;have e278:q 278=q 276-q 277:=H 278 _ rfl;have e279:q 279=q 272*q 272:=H 279 _ rfl;have e280:q 280=q 275*q 275:=H 280 _ rfl;have e281:q 281=q 279+q 280:=H 281 _ rfl;have e282:q 282=q 278*q 278:=H 282 _ rfl;have e283:q 283=q 281+q 282:=H 283 _ rfl;have e284:q 284=q 272*fac [q 272,q 275,q 278]:=H 284 _ rfl;have e285:q 285=q 275*fac [q 272,q 275,q 278]:=H 285 _ rfl;have e286:q 286=q 278*fac [q 272,q 275,q 278]:=H 286 _ rfl;have e287:q 287=q 267*q 267:=H 287 _ rfl;have e288:q 288=q 268*q 268:=H 288 _ rfl;have e289:q 289=q 287+q 288:=H 289 _ rfl;have e290:q 290=q 269*q 269:=H 290 _ rfl;have e291:q 291=q 289+q 290:=H 291 _ rfl;have e292:q 292=q 267*fac [q 267,q 268,q 269]:=H 292 _ rfl;have e293:q 293=q 268*fac [q 267,q 268,q 269]:=H 293 _ rfl;have e294:q 294=q 269*fac [q 267,q 268,q 269]:=H 294 _ rfl;have e295:q 295=q 284*q 284:=H 295 _ rfl;have e296:q 296=q 285*q 285:=H 296 _ rfl;have e297:q 297=q 295+q 296:=H 297 _ rfl;have e298:q 298=q 286*q 286:=H 298 _ rfl;have e299:q 299=q 297+q 298:=H 299 _ rfl;have e300:q 300=q 284*fac [q 284,q 285,q 286]:=H 300 _ rfl;have e301:q 301=q 285*fac [q 284,q 285,q 286]:=H 301 _ rfl;have e302:q 302=q 286*fac [q 284,q 285,q 286]:=H 302 _ rfl;have e303:q 303=q 293*q 302:=H 303 _ rfl;have e304:q 304=q 294*q 301:=H 304 _ rfl;have e305:q 305=q 303-q 304:=H 305 _ rfl;have e306:q 306=q 294*q 300:=H 306 _ rfl;have e307:q 307=q 292*q 302:=H 307 _ rfl;have e308:q 308=q 306-q 307:=H 308 _ rfl;have e309:q 309=q 292*q 301:=H 309 _ rfl;have e310:q 310=q 293*q 300:=H 310 _ rfl;have e311:q 311=q 309-q 310:=H 311 _ rfl;have e312:q 312=q 305*q 305:=H 312 _ rfl;have e313:q 313=q 308*q 308:=H 313 _ rfl;have e314:q 314=q 312+q 313:=H 314 _ rfl;have e315:q 315=q 311*q 311:=H 315 _ rfl;have e316:q 316=q 314+q 315:=H 316 _ rfl;have e317:q 317=q 305*fac [q 305,q 308,q 311]:=H 317 _ rfl;have e318:q 318=q 308*fac [q 305,q 308,q 311]:=H 318 _ rfl;have e319:q 319=q 311*fac [q 305,q 308,q 311]:=H 319 _ rfl;have e320:q 320=q 250*q 250:=H 320 _ rfl;have e321:q 321=q 251*q 251:=H 321 _ rfl;have e322:q 322=q 320+q 321:=H 322 _ rfl;have e323:q 323=q 252*q 252:=H 323 _ rfl;have e324:q 324=q 322+q 323:=H 324 _ rfl;have e325:q 325=q 250*fac [q 250,q 251,q 252]:=H 325 _ rfl;have e326:q 326=q 251*fac [q 250,q 251,q 252]:=H 326 _ rfl;have e327:q 327=q 252*fac [q 250,q 251,q 252]:=H 327 _ rfl;have e328:q 328=q 317*q 317:=H 328 _ rfl;have e329:q 329=q 318*q 318:=H 329 _ rfl;have e330:q 330=q 328+q 329:=H 330 _ rfl;have e331:q 331=q 319*q 319:=H 331 _ rfl;have e332:q 332=q 330+q 331:=H 332 _ rfl;have e333:q 333=q 317*fac [q 317,q 318,q 319]:=H 333 _ rfl;have e334:q 334=q 318*fac [q 317,q 318,q 319]:=H 334 _ rfl;have e335:q 335=q 319*fac [q 317,q 318,q 319]:=H 335 _ rfl;have e336:q 336=q 326*q 335:=H 336 _ rfl;have e337:q 337=q 327*q 334:=H 337 _ rfl;have e338:q 338=q 336-q 337:=H 338 _ rfl;have e339:q 339=q 327*q 333:=H 339 _ rfl;have e340:q 340=q 325*q 335:=H 340 _ rfl;have e341:q 341=q 339-q 340:=H 341 _ rfl;have e342:q 342=q 325*q 334:=H 342 _ rfl;have e343:q 343=q 326*q 333:=H 343 _ rfl;have e344:q 344=q 342-q 343:=H 344 _ rfl;have e345:q 345=q 338*q 338:=H 345 _ rfl;have e346:q 346=q 341*q 341:=H 346 _ rfl;have e347:q 347=q 345+q 346:=H 347 _ rfl;have e348:q 348=q 344*q 344:=H 348 _ rfl;have e349:q 349=q 347+q 348:=H 349 _ rfl;have e350:q 350=q 338*fac [q 338,q 341,q 344]:=H 350 _ rfl;have e351:q 351=q 341*fac [q 338,q 341,q 344]:=H 351 _ rfl;have e352:q 352=q 344*fac [q 338,q 341,q 344]:=H 352 _ rfl;have e353:q 353=q 9*q 43:=H 353 _ rfl;have e354:q 354=q 10*q 42:=H 354 _ rfl;have e355:q 355=q 353-q 354:=H 355 _ rfl;have e356:q 356=q 10*q 41:=H 356 _ rfl;have e357:q 357=q 8*q 43:=H 357 _ rfl;have e358:q 358=q 356-q 357:=H 358 _ rfl;have e359:q 359=q 8*q 42:=H 359 _ rfl;have e360:q 360=q 9*q 41:=H 360 _ rfl;have e361:q 361=q 359-q 360:=H 361 _ rfl;have e362:q 362=q 355*q 355:=H 362 _ rfl;have e363:q 363=q 358*q 358:=H 363 _ rfl;have e364:q 364=q 362+q 363:=H 364 _ rfl;have e365:q 365=q 361*q 361:=H 365 _ rfl;have e366:q 366=q 364+q 365:=H 366 _ rfl;have e367:q 367=q 355*fac [q 355,q 358,q 361]:=H 367 _ rfl;have e368:q 368=q 358*fac [q 355,q 358,q 361]:=H 368 _ rfl;have e369:q 369=q 361*fac [q 355,q 358,q 361]:=H 369 _ rfl;have e370:q 370=q 46*q 46:=H 370 _ rfl;have e371:q 371=q 49*q 49:=H 371 _ rfl;have e372:q 372=q 370+q 371:=H 372 _ rfl;have e373:q 373=q 52*q 52:=H 373 _ rfl;have e374:q 374=q 372+q 373:=H 374 _ rfl;have e375:q 375=q 46*fac [q 46,q 49,q 52]:=H 375 _ rfl;have e376:q 376=q 49*fac [q 46,q 49,q 52]:=H 376 _ rfl;have e377:q 377=q 52*fac [q 46,q 49,q 52]:=H 377 _ rfl;have e378:q 378=q 350*q 350:=H 378 _ rfl;have e379:q 379=q 351*q 351:=H 379 _ rfl;have e380:q 380=q 378+q 379:=H 380 _ rfl;have e381:q 381=q 352*q 352:=H 381 _ rfl;have e382:q 382=q 380+q 381:=H 382 _ rfl;have e383:q 383=q 350*fac [q 350,q 351,q 352]:=H 383 _ rfl;have e384:q 384=q 351*fac [q 350,q 351,q 352]:=H 384 _ rfl;have e385:q 385=q 352*fac [q 350,q 351,q 352]:=H 385 _ rfl;have e386:q 386=q 367*q 367:=H 386 _ rfl;have e387:q 387=q 368*q 368:=H 387 _ rfl;have e388:q 388=q 386+q 387:=H 388 _ rfl;have e389:q 389=q 369*q 369:=H 389 _ rfl;have e390:q 390=q 388+q 389:=H 390 _ rfl;have e391:q 391=q 367*fac [q 367,q 368,q 369]:=H 391 _ rfl;have e392:q 392=q 368*fac [q 367,q 368,q 369]:=H 392 _ rfl;have e393:q 393=q 369*fac [q 367,q 368,q 369]:=H 393 _ rfl;have e394:q 394=q 384*q 393:=H 394 _ rfl;have e395:q 395=q 385*q 392:=H 395 _ rfl;have e396:q 396=q 394-q 395:=H 396 _ rfl;have e397:q 397=q 385*q 391:=H 397 _ rfl;have e398:q 398=q 383*q 393:=H 398 _ rfl;have e399:q 399=q 397-q 398:=H 399 _ rfl;have e400:q 400=q 383*q 392:=H 400 _ rfl;have e401:q 401=q 384*q 391:=H 401 _ rfl;have e402:q 402=q 400-q 401:=H 402 _ rfl;have e403:q 403=q 396*q 396:=H 403 _ rfl;have e404:q 404=q 399*q 399:=H 404 _ rfl;have e405:q 405=q 403+q 404:=H 405 _ rfl;have e406:q 406=q 402*q 402:=H 406 _ rfl;have e407:q 407=q 405+q 406:=H 407 _ rfl;have e408:q 408=q 396*fac [q 396,q 399,q 402]:=H 408 _ rfl;have e409:q 409=q 399*fac [q 396,q 399,q 402]:=H 409 _ rfl;have e410:q 410=q 402*fac [q 396,q 399,q 402]:=H 410 _ rfl;have e411:q 411=q 375*q 375:=H 411 _ rfl;have e412:q 412=q 376*q 376:=H 412 _ rfl;have e413:q 413=q 411+q 412:=H 413 _ rfl;have e414:q 414=q 377*q 377:=H 414 _ rfl;have e415:q 415=q 413+q 414:=H 415 _ rfl;have e416:q 416=q 375*fac [q 375,q 376,q 377]:=H 416 _ rfl;have e417:q 417=q 376*fac [q 375,q 376,q 377]:=H 417 _ rfl;have e418:q 418=q 377*fac [q 375,q 376,q 377]:=H 418 _ rfl;have e419:q 419=q 384*q 418:=H 419 _ rfl;have e420:q 420=q 385*q 417:=H 420 _ rfl;have e421:q 421=q 419-q 420:=H 421 _ rfl;have e422:q 422=q 385*q 416:=H 422 _ rfl;have e423:q 423=q 383*q 418:=H 423 _ rfl;have e424:q 424=q 422-q 423:=H 424 _ rfl;have e425:q 425=q 383*q 417:=H 425 _ rfl;have e426:q 426=q 384*q 416:=H 426 _ rfl;have e427:q 427=q 425-q 426:=H 427 _ rfl;have e428:q 428=q 421*q 421:=H 428 _ rfl;have e429:q 429=q 424*q 424:=H 429 _ rfl;have e430:q 430=q 428+q 429:=H 430 _ rfl;have e431:q 431=q 427*q 427:=H 431 _ rfl;have e432:q 432=q 430+q 431:=H 432 _ rfl;have e433:q 433=q 421*fac [q 421,q 424,q 427]:=H 433 _ rfl;have e434:q 434=q 424*fac [q 421,q 424,q 427]:=H 434 _ rfl;have e435:q 435=q 427*fac [q 421,q 424,q 427]:=H 435 _ rfl;have e436:q 436=q 408*q 408:=H 436 _ rfl;have e437:q 437=q 409*q 409:=H 437 _ rfl;have e438:q 438=q 436+q 437:=H 438 _ rfl;have e439:q 439=q 410*q 410:=H 439 _ rfl;have e440:q 440=q 438+q 439:=H 440 _ rfl;have e441:q 441=q 408*fac [q 408,q 409,q 410]:=H 441 _ rfl;have e442:q 442=q 409*fac [q 408,q 409,q 410]:=H 442 _ rfl;have e443:q 443=q 410*fac [q 408,q 409,q 410]:=H 443 _ rfl;have e444:q 444=q 326*q 443:=H 444 _ rfl;have e445:q 445=q 327*q 442:=H 445 _ rfl;have e446:q 446=q 444-q 445:=H 446 _ rfl;have e447:q 447=q 327*q 441:=H 447 _ rfl;have e448:q 448=q 325*q 443:=H 448 _ rfl;have e449:q 449=q 447-q 448:=H 449 _ rfl;have e450:q 450=q 325*q 442:=H 450 _ rfl;have e451:q 451=q 326*q 441:=H 451 _ rfl;have e452:q 452=q 450-q 451:=H 452 _ rfl;have e453:q 453=q 446*q 446:=H 453 _ rfl;have e454:q 454=q 449*q 449:=H 454 _ rfl;have e455:q 455=q 453+q 454:=H 455 _ rfl;have e456:q 456=q 452*q 452:=H 456 _ rfl;have e457:q 457=q 455+q 456:=H 457 _ rfl;have e458:q 458=q 334*q 443:=H 458 _ rfl;have e459:q 459=q 335*q 442:=H 459 _ rfl;have e460:q 460=q 458-q 459:=H 460 _ rfl;have e461:q 461=q 335*q 441:=H 461 _ rfl;have e462:q 462=q 333*q 443:=H 462 _ rfl;have e463:q 463=q 461-q 462:=H 463 _ rfl;have e464:q 464=q 333*q 442:=H 464 _ rfl;have e465:q 465=q 334*q 441:=H 465 _ rfl;have e466:q 466=q 464-q 465:=H 466 _ rfl;have e467:q 467=q 460*q 460:=H 467 _ rfl;have e468:q 468=q 463*q 463:=H 468 _ rfl;have e469:q 469=q 467+q 468:=H 469 _ rfl;have e470:q 470=q 466*q 466:=H 470 _ rfl;have e471:q 471=q 469+q 470:=H 471 _ rfl;have e472:q 472=q 441*q 338:=H 472 _ rfl;have e473:q 473=q 54+q 472:=H 473 _ rfl;have e474:q 474=q 442*q 341:=H 474 _ rfl;have e475:q 475=q 473+q 474:=H 475 _ rfl;have e476:q 476=q 443*q 344:=H 476 _ rfl;have e477:q 477=q 475+q 476:=H 477 _ rfl;have e478:q 478=q 442*q 335:=H 478 _ rfl;have e479:q 479=q 443*q 334:=H 479 _ rfl;have e480:q 480=q 478-q 479:=H 480 _ rfl;have e481:q 481=q 443*q 333:=H 481 _ rfl;have e482:q 482=q 441*q 335:=H 482 _ rfl;have e483:q 483=q 481-q 482:=H 483 _ rfl;have e484:q 484=q 441*q 334:=H 484 _ rfl;have e485:q 485=q 442*q 333:=H 485 _ rfl;have e486:q 486=q 484-q 485:=H 486 _ rfl;have e487:q 487=q 480*q 338:=H 487 _ rfl;have e488:q 488=q 54+q 487:=H 488 _ rfl;have e489:q 489=q 483*q 341:=H 489 _ rfl;have e490:q 490=q 488+q 489:=H 490 _ rfl;have e491:q 491=q 486*q 344:=H 491 _ rfl;have e492:q 492=q 490+q 491:=H 492 _ rfl;have e493:q 493=q 446*q 338:=H 493 _ rfl;have e494:q 494=q 54+q 493:=H 494 _ rfl;have e495:q 495=q 449*q 341:=H 495 _ rfl;have e496:q 496=q 494+q 495:=H 496 _ rfl;have e497:q 497=q 452*q 344:=H 497 _ rfl;have e498:q 498=q 496+q 497:=H 498 _ rfl;have e499:q 499=q 325*q 492:=H 499 _ rfl;have e500:q 500=q 326*q 492:=H 500 _ rfl;have e501:q 501=q 327*q 492:=H 501 _ rfl;have e502:q 502=-q 498:=H 502 _ rfl;have e503:q 503=q 333*q 502:=H 503 _ rfl;have e504:q 504=q 334*q 502:=H 504 _ rfl;have e505:q 505=q 335*q 502:=H 505 _ rfl;have e506:q 506=q 499+q 503:=H 506 _ rfl;have e507:q 507=q 500+q 504:=H 507 _ rfl;have e508:q 508=q 501+q 505:=H 508 _ rfl;have e509:q 509=q 506*fac [q 506,q 507,q 508]:=H 509 _ rfl;have e510:q 510=q 507*fac [q 506,q 507,q 508]:=H 510 _ rfl;have e511:q 511=q 508*fac [q 506,q 507,q 508]:=H 511 _ rfl
 intro u0 u1 u2 u3 u4 u5 u6 u7
 have b0 : (⟨q 0,q 1,q 2⟩ : V3) ≠ .no := fun h => u0 ((V3.sq3 e3 e4 e5 e6 e7).2 h)
 have a0 : (⟨q 8,q 9,q 10⟩ : V3) ≠ .no := fun h => b0 ((V3.mk_pf b0 e8 e9 e10).no_iff.1 h)
 have b1 : (⟨q 11,q 12,q 13⟩ : V3) ≠ .no := fun h => u1 ((V3.sq3 e14 e15 e16 e17 e18).2 h)
 have a1 : (⟨q 19,q 20,q 21⟩ : V3) ≠ .no := fun h => b1 ((V3.mk_pf b1 e19 e20 e21).no_iff.1 h)
 have b2 : (⟨q 22,q 23,q 24⟩ : V3) ≠ .no := fun h => u2 ((V3.sq3 e25 e26 e27 e28 e29).2 h)
 have a2 : (⟨q 30,q 31,q 32⟩ : V3) ≠ .no := fun h => b2 ((V3.mk_pf b2 e30 e31 e32).no_iff.1 h)
 have b3 : (⟨q 33,q 34,q 35⟩ : V3) ≠ .no := fun h => u3 ((V3.sq3 e36 e37 e38 e39 e40).2 h)
 have a3 : (⟨q 41,q 42,q 43⟩ : V3) ≠ .no := fun h => b3 ((V3.mk_pf b3 e41 e42 e43).no_iff.1 h)
 have hD : V3.dm (⟨q 8,q 9,q 10⟩ : V3) (⟨q 19,q 20,q 21⟩ : V3) (⟨q 30,q 31,q 32⟩ : V3) ≠ 0 := fun h => u4 ((V3.mk_dt e54 e59 e57 e55 e53 e56 e58).trans ((congrArg _ (V3.mk_cr e46 e49 e52 e44 e45 e47 e48 e50 e51)).trans h))
 have hα : V3.dm (⟨q 19,q 20,q 21⟩ : V3) (⟨q 30,q 31,q 32⟩ : V3) (⟨q 41,q 42,q 43⟩ : V3) ≠ 0 := fun h => u5 ((V3.mk_dt e54 e83 e81 e79 e78 e80 e82).trans ((congrArg (fun v => V3.dt v _) (V3.mk_cr e46 e49 e52 e44 e45 e47 e48 e50 e51)).trans ((V3.dm_cy _ _ _).trans h)))
 have hβ : V3.dm (⟨q 30,q 31,q 32⟩ : V3) (⟨q 8,q 9,q 10⟩ : V3) (⟨q 41,q 42,q 43⟩ : V3) ≠ 0 := fun h => u6 ((V3.mk_dt e54 e89 e87 e85 e84 e86 e88).trans ((congrArg (fun v => V3.dt v _) (V3.mk_cr e62 e65 e68 e60 e61 e63 e64 e66 e67)).trans ((V3.dm_cy _ _ _).trans h)))
 have hγ : V3.dm (⟨q 8,q 9,q 10⟩ : V3) (⟨q 19,q 20,q 21⟩ : V3) (⟨q 41,q 42,q 43⟩ : V3) ≠ 0 := fun h => u7 ((V3.mk_dt e54 e95 e93 e91 e90 e92 e94).trans ((congrArg (fun v => V3.dt v _) (V3.mk_cr e71 e74 e77 e69 e70 e72 e73 e75 e76)).trans ((V3.dm_cy _ _ _).trans h)))
 obtain ⟨X,hX⟩ : ∃ X,X=(((⟨q 8,q 9,q 10⟩ : V3).sm (V3.dm (⟨q 19,q 20,q 21⟩ : V3) (⟨q 30,q 31,q 32⟩ : V3) (⟨q 41,q 42,q 43⟩ : V3))).ad ((⟨q 19,q 20,q 21⟩ : V3).sm (V3.dm (⟨q 30,q 31,q 32⟩ : V3) (⟨q 8,q 9,q 10⟩ : V3) (⟨q 41,q 42,q 43⟩ : V3)))) := ⟨_,rfl⟩
 obtain ⟨Y,hY⟩ : ∃ Y,Y=(((⟨q 8,q 9,q 10⟩ : V3).sm (V3.dm (⟨q 19,q 20,q 21⟩ : V3) (⟨q 30,q 31,q 32⟩ : V3) (⟨q 41,q 42,q 43⟩ : V3))).ad ((⟨q 30,q 31,q 32⟩ : V3).sm (V3.dm (⟨q 8,q 9,q 10⟩ : V3) (⟨q 19,q 20,q 21⟩ : V3) (⟨q 41,q 42,q 43⟩ : V3)))) := ⟨_,rfl⟩
 have hn : X.cr Y ≠ .no := st_ne rfl hD hα hβ hX hY
 have e01q : (⟨q 71,q 74,q 77⟩ : V3)=(⟨q 8,q 9,q 10⟩ : V3).cr (⟨q 19,q 20,q 21⟩ : V3) := (V3.mk_cr e71 e74 e77 e69 e70 e72 e73 e75 e76)
 have n01 : (⟨q 71,q 74,q 77⟩ : V3) ≠ .no := fun h => (V3.dm_no hD).1 (e01q.symm.trans h)
 have p01 := V3.mk_pf n01 e200 e201 e202
 have m01 : (⟨q 200,q 201,q 202⟩ : V3) ≠ .no := fun h => n01 (p01.no_iff.1 h)
 have r01 := ((V3.mk_pf m01 e225 e226 e227).trans p01).trans (V3.Pr.of e01q)
 have e23q : (⟨q 205,q 208,q 211⟩ : V3)=(⟨q 30,q 31,q 32⟩ : V3).cr (⟨q 41,q 42,q 43⟩ : V3) := (V3.mk_cr e205 e208 e211 e203 e204 e206 e207 e209 e210)
 have n23 : (⟨q 205,q 208,q 211⟩ : V3) ≠ .no := fun h => (V3.dm_no hα).2.1 (e23q.symm.trans h)
 have p23 := V3.mk_pf n23 e217 e218 e219
 have m23 : (⟨q 217,q 218,q 219⟩ : V3) ≠ .no := fun h => n23 (p23.no_iff.1 h)
 have r23 := ((V3.mk_pf m23 e233 e234 e235).trans p23).trans (V3.Pr.of e23q)
 have e02q : (⟨q 255,q 258,q 261⟩ : V3)=(⟨q 8,q 9,q 10⟩ : V3).cr (⟨q 30,q 31,q 32⟩ : V3) := (V3.mk_cr e255 e258 e261 e253 e254 e256 e257 e259 e260)
 have n02 : (⟨q 255,q 258,q 261⟩ : V3) ≠ .no := fun h => (V3.dm_no hD).2.2 (e02q.symm.trans h)
 have p02 := V3.mk_pf n02 e267 e268 e269
 have m02 : (⟨q 267,q 268,q 269⟩ : V3) ≠ .no := fun h => n02 (p02.no_iff.1 h)
 have r02 := ((V3.mk_pf m02 e292 e293 e294).trans p02).trans (V3.Pr.of e02q)
 have e13q : (⟨q 272,q 275,q 278⟩ : V3)=(⟨q 19,q 20,q 21⟩ : V3).cr (⟨q 41,q 42,q 43⟩ : V3) := (V3.mk_cr e272 e275 e278 e270 e271 e273 e274 e276 e277)
 have n13 : (⟨q 272,q 275,q 278⟩ : V3) ≠ .no := fun h => (V3.dm_no hγ).2.1 (e13q.symm.trans h)
 have p13 := V3.mk_pf n13 e284 e285 e286
 have m13 : (⟨q 284,q 285,q 286⟩ : V3) ≠ .no := fun h => n13 (p13.no_iff.1 h)
 have r13 := ((V3.mk_pf m13 e300 e301 e302).trans p13).trans (V3.Pr.of e13q)
 have e03q : (⟨q 355,q 358,q 361⟩ : V3)=(⟨q 8,q 9,q 10⟩ : V3).cr (⟨q 41,q 42,q 43⟩ : V3) := (V3.mk_cr e355 e358 e361 e353 e354 e356 e357 e359 e360)
 have n03 : (⟨q 355,q 358,q 361⟩ : V3) ≠ .no := fun h => (V3.dm_no hβ).2.1 (e03q.symm.trans h)
 have p03 := V3.mk_pf n03 e367 e368 e369
 have m03 : (⟨q 367,q 368,q 369⟩ : V3) ≠ .no := fun h => n03 (p03.no_iff.1 h)
 have r03 := ((V3.mk_pf m03 e391 e392 e393).trans p03).trans (V3.Pr.of e03q)
 have e12q : (⟨q 46,q 49,q 52⟩ : V3)=(⟨q 19,q 20,q 21⟩ : V3).cr (⟨q 30,q 31,q 32⟩ : V3) := (V3.mk_cr e46 e49 e52 e44 e45 e47 e48 e50 e51)
 have n12 : (⟨q 46,q 49,q 52⟩ : V3) ≠ .no := fun h => (V3.dm_no hD).2.1 (e12q.symm.trans h)
 have p12 := V3.mk_pf n12 e375 e376 e377
 have m12 : (⟨q 375,q 376,q 377⟩ : V3) ≠ .no := fun h => n12 (p12.no_iff.1 h)
 have r12 := ((V3.mk_pf m12 e416 e417 e418).trans p12).trans (V3.Pr.of e12q)
 have qx : V3.Pr (⟨q 238,q 241,q 244⟩ : V3) X := by
  rw [(V3.mk_cr e238 e241 e244 e236 e237 e239 e240 e242 e243)]
  have h := r01.cr r23
  rw [st_x rfl rfl rfl rfl,← hX] at h
  exact V3.Pr.un (by decide) h
 have nx : (⟨q 238,q 241,q 244⟩ : V3) ≠ .no := fun h => (V3.cr_no hn).1 (qx.no_iff.1 h)
 have px := V3.mk_pf nx e250 e251 e252
 have mx : (⟨q 250,q 251,q 252⟩ : V3) ≠ .no := fun h => nx (px.no_iff.1 h)
 have rx := ((V3.mk_pf mx e325 e326 e327).trans px).trans qx
 have qy : V3.Pr (⟨q 305,q 308,q 311⟩ : V3) Y := by
  rw [(V3.mk_cr e305 e308 e311 e303 e304 e306 e307 e309 e310)]
  have h := r02.cr r13
  rw [st_y rfl rfl rfl rfl,← hY] at h
  exact h
 have ny : (⟨q 305,q 308,q 311⟩ : V3) ≠ .no := fun h => (V3.cr_no hn).2 (qy.no_iff.1 h)
 have py := V3.mk_pf ny e317 e318 e319
 have my : (⟨q 317,q 318,q 319⟩ : V3) ≠ .no := fun h => ny (py.no_iff.1 h)
 have ry := ((V3.mk_pf my e333 e334 e335).trans py).trans qy
 have ql : V3.Pr (⟨q 338,q 341,q 344⟩ : V3) (X.cr Y) := by
  rw [(V3.mk_cr e338 e341 e344 e336 e337 e339 e340 e342 e343)]
  exact rx.cr ry
 have nl : (⟨q 338,q 341,q 344⟩ : V3) ≠ .no := fun h => hn (ql.no_iff.1 h)
 have pl := V3.mk_pf nl e350 e351 e352
 have ml : (⟨q 350,q 351,q 352⟩ : V3) ≠ .no := fun h => nl (pl.no_iff.1 h)
 have rl := ((V3.mk_pf ml e383 e384 e385).trans pl).trans ql
 have hd := V3.cramer (⟨q 8,q 9,q 10⟩ : V3) (⟨q 19,q 20,q 21⟩ : V3) (⟨q 30,q 31,q 32⟩ : V3) (⟨q 41,q 42,q 43⟩ : V3)
 have qu : V3.Pr (⟨q 396,q 399,q 402⟩ : V3) (X.ad Y) := by
  rw [(V3.mk_cr e396 e399 e402 e394 e395 e397 e398 e400 e401)]
  have h := rl.cr r03
  rw [st_u rfl hd hD hX hY] at h
  exact V3.Pr.un (neg_ne (mul_ne hβ hγ)) h
 have nu : (⟨q 396,q 399,q 402⟩ : V3) ≠ .no := fun h => (st_ad hn).1 (qu.no_iff.1 h)
 have pu := V3.mk_pf nu e408 e409 e410
 have mu : (⟨q 408,q 409,q 410⟩ : V3) ≠ .no := fun h => nu (pu.no_iff.1 h)
 have ru := ((V3.mk_pf mu e441 e442 e443).trans pu).trans qu
 have qv : V3.Pr (⟨q 421,q 424,q 427⟩ : V3) (X.sb Y) := by
  rw [(V3.mk_cr e421 e424 e427 e419 e420 e422 e423 e425 e426)]
  have h := rl.cr r12
  rw [st_v rfl hX hY] at h
  exact V3.Pr.un (neg_ne (mul_ne hα hD)) h
 have nv : (⟨q 421,q 424,q 427⟩ : V3) ≠ .no := fun h => (st_ad hn).2 (qv.no_iff.1 h)
 have cx : (⟨q 446,q 449,q 452⟩ : V3) ≠ .no := fun h => hn ((st_cu rx ru).no_iff.1 ((V3.mk_cr e446 e449 e452 e444 e445 e447 e448 e450 e451).symm.trans h))
 have cy : (⟨q 460,q 463,q 466⟩ : V3) ≠ .no := fun h => hn ((st_cv ry ru).no_iff.1 ((V3.mk_cr e460 e463 e466 e458 e459 e461 e462 e464 e465).symm.trans h))
 have qd : V3.Pr (⟨q 506,q 507,q 508⟩ : V3) (X.sb Y) := by
  rw [V3.mk_sn e506 e507 e508 e499 e503 e500 e504 e501 e505 e502,V3.mk_dt e54 e492 e490 e488 e487 e489 e491,V3.mk_dt e54 e498 e496 e494 e493 e495 e497,V3.mk_cr e480 e483 e486 e478 e479 e481 e482 e484 e485,V3.mk_cr e446 e449 e452 e444 e445 e447 e448 e450 e451,V3.mk_cr e338 e341 e344 e336 e337 e339 e340 e342 e343]
  exact st_h rx ry ru hn
 have ⟨f1,f2,f3⟩ := V3.pf_eq (qd.trans qv.sym) nv
 exact ⟨(fun h => n01 ((V3.sq3 e195 e196 e197 e198 e199).1 h)),(fun h => n23 ((V3.sq3 e212 e213 e214 e215 e216).1 h)),(fun h => m01 ((V3.sq3 e220 e221 e222 e223 e224).1 h)),(fun h => m23 ((V3.sq3 e228 e229 e230 e231 e232).1 h)),(fun h => nx ((V3.sq3 e245 e246 e247 e248 e249).1 h)),(fun h => n02 ((V3.sq3 e262 e263 e264 e265 e266).1 h)),(fun h => n13 ((V3.sq3 e279 e280 e281 e282 e283).1 h)),(fun h => m02 ((V3.sq3 e287 e288 e289 e290 e291).1 h)),(fun h => m13 ((V3.sq3 e295 e296 e297 e298 e299).1 h)),(fun h => ny ((V3.sq3 e312 e313 e314 e315 e316).1 h)),(fun h => mx ((V3.sq3 e320 e321 e322 e323 e324).1 h)),(fun h => my ((V3.sq3 e328 e329 e330 e331 e332).1 h)),(fun h => nl ((V3.sq3 e345 e346 e347 e348 e349).1 h)),(fun h => n03 ((V3.sq3 e362 e363 e364 e365 e366).1 h)),(fun h => n12 ((V3.sq3 e370 e371 e372 e373 e374).1 h)),(fun h => ml ((V3.sq3 e378 e379 e380 e381 e382).1 h)),(fun h => m03 ((V3.sq3 e386 e387 e388 e389 e390).1 h)),(fun h => nu ((V3.sq3 e403 e404 e405 e406 e407).1 h)),(fun h => m12 ((V3.sq3 e411 e412 e413 e414 e415).1 h)),(fun h => nv ((V3.sq3 e428 e429 e430 e431 e432).1 h)),(fun h => mu ((V3.sq3 e436 e437 e438 e439 e440).1 h)),(fun h => cx ((V3.sq3 e453 e454 e455 e456 e457).1 h)),(fun h => cy ((V3.sq3 e467 e468 e469 e470 e471).1 h)),((V3.mk_dt e54 e477 e475 e473 e472 e474 e476).trans ((congrArg _ (V3.mk_cr e338 e341 e344 e336 e337 e339 e340 e342 e343)).trans (st_on rx ry ru))),((e509.trans f1).trans e433.symm),((e510.trans f2).trans e434.symm),((e511.trans f3).trans e435.symm)⟩
def pT_cs : List (FuncId × Nat) := [(124,60),(52,61),(53,62),(36,63),(102,63),(272,64)]
def pT_G : Memo := [(123,[qA [325,326,327],qA [441,442,443]],qA [446,449,452]),(123,[qA [325,326,327],qA [333,334,335]],qA [338,341,344]),(220,[qA [96,97,98,99,100,101,102,103,104]],qA [96,99,102,97,100,103,98,101,104]),(125,[qA [30,31,32],qA [95]],qA [102,103,104]),(125,[qA [19,20,21],qA [89]],qA [99,100,101]),(125,[qA [8,9,10],qA [83]],qA [96,97,98]),(123,[qA [8,9,10],qA [19,20,21]],qA [71,74,77]),(123,[qA [19,20,21],qA [30,31,32]],qA [46,49,52])]
theorem pT_g0 : memoChk (sx Tryz.prog pT_N [] [] pT_L pT_C pT_Z (prC [22])) pT_cs 4 8 (pT_G.drop 0)=true := by kernel_rfl
theorem pT_memoG {q : Nat→Rat} {σ : Nat→ByteArray} {w : World} (hσ : ∀ j,(σ j).size≤1048576) (hq : ∀ (a : Nat) nd,pT_N[a]? = some nd→q a=valN σ q nd) (h0 : ∀ a,pT_N.length≤a→q a=0) (hp : PreS w) : MemoAll pT_N pT_L pT_C pT_Z q σ [22] w pT_G := by
 have Y : Hy pT_N [] pT_L pT_C pT_Z q σ := hy_ofW hσ pT_wf pT_sz pT_lt pT_cn hq h0 trivial
 have hc : ∀ f ∈ ([22] : List FuncId),Closed f := by simp [closed_projected]
 have hm : (Tryz.prog).follows .mixedOrders=true := by kernel_rfl
 exact (memoAll_chk (M := pT_G.drop 0) Y hc hm hp 8 pT_g0 memoAll_nil)
def pT_H0 : List (Nat × Nat × Nat × Nat) := [(0,7,0,1)]
def pT_H1 : List (Nat × Nat × Nat × Nat) := [(0,7,0,0),(0,18,0,1)]
def pT_H2 : List (Nat × Nat × Nat × Nat) := [(0,7,0,0),(0,18,0,0),(0,29,0,1)]
def pT_H3 : List (Nat × Nat × Nat × Nat) := [(0,7,0,0),(0,18,0,0),(0,29,0,0),(0,40,0,1)]
def pT_H4 : List (Nat × Nat × Nat × Nat) := [(0,7,0,0),(0,18,0,0),(0,29,0,0),(0,40,0,0),(0,59,0,1)]
def pT_H5 : List (Nat × Nat × Nat × Nat) := [(0,7,0,0),(0,18,0,0),(0,29,0,0),(0,40,0,0),(0,59,0,0),(0,83,0,1)]
def pT_H6 : List (Nat × Nat × Nat × Nat) := [(0,7,0,0),(0,18,0,0),(0,29,0,0),(0,40,0,0),(0,59,0,0),(0,83,0,0),(0,89,0,1)]
def pT_H7 : List (Nat × Nat × Nat × Nat) := [(0,7,0,0),(0,18,0,0),(0,29,0,0),(0,40,0,0),(0,59,0,0),(0,83,0,0),(0,89,0,0),(0,95,0,1)]
def pT_H8 : List (Nat × Nat × Nat × Nat) := [(0,7,0,0),(0,18,0,0),(0,29,0,0),(0,40,0,0),(0,59,0,0),(0,83,0,0),(0,89,0,0),(0,95,0,0),(0,199,0,0),(0,216,0,0),(0,224,0,0),(0,232,0,0),(0,249,0,0),(0,266,0,0),(0,283,0,0),(0,291,0,0),(0,299,0,0),(0,316,0,0),(0,324,0,0),(0,332,0,0),(0,349,0,0),(0,366,0,0),(0,374,0,0),(0,382,0,0),(0,390,0,0),(0,407,0,0),(0,415,0,0),(0,432,0,0),(0,440,0,0),(0,457,0,0),(0,471,0,0),(0,477,0,1),(3,509,433,1),(3,510,434,1),(3,511,435,1)]
def pT_M8 : Memo := [(28,[tA [250,251,252],tA [317,318,319],tA [408,409,410]],(true,[(true,[.inr (1,509,0,0,0),.inr (1,510,0,0,0),.inr (1,511,0,0,0)]),(false,[.inl (.int .i64 (0))])])),(27,[tA [350,351,352],tA [375,376,377]],(true,[(true,[.inr (1,433,0,0,0),.inr (1,434,0,0,0),.inr (1,435,0,0,0)]),(false,[.inl (.int .i64 (0))])])),(27,[tA [350,351,352],tA [367,368,369]],(true,[(true,[.inr (1,408,0,0,0),.inr (1,409,0,0,0),.inr (1,410,0,0,0)]),(false,[.inl (.int .i64 (0))])])),(27,[pA [3,4,5],pA [6,7,8]],(true,[(true,[.inr (1,375,0,0,0),.inr (1,376,0,0,0),.inr (1,377,0,0,0)]),(false,[.inl (.int .i64 (0))])])),(27,[pA [0,1,2],pA [9,10,11]],(true,[(true,[.inr (1,367,0,0,0),.inr (1,368,0,0,0),.inr (1,369,0,0,0)]),(false,[.inl (.int .i64 (0))])])),(27,[tA [250,251,252],tA [317,318,319]],(true,[(true,[.inr (1,350,0,0,0),.inr (1,351,0,0,0),.inr (1,352,0,0,0)]),(false,[.inl (.int .i64 (0))])])),(27,[tA [267,268,269],tA [284,285,286]],(true,[(true,[.inr (1,317,0,0,0),.inr (1,318,0,0,0),.inr (1,319,0,0,0)]),(false,[.inl (.int .i64 (0))])])),(27,[pA [3,4,5],pA [9,10,11]],(true,[(true,[.inr (1,284,0,0,0),.inr (1,285,0,0,0),.inr (1,286,0,0,0)]),(false,[.inl (.int .i64 (0))])])),(27,[pA [0,1,2],pA [6,7,8]],(true,[(true,[.inr (1,267,0,0,0),.inr (1,268,0,0,0),.inr (1,269,0,0,0)]),(false,[.inl (.int .i64 (0))])])),(27,[tA [200,201,202],tA [217,218,219]],(true,[(true,[.inr (1,250,0,0,0),.inr (1,251,0,0,0),.inr (1,252,0,0,0)]),(false,[.inl (.int .i64 (0))])])),(27,[pA [6,7,8],pA [9,10,11]],(true,[(true,[.inr (1,217,0,0,0),.inr (1,218,0,0,0),.inr (1,219,0,0,0)]),(false,[.inl (.int .i64 (0))])])),(27,[pA [0,1,2],pA [3,4,5]],(true,[(true,[.inr (1,200,0,0,0),.inr (1,201,0,0,0),.inr (1,202,0,0,0)]),(false,[.inl (.int .i64 (0))])])),(25,[pA [0,1,2,3,4,5,6,7,8,9,10,11],pA [0,1,2,3,4,5,6,7,8,9,10,11]],(true,[(true,[.inr (1,186,0,0,0),.inr (1,187,0,0,0),.inr (1,188,0,0,0),.inr (1,189,0,0,0),.inr (1,190,0,0,0),.inr (1,191,0,0,0),.inr (1,192,0,0,0),.inr (1,193,0,0,0),.inr (1,194,0,0,0)]),(false,[.inl (.int .i64 (0))])]))] ++ pT_G
theorem pT_m8_0 : memoOne (sx Tryz.prog pT_N pT_H8 [] pT_L pT_C pT_Z (prC [22])) pT_cs 7 (pT_M8.drop 0)=true := by kernel_rfl
theorem pT_m8_1 : memoOne (sx Tryz.prog pT_N pT_H8 [] pT_L pT_C pT_Z (prC [22])) pT_cs 7 (pT_M8.drop 1)=true := by kernel_rfl
theorem pT_m8_2 : memoOne (sx Tryz.prog pT_N pT_H8 [] pT_L pT_C pT_Z (prC [22])) pT_cs 7 (pT_M8.drop 2)=true := by kernel_rfl
theorem pT_m8_3 : memoOne (sx Tryz.prog pT_N pT_H8 [] pT_L pT_C pT_Z (prC [22])) pT_cs 7 (pT_M8.drop 3)=true := by kernel_rfl
theorem pT_m8_4 : memoOne (sx Tryz.prog pT_N pT_H8 [] pT_L pT_C pT_Z (prC [22])) pT_cs 7 (pT_M8.drop 4)=true := by kernel_rfl
theorem pT_m8_5 : memoOne (sx Tryz.prog pT_N pT_H8 [] pT_L pT_C pT_Z (prC [22])) pT_cs 7 (pT_M8.drop 5)=true := by kernel_rfl
theorem pT_m8_6 : memoOne (sx Tryz.prog pT_N pT_H8 [] pT_L pT_C pT_Z (prC [22])) pT_cs 7 (pT_M8.drop 6)=true := by kernel_rfl
theorem pT_m8_7 : memoOne (sx Tryz.prog pT_N pT_H8 [] pT_L pT_C pT_Z (prC [22])) pT_cs 7 (pT_M8.drop 7)=true := by kernel_rfl
theorem pT_m8_8 : memoOne (sx Tryz.prog pT_N pT_H8 [] pT_L pT_C pT_Z (prC [22])) pT_cs 7 (pT_M8.drop 8)=true := by kernel_rfl
theorem pT_m8_9 : memoOne (sx Tryz.prog pT_N pT_H8 [] pT_L pT_C pT_Z (prC [22])) pT_cs 7 (pT_M8.drop 9)=true := by kernel_rfl
theorem pT_m8_10 : memoOne (sx Tryz.prog pT_N pT_H8 [] pT_L pT_C pT_Z (prC [22])) pT_cs 7 (pT_M8.drop 10)=true := by kernel_rfl
theorem pT_m8_11 : memoOne (sx Tryz.prog pT_N pT_H8 [] pT_L pT_C pT_Z (prC [22])) pT_cs 7 (pT_M8.drop 11)=true := by kernel_rfl
theorem pT_m8_12 : memoOne (sx Tryz.prog pT_N pT_H8 [] pT_L pT_C pT_Z (prC [22])) pT_cs 7 (pT_M8.drop 12)=true := by kernel_rfl
theorem pT_memo8 {q : Nat→Rat} {σ : Nat→ByteArray} {w : World} (hσ : ∀ j,(σ j).size≤1048576) (hq : ∀ (a : Nat) nd,pT_N[a]? = some nd→q a=valN σ q nd) (h0 : ∀ a,pT_N.length≤a→q a=0) (hH : hAll q pT_H8) (hp : PreS w) : MemoAll pT_N pT_L pT_C pT_Z q σ [22] w pT_M8 := by
 have Y : Hy pT_N pT_H8 pT_L pT_C pT_Z q σ := hy_ofW hσ pT_wf pT_sz pT_lt pT_cn hq h0 hH
 have hc : ∀ f ∈ ([22] : List FuncId),Closed f := by simp [closed_projected]
 have hm : (Tryz.prog).follows .mixedOrders=true := by kernel_rfl
 exact (memoAll_drop Y hc hm hp pT_m8_0 (memoAll_drop Y hc hm hp pT_m8_1 (memoAll_drop Y hc hm hp pT_m8_2 (memoAll_drop Y hc hm hp pT_m8_3 (memoAll_drop Y hc hm hp pT_m8_4 (memoAll_drop Y hc hm hp pT_m8_5 (memoAll_drop Y hc hm hp pT_m8_6 (memoAll_drop Y hc hm hp pT_m8_7 (memoAll_drop Y hc hm hp pT_m8_8 (memoAll_drop Y hc hm hp pT_m8_9 (memoAll_drop Y hc hm hp pT_m8_10 (memoAll_drop Y hc hm hp pT_m8_11 (memoAll_drop Y hc hm hp pT_m8_12 (pT_memoG hσ hq h0 hp))))))))))))))
theorem pT_r0 : (callD (sx Tryz.prog pT_N pT_H0 [] pT_L pT_C pT_Z (prC [22])) pT_cs pT_G 6 [] 4 [(false,[(true,[.inr (2,0,0,0,0),.inr (2,1,0,0,0),.inr (2,2,0,0,0),.inr (2,3,0,0,0),.inr (2,4,0,0,0),.inr (2,5,0,0,0),.inr (2,6,0,0,0),.inr (2,7,0,0,0),.inr (2,8,0,0,0),.inr (2,9,0,0,0),.inr (2,10,0,0,0),.inr (2,11,0,0,0)])])] [] 0).map (·.1)=some (kB true) := by kernel_rfl
theorem pT_r1 : (callD (sx Tryz.prog pT_N pT_H1 [] pT_L pT_C pT_Z (prC [22])) pT_cs pT_G 6 [] 4 [(false,[(true,[.inr (2,0,0,0,0),.inr (2,1,0,0,0),.inr (2,2,0,0,0),.inr (2,3,0,0,0),.inr (2,4,0,0,0),.inr (2,5,0,0,0),.inr (2,6,0,0,0),.inr (2,7,0,0,0),.inr (2,8,0,0,0),.inr (2,9,0,0,0),.inr (2,10,0,0,0),.inr (2,11,0,0,0)])])] [] 0).map (·.1)=some (kB true) := by kernel_rfl
theorem pT_r2 : (callD (sx Tryz.prog pT_N pT_H2 [] pT_L pT_C pT_Z (prC [22])) pT_cs pT_G 6 [] 4 [(false,[(true,[.inr (2,0,0,0,0),.inr (2,1,0,0,0),.inr (2,2,0,0,0),.inr (2,3,0,0,0),.inr (2,4,0,0,0),.inr (2,5,0,0,0),.inr (2,6,0,0,0),.inr (2,7,0,0,0),.inr (2,8,0,0,0),.inr (2,9,0,0,0),.inr (2,10,0,0,0),.inr (2,11,0,0,0)])])] [] 0).map (·.1)=some (kB true) := by kernel_rfl
theorem pT_r3 : (callD (sx Tryz.prog pT_N pT_H3 [] pT_L pT_C pT_Z (prC [22])) pT_cs pT_G 6 [] 4 [(false,[(true,[.inr (2,0,0,0,0),.inr (2,1,0,0,0),.inr (2,2,0,0,0),.inr (2,3,0,0,0),.inr (2,4,0,0,0),.inr (2,5,0,0,0),.inr (2,6,0,0,0),.inr (2,7,0,0,0),.inr (2,8,0,0,0),.inr (2,9,0,0,0),.inr (2,10,0,0,0),.inr (2,11,0,0,0)])])] [] 0).map (·.1)=some (kB true) := by kernel_rfl
theorem pT_r4 : (callD (sx Tryz.prog pT_N pT_H4 [] pT_L pT_C pT_Z (prC [22])) pT_cs pT_G 6 [] 4 [(false,[(true,[.inr (2,0,0,0,0),.inr (2,1,0,0,0),.inr (2,2,0,0,0),.inr (2,3,0,0,0),.inr (2,4,0,0,0),.inr (2,5,0,0,0),.inr (2,6,0,0,0),.inr (2,7,0,0,0),.inr (2,8,0,0,0),.inr (2,9,0,0,0),.inr (2,10,0,0,0),.inr (2,11,0,0,0)])])] [] 0).map (·.1)=some (kB true) := by kernel_rfl
theorem pT_r5 : (callD (sx Tryz.prog pT_N pT_H5 [] pT_L pT_C pT_Z (prC [22])) pT_cs pT_G 6 [] 4 [(false,[(true,[.inr (2,0,0,0,0),.inr (2,1,0,0,0),.inr (2,2,0,0,0),.inr (2,3,0,0,0),.inr (2,4,0,0,0),.inr (2,5,0,0,0),.inr (2,6,0,0,0),.inr (2,7,0,0,0),.inr (2,8,0,0,0),.inr (2,9,0,0,0),.inr (2,10,0,0,0),.inr (2,11,0,0,0)])])] [] 0).map (·.1)=some (kB true) := by kernel_rfl
theorem pT_r6 : (callD (sx Tryz.prog pT_N pT_H6 [] pT_L pT_C pT_Z (prC [22])) pT_cs pT_G 6 [] 4 [(false,[(true,[.inr (2,0,0,0,0),.inr (2,1,0,0,0),.inr (2,2,0,0,0),.inr (2,3,0,0,0),.inr (2,4,0,0,0),.inr (2,5,0,0,0),.inr (2,6,0,0,0),.inr (2,7,0,0,0),.inr (2,8,0,0,0),.inr (2,9,0,0,0),.inr (2,10,0,0,0),.inr (2,11,0,0,0)])])] [] 0).map (·.1)=some (kB true) := by kernel_rfl
theorem pT_r7 : (callD (sx Tryz.prog pT_N pT_H7 [] pT_L pT_C pT_Z (prC [22])) pT_cs pT_G 6 [] 4 [(false,[(true,[.inr (2,0,0,0,0),.inr (2,1,0,0,0),.inr (2,2,0,0,0),.inr (2,3,0,0,0),.inr (2,4,0,0,0),.inr (2,5,0,0,0),.inr (2,6,0,0,0),.inr (2,7,0,0,0),.inr (2,8,0,0,0),.inr (2,9,0,0,0),.inr (2,10,0,0,0),.inr (2,11,0,0,0)])])] [] 0).map (·.1)=some (kB true) := by kernel_rfl
theorem pT_r8 : (callD (sx Tryz.prog pT_N pT_H8 [(26,[.inr (3,0,0,0,0)])] pT_L pT_C pT_Z (prC [22])) pT_cs pT_M8 3 [] 4 [(false,[(true,[.inr (2,0,0,0,0),.inr (2,1,0,0,0),.inr (2,2,0,0,0),.inr (2,3,0,0,0),.inr (2,4,0,0,0),.inr (2,5,0,0,0),.inr (2,6,0,0,0),.inr (2,7,0,0,0),.inr (2,8,0,0,0),.inr (2,9,0,0,0),.inr (2,10,0,0,0),.inr (2,11,0,0,0)])])] [] 0).map (·.1)=some (kB true) := by kernel_rfl
theorem pT_An {a b : Prop} (x : a) (y : b) : a∧b := ⟨x,y⟩
theorem pT_leaf {M : Memo} {H : List (Nat × Nat × Nat × Nat)} {K : List (FuncId × List AC)} {k : Nat} {q : Nat→Rat} {σ : Nat→ByteArray} {args : List AV} {vs : List Value} {w : World} (hr : (callD (sx Tryz.prog pT_N H K pT_L pT_C pT_Z (prC [22])) pT_cs M k [] 4 args [] 0).map (·.1)=some (kB true)) (hσ : ∀ j,(σ j).size≤1048576) (hq : ∀ (a : Nat) nd,pT_N[a]? = some nd→q a=valN σ q nd) (h0 : ∀ a,pT_N.length≤a→q a=0) (hH : hAll q H) (hp : PreS w) (hM : MemoAll pT_N pT_L pT_C pT_Z q σ [22] w M) (hA : ∀ K,A2 (avOn (cOn (evS q σ) K (fun _ => none) w)) args vs) : Calls Tryz.prog 4 vs.toArray w fun e w' => Below w.heap.size w w'∧e=.returned (.bool true) :=
 run_toldD' k (hy_ofW hσ pT_wf pT_sz pT_lt pT_cn hq h0 hH) (by simp [closed_projected]) (by kernel_rfl) hp hM hr (hA K)
theorem pT_leafC {H : List (Nat × Nat × Nat × Nat)} {K : List (FuncId × List AC)} {k : Nat} {q : Nat→Rat} {σ : Nat→ByteArray} {args : List AV} {vs : List Value} {w : World} (hr : (callC (sx Tryz.prog pT_N H K pT_L pT_C pT_Z (prC [22])) pT_cs k [] 4 args [] 0).map (·.1)=some (kB true)) (hσ : ∀ j,(σ j).size≤1048576) (hq : ∀ (a : Nat) nd,pT_N[a]? = some nd→q a=valN σ q nd) (h0 : ∀ a,pT_N.length≤a→q a=0) (hH : hAll q H) (hp : PreS w) (hA : ∀ K,A2 (avOn (cOn (evS q σ) K (fun _ => none) w)) args vs) : Calls Tryz.prog 4 vs.toArray w fun e w' => Below w.heap.size w w'∧e=.returned (.bool true) :=
 run_toldC' k (hy_ofW hσ pT_wf pT_sz pT_lt pT_cn hq h0 hH) (by simp [closed_projected]) (by kernel_rfl) hr hp (hA K)
theorem pT_walk {w : World} {pau pav paw pbu pbv pbw pcu pcv pcw pdu pdv pdw : ByteArray} (spau : pau.size≤1048576) (spav : pav.size≤1048576) (spaw : paw.size≤1048576) (spbu : pbu.size≤1048576) (spbv : pbv.size≤1048576) (spbw : pbw.size≤1048576) (spcu : pcu.size≤1048576) (spcv : pcv.size≤1048576) (spcw : pcw.size≤1048576) (spdu : pdu.size≤1048576) (spdv : pdv.size≤1048576) (spdw : pdw.size≤1048576) (tab : Tab w) (mx : MaxL w) :
  Calls Tryz.prog 4 #[.agg #[.string pau,.string pav,.string paw,.string pbu,.string pbv,.string pbw,.string pcu,.string pcv,.string pcw,.string pdu,.string pdv,.string pdw]] w fun e w' => Below w.heap.size w w'∧e=.returned (.bool true) := by
 have hσ : ∀ j,(sgOf [pau,pav,paw,pbu,pbv,pbw,pcu,pcv,pcw,pdu,pdv,pdw] j).size≤1048576 := sgOf_size (by simp [spau,spav,spaw,spbu,spbv,spbw,spcu,spcv,spcw,spdu,spdv,spdw])
 obtain ⟨q,hq,h0⟩ := nodes_exist (sgOf [pau,pav,paw,pbu,pbv,pbw,pcu,pcv,pcw,pdu,pdv,pdw]) pT_N pT_wf
 have hA : ∀ K,A2 (avOn (cOn (evS q (sgOf [pau,pav,paw,pbu,pbv,pbw,pcu,pcv,pcw,pdu,pdv,pdw])) K (fun _ => none) w)) [(false,[(true,[.inr (2,0,0,0,0),.inr (2,1,0,0,0),.inr (2,2,0,0,0),.inr (2,3,0,0,0),.inr (2,4,0,0,0),.inr (2,5,0,0,0),.inr (2,6,0,0,0),.inr (2,7,0,0,0),.inr (2,8,0,0,0),.inr (2,9,0,0,0),.inr (2,10,0,0,0),.inr (2,11,0,0,0)])])] [.agg #[.string pau,.string pav,.string paw,.string pbu,.string pbv,.string pbw,.string pcu,.string pcv,.string pcw,.string pdu,.string pdv,.string pdw]] := fun K => ⟨⟨⟨[.string pau,.string pav,.string paw,.string pbu,.string pbv,.string pbw,.string pcu,.string pcv,.string pcw,.string pdu,.string pdv,.string pdw],rfl,rfl,rfl,rfl,rfl,rfl,rfl,rfl,rfl,rfl,rfl,rfl,rfl,trivial⟩,trivial⟩,trivial⟩
 by_cases b7 : q 7=0
 ·
  have hH : hAll q pT_H0 := (pT_An (hT b7) trivial)
  exact pT_leaf pT_r0 hσ hq h0 hH ⟨tab,mx⟩ (pT_memoG hσ hq h0 ⟨tab,mx⟩) hA
 ·
  by_cases b18 : q 18=0
  ·
   have hH : hAll q pT_H1 := (pT_An (hF b7) (pT_An (hT b18) trivial))
   exact pT_leaf pT_r1 hσ hq h0 hH ⟨tab,mx⟩ (pT_memoG hσ hq h0 ⟨tab,mx⟩) hA
  ·
   by_cases b29 : q 29=0
   ·
    have hH : hAll q pT_H2 := (pT_An (hF b7) (pT_An (hF b18) (pT_An (hT b29) trivial)))
    exact pT_leaf pT_r2 hσ hq h0 hH ⟨tab,mx⟩ (pT_memoG hσ hq h0 ⟨tab,mx⟩) hA
   ·
    by_cases b40 : q 40=0
    ·
     have hH : hAll q pT_H3 := (pT_An (hF b7) (pT_An (hF b18) (pT_An (hF b29) (pT_An (hT b40) trivial))))
     exact pT_leaf pT_r3 hσ hq h0 hH ⟨tab,mx⟩ (pT_memoG hσ hq h0 ⟨tab,mx⟩) hA
    ·
     by_cases b59 : q 59=0
     ·
      have hH : hAll q pT_H4 := (pT_An (hF b7) (pT_An (hF b18) (pT_An (hF b29) (pT_An (hF b40) (pT_An (hT b59) trivial)))))
      exact pT_leaf pT_r4 hσ hq h0 hH ⟨tab,mx⟩ (pT_memoG hσ hq h0 ⟨tab,mx⟩) hA
     ·
      by_cases b83 : q 83=0
      ·
       have hH : hAll q pT_H5 := (pT_An (hF b7) (pT_An (hF b18) (pT_An (hF b29) (pT_An (hF b40) (pT_An (hF b59) (pT_An (hT b83) trivial))))))
       exact pT_leaf pT_r5 hσ hq h0 hH ⟨tab,mx⟩ (pT_memoG hσ hq h0 ⟨tab,mx⟩) hA
      ·
       by_cases b89 : q 89=0
       ·
        have hH : hAll q pT_H6 := (pT_An (hF b7) (pT_An (hF b18) (pT_An (hF b29) (pT_An (hF b40) (pT_An (hF b59) (pT_An (hF b83) (pT_An (hT b89) trivial)))))))
        exact pT_leaf pT_r6 hσ hq h0 hH ⟨tab,mx⟩ (pT_memoG hσ hq h0 ⟨tab,mx⟩) hA
       ·
        by_cases b95 : q 95=0
        ·
         have hH : hAll q pT_H7 := (pT_An (hF b7) (pT_An (hF b18) (pT_An (hF b29) (pT_An (hF b40) (pT_An (hF b59) (pT_An (hF b83) (pT_An (hF b89) (pT_An (hT b95) trivial))))))))
         exact pT_leaf pT_r7 hσ hq h0 hH ⟨tab,mx⟩ (pT_memoG hσ hq h0 ⟨tab,mx⟩) hA
        ·
         have gZ := pT_T0 hq b7 b18 b29 b40 b59 b83 b89 b95
         have b199 : ¬ (q 199=0) := gZ.1
         have b216 : ¬ (q 216=0) := gZ.2.1
         have b224 : ¬ (q 224=0) := gZ.2.2.1
         have b232 : ¬ (q 232=0) := gZ.2.2.2.1
         have b249 : ¬ (q 249=0) := gZ.2.2.2.2.1
         have b266 : ¬ (q 266=0) := gZ.2.2.2.2.2.1
         have b283 : ¬ (q 283=0) := gZ.2.2.2.2.2.2.1
         have b291 : ¬ (q 291=0) := gZ.2.2.2.2.2.2.2.1
         have b299 : ¬ (q 299=0) := gZ.2.2.2.2.2.2.2.2.1
         have b316 : ¬ (q 316=0) := gZ.2.2.2.2.2.2.2.2.2.1
         have b324 : ¬ (q 324=0) := gZ.2.2.2.2.2.2.2.2.2.2.1
         have b332 : ¬ (q 332=0) := gZ.2.2.2.2.2.2.2.2.2.2.2.1
         have b349 : ¬ (q 349=0) := gZ.2.2.2.2.2.2.2.2.2.2.2.2.1
         have b366 : ¬ (q 366=0) := gZ.2.2.2.2.2.2.2.2.2.2.2.2.2.1
         have b374 : ¬ (q 374=0) := gZ.2.2.2.2.2.2.2.2.2.2.2.2.2.2.1
         have b382 : ¬ (q 382=0) := gZ.2.2.2.2.2.2.2.2.2.2.2.2.2.2.2.1
         have b390 : ¬ (q 390=0) := gZ.2.2.2.2.2.2.2.2.2.2.2.2.2.2.2.2.1
         have b407 : ¬ (q 407=0) := gZ.2.2.2.2.2.2.2.2.2.2.2.2.2.2.2.2.2.1
         have b415 : ¬ (q 415=0) := gZ.2.2.2.2.2.2.2.2.2.2.2.2.2.2.2.2.2.2.1
         have b432 : ¬ (q 432=0) := gZ.2.2.2.2.2.2.2.2.2.2.2.2.2.2.2.2.2.2.2.1
         have b440 : ¬ (q 440=0) := gZ.2.2.2.2.2.2.2.2.2.2.2.2.2.2.2.2.2.2.2.2.1
         have b457 : ¬ (q 457=0) := gZ.2.2.2.2.2.2.2.2.2.2.2.2.2.2.2.2.2.2.2.2.2.1
         have b471 : ¬ (q 471=0) := gZ.2.2.2.2.2.2.2.2.2.2.2.2.2.2.2.2.2.2.2.2.2.2.1
         have b477 : q 477=0 := gZ.2.2.2.2.2.2.2.2.2.2.2.2.2.2.2.2.2.2.2.2.2.2.2.1
         have a_3_509_433 : q 509=q 433 := gZ.2.2.2.2.2.2.2.2.2.2.2.2.2.2.2.2.2.2.2.2.2.2.2.2.1
         have a_3_510_434 : q 510=q 434 := gZ.2.2.2.2.2.2.2.2.2.2.2.2.2.2.2.2.2.2.2.2.2.2.2.2.2.1
         have a_3_511_435 : q 511=q 435 := gZ.2.2.2.2.2.2.2.2.2.2.2.2.2.2.2.2.2.2.2.2.2.2.2.2.2.2
         have hH : hAll q pT_H8 := (pT_An (hF b7) (pT_An (hF b18) (pT_An (hF b29) (pT_An (hF b40) (pT_An (hF b59) (pT_An (hF b83) (pT_An (hF b89) (pT_An (hF b95) (pT_An (hF b199) (pT_An (hF b216) (pT_An (hF b224) (pT_An (hF b232) (pT_An (hF b249) (pT_An (hF b266) (pT_An (hF b283) (pT_An (hF b291) (pT_An (hF b299) (pT_An (hF b316) (pT_An (hF b324) (pT_An (hF b332) (pT_An (hF b349) (pT_An (hF b366) (pT_An (hF b374) (pT_An (hF b382) (pT_An (hF b390) (pT_An (hF b407) (pT_An (hF b415) (pT_An (hF b432) (pT_An (hF b440) (pT_An (hF b457) (pT_An (hF b471) (pT_An (hT b477) (pT_An (hT a_3_509_433) (pT_An (hT a_3_510_434) (pT_An (hT a_3_511_435) trivial)))))))))))))))))))))))))))))))))))
         exact pT_leaf pT_r8 hσ hq h0 hH ⟨tab,mx⟩ (pT_memo8 hσ hq h0 hH ⟨tab,mx⟩) hA
end Go.Proofs.YtgemmepbdmbmfaaGreatDoor
