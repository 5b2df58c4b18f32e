/- Part 13 of the walks and of the mathematics under them: VP VPC VY VSZ VSA CFspaced MES. -/
import Derived.Test.YtnjaoobohkmjkaaGreatDoorA2
import Derived.Test.YtnjaoobohkmjkaaGreatDoorA12
set_option maxHeartbeats 16000000
set_option maxRecDepth 100000
/- VP -/
namespace Cx
open Go Go.RowKit
abbrev Hs := List (Nat × Nat × Nat × Nat)
def Sx.plus (S : Sx) (X : Hs) : Sx := { S with H := X ++ S.H }
abbrev Ask := Nat × Nat × Nat × Nat
def askZ (a : Nat) : Ask := (0,a,0,a)
def askOk (S : Sx) : Ask→Bool
 | (k,a,b,d) => (Nat.beq k 0 && (Nat.beq b 0 && Nat.beq d a)) || (Nat.beq k 3 && (match S.N[d]? with
  | some (op,ar) => Nat.beq op 3 && beqL ar [a,b]
  | none => false))
def acrossB (S : Sx) (a b : Nat) : List Nat→List Nat→Option (List Ask)
 | c :: l,d :: m => (S.nd 4 [a,d]).bind fun x => (S.nd 4 [c,b]).bind fun y => (S.nd 3 [x,y]).bind fun z => (acrossB S a b l m).map fun r => (3,x,y,z) :: r
 | _,_ => some []
def alikeB (S : Sx) : List Nat→List Nat→List Nat→List Nat→Option (List Ask)
 | pl,pm,a :: l,b :: m => (acrossB S a b pl pm).bind fun r => (alikeB S (pl ++ [a]) (pm ++ [b]) l m).map fun t => r ++ t
 | _,_,_,_ => some []
def sameA (S : Sx) : List Nat→List Nat→Option (List Ask)
 | a :: l,b :: m => (S.nd 3 [a,b]).bind fun d => (sameA S l m).map fun r => (3,a,b,d) :: r
 | _,_ => some []
def asks (S : Sx) (h : List HB) (code : Nat) (args : List AV) : Option (List Ask) :=
 match code with
 | 60 => arg1 (fun x => (asA x).bind fun cs => (qRow S cs).map fun l => l.map askZ) args
 | 61 => arg1 (fun x => (rowB h 1 x).bind fun p => (mapO (acX 0) p.2).map fun l => l.map askZ) args
 | 62 => arg2 (fun x y => (rowB h 1 x).bind fun p => (mapO (acX 0) p.2).bind fun l => (rowB h 1 y).bind fun p' => (mapO (acX 0) p'.2).bind fun m => alikeB S [] [] l m) args
 | 63 => arg1 (fun x => (asA x).bind fun cs => (mapO acTold cs).bind fun l => (plainOf S l).map fun xs => xs.map askZ) args
 | 69 => arg1 (fun x => (asA x).bind fun cs => (mapO (txNode S) cs).map fun l => l.map askZ) args
 | 67 => arg1 (fun x => (asA x).bind fun cs => (mapO (txNode S) (cs.take 3)).map fun l => l.map askZ) args
 | 65 => arg1 (fun x => (asA x).bind fun cs => (mapO (acX 0) cs).map fun l => l.map askZ) args
 | 66 => arg2 (fun x y => (asA x).bind fun cs => (asA y).bind fun ds => (mapO (acX 0) cs).bind fun l => (mapO (acX 0) ds).bind fun m => sameA S l m) args
 | 64 => arg1 (fun x => (asA x).bind fun cs => (qRow S cs).map fun l => (l.take 5).map askZ) args
 | 68 => arg2 (fun x _ => (asA x).bind fun cs => (qRow S cs).map fun l => (l.take 5).map askZ) args
 | _ => none
def splits : List Ask→Hs→List Hs
 | [],_ => []
 | (k,a,b,_) :: l,X => ((k,a,b,0) :: X) :: splits l ((k,a,b,1) :: X)
def allZ : List Ask→Hs→Hs
 | [],X => X
 | (k,a,b,_) :: l,X => allZ l ((k,a,b,1) :: X)
def bodyC (S : Sx) (call : CallF) : CallF := fun f args h nx => S.P.funcs[f]?.bind fun fn => fn.body.bind fun c => ifO (Nat.ble args.length fn.ntmps) ((runB S call fn.ntmps c { tm := numb1 0 args,h := h,nx := nx }).bind fun r =>
   ifO (Nat.ble r.1 1) ((mapO (resB S.P r.2) fn.results.toList).map fun xs => (tupB xs,r.2.h,r.2.nx)))
abbrev CRes := Option (AV × List HB × Nat)
def acZ : AC→Option Nat
 | .inr (k,j,a,x,y) => ifO (Nat.beq k 0 && (Nat.beq j 7 && (Nat.beq x 0 && Nat.beq y 0))) (some a)
 | _ => none
def weakV (S : Sx) (v : AV) : AV := match (asC v).bind (acX 4) with
 | some n => (match S.N[n]? with
  | some (_,[a,b]) => (match S.nd 4 [a,b],S.kn 0 a 0 with
   | some m,some r => bif Nat.beq m n && !Nat.beq 1 r then v1 (.inr (0,7,b,0,0)) else v
   | _,_ => v)
  | _ => v)
 | none => v
def weakR (S : Sx) (r : CRes) : CRes := r.map fun p => (weakV S p.1,p.2)
def ansK (v : AV) : Option (Bool ⊕ Nat) := match asB v with
 | some b => some (.inl b)
 | none => ((asC v).bind acZ).map .inr
def kAns : Bool ⊕ Nat→AV
 | .inl b => kB b
 | .inr a => v1 (.inr (0,7,a,0,0))
def sameK : Bool ⊕ Nat→Bool ⊕ Nat→Bool
 | .inl b,.inl c => b == c
 | .inr a,.inr b => Nat.beq a b
 | _,_ => false
def agree (h : List HB) (b : Bool ⊕ Nat) (hi : Nat) : CRes→Bool
 | some (v,h',nx') => (match ansK v with
  | some c => sameK b c
  | none => false) && (Nat.ble nx' hi && h.all fun x => h'.any fun y => Nat.beq y.1 x.1 && acsW x.2 y.2)
 | none => false
def topN : Nat→List CRes→Nat
 | m,[] => m
 | m,some p :: rs => topN (bif Nat.ble m p.2.2 then p.2.2 else m) rs
 | m,none :: rs => topN m rs
def joinC (h : List HB) (nx : Nat) (rs : List CRes) : CRes :=
 match rs with
 | some p :: _ => (ansK p.1).bind fun b => ifO (rs.all (agree h b (topN nx rs))) (some (kAns b,h,topN nx rs))
 | _ => none
def askIt (S : Sx) (X : Hs) (h : List HB) (c : Nat) (args : List AV) : Option (List Ask × Nat) :=
 (asks (S.plus X) h c args).bind fun l => ifO (l.all (askOk S)) ((sqN S (l.map (·.2.2.2))).bind fun s => ((S.plus X).kn 0 s 0).map fun r => (l,r))
theorem askIt_some {S : Sx} {X : Hs} {h : List HB} {c : Nat} {args : List AV} {l : List Ask} {r : Nat} (e : askIt S X h c args=some (l,r)) : (∀ a ∈ l,askOk S a=true)∧∃ s,sqN S (l.map (·.2.2.2))=some s∧(S.plus X).kn 0 s 0=some r := by
 unfold askIt at e
 simp only [Option.bind_eq_some_iff,ifO_some,Option.map_eq_some_iff,List.all_eq_true,Prod.mk.injEq] at e
 obtain ⟨l',_,h1,s,h2,r',h3,rfl,rfl⟩ := e
 exact ⟨h1,s,h2,h3⟩
def callC (S : Sx) (cs : List (FuncId × Nat)) : Nat→Hs→CallF
 | 0,_,_,_,_,_ => none
 | n+1,X,f,args,h,nx => match prGet f cs with
  | none => bodyC (S.plus X) (callC S cs n X) f args h nx
  | some c => match askIt S X h c args with
   | none => bodyC (S.plus X) (callC S cs n X) f args h nx
   | some (l,r) => bif Nat.beq 1 r then bodyC (S.plus (allZ l X)) (callC S cs n (allZ l X)) f args h nx
    else joinC h nx ((splits l X).map fun X' => weakR (S.plus X') (bodyC (S.plus X') (callC S cs n X') f args h nx))
section
variable {S : Sx} {E : Ev S.nb} {w0 : World}
theorem bodyC_ok {call : CallF} (hm : S.P.follows .mixedOrders=true) (N : Knows S E) (hP : PrimOk S E w0) (hC : CallOk S E w0 call) : CallOk S E w0 (bodyC S call) := fun f args h nx p hp γ w vs hi hA hb hlt hf => by
 unfold bodyC at hp
 simp only [Option.bind_eq_some_iff,ifO_some,Option.map_eq_some_iff,Nat.ble_eq] at hp
 obtain ⟨fn,h1,c,h2,h3,⟨e,s'⟩,h4,h5,xs,h6,rfl⟩ := hp
 dsimp only at h5 h6
 rcases (show e=0 ∨ e=1 by omega) with rfl | rfl
 all_goals
  obtain ⟨_,_,r⟩ := runB_ok hm N hP hC c _ _ _ h4
  refine calls_of_wp h1 h2 (r γ _ w _ ⟨hi,fun t v q => ?_,hb,hlt,?_,rfl⟩ hf fun a' w' γ' hef hs => ?_)
  ·obtain ⟨_,q2⟩ := numb1_get q
   rw [Nat.sub_zero] at q2
   obtain ⟨u,hu,hv⟩ := hA.get q2
   have hlt : t < vs.length := (List.getElem?_eq_some_iff.1 hu).1
   have : (vs.toArray ++ Array.replicate (fn.ntmps - vs.toArray.size) undef).getD t undef=u := by
    rw [Array.getD_eq_getD_getElem?,Array.getElem?_append_left (by simpa using hlt)]
    simp [hu]
   show avOn _ v ((vs.toArray ++ Array.replicate (fn.ntmps - vs.toArray.size) undef).getD t undef)
   rw [this]
   exact hv
  ·have := hA.len
   simp
   omega
  ·obtain ⟨v,hv,hx⟩ := results_run hs h6
   exact ⟨hs.df,v,hv,v,γ',rfl,hef,hx,hs.bx⟩
theorem asB_kB {v : AV} {b : Bool} (h : asB v=some b) : v=kB b := by
 unfold asB at h
 rw [Option.bind_eq_some_iff] at h
 obtain ⟨c,h1,h2⟩ := h
 unfold asC at h1
 split at h1
 ·cases h1
  unfold acB at h2
  split at h2
  ·cases h2
   rfl
  ·cases h2
 ·cases h1
theorem ansK_eq {v : AV} {k : Bool ⊕ Nat} (h : ansK v=some k) : v=kAns k := by
 unfold ansK at h
 split at h
 ·rename_i b hb
  cases h
  exact asB_kB hb
 ·rw [Option.map_eq_some_iff] at h
  obtain ⟨a,h,rfl⟩ := h
  rw [Option.bind_eq_some_iff] at h
  obtain ⟨c,h1,h2⟩ := h
  unfold asC at h1
  split at h1
  ·cases h1
   unfold acZ at h2
   split at h2
   ·rw [ifO_some,Bool.and_eq_true,Bool.and_eq_true,Bool.and_eq_true,Nat.beq_eq,Nat.beq_eq,Nat.beq_eq,Nat.beq_eq] at h2
    obtain ⟨⟨rfl,rfl,rfl,rfl⟩,h3⟩ := h2
    cases h3
    rfl
   ·cases h2
  ·cases h1
theorem sameK_eq {a b : Bool ⊕ Nat} (h : sameK a b=true) : a=b := by
 unfold sameK at h
 split at h
 ·rename_i x y
  have : x=y := by simpa using h
  rw [this]
 ·rw [Nat.beq_eq] at h
  rw [h]
 ·cases h
theorem sgnZ_zero (q : Rat) : sgnZ q=0 ↔ q=0 := by
 unfold sgnZ
 split
 ·rename_i hlt
  constructor
  ·intro q; cases q
  ·intro q; rw [q] at hlt; exact absurd hlt (by decide)
 ·split <;> simp_all
theorem weakV_on (N : Knows S E) {γ : Nat→Option Nat} {w : World} {v : AV} {r : Value} (h : avOn (cOn E S.K γ w) v r) : avOn (cOn E S.K γ w) (weakV S v) r := by
 unfold weakV
 split
 ·rename_i n hn
  rw [Option.bind_eq_some_iff] at hn
  obtain ⟨c,h1,h2⟩ := hn
  split
  ·split
   ·rename_i a b _ _ _ m r' hm hr
    cases e : (Nat.beq m n && !Nat.beq 1 r') with
    | true =>
     rw [Bool.and_eq_true,Nat.beq_eq,Bool.not_eq_true'] at e
     obtain ⟨rfl,e2⟩ := e
     have ez := (N.x4 _ _ _).1 (acX_on h2 (asC_on h1 h))
     refine v1_on ((N.x7 _ _ _).2 ⟨_,ez,?_⟩)
     have hz : ¬ E.q a=0 := fun q => by rw [(N.k0 a r' hr).2 q] at e2; cases e2
     rw [sgnZ_zero,N.k7 _ _ _ hm]
     constructor
     ·exact fun q => (Rat.mul_eq_zero.1 q).resolve_left hz
     ·intro q
      rw [q,Rat.mul_zero]
    | false => exact h
   ·exact h
  ·exact h
 ·exact h
theorem weak_ok {X : Hs} {call : CallF} (N : Knows (S.plus X) E) (hC : CallOk S E w0 call) : CallOk S E w0 (fun f args h nx => weakR (S.plus X) (call f args h nx)) := fun f args h nx p hp => by
 replace hp : weakR (S.plus X) (call f args h nx)=some p := hp
 unfold weakR at hp
 rw [Option.map_eq_some_iff] at hp
 obtain ⟨p0,hp0,rfl⟩ := hp
 intro γ w vs hi hA hb hlt hf
 refine (hC f args h nx p0 hp0 γ w vs hi hA hb hlt hf).mono ?_
 rintro _ w' ⟨r',γ',rfl,hef,hv,hx⟩
 exact ⟨r',γ',rfl,hef,weakV_on (S := S.plus X) N hv,hx⟩
theorem agree_some {h : List HB} {b : Bool ⊕ Nat} {hi : Nat} {r : CRes} (hr : agree h b hi r=true) : ∃ h' nx',r=some (kAns b,h',nx')∧nx'≤hi∧∀ x ∈ h,x ∈ h' := by
 unfold agree at hr
 split at hr
 ·rename_i v h' nx'
  rw [Bool.and_eq_true,Bool.and_eq_true,Nat.ble_eq,List.all_eq_true] at hr
  obtain ⟨h1,h2,h3⟩ := hr
  refine ⟨h',nx',?_,h2,fun x hx => ?_⟩
  ·split at h1
   ·rename_i c hc
    rw [ansK_eq hc,sameK_eq h1]
   ·cases h1
  ·have := h3 x hx
   rw [List.any_eq_true] at this
   obtain ⟨y,hy,e⟩ := this
   rw [Bool.and_eq_true,Nat.beq_eq] at e
   have : x=y := Prod.ext e.1.symm (acsW_eq e.2)
   rw [this]
   exact hy
 ·cases hr
variable {T : Hs→Prop} {z : Nat→Prop}
def AskTrue (S : Sx) (T : Hs→Prop) (z : Nat→Prop) : Prop := ∀ X,T X→∀ a,askOk S a=true→(z a.2.2.2→T ((a.1,a.2.1,a.2.2.1,1) :: X))∧(¬ z a.2.2.2→T ((a.1,a.2.1,a.2.2.1,0) :: X))
theorem allZ_true (hk : AskTrue S T z) : ∀ {l : List Ask} {X : Hs},T X→(∀ a ∈ l,askOk S a=true)→(∀ a ∈ l,z a.2.2.2)→T (allZ l X)
 | [],_,h,_,_ => h
 | (k,a,b,d) :: l,X,h,ho,hz => allZ_true (l := l) hk ((hk X h (k,a,b,d) (ho _ List.mem_cons_self)).1 (hz _ List.mem_cons_self)) (fun a ha => ho a (List.mem_cons_of_mem _ ha)) (fun a ha => hz a (List.mem_cons_of_mem _ ha))
theorem splits_true (hk : AskTrue S T z) : ∀ {l : List Ask} {X : Hs},T X→(∀ a ∈ l,askOk S a=true)→(∃ a ∈ l,¬ z a.2.2.2)→∃ X' ∈ splits l X,T X'
 | [],_,_,_,⟨_,h,_⟩ => by cases h
 | (k,a,b,d) :: l,X,h,ho,hz => by
  by_cases e : z d
  ·obtain ⟨X',h1,h2⟩ := splits_true (l := l) hk ((hk X h (k,a,b,d) (ho _ List.mem_cons_self)).1 e) (fun a ha => ho a (List.mem_cons_of_mem _ ha)) (by
    obtain ⟨c,hc,hn⟩ := hz
    rcases List.mem_cons.1 hc with rfl | hc
    ·exact (hn e).elim
    ·exact ⟨c,hc,hn⟩)
   exact ⟨X',List.mem_cons_of_mem _ h1,h2⟩
  ·exact ⟨_,List.mem_cons_self,(hk X h (k,a,b,d) (ho _ List.mem_cons_self)).2 e⟩
theorem callC_ok {cs : List (FuncId × Nat)} (hm : S.P.follows .mixedOrders=true) (hN : ∀ X,T X→Knows (S.plus X) E) (hP : ∀ X,T X→PrimOk (S.plus X) E w0) (hk : AskTrue S T z)
  (hs : ∀ X,T X→∀ l s r,sqN S l=some s→(S.plus X).kn 0 s 0=some r→(Nat.beq 1 r=true→∀ d ∈ l,z d)∧(Nat.beq 1 r=false→∃ d ∈ l,¬ z d)) : ∀ n X,T X→CallOk S E w0 (callC S cs n X)
 | 0,_,_ => fun _ _ _ _ _ h => by cases h
 | n+1,X,hX => fun f args h nx p hp => by
  have body : ∀ Y,T Y→CallOk S E w0 (bodyC (S.plus Y) (callC S cs n Y)) := fun Y hY => bodyC_ok (S := S.plus Y) hm (hN Y hY) (hP Y hY) (callC_ok hm hN hP hk hs n Y hY)
  unfold callC at hp
  split at hp
  ·exact body X hX f args h nx p hp
  ·split at hp
   ·exact body X hX f args h nx p hp
   rename_i l r hk'
   obtain ⟨hl,s,h1,h2⟩ := askIt_some hk'
   have h3 := hp
   obtain ⟨a1,a0⟩ := hs X hX _ s r h1 h2
   cases e : Nat.beq 1 r with
   | true =>
    rw [e] at h3
    exact body _ (allZ_true hk hX hl fun a ha => a1 e _ (List.mem_map_of_mem ha)) f args h nx p h3
   | false =>
    rw [e] at h3
    obtain ⟨d,hd,hz⟩ := a0 e
    obtain ⟨a,ha,rfl⟩ := List.mem_map.1 hd
    obtain ⟨X',m1,m2⟩ := splits_true hk hX hl ⟨a,ha,hz⟩
    replace h3 : joinC h nx ((splits l X).map fun X' => weakR (S.plus X') (bodyC (S.plus X') (callC S cs n X') f args h nx))=some p := h3
    unfold joinC at h3
    split at h3
    ·rename_i p0 rs hrs
     rw [Option.bind_eq_some_iff] at h3
     obtain ⟨b,hb,h4⟩ := h3
     rw [ifO_some,List.all_eq_true] at h4
     obtain ⟨h5,h6⟩ := h4
     cases h6
     obtain ⟨h',nx',q1,q2,q3⟩ := agree_some (h5 _ (List.mem_map_of_mem m1))
     intro γ w vs hi hA hb hlt hf
     refine (weak_ok (hN X' m2) (body X' m2) f args h nx _ q1 γ w vs hi hA hb hlt fun b g1 g2 => hf b g1 (Nat.lt_of_lt_of_le g2 q2)).mono ?_
     rintro _ w' ⟨r',γ',rfl,hef,hv,hx⟩
     exact ⟨r',γ',rfl,hef.wide (Nat.le_refl _) q2,hv,fun x hh => hx x (q3 x hh)⟩
    ·cases h3
end
end Cx
/- VPC -/
namespace Go.Proofs.YtnjaoobohkmjkaaGreatDoor
open Cx Go Go.RowKit
section
variable {N : List Nd} {H : List (Nat × Nat × Nat × Nat)} {K : List (FuncId × List AC)} {L C : List (List Nat × Nat)} {Z : List Nat} {q : Nat→Rat} {σ : Nat→ByteArray} {w0 : World} {cl : List FuncId} {cs pr : List (FuncId × Nat)}
theorem kn_cons {k a b k' a' b' r' : Nat} {r : Nat} (h : knFrom k a b ((k',a',b',r') :: H)=some r) : (k=k'∧a=a'∧b=b'∧r=r') ∨ knFrom k a b H=some r := by
 unfold knFrom at h
 cases e : (Nat.beq k k' && (Nat.beq a a' && Nat.beq b b')) with
 | true =>
  rw [e] at h
  simp only [Bool.and_eq_true,Nat.beq_eq] at e
  exact Or.inl ⟨e.1,e.2.1,e.2.2,(Option.some.inj h).symm⟩
 | false =>
  rw [e] at h
  exact Or.inr h
theorem Hy.add0 (Y : Hy N H L C Z q σ) {a r : Nat} (h : Nat.beq 1 r=true ↔ q a=0) : Hy N ((0,a,0,r) :: H) L C Z q σ where
 nat := Y.nat
 qs := Y.qs
 zs := Y.zs
 par := Y.par
 lit := Y.lit
 k0 := fun a' r' g => by
  rcases kn_cons g with ⟨_,e1,_,e2⟩ | g
  ·rw [e1,e2]
   exact h
  ·exact Y.k0 a' r' g
 k1 := fun a' r' g => by
  rcases kn_cons g with ⟨e,_⟩ | g
  ·cases e
  ·exact Y.k1 a' r' g
 k2 := fun a' r' g => by
  rcases kn_cons g with ⟨e,_⟩ | g
  ·cases e
  ·exact Y.k2 a' r' g
 k4 := fun l a' b' r' g1 g => by
  rcases kn_cons g with ⟨e,_⟩ | g
  ·cases e
  ·exact Y.k4 l a' b' r' g1 g
 k3 := fun a' b' r' g => by
  rcases kn_cons g with ⟨e,_⟩ | g
  ·cases e
  ·exact Y.k3 a' b' r' g
 k6 := fun a' b' r' g => by
  rcases kn_cons g with ⟨e,_⟩ | g
  ·cases e
  ·exact Y.k6 a' b' r' g
 k5 := fun a' r' g => by
  rcases kn_cons g with ⟨e,_⟩ | g
  ·cases e
  ·exact Y.k5 a' r' g
theorem Hy.add3 (Y : Hy N H L C Z q σ) {a b r : Nat} (h : Nat.beq 1 r=true ↔ q a=q b) : Hy N ((3,a,b,r) :: H) L C Z q σ where
 nat := Y.nat
 qs := Y.qs
 zs := Y.zs
 par := Y.par
 lit := Y.lit
 k0 := fun a' r' g => by
  rcases kn_cons g with ⟨e,_⟩ | g
  ·cases e
  ·exact Y.k0 a' r' g
 k1 := fun a' r' g => by
  rcases kn_cons g with ⟨e,_⟩ | g
  ·cases e
  ·exact Y.k1 a' r' g
 k2 := fun a' r' g => by
  rcases kn_cons g with ⟨e,_⟩ | g
  ·cases e
  ·exact Y.k2 a' r' g
 k4 := fun l a' b' r' g1 g => by
  rcases kn_cons g with ⟨e,_⟩ | g
  ·cases e
  ·exact Y.k4 l a' b' r' g1 g
 k3 := fun a' b' r' g => by
  rcases kn_cons g with ⟨_,e1,e2,e3⟩ | g
  ·rw [e1,e2,e3]
   exact h
  ·exact Y.k3 a' b' r' g
 k6 := fun a' b' r' g => by
  rcases kn_cons g with ⟨e,_⟩ | g
  ·cases e
  ·exact Y.k6 a' b' r' g
 k5 := fun a' r' g => by
  rcases kn_cons g with ⟨e,_⟩ | g
  ·cases e
  ·exact Y.k5 a' r' g
theorem ask_true : AskTrue (sx Tryz.prog N H K L C Z pr) (fun X => Hy N (X ++ H) L C Z q σ) (fun d => q d=0) := fun X Y a ha => by
 obtain ⟨k,a,b,d⟩ := a
 have t1 : Nat.beq 1 1=true := rfl
 have t0 : Nat.beq 1 0 ≠ true := fun h => by cases h
 unfold askOk at ha
 rw [Bool.or_eq_true] at ha
 rcases ha with ha | ha
 ·simp only [Bool.and_eq_true,Nat.beq_eq] at ha
  obtain ⟨rfl,rfl,rfl⟩ := ha
  exact ⟨fun h => Hy.add0 Y ⟨fun _ => h,fun _ => t1⟩,fun h => Hy.add0 Y ⟨fun g => (t0 g).elim,fun g => (h g).elim⟩⟩
 ·rw [Bool.and_eq_true,Nat.beq_eq] at ha
  obtain ⟨rfl,hb⟩ := ha
  split at hb
  ·rename_i op ar hn
   rw [Bool.and_eq_true,Nat.beq_eq] at hb
   obtain ⟨rfl,hb⟩ := hb
   have e := beqL_eq hb
   subst e
   have hv : q d=q a - q b := Y.nat d _ hn
   have h2 : q d=0 ↔ q a=q b := by
    rw [hv]
    constructor <;> intro h <;> grind
   exact ⟨fun h => Hy.add3 Y ⟨fun _ => h2.1 h,fun _ => t1⟩,fun h => Hy.add3 Y ⟨fun g => (t0 g).elim,fun g => (h (h2.2 g)).elim⟩⟩
  ·cases hb
theorem sq_nn (y : Rat) : 0≤y*y := by
 by_cases h : y=0
 ·rw [h,Rat.zero_mul]
  exact Rat.le_refl
 ·exact Rat.le_of_lt (sq1_pos h)
theorem sq_sum {x y : Rat} (hx : 0≤x) : x+y*y=0 ↔ x=0∧y=0 := by
 constructor
 ·intro h
  have h2 := sq_nn y
  have h3 : x=0 := by grind
  refine ⟨h3,?_⟩
  have : y*y=0 := by grind
  rcases Rat.mul_eq_zero.1 this with g | g <;> exact g
 ·rintro ⟨rfl,rfl⟩
  grind
theorem sqF_val {H' : List (Nat × Nat × Nat × Nat)} (Y : Hy N H' L C Z q σ) : ∀ {l : List Nat} {s t : Nat},sqF (sx Tryz.prog N H K L C Z pr) s l=some t→0≤q s→0≤q t∧(q t=0 ↔ q s=0∧∀ d ∈ l,q d=0)
 | [],s,t,h,hs => by
  cases h
  exact ⟨hs,fun e => ⟨e,fun d hd => by cases hd⟩,fun e => e.1⟩
 | a :: l,s,t,h,hs => by
  unfold sqF at h
  simp only [Option.bind_eq_some_iff] at h
  obtain ⟨b,h1,c,h2,h3⟩ := h
  have e1 : q b=q a*q a := Hy.nd (H := H') (K := K) (pr := pr) Y h1
  have e2 : q c=q s+q b := Hy.nd (H := H') (K := K) (pr := pr) Y h2
  have n := sq_nn (q a)
  obtain ⟨g1,g2⟩ := sqF_val Y h3 (by grind)
  refine ⟨g1,g2.trans ?_⟩
  have e3 := sq_sum (y := q a) hs
  rw [e2,e1,e3]
  constructor
  ·rintro ⟨⟨x,y⟩,z⟩
   refine ⟨x,fun d hd => ?_⟩
   rcases List.mem_cons.1 hd with rfl | hd
   ·exact y
   ·exact z d hd
  ·rintro ⟨x,y⟩
   exact ⟨⟨x,y a List.mem_cons_self⟩,fun d hd => y d (List.mem_cons_of_mem _ hd)⟩
theorem sqN_val {H' : List (Nat × Nat × Nat × Nat)} (Y : Hy N H' L C Z q σ) {l : List Nat} {s : Nat} (h : sqN (sx Tryz.prog N H K L C Z pr) l=some s) : q s=0 ↔ ∀ d ∈ l,q d=0 := by
 unfold sqN at h
 split at h
 ·cases h
 ·rename_i a l
  rw [Option.bind_eq_some_iff] at h
  obtain ⟨b,h1,h2⟩ := h
  have e1 : q b=q a*q a := Hy.nd (H := H') (K := K) (pr := pr) Y h1
  have n := sq_nn (q a)
  obtain ⟨_,g⟩ := sqF_val Y h2 (by grind)
  rw [g,e1]
  constructor
  ·rintro ⟨x,y⟩ d hd
   rcases List.mem_cons.1 hd with rfl | hd
   ·rcases Rat.mul_eq_zero.1 x with x | x <;> exact x
   ·exact y d hd
  ·intro y
   refine ⟨?_,fun d hd => y d (List.mem_cons_of_mem _ hd)⟩
   rw [y a List.mem_cons_self,Rat.zero_mul]
theorem run_cases {f : FuncId} {args : List AV} {vs : List Value} {k : Nat} {p : List HB × Nat} {b : Bool} (Y : Hy N H L C Z q σ) (hm : (Tryz.prog).follows .mixedOrders=true) {w : World} (hP : ∀ H',Hy N H' L C Z q σ→PrimOk (sx Tryz.prog N H' K L C Z pr) (evS q σ) w) (hr : callC (sx Tryz.prog N H K L C Z pr) cs k [] f args [] 0=some (kB b,p))
  (hA : A2 (avOn (cOn (evS q σ) K (fun _ => none) w)) args vs) : Calls Tryz.prog f vs.toArray w fun e w' => Below w.heap.size w w'∧e=.returned (.bool b) := by
 refine (callC_ok (S := sx Tryz.prog N H K L C Z pr) (E := evS q σ) (w0 := w) (T := fun X => Hy N (X ++ H) L C Z q σ) (z := fun d => q d=0) hm (fun X hX => knows hX) (fun X hX => hP _ hX) ask_true ?_ k [] Y f args [] 0 (kB b,p) hr (fun _ => none) w vs ⟨Below.refl _ _,(fun _ _ h => by cases h)⟩ hA (fun x hx => by cases hx) (fun x hx => by cases hx) (fun _ _ _ => rfl)).mono ?_
 ·intro X hX l s r h1 h2
  have e := hX.k0 s r h2
  have g := sqN_val hX h1
  refine ⟨fun h => g.1 (e.1 h),fun h => ?_⟩
  have hn : ¬ ∀ d ∈ l,q d=0 := fun q' => by
   rw [e.2 (g.2 q')] at h
   cases h
  simpa using hn
 ·rintro _ w' ⟨r,γ',rfl,hef,hv,_⟩
  exact ⟨hef.wi.bel,by rw [show r=.bool b from (asC_on (v := kB b) (c := .inl (.bool b)) rfl hv).1]⟩
theorem run_toldC {f : FuncId} {args : List AV} {vs : List Value} {k : Nat} {p : List HB × Nat} {b : Bool} (Y : Hy N H L C Z q σ) (hc : ∀ f ∈ cl,Closed f) (hm : (Tryz.prog).follows .mixedOrders=true) (hr : callC (sx Tryz.prog N H K L C Z (prC cl)) cs k [] f args [] 0=some (kB b,p)) {w : World} (hp : PreS w)
  (hA : A2 (avOn (cOn (evS q σ) K (fun _ => none) w)) args vs) : Calls Tryz.prog f vs.toArray w fun e w' => Below w.heap.size w w'∧e=.returned (.bool b) := run_cases Y hm (fun _ Y' => primOk Y' hp hc) hr hA
theorem run_toldC' {f : FuncId} {args : List AV} {vs : List Value} (k : Nat) (Y : Hy N H L C Z q σ) (hc : ∀ f ∈ cl,Closed f) (hm : (Tryz.prog).follows .mixedOrders=true) (hr : (callC (sx Tryz.prog N H K L C Z (prC cl)) cs k [] f args [] 0).map (·.1)=some (kB true)) {w : World} (hp : PreS w)
  (hA : A2 (avOn (cOn (evS q σ) K (fun _ => none) w)) args vs) : Calls Tryz.prog f vs.toArray w fun e w' => Below w.heap.size w w'∧e=.returned (.bool true) := by
 rw [Option.map_eq_some_iff] at hr
 obtain ⟨⟨v,p⟩,h1,h2⟩ := hr
 dsimp only at h2
 subst h2
 exact run_toldC Y hc hm h1 hp hA
theorem sq_first {u x : Rat} (h : u=x*x) : 0≤u∧(u=0 ↔ x=0) := by
 rw [h]
 exact ⟨sq_nn x,fun e => (Rat.mul_eq_zero.1 e).elim id id,fun e => by rw [e,Rat.zero_mul]⟩
theorem sq_next {p : Prop} {s x v t : Rat} (h : 0≤s∧(s=0 ↔ p)) (hv : v=x*x) (ht : t=s+v) : 0≤t∧(t=0 ↔ (p∧x=0)) := by
 have n := sq_nn x
 refine ⟨by have := h.1; grind,?_⟩
 rw [ht,hv,sq_sum h.1,h.2]
end
end Go.Proofs.YtnjaoobohkmjkaaGreatDoor
/- VY -/
namespace Go.Proofs.YtnjaoobohkmjkaaGreatDoor
open Go.RowKit Cx
theorem den_num (t : Rat) : t*(t.den : Rat)=((t.num : Int) : Rat) := by
 conv => lhs; lhs; rw [← Rat.mkRat_self t]
 have h0 : (t.den : Rat) ≠ 0 := fun h => t.den_nz (by exact_mod_cast h)
 rw [Rat.mkRat_eq_div,Rat.div_mul_cancel h0]
theorem whole {q : Rat} (h : q.den=1) : q=((q.num : Int) : Rat) := by
 have := den_num q
 rw [h] at this
 rw [← this]
 show q=q*((1 : Nat) : Rat)
 exact (Rat.mul_one q).symm
end Go.Proofs.YtnjaoobohkmjkaaGreatDoor
/- VSZ -/
namespace Go.Proofs.YtnjaoobohkmjkaaGreatDoor
open Go.RowKit Cx
structure QW (z : Nat) (x : Rat) : Prop where
 qs : QS z x
 wh : x.den=1
theorem QW.of {z : Nat} {n : Int} (h : n.natAbs < 2 ^ z) (hz : 0 < z) : QW z ((n : Int) : Rat) :=
 ⟨⟨by simpa using h,by
  show ((n : Int) : Rat).den < 2 ^ z
  rw [Rat.den_intCast]
  exact Nat.one_lt_two_pow (by omega)⟩,Rat.den_intCast n⟩
theorem QW.mono {k l : Nat} {x : Rat} (h : QW k x) (hk : k≤l) : QW l x := ⟨h.qs.mono hk,h.wh⟩
theorem two_max {a b x y : Nat} (h1 : a < 2 ^ x) (h2 : b < 2 ^ y) : a+b < 2 ^ (Nat.max x y+1) := by
 have e1 : 2 ^ x≤2 ^ Nat.max x y := Nat.pow_le_pow_right (by decide) (Nat.le_max_left x y)
 have e2 : 2 ^ y≤2 ^ Nat.max x y := Nat.pow_le_pow_right (by decide) (Nat.le_max_right x y)
 rw [Nat.pow_succ]
 omega
theorem QW.add {x y : Nat} {a b : Rat} (h1 : QW x a) (h2 : QW y b) : QW (Nat.max x y+1) (a+b) := by
 rw [whole h1.wh,whole h2.wh,← Rat.intCast_add]
 refine QW.of ?_ (by omega)
 have := two_max h1.qs.num h2.qs.num
 omega
theorem QW.sub {x y : Nat} {a b : Rat} (h1 : QW x a) (h2 : QW y b) : QW (Nat.max x y+1) (a - b) := by
 rw [whole h1.wh,whole h2.wh,← Rat.intCast_sub]
 refine QW.of ?_ (by omega)
 have := two_max h1.qs.num h2.qs.num
 omega
theorem QW.mul {x y : Nat} {a b : Rat} (h1 : QW x a) (h2 : QW y b) : QW (x+y) (a*b) := by
 refine ⟨h1.qs.mul h2.qs,?_⟩
 rw [whole h1.wh,whole h2.wh,← Rat.intCast_mul]
 exact Rat.den_intCast _
theorem QW.neg {x : Nat} {a : Rat} (h1 : QW x a) : QW x (-a) := ⟨h1.qs.neg,h1.wh⟩
theorem ten_three : ∀ n : Nat,10 ^ n≤2 ^ ((10*n+2) / 3)
 | 0 => by decide
 | 1 => by decide
 | 2 => by decide
 | n+3 => by
  have h := ten_three n
  have e : (10*(n+3)+2) / 3=(10*n+2) / 3+10 := by omega
  rw [e,Nat.pow_add,Nat.pow_add]
  exact Nat.mul_le_mul h (by decide)
theorem QS.rd3 (l : List UInt8) : QS ((10*l.length+2) / 3+5) (Cx.rd l) := by
 have key : ∀ {m : List UInt8},digs m=true→dv m < 2 ^ ((10*m.length+2) / 3) := fun {m} h => Nat.lt_of_lt_of_le (dv_lt (digs_all h)) (ten_three _)
 unfold Cx.rd
 split
 ·rename_i h
  rw [Bool.and_eq_true] at h
  have h1 := key h.1
  have h2 := key h.2
  have h3 := up_len (tailOf l)
  have h4 := low_len (tailOf l)
  have h5 := tail_len l
  apply QS.mkr
  ·rw [sg_abs]; exact Nat.lt_of_lt_of_le h1 (Nat.pow_le_pow_right (by decide) (by omega))
  ·exact Nat.lt_of_lt_of_le h2 (Nat.pow_le_pow_right (by decide) (by omega))
 ·exact QS.zero.mono (by omega)
section
variable {N : List Nd} {Z : List Nat} {I : List Bool} {q : Nat→Rat}
end
end Go.Proofs.YtnjaoobohkmjkaaGreatDoor
/- VSA -/
namespace Go.Proofs.YtnjaoobohkmjkaaGreatDoor
open Go.RowKit Cx
def inB : Nat := 3495259
abbrev Atm := Nat × Nat
def remA (x : Atm) : List Atm→Option (List Atm)
 | [] => none
 | y :: l => bif Nat.beq x.1 y.1 && Nat.beq x.2 y.2 then some l else (remA x l).map (y :: ·)
def subA : List Atm→List Atm→Option (List Atm)
 | l,[] => some l
 | l,x :: r => (remA x l).bind fun l' => subA l' r
def leftA : List Atm→List Atm→List Atm
 | _,[] => []
 | U,x :: D => match remA x U with
  | some U' => leftA U' D
  | none => x :: leftA U D
def uniA (E : List (Nat × List Atm)) : List Nat→List Atm→List Atm
 | [],U => U
 | a :: l,U => uniA E l (match E[a]? with
  | some p => U ++ leftA U p.2
  | none => U)
def bitA (E : List (Nat × List Atm)) (x : Atm) : Nat := match x.1 with
 | 0 => inB
 | 1 => (match E[x.2]? with
  | some p => p.1
  | none => 1)
 | _ => Nat.log2 x.2+1
def bitL (E : List (Nat × List Atm)) : List Atm→Nat
 | [] => 1
 | x :: l => bitA E x+bitL E l
def noneA (l : Option (List Atm)) : Bool := match l with
 | some [] => true
 | _ => false
def saN (E : List (Nat × List Atm)) (k z : Nat) (D : List Atm) (nd : Nd) : Bool := (Nat.blt 0 z && D.all fun x => !Nat.beq x.1 1 || Nat.blt x.2 k) && match nd.1,nd.2 with
 | 0,[_,n,d] => (Nat.blt n (2 ^ z) && Nat.blt 0 d) && noneA (subA D (bif Nat.beq d 1 then [] else [(2,d)]))
 | 1,[j] => Nat.ble inB z && noneA (subA D [(0,j)])
 | 2,[a,b] => (match E[a]?,E[b]? with
  | some p,some r => (match subA D p.2,subA D r.2 with
   | some c,some e => Nat.ble (Nat.max (p.1+bitL E c) (r.1+bitL E e)+1) z
   | _,_ => false)
  | _,_ => false)
 | 3,[a,b] => (match E[a]?,E[b]? with
  | some p,some r => (match subA D p.2,subA D r.2 with
   | some c,some e => Nat.ble (Nat.max (p.1+bitL E c) (r.1+bitL E e)+1) z
   | _,_ => false)
  | _,_ => false)
 | 4,[a,b] => (match E[a]?,E[b]? with
  | some p,some r => (match subA D p.2 with
   | some c => noneA (subA c r.2) && Nat.ble (p.1+r.1) z
   | _ => false)
  | _,_ => false)
 | 5,[a] => (match E[a]? with
  | some p => noneA (subA D p.2) && Nat.ble p.1 z
  | _ => false)
 | 6,[a,b] => (match E[a]?,E[b]?,remA (1,b) D with
  | some p,some r,some D' => (match subA p.2 D' with
   | some c => (match subA r.2 c with
    | some e => Nat.ble (p.1+bitL E e) z
    | none => false)
   | none => false)
  | _,_,_ => false)
 | 7,_ => Nat.beq D.length 0
 | 8,i :: xs => Nat.beq D.length 0 && (xs.all (fun a => match E[a]? with
   | some p => (subA (uniA E xs []) p.2).isSome
   | none => false) && (match xs[i]? with
   | some a => (match E[a]? with
    | some p => (match subA (uniA E xs []) p.2 with
     | some e => Nat.ble (p.1+bitL E e) z
     | none => false)
    | none => false)
   | none => false))
 | _,_ => false
def saB (E : List (Nat × List Atm)) : Nat→List Nd→List (Nat × List Atm)→List Nat→Bool
 | _,[],[],[] => true
 | k,nd :: ns,p :: ps,z :: zs => (saN E k p.1 p.2 nd && (Nat.ble p.1 z && (Nat.ble (bitL E p.2) z && Nat.ble z 1000000000000))) && saB E (k+1) ns ps zs
 | _,_,_,_ => false
theorem saB_get {E : List (Nat × List Atm)} : ∀ {ns : List Nd} {ps : List (Nat × List Atm)} {zs : List Nat} {k i : Nat} {nd : Nd},saB E k ns ps zs=true→ns[i]? = some nd→∃ p z,ps[i]? = some p∧zs[i]? = some z∧saN E (k+i) p.1 p.2 nd=true∧p.1≤z∧bitL E p.2≤z∧z≤1000000000000
 | [],_,_,_,_,_,_,h => by simp at h
 | _ :: _,[],_,_,_,_,h,_ => by cases h
 | _ :: _,_ :: _,[],_,_,_,h,_ => by cases h
 | nd' :: ns,p :: ps,z :: zs,k,0,nd,h,e => by
  have : nd'=nd := by simpa using e
  subst this
  unfold saB at h
  simp only [Bool.and_eq_true,Nat.ble_eq] at h
  exact ⟨p,z,rfl,rfl,h.1.1,h.1.2.1,h.1.2.2.1,h.1.2.2.2⟩
 | nd' :: ns,p :: ps,z :: zs,k,i+1,nd,h,e => by
  unfold saB at h
  rw [Bool.and_eq_true] at h
  obtain ⟨p',z',g1,g2,g3,g4⟩ := saB_get (k := k+1) (i := i) h.2 (by simpa using e)
  exact ⟨p',z',by simpa using g1,by simpa using g2,by rw [show k+(i+1)=k+1+i by omega]; exact g3,g4⟩
theorem saB_len {E : List (Nat × List Atm)} : ∀ {ns : List Nd} {ps : List (Nat × List Atm)} {zs : List Nat} {k : Nat},saB E k ns ps zs=true→ns.length=ps.length∧ns.length=zs.length
 | [],[],[],_,_ => ⟨rfl,rfl⟩
 | [],[],_ :: _,_,h => by cases h
 | [],_ :: _,_,_,h => by cases h
 | _ :: _,[],_,_,h => by cases h
 | _ :: _,_ :: _,[],_,h => by cases h
 | _ :: _,_ :: _,_ :: _,k,h => by
  unfold saB at h
  rw [Bool.and_eq_true] at h
  have := saB_len h.2
  exact ⟨congrArg (· + 1) this.1,congrArg (· + 1) this.2⟩
def valA (dn : Nat→Nat) (M : Nat→Rat) (x : Atm) : Rat := match x.1 with
 | 0 => ((dn x.2 : Nat) : Rat)
 | 1 => if M x.2=0 then 1 else M x.2
 | _ => if x.2=0 then 1 else ((x.2 : Nat) : Rat)
def proA (dn : Nat→Nat) (M : Nat→Rat) : List Atm→Rat
 | [] => 1
 | x :: l => valA dn M x*proA dn M l
theorem remA_pro {dn : Nat→Nat} {M : Nat→Rat} {x : Atm} : ∀ {l c : List Atm},remA x l=some c→proA dn M l=valA dn M x*proA dn M c
 | [],_,h => by cases h
 | y :: l,c,h => by
  unfold remA at h
  cases e : (Nat.beq x.1 y.1 && Nat.beq x.2 y.2) with
  | true =>
   rw [e] at h
   cases h
   rw [Bool.and_eq_true,Nat.beq_eq,Nat.beq_eq] at e
   have : x=y := Prod.ext e.1 e.2
   rw [this]
   rfl
  | false =>
   rw [e] at h
   simp only [cond_false,Option.map_eq_some_iff] at h
   obtain ⟨c',h1,rfl⟩ := h
   show valA dn M y*proA dn M l=valA dn M x*(valA dn M y*proA dn M c')
   rw [remA_pro h1]
   grind
theorem subA_pro {dn : Nat→Nat} {M : Nat→Rat} : ∀ {r l c : List Atm},subA l r=some c→proA dn M l=proA dn M r*proA dn M c
 | [],l,c,h => by
  have : l=c := by simpa [subA] using h
  rw [this]
  exact (Rat.one_mul _).symm
 | x :: r,l,c,h => by
  unfold subA at h
  rw [Option.bind_eq_some_iff] at h
  obtain ⟨l',h1,h2⟩ := h
  rw [remA_pro h1,subA_pro h2]
  exact (Rat.mul_assoc _ _ _).symm
theorem noneA_some {l : Option (List Atm)} (h : noneA l=true) : l=some [] := by
 unfold noneA at h
 split at h
 ·rfl
 ·cases h
theorem QW.one {z : Nat} (h : 0 < z) : QW z 1 := ⟨⟨by
  show (1 : Int).natAbs < 2 ^ z
  exact Nat.one_lt_two_pow (by omega),by
  show 1 < 2 ^ z
  exact Nat.one_lt_two_pow (by omega)⟩,rfl⟩
theorem QW.zero {z : Nat} (h : 0 < z) : QW z 0 := ⟨⟨by
  show (0 : Int).natAbs < 2 ^ z
  exact Nat.two_pow_pos z,by
  show 1 < 2 ^ z
  exact Nat.one_lt_two_pow (by omega)⟩,rfl⟩
theorem QW.nat {z n : Nat} (h : n < 2 ^ z) (hz : 0 < z) : QW z ((n : Nat) : Rat) := by
 have : ((n : Nat) : Rat)=(((n : Nat) : Int) : Rat) := (Rat.intCast_natCast n).symm
 rw [this]
 exact QW.of (by simpa using h) hz
section
variable {E : List (Nat × List Atm)} {dn : Nat→Nat} {M : Nat→Rat} {k : Nat}
def BelA (E : List (Nat × List Atm)) (dn : Nat→Nat) (M : Nat→Rat) (q : Nat→Rat) (k : Nat) : Prop := ∀ a,a < k→∃ p,E[a]? = some p∧QW p.1 (M a)∧0 < p.1∧(∀ x ∈ p.2,x.1=1→x.2 < a)∧q a*proA dn M p.2=M a
theorem valA_ok {q : Nat→Rat} (hdn : ∀ j,0 < dn j∧dn j < 2 ^ inB) (hM : BelA E dn M q k) {x : Atm} (hx : x.1=1→x.2 < k) : QW (bitA E x) (valA dn M x)∧valA dn M x ≠ 0 := by
 obtain ⟨i,j⟩ := x
 match i with
 | 0 =>
  show QW inB ((dn j : Nat) : Rat)∧((dn j : Nat) : Rat) ≠ 0
  refine ⟨QW.nat (hdn j).2 (by unfold inB; omega),fun h => ?_⟩
  have := (hdn j).1
  have h2 : dn j=0 := by exact_mod_cast h
  omega
 | 1 =>
  obtain ⟨p,h1,h2,h3,_⟩ := hM j (hx rfl)
  show QW (match E[j]? with
   | some p => p.1
   | none => 1) (if M j=0 then 1 else M j)∧(if M j=0 then 1 else M j) ≠ 0
  rw [h1]
  by_cases h : M j=0
  ·rw [if_pos h]
   exact ⟨QW.one h3,by decide⟩
  ·rw [if_neg h]
   exact ⟨h2,h⟩
 | i+2 =>
  show QW (Nat.log2 j+1) (if j=0 then 1 else ((j : Nat) : Rat))∧(if j=0 then 1 else ((j : Nat) : Rat)) ≠ 0
  by_cases h : j=0
  ·rw [if_pos h]
   exact ⟨QW.one (by omega),by decide⟩
  ·rw [if_neg h]
   refine ⟨QW.nat Nat.lt_log2_self (by omega),fun h2 => h ?_⟩
   exact_mod_cast h2
theorem proA_ok {q : Nat→Rat} (hdn : ∀ j,0 < dn j∧dn j < 2 ^ inB) (hM : BelA E dn M q k) : ∀ {l : List Atm},(∀ x ∈ l,x.1=1→x.2 < k)→QW (bitL E l) (proA dn M l)∧proA dn M l ≠ 0
 | [],_ => ⟨QW.one (show 0 < 1 by decide),by show (1 : Rat) ≠ 0; decide⟩
 | x :: l,h => by
  have h1 := valA_ok hdn hM (h x List.mem_cons_self)
  have h2 := proA_ok hdn hM (l := l) fun y hy => h y (List.mem_cons_of_mem _ hy)
  exact ⟨h1.1.mul h2.1,mul_ne h1.2 h2.2⟩
theorem proA_congr {M' : Nat→Rat} : ∀ {l : List Atm},(∀ x ∈ l,x.1=1→M x.2=M' x.2)→proA dn M l=proA dn M' l
 | [],_ => rfl
 | x :: l,h => by
  show valA dn M x*proA dn M l=valA dn M' x*proA dn M' l
  rw [proA_congr (l := l) fun y hy => h y (List.mem_cons_of_mem _ hy)]
  have e : valA dn M x=valA dn M' x := by
   obtain ⟨i,j⟩ := x
   match i with
   | 0 => rfl
   | 1 =>
    have := h (1,j) List.mem_cons_self rfl
    show (if M j=0 then 1 else M j)=(if M' j=0 then 1 else M' j)
    rw [this]
   | i+2 => rfl
  rw [e]
theorem remA_mem {x y : Atm} : ∀ {l c : List Atm},remA x l=some c→y ∈ c→y ∈ l
 | [],_,h,_ => by cases h
 | z :: l,c,h,hy => by
  unfold remA at h
  cases e : (Nat.beq x.1 z.1 && Nat.beq x.2 z.2) with
  | true => rw [e] at h; cases h; exact List.mem_cons_of_mem _ hy
  | false =>
   rw [e] at h
   simp only [cond_false,Option.map_eq_some_iff] at h
   obtain ⟨c',h1,rfl⟩ := h
   rcases List.mem_cons.1 hy with rfl | hy
   ·exact List.mem_cons_self
   ·exact List.mem_cons_of_mem _ (remA_mem h1 hy)
theorem subA_mem {y : Atm} : ∀ {r l c : List Atm},subA l r=some c→y ∈ c→y ∈ l
 | [],l,c,h,hy => by
  have : l=c := by simpa [subA] using h
  rw [this]; exact hy
 | x :: r,l,c,h,hy => by
  unfold subA at h
  rw [Option.bind_eq_some_iff] at h
  obtain ⟨l',h1,h2⟩ := h
  exact remA_mem h1 (subA_mem h2 hy)
theorem nat_ne {n : Nat} (h : n ≠ 0) : ((n : Nat) : Rat) ≠ 0 := fun e => h (by exact_mod_cast e)
theorem mul_low (x : Rat) : x*((x.den : Nat) : Rat)=((x.num : Int) : Rat) := by
 have e : x=((x.num : Int) : Rat) / ((x.den : Nat) : Rat) := by
  have := Rat.mkRat_self x
  rw [Rat.mkRat_eq_div] at this
  exact this.symm
 conv => lhs; lhs; rw [e]
 exact Rat.div_mul_cancel (nat_ne x.den_nz)
theorem lD_dvd_of {qs : List Rat} {m M : Nat} (hm : m ∣ M) (h : ∀ q ∈ qs,q.den ∣ M) : qs.foldl (fun m q => m*(q.den / Nat.gcd m q.den)) m ∣ M := by
 induction qs generalizing m with
 | nil => exact hm
 | cons q qs ih =>
  rw [List.foldl_cons]
  refine ih ?_ fun p hp => h p (List.mem_cons_of_mem _ hp)
  have e : m*(q.den / Nat.gcd m q.den)=Nat.lcm m q.den := by
   unfold Nat.lcm
   exact (Nat.mul_div_assoc _ (Nat.gcd_dvd_right _ _)).symm
  rw [e]
  exact Nat.lcm_dvd hm (h q List.mem_cons_self)
theorem den_dvd {x : Rat} {m : Int} (h : (x*((m : Int) : Rat)).den=1) : x.den ∣ m.natAbs := by
 have e := whole h
 generalize (x*((m : Int) : Rat)).num=n at e
 have h1 : x*((x.den : Nat) : Rat)=((x.num : Int) : Rat) := mul_low x
 have h2 : ((x.num : Int) : Rat)*((m : Int) : Rat)=((n : Int) : Rat)*(((x.den : Nat) : Int) : Rat) := by
  rw [← h1,← e,Rat.intCast_natCast]
  grind
 have h3 : x.num*m=n*(x.den : Int) := by exact_mod_cast h2
 have h4 : (x.den : Int) ∣ x.num*m := ⟨n,by rw [h3,Int.mul_comm]⟩
 have h5 : x.den ∣ x.num.natAbs*m.natAbs := by
  have := Int.natAbs_dvd_natAbs.2 h4
  rwa [Int.natAbs_mul,Int.natAbs_natCast] at this
 exact (Nat.Coprime.symm x.reduced).dvd_of_dvd_mul_left h5
theorem fac_whole {qs : List Rat} {x : Rat} {z : Nat} {m : Int} (hx : x ∈ qs) (hm : m ≠ 0) (hall : ∀ y ∈ qs,(y*((m : Int) : Rat)).den=1) (hz : QW z (x*((m : Int) : Rat))) : QW z (x*fac qs) := by
 have hl : lD qs ∣ m.natAbs := lD_dvd_of (Nat.one_dvd _) fun y hy => den_dvd (hall y hy)
 have hd := fac_den hx
 have hpos : 0 < m.natAbs := Int.natAbs_pos.2 hm
 have hle : lD qs≤m.natAbs := Nat.le_of_dvd hpos hl
 have hn : (x*fac qs).num.natAbs≤(x*((m : Int) : Rat)).num.natAbs := by
  rw [fac_abs hx]
  have e := whole hz.wh
  generalize (x*((m : Int) : Rat)).num=n at e
  have h1 : x*((x.den : Nat) : Rat)=((x.num : Int) : Rat) := mul_low x
  have h2 : ((x.num : Int) : Rat)*((m : Int) : Rat)=((n : Int) : Rat)*(((x.den : Nat) : Int) : Rat) := by
   rw [← h1,← e,Rat.intCast_natCast]
   grind
  have h3 : x.num*m=n*(x.den : Int) := by exact_mod_cast h2
  have h4 : x.num.natAbs*m.natAbs=n.natAbs*x.den := by
   have := congrArg Int.natAbs h3
   rwa [Int.natAbs_mul,Int.natAbs_mul,Int.natAbs_natCast] at this
  obtain ⟨c,hc⟩ := den_dvd (x := x) (m := m) (hall x hx)
  have h5 : n.natAbs=x.num.natAbs*c := by
   rw [hc] at h4
   refine Nat.eq_of_mul_eq_mul_right x.den_pos ?_
   rw [← h4]
   rw [Nat.mul_assoc,Nat.mul_comm c]
  show x.num.natAbs / gN qs*(lD qs / x.den)≤n.natAbs
  rw [h5]
  refine Nat.mul_le_mul (Nat.div_le_self _ _) ?_
  have : lD qs / x.den≤m.natAbs / x.den := Nat.div_le_div_right hle
  rw [hc,Nat.mul_div_cancel_left _ x.den_pos] at this
  exact this
 refine ⟨⟨Nat.lt_of_le_of_lt hn hz.qs.num,?_⟩,hd⟩
 rw [hd]
 have := hz.qs.den
 rw [hz.wh] at this
 exact this
theorem leftA_mem {y : Atm} : ∀ {D U : List Atm},y ∈ leftA U D→y ∈ D
 | [],_,h => by cases h
 | x :: D,U,h => by
  unfold leftA at h
  split at h
  ·exact List.mem_cons_of_mem _ (leftA_mem h)
  ·rcases List.mem_cons.1 h with rfl | h
   ·exact List.mem_cons_self
   ·exact List.mem_cons_of_mem _ (leftA_mem h)
theorem uniA_low {q : Nat→Rat} (hM : BelA E dn M q k) : ∀ {l : List Nat} {U : List Atm},(∀ c ∈ l,c < k)→(∀ x ∈ U,x.1=1→x.2 < k)→∀ x ∈ uniA E l U,x.1=1→x.2 < k
 | [],_,_,hU => hU
 | a :: l,U,hl,hU => by
  unfold uniA
  refine uniA_low hM (fun c hc => hl c (List.mem_cons_of_mem _ hc)) ?_
  have ha := hl a List.mem_cons_self
  obtain ⟨p,h1,_,_,h4,_⟩ := hM a ha
  rw [h1]
  intro x hx h
  rcases List.mem_append.1 hx with hx | hx
  ·exact hU x hx h
  ·exact Nat.lt_trans (h4 x (leftA_mem hx) h) ha
theorem node_ok {q : Nat→Rat} {σ : Nat→ByteArray} (hσ : ∀ j,(σ j).size≤1048576) (hdn : ∀ j,dn j=(Cx.rd (σ j).data.toList).den) (hM : BelA E dn M q k) {z : Nat} {D : List Atm} {nd : Nd} (hwf : wfN k nd=true) (hs : saN E k z D nd=true) : QW z (valN σ q nd*proA dn M D)∧0 < z∧∀ x ∈ D,x.1=1→x.2 < k := by
 have hdn' : ∀ j,0 < dn j∧dn j < 2 ^ inB := fun j => by
  rw [hdn j]
  refine ⟨Rat.den_pos _,Nat.lt_of_lt_of_le (QS.rd3 _).den (Nat.pow_le_pow_right (by decide) ?_)⟩
  have := hσ j
  rw [str_len]
  unfold inB
  omega
 obtain ⟨op,xs⟩ := nd
 unfold saN at hs
 rw [Bool.and_eq_true,Bool.and_eq_true] at hs
 obtain ⟨⟨hz0,hD⟩,hs⟩ := hs
 have hz : 0 < z := by simpa [Nat.blt_eq] using hz0
 have hD' : ∀ x ∈ D,x.1=1→x.2 < k := fun x hx h1 => by
  rw [List.all_eq_true] at hD
  have := hD x hx
  rw [h1] at this
  simpa [Nat.blt_eq] using this
 refine ⟨?_,hz,hD'⟩
 have hlow : ∀ {a : Nat} {p : Nat × List Atm},a < k→E[a]? = some p→QW p.1 (M a)∧(∀ x ∈ p.2,x.1=1→x.2 < k)∧q a*proA dn M p.2=M a := fun {a p} ha hp => by
  obtain ⟨p',h1,h2,_,h4,h5⟩ := hM a ha
  rw [hp] at h1
  cases h1
  exact ⟨h2,fun x hx h => Nat.lt_trans (h4 x hx h) ha,h5⟩
 have hpr : ∀ {l : List Atm},(∀ x ∈ l,x.1=1→x.2 < k)→QW (bitL E l) (proA dn M l)∧proA dn M l ≠ 0 := fun h => proA_ok hdn' hM h
 unfold wfN at hwf
 unfold valN
 dsimp only at hs hwf ⊢
 split at hs
 ·rename_i s n d
  simp only [Bool.and_eq_true] at hs
  obtain ⟨⟨h1,h2⟩,h3⟩ := hs
  have h1' : n < 2 ^ z := by simpa [Nat.blt_eq] using h1
  have h2' : d ≠ 0 := by
   have : 0 < d := by simpa [Nat.blt_eq] using h2
   omega
  have hp : proA dn M D=((d : Nat) : Rat) := by
   have := subA_pro (dn := dn) (M := M) (noneA_some h3)
   rw [this]
   cases e : Nat.beq d 1 with
   | true =>
    rw [Nat.beq_eq] at e
    rw [e]
    show (1 : Rat)*1=((1 : Nat) : Rat)
    rw [Rat.mul_one]
    exact_mod_cast rfl
   | false =>
    show (if d=0 then (1 : Rat) else ((d : Nat) : Rat))*1*1=_
    rw [if_neg h2',Rat.mul_one,Rat.mul_one]
  show QW z ((if s=0 then mkRat (n : Int) d else mkRat (-(n : Int)) d)*proA dn M D)
  rw [hp]
  have key : ∀ m : Int,m.natAbs < 2 ^ z→QW z (mkRat m d*((d : Nat) : Rat)) := fun m hm => by
   rw [Rat.mkRat_eq_div,Rat.div_mul_cancel (nat_ne h2')]
   exact QW.of hm hz
  by_cases hs0 : s=0
  ·rw [if_pos hs0]
   exact key _ (by simpa using h1')
  ·rw [if_neg hs0]
   exact key _ (by simpa using h1')
 ·rename_i j
  simp only [Bool.and_eq_true,Nat.ble_eq] at hs
  have hp : proA dn M D=(((Cx.rd (σ j).data.toList).den : Nat) : Rat) := by
   rw [subA_pro (dn := dn) (M := M) (noneA_some hs.2)]
   show ((dn j : Nat) : Rat)*1*1=_
   rw [Rat.mul_one,Rat.mul_one,hdn j]
  show QW z (Cx.rd (σ j).data.toList*proA dn M D)
  rw [hp,mul_low]
  refine QW.of (Nat.lt_of_lt_of_le (QS.rd3 _).num (Nat.pow_le_pow_right (by decide) ?_)) hz
  have := hσ j
  have := hs.1
  unfold inB at this
  rw [str_len]
  omega
 ·simp only [List.all_cons,List.all_nil,Bool.and_true,Bool.and_eq_true] at hwf
  rename_i a b
  have l1 : a < k := by simpa [Nat.blt_eq] using hwf.1
  have l2 : b < k := by simpa [Nat.blt_eq] using hwf.2
  split at hs
  ·rename_i p r hp hr
   split at hs
   ·rename_i c e hc he
    rw [Nat.ble_eq] at hs
    obtain ⟨a1,a2,a3⟩ := hlow l1 hp
    obtain ⟨b1,b2,b3⟩ := hlow l2 hr
    have hc' := hpr (l := c) fun x hx => hD' x (subA_mem hc hx)
    have he' := hpr (l := e) fun x hx => hD' x (subA_mem he hx)
    have e1 : (q a+q b)*proA dn M D=M a*proA dn M c+M b*proA dn M e := by
     rw [Rat.add_mul]
     congr 1
     ·rw [subA_pro hc,← Rat.mul_assoc,a3]
     ·rw [subA_pro he,← Rat.mul_assoc,b3]
    show QW z ((q a+q b)*proA dn M D)
    rw [e1]
    exact ((a1.mul hc'.1).add (b1.mul he'.1)).mono hs
   ·cases hs
  ·cases hs
 ·simp only [List.all_cons,List.all_nil,Bool.and_true,Bool.and_eq_true] at hwf
  rename_i a b
  have l1 : a < k := by simpa [Nat.blt_eq] using hwf.1
  have l2 : b < k := by simpa [Nat.blt_eq] using hwf.2
  split at hs
  ·rename_i p r hp hr
   split at hs
   ·rename_i c e hc he
    rw [Nat.ble_eq] at hs
    obtain ⟨a1,a2,a3⟩ := hlow l1 hp
    obtain ⟨b1,b2,b3⟩ := hlow l2 hr
    have hc' := hpr (l := c) fun x hx => hD' x (subA_mem hc hx)
    have he' := hpr (l := e) fun x hx => hD' x (subA_mem he hx)
    have e1 : (q a - q b)*proA dn M D=M a*proA dn M c - M b*proA dn M e := by
     rw [show (q a - q b)*proA dn M D=q a*proA dn M D - q b*proA dn M D by grind]
     congr 1
     ·rw [subA_pro hc,← Rat.mul_assoc,a3]
     ·rw [subA_pro he,← Rat.mul_assoc,b3]
    show QW z ((q a - q b)*proA dn M D)
    rw [e1]
    exact ((a1.mul hc'.1).sub (b1.mul he'.1)).mono hs
   ·cases hs
  ·cases hs
 ·simp only [List.all_cons,List.all_nil,Bool.and_true,Bool.and_eq_true] at hwf
  rename_i a b
  have l1 : a < k := by simpa [Nat.blt_eq] using hwf.1
  have l2 : b < k := by simpa [Nat.blt_eq] using hwf.2
  split at hs
  ·rename_i p r hp hr
   split at hs
   ·rename_i c hc
    rw [Bool.and_eq_true,Nat.ble_eq] at hs
    obtain ⟨a1,a2,a3⟩ := hlow l1 hp
    obtain ⟨b1,b2,b3⟩ := hlow l2 hr
    have e1 : q a*q b*proA dn M D=M a*M b := by
     rw [subA_pro hc,subA_pro (noneA_some hs.1),← a3,← b3]
     show q a*q b*(proA dn M p.2*(proA dn M r.2*1))=_
     grind
    show QW z (q a*q b*proA dn M D)
    rw [e1]
    exact (a1.mul b1).mono hs.2
   ·cases hs
  ·cases hs
 ·simp only [List.all_cons,List.all_nil,Bool.and_true] at hwf
  rename_i a
  have l1 : a < k := by simpa [Nat.blt_eq] using hwf
  split at hs
  ·rename_i p hp
   rw [Bool.and_eq_true,Nat.ble_eq] at hs
   obtain ⟨a1,a2,a3⟩ := hlow l1 hp
   have e1 : -q a*proA dn M D=-M a := by
    rw [subA_pro (noneA_some hs.1),← a3]
    show -q a*(proA dn M p.2*1)=_
    grind
   show QW z (-q a*proA dn M D)
   rw [e1]
   exact a1.neg.mono hs.2
  ·cases hs
 ·simp only [List.all_cons,List.all_nil,Bool.and_true,Bool.and_eq_true] at hwf
  rename_i a b
  have l1 : a < k := by simpa [Nat.blt_eq] using hwf.1
  have l2 : b < k := by simpa [Nat.blt_eq] using hwf.2
  split at hs
  ·rename_i p r D' hp hr hD1
   split at hs
   ·rename_i c hc
    split at hs
    ·rename_i e he
     rw [Nat.ble_eq] at hs
     obtain ⟨a1,a2,a3⟩ := hlow l1 hp
     obtain ⟨b1,b2,b3⟩ := hlow l2 hr
     have he' := hpr (l := e) fun x hx => b2 x (subA_mem he hx)
     by_cases h0 : M b=0
     ·have hb : q b=0 := by
       rw [h0] at b3
       exact (Rat.mul_eq_zero.1 b3).resolve_right (hpr b2).2
      show QW z (q a / q b*proA dn M D)
      rw [hb,Rat.div_def,Rat.inv_zero,Rat.mul_zero,Rat.zero_mul]
      exact QW.zero hz
     ·have hb : q b ≠ 0 := fun h => h0 (by rw [← b3,h,Rat.zero_mul])
      have e1 : q a / q b*proA dn M D=M a*proA dn M e := by
       have e2 : proA dn M D=M b*proA dn M D' := by
        rw [remA_pro hD1]
        show (if M b=0 then (1 : Rat) else M b)*_=_
        rw [if_neg h0]
       have e3 : q a / q b*q b=q a := Rat.div_mul_cancel hb
       rw [e2,← a3,← b3,subA_pro hc,subA_pro he]
       generalize q a / q b=t at e3
       rw [← e3]
       grind
      show QW z (q a / q b*proA dn M D)
      rw [e1]
      exact (a1.mul he'.1).mono hs
    ·cases hs
   ·cases hs
  ·cases hs
 ·have hD0 : D=[] := by
   rw [Nat.beq_eq] at hs
   exact List.length_eq_zero_iff.1 hs
  rw [hD0]
  have hv : valN σ q (7,xs)=0 ∨ valN σ q (7,xs)=1 := by
   unfold valN
   dsimp only
   split
   all_goals first | (split; exact Or.inl rfl; exact Or.inr rfl) | exact Or.inl rfl | (rename_i h; cases h)
  show QW z (valN σ q (7,xs)*1)
  rw [Rat.mul_one]
  rcases hv with h | h
  ·rw [h]
   exact QW.zero hz
  ·rw [h]
   exact QW.one hz
 ·rename_i i ys
  rw [Bool.and_eq_true,Bool.and_eq_true,List.all_eq_true] at hs
  obtain ⟨h1,h2,h3⟩ := hs
  have hD0 : D=[] := by
   rw [Nat.beq_eq] at h1
   exact List.length_eq_zero_iff.1 h1
  have hwf' : ys.all (Nat.blt · k)=true := hwf
  rw [List.all_eq_true] at hwf'
  have hlt : ∀ c ∈ ys,c < k := fun c hc => by simpa [Nat.blt_eq] using hwf' c hc
  split at h3
  ·rename_i a ha
   split at h3
   ·rename_i p hp
    split at h3
    ·rename_i e he
     rw [Nat.ble_eq] at h3
     obtain ⟨hi,ha'⟩ := List.getElem?_eq_some_iff.1 ha
     have hmem : a ∈ ys := List.mem_of_getElem? ha
     have hg : (ys.map q).getD i 0=q a := by
      rw [List.getD_eq_getElem?_getD,List.getElem?_map,ha]
      rfl
     show QW z ((ys.map q).getD i 0*fac (ys.map q)*proA dn M D)
     rw [hg,hD0]
     show QW z (q a*fac (ys.map q)*1)
     rw [Rat.mul_one]
     -- what makes all of them whole
     have hU : ∀ x ∈ uniA E ys [],x.1=1→x.2 < k := uniA_low hM hlt (fun x hx => by cases hx)
     have hUp := hpr hU
     have hw := whole hUp.1.wh
     generalize hm : (proA dn M (uniA E ys [])).num=m at hw
     have hm0 : m ≠ 0 := fun h => hUp.2 (by rw [hw,h]; rfl)
     have hall : ∀ y ∈ ys.map q,(y*((m : Int) : Rat)).den=1 := fun y hy => by
      obtain ⟨c,hc,rfl⟩ := List.mem_map.1 hy
      have h4 := h2 c hc
      split at h4
      ·rename_i r hr
       obtain ⟨c1,c2,c3⟩ := hlow (hlt c hc) hr
       cases hs2 : subA (uniA E ys []) r.2 with
       | none => rw [hs2] at h4; cases h4
       | some f =>
        have hf := hpr (l := f) fun x hx => hU x (subA_mem hs2 hx)
        rw [← hw,subA_pro hs2,← Rat.mul_assoc,c3]
        exact (c1.mul hf.1).wh
      ·cases h4
     obtain ⟨a1,a2,a3⟩ := hlow (hlt a hmem) hp
     have he' := hpr (l := e) fun x hx => hU x (subA_mem he hx)
     refine fac_whole (List.mem_map_of_mem hmem) hm0 hall ?_
     rw [← hw,subA_pro he,← Rat.mul_assoc,a3]
     exact (a1.mul he'.1).mono h3
    ·cases h3
   ·cases h3
  ·cases h3
 ·cases hs
end
theorem QS_over {x m p : Rat} {z y K : Nat} (hm : QW z m) (hp : QW y p) (h0 : p ≠ 0) (e : x*p=m) (hz : z≤K) (hy : y≤K) : QS K x := by
 have hw := whole hp.wh
 generalize p.num=P at hw
 have hP : P ≠ 0 := fun h => h0 (by rw [hw,h]; rfl)
 have hpos : 0 < P.natAbs := Int.natAbs_pos.2 hP
 have hd : x.den ∣ P.natAbs := den_dvd (x := x) (m := P) (by rw [← hw,e]; exact hm.wh)
 have hdle : x.den≤P.natAbs := Nat.le_of_dvd hpos hd
 have hPlt : P.natAbs < 2 ^ y := by
  have := hp.qs.num
  rw [hw,Rat.num_intCast] at this
  exact this
 have hmw := whole hm.wh
 have hmlt := hm.qs.num
 generalize m.num=n at hmw hmlt
 have h1 : x*((x.den : Nat) : Rat)=((x.num : Int) : Rat) := mul_low x
 have h2 : ((x.num : Int) : Rat)*((P : Int) : Rat)=((n : Int) : Rat)*(((x.den : Nat) : Int) : Rat) := by
  rw [← h1,← hw,← hmw,← e,Rat.intCast_natCast]
  grind
 have h3 : x.num*P=n*(x.den : Int) := by exact_mod_cast h2
 have h4 : x.num.natAbs*P.natAbs=n.natAbs*x.den := by
  have := congrArg Int.natAbs h3
  rwa [Int.natAbs_mul,Int.natAbs_mul,Int.natAbs_natCast] at this
 have h5 : x.num.natAbs≤n.natAbs := by
  refine Nat.le_of_mul_le_mul_right (c := P.natAbs) ?_ hpos
  rw [h4]
  exact Nat.mul_le_mul_left _ hdle
 exact ⟨Nat.lt_of_lt_of_le (Nat.lt_of_le_of_lt h5 hmlt) (Nat.pow_le_pow_right (by decide) hz),Nat.lt_of_lt_of_le (Nat.lt_of_le_of_lt hdle hPlt) (Nat.pow_le_pow_right (by decide) hy)⟩
section
variable {N : List Nd} {Z : List Nat} {E : List (Nat × List Atm)} {q : Nat→Rat}
theorem sizes_okA {σ : Nat→ByteArray} (hσ : ∀ j,(σ j).size≤1048576) (hw : wfB 0 N=true) (hz : saB E 0 N E Z=true) (hq : ∀ (a : Nat) nd,N[a]? = some nd→q a=valN σ q nd) (h0 : ∀ a,N.length≤a→q a=0) : (∀ (a : Nat) z,Z[a]? = some z→QS z (q a))∧∀ a,QS 1000000000000 (q a) := by
 have hl := saB_len hz
 have key : ∀ k,k≤N.length→∃ M,BelA E (fun j => (Cx.rd (σ j).data.toList).den) M q k := by
  intro k
  induction k with
  | zero => exact fun _ => ⟨fun _ => 0,fun a ha => by omega⟩
  | succ k ih =>
   intro hk
   obtain ⟨M,hM⟩ := ih (by omega)
   have hn : N[k]? = some N[k] := List.getElem?_eq_getElem (by omega)
   obtain ⟨p,z,h1,_,h3,_⟩ := saB_get hz hn
   rw [Nat.zero_add] at h3
   have hwf := wfB_get hw hn
   rw [Nat.zero_add] at hwf
   obtain ⟨g1,g2,g3⟩ := node_ok hσ (fun _ => rfl) hM hwf h3
   rw [← hq k _ hn] at g1
   refine ⟨fun x => if x=k then q k*proA (fun j => (Cx.rd (σ j).data.toList).den) M p.2 else M x,fun a ha => ?_⟩
   have same : ∀ {l : List Atm},(∀ x ∈ l,x.1=1→x.2 < k)→proA (fun j => (Cx.rd (σ j).data.toList).den) (fun x => if x=k then q k*proA (fun j => (Cx.rd (σ j).data.toList).den) M p.2 else M x) l=proA (fun j => (Cx.rd (σ j).data.toList).den) M l := fun hl => (proA_congr fun x hx h => by
    have := hl x hx h
    rw [if_neg (by omega)]).symm
   by_cases e : a=k
   ·subst e
    refine ⟨p,h1,?_,g2,g3,?_⟩
    ·show QW p.1 (if a=a then _ else _)
     rw [if_pos rfl]
     exact g1
    ·rw [same g3]
     show _=(if a=a then _ else _)
     rw [if_pos rfl]
   ·obtain ⟨p',f1,f2,f3,f4,f5⟩ := hM a (by omega)
    refine ⟨p',f1,?_,f3,f4,?_⟩
    ·show QW p'.1 (if a=k then _ else M a)
     rw [if_neg e]
     exact f2
    ·rw [same fun x hx h => by have := f4 x hx h; omega]
     show _=(if a=k then _ else M a)
     rw [if_neg e]
     exact f5
 obtain ⟨M,hM⟩ := key N.length (Nat.le_refl _)
 have hdn : ∀ j,0 < (Cx.rd (σ j).data.toList).den∧(Cx.rd (σ j).data.toList).den < 2 ^ inB := fun j => by
  refine ⟨Rat.den_pos _,Nat.lt_of_lt_of_le (QS.rd3 _).den (Nat.pow_le_pow_right (by decide) ?_)⟩
  have := hσ j
  rw [str_len]
  unfold inB
  omega
 have h2 : ∀ (a : Nat) z,Z[a]? = some z→QS z (q a)∧z≤1000000000000 := by
  intro a z ha
  have hlt : a < N.length := by
   have := (List.getElem?_eq_some_iff.1 ha).1
   omega
  have hn : N[a]? = some N[a] := List.getElem?_eq_getElem hlt
  obtain ⟨p,z',h1,h2,_,h4,h5,h6⟩ := saB_get hz hn
  rw [ha] at h2
  cases h2
  obtain ⟨p',f1,f2,f3,f4,f5⟩ := hM a hlt
  rw [h1] at f1
  cases f1
  have hp := proA_ok hdn hM (l := p.2) fun x hx h => Nat.lt_trans (f4 x hx h) hlt
  exact ⟨QS_over f2 hp.1 hp.2 f5 h4 h5,h6⟩
 refine ⟨fun a z h => (h2 a z h).1,fun a => ?_⟩
 by_cases ha : a < Z.length
 ·have := h2 a _ (List.getElem?_eq_getElem ha)
  exact this.1.mono this.2
 ·rw [h0 a (by omega)]
  exact QS.zero.mono (by decide)
theorem hy_ofA {L C : List (List Nat × Nat)} {σ : Nat→ByteArray} {H : List (Nat × Nat × Nat × Nat)} (hσ : ∀ j,(σ j).size≤1048576) (hw : wfB 0 N=true) (hz : saB E 0 N E Z=true) (hl : litB N L=true) (hcn : canB N C=true) (hq : ∀ (a : Nat) nd,N[a]? = some nd→q a=valN σ q nd) (h0 : ∀ a,N.length≤a→q a=0) (hH : hAll q H) : Hy N H L C Z q σ where
 nat := hq
 qs := (sizes_okA hσ hw hz hq h0).2
 zs := (sizes_okA hσ hw hz hq h0).1
 par := hσ
 lit := fun s b h => lit_rd hl hq h
 k0 := fun a r h => kn_at hH h
 k1 := fun a r h => kn_at hH h
 k2 := fun a r h => kn_at hH h
 k3 := fun a b r h => kn_at hH h
 k4 := fun l a b r h1 h2 => by
  have h3 : Nat.beq 1 r=true ↔ q a=q b := kn_at hH h2
  rw [h3,← can_tx hcn hq h1]
  exact ⟨fun e => by rw [e],fun e => tellS_inj (bytesN_inj e)⟩
 k6 := fun a b r h => kn_at hH h
 k5 := fun a r h => kn_at hH h
end
end Go.Proofs.YtnjaoobohkmjkaaGreatDoor
/- CFspaced -/
namespace Go.Proofs.YtnjaoobohkmjkaaGreatDoor
open Go.RowKit Cx
theorem closed_spaced : Closed 9 :=
 closed_told (N := [(0,[0,1,1]),(0,[0,0,1]),(3,[1,0]),(3,[0,1]),(3,[1,1]),(4,[3,3]),(4,[4,4]),(3,[5,6]),(4,[4,2]),(4,[2,3]),(3,[8,9]),(4,[2,4]),(4,[3,2]),(3,[11,12]),(4,[7,0]),(2,[1,14]),(4,[10,1]),(2,[15,16]),(4,[13,1]),(2,[17,18]),(5,[19]),(8,[0,7,10,13,20]),(8,[1,7,10,13,20]),(8,[2,7,10,13,20]),(8,[3,7,10,13,20]),(2,[1,0]),(2,[1,1]),(0,[0,2,1]),(6,[25,27]),(6,[26,27]),(4,[3,28]),(2,[1,30]),(4,[4,29]),(2,[31,32]),(2,[33,32]),(5,[34]),(8,[0,3,4,4,35]),(8,[1,3,4,4,35]),(8,[2,3,4,4,35]),(8,[3,3,4,4,35]),(2,[1,32]),(2,[40,30]),(2,[41,32]),(5,[42]),(8,[0,4,3,4,43]),(8,[1,4,3,4,43]),(8,[2,4,3,4,43]),(8,[3,4,3,4,43]),(2,[40,32]),(2,[48,30]),(5,[49]),(8,[0,4,4,3,50]),(8,[1,4,4,3,50]),(8,[2,4,4,3,50]),(8,[3,4,4,3,50]),(4,[45,53]),(4,[46,52]),(3,[55,56]),(4,[46,51]),(4,[44,53]),(3,[58,59]),(4,[44,52]),(4,[45,51]),(3,[61,62]),(4,[36,57]),(2,[1,64]),(4,[37,60]),(2,[65,66]),(4,[38,63]),(2,[67,68]),(4,[52,38]),(4,[53,37]),(3,[70,71]),(4,[53,36]),(4,[51,38]),(3,[73,74]),(4,[51,37]),(4,[52,36]),(3,[76,77]),(4,[37,46]),(4,[38,45]),(3,[79,80]),(4,[38,44]),(4,[36,46]),(3,[82,83]),(4,[36,45]),(4,[37,44]),(3,[85,86]),(4,[57,39]),(2,[1,88]),(4,[72,47]),(2,[89,90]),(4,[81,54]),(2,[91,92]),(4,[60,39]),(2,[1,94]),(4,[75,47]),(2,[95,96]),(4,[84,54]),(2,[97,98]),(4,[63,39]),(2,[1,100]),(4,[78,47]),(2,[101,102]),(4,[87,54]),(2,[103,104]),(5,[69]),(6,[93,106]),(6,[99,106]),(6,[105,106]),(3,[1,107]),(3,[1,108]),(3,[1,109]),(4,[110,110]),(2,[1,113]),(4,[111,111]),(2,[114,115]),(4,[112,112]),(2,[116,117]),(0,[1,1,1]),(0,[0,1,2]),(0,[0,3,4]),(4,[4,3]),(3,[6,122]),(4,[3,4]),(3,[6,124]),(4,[3,7]),(2,[1,126]),(4,[4,123]),(2,[127,128]),(4,[4,125]),(2,[129,130]),(4,[2,2]),(2,[1,132]),(2,[133,5]),(2,[134,6])]) (H := [(0,7,0,0),(0,3,0,0),(0,4,0,1),(0,69,0,0),(4,21,0,1),(4,22,0,1),(4,23,0,1),(4,24,119,1),(4,107,120,1),(4,108,120,1),(4,109,120,1),(4,118,121,1),(4,131,0,1),(4,135,27,1)]) (K := []) (L := [([49],0),([48],1),([45,49],119),([49,47,50],120),([51,47,52],121),([50],27)]) (C := [([49],0),([45,49],119),([49,47,50],120),([51,47,52],121),([50],27)]) (Z := [2,2,5,5,5,10,10,21,10,10,21,10,10,21,23,26,23,50,23,74,74,371,371,371,371,5,5,3,8,8,13,16,13,30,44,44,221,221,221,221,16,30,44,44,221,221,221,221,30,44,44,221,221,221,221,442,442,885,442,442,885,442,442,885,1106,1109,1106,2216,1106,3323,442,442,885,442,442,885,442,442,885,442,442,885,442,442,885,442,442,885,1106,1109,1106,2216,1106,3323,1106,1109,1106,2216,1106,3323,1106,1109,1106,2216,1106,3323,3323,6646,6646,6646,6649,6649,6649,13298,13301,13298,26600,13298,39899,2,3,4,10,21,10,21,26,29,26,56,26,83,10,13,24,35]) (cl := []) 8 (fun _ h => by cases h) (by kernel_rfl) (by kernel_rfl) (by kernel_rfl) (by kernel_rfl) (by kernel_rfl) (by kernel_rfl) (by kernel_rfl)
end Go.Proofs.YtnjaoobohkmjkaaGreatDoor
/- MES -/
namespace Go.Proofs.YtnjaoobohkmjkaaGreatDoor
open Go.RowKit Cx
def eS_N : List Nd := [(1,[0]),(1,[1]),(1,[2]),(1,[3]),(4,[0,0]),(4,[1,1]),(2,[4,5]),(4,[2,2]),(2,[6,7]),(1,[4]),(1,[5]),(1,[6]),(1,[7]),(1,[8]),(1,[9]),(2,[9,12]),(2,[10,13]),(2,[11,14]),(0,[0,2,1]),(6,[15,18]),(6,[16,18]),(6,[17,18]),(3,[12,9]),(3,[13,10]),(3,[14,11]),(4,[22,22]),(4,[23,23]),(2,[25,26]),(4,[24,24]),(2,[27,28]),(3,[9,12]),(3,[10,13]),(3,[11,14]),(4,[30,30]),(4,[31,31]),(2,[33,34]),(4,[32,32]),(2,[35,36]),(4,[22,19]),(0,[0,0,1]),(2,[39,38]),(4,[23,20]),(2,[40,41]),(4,[24,21]),(2,[42,43]),(5,[44]),(8,[0,22,23,24,45]),(8,[1,22,23,24,45]),(8,[2,22,23,24,45]),(8,[3,22,23,24,45]),(0,[0,1,2]),(4,[50,22]),(2,[9,51]),(4,[50,23]),(2,[10,53]),(4,[50,24]),(2,[11,55]),(4,[45,45]),(2,[29,57]),(4,[46,46]),(4,[47,47]),(2,[59,60]),(4,[48,48]),(2,[61,62]),(4,[46,52]),(4,[47,54]),(4,[48,56]),(2,[64,65]),(2,[67,66]),(2,[68,49]),(4,[47,24]),(4,[48,23]),(3,[70,71]),(4,[48,22]),(4,[46,24]),(3,[73,74]),(4,[46,23]),(4,[47,22]),(3,[76,77]),(4,[72,72]),(4,[75,75]),(2,[79,80]),(4,[78,78]),(2,[81,82]),(8,[0,0,1,2,3]),(8,[1,0,1,2,3]),(8,[2,0,1,2,3]),(8,[3,0,1,2,3]),(4,[84,9]),(2,[39,88]),(4,[85,10]),(2,[89,90]),(4,[86,11]),(2,[91,92]),(2,[93,87]),(4,[0,9]),(4,[1,10]),(4,[2,11]),(2,[95,96]),(2,[98,97]),(2,[99,3]),(4,[100,2]),(4,[100,1]),(4,[100,0])]
def eS_L : List (List Nat × Nat) := []
def eS_C : List (List Nat × Nat) := []
def eS_Z : List Nat := [3495260,3495260,3495260,3495260,6990519,6990519,13981038,6990519,20971558,3495260,3495260,3495260,3495260,3495260,3495260,6990520,6990520,6990520,2,6990521,6990521,6990521,6990520,6990520,6990520,13981040,13981040,27962078,13981040,41943116,6990520,6990520,6990520,13981040,13981040,27962078,13981040,41943116,13981041,1,13981043,13981041,27962081,13981041,41943119,41943119,41943113,41943113,41943113,41943120,3,6990521,6990523,6990521,6990523,6990521,6990523,83886238,83886240,83886226,83886226,83886228,83886226,83886230,48933636,48933636,48933636,55924156,62914676,62914678,48933633,48933633,55924153,48933633,48933633,55924153,48933633,48933633,55924153,111848306,111848306,125829344,111848306,125829346,13981037,13981037,13981037,13981037,17476296,17476298,17476296,20971559,17476296,24466820,24466822,6990519,6990519,6990519,13981038,20971558,24466819,27962078,27962078,27962078]
def eS_D0 : List Atm := [(0,4),(0,7)]
def eS_D1 : List Atm := [(0,5),(0,8)]
def eS_D2 : List Atm := [(0,6),(0,9)]
def eS_D3 : List Atm := [(0,4),(0,4),(0,7),(0,7)]
def eS_D4 : List Atm := [(0,5),(0,5),(0,8),(0,8)]
def eS_D5 : List Atm := [(0,4),(0,4),(0,5),(0,5),(0,7),(0,7),(0,8),(0,8)]
def eS_D6 : List Atm := [(0,6),(0,6),(0,9),(0,9)]
def eS_D7 : List Atm := [(0,4),(0,4),(0,5),(0,5),(0,6),(0,6),(0,7),(0,7),(0,8),(0,8),(0,9),(0,9)]
def eS_D8 : List Atm := [(0,4),(0,4),(0,7),(0,7),(1,18)]
def eS_D9 : List Atm := [(0,4),(0,4),(0,5),(0,5),(0,6),(0,6),(0,7),(0,7),(0,8),(0,8),(0,9),(0,9),(1,18)]
def eS_D10 : List Atm := [(0,4),(0,7),(2,2)]
def eS_D11 : List Atm := [(0,5),(0,8),(2,2)]
def eS_D12 : List Atm := [(0,6),(0,9),(2,2)]
def eS_D13 : List Atm := [(0,4),(0,4),(0,4),(0,4),(0,5),(0,5),(0,5),(0,5),(0,6),(0,6),(0,6),(0,6),(0,7),(0,7),(0,7),(0,7),(0,8),(0,8),(0,8),(0,8),(0,9),(0,9),(0,9),(0,9),(1,18),(1,18)]
def eS_D14 : List Atm := [(0,4),(0,5),(0,6),(0,7),(0,8),(0,9),(2,2)]
def eS_D15 : List Atm := [(0,4),(0,5),(0,6)]
def eS_E : List (Nat × List Atm) := [(3495259,[(0,0)]),(3495259,[(0,1)]),(3495259,[(0,2)]),(3495259,[(0,3)]),(6990518,[(0,0),(0,0)]),(6990518,[(0,1),(0,1)]),(13981038,[(0,0),(0,0),(0,1),(0,1)]),(6990518,[(0,2),(0,2)]),(20971558,[(0,0),(0,0),(0,1),(0,1),(0,2),(0,2)]),(3495259,[(0,4)]),(3495259,[(0,5)]),(3495259,[(0,6)]),(3495259,[(0,7)]),(3495259,[(0,8)]),(3495259,[(0,9)]),(6990520,eS_D0),(6990520,eS_D1),(6990520,eS_D2),(2,[]),(6990521,[(0,4),(0,7),(1,18)]),(6990521,[(0,5),(0,8),(1,18)]),(6990521,[(0,6),(0,9),(1,18)]),(6990520,eS_D0),(6990520,eS_D1),(6990520,eS_D2),(13981040,eS_D3),(13981040,eS_D4),(27962078,eS_D5),(13981040,eS_D6),(41943116,eS_D7),(6990520,eS_D0),(6990520,eS_D1),(6990520,eS_D2),(13981040,eS_D3),(13981040,eS_D4),(27962078,eS_D5),(13981040,eS_D6),(41943116,eS_D7),(13981041,eS_D8),(1,[]),(13981043,eS_D8),(13981041,[(0,5),(0,5),(0,8),(0,8),(1,18)]),(27962081,[(0,4),(0,4),(0,5),(0,5),(0,7),(0,7),(0,8),(0,8),(1,18)]),(13981041,[(0,6),(0,6),(0,9),(0,9),(1,18)]),(41943119,eS_D9),(41943119,eS_D9),(41943113,[]),(41943113,[]),(41943113,[]),(41943120,[]),(1,[(2,2)]),(6990521,eS_D10),(6990523,eS_D10),(6990521,eS_D11),(6990523,eS_D11),(6990521,eS_D12),(6990523,eS_D12),(83886238,eS_D13),(83886240,eS_D13),(83886226,[]),(83886226,[]),(83886228,[]),(83886226,[]),(83886230,[]),(48933636,eS_D10),(48933636,eS_D11),(48933636,eS_D12),(55924156,[(0,4),(0,5),(0,7),(0,8),(2,2)]),(62914676,eS_D14),(62914678,eS_D14),(48933633,eS_D2),(48933633,eS_D1),(55924153,[(0,5),(0,6),(0,8),(0,9)]),(48933633,eS_D0),(48933633,eS_D2),(55924153,[(0,4),(0,6),(0,7),(0,9)]),(48933633,eS_D1),(48933633,eS_D0),(55924153,[(0,4),(0,5),(0,7),(0,8)]),(111848306,[(0,5),(0,5),(0,6),(0,6),(0,8),(0,8),(0,9),(0,9)]),(111848306,[(0,4),(0,4),(0,6),(0,6),(0,7),(0,7),(0,9),(0,9)]),(125829344,eS_D7),(111848306,eS_D5),(125829346,eS_D7),(13981037,[]),(13981037,[]),(13981037,[]),(13981037,[]),(17476296,[(0,4)]),(17476298,[(0,4)]),(17476296,[(0,5)]),(20971559,[(0,4),(0,5)]),(17476296,[(0,6)]),(24466820,eS_D15),(24466822,eS_D15),(6990518,[(0,0),(0,4)]),(6990518,[(0,1),(0,5)]),(6990518,[(0,2),(0,6)]),(13981038,[(0,0),(0,1),(0,4),(0,5)]),(20971558,[(0,0),(0,1),(0,2),(0,4),(0,5),(0,6)]),(24466819,[(0,0),(0,1),(0,2),(0,3),(0,4),(0,5),(0,6)]),(27962078,[(0,0),(0,1),(0,2),(0,2),(0,3),(0,4),(0,5),(0,6)]),(27962078,[(0,0),(0,1),(0,1),(0,2),(0,3),(0,4),(0,5),(0,6)]),(27962078,[(0,0),(0,0),(0,1),(0,2),(0,3),(0,4),(0,5),(0,6)])]
theorem eS_wf : wfB 0 eS_N=true := by kernel_rfl
theorem eS_sz : saB eS_E 0 eS_N eS_E eS_Z=true := by kernel_rfl
theorem eS_lt : litB eS_N eS_L=true := by kernel_rfl
theorem eS_cn : canB eS_N eS_C=true := by kernel_rfl
theorem eS_c18 : cst 0 2 1=(2 : Rat) := by decide +kernel
theorem eS_c39 : cst 0 0 1=(0 : Rat) := by decide +kernel
theorem eS_c50 : cst 0 1 2=((1 / 2) : Rat) := by decide +kernel
def eS_A : List AV := [(false,[(true,[.inr (2,0,0,0,0),.inr (2,1,0,0,0),.inr (2,2,0,0,0),.inr (2,3,0,0,0)])]),(false,[(true,[.inr (2,4,0,0,0),.inr (2,5,0,0,0),.inr (2,6,0,0,0)])]),(false,[(true,[.inr (2,7,0,0,0),.inr (2,8,0,0,0),.inr (2,9,0,0,0)])])]
theorem sd_sgn {V g l : Rat} (h : 0 < l*g) : (V*g < 0→V*l < 0)∧(0 < V*g→0 < V*l) := by
 have e : V*l*(g*g)=V*g*(l*g) := by grind
 have hg : g ≠ 0 := fun k => by rw [k,Rat.mul_zero] at h; exact absurd h (by decide)
 have p := prod_sgn (V*g) (l*g)
 have q := prod_sgn (V*l) (g*g)
 have g2 := sq1_pos hg
 refine ⟨fun k => ?_,fun k => ?_⟩
 ·have a := p.2.1 k h; rw [← e] at a
  rcases tri (V*l) with z | z | z
  ·exact z
  ·rw [z,Rat.zero_mul] at a; exact absurd a (by decide)
  ·have := q.2.2.2 z g2; grind
 ·have a := p.2.2.2 k h; rw [← e] at a
  rcases tri (V*l) with z | z | z
  ·have := q.2.1 z g2; grind
  ·rw [z,Rat.zero_mul] at a; exact absurd a (by decide)
  ·exact z
theorem eS_f1 {z9 z10 z11 z12 z13 z14 z22 z23 z24 z29 z30 z31 z32 z37 : Rat} : z22=z12-z9→z23=z13-z10→z24=z14-z11→(z29=0↔((z22=0∧z23=0)∧z24=0))→z30=z9-z12→z31=z10-z13→z32=z11-z14→(z37=0↔((z30=0∧z31=0)∧z32=0))→(z29=0)→z37=0 := by
 intro e22 e23 e24 e29 e30 e31 e32 e37 u1
 obtain ⟨⟨ua1_22,ua1_23⟩,ua1_24⟩ := e29.1 u1
 rw [e37]
 clear u1 e29 e37
 refine ⟨⟨?_,?_⟩,?_⟩ <;> (subst_vars; grind)
theorem eS_f2 {z9 z10 z11 z12 z13 z14 z22 z23 z24 z29 z30 z31 z32 z37 : Rat} : z22=z12-z9→z23=z13-z10→z24=z14-z11→(z29=0↔((z22=0∧z23=0)∧z24=0))→z30=z9-z12→z31=z10-z13→z32=z11-z14→(z37=0↔((z30=0∧z31=0)∧z32=0))→(¬ (z29=0))→¬ (z37=0) := by
 intro e22 e23 e24 e29 e30 e31 e32 e37 u1
 rw [e29] at u1
 rw [e37]
 clear  e29 e37
 have hp := sq3_pos (x := z30) (y := z31) (z := z32) (by first | assumption | grind)
 rintro ⟨⟨ub30,ub31⟩,ub32⟩
 subst_vars; grind
theorem eS_f3 {z9 z10 z11 z12 z13 z14 z15 z16 z17 z18 z19 z20 z21 z22 z23 z24 z29 z38 z39 z40 z41 z42 z43 z44 z45 z58 : Rat} : z15=z9+z12→z16=z10+z13→z17=z11+z14→z18=2→z19=z15/z18→z20=z16/z18→z21=z17/z18→z22=z12-z9→z23=z13-z10→z24=z14-z11→(z29=0↔((z22=0∧z23=0)∧z24=0))→z38=z22*z19→z39=0→z40=z39+z38→z41=z23*z20→z42=z40+z41→z43=z24*z21→z44=z42+z43→z45=-z44→(z58=0↔(((z22=0∧z23=0)∧z24=0)∧z45=0))→(¬ (z29=0))→¬ (z58=0) := by
 intro e15 e16 e17 e18 e19 e20 e21 e22 e23 e24 e29 e38 e39 e40 e41 e42 e43 e44 e45 e58 u1
 rw [e29] at u1
 rw [e58]
 clear  e29 e58
 rintro ⟨⟨⟨ub22,ub23⟩,ub24⟩,ub45⟩
 subst_vars; grind
theorem eS_f4 {z9 z10 z11 z12 z13 z14 z15 z16 z17 z18 z19 z20 z21 z22 z23 z24 z29 z38 z39 z40 z41 z42 z43 z44 z45 z46 z47 z48 z63 : Rat} : z15=z9+z12→z16=z10+z13→z17=z11+z14→z18=2→z19=z15/z18→z20=z16/z18→z21=z17/z18→z22=z12-z9→z23=z13-z10→z24=z14-z11→(z29=0↔((z22=0∧z23=0)∧z24=0))→z38=z22*z19→z39=0→z40=z39+z38→z41=z23*z20→z42=z40+z41→z43=z24*z21→z44=z42+z43→z45=-z44→z46=z22*fac [z22,z23,z24,z45]→z47=z23*fac [z22,z23,z24,z45]→z48=z24*fac [z22,z23,z24,z45]→(z63=0↔((z46=0∧z47=0)∧z48=0))→(¬ (z29=0))→¬ (z63=0) := by
 intro e15 e16 e17 e18 e19 e20 e21 e22 e23 e24 e29 e38 e39 e40 e41 e42 e43 e44 e45 e46 e47 e48 e63 u1
 rw [e29] at u1
 rw [e63]
 clear  e29 e63
 have k0_22 : fac [z22,z23,z24,z45]=0→z22=0 := fac_zero (by simp)
 have k0_23 : fac [z22,z23,z24,z45]=0→z23=0 := fac_zero (by simp)
 have k0_24 : fac [z22,z23,z24,z45]=0→z24=0 := fac_zero (by simp)
 have k0_45 : fac [z22,z23,z24,z45]=0→z45=0 := fac_zero (by simp)
 generalize fac [z22,z23,z24,z45]=g0 at *
 have nx0 : ¬ (((z22=0∧z23=0)∧z24=0)∧z45=0) := by
  rintro ⟨⟨⟨hx22,hx23⟩,hx24⟩,hx45⟩
  first | grind | (subst_vars; grind)
 have iw0 : g0 ≠ 0 := fun hg => nx0 ⟨⟨⟨(k0_22 hg),(k0_23 hg)⟩,(k0_24 hg)⟩,(k0_45 hg)⟩
 obtain ⟨iv0,ih0⟩ : ∃ i,g0*i=1 := ⟨g0⁻¹,Rat.mul_inv_cancel _ iw0⟩
 clear k0_22 k0_23 k0_24 k0_45
 have hp := sq3_pos (x := z46) (y := z47) (z := z48) (by first | assumption | grind)
 rintro ⟨⟨ub46,ub47⟩,ub48⟩
 subst_vars; grind
theorem eS_f5 {z9 z10 z11 z12 z13 z14 z15 z16 z17 z18 z19 z20 z21 z22 z23 z24 z29 z38 z39 z40 z41 z42 z43 z44 z45 z46 z47 z48 z49 z50 z51 z52 z53 z54 z55 z56 z64 z65 z66 z67 z68 z69 : Rat} : z15=z9+z12→z16=z10+z13→z17=z11+z14→z18=2→z19=z15/z18→z20=z16/z18→z21=z17/z18→z22=z12-z9→z23=z13-z10→z24=z14-z11→(z29=0↔((z22=0∧z23=0)∧z24=0))→z38=z22*z19→z39=0→z40=z39+z38→z41=z23*z20→z42=z40+z41→z43=z24*z21→z44=z42+z43→z45=-z44→z46=z22*fac [z22,z23,z24,z45]→z47=z23*fac [z22,z23,z24,z45]→z48=z24*fac [z22,z23,z24,z45]→z49=z45*fac [z22,z23,z24,z45]→z50=(1/2)→z51=z50*z22→z52=z9+z51→z53=z50*z23→z54=z10+z53→z55=z50*z24→z56=z11+z55→z64=z46*z52→z65=z47*z54→z66=z48*z56→z67=z64+z65→z68=z67+z66→z69=z68+z49→(¬ (z29=0))→z69=0 := by
 intro e15 e16 e17 e18 e19 e20 e21 e22 e23 e24 e29 e38 e39 e40 e41 e42 e43 e44 e45 e46 e47 e48 e49 e50 e51 e52 e53 e54 e55 e56 e64 e65 e66 e67 e68 e69 u1
 rw [e29] at u1
 clear  e29
 have k0_22 : fac [z22,z23,z24,z45]=0→z22=0 := fac_zero (by simp)
 have k0_23 : fac [z22,z23,z24,z45]=0→z23=0 := fac_zero (by simp)
 have k0_24 : fac [z22,z23,z24,z45]=0→z24=0 := fac_zero (by simp)
 have k0_45 : fac [z22,z23,z24,z45]=0→z45=0 := fac_zero (by simp)
 generalize fac [z22,z23,z24,z45]=g0 at *
 have nx0 : ¬ (((z22=0∧z23=0)∧z24=0)∧z45=0) := by
  rintro ⟨⟨⟨hx22,hx23⟩,hx24⟩,hx45⟩
  first | grind | (subst_vars; grind)
 have iw0 : g0 ≠ 0 := fun hg => nx0 ⟨⟨⟨(k0_22 hg),(k0_23 hg)⟩,(k0_24 hg)⟩,(k0_45 hg)⟩
 obtain ⟨iv0,ih0⟩ : ∃ i,g0*i=1 := ⟨g0⁻¹,Rat.mul_inv_cancel _ iw0⟩
 clear k0_22 k0_23 k0_24 k0_45
 subst_vars; grind
theorem eS_f6 {z9 z10 z11 z12 z13 z14 z15 z16 z17 z18 z19 z20 z21 z22 z23 z24 z29 z38 z39 z40 z41 z42 z43 z44 z45 z47 z48 z70 z71 z72 : Rat} : z15=z9+z12→z16=z10+z13→z17=z11+z14→z18=2→z19=z15/z18→z20=z16/z18→z21=z17/z18→z22=z12-z9→z23=z13-z10→z24=z14-z11→(z29=0↔((z22=0∧z23=0)∧z24=0))→z38=z22*z19→z39=0→z40=z39+z38→z41=z23*z20→z42=z40+z41→z43=z24*z21→z44=z42+z43→z45=-z44→z47=z23*fac [z22,z23,z24,z45]→z48=z24*fac [z22,z23,z24,z45]→z70=z47*z24→z71=z48*z23→z72=z70-z71→(¬ (z29=0))→z72=0 := by
 intro e15 e16 e17 e18 e19 e20 e21 e22 e23 e24 e29 e38 e39 e40 e41 e42 e43 e44 e45 e47 e48 e70 e71 e72 u1
 rw [e29] at u1
 clear  e29
 have k0_22 : fac [z22,z23,z24,z45]=0→z22=0 := fac_zero (by simp)
 have k0_23 : fac [z22,z23,z24,z45]=0→z23=0 := fac_zero (by simp)
 have k0_24 : fac [z22,z23,z24,z45]=0→z24=0 := fac_zero (by simp)
 have k0_45 : fac [z22,z23,z24,z45]=0→z45=0 := fac_zero (by simp)
 generalize fac [z22,z23,z24,z45]=g0 at *
 have nx0 : ¬ (((z22=0∧z23=0)∧z24=0)∧z45=0) := by
  rintro ⟨⟨⟨hx22,hx23⟩,hx24⟩,hx45⟩
  first | grind | (subst_vars; grind)
 have iw0 : g0 ≠ 0 := fun hg => nx0 ⟨⟨⟨(k0_22 hg),(k0_23 hg)⟩,(k0_24 hg)⟩,(k0_45 hg)⟩
 obtain ⟨iv0,ih0⟩ : ∃ i,g0*i=1 := ⟨g0⁻¹,Rat.mul_inv_cancel _ iw0⟩
 clear k0_22 k0_23 k0_24 k0_45
 subst_vars; grind
theorem eS_f7 {z9 z10 z11 z12 z13 z14 z15 z16 z17 z18 z19 z20 z21 z22 z23 z24 z29 z38 z39 z40 z41 z42 z43 z44 z45 z46 z48 z73 z74 z75 : Rat} : z15=z9+z12→z16=z10+z13→z17=z11+z14→z18=2→z19=z15/z18→z20=z16/z18→z21=z17/z18→z22=z12-z9→z23=z13-z10→z24=z14-z11→(z29=0↔((z22=0∧z23=0)∧z24=0))→z38=z22*z19→z39=0→z40=z39+z38→z41=z23*z20→z42=z40+z41→z43=z24*z21→z44=z42+z43→z45=-z44→z46=z22*fac [z22,z23,z24,z45]→z48=z24*fac [z22,z23,z24,z45]→z73=z48*z22→z74=z46*z24→z75=z73-z74→(¬ (z29=0))→z75=0 := by
 intro e15 e16 e17 e18 e19 e20 e21 e22 e23 e24 e29 e38 e39 e40 e41 e42 e43 e44 e45 e46 e48 e73 e74 e75 u1
 rw [e29] at u1
 clear  e29
 have k0_22 : fac [z22,z23,z24,z45]=0→z22=0 := fac_zero (by simp)
 have k0_23 : fac [z22,z23,z24,z45]=0→z23=0 := fac_zero (by simp)
 have k0_24 : fac [z22,z23,z24,z45]=0→z24=0 := fac_zero (by simp)
 have k0_45 : fac [z22,z23,z24,z45]=0→z45=0 := fac_zero (by simp)
 generalize fac [z22,z23,z24,z45]=g0 at *
 have nx0 : ¬ (((z22=0∧z23=0)∧z24=0)∧z45=0) := by
  rintro ⟨⟨⟨hx22,hx23⟩,hx24⟩,hx45⟩
  first | grind | (subst_vars; grind)
 have iw0 : g0 ≠ 0 := fun hg => nx0 ⟨⟨⟨(k0_22 hg),(k0_23 hg)⟩,(k0_24 hg)⟩,(k0_45 hg)⟩
 obtain ⟨iv0,ih0⟩ : ∃ i,g0*i=1 := ⟨g0⁻¹,Rat.mul_inv_cancel _ iw0⟩
 clear k0_22 k0_23 k0_24 k0_45
 subst_vars; grind
theorem eS_f8 {z9 z10 z11 z12 z13 z14 z15 z16 z17 z18 z19 z20 z21 z22 z23 z24 z29 z38 z39 z40 z41 z42 z43 z44 z45 z46 z47 z76 z77 z78 : Rat} : z15=z9+z12→z16=z10+z13→z17=z11+z14→z18=2→z19=z15/z18→z20=z16/z18→z21=z17/z18→z22=z12-z9→z23=z13-z10→z24=z14-z11→(z29=0↔((z22=0∧z23=0)∧z24=0))→z38=z22*z19→z39=0→z40=z39+z38→z41=z23*z20→z42=z40+z41→z43=z24*z21→z44=z42+z43→z45=-z44→z46=z22*fac [z22,z23,z24,z45]→z47=z23*fac [z22,z23,z24,z45]→z76=z46*z23→z77=z47*z22→z78=z76-z77→(¬ (z29=0))→z78=0 := by
 intro e15 e16 e17 e18 e19 e20 e21 e22 e23 e24 e29 e38 e39 e40 e41 e42 e43 e44 e45 e46 e47 e76 e77 e78 u1
 rw [e29] at u1
 clear  e29
 have k0_22 : fac [z22,z23,z24,z45]=0→z22=0 := fac_zero (by simp)
 have k0_23 : fac [z22,z23,z24,z45]=0→z23=0 := fac_zero (by simp)
 have k0_24 : fac [z22,z23,z24,z45]=0→z24=0 := fac_zero (by simp)
 have k0_45 : fac [z22,z23,z24,z45]=0→z45=0 := fac_zero (by simp)
 generalize fac [z22,z23,z24,z45]=g0 at *
 have nx0 : ¬ (((z22=0∧z23=0)∧z24=0)∧z45=0) := by
  rintro ⟨⟨⟨hx22,hx23⟩,hx24⟩,hx45⟩
  first | grind | (subst_vars; grind)
 have iw0 : g0 ≠ 0 := fun hg => nx0 ⟨⟨⟨(k0_22 hg),(k0_23 hg)⟩,(k0_24 hg)⟩,(k0_45 hg)⟩
 obtain ⟨iv0,ih0⟩ : ∃ i,g0*i=1 := ⟨g0⁻¹,Rat.mul_inv_cancel _ iw0⟩
 clear k0_22 k0_23 k0_24 k0_45
 subst_vars; grind
theorem eS_f9 {z0 z1 z2 z8 z9 z10 z11 z12 z13 z14 z22 z23 z24 z29 z30 z31 z32 z37 : Rat} : (z8=0↔((z0=0∧z1=0)∧z2=0))→z22=z12-z9→z23=z13-z10→z24=z14-z11→(z29=0↔((z22=0∧z23=0)∧z24=0))→z30=z9-z12→z31=z10-z13→z32=z11-z14→(z37=0↔((z30=0∧z31=0)∧z32=0))→(¬ (z8=0))→(z29=0)→z37=0 := by
 intro e8 e22 e23 e24 e29 e30 e31 e32 e37 u0 u2
 rw [e8] at u0
 obtain ⟨⟨ua2_22,ua2_23⟩,ua2_24⟩ := e29.1 u2
 rw [e37]
 clear u2 e8 e29 e37
 refine ⟨⟨?_,?_⟩,?_⟩ <;> (subst_vars; grind)
theorem eS_f10 {z0 z1 z2 z8 : Rat} : (z8=0↔((z0=0∧z1=0)∧z2=0))→(¬ (z8=0))→(z0=0)→(z1=0)→¬ (z2=0) := by
 intro e8 u0 u3 u4
 rw [e8] at u0
 clear  e8
 subst_vars; grind
theorem eS_f11 {z0 z1 z2 z3 z8 z9 z10 z11 z39 z84 z85 z86 z87 z88 z89 z90 z91 z92 z93 z94 z95 z96 z97 z98 z99 z100 z101 : Rat} : (z8=0↔((z0=0∧z1=0)∧z2=0))→z39=0→z84=z0*fac [z0,z1,z2,z3]→z85=z1*fac [z0,z1,z2,z3]→z86=z2*fac [z0,z1,z2,z3]→z87=z3*fac [z0,z1,z2,z3]→z88=z84*z9→z89=z39+z88→z90=z85*z10→z91=z89+z90→z92=z86*z11→z93=z91+z92→z94=z93+z87→z95=z0*z9→z96=z1*z10→z97=z2*z11→z98=z95+z96→z99=z98+z97→z100=z99+z3→z101=z100*z2→(¬ (z8=0))→(z94 < 0)→(z0=0)→(z1=0)→z101 < 0 := by
 intro e8 e39 e84 e85 e86 e87 e88 e89 e90 e91 e92 e93 e94 e95 e96 e97 e98 e99 e100 e101 u0 u1 u3 u4
 rw [e8] at u0
 clear  e8
 have k0_0 : fac [z0,z1,z2,z3]=0→z0=0 := fac_zero (by simp)
 have k0_1 : fac [z0,z1,z2,z3]=0→z1=0 := fac_zero (by simp)
 have k0_2 : fac [z0,z1,z2,z3]=0→z2=0 := fac_zero (by simp)
 have k0_3 : fac [z0,z1,z2,z3]=0→z3=0 := fac_zero (by simp)
 have l0_0 : z0 ≠ 0→0 < z0*fac [z0,z1,z2,z3] := fac_lead0
 have l0_1 : z0=0→z1 ≠ 0→0 < z1*fac [z0,z1,z2,z3] := fac_lead1
 have l0_2 : z0=0→z1=0→z2 ≠ 0→0 < z2*fac [z0,z1,z2,z3] := fac_lead2
 generalize fac [z0,z1,z2,z3]=g0 at *
 have nx0 : ¬ (((z0=0∧z1=0)∧z2=0)∧z3=0) := by
  rintro ⟨⟨⟨hx0,hx1⟩,hx2⟩,hx3⟩
  first | grind | (subst_vars; grind)
 have iw0 : g0 ≠ 0 := fun hg => nx0 ⟨⟨⟨(k0_0 hg),(k0_1 hg)⟩,(k0_2 hg)⟩,(k0_3 hg)⟩
 obtain ⟨iv0,ih0⟩ : ∃ i,g0*i=1 := ⟨g0⁻¹,Rat.mul_inv_cancel _ iw0⟩
 clear k0_0 k0_1 k0_2 k0_3
 have hl : 0 < z2*g0 := l0_2 u3 u4 (fun h => u0 ⟨⟨u3,u4⟩,h⟩)
 have E : z94=z100*g0 := by clear u1 hl; subst_vars; grind
 have hs := sd_sgn (V := z100) hl
 rw [← E] at hs; rw [e101]; exact hs.1 u1
theorem eS_f12 {z0 z1 z2 z3 z8 z9 z10 z11 z39 z84 z85 z86 z87 z88 z89 z90 z91 z92 z93 z94 z95 z96 z97 z98 z99 z100 z102 : Rat} : (z8=0↔((z0=0∧z1=0)∧z2=0))→z39=0→z84=z0*fac [z0,z1,z2,z3]→z85=z1*fac [z0,z1,z2,z3]→z86=z2*fac [z0,z1,z2,z3]→z87=z3*fac [z0,z1,z2,z3]→z88=z84*z9→z89=z39+z88→z90=z85*z10→z91=z89+z90→z92=z86*z11→z93=z91+z92→z94=z93+z87→z95=z0*z9→z96=z1*z10→z97=z2*z11→z98=z95+z96→z99=z98+z97→z100=z99+z3→z102=z100*z1→(¬ (z8=0))→(z94 < 0)→(z0=0)→(¬ (z1=0))→z102 < 0 := by
 intro e8 e39 e84 e85 e86 e87 e88 e89 e90 e91 e92 e93 e94 e95 e96 e97 e98 e99 e100 e102 u0 u1 u3 u4
 rw [e8] at u0
 clear  e8
 have k0_0 : fac [z0,z1,z2,z3]=0→z0=0 := fac_zero (by simp)
 have k0_1 : fac [z0,z1,z2,z3]=0→z1=0 := fac_zero (by simp)
 have k0_2 : fac [z0,z1,z2,z3]=0→z2=0 := fac_zero (by simp)
 have k0_3 : fac [z0,z1,z2,z3]=0→z3=0 := fac_zero (by simp)
 have l0_0 : z0 ≠ 0→0 < z0*fac [z0,z1,z2,z3] := fac_lead0
 have l0_1 : z0=0→z1 ≠ 0→0 < z1*fac [z0,z1,z2,z3] := fac_lead1
 have l0_2 : z0=0→z1=0→z2 ≠ 0→0 < z2*fac [z0,z1,z2,z3] := fac_lead2
 generalize fac [z0,z1,z2,z3]=g0 at *
 have nx0 : ¬ (((z0=0∧z1=0)∧z2=0)∧z3=0) := by
  rintro ⟨⟨⟨hx0,hx1⟩,hx2⟩,hx3⟩
  first | grind | (subst_vars; grind)
 have iw0 : g0 ≠ 0 := fun hg => nx0 ⟨⟨⟨(k0_0 hg),(k0_1 hg)⟩,(k0_2 hg)⟩,(k0_3 hg)⟩
 obtain ⟨iv0,ih0⟩ : ∃ i,g0*i=1 := ⟨g0⁻¹,Rat.mul_inv_cancel _ iw0⟩
 clear k0_0 k0_1 k0_2 k0_3
 have hl : 0 < z1*g0 := l0_1 u3 u4
 have E : z94=z100*g0 := by clear u1 hl; subst_vars; grind
 have hs := sd_sgn (V := z100) hl
 rw [← E] at hs; rw [e102]; exact hs.1 u1
theorem eS_f13 {z0 z1 z2 z3 z8 z9 z10 z11 z39 z84 z85 z86 z87 z88 z89 z90 z91 z92 z93 z94 z95 z96 z97 z98 z99 z100 z103 : Rat} : (z8=0↔((z0=0∧z1=0)∧z2=0))→z39=0→z84=z0*fac [z0,z1,z2,z3]→z85=z1*fac [z0,z1,z2,z3]→z86=z2*fac [z0,z1,z2,z3]→z87=z3*fac [z0,z1,z2,z3]→z88=z84*z9→z89=z39+z88→z90=z85*z10→z91=z89+z90→z92=z86*z11→z93=z91+z92→z94=z93+z87→z95=z0*z9→z96=z1*z10→z97=z2*z11→z98=z95+z96→z99=z98+z97→z100=z99+z3→z103=z100*z0→(¬ (z8=0))→(z94 < 0)→(¬ (z0=0))→z103 < 0 := by
 intro e8 e39 e84 e85 e86 e87 e88 e89 e90 e91 e92 e93 e94 e95 e96 e97 e98 e99 e100 e103 u0 u1 u3
 rw [e8] at u0
 clear  e8
 have k0_0 : fac [z0,z1,z2,z3]=0→z0=0 := fac_zero (by simp)
 have k0_1 : fac [z0,z1,z2,z3]=0→z1=0 := fac_zero (by simp)
 have k0_2 : fac [z0,z1,z2,z3]=0→z2=0 := fac_zero (by simp)
 have k0_3 : fac [z0,z1,z2,z3]=0→z3=0 := fac_zero (by simp)
 have l0_0 : z0 ≠ 0→0 < z0*fac [z0,z1,z2,z3] := fac_lead0
 have l0_1 : z0=0→z1 ≠ 0→0 < z1*fac [z0,z1,z2,z3] := fac_lead1
 have l0_2 : z0=0→z1=0→z2 ≠ 0→0 < z2*fac [z0,z1,z2,z3] := fac_lead2
 generalize fac [z0,z1,z2,z3]=g0 at *
 have nx0 : ¬ (((z0=0∧z1=0)∧z2=0)∧z3=0) := by
  rintro ⟨⟨⟨hx0,hx1⟩,hx2⟩,hx3⟩
  first | grind | (subst_vars; grind)
 have iw0 : g0 ≠ 0 := fun hg => nx0 ⟨⟨⟨(k0_0 hg),(k0_1 hg)⟩,(k0_2 hg)⟩,(k0_3 hg)⟩
 obtain ⟨iv0,ih0⟩ : ∃ i,g0*i=1 := ⟨g0⁻¹,Rat.mul_inv_cancel _ iw0⟩
 clear k0_0 k0_1 k0_2 k0_3
 have hl : 0 < z0*g0 := l0_0 u3
 have E : z94=z100*g0 := by clear u1 hl; subst_vars; grind
 have hs := sd_sgn (V := z100) hl
 rw [← E] at hs; rw [e103]; exact hs.1 u1
theorem eS_f14 {z0 z1 z2 z8 z9 z10 z11 z12 z13 z14 z22 z23 z24 z29 z30 z31 z32 z37 : Rat} : (z8=0↔((z0=0∧z1=0)∧z2=0))→z22=z12-z9→z23=z13-z10→z24=z14-z11→(z29=0↔((z22=0∧z23=0)∧z24=0))→z30=z9-z12→z31=z10-z13→z32=z11-z14→(z37=0↔((z30=0∧z31=0)∧z32=0))→(¬ (z8=0))→(¬ (z29=0))→¬ (z37=0) := by
 intro e8 e22 e23 e24 e29 e30 e31 e32 e37 u0 u2
 rw [e8] at u0
 rw [e29] at u2
 rw [e37]
 clear  e8 e29 e37
 have hp := sq3_pos (x := z30) (y := z31) (z := z32) (by first | assumption | grind)
 rintro ⟨⟨ub30,ub31⟩,ub32⟩
 subst_vars; grind
theorem eS_f15 {z0 z1 z2 z8 z9 z10 z11 z12 z13 z14 z15 z16 z17 z18 z19 z20 z21 z22 z23 z24 z29 z38 z39 z40 z41 z42 z43 z44 z45 z58 : Rat} : (z8=0↔((z0=0∧z1=0)∧z2=0))→z15=z9+z12→z16=z10+z13→z17=z11+z14→z18=2→z19=z15/z18→z20=z16/z18→z21=z17/z18→z22=z12-z9→z23=z13-z10→z24=z14-z11→(z29=0↔((z22=0∧z23=0)∧z24=0))→z38=z22*z19→z39=0→z40=z39+z38→z41=z23*z20→z42=z40+z41→z43=z24*z21→z44=z42+z43→z45=-z44→(z58=0↔(((z22=0∧z23=0)∧z24=0)∧z45=0))→(¬ (z8=0))→(¬ (z29=0))→¬ (z58=0) := by
 intro e8 e15 e16 e17 e18 e19 e20 e21 e22 e23 e24 e29 e38 e39 e40 e41 e42 e43 e44 e45 e58 u0 u2
 rw [e8] at u0
 rw [e29] at u2
 rw [e58]
 clear  e8 e29 e58
 rintro ⟨⟨⟨ub22,ub23⟩,ub24⟩,ub45⟩
 subst_vars; grind
theorem eS_f16 {z0 z1 z2 z8 z9 z10 z11 z12 z13 z14 z15 z16 z17 z18 z19 z20 z21 z22 z23 z24 z29 z38 z39 z40 z41 z42 z43 z44 z45 z46 z47 z48 z63 : Rat} : (z8=0↔((z0=0∧z1=0)∧z2=0))→z15=z9+z12→z16=z10+z13→z17=z11+z14→z18=2→z19=z15/z18→z20=z16/z18→z21=z17/z18→z22=z12-z9→z23=z13-z10→z24=z14-z11→(z29=0↔((z22=0∧z23=0)∧z24=0))→z38=z22*z19→z39=0→z40=z39+z38→z41=z23*z20→z42=z40+z41→z43=z24*z21→z44=z42+z43→z45=-z44→z46=z22*fac [z22,z23,z24,z45]→z47=z23*fac [z22,z23,z24,z45]→z48=z24*fac [z22,z23,z24,z45]→(z63=0↔((z46=0∧z47=0)∧z48=0))→(¬ (z8=0))→(¬ (z29=0))→¬ (z63=0) := by
 intro e8 e15 e16 e17 e18 e19 e20 e21 e22 e23 e24 e29 e38 e39 e40 e41 e42 e43 e44 e45 e46 e47 e48 e63 u0 u2
 rw [e8] at u0
 rw [e29] at u2
 rw [e63]
 clear  e8 e29 e63
 have k0_22 : fac [z22,z23,z24,z45]=0→z22=0 := fac_zero (by simp)
 have k0_23 : fac [z22,z23,z24,z45]=0→z23=0 := fac_zero (by simp)
 have k0_24 : fac [z22,z23,z24,z45]=0→z24=0 := fac_zero (by simp)
 have k0_45 : fac [z22,z23,z24,z45]=0→z45=0 := fac_zero (by simp)
 generalize fac [z22,z23,z24,z45]=g0 at *
 have nx0 : ¬ (((z22=0∧z23=0)∧z24=0)∧z45=0) := by
  rintro ⟨⟨⟨hx22,hx23⟩,hx24⟩,hx45⟩
  first | grind | (subst_vars; grind)
 have iw0 : g0 ≠ 0 := fun hg => nx0 ⟨⟨⟨(k0_22 hg),(k0_23 hg)⟩,(k0_24 hg)⟩,(k0_45 hg)⟩
 obtain ⟨iv0,ih0⟩ : ∃ i,g0*i=1 := ⟨g0⁻¹,Rat.mul_inv_cancel _ iw0⟩
 clear k0_22 k0_23 k0_24 k0_45
 have hp := sq3_pos (x := z46) (y := z47) (z := z48) (by first | assumption | grind)
 rintro ⟨⟨ub46,ub47⟩,ub48⟩
 subst_vars; grind
theorem eS_f17 {z0 z1 z2 z8 z9 z10 z11 z12 z13 z14 z15 z16 z17 z18 z19 z20 z21 z22 z23 z24 z29 z38 z39 z40 z41 z42 z43 z44 z45 z46 z47 z48 z49 z50 z51 z52 z53 z54 z55 z56 z64 z65 z66 z67 z68 z69 : Rat} : (z8=0↔((z0=0∧z1=0)∧z2=0))→z15=z9+z12→z16=z10+z13→z17=z11+z14→z18=2→z19=z15/z18→z20=z16/z18→z21=z17/z18→z22=z12-z9→z23=z13-z10→z24=z14-z11→(z29=0↔((z22=0∧z23=0)∧z24=0))→z38=z22*z19→z39=0→z40=z39+z38→z41=z23*z20→z42=z40+z41→z43=z24*z21→z44=z42+z43→z45=-z44→z46=z22*fac [z22,z23,z24,z45]→z47=z23*fac [z22,z23,z24,z45]→z48=z24*fac [z22,z23,z24,z45]→z49=z45*fac [z22,z23,z24,z45]→z50=(1/2)→z51=z50*z22→z52=z9+z51→z53=z50*z23→z54=z10+z53→z55=z50*z24→z56=z11+z55→z64=z46*z52→z65=z47*z54→z66=z48*z56→z67=z64+z65→z68=z67+z66→z69=z68+z49→(¬ (z8=0))→(¬ (z29=0))→z69=0 := by
 intro e8 e15 e16 e17 e18 e19 e20 e21 e22 e23 e24 e29 e38 e39 e40 e41 e42 e43 e44 e45 e46 e47 e48 e49 e50 e51 e52 e53 e54 e55 e56 e64 e65 e66 e67 e68 e69 u0 u2
 rw [e8] at u0
 rw [e29] at u2
 clear  e8 e29
 have k0_22 : fac [z22,z23,z24,z45]=0→z22=0 := fac_zero (by simp)
 have k0_23 : fac [z22,z23,z24,z45]=0→z23=0 := fac_zero (by simp)
 have k0_24 : fac [z22,z23,z24,z45]=0→z24=0 := fac_zero (by simp)
 have k0_45 : fac [z22,z23,z24,z45]=0→z45=0 := fac_zero (by simp)
 generalize fac [z22,z23,z24,z45]=g0 at *
 have nx0 : ¬ (((z22=0∧z23=0)∧z24=0)∧z45=0) := by
  rintro ⟨⟨⟨hx22,hx23⟩,hx24⟩,hx45⟩
  first | grind | (subst_vars; grind)
 have iw0 : g0 ≠ 0 := fun hg => nx0 ⟨⟨⟨(k0_22 hg),(k0_23 hg)⟩,(k0_24 hg)⟩,(k0_45 hg)⟩
 obtain ⟨iv0,ih0⟩ : ∃ i,g0*i=1 := ⟨g0⁻¹,Rat.mul_inv_cancel _ iw0⟩
 clear k0_22 k0_23 k0_24 k0_45
 subst_vars; grind
theorem eS_f18 {z0 z1 z2 z8 z9 z10 z11 z12 z13 z14 z15 z16 z17 z18 z19 z20 z21 z22 z23 z24 z29 z38 z39 z40 z41 z42 z43 z44 z45 z47 z48 z70 z71 z72 : Rat} : (z8=0↔((z0=0∧z1=0)∧z2=0))→z15=z9+z12→z16=z10+z13→z17=z11+z14→z18=2→z19=z15/z18→z20=z16/z18→z21=z17/z18→z22=z12-z9→z23=z13-z10→z24=z14-z11→(z29=0↔((z22=0∧z23=0)∧z24=0))→z38=z22*z19→z39=0→z40=z39+z38→z41=z23*z20→z42=z40+z41→z43=z24*z21→z44=z42+z43→z45=-z44→z47=z23*fac [z22,z23,z24,z45]→z48=z24*fac [z22,z23,z24,z45]→z70=z47*z24→z71=z48*z23→z72=z70-z71→(¬ (z8=0))→(¬ (z29=0))→z72=0 := by
 intro e8 e15 e16 e17 e18 e19 e20 e21 e22 e23 e24 e29 e38 e39 e40 e41 e42 e43 e44 e45 e47 e48 e70 e71 e72 u0 u2
 rw [e8] at u0
 rw [e29] at u2
 clear  e8 e29
 have k0_22 : fac [z22,z23,z24,z45]=0→z22=0 := fac_zero (by simp)
 have k0_23 : fac [z22,z23,z24,z45]=0→z23=0 := fac_zero (by simp)
 have k0_24 : fac [z22,z23,z24,z45]=0→z24=0 := fac_zero (by simp)
 have k0_45 : fac [z22,z23,z24,z45]=0→z45=0 := fac_zero (by simp)
 generalize fac [z22,z23,z24,z45]=g0 at *
 have nx0 : ¬ (((z22=0∧z23=0)∧z24=0)∧z45=0) := by
  rintro ⟨⟨⟨hx22,hx23⟩,hx24⟩,hx45⟩
  first | grind | (subst_vars; grind)
 have iw0 : g0 ≠ 0 := fun hg => nx0 ⟨⟨⟨(k0_22 hg),(k0_23 hg)⟩,(k0_24 hg)⟩,(k0_45 hg)⟩
 obtain ⟨iv0,ih0⟩ : ∃ i,g0*i=1 := ⟨g0⁻¹,Rat.mul_inv_cancel _ iw0⟩
 clear k0_22 k0_23 k0_24 k0_45
 subst_vars; grind
theorem eS_f19 {z0 z1 z2 z8 z9 z10 z11 z12 z13 z14 z15 z16 z17 z18 z19 z20 z21 z22 z23 z24 z29 z38 z39 z40 z41 z42 z43 z44 z45 z46 z48 z73 z74 z75 : Rat} : (z8=0↔((z0=0∧z1=0)∧z2=0))→z15=z9+z12→z16=z10+z13→z17=z11+z14→z18=2→z19=z15/z18→z20=z16/z18→z21=z17/z18→z22=z12-z9→z23=z13-z10→z24=z14-z11→(z29=0↔((z22=0∧z23=0)∧z24=0))→z38=z22*z19→z39=0→z40=z39+z38→z41=z23*z20→z42=z40+z41→z43=z24*z21→z44=z42+z43→z45=-z44→z46=z22*fac [z22,z23,z24,z45]→z48=z24*fac [z22,z23,z24,z45]→z73=z48*z22→z74=z46*z24→z75=z73-z74→(¬ (z8=0))→(¬ (z29=0))→z75=0 := by
 intro e8 e15 e16 e17 e18 e19 e20 e21 e22 e23 e24 e29 e38 e39 e40 e41 e42 e43 e44 e45 e46 e48 e73 e74 e75 u0 u2
 rw [e8] at u0
 rw [e29] at u2
 clear  e8 e29
 have k0_22 : fac [z22,z23,z24,z45]=0→z22=0 := fac_zero (by simp)
 have k0_23 : fac [z22,z23,z24,z45]=0→z23=0 := fac_zero (by simp)
 have k0_24 : fac [z22,z23,z24,z45]=0→z24=0 := fac_zero (by simp)
 have k0_45 : fac [z22,z23,z24,z45]=0→z45=0 := fac_zero (by simp)
 generalize fac [z22,z23,z24,z45]=g0 at *
 have nx0 : ¬ (((z22=0∧z23=0)∧z24=0)∧z45=0) := by
  rintro ⟨⟨⟨hx22,hx23⟩,hx24⟩,hx45⟩
  first | grind | (subst_vars; grind)
 have iw0 : g0 ≠ 0 := fun hg => nx0 ⟨⟨⟨(k0_22 hg),(k0_23 hg)⟩,(k0_24 hg)⟩,(k0_45 hg)⟩
 obtain ⟨iv0,ih0⟩ : ∃ i,g0*i=1 := ⟨g0⁻¹,Rat.mul_inv_cancel _ iw0⟩
 clear k0_22 k0_23 k0_24 k0_45
 subst_vars; grind
theorem eS_f20 {z0 z1 z2 z8 z9 z10 z11 z12 z13 z14 z15 z16 z17 z18 z19 z20 z21 z22 z23 z24 z29 z38 z39 z40 z41 z42 z43 z44 z45 z46 z47 z76 z77 z78 : Rat} : (z8=0↔((z0=0∧z1=0)∧z2=0))→z15=z9+z12→z16=z10+z13→z17=z11+z14→z18=2→z19=z15/z18→z20=z16/z18→z21=z17/z18→z22=z12-z9→z23=z13-z10→z24=z14-z11→(z29=0↔((z22=0∧z23=0)∧z24=0))→z38=z22*z19→z39=0→z40=z39+z38→z41=z23*z20→z42=z40+z41→z43=z24*z21→z44=z42+z43→z45=-z44→z46=z22*fac [z22,z23,z24,z45]→z47=z23*fac [z22,z23,z24,z45]→z76=z46*z23→z77=z47*z22→z78=z76-z77→(¬ (z8=0))→(¬ (z29=0))→z78=0 := by
 intro e8 e15 e16 e17 e18 e19 e20 e21 e22 e23 e24 e29 e38 e39 e40 e41 e42 e43 e44 e45 e46 e47 e76 e77 e78 u0 u2
 rw [e8] at u0
 rw [e29] at u2
 clear  e8 e29
 have k0_22 : fac [z22,z23,z24,z45]=0→z22=0 := fac_zero (by simp)
 have k0_23 : fac [z22,z23,z24,z45]=0→z23=0 := fac_zero (by simp)
 have k0_24 : fac [z22,z23,z24,z45]=0→z24=0 := fac_zero (by simp)
 have k0_45 : fac [z22,z23,z24,z45]=0→z45=0 := fac_zero (by simp)
 generalize fac [z22,z23,z24,z45]=g0 at *
 have nx0 : ¬ (((z22=0∧z23=0)∧z24=0)∧z45=0) := by
  rintro ⟨⟨⟨hx22,hx23⟩,hx24⟩,hx45⟩
  first | grind | (subst_vars; grind)
 have iw0 : g0 ≠ 0 := fun hg => nx0 ⟨⟨⟨(k0_22 hg),(k0_23 hg)⟩,(k0_24 hg)⟩,(k0_45 hg)⟩
 obtain ⟨iv0,ih0⟩ : ∃ i,g0*i=1 := ⟨g0⁻¹,Rat.mul_inv_cancel _ iw0⟩
 clear k0_22 k0_23 k0_24 k0_45
 subst_vars; grind
theorem eS_f21 {z0 z1 z2 z8 z9 z10 z11 z12 z13 z14 z22 z23 z24 z29 : Rat} : (z8=0↔((z0=0∧z1=0)∧z2=0))→z22=z12-z9→z23=z13-z10→z24=z14-z11→(z29=0↔((z22=0∧z23=0)∧z24=0))→(¬ (z8=0))→(¬ (z29=0))→(z0=0)→(z1=0)→¬ (z2=0) := by
 intro e8 e22 e23 e24 e29 u0 u2 u3 u4
 rw [e8] at u0
 rw [e29] at u2
 clear  e8 e29
 subst_vars; grind
theorem eS_f22 {z0 z1 z2 z3 z8 z9 z10 z11 z12 z13 z14 z22 z23 z24 z29 z39 z84 z85 z86 z87 z88 z89 z90 z91 z92 z93 z94 z95 z96 z97 z98 z99 z100 z101 : Rat} : (z8=0↔((z0=0∧z1=0)∧z2=0))→z22=z12-z9→z23=z13-z10→z24=z14-z11→(z29=0↔((z22=0∧z23=0)∧z24=0))→z39=0→z84=z0*fac [z0,z1,z2,z3]→z85=z1*fac [z0,z1,z2,z3]→z86=z2*fac [z0,z1,z2,z3]→z87=z3*fac [z0,z1,z2,z3]→z88=z84*z9→z89=z39+z88→z90=z85*z10→z91=z89+z90→z92=z86*z11→z93=z91+z92→z94=z93+z87→z95=z0*z9→z96=z1*z10→z97=z2*z11→z98=z95+z96→z99=z98+z97→z100=z99+z3→z101=z100*z2→(¬ (z8=0))→(z94 < 0)→(¬ (z29=0))→(z0=0)→(z1=0)→z101 < 0 := by
 intro e8 e22 e23 e24 e29 e39 e84 e85 e86 e87 e88 e89 e90 e91 e92 e93 e94 e95 e96 e97 e98 e99 e100 e101 u0 u1 u2 u3 u4
 rw [e8] at u0
 rw [e29] at u2
 clear  e8 e29
 have k0_0 : fac [z0,z1,z2,z3]=0→z0=0 := fac_zero (by simp)
 have k0_1 : fac [z0,z1,z2,z3]=0→z1=0 := fac_zero (by simp)
 have k0_2 : fac [z0,z1,z2,z3]=0→z2=0 := fac_zero (by simp)
 have k0_3 : fac [z0,z1,z2,z3]=0→z3=0 := fac_zero (by simp)
 have l0_0 : z0 ≠ 0→0 < z0*fac [z0,z1,z2,z3] := fac_lead0
 have l0_1 : z0=0→z1 ≠ 0→0 < z1*fac [z0,z1,z2,z3] := fac_lead1
 have l0_2 : z0=0→z1=0→z2 ≠ 0→0 < z2*fac [z0,z1,z2,z3] := fac_lead2
 generalize fac [z0,z1,z2,z3]=g0 at *
 have nx0 : ¬ (((z0=0∧z1=0)∧z2=0)∧z3=0) := by
  rintro ⟨⟨⟨hx0,hx1⟩,hx2⟩,hx3⟩
  first | grind | (subst_vars; grind)
 have iw0 : g0 ≠ 0 := fun hg => nx0 ⟨⟨⟨(k0_0 hg),(k0_1 hg)⟩,(k0_2 hg)⟩,(k0_3 hg)⟩
 obtain ⟨iv0,ih0⟩ : ∃ i,g0*i=1 := ⟨g0⁻¹,Rat.mul_inv_cancel _ iw0⟩
 clear k0_0 k0_1 k0_2 k0_3
 have hl : 0 < z2*g0 := l0_2 u3 u4 (fun h => u0 ⟨⟨u3,u4⟩,h⟩)
 have E : z94=z100*g0 := by clear u1 hl; subst_vars; grind
 have hs := sd_sgn (V := z100) hl
 rw [← E] at hs; rw [e101]; exact hs.1 u1
theorem eS_f23 {z0 z1 z2 z3 z8 z9 z10 z11 z12 z13 z14 z22 z23 z24 z29 z39 z84 z85 z86 z87 z88 z89 z90 z91 z92 z93 z94 z95 z96 z97 z98 z99 z100 z102 : Rat} : (z8=0↔((z0=0∧z1=0)∧z2=0))→z22=z12-z9→z23=z13-z10→z24=z14-z11→(z29=0↔((z22=0∧z23=0)∧z24=0))→z39=0→z84=z0*fac [z0,z1,z2,z3]→z85=z1*fac [z0,z1,z2,z3]→z86=z2*fac [z0,z1,z2,z3]→z87=z3*fac [z0,z1,z2,z3]→z88=z84*z9→z89=z39+z88→z90=z85*z10→z91=z89+z90→z92=z86*z11→z93=z91+z92→z94=z93+z87→z95=z0*z9→z96=z1*z10→z97=z2*z11→z98=z95+z96→z99=z98+z97→z100=z99+z3→z102=z100*z1→(¬ (z8=0))→(z94 < 0)→(¬ (z29=0))→(z0=0)→(¬ (z1=0))→z102 < 0 := by
 intro e8 e22 e23 e24 e29 e39 e84 e85 e86 e87 e88 e89 e90 e91 e92 e93 e94 e95 e96 e97 e98 e99 e100 e102 u0 u1 u2 u3 u4
 rw [e8] at u0
 rw [e29] at u2
 clear  e8 e29
 have k0_0 : fac [z0,z1,z2,z3]=0→z0=0 := fac_zero (by simp)
 have k0_1 : fac [z0,z1,z2,z3]=0→z1=0 := fac_zero (by simp)
 have k0_2 : fac [z0,z1,z2,z3]=0→z2=0 := fac_zero (by simp)
 have k0_3 : fac [z0,z1,z2,z3]=0→z3=0 := fac_zero (by simp)
 have l0_0 : z0 ≠ 0→0 < z0*fac [z0,z1,z2,z3] := fac_lead0
 have l0_1 : z0=0→z1 ≠ 0→0 < z1*fac [z0,z1,z2,z3] := fac_lead1
 have l0_2 : z0=0→z1=0→z2 ≠ 0→0 < z2*fac [z0,z1,z2,z3] := fac_lead2
 generalize fac [z0,z1,z2,z3]=g0 at *
 have nx0 : ¬ (((z0=0∧z1=0)∧z2=0)∧z3=0) := by
  rintro ⟨⟨⟨hx0,hx1⟩,hx2⟩,hx3⟩
  first | grind | (subst_vars; grind)
 have iw0 : g0 ≠ 0 := fun hg => nx0 ⟨⟨⟨(k0_0 hg),(k0_1 hg)⟩,(k0_2 hg)⟩,(k0_3 hg)⟩
 obtain ⟨iv0,ih0⟩ : ∃ i,g0*i=1 := ⟨g0⁻¹,Rat.mul_inv_cancel _ iw0⟩
 clear k0_0 k0_1 k0_2 k0_3
 have hl : 0 < z1*g0 := l0_1 u3 u4
 have E : z94=z100*g0 := by clear u1 hl; subst_vars; grind
 have hs := sd_sgn (V := z100) hl
 rw [← E] at hs; rw [e102]; exact hs.1 u1
theorem eS_f24 {z0 z1 z2 z3 z8 z9 z10 z11 z12 z13 z14 z22 z23 z24 z29 z39 z84 z85 z86 z87 z88 z89 z90 z91 z92 z93 z94 z95 z96 z97 z98 z99 z100 z103 : Rat} : (z8=0↔((z0=0∧z1=0)∧z2=0))→z22=z12-z9→z23=z13-z10→z24=z14-z11→(z29=0↔((z22=0∧z23=0)∧z24=0))→z39=0→z84=z0*fac [z0,z1,z2,z3]→z85=z1*fac [z0,z1,z2,z3]→z86=z2*fac [z0,z1,z2,z3]→z87=z3*fac [z0,z1,z2,z3]→z88=z84*z9→z89=z39+z88→z90=z85*z10→z91=z89+z90→z92=z86*z11→z93=z91+z92→z94=z93+z87→z95=z0*z9→z96=z1*z10→z97=z2*z11→z98=z95+z96→z99=z98+z97→z100=z99+z3→z103=z100*z0→(¬ (z8=0))→(z94 < 0)→(¬ (z29=0))→(¬ (z0=0))→z103 < 0 := by
 intro e8 e22 e23 e24 e29 e39 e84 e85 e86 e87 e88 e89 e90 e91 e92 e93 e94 e95 e96 e97 e98 e99 e100 e103 u0 u1 u2 u3
 rw [e8] at u0
 rw [e29] at u2
 clear  e8 e29
 have k0_0 : fac [z0,z1,z2,z3]=0→z0=0 := fac_zero (by simp)
 have k0_1 : fac [z0,z1,z2,z3]=0→z1=0 := fac_zero (by simp)
 have k0_2 : fac [z0,z1,z2,z3]=0→z2=0 := fac_zero (by simp)
 have k0_3 : fac [z0,z1,z2,z3]=0→z3=0 := fac_zero (by simp)
 have l0_0 : z0 ≠ 0→0 < z0*fac [z0,z1,z2,z3] := fac_lead0
 have l0_1 : z0=0→z1 ≠ 0→0 < z1*fac [z0,z1,z2,z3] := fac_lead1
 have l0_2 : z0=0→z1=0→z2 ≠ 0→0 < z2*fac [z0,z1,z2,z3] := fac_lead2
 generalize fac [z0,z1,z2,z3]=g0 at *
 have nx0 : ¬ (((z0=0∧z1=0)∧z2=0)∧z3=0) := by
  rintro ⟨⟨⟨hx0,hx1⟩,hx2⟩,hx3⟩
  first | grind | (subst_vars; grind)
 have iw0 : g0 ≠ 0 := fun hg => nx0 ⟨⟨⟨(k0_0 hg),(k0_1 hg)⟩,(k0_2 hg)⟩,(k0_3 hg)⟩
 obtain ⟨iv0,ih0⟩ : ∃ i,g0*i=1 := ⟨g0⁻¹,Rat.mul_inv_cancel _ iw0⟩
 clear k0_0 k0_1 k0_2 k0_3
 have hl : 0 < z0*g0 := l0_0 u3
 have E : z94=z100*g0 := by clear u1 hl; subst_vars; grind
 have hs := sd_sgn (V := z100) hl
 rw [← E] at hs; rw [e103]; exact hs.1 u1
theorem eS_f25 {z0 z1 z2 z3 z8 z9 z10 z11 z39 z84 z85 z86 z87 z88 z89 z90 z91 z92 z93 z94 z95 z96 z97 z98 z99 z100 z101 : Rat} : (z8=0↔((z0=0∧z1=0)∧z2=0))→z39=0→z84=z0*fac [z0,z1,z2,z3]→z85=z1*fac [z0,z1,z2,z3]→z86=z2*fac [z0,z1,z2,z3]→z87=z3*fac [z0,z1,z2,z3]→z88=z84*z9→z89=z39+z88→z90=z85*z10→z91=z89+z90→z92=z86*z11→z93=z91+z92→z94=z93+z87→z95=z0*z9→z96=z1*z10→z97=z2*z11→z98=z95+z96→z99=z98+z97→z100=z99+z3→z101=z100*z2→(¬ (z8=0))→(z94=0)→z101=0 := by
 intro e8 e39 e84 e85 e86 e87 e88 e89 e90 e91 e92 e93 e94 e95 e96 e97 e98 e99 e100 e101 u0 u1
 rw [e8] at u0
 clear  e8
 rw [u1] at e94
 have k0_0 : fac [z0,z1,z2,z3]=0→z0=0 := fac_zero (by simp)
 have k0_1 : fac [z0,z1,z2,z3]=0→z1=0 := fac_zero (by simp)
 have k0_2 : fac [z0,z1,z2,z3]=0→z2=0 := fac_zero (by simp)
 have k0_3 : fac [z0,z1,z2,z3]=0→z3=0 := fac_zero (by simp)
 have l0_0 : z0 ≠ 0→0 < z0*fac [z0,z1,z2,z3] := fac_lead0
 have l0_1 : z0=0→z1 ≠ 0→0 < z1*fac [z0,z1,z2,z3] := fac_lead1
 have l0_2 : z0=0→z1=0→z2 ≠ 0→0 < z2*fac [z0,z1,z2,z3] := fac_lead2
 generalize fac [z0,z1,z2,z3]=g0 at *
 have nx0 : ¬ (((z0=0∧z1=0)∧z2=0)∧z3=0) := by
  rintro ⟨⟨⟨hx0,hx1⟩,hx2⟩,hx3⟩
  first | grind | (subst_vars; grind)
 have iw0 : g0 ≠ 0 := fun hg => nx0 ⟨⟨⟨(k0_0 hg),(k0_1 hg)⟩,(k0_2 hg)⟩,(k0_3 hg)⟩
 obtain ⟨iv0,ih0⟩ : ∃ i,g0*i=1 := ⟨g0⁻¹,Rat.mul_inv_cancel _ iw0⟩
 clear k0_0 k0_1 k0_2 k0_3
 subst_vars; grind
theorem eS_f26 {z0 z1 z2 z3 z8 z9 z10 z11 z39 z84 z85 z86 z87 z88 z89 z90 z91 z92 z93 z94 z95 z96 z97 z98 z99 z100 z102 : Rat} : (z8=0↔((z0=0∧z1=0)∧z2=0))→z39=0→z84=z0*fac [z0,z1,z2,z3]→z85=z1*fac [z0,z1,z2,z3]→z86=z2*fac [z0,z1,z2,z3]→z87=z3*fac [z0,z1,z2,z3]→z88=z84*z9→z89=z39+z88→z90=z85*z10→z91=z89+z90→z92=z86*z11→z93=z91+z92→z94=z93+z87→z95=z0*z9→z96=z1*z10→z97=z2*z11→z98=z95+z96→z99=z98+z97→z100=z99+z3→z102=z100*z1→(¬ (z8=0))→(z94=0)→(¬ (z1=0))→z102=0 := by
 intro e8 e39 e84 e85 e86 e87 e88 e89 e90 e91 e92 e93 e94 e95 e96 e97 e98 e99 e100 e102 u0 u1 u4
 rw [e8] at u0
 clear  e8
 rw [u1] at e94
 have k0_0 : fac [z0,z1,z2,z3]=0→z0=0 := fac_zero (by simp)
 have k0_1 : fac [z0,z1,z2,z3]=0→z1=0 := fac_zero (by simp)
 have k0_2 : fac [z0,z1,z2,z3]=0→z2=0 := fac_zero (by simp)
 have k0_3 : fac [z0,z1,z2,z3]=0→z3=0 := fac_zero (by simp)
 have l0_0 : z0 ≠ 0→0 < z0*fac [z0,z1,z2,z3] := fac_lead0
 have l0_1 : z0=0→z1 ≠ 0→0 < z1*fac [z0,z1,z2,z3] := fac_lead1
 have l0_2 : z0=0→z1=0→z2 ≠ 0→0 < z2*fac [z0,z1,z2,z3] := fac_lead2
 generalize fac [z0,z1,z2,z3]=g0 at *
 have nx0 : ¬ (((z0=0∧z1=0)∧z2=0)∧z3=0) := by
  rintro ⟨⟨⟨hx0,hx1⟩,hx2⟩,hx3⟩
  first | grind | (subst_vars; grind)
 have iw0 : g0 ≠ 0 := fun hg => nx0 ⟨⟨⟨(k0_0 hg),(k0_1 hg)⟩,(k0_2 hg)⟩,(k0_3 hg)⟩
 obtain ⟨iv0,ih0⟩ : ∃ i,g0*i=1 := ⟨g0⁻¹,Rat.mul_inv_cancel _ iw0⟩
 clear k0_0 k0_1 k0_2 k0_3
 subst_vars; grind
theorem eS_f27 {z0 z1 z2 z3 z8 z9 z10 z11 z39 z84 z85 z86 z87 z88 z89 z90 z91 z92 z93 z94 z95 z96 z97 z98 z99 z100 z103 : Rat} : (z8=0↔((z0=0∧z1=0)∧z2=0))→z39=0→z84=z0*fac [z0,z1,z2,z3]→z85=z1*fac [z0,z1,z2,z3]→z86=z2*fac [z0,z1,z2,z3]→z87=z3*fac [z0,z1,z2,z3]→z88=z84*z9→z89=z39+z88→z90=z85*z10→z91=z89+z90→z92=z86*z11→z93=z91+z92→z94=z93+z87→z95=z0*z9→z96=z1*z10→z97=z2*z11→z98=z95+z96→z99=z98+z97→z100=z99+z3→z103=z100*z0→(¬ (z8=0))→(z94=0)→(¬ (z0=0))→z103=0 := by
 intro e8 e39 e84 e85 e86 e87 e88 e89 e90 e91 e92 e93 e94 e95 e96 e97 e98 e99 e100 e103 u0 u1 u3
 rw [e8] at u0
 clear  e8
 rw [u1] at e94
 have k0_0 : fac [z0,z1,z2,z3]=0→z0=0 := fac_zero (by simp)
 have k0_1 : fac [z0,z1,z2,z3]=0→z1=0 := fac_zero (by simp)
 have k0_2 : fac [z0,z1,z2,z3]=0→z2=0 := fac_zero (by simp)
 have k0_3 : fac [z0,z1,z2,z3]=0→z3=0 := fac_zero (by simp)
 have l0_0 : z0 ≠ 0→0 < z0*fac [z0,z1,z2,z3] := fac_lead0
 have l0_1 : z0=0→z1 ≠ 0→0 < z1*fac [z0,z1,z2,z3] := fac_lead1
 have l0_2 : z0=0→z1=0→z2 ≠ 0→0 < z2*fac [z0,z1,z2,z3] := fac_lead2
 generalize fac [z0,z1,z2,z3]=g0 at *
 have nx0 : ¬ (((z0=0∧z1=0)∧z2=0)∧z3=0) := by
  rintro ⟨⟨⟨hx0,hx1⟩,hx2⟩,hx3⟩
  first | grind | (subst_vars; grind)
 have iw0 : g0 ≠ 0 := fun hg => nx0 ⟨⟨⟨(k0_0 hg),(k0_1 hg)⟩,(k0_2 hg)⟩,(k0_3 hg)⟩
 obtain ⟨iv0,ih0⟩ : ∃ i,g0*i=1 := ⟨g0⁻¹,Rat.mul_inv_cancel _ iw0⟩
 clear k0_0 k0_1 k0_2 k0_3
 subst_vars; grind
theorem eS_f28 {z0 z1 z2 z3 z8 z9 z10 z11 z12 z13 z14 z22 z23 z24 z29 z39 z84 z85 z86 z87 z88 z89 z90 z91 z92 z93 z94 z95 z96 z97 z98 z99 z100 z101 : Rat} : (z8=0↔((z0=0∧z1=0)∧z2=0))→z22=z12-z9→z23=z13-z10→z24=z14-z11→(z29=0↔((z22=0∧z23=0)∧z24=0))→z39=0→z84=z0*fac [z0,z1,z2,z3]→z85=z1*fac [z0,z1,z2,z3]→z86=z2*fac [z0,z1,z2,z3]→z87=z3*fac [z0,z1,z2,z3]→z88=z84*z9→z89=z39+z88→z90=z85*z10→z91=z89+z90→z92=z86*z11→z93=z91+z92→z94=z93+z87→z95=z0*z9→z96=z1*z10→z97=z2*z11→z98=z95+z96→z99=z98+z97→z100=z99+z3→z101=z100*z2→(¬ (z8=0))→(z94=0)→(¬ (z29=0))→z101=0 := by
 intro e8 e22 e23 e24 e29 e39 e84 e85 e86 e87 e88 e89 e90 e91 e92 e93 e94 e95 e96 e97 e98 e99 e100 e101 u0 u1 u2
 rw [e8] at u0
 rw [e29] at u2
 clear  e8 e29
 rw [u1] at e94
 have k0_0 : fac [z0,z1,z2,z3]=0→z0=0 := fac_zero (by simp)
 have k0_1 : fac [z0,z1,z2,z3]=0→z1=0 := fac_zero (by simp)
 have k0_2 : fac [z0,z1,z2,z3]=0→z2=0 := fac_zero (by simp)
 have k0_3 : fac [z0,z1,z2,z3]=0→z3=0 := fac_zero (by simp)
 have l0_0 : z0 ≠ 0→0 < z0*fac [z0,z1,z2,z3] := fac_lead0
 have l0_1 : z0=0→z1 ≠ 0→0 < z1*fac [z0,z1,z2,z3] := fac_lead1
 have l0_2 : z0=0→z1=0→z2 ≠ 0→0 < z2*fac [z0,z1,z2,z3] := fac_lead2
 generalize fac [z0,z1,z2,z3]=g0 at *
 have nx0 : ¬ (((z0=0∧z1=0)∧z2=0)∧z3=0) := by
  rintro ⟨⟨⟨hx0,hx1⟩,hx2⟩,hx3⟩
  first | grind | (subst_vars; grind)
 have iw0 : g0 ≠ 0 := fun hg => nx0 ⟨⟨⟨(k0_0 hg),(k0_1 hg)⟩,(k0_2 hg)⟩,(k0_3 hg)⟩
 obtain ⟨iv0,ih0⟩ : ∃ i,g0*i=1 := ⟨g0⁻¹,Rat.mul_inv_cancel _ iw0⟩
 clear k0_0 k0_1 k0_2 k0_3
 subst_vars; grind
theorem eS_f29 {z0 z1 z2 z3 z8 z9 z10 z11 z12 z13 z14 z22 z23 z24 z29 z39 z84 z85 z86 z87 z88 z89 z90 z91 z92 z93 z94 z95 z96 z97 z98 z99 z100 z102 : Rat} : (z8=0↔((z0=0∧z1=0)∧z2=0))→z22=z12-z9→z23=z13-z10→z24=z14-z11→(z29=0↔((z22=0∧z23=0)∧z24=0))→z39=0→z84=z0*fac [z0,z1,z2,z3]→z85=z1*fac [z0,z1,z2,z3]→z86=z2*fac [z0,z1,z2,z3]→z87=z3*fac [z0,z1,z2,z3]→z88=z84*z9→z89=z39+z88→z90=z85*z10→z91=z89+z90→z92=z86*z11→z93=z91+z92→z94=z93+z87→z95=z0*z9→z96=z1*z10→z97=z2*z11→z98=z95+z96→z99=z98+z97→z100=z99+z3→z102=z100*z1→(¬ (z8=0))→(z94=0)→(¬ (z29=0))→(¬ (z1=0))→z102=0 := by
 intro e8 e22 e23 e24 e29 e39 e84 e85 e86 e87 e88 e89 e90 e91 e92 e93 e94 e95 e96 e97 e98 e99 e100 e102 u0 u1 u2 u4
 rw [e8] at u0
 rw [e29] at u2
 clear  e8 e29
 rw [u1] at e94
 have k0_0 : fac [z0,z1,z2,z3]=0→z0=0 := fac_zero (by simp)
 have k0_1 : fac [z0,z1,z2,z3]=0→z1=0 := fac_zero (by simp)
 have k0_2 : fac [z0,z1,z2,z3]=0→z2=0 := fac_zero (by simp)
 have k0_3 : fac [z0,z1,z2,z3]=0→z3=0 := fac_zero (by simp)
 have l0_0 : z0 ≠ 0→0 < z0*fac [z0,z1,z2,z3] := fac_lead0
 have l0_1 : z0=0→z1 ≠ 0→0 < z1*fac [z0,z1,z2,z3] := fac_lead1
 have l0_2 : z0=0→z1=0→z2 ≠ 0→0 < z2*fac [z0,z1,z2,z3] := fac_lead2
 generalize fac [z0,z1,z2,z3]=g0 at *
 have nx0 : ¬ (((z0=0∧z1=0)∧z2=0)∧z3=0) := by
  rintro ⟨⟨⟨hx0,hx1⟩,hx2⟩,hx3⟩
  first | grind | (subst_vars; grind)
 have iw0 : g0 ≠ 0 := fun hg => nx0 ⟨⟨⟨(k0_0 hg),(k0_1 hg)⟩,(k0_2 hg)⟩,(k0_3 hg)⟩
 obtain ⟨iv0,ih0⟩ : ∃ i,g0*i=1 := ⟨g0⁻¹,Rat.mul_inv_cancel _ iw0⟩
 clear k0_0 k0_1 k0_2 k0_3
 subst_vars; grind
theorem eS_f30 {z0 z1 z2 z3 z8 z9 z10 z11 z12 z13 z14 z22 z23 z24 z29 z39 z84 z85 z86 z87 z88 z89 z90 z91 z92 z93 z94 z95 z96 z97 z98 z99 z100 z103 : Rat} : (z8=0↔((z0=0∧z1=0)∧z2=0))→z22=z12-z9→z23=z13-z10→z24=z14-z11→(z29=0↔((z22=0∧z23=0)∧z24=0))→z39=0→z84=z0*fac [z0,z1,z2,z3]→z85=z1*fac [z0,z1,z2,z3]→z86=z2*fac [z0,z1,z2,z3]→z87=z3*fac [z0,z1,z2,z3]→z88=z84*z9→z89=z39+z88→z90=z85*z10→z91=z89+z90→z92=z86*z11→z93=z91+z92→z94=z93+z87→z95=z0*z9→z96=z1*z10→z97=z2*z11→z98=z95+z96→z99=z98+z97→z100=z99+z3→z103=z100*z0→(¬ (z8=0))→(z94=0)→(¬ (z29=0))→(¬ (z0=0))→z103=0 := by
 intro e8 e22 e23 e24 e29 e39 e84 e85 e86 e87 e88 e89 e90 e91 e92 e93 e94 e95 e96 e97 e98 e99 e100 e103 u0 u1 u2 u3
 rw [e8] at u0
 rw [e29] at u2
 clear  e8 e29
 rw [u1] at e94
 have k0_0 : fac [z0,z1,z2,z3]=0→z0=0 := fac_zero (by simp)
 have k0_1 : fac [z0,z1,z2,z3]=0→z1=0 := fac_zero (by simp)
 have k0_2 : fac [z0,z1,z2,z3]=0→z2=0 := fac_zero (by simp)
 have k0_3 : fac [z0,z1,z2,z3]=0→z3=0 := fac_zero (by simp)
 have l0_0 : z0 ≠ 0→0 < z0*fac [z0,z1,z2,z3] := fac_lead0
 have l0_1 : z0=0→z1 ≠ 0→0 < z1*fac [z0,z1,z2,z3] := fac_lead1
 have l0_2 : z0=0→z1=0→z2 ≠ 0→0 < z2*fac [z0,z1,z2,z3] := fac_lead2
 generalize fac [z0,z1,z2,z3]=g0 at *
 have nx0 : ¬ (((z0=0∧z1=0)∧z2=0)∧z3=0) := by
  rintro ⟨⟨⟨hx0,hx1⟩,hx2⟩,hx3⟩
  first | grind | (subst_vars; grind)
 have iw0 : g0 ≠ 0 := fun hg => nx0 ⟨⟨⟨(k0_0 hg),(k0_1 hg)⟩,(k0_2 hg)⟩,(k0_3 hg)⟩
 obtain ⟨iv0,ih0⟩ : ∃ i,g0*i=1 := ⟨g0⁻¹,Rat.mul_inv_cancel _ iw0⟩
 clear k0_0 k0_1 k0_2 k0_3
 subst_vars; grind
theorem eS_f31 {z0 z1 z2 z3 z8 z9 z10 z11 z39 z84 z85 z86 z87 z88 z89 z90 z91 z92 z93 z94 z95 z96 z97 z98 z99 z100 z101 : Rat} : (z8=0↔((z0=0∧z1=0)∧z2=0))→z39=0→z84=z0*fac [z0,z1,z2,z3]→z85=z1*fac [z0,z1,z2,z3]→z86=z2*fac [z0,z1,z2,z3]→z87=z3*fac [z0,z1,z2,z3]→z88=z84*z9→z89=z39+z88→z90=z85*z10→z91=z89+z90→z92=z86*z11→z93=z91+z92→z94=z93+z87→z95=z0*z9→z96=z1*z10→z97=z2*z11→z98=z95+z96→z99=z98+z97→z100=z99+z3→z101=z100*z2→(¬ (z8=0))→(0 < z94)→(z0=0)→(z1=0)→0 < z101 := by
 intro e8 e39 e84 e85 e86 e87 e88 e89 e90 e91 e92 e93 e94 e95 e96 e97 e98 e99 e100 e101 u0 u1 u3 u4
 rw [e8] at u0
 clear  e8
 have k0_0 : fac [z0,z1,z2,z3]=0→z0=0 := fac_zero (by simp)
 have k0_1 : fac [z0,z1,z2,z3]=0→z1=0 := fac_zero (by simp)
 have k0_2 : fac [z0,z1,z2,z3]=0→z2=0 := fac_zero (by simp)
 have k0_3 : fac [z0,z1,z2,z3]=0→z3=0 := fac_zero (by simp)
 have l0_0 : z0 ≠ 0→0 < z0*fac [z0,z1,z2,z3] := fac_lead0
 have l0_1 : z0=0→z1 ≠ 0→0 < z1*fac [z0,z1,z2,z3] := fac_lead1
 have l0_2 : z0=0→z1=0→z2 ≠ 0→0 < z2*fac [z0,z1,z2,z3] := fac_lead2
 generalize fac [z0,z1,z2,z3]=g0 at *
 have nx0 : ¬ (((z0=0∧z1=0)∧z2=0)∧z3=0) := by
  rintro ⟨⟨⟨hx0,hx1⟩,hx2⟩,hx3⟩
  first | grind | (subst_vars; grind)
 have iw0 : g0 ≠ 0 := fun hg => nx0 ⟨⟨⟨(k0_0 hg),(k0_1 hg)⟩,(k0_2 hg)⟩,(k0_3 hg)⟩
 obtain ⟨iv0,ih0⟩ : ∃ i,g0*i=1 := ⟨g0⁻¹,Rat.mul_inv_cancel _ iw0⟩
 clear k0_0 k0_1 k0_2 k0_3
 have hl : 0 < z2*g0 := l0_2 u3 u4 (fun h => u0 ⟨⟨u3,u4⟩,h⟩)
 have E : z94=z100*g0 := by clear u1 hl; subst_vars; grind
 have hs := sd_sgn (V := z100) hl
 rw [← E] at hs; rw [e101]; exact hs.2 u1
theorem eS_f32 {z0 z1 z2 z3 z8 z9 z10 z11 z39 z84 z85 z86 z87 z88 z89 z90 z91 z92 z93 z94 z95 z96 z97 z98 z99 z100 z102 : Rat} : (z8=0↔((z0=0∧z1=0)∧z2=0))→z39=0→z84=z0*fac [z0,z1,z2,z3]→z85=z1*fac [z0,z1,z2,z3]→z86=z2*fac [z0,z1,z2,z3]→z87=z3*fac [z0,z1,z2,z3]→z88=z84*z9→z89=z39+z88→z90=z85*z10→z91=z89+z90→z92=z86*z11→z93=z91+z92→z94=z93+z87→z95=z0*z9→z96=z1*z10→z97=z2*z11→z98=z95+z96→z99=z98+z97→z100=z99+z3→z102=z100*z1→(¬ (z8=0))→(0 < z94)→(z0=0)→(¬ (z1=0))→0 < z102 := by
 intro e8 e39 e84 e85 e86 e87 e88 e89 e90 e91 e92 e93 e94 e95 e96 e97 e98 e99 e100 e102 u0 u1 u3 u4
 rw [e8] at u0
 clear  e8
 have k0_0 : fac [z0,z1,z2,z3]=0→z0=0 := fac_zero (by simp)
 have k0_1 : fac [z0,z1,z2,z3]=0→z1=0 := fac_zero (by simp)
 have k0_2 : fac [z0,z1,z2,z3]=0→z2=0 := fac_zero (by simp)
 have k0_3 : fac [z0,z1,z2,z3]=0→z3=0 := fac_zero (by simp)
 have l0_0 : z0 ≠ 0→0 < z0*fac [z0,z1,z2,z3] := fac_lead0
 have l0_1 : z0=0→z1 ≠ 0→0 < z1*fac [z0,z1,z2,z3] := fac_lead1
 have l0_2 : z0=0→z1=0→z2 ≠ 0→0 < z2*fac [z0,z1,z2,z3] := fac_lead2
 generalize fac [z0,z1,z2,z3]=g0 at *
 have nx0 : ¬ (((z0=0∧z1=0)∧z2=0)∧z3=0) := by
  rintro ⟨⟨⟨hx0,hx1⟩,hx2⟩,hx3⟩
  first | grind | (subst_vars; grind)
 have iw0 : g0 ≠ 0 := fun hg => nx0 ⟨⟨⟨(k0_0 hg),(k0_1 hg)⟩,(k0_2 hg)⟩,(k0_3 hg)⟩
 obtain ⟨iv0,ih0⟩ : ∃ i,g0*i=1 := ⟨g0⁻¹,Rat.mul_inv_cancel _ iw0⟩
 clear k0_0 k0_1 k0_2 k0_3
 have hl : 0 < z1*g0 := l0_1 u3 u4
 have E : z94=z100*g0 := by clear u1 hl; subst_vars; grind
 have hs := sd_sgn (V := z100) hl
 rw [← E] at hs; rw [e102]; exact hs.2 u1
theorem eS_f33 {z0 z1 z2 z3 z8 z9 z10 z11 z39 z84 z85 z86 z87 z88 z89 z90 z91 z92 z93 z94 z95 z96 z97 z98 z99 z100 z103 : Rat} : (z8=0↔((z0=0∧z1=0)∧z2=0))→z39=0→z84=z0*fac [z0,z1,z2,z3]→z85=z1*fac [z0,z1,z2,z3]→z86=z2*fac [z0,z1,z2,z3]→z87=z3*fac [z0,z1,z2,z3]→z88=z84*z9→z89=z39+z88→z90=z85*z10→z91=z89+z90→z92=z86*z11→z93=z91+z92→z94=z93+z87→z95=z0*z9→z96=z1*z10→z97=z2*z11→z98=z95+z96→z99=z98+z97→z100=z99+z3→z103=z100*z0→(¬ (z8=0))→(0 < z94)→(¬ (z0=0))→0 < z103 := by
 intro e8 e39 e84 e85 e86 e87 e88 e89 e90 e91 e92 e93 e94 e95 e96 e97 e98 e99 e100 e103 u0 u1 u3
 rw [e8] at u0
 clear  e8
 have k0_0 : fac [z0,z1,z2,z3]=0→z0=0 := fac_zero (by simp)
 have k0_1 : fac [z0,z1,z2,z3]=0→z1=0 := fac_zero (by simp)
 have k0_2 : fac [z0,z1,z2,z3]=0→z2=0 := fac_zero (by simp)
 have k0_3 : fac [z0,z1,z2,z3]=0→z3=0 := fac_zero (by simp)
 have l0_0 : z0 ≠ 0→0 < z0*fac [z0,z1,z2,z3] := fac_lead0
 have l0_1 : z0=0→z1 ≠ 0→0 < z1*fac [z0,z1,z2,z3] := fac_lead1
 have l0_2 : z0=0→z1=0→z2 ≠ 0→0 < z2*fac [z0,z1,z2,z3] := fac_lead2
 generalize fac [z0,z1,z2,z3]=g0 at *
 have nx0 : ¬ (((z0=0∧z1=0)∧z2=0)∧z3=0) := by
  rintro ⟨⟨⟨hx0,hx1⟩,hx2⟩,hx3⟩
  first | grind | (subst_vars; grind)
 have iw0 : g0 ≠ 0 := fun hg => nx0 ⟨⟨⟨(k0_0 hg),(k0_1 hg)⟩,(k0_2 hg)⟩,(k0_3 hg)⟩
 obtain ⟨iv0,ih0⟩ : ∃ i,g0*i=1 := ⟨g0⁻¹,Rat.mul_inv_cancel _ iw0⟩
 clear k0_0 k0_1 k0_2 k0_3
 have hl : 0 < z0*g0 := l0_0 u3
 have E : z94=z100*g0 := by clear u1 hl; subst_vars; grind
 have hs := sd_sgn (V := z100) hl
 rw [← E] at hs; rw [e103]; exact hs.2 u1
theorem eS_f34 {z0 z1 z2 z3 z8 z9 z10 z11 z12 z13 z14 z22 z23 z24 z29 z39 z84 z85 z86 z87 z88 z89 z90 z91 z92 z93 z94 z95 z96 z97 z98 z99 z100 z101 : Rat} : (z8=0↔((z0=0∧z1=0)∧z2=0))→z22=z12-z9→z23=z13-z10→z24=z14-z11→(z29=0↔((z22=0∧z23=0)∧z24=0))→z39=0→z84=z0*fac [z0,z1,z2,z3]→z85=z1*fac [z0,z1,z2,z3]→z86=z2*fac [z0,z1,z2,z3]→z87=z3*fac [z0,z1,z2,z3]→z88=z84*z9→z89=z39+z88→z90=z85*z10→z91=z89+z90→z92=z86*z11→z93=z91+z92→z94=z93+z87→z95=z0*z9→z96=z1*z10→z97=z2*z11→z98=z95+z96→z99=z98+z97→z100=z99+z3→z101=z100*z2→(¬ (z8=0))→(0 < z94)→(¬ (z29=0))→(z0=0)→(z1=0)→0 < z101 := by
 intro e8 e22 e23 e24 e29 e39 e84 e85 e86 e87 e88 e89 e90 e91 e92 e93 e94 e95 e96 e97 e98 e99 e100 e101 u0 u1 u2 u3 u4
 rw [e8] at u0
 rw [e29] at u2
 clear  e8 e29
 have k0_0 : fac [z0,z1,z2,z3]=0→z0=0 := fac_zero (by simp)
 have k0_1 : fac [z0,z1,z2,z3]=0→z1=0 := fac_zero (by simp)
 have k0_2 : fac [z0,z1,z2,z3]=0→z2=0 := fac_zero (by simp)
 have k0_3 : fac [z0,z1,z2,z3]=0→z3=0 := fac_zero (by simp)
 have l0_0 : z0 ≠ 0→0 < z0*fac [z0,z1,z2,z3] := fac_lead0
 have l0_1 : z0=0→z1 ≠ 0→0 < z1*fac [z0,z1,z2,z3] := fac_lead1
 have l0_2 : z0=0→z1=0→z2 ≠ 0→0 < z2*fac [z0,z1,z2,z3] := fac_lead2
 generalize fac [z0,z1,z2,z3]=g0 at *
 have nx0 : ¬ (((z0=0∧z1=0)∧z2=0)∧z3=0) := by
  rintro ⟨⟨⟨hx0,hx1⟩,hx2⟩,hx3⟩
  first | grind | (subst_vars; grind)
 have iw0 : g0 ≠ 0 := fun hg => nx0 ⟨⟨⟨(k0_0 hg),(k0_1 hg)⟩,(k0_2 hg)⟩,(k0_3 hg)⟩
 obtain ⟨iv0,ih0⟩ : ∃ i,g0*i=1 := ⟨g0⁻¹,Rat.mul_inv_cancel _ iw0⟩
 clear k0_0 k0_1 k0_2 k0_3
 have hl : 0 < z2*g0 := l0_2 u3 u4 (fun h => u0 ⟨⟨u3,u4⟩,h⟩)
 have E : z94=z100*g0 := by clear u1 hl; subst_vars; grind
 have hs := sd_sgn (V := z100) hl
 rw [← E] at hs; rw [e101]; exact hs.2 u1
theorem eS_f35 {z0 z1 z2 z3 z8 z9 z10 z11 z12 z13 z14 z22 z23 z24 z29 z39 z84 z85 z86 z87 z88 z89 z90 z91 z92 z93 z94 z95 z96 z97 z98 z99 z100 z102 : Rat} : (z8=0↔((z0=0∧z1=0)∧z2=0))→z22=z12-z9→z23=z13-z10→z24=z14-z11→(z29=0↔((z22=0∧z23=0)∧z24=0))→z39=0→z84=z0*fac [z0,z1,z2,z3]→z85=z1*fac [z0,z1,z2,z3]→z86=z2*fac [z0,z1,z2,z3]→z87=z3*fac [z0,z1,z2,z3]→z88=z84*z9→z89=z39+z88→z90=z85*z10→z91=z89+z90→z92=z86*z11→z93=z91+z92→z94=z93+z87→z95=z0*z9→z96=z1*z10→z97=z2*z11→z98=z95+z96→z99=z98+z97→z100=z99+z3→z102=z100*z1→(¬ (z8=0))→(0 < z94)→(¬ (z29=0))→(z0=0)→(¬ (z1=0))→0 < z102 := by
 intro e8 e22 e23 e24 e29 e39 e84 e85 e86 e87 e88 e89 e90 e91 e92 e93 e94 e95 e96 e97 e98 e99 e100 e102 u0 u1 u2 u3 u4
 rw [e8] at u0
 rw [e29] at u2
 clear  e8 e29
 have k0_0 : fac [z0,z1,z2,z3]=0→z0=0 := fac_zero (by simp)
 have k0_1 : fac [z0,z1,z2,z3]=0→z1=0 := fac_zero (by simp)
 have k0_2 : fac [z0,z1,z2,z3]=0→z2=0 := fac_zero (by simp)
 have k0_3 : fac [z0,z1,z2,z3]=0→z3=0 := fac_zero (by simp)
 have l0_0 : z0 ≠ 0→0 < z0*fac [z0,z1,z2,z3] := fac_lead0
 have l0_1 : z0=0→z1 ≠ 0→0 < z1*fac [z0,z1,z2,z3] := fac_lead1
 have l0_2 : z0=0→z1=0→z2 ≠ 0→0 < z2*fac [z0,z1,z2,z3] := fac_lead2
 generalize fac [z0,z1,z2,z3]=g0 at *
 have nx0 : ¬ (((z0=0∧z1=0)∧z2=0)∧z3=0) := by
  rintro ⟨⟨⟨hx0,hx1⟩,hx2⟩,hx3⟩
  first | grind | (subst_vars; grind)
 have iw0 : g0 ≠ 0 := fun hg => nx0 ⟨⟨⟨(k0_0 hg),(k0_1 hg)⟩,(k0_2 hg)⟩,(k0_3 hg)⟩
 obtain ⟨iv0,ih0⟩ : ∃ i,g0*i=1 := ⟨g0⁻¹,Rat.mul_inv_cancel _ iw0⟩
 clear k0_0 k0_1 k0_2 k0_3
 have hl : 0 < z1*g0 := l0_1 u3 u4
 have E : z94=z100*g0 := by clear u1 hl; subst_vars; grind
 have hs := sd_sgn (V := z100) hl
 rw [← E] at hs; rw [e102]; exact hs.2 u1
theorem eS_f36 {z0 z1 z2 z3 z8 z9 z10 z11 z12 z13 z14 z22 z23 z24 z29 z39 z84 z85 z86 z87 z88 z89 z90 z91 z92 z93 z94 z95 z96 z97 z98 z99 z100 z103 : Rat} : (z8=0↔((z0=0∧z1=0)∧z2=0))→z22=z12-z9→z23=z13-z10→z24=z14-z11→(z29=0↔((z22=0∧z23=0)∧z24=0))→z39=0→z84=z0*fac [z0,z1,z2,z3]→z85=z1*fac [z0,z1,z2,z3]→z86=z2*fac [z0,z1,z2,z3]→z87=z3*fac [z0,z1,z2,z3]→z88=z84*z9→z89=z39+z88→z90=z85*z10→z91=z89+z90→z92=z86*z11→z93=z91+z92→z94=z93+z87→z95=z0*z9→z96=z1*z10→z97=z2*z11→z98=z95+z96→z99=z98+z97→z100=z99+z3→z103=z100*z0→(¬ (z8=0))→(0 < z94)→(¬ (z29=0))→(¬ (z0=0))→0 < z103 := by
 intro e8 e22 e23 e24 e29 e39 e84 e85 e86 e87 e88 e89 e90 e91 e92 e93 e94 e95 e96 e97 e98 e99 e100 e103 u0 u1 u2 u3
 rw [e8] at u0
 rw [e29] at u2
 clear  e8 e29
 have k0_0 : fac [z0,z1,z2,z3]=0→z0=0 := fac_zero (by simp)
 have k0_1 : fac [z0,z1,z2,z3]=0→z1=0 := fac_zero (by simp)
 have k0_2 : fac [z0,z1,z2,z3]=0→z2=0 := fac_zero (by simp)
 have k0_3 : fac [z0,z1,z2,z3]=0→z3=0 := fac_zero (by simp)
 have l0_0 : z0 ≠ 0→0 < z0*fac [z0,z1,z2,z3] := fac_lead0
 have l0_1 : z0=0→z1 ≠ 0→0 < z1*fac [z0,z1,z2,z3] := fac_lead1
 have l0_2 : z0=0→z1=0→z2 ≠ 0→0 < z2*fac [z0,z1,z2,z3] := fac_lead2
 generalize fac [z0,z1,z2,z3]=g0 at *
 have nx0 : ¬ (((z0=0∧z1=0)∧z2=0)∧z3=0) := by
  rintro ⟨⟨⟨hx0,hx1⟩,hx2⟩,hx3⟩
  first | grind | (subst_vars; grind)
 have iw0 : g0 ≠ 0 := fun hg => nx0 ⟨⟨⟨(k0_0 hg),(k0_1 hg)⟩,(k0_2 hg)⟩,(k0_3 hg)⟩
 obtain ⟨iv0,ih0⟩ : ∃ i,g0*i=1 := ⟨g0⁻¹,Rat.mul_inv_cancel _ iw0⟩
 clear k0_0 k0_1 k0_2 k0_3
 have hl : 0 < z0*g0 := l0_0 u3
 have E : z94=z100*g0 := by clear u1 hl; subst_vars; grind
 have hs := sd_sgn (V := z100) hl
 rw [← E] at hs; rw [e103]; exact hs.2 u1
theorem eS_r0 : (callC (sx Tryz.prog eS_N [(0,8,0,1),(0,29,0,1),(0,37,0,1)] [(105,[])] eS_L eS_C eS_Z (prC [9])) [(89,60),(61,61),(17,65),(20,63)] 7 [] 5 eS_A [] 0).map (·.1)=some (kB true) := by kernel_rfl
theorem eS_r1 : (callC (sx Tryz.prog eS_N [(0,8,0,1),(0,29,0,0),(0,37,0,0),(0,58,0,0),(0,63,0,0),(0,69,0,1),(0,83,0,1)] [(105,[])] eS_L eS_C eS_Z (prC [9])) [(89,60),(61,61),(17,65),(20,63)] 8 [] 5 eS_A [] 0).map (·.1)=some (kB true) := by kernel_rfl
theorem eS_r2 : (callC (sx Tryz.prog eS_N [(0,8,0,0),(5,94,0,0),(0,29,0,1),(0,37,0,1),(0,0,0,1),(0,1,0,1),(0,2,0,0),(5,101,0,0)] [(105,[])] eS_L eS_C eS_Z (prC [9])) [(89,60),(61,61),(17,65),(20,63)] 7 [] 5 eS_A [] 0).map (·.1)=some (kB true) := by kernel_rfl
theorem eS_r3 : (callC (sx Tryz.prog eS_N [(0,8,0,0),(5,94,0,0),(0,29,0,1),(0,37,0,1),(0,0,0,1),(0,1,0,0),(5,102,0,0)] [(105,[])] eS_L eS_C eS_Z (prC [9])) [(89,60),(61,61),(17,65),(20,63)] 7 [] 5 eS_A [] 0).map (·.1)=some (kB true) := by kernel_rfl
theorem eS_r4 : (callC (sx Tryz.prog eS_N [(0,8,0,0),(5,94,0,0),(0,29,0,1),(0,37,0,1),(0,0,0,0),(5,103,0,0)] [(105,[])] eS_L eS_C eS_Z (prC [9])) [(89,60),(61,61),(17,65),(20,63)] 7 [] 5 eS_A [] 0).map (·.1)=some (kB true) := by kernel_rfl
theorem eS_r5 : (callC (sx Tryz.prog eS_N [(0,8,0,0),(5,94,0,0),(0,29,0,0),(0,37,0,0),(0,58,0,0),(0,63,0,0),(0,69,0,1),(0,83,0,1),(0,0,0,1),(0,1,0,1),(0,2,0,0),(5,101,0,0)] [(105,[])] eS_L eS_C eS_Z (prC [9])) [(89,60),(61,61),(17,65),(20,63)] 8 [] 5 eS_A [] 0).map (·.1)=some (kB true) := by kernel_rfl
theorem eS_r6 : (callC (sx Tryz.prog eS_N [(0,8,0,0),(5,94,0,0),(0,29,0,0),(0,37,0,0),(0,58,0,0),(0,63,0,0),(0,69,0,1),(0,83,0,1),(0,0,0,1),(0,1,0,0),(5,102,0,0)] [(105,[])] eS_L eS_C eS_Z (prC [9])) [(89,60),(61,61),(17,65),(20,63)] 8 [] 5 eS_A [] 0).map (·.1)=some (kB true) := by kernel_rfl
theorem eS_r7 : (callC (sx Tryz.prog eS_N [(0,8,0,0),(5,94,0,0),(0,29,0,0),(0,37,0,0),(0,58,0,0),(0,63,0,0),(0,69,0,1),(0,83,0,1),(0,0,0,0),(5,103,0,0)] [(105,[])] eS_L eS_C eS_Z (prC [9])) [(89,60),(61,61),(17,65),(20,63)] 8 [] 5 eS_A [] 0).map (·.1)=some (kB true) := by kernel_rfl
theorem eS_r8 : (callC (sx Tryz.prog eS_N [(0,8,0,0),(5,94,0,1),(0,29,0,1),(0,37,0,1),(0,0,0,1),(0,1,0,1),(0,2,0,0),(5,101,0,1)] [(105,[])] eS_L eS_C eS_Z (prC [9])) [(89,60),(61,61),(17,65),(20,63)] 7 [] 5 eS_A [] 0).map (·.1)=some (kB true) := by kernel_rfl
theorem eS_r9 : (callC (sx Tryz.prog eS_N [(0,8,0,0),(5,94,0,1),(0,29,0,1),(0,37,0,1),(0,0,0,1),(0,1,0,0),(5,102,0,1)] [(105,[])] eS_L eS_C eS_Z (prC [9])) [(89,60),(61,61),(17,65),(20,63)] 7 [] 5 eS_A [] 0).map (·.1)=some (kB true) := by kernel_rfl
theorem eS_r10 : (callC (sx Tryz.prog eS_N [(0,8,0,0),(5,94,0,1),(0,29,0,1),(0,37,0,1),(0,0,0,0),(5,103,0,1)] [(105,[])] eS_L eS_C eS_Z (prC [9])) [(89,60),(61,61),(17,65),(20,63)] 7 [] 5 eS_A [] 0).map (·.1)=some (kB true) := by kernel_rfl
theorem eS_r11 : (callC (sx Tryz.prog eS_N [(0,8,0,0),(5,94,0,1),(0,29,0,0),(0,37,0,0),(0,58,0,0),(0,63,0,0),(0,69,0,1),(0,83,0,1),(0,0,0,1),(0,1,0,1),(0,2,0,0),(5,101,0,1)] [(105,[])] eS_L eS_C eS_Z (prC [9])) [(89,60),(61,61),(17,65),(20,63)] 8 [] 5 eS_A [] 0).map (·.1)=some (kB true) := by kernel_rfl
theorem eS_r12 : (callC (sx Tryz.prog eS_N [(0,8,0,0),(5,94,0,1),(0,29,0,0),(0,37,0,0),(0,58,0,0),(0,63,0,0),(0,69,0,1),(0,83,0,1),(0,0,0,1),(0,1,0,0),(5,102,0,1)] [(105,[])] eS_L eS_C eS_Z (prC [9])) [(89,60),(61,61),(17,65),(20,63)] 8 [] 5 eS_A [] 0).map (·.1)=some (kB true) := by kernel_rfl
theorem eS_r13 : (callC (sx Tryz.prog eS_N [(0,8,0,0),(5,94,0,1),(0,29,0,0),(0,37,0,0),(0,58,0,0),(0,63,0,0),(0,69,0,1),(0,83,0,1),(0,0,0,0),(5,103,0,1)] [(105,[])] eS_L eS_C eS_Z (prC [9])) [(89,60),(61,61),(17,65),(20,63)] 8 [] 5 eS_A [] 0).map (·.1)=some (kB true) := by kernel_rfl
theorem eS_r14 : (callC (sx Tryz.prog eS_N [(0,8,0,0),(5,94,0,2),(0,29,0,1),(0,37,0,1),(0,0,0,1),(0,1,0,1),(0,2,0,0),(5,101,0,2)] [(105,[])] eS_L eS_C eS_Z (prC [9])) [(89,60),(61,61),(17,65),(20,63)] 7 [] 5 eS_A [] 0).map (·.1)=some (kB true) := by kernel_rfl
theorem eS_r15 : (callC (sx Tryz.prog eS_N [(0,8,0,0),(5,94,0,2),(0,29,0,1),(0,37,0,1),(0,0,0,1),(0,1,0,0),(5,102,0,2)] [(105,[])] eS_L eS_C eS_Z (prC [9])) [(89,60),(61,61),(17,65),(20,63)] 7 [] 5 eS_A [] 0).map (·.1)=some (kB true) := by kernel_rfl
theorem eS_r16 : (callC (sx Tryz.prog eS_N [(0,8,0,0),(5,94,0,2),(0,29,0,1),(0,37,0,1),(0,0,0,0),(5,103,0,2)] [(105,[])] eS_L eS_C eS_Z (prC [9])) [(89,60),(61,61),(17,65),(20,63)] 7 [] 5 eS_A [] 0).map (·.1)=some (kB true) := by kernel_rfl
theorem eS_r17 : (callC (sx Tryz.prog eS_N [(0,8,0,0),(5,94,0,2),(0,29,0,0),(0,37,0,0),(0,58,0,0),(0,63,0,0),(0,69,0,1),(0,83,0,1),(0,0,0,1),(0,1,0,1),(0,2,0,0),(5,101,0,2)] [(105,[])] eS_L eS_C eS_Z (prC [9])) [(89,60),(61,61),(17,65),(20,63)] 8 [] 5 eS_A [] 0).map (·.1)=some (kB true) := by kernel_rfl
theorem eS_r18 : (callC (sx Tryz.prog eS_N [(0,8,0,0),(5,94,0,2),(0,29,0,0),(0,37,0,0),(0,58,0,0),(0,63,0,0),(0,69,0,1),(0,83,0,1),(0,0,0,1),(0,1,0,0),(5,102,0,2)] [(105,[])] eS_L eS_C eS_Z (prC [9])) [(89,60),(61,61),(17,65),(20,63)] 8 [] 5 eS_A [] 0).map (·.1)=some (kB true) := by kernel_rfl
theorem eS_r19 : (callC (sx Tryz.prog eS_N [(0,8,0,0),(5,94,0,2),(0,29,0,0),(0,37,0,0),(0,58,0,0),(0,63,0,0),(0,69,0,1),(0,83,0,1),(0,0,0,0),(5,103,0,2)] [(105,[])] eS_L eS_C eS_Z (prC [9])) [(89,60),(61,61),(17,65),(20,63)] 8 [] 5 eS_A [] 0).map (·.1)=some (kB true) := by kernel_rfl
theorem eS_An {a b : Prop} (x : a) (y : b) : a∧b := ⟨x,y⟩
theorem eS_leaf {H : List (Nat × Nat × Nat × Nat)} {K : List (FuncId × List AC)} {k : Nat} {q : Nat→Rat} {σ : Nat→ByteArray} {args : List AV} {vs : List Value} {w : World} (hr : (callC (sx Tryz.prog eS_N H K eS_L eS_C eS_Z (prC [9])) [(89,60),(61,61),(17,65),(20,63)] k [] 5 args [] 0).map (·.1)=some (kB true)) (hσ : ∀ j,(σ j).size≤1048576) (hq : ∀ (a : Nat) nd,eS_N[a]? = some nd→q a=valN σ q nd) (h0 : ∀ a,eS_N.length≤a→q a=0) (hH : hAll q H) (hp : PreS w) (hA : ∀ K,A2 (avOn (cOn (evS q σ) K (fun _ => none) w)) args vs) : Calls Tryz.prog 5 vs.toArray w fun e w' => Below w.heap.size w w'∧e=.returned (.bool true) :=
 run_toldC' k (hy_ofA hσ eS_wf eS_sz eS_lt eS_cn hq h0 hH) (by simp [closed_spaced]) (by kernel_rfl) hr hp (hA K)
theorem eS_walk {w : World} {ga gb gc gd kx ky kz lx ly lz : ByteArray}  (sga : ga.size≤1048576) (sgb : gb.size≤1048576) (sgc : gc.size≤1048576) (sgd : gd.size≤1048576) (skx : kx.size≤1048576) (sky : ky.size≤1048576) (skz : kz.size≤1048576) (slx : lx.size≤1048576) (sly : ly.size≤1048576) (slz : lz.size≤1048576) (tab : Tab w) (mx : MaxL w) :
  Calls Tryz.prog 5 #[.agg #[.string ga,.string gb,.string gc,.string gd],.agg #[.string kx,.string ky,.string kz],.agg #[.string lx,.string ly,.string lz]] w fun e w' => Below w.heap.size w w'∧e=.returned (.bool true) := by
 have hσ : ∀ j,(sgOf [ga,gb,gc,gd,kx,ky,kz,lx,ly,lz] j).size≤1048576 := sgOf_size (by simp [sga,sgb,sgc,sgd,skx,sky,skz,slx,sly,slz])
 obtain ⟨q,hq,h0⟩ := nodes_exist (sgOf [ga,gb,gc,gd,kx,ky,kz,lx,ly,lz]) eS_N eS_wf
 have hA : ∀ K,A2 (avOn (cOn (evS q (sgOf [ga,gb,gc,gd,kx,ky,kz,lx,ly,lz])) K (fun _ => none) w)) [(false,[(true,[.inr (2,0,0,0,0),.inr (2,1,0,0,0),.inr (2,2,0,0,0),.inr (2,3,0,0,0)])]),(false,[(true,[.inr (2,4,0,0,0),.inr (2,5,0,0,0),.inr (2,6,0,0,0)])]),(false,[(true,[.inr (2,7,0,0,0),.inr (2,8,0,0,0),.inr (2,9,0,0,0)])])] [.agg #[.string ga,.string gb,.string gc,.string gd],.agg #[.string kx,.string ky,.string kz],.agg #[.string lx,.string ly,.string lz]] := fun K => ⟨⟨⟨[.string ga,.string gb,.string gc,.string gd],rfl,rfl,rfl,rfl,rfl,trivial⟩,trivial⟩,⟨⟨[.string kx,.string ky,.string kz],rfl,rfl,rfl,rfl,trivial⟩,trivial⟩,⟨⟨[.string lx,.string ly,.string lz],rfl,rfl,rfl,rfl,trivial⟩,trivial⟩,trivial⟩
 have E15 : q 15=q 9+q 12 := hq 15 _ rfl
 have E16 : q 16=q 10+q 13 := hq 16 _ rfl
 have E17 : q 17=q 11+q 14 := hq 17 _ rfl
 have E18 : q 18=2 := (hq 18 _ rfl).trans eS_c18
 have E19 : q 19=q 15 / q 18 := hq 19 _ rfl
 have E20 : q 20=q 16 / q 18 := hq 20 _ rfl
 have E21 : q 21=q 17 / q 18 := hq 21 _ rfl
 have E22 : q 22=q 12 - q 9 := hq 22 _ rfl
 have E23 : q 23=q 13 - q 10 := hq 23 _ rfl
 have E24 : q 24=q 14 - q 11 := hq 24 _ rfl
 have E30 : q 30=q 9 - q 12 := hq 30 _ rfl
 have E31 : q 31=q 10 - q 13 := hq 31 _ rfl
 have E32 : q 32=q 11 - q 14 := hq 32 _ rfl
 have E38 : q 38=q 22*q 19 := hq 38 _ rfl
 have E39 : q 39=0 := (hq 39 _ rfl).trans eS_c39
 have E40 : q 40=q 39+q 38 := hq 40 _ rfl
 have E41 : q 41=q 23*q 20 := hq 41 _ rfl
 have E42 : q 42=q 40+q 41 := hq 42 _ rfl
 have E43 : q 43=q 24*q 21 := hq 43 _ rfl
 have E44 : q 44=q 42+q 43 := hq 44 _ rfl
 have E45 : q 45=-q 44 := hq 45 _ rfl
 have E46 : q 46=q 22*fac [q 22,q 23,q 24,q 45] := hq 46 _ rfl
 have E47 : q 47=q 23*fac [q 22,q 23,q 24,q 45] := hq 47 _ rfl
 have E48 : q 48=q 24*fac [q 22,q 23,q 24,q 45] := hq 48 _ rfl
 have E49 : q 49=q 45*fac [q 22,q 23,q 24,q 45] := hq 49 _ rfl
 have E50 : q 50=(1 / 2) := (hq 50 _ rfl).trans eS_c50
 have E51 : q 51=q 50*q 22 := hq 51 _ rfl
 have E52 : q 52=q 9+q 51 := hq 52 _ rfl
 have E53 : q 53=q 50*q 23 := hq 53 _ rfl
 have E54 : q 54=q 10+q 53 := hq 54 _ rfl
 have E55 : q 55=q 50*q 24 := hq 55 _ rfl
 have E56 : q 56=q 11+q 55 := hq 56 _ rfl
 have E64 : q 64=q 46*q 52 := hq 64 _ rfl
 have E65 : q 65=q 47*q 54 := hq 65 _ rfl
 have E66 : q 66=q 48*q 56 := hq 66 _ rfl
 have E67 : q 67=q 64+q 65 := hq 67 _ rfl
 have E68 : q 68=q 67+q 66 := hq 68 _ rfl
 have E69 : q 69=q 68+q 49 := hq 69 _ rfl
 have E70 : q 70=q 47*q 24 := hq 70 _ rfl
 have E71 : q 71=q 48*q 23 := hq 71 _ rfl
 have E72 : q 72=q 70 - q 71 := hq 72 _ rfl
 have E73 : q 73=q 48*q 22 := hq 73 _ rfl
 have E74 : q 74=q 46*q 24 := hq 74 _ rfl
 have E75 : q 75=q 73 - q 74 := hq 75 _ rfl
 have E76 : q 76=q 46*q 23 := hq 76 _ rfl
 have E77 : q 77=q 47*q 22 := hq 77 _ rfl
 have E78 : q 78=q 76 - q 77 := hq 78 _ rfl
 have E84 : q 84=q 0*fac [q 0,q 1,q 2,q 3] := hq 84 _ rfl
 have E85 : q 85=q 1*fac [q 0,q 1,q 2,q 3] := hq 85 _ rfl
 have E86 : q 86=q 2*fac [q 0,q 1,q 2,q 3] := hq 86 _ rfl
 have E87 : q 87=q 3*fac [q 0,q 1,q 2,q 3] := hq 87 _ rfl
 have E88 : q 88=q 84*q 9 := hq 88 _ rfl
 have E89 : q 89=q 39+q 88 := hq 89 _ rfl
 have E90 : q 90=q 85*q 10 := hq 90 _ rfl
 have E91 : q 91=q 89+q 90 := hq 91 _ rfl
 have E92 : q 92=q 86*q 11 := hq 92 _ rfl
 have E93 : q 93=q 91+q 92 := hq 93 _ rfl
 have E94 : q 94=q 93+q 87 := hq 94 _ rfl
 have E95 : q 95=q 0*q 9 := hq 95 _ rfl
 have E96 : q 96=q 1*q 10 := hq 96 _ rfl
 have E97 : q 97=q 2*q 11 := hq 97 _ rfl
 have E98 : q 98=q 95+q 96 := hq 98 _ rfl
 have E99 : q 99=q 98+q 97 := hq 99 _ rfl
 have E100 : q 100=q 99+q 3 := hq 100 _ rfl
 have E101 : q 101=q 100*q 2 := hq 101 _ rfl
 have E102 : q 102=q 100*q 1 := hq 102 _ rfl
 have E103 : q 103=q 100*q 0 := hq 103 _ rfl
 have Q8 : q 8=0 ↔ ((q 0=0∧q 1=0)∧q 2=0) := (sq_next (sq_next (sq_first (hq 4 _ rfl)) (hq 5 _ rfl) (hq 6 _ rfl)) (hq 7 _ rfl) (hq 8 _ rfl)).2
 have Q29 : q 29=0 ↔ ((q 22=0∧q 23=0)∧q 24=0) := (sq_next (sq_next (sq_first (hq 25 _ rfl)) (hq 26 _ rfl) (hq 27 _ rfl)) (hq 28 _ rfl) (hq 29 _ rfl)).2
 have Q37 : q 37=0 ↔ ((q 30=0∧q 31=0)∧q 32=0) := (sq_next (sq_next (sq_first (hq 33 _ rfl)) (hq 34 _ rfl) (hq 35 _ rfl)) (hq 36 _ rfl) (hq 37 _ rfl)).2
 have Q58 : q 58=0 ↔ (((q 22=0∧q 23=0)∧q 24=0)∧q 45=0) := (sq_next (sq_next (sq_next (sq_first (hq 25 _ rfl)) (hq 26 _ rfl) (hq 27 _ rfl)) (hq 28 _ rfl) (hq 29 _ rfl)) (hq 57 _ rfl) (hq 58 _ rfl)).2
 have Q63 : q 63=0 ↔ ((q 46=0∧q 47=0)∧q 48=0) := (sq_next (sq_next (sq_first (hq 59 _ rfl)) (hq 60 _ rfl) (hq 61 _ rfl)) (hq 62 _ rfl) (hq 63 _ rfl)).2
 have Q83 : q 83=0 ↔ ((q 72=0∧q 75=0)∧q 78=0) := (sq_next (sq_next (sq_first (hq 79 _ rfl)) (hq 80 _ rfl) (hq 81 _ rfl)) (hq 82 _ rfl) (hq 83 _ rfl)).2
 by_cases b8 : q 8=0
 ·
  by_cases b29 : q 29=0
  ·
   have b37 : q 37=0 := eS_f1 E22 E23 E24 Q29 E30 E31 E32 Q37 b29
   exact eS_leaf eS_r0 hσ hq h0 (eS_An (hT b8) (eS_An (hT b29) (eS_An (hT b37) trivial))) ⟨tab,mx⟩ hA
  ·
   have b37 : ¬ (q 37=0) := eS_f2 E22 E23 E24 Q29 E30 E31 E32 Q37 b29
   have b58 : ¬ (q 58=0) := eS_f3 E15 E16 E17 E18 E19 E20 E21 E22 E23 E24 Q29 E38 E39 E40 E41 E42 E43 E44 E45 Q58 b29
   have b63 : ¬ (q 63=0) := eS_f4 E15 E16 E17 E18 E19 E20 E21 E22 E23 E24 Q29 E38 E39 E40 E41 E42 E43 E44 E45 E46 E47 E48 Q63 b29
   have b69 : q 69=0 := eS_f5 E15 E16 E17 E18 E19 E20 E21 E22 E23 E24 Q29 E38 E39 E40 E41 E42 E43 E44 E45 E46 E47 E48 E49 E50 E51 E52 E53 E54 E55 E56 E64 E65 E66 E67 E68 E69 b29
   have b83 : q 83=0 := Q83.2 ⟨⟨eS_f6 E15 E16 E17 E18 E19 E20 E21 E22 E23 E24 Q29 E38 E39 E40 E41 E42 E43 E44 E45 E47 E48 E70 E71 E72 b29,eS_f7 E15 E16 E17 E18 E19 E20 E21 E22 E23 E24 Q29 E38 E39 E40 E41 E42 E43 E44 E45 E46 E48 E73 E74 E75 b29⟩,eS_f8 E15 E16 E17 E18 E19 E20 E21 E22 E23 E24 Q29 E38 E39 E40 E41 E42 E43 E44 E45 E46 E47 E76 E77 E78 b29⟩
   exact eS_leaf eS_r1 hσ hq h0 (eS_An (hT b8) (eS_An (hF b29) (eS_An (hF b37) (eS_An (hF b58) (eS_An (hF b63) (eS_An (hT b69) (eS_An (hT b83) trivial))))))) ⟨tab,mx⟩ hA
 ·
  rcases tri (q 94) with a_5_94_0 | a_5_94_0 | a_5_94_0
  ·
   by_cases b29 : q 29=0
   ·
    have b37 : q 37=0 := eS_f9 Q8 E22 E23 E24 Q29 E30 E31 E32 Q37 b8 b29
    by_cases b0 : q 0=0
    ·
     by_cases b1 : q 1=0
     ·
      have b2 : ¬ (q 2=0) := eS_f10 Q8 b8 b0 b1
      have a_5_101_0 : q 101 < 0 := eS_f11 Q8 E39 E84 E85 E86 E87 E88 E89 E90 E91 E92 E93 E94 E95 E96 E97 E98 E99 E100 E101 b8 a_5_94_0 b0 b1
      exact eS_leaf eS_r2 hσ hq h0 (eS_An (hF b8) (eS_An (h50 a_5_94_0) (eS_An (hT b29) (eS_An (hT b37) (eS_An (hT b0) (eS_An (hT b1) (eS_An (hF b2) (eS_An (h50 a_5_101_0) trivial)))))))) ⟨tab,mx⟩ hA
     ·
      have a_5_102_0 : q 102 < 0 := eS_f12 Q8 E39 E84 E85 E86 E87 E88 E89 E90 E91 E92 E93 E94 E95 E96 E97 E98 E99 E100 E102 b8 a_5_94_0 b0 b1
      exact eS_leaf eS_r3 hσ hq h0 (eS_An (hF b8) (eS_An (h50 a_5_94_0) (eS_An (hT b29) (eS_An (hT b37) (eS_An (hT b0) (eS_An (hF b1) (eS_An (h50 a_5_102_0) trivial))))))) ⟨tab,mx⟩ hA
    ·
     have a_5_103_0 : q 103 < 0 := eS_f13 Q8 E39 E84 E85 E86 E87 E88 E89 E90 E91 E92 E93 E94 E95 E96 E97 E98 E99 E100 E103 b8 a_5_94_0 b0
     exact eS_leaf eS_r4 hσ hq h0 (eS_An (hF b8) (eS_An (h50 a_5_94_0) (eS_An (hT b29) (eS_An (hT b37) (eS_An (hF b0) (eS_An (h50 a_5_103_0) trivial)))))) ⟨tab,mx⟩ hA
   ·
    have b37 : ¬ (q 37=0) := eS_f14 Q8 E22 E23 E24 Q29 E30 E31 E32 Q37 b8 b29
    have b58 : ¬ (q 58=0) := eS_f15 Q8 E15 E16 E17 E18 E19 E20 E21 E22 E23 E24 Q29 E38 E39 E40 E41 E42 E43 E44 E45 Q58 b8 b29
    have b63 : ¬ (q 63=0) := eS_f16 Q8 E15 E16 E17 E18 E19 E20 E21 E22 E23 E24 Q29 E38 E39 E40 E41 E42 E43 E44 E45 E46 E47 E48 Q63 b8 b29
    have b69 : q 69=0 := eS_f17 Q8 E15 E16 E17 E18 E19 E20 E21 E22 E23 E24 Q29 E38 E39 E40 E41 E42 E43 E44 E45 E46 E47 E48 E49 E50 E51 E52 E53 E54 E55 E56 E64 E65 E66 E67 E68 E69 b8 b29
    have b83 : q 83=0 := Q83.2 ⟨⟨eS_f18 Q8 E15 E16 E17 E18 E19 E20 E21 E22 E23 E24 Q29 E38 E39 E40 E41 E42 E43 E44 E45 E47 E48 E70 E71 E72 b8 b29,eS_f19 Q8 E15 E16 E17 E18 E19 E20 E21 E22 E23 E24 Q29 E38 E39 E40 E41 E42 E43 E44 E45 E46 E48 E73 E74 E75 b8 b29⟩,eS_f20 Q8 E15 E16 E17 E18 E19 E20 E21 E22 E23 E24 Q29 E38 E39 E40 E41 E42 E43 E44 E45 E46 E47 E76 E77 E78 b8 b29⟩
    by_cases b0 : q 0=0
    ·
     by_cases b1 : q 1=0
     ·
      have b2 : ¬ (q 2=0) := eS_f21 Q8 E22 E23 E24 Q29 b8 b29 b0 b1
      have a_5_101_0 : q 101 < 0 := eS_f22 Q8 E22 E23 E24 Q29 E39 E84 E85 E86 E87 E88 E89 E90 E91 E92 E93 E94 E95 E96 E97 E98 E99 E100 E101 b8 a_5_94_0 b29 b0 b1
      exact eS_leaf eS_r5 hσ hq h0 (eS_An (hF b8) (eS_An (h50 a_5_94_0) (eS_An (hF b29) (eS_An (hF b37) (eS_An (hF b58) (eS_An (hF b63) (eS_An (hT b69) (eS_An (hT b83) (eS_An (hT b0) (eS_An (hT b1) (eS_An (hF b2) (eS_An (h50 a_5_101_0) trivial)))))))))))) ⟨tab,mx⟩ hA
     ·
      have a_5_102_0 : q 102 < 0 := eS_f23 Q8 E22 E23 E24 Q29 E39 E84 E85 E86 E87 E88 E89 E90 E91 E92 E93 E94 E95 E96 E97 E98 E99 E100 E102 b8 a_5_94_0 b29 b0 b1
      exact eS_leaf eS_r6 hσ hq h0 (eS_An (hF b8) (eS_An (h50 a_5_94_0) (eS_An (hF b29) (eS_An (hF b37) (eS_An (hF b58) (eS_An (hF b63) (eS_An (hT b69) (eS_An (hT b83) (eS_An (hT b0) (eS_An (hF b1) (eS_An (h50 a_5_102_0) trivial))))))))))) ⟨tab,mx⟩ hA
    ·
     have a_5_103_0 : q 103 < 0 := eS_f24 Q8 E22 E23 E24 Q29 E39 E84 E85 E86 E87 E88 E89 E90 E91 E92 E93 E94 E95 E96 E97 E98 E99 E100 E103 b8 a_5_94_0 b29 b0
     exact eS_leaf eS_r7 hσ hq h0 (eS_An (hF b8) (eS_An (h50 a_5_94_0) (eS_An (hF b29) (eS_An (hF b37) (eS_An (hF b58) (eS_An (hF b63) (eS_An (hT b69) (eS_An (hT b83) (eS_An (hF b0) (eS_An (h50 a_5_103_0) trivial)))))))))) ⟨tab,mx⟩ hA
  ·
   by_cases b29 : q 29=0
   ·
    have b37 : q 37=0 := eS_f9 Q8 E22 E23 E24 Q29 E30 E31 E32 Q37 b8 b29
    by_cases b0 : q 0=0
    ·
     by_cases b1 : q 1=0
     ·
      have b2 : ¬ (q 2=0) := eS_f10 Q8 b8 b0 b1
      have a_5_101_0 : q 101=0 := eS_f25 Q8 E39 E84 E85 E86 E87 E88 E89 E90 E91 E92 E93 E94 E95 E96 E97 E98 E99 E100 E101 b8 a_5_94_0
      exact eS_leaf eS_r8 hσ hq h0 (eS_An (hF b8) (eS_An (h51 a_5_94_0) (eS_An (hT b29) (eS_An (hT b37) (eS_An (hT b0) (eS_An (hT b1) (eS_An (hF b2) (eS_An (h51 a_5_101_0) trivial)))))))) ⟨tab,mx⟩ hA
     ·
      have a_5_102_0 : q 102=0 := eS_f26 Q8 E39 E84 E85 E86 E87 E88 E89 E90 E91 E92 E93 E94 E95 E96 E97 E98 E99 E100 E102 b8 a_5_94_0 b1
      exact eS_leaf eS_r9 hσ hq h0 (eS_An (hF b8) (eS_An (h51 a_5_94_0) (eS_An (hT b29) (eS_An (hT b37) (eS_An (hT b0) (eS_An (hF b1) (eS_An (h51 a_5_102_0) trivial))))))) ⟨tab,mx⟩ hA
    ·
     have a_5_103_0 : q 103=0 := eS_f27 Q8 E39 E84 E85 E86 E87 E88 E89 E90 E91 E92 E93 E94 E95 E96 E97 E98 E99 E100 E103 b8 a_5_94_0 b0
     exact eS_leaf eS_r10 hσ hq h0 (eS_An (hF b8) (eS_An (h51 a_5_94_0) (eS_An (hT b29) (eS_An (hT b37) (eS_An (hF b0) (eS_An (h51 a_5_103_0) trivial)))))) ⟨tab,mx⟩ hA
   ·
    have b37 : ¬ (q 37=0) := eS_f14 Q8 E22 E23 E24 Q29 E30 E31 E32 Q37 b8 b29
    have b58 : ¬ (q 58=0) := eS_f15 Q8 E15 E16 E17 E18 E19 E20 E21 E22 E23 E24 Q29 E38 E39 E40 E41 E42 E43 E44 E45 Q58 b8 b29
    have b63 : ¬ (q 63=0) := eS_f16 Q8 E15 E16 E17 E18 E19 E20 E21 E22 E23 E24 Q29 E38 E39 E40 E41 E42 E43 E44 E45 E46 E47 E48 Q63 b8 b29
    have b69 : q 69=0 := eS_f17 Q8 E15 E16 E17 E18 E19 E20 E21 E22 E23 E24 Q29 E38 E39 E40 E41 E42 E43 E44 E45 E46 E47 E48 E49 E50 E51 E52 E53 E54 E55 E56 E64 E65 E66 E67 E68 E69 b8 b29
    have b83 : q 83=0 := Q83.2 ⟨⟨eS_f18 Q8 E15 E16 E17 E18 E19 E20 E21 E22 E23 E24 Q29 E38 E39 E40 E41 E42 E43 E44 E45 E47 E48 E70 E71 E72 b8 b29,eS_f19 Q8 E15 E16 E17 E18 E19 E20 E21 E22 E23 E24 Q29 E38 E39 E40 E41 E42 E43 E44 E45 E46 E48 E73 E74 E75 b8 b29⟩,eS_f20 Q8 E15 E16 E17 E18 E19 E20 E21 E22 E23 E24 Q29 E38 E39 E40 E41 E42 E43 E44 E45 E46 E47 E76 E77 E78 b8 b29⟩
    by_cases b0 : q 0=0
    ·
     by_cases b1 : q 1=0
     ·
      have b2 : ¬ (q 2=0) := eS_f21 Q8 E22 E23 E24 Q29 b8 b29 b0 b1
      have a_5_101_0 : q 101=0 := eS_f28 Q8 E22 E23 E24 Q29 E39 E84 E85 E86 E87 E88 E89 E90 E91 E92 E93 E94 E95 E96 E97 E98 E99 E100 E101 b8 a_5_94_0 b29
      exact eS_leaf eS_r11 hσ hq h0 (eS_An (hF b8) (eS_An (h51 a_5_94_0) (eS_An (hF b29) (eS_An (hF b37) (eS_An (hF b58) (eS_An (hF b63) (eS_An (hT b69) (eS_An (hT b83) (eS_An (hT b0) (eS_An (hT b1) (eS_An (hF b2) (eS_An (h51 a_5_101_0) trivial)))))))))))) ⟨tab,mx⟩ hA
     ·
      have a_5_102_0 : q 102=0 := eS_f29 Q8 E22 E23 E24 Q29 E39 E84 E85 E86 E87 E88 E89 E90 E91 E92 E93 E94 E95 E96 E97 E98 E99 E100 E102 b8 a_5_94_0 b29 b1
      exact eS_leaf eS_r12 hσ hq h0 (eS_An (hF b8) (eS_An (h51 a_5_94_0) (eS_An (hF b29) (eS_An (hF b37) (eS_An (hF b58) (eS_An (hF b63) (eS_An (hT b69) (eS_An (hT b83) (eS_An (hT b0) (eS_An (hF b1) (eS_An (h51 a_5_102_0) trivial))))))))))) ⟨tab,mx⟩ hA
    ·
     have a_5_103_0 : q 103=0 := eS_f30 Q8 E22 E23 E24 Q29 E39 E84 E85 E86 E87 E88 E89 E90 E91 E92 E93 E94 E95 E96 E97 E98 E99 E100 E103 b8 a_5_94_0 b29 b0
     exact eS_leaf eS_r13 hσ hq h0 (eS_An (hF b8) (eS_An (h51 a_5_94_0) (eS_An (hF b29) (eS_An (hF b37) (eS_An (hF b58) (eS_An (hF b63) (eS_An (hT b69) (eS_An (hT b83) (eS_An (hF b0) (eS_An (h51 a_5_103_0) trivial)))))))))) ⟨tab,mx⟩ hA
  ·
   by_cases b29 : q 29=0
   ·
    have b37 : q 37=0 := eS_f9 Q8 E22 E23 E24 Q29 E30 E31 E32 Q37 b8 b29
    by_cases b0 : q 0=0
    ·
     by_cases b1 : q 1=0
     ·
      have b2 : ¬ (q 2=0) := eS_f10 Q8 b8 b0 b1
      have a_5_101_0 : 0 < q 101 := eS_f31 Q8 E39 E84 E85 E86 E87 E88 E89 E90 E91 E92 E93 E94 E95 E96 E97 E98 E99 E100 E101 b8 a_5_94_0 b0 b1
      exact eS_leaf eS_r14 hσ hq h0 (eS_An (hF b8) (eS_An (h52 a_5_94_0) (eS_An (hT b29) (eS_An (hT b37) (eS_An (hT b0) (eS_An (hT b1) (eS_An (hF b2) (eS_An (h52 a_5_101_0) trivial)))))))) ⟨tab,mx⟩ hA
     ·
      have a_5_102_0 : 0 < q 102 := eS_f32 Q8 E39 E84 E85 E86 E87 E88 E89 E90 E91 E92 E93 E94 E95 E96 E97 E98 E99 E100 E102 b8 a_5_94_0 b0 b1
      exact eS_leaf eS_r15 hσ hq h0 (eS_An (hF b8) (eS_An (h52 a_5_94_0) (eS_An (hT b29) (eS_An (hT b37) (eS_An (hT b0) (eS_An (hF b1) (eS_An (h52 a_5_102_0) trivial))))))) ⟨tab,mx⟩ hA
    ·
     have a_5_103_0 : 0 < q 103 := eS_f33 Q8 E39 E84 E85 E86 E87 E88 E89 E90 E91 E92 E93 E94 E95 E96 E97 E98 E99 E100 E103 b8 a_5_94_0 b0
     exact eS_leaf eS_r16 hσ hq h0 (eS_An (hF b8) (eS_An (h52 a_5_94_0) (eS_An (hT b29) (eS_An (hT b37) (eS_An (hF b0) (eS_An (h52 a_5_103_0) trivial)))))) ⟨tab,mx⟩ hA
   ·
    have b37 : ¬ (q 37=0) := eS_f14 Q8 E22 E23 E24 Q29 E30 E31 E32 Q37 b8 b29
    have b58 : ¬ (q 58=0) := eS_f15 Q8 E15 E16 E17 E18 E19 E20 E21 E22 E23 E24 Q29 E38 E39 E40 E41 E42 E43 E44 E45 Q58 b8 b29
    have b63 : ¬ (q 63=0) := eS_f16 Q8 E15 E16 E17 E18 E19 E20 E21 E22 E23 E24 Q29 E38 E39 E40 E41 E42 E43 E44 E45 E46 E47 E48 Q63 b8 b29
    have b69 : q 69=0 := eS_f17 Q8 E15 E16 E17 E18 E19 E20 E21 E22 E23 E24 Q29 E38 E39 E40 E41 E42 E43 E44 E45 E46 E47 E48 E49 E50 E51 E52 E53 E54 E55 E56 E64 E65 E66 E67 E68 E69 b8 b29
    have b83 : q 83=0 := Q83.2 ⟨⟨eS_f18 Q8 E15 E16 E17 E18 E19 E20 E21 E22 E23 E24 Q29 E38 E39 E40 E41 E42 E43 E44 E45 E47 E48 E70 E71 E72 b8 b29,eS_f19 Q8 E15 E16 E17 E18 E19 E20 E21 E22 E23 E24 Q29 E38 E39 E40 E41 E42 E43 E44 E45 E46 E48 E73 E74 E75 b8 b29⟩,eS_f20 Q8 E15 E16 E17 E18 E19 E20 E21 E22 E23 E24 Q29 E38 E39 E40 E41 E42 E43 E44 E45 E46 E47 E76 E77 E78 b8 b29⟩
    by_cases b0 : q 0=0
    ·
     by_cases b1 : q 1=0
     ·
      have b2 : ¬ (q 2=0) := eS_f21 Q8 E22 E23 E24 Q29 b8 b29 b0 b1
      have a_5_101_0 : 0 < q 101 := eS_f34 Q8 E22 E23 E24 Q29 E39 E84 E85 E86 E87 E88 E89 E90 E91 E92 E93 E94 E95 E96 E97 E98 E99 E100 E101 b8 a_5_94_0 b29 b0 b1
      exact eS_leaf eS_r17 hσ hq h0 (eS_An (hF b8) (eS_An (h52 a_5_94_0) (eS_An (hF b29) (eS_An (hF b37) (eS_An (hF b58) (eS_An (hF b63) (eS_An (hT b69) (eS_An (hT b83) (eS_An (hT b0) (eS_An (hT b1) (eS_An (hF b2) (eS_An (h52 a_5_101_0) trivial)))))))))))) ⟨tab,mx⟩ hA
     ·
      have a_5_102_0 : 0 < q 102 := eS_f35 Q8 E22 E23 E24 Q29 E39 E84 E85 E86 E87 E88 E89 E90 E91 E92 E93 E94 E95 E96 E97 E98 E99 E100 E102 b8 a_5_94_0 b29 b0 b1
      exact eS_leaf eS_r18 hσ hq h0 (eS_An (hF b8) (eS_An (h52 a_5_94_0) (eS_An (hF b29) (eS_An (hF b37) (eS_An (hF b58) (eS_An (hF b63) (eS_An (hT b69) (eS_An (hT b83) (eS_An (hT b0) (eS_An (hF b1) (eS_An (h52 a_5_102_0) trivial))))))))))) ⟨tab,mx⟩ hA
    ·
     have a_5_103_0 : 0 < q 103 := eS_f36 Q8 E22 E23 E24 Q29 E39 E84 E85 E86 E87 E88 E89 E90 E91 E92 E93 E94 E95 E96 E97 E98 E99 E100 E103 b8 a_5_94_0 b29 b0
     exact eS_leaf eS_r19 hσ hq h0 (eS_An (hF b8) (eS_An (h52 a_5_94_0) (eS_An (hF b29) (eS_An (hF b37) (eS_An (hF b58) (eS_An (hF b63) (eS_An (hT b69) (eS_An (hT b83) (eS_An (hF b0) (eS_An (h52 a_5_103_0) trivial)))))))))) ⟨tab,mx⟩ hA
end Go.Proofs.YtnjaoobohkmjkaaGreatDoor
