/- Part 13 of the walks and of the mathematics under them: VP VPC VPD VPE VY VSZ VSA CFconed MKC. -/
import Derived.Test.YtkafcpodhflhpaaGreatDoorA2
import Derived.Test.YtkafcpodhflhpaaGreatDoorA12
set_option maxHeartbeats 16000000
set_option maxRecDepth 100000
/- VP -/
namespace Cx
open Go Go.RowKit
abbrev Hs := List (Nat × Nat × Nat × Nat)
def Sx.plus (S : Sx) (X : Hs) : Sx := { S with H := X ++ S.H }
abbrev Ask := Nat × Nat × Nat × Nat
def askZ (a : Nat) : Ask := (0,a,0,a)
def askOk (S : Sx) : Ask→Bool
 | (k,a,b,d) => (Nat.beq k 0 && (Nat.beq b 0 && Nat.beq d a)) || (Nat.beq k 3 && (match S.N[d]? with
  | some (op,ar) => Nat.beq op 3 && beqL ar [a,b]
  | none => false))
def acrossB (S : Sx) (a b : Nat) : List Nat→List Nat→Option (List Ask)
 | c :: l,d :: m => (S.nd 4 [a,d]).bind fun x => (S.nd 4 [c,b]).bind fun y => (S.nd 3 [x,y]).bind fun z => (acrossB S a b l m).map fun r => (3,x,y,z) :: r
 | _,_ => some []
def alikeB (S : Sx) : List Nat→List Nat→List Nat→List Nat→Option (List Ask)
 | pl,pm,a :: l,b :: m => (acrossB S a b pl pm).bind fun r => (alikeB S (pl ++ [a]) (pm ++ [b]) l m).map fun t => r ++ t
 | _,_,_,_ => some []
def sameA (S : Sx) : List Nat→List Nat→Option (List Ask)
 | a :: l,b :: m => (S.nd 3 [a,b]).bind fun d => (sameA S l m).map fun r => (3,a,b,d) :: r
 | _,_ => some []
def asks (S : Sx) (h : List HB) (code : Nat) (args : List AV) : Option (List Ask) :=
 match code with
 | 60 => arg1 (fun x => (asA x).bind fun cs => (qRow S cs).map fun l => l.map askZ) args
 | 61 => arg1 (fun x => (rowB h 1 x).bind fun p => (mapO (acX 0) p.2).map fun l => l.map askZ) args
 | 62 => arg2 (fun x y => (rowB h 1 x).bind fun p => (mapO (acX 0) p.2).bind fun l => (rowB h 1 y).bind fun p' => (mapO (acX 0) p'.2).bind fun m => alikeB S [] [] l m) args
 | 63 => arg1 (fun x => (asA x).bind fun cs => (mapO acTold cs).bind fun l => (plainOf S l).map fun xs => xs.map askZ) args
 | 67 => arg1 (fun x => (asA x).bind fun cs => (mapO (txNode S) (cs.take 3)).map fun l => l.map askZ) args
 | 65 => arg1 (fun x => (asA x).bind fun cs => (mapO (acX 0) cs).map fun l => l.map askZ) args
 | 66 => arg2 (fun x y => (asA x).bind fun cs => (asA y).bind fun ds => (mapO (acX 0) cs).bind fun l => (mapO (acX 0) ds).bind fun m => sameA S l m) args
 | 64 => arg1 (fun x => (asA x).bind fun cs => (qRow S cs).map fun l => (l.take 5).map askZ) args
 | 68 => arg2 (fun x _ => (asA x).bind fun cs => (qRow S cs).map fun l => (l.take 5).map askZ) args
 | _ => none
def splits : List Ask→Hs→List Hs
 | [],_ => []
 | (k,a,b,_) :: l,X => ((k,a,b,0) :: X) :: splits l ((k,a,b,1) :: X)
def allZ : List Ask→Hs→Hs
 | [],X => X
 | (k,a,b,_) :: l,X => allZ l ((k,a,b,1) :: X)
def bodyC (S : Sx) (call : CallF) : CallF := fun f args h nx => S.P.funcs[f]?.bind fun fn => fn.body.bind fun c => ifO (Nat.ble args.length fn.ntmps) ((runB S call fn.ntmps c { tm := numb1 0 args,h := h,nx := nx }).bind fun r =>
   ifO (Nat.ble r.1 1) ((mapO (resB S.P r.2) fn.results.toList).map fun xs => (tupB xs,r.2.h,r.2.nx)))
abbrev CRes := Option (AV × List HB × Nat)
def acZ : AC→Option Nat
 | .inr (k,j,a,x,y) => ifO (Nat.beq k 0 && (Nat.beq j 7 && (Nat.beq x 0 && Nat.beq y 0))) (some a)
 | _ => none
def weakV (S : Sx) (v : AV) : AV := match (asC v).bind (acX 4) with
 | some n => (match S.N[n]? with
  | some (_,[a,b]) => (match S.nd 4 [a,b],S.kn 0 a 0 with
   | some m,some r => bif Nat.beq m n && !Nat.beq 1 r then v1 (.inr (0,7,b,0,0)) else v
   | _,_ => v)
  | _ => v)
 | none => v
def weakR (S : Sx) (r : CRes) : CRes := r.map fun p => (weakV S p.1,p.2)
def ansK (v : AV) : Option (Bool ⊕ Nat) := match asB v with
 | some b => some (.inl b)
 | none => ((asC v).bind acZ).map .inr
def kAns : Bool ⊕ Nat→AV
 | .inl b => kB b
 | .inr a => v1 (.inr (0,7,a,0,0))
def sameK : Bool ⊕ Nat→Bool ⊕ Nat→Bool
 | .inl b,.inl c => b == c
 | .inr a,.inr b => Nat.beq a b
 | _,_ => false
def agree (h : List HB) (b : Bool ⊕ Nat) (hi : Nat) : CRes→Bool
 | some (v,h',nx') => (match ansK v with
  | some c => sameK b c
  | none => false) && (Nat.ble nx' hi && h.all fun x => h'.any fun y => Nat.beq y.1 x.1 && acsW x.2 y.2)
 | none => false
def topN : Nat→List CRes→Nat
 | m,[] => m
 | m,some p :: rs => topN (bif Nat.ble m p.2.2 then p.2.2 else m) rs
 | m,none :: rs => topN m rs
def joinC (h : List HB) (nx : Nat) (rs : List CRes) : CRes :=
 match rs with
 | some p :: _ => (ansK p.1).bind fun b => ifO (rs.all (agree h b (topN nx rs))) (some (kAns b,h,topN nx rs))
 | _ => none
def askIt (S : Sx) (X : Hs) (h : List HB) (c : Nat) (args : List AV) : Option (List Ask × Nat) :=
 (asks (S.plus X) h c args).bind fun l => ifO (l.all (askOk S)) ((sqN S (l.map (·.2.2.2))).bind fun s => ((S.plus X).kn 0 s 0).map fun r => (l,r))
theorem askIt_some {S : Sx} {X : Hs} {h : List HB} {c : Nat} {args : List AV} {l : List Ask} {r : Nat} (e : askIt S X h c args=some (l,r)) : (∀ a ∈ l,askOk S a=true)∧∃ s,sqN S (l.map (·.2.2.2))=some s∧(S.plus X).kn 0 s 0=some r := by
 unfold askIt at e
 simp only [Option.bind_eq_some_iff,ifO_some,Option.map_eq_some_iff,List.all_eq_true,Prod.mk.injEq] at e
 obtain ⟨l',_,h1,s,h2,r',h3,rfl,rfl⟩ := e
 exact ⟨h1,s,h2,h3⟩
def callC (S : Sx) (cs : List (FuncId × Nat)) : Nat→Hs→CallF
 | 0,_,_,_,_,_ => none
 | n+1,X,f,args,h,nx => match prGet f cs with
  | none => bodyC (S.plus X) (callC S cs n X) f args h nx
  | some c => match askIt S X h c args with
   | none => bodyC (S.plus X) (callC S cs n X) f args h nx
   | some (l,r) => bif Nat.beq 1 r then bodyC (S.plus (allZ l X)) (callC S cs n (allZ l X)) f args h nx
    else joinC h nx ((splits l X).map fun X' => weakR (S.plus X') (bodyC (S.plus X') (callC S cs n X') f args h nx))
section
variable {S : Sx} {E : Ev S.nb} {w0 : World}
theorem bodyC_ok {call : CallF} (hm : S.P.follows .mixedOrders=true) (N : Knows S E) (hP : PrimOk S E w0) (hC : CallOk S E w0 call) : CallOk S E w0 (bodyC S call) := fun f args h nx p hp γ w vs hi hA hb hlt hf => by
 unfold bodyC at hp
 simp only [Option.bind_eq_some_iff,ifO_some,Option.map_eq_some_iff,Nat.ble_eq] at hp
 obtain ⟨fn,h1,c,h2,h3,⟨e,s'⟩,h4,h5,xs,h6,rfl⟩ := hp
 dsimp only at h5 h6
 rcases (show e=0 ∨ e=1 by omega) with rfl | rfl
 all_goals
  obtain ⟨_,_,r⟩ := runB_ok hm N hP hC c _ _ _ h4
  refine calls_of_wp h1 h2 (r γ _ w _ ⟨hi,fun t v q => ?_,hb,hlt,?_,rfl⟩ hf fun a' w' γ' hef hs => ?_)
  ·obtain ⟨_,q2⟩ := numb1_get q
   rw [Nat.sub_zero] at q2
   obtain ⟨u,hu,hv⟩ := hA.get q2
   have hlt : t < vs.length := (List.getElem?_eq_some_iff.1 hu).1
   have : (vs.toArray ++ Array.replicate (fn.ntmps - vs.toArray.size) undef).getD t undef=u := by
    rw [Array.getD_eq_getD_getElem?,Array.getElem?_append_left (by simpa using hlt)]
    simp [hu]
   show avOn _ v ((vs.toArray ++ Array.replicate (fn.ntmps - vs.toArray.size) undef).getD t undef)
   rw [this]
   exact hv
  ·have := hA.len
   simp
   omega
  ·obtain ⟨v,hv,hx⟩ := results_run hs h6
   exact ⟨hs.df,v,hv,v,γ',rfl,hef,hx,hs.bx⟩
theorem asB_kB {v : AV} {b : Bool} (h : asB v=some b) : v=kB b := by
 unfold asB at h
 rw [Option.bind_eq_some_iff] at h
 obtain ⟨c,h1,h2⟩ := h
 unfold asC at h1
 split at h1
 ·cases h1
  unfold acB at h2
  split at h2
  ·cases h2
   rfl
  ·cases h2
 ·cases h1
theorem ansK_eq {v : AV} {k : Bool ⊕ Nat} (h : ansK v=some k) : v=kAns k := by
 unfold ansK at h
 split at h
 ·rename_i b hb
  cases h
  exact asB_kB hb
 ·rw [Option.map_eq_some_iff] at h
  obtain ⟨a,h,rfl⟩ := h
  rw [Option.bind_eq_some_iff] at h
  obtain ⟨c,h1,h2⟩ := h
  unfold asC at h1
  split at h1
  ·cases h1
   unfold acZ at h2
   split at h2
   ·rw [ifO_some,Bool.and_eq_true,Bool.and_eq_true,Bool.and_eq_true,Nat.beq_eq,Nat.beq_eq,Nat.beq_eq,Nat.beq_eq] at h2
    obtain ⟨⟨rfl,rfl,rfl,rfl⟩,h3⟩ := h2
    cases h3
    rfl
   ·cases h2
  ·cases h1
theorem sameK_eq {a b : Bool ⊕ Nat} (h : sameK a b=true) : a=b := by
 unfold sameK at h
 split at h
 ·rename_i x y
  have : x=y := by simpa using h
  rw [this]
 ·rw [Nat.beq_eq] at h
  rw [h]
 ·cases h
theorem sgnZ_zero (q : Rat) : sgnZ q=0 ↔ q=0 := by
 unfold sgnZ
 split
 ·rename_i hlt
  constructor
  ·intro q; cases q
  ·intro q; rw [q] at hlt; exact absurd hlt (by decide)
 ·split <;> simp_all
theorem weakV_on (N : Knows S E) {γ : Nat→Option Nat} {w : World} {v : AV} {r : Value} (h : avOn (cOn E S.K γ w) v r) : avOn (cOn E S.K γ w) (weakV S v) r := by
 unfold weakV
 split
 ·rename_i n hn
  rw [Option.bind_eq_some_iff] at hn
  obtain ⟨c,h1,h2⟩ := hn
  split
  ·split
   ·rename_i a b _ _ _ m r' hm hr
    cases e : (Nat.beq m n && !Nat.beq 1 r') with
    | true =>
     rw [Bool.and_eq_true,Nat.beq_eq,Bool.not_eq_true'] at e
     obtain ⟨rfl,e2⟩ := e
     have ez := (N.x4 _ _ _).1 (acX_on h2 (asC_on h1 h))
     refine v1_on ((N.x7 _ _ _).2 ⟨_,ez,?_⟩)
     have hz : ¬ E.q a=0 := fun q => by rw [(N.k0 a r' hr).2 q] at e2; cases e2
     rw [sgnZ_zero,N.k7 _ _ _ hm]
     constructor
     ·exact fun q => (Rat.mul_eq_zero.1 q).resolve_left hz
     ·intro q
      rw [q,Rat.mul_zero]
    | false => exact h
   ·exact h
  ·exact h
 ·exact h
theorem weak_ok {X : Hs} {call : CallF} (N : Knows (S.plus X) E) (hC : CallOk S E w0 call) : CallOk S E w0 (fun f args h nx => weakR (S.plus X) (call f args h nx)) := fun f args h nx p hp => by
 replace hp : weakR (S.plus X) (call f args h nx)=some p := hp
 unfold weakR at hp
 rw [Option.map_eq_some_iff] at hp
 obtain ⟨p0,hp0,rfl⟩ := hp
 intro γ w vs hi hA hb hlt hf
 refine (hC f args h nx p0 hp0 γ w vs hi hA hb hlt hf).mono ?_
 rintro _ w' ⟨r',γ',rfl,hef,hv,hx⟩
 exact ⟨r',γ',rfl,hef,weakV_on (S := S.plus X) N hv,hx⟩
theorem agree_some {h : List HB} {b : Bool ⊕ Nat} {hi : Nat} {r : CRes} (hr : agree h b hi r=true) : ∃ h' nx',r=some (kAns b,h',nx')∧nx'≤hi∧∀ x ∈ h,x ∈ h' := by
 unfold agree at hr
 split at hr
 ·rename_i v h' nx'
  rw [Bool.and_eq_true,Bool.and_eq_true,Nat.ble_eq,List.all_eq_true] at hr
  obtain ⟨h1,h2,h3⟩ := hr
  refine ⟨h',nx',?_,h2,fun x hx => ?_⟩
  ·split at h1
   ·rename_i c hc
    rw [ansK_eq hc,sameK_eq h1]
   ·cases h1
  ·have := h3 x hx
   rw [List.any_eq_true] at this
   obtain ⟨y,hy,e⟩ := this
   rw [Bool.and_eq_true,Nat.beq_eq] at e
   have : x=y := Prod.ext e.1.symm (acsW_eq e.2)
   rw [this]
   exact hy
 ·cases hr
variable {T : Hs→Prop} {z : Nat→Prop}
def AskTrue (S : Sx) (T : Hs→Prop) (z : Nat→Prop) : Prop := ∀ X,T X→∀ a,askOk S a=true→(z a.2.2.2→T ((a.1,a.2.1,a.2.2.1,1) :: X))∧(¬ z a.2.2.2→T ((a.1,a.2.1,a.2.2.1,0) :: X))
theorem allZ_true (hk : AskTrue S T z) : ∀ {l : List Ask} {X : Hs},T X→(∀ a ∈ l,askOk S a=true)→(∀ a ∈ l,z a.2.2.2)→T (allZ l X)
 | [],_,h,_,_ => h
 | (k,a,b,d) :: l,X,h,ho,hz => allZ_true (l := l) hk ((hk X h (k,a,b,d) (ho _ List.mem_cons_self)).1 (hz _ List.mem_cons_self)) (fun a ha => ho a (List.mem_cons_of_mem _ ha)) (fun a ha => hz a (List.mem_cons_of_mem _ ha))
theorem splits_true (hk : AskTrue S T z) : ∀ {l : List Ask} {X : Hs},T X→(∀ a ∈ l,askOk S a=true)→(∃ a ∈ l,¬ z a.2.2.2)→∃ X' ∈ splits l X,T X'
 | [],_,_,_,⟨_,h,_⟩ => by cases h
 | (k,a,b,d) :: l,X,h,ho,hz => by
  by_cases e : z d
  ·obtain ⟨X',h1,h2⟩ := splits_true (l := l) hk ((hk X h (k,a,b,d) (ho _ List.mem_cons_self)).1 e) (fun a ha => ho a (List.mem_cons_of_mem _ ha)) (by
    obtain ⟨c,hc,hn⟩ := hz
    rcases List.mem_cons.1 hc with rfl | hc
    ·exact (hn e).elim
    ·exact ⟨c,hc,hn⟩)
   exact ⟨X',List.mem_cons_of_mem _ h1,h2⟩
  ·exact ⟨_,List.mem_cons_self,(hk X h (k,a,b,d) (ho _ List.mem_cons_self)).2 e⟩
theorem callC_ok {cs : List (FuncId × Nat)} (hm : S.P.follows .mixedOrders=true) (hN : ∀ X,T X→Knows (S.plus X) E) (hP : ∀ X,T X→PrimOk (S.plus X) E w0) (hk : AskTrue S T z)
  (hs : ∀ X,T X→∀ l s r,sqN S l=some s→(S.plus X).kn 0 s 0=some r→(Nat.beq 1 r=true→∀ d ∈ l,z d)∧(Nat.beq 1 r=false→∃ d ∈ l,¬ z d)) : ∀ n X,T X→CallOk S E w0 (callC S cs n X)
 | 0,_,_ => fun _ _ _ _ _ h => by cases h
 | n+1,X,hX => fun f args h nx p hp => by
  have body : ∀ Y,T Y→CallOk S E w0 (bodyC (S.plus Y) (callC S cs n Y)) := fun Y hY => bodyC_ok (S := S.plus Y) hm (hN Y hY) (hP Y hY) (callC_ok hm hN hP hk hs n Y hY)
  unfold callC at hp
  split at hp
  ·exact body X hX f args h nx p hp
  ·split at hp
   ·exact body X hX f args h nx p hp
   rename_i l r hk'
   obtain ⟨hl,s,h1,h2⟩ := askIt_some hk'
   have h3 := hp
   obtain ⟨a1,a0⟩ := hs X hX _ s r h1 h2
   cases e : Nat.beq 1 r with
   | true =>
    rw [e] at h3
    exact body _ (allZ_true hk hX hl fun a ha => a1 e _ (List.mem_map_of_mem ha)) f args h nx p h3
   | false =>
    rw [e] at h3
    obtain ⟨d,hd,hz⟩ := a0 e
    obtain ⟨a,ha,rfl⟩ := List.mem_map.1 hd
    obtain ⟨X',m1,m2⟩ := splits_true hk hX hl ⟨a,ha,hz⟩
    replace h3 : joinC h nx ((splits l X).map fun X' => weakR (S.plus X') (bodyC (S.plus X') (callC S cs n X') f args h nx))=some p := h3
    unfold joinC at h3
    split at h3
    ·rename_i p0 rs hrs
     rw [Option.bind_eq_some_iff] at h3
     obtain ⟨b,hb,h4⟩ := h3
     rw [ifO_some,List.all_eq_true] at h4
     obtain ⟨h5,h6⟩ := h4
     cases h6
     obtain ⟨h',nx',q1,q2,q3⟩ := agree_some (h5 _ (List.mem_map_of_mem m1))
     intro γ w vs hi hA hb hlt hf
     refine (weak_ok (hN X' m2) (body X' m2) f args h nx _ q1 γ w vs hi hA hb hlt fun b g1 g2 => hf b g1 (Nat.lt_of_lt_of_le g2 q2)).mono ?_
     rintro _ w' ⟨r',γ',rfl,hef,hv,hx⟩
     exact ⟨r',γ',rfl,hef.wide (Nat.le_refl _) q2,hv,fun x hh => hx x (q3 x hh)⟩
    ·cases h3
end
end Cx
/- VPC -/
namespace Go.Proofs.YtkafcpodhflhpaaGreatDoor
open Cx Go Go.RowKit
section
variable {N : List Nd} {H : List (Nat × Nat × Nat × Nat)} {K : List (FuncId × List AC)} {L C : List (List Nat × Nat)} {Z : List Nat} {q : Nat→Rat} {σ : Nat→ByteArray} {w0 : World} {cl : List FuncId} {cs pr : List (FuncId × Nat)}
theorem kn_cons {k a b k' a' b' r' : Nat} {r : Nat} (h : knFrom k a b ((k',a',b',r') :: H)=some r) : (k=k'∧a=a'∧b=b'∧r=r') ∨ knFrom k a b H=some r := by
 unfold knFrom at h
 cases e : (Nat.beq k k' && (Nat.beq a a' && Nat.beq b b')) with
 | true =>
  rw [e] at h
  simp only [Bool.and_eq_true,Nat.beq_eq] at e
  exact Or.inl ⟨e.1,e.2.1,e.2.2,(Option.some.inj h).symm⟩
 | false =>
  rw [e] at h
  exact Or.inr h
theorem Hy.add0 (Y : Hy N H L C Z q σ) {a r : Nat} (h : Nat.beq 1 r=true ↔ q a=0) : Hy N ((0,a,0,r) :: H) L C Z q σ where
 nat := Y.nat
 qs := Y.qs
 zs := Y.zs
 par := Y.par
 lit := Y.lit
 k0 := fun a' r' g => by
  rcases kn_cons g with ⟨_,e1,_,e2⟩ | g
  ·rw [e1,e2]
   exact h
  ·exact Y.k0 a' r' g
 k1 := fun a' r' g => by
  rcases kn_cons g with ⟨e,_⟩ | g
  ·cases e
  ·exact Y.k1 a' r' g
 k2 := fun a' r' g => by
  rcases kn_cons g with ⟨e,_⟩ | g
  ·cases e
  ·exact Y.k2 a' r' g
 k4 := fun l a' b' r' g1 g => by
  rcases kn_cons g with ⟨e,_⟩ | g
  ·cases e
  ·exact Y.k4 l a' b' r' g1 g
 k3 := fun a' b' r' g => by
  rcases kn_cons g with ⟨e,_⟩ | g
  ·cases e
  ·exact Y.k3 a' b' r' g
 k6 := fun a' b' r' g => by
  rcases kn_cons g with ⟨e,_⟩ | g
  ·cases e
  ·exact Y.k6 a' b' r' g
 k5 := fun a' r' g => by
  rcases kn_cons g with ⟨e,_⟩ | g
  ·cases e
  ·exact Y.k5 a' r' g
theorem Hy.add3 (Y : Hy N H L C Z q σ) {a b r : Nat} (h : Nat.beq 1 r=true ↔ q a=q b) : Hy N ((3,a,b,r) :: H) L C Z q σ where
 nat := Y.nat
 qs := Y.qs
 zs := Y.zs
 par := Y.par
 lit := Y.lit
 k0 := fun a' r' g => by
  rcases kn_cons g with ⟨e,_⟩ | g
  ·cases e
  ·exact Y.k0 a' r' g
 k1 := fun a' r' g => by
  rcases kn_cons g with ⟨e,_⟩ | g
  ·cases e
  ·exact Y.k1 a' r' g
 k2 := fun a' r' g => by
  rcases kn_cons g with ⟨e,_⟩ | g
  ·cases e
  ·exact Y.k2 a' r' g
 k4 := fun l a' b' r' g1 g => by
  rcases kn_cons g with ⟨e,_⟩ | g
  ·cases e
  ·exact Y.k4 l a' b' r' g1 g
 k3 := fun a' b' r' g => by
  rcases kn_cons g with ⟨_,e1,e2,e3⟩ | g
  ·rw [e1,e2,e3]
   exact h
  ·exact Y.k3 a' b' r' g
 k6 := fun a' b' r' g => by
  rcases kn_cons g with ⟨e,_⟩ | g
  ·cases e
  ·exact Y.k6 a' b' r' g
 k5 := fun a' r' g => by
  rcases kn_cons g with ⟨e,_⟩ | g
  ·cases e
  ·exact Y.k5 a' r' g
theorem ask_true : AskTrue (sx Tryz.prog N H K L C Z pr) (fun X => Hy N (X ++ H) L C Z q σ) (fun d => q d=0) := fun X Y a ha => by
 obtain ⟨k,a,b,d⟩ := a
 have t1 : Nat.beq 1 1=true := rfl
 have t0 : Nat.beq 1 0 ≠ true := fun h => by cases h
 unfold askOk at ha
 rw [Bool.or_eq_true] at ha
 rcases ha with ha | ha
 ·simp only [Bool.and_eq_true,Nat.beq_eq] at ha
  obtain ⟨rfl,rfl,rfl⟩ := ha
  exact ⟨fun h => Hy.add0 Y ⟨fun _ => h,fun _ => t1⟩,fun h => Hy.add0 Y ⟨fun g => (t0 g).elim,fun g => (h g).elim⟩⟩
 ·rw [Bool.and_eq_true,Nat.beq_eq] at ha
  obtain ⟨rfl,hb⟩ := ha
  split at hb
  ·rename_i op ar hn
   rw [Bool.and_eq_true,Nat.beq_eq] at hb
   obtain ⟨rfl,hb⟩ := hb
   have e := beqL_eq hb
   subst e
   have hv : q d=q a - q b := Y.nat d _ hn
   have h2 : q d=0 ↔ q a=q b := by
    rw [hv]
    constructor <;> intro h <;> grind
   exact ⟨fun h => Hy.add3 Y ⟨fun _ => h2.1 h,fun _ => t1⟩,fun h => Hy.add3 Y ⟨fun g => (t0 g).elim,fun g => (h (h2.2 g)).elim⟩⟩
  ·cases hb
theorem sq_nn (y : Rat) : 0≤y*y := by
 by_cases h : y=0
 ·rw [h,Rat.zero_mul]
  exact Rat.le_refl
 ·exact Rat.le_of_lt (sq1_pos h)
theorem sq_sum {x y : Rat} (hx : 0≤x) : x+y*y=0 ↔ x=0∧y=0 := by
 constructor
 ·intro h
  have h2 := sq_nn y
  have h3 : x=0 := by grind
  refine ⟨h3,?_⟩
  have : y*y=0 := by grind
  rcases Rat.mul_eq_zero.1 this with g | g <;> exact g
 ·rintro ⟨rfl,rfl⟩
  grind
theorem sqF_val {H' : List (Nat × Nat × Nat × Nat)} (Y : Hy N H' L C Z q σ) : ∀ {l : List Nat} {s t : Nat},sqF (sx Tryz.prog N H K L C Z pr) s l=some t→0≤q s→0≤q t∧(q t=0 ↔ q s=0∧∀ d ∈ l,q d=0)
 | [],s,t,h,hs => by
  cases h
  exact ⟨hs,fun e => ⟨e,fun d hd => by cases hd⟩,fun e => e.1⟩
 | a :: l,s,t,h,hs => by
  unfold sqF at h
  simp only [Option.bind_eq_some_iff] at h
  obtain ⟨b,h1,c,h2,h3⟩ := h
  have e1 : q b=q a*q a := Hy.nd (H := H') (K := K) (pr := pr) Y h1
  have e2 : q c=q s+q b := Hy.nd (H := H') (K := K) (pr := pr) Y h2
  have n := sq_nn (q a)
  obtain ⟨g1,g2⟩ := sqF_val Y h3 (by grind)
  refine ⟨g1,g2.trans ?_⟩
  have e3 := sq_sum (y := q a) hs
  rw [e2,e1,e3]
  constructor
  ·rintro ⟨⟨x,y⟩,z⟩
   refine ⟨x,fun d hd => ?_⟩
   rcases List.mem_cons.1 hd with rfl | hd
   ·exact y
   ·exact z d hd
  ·rintro ⟨x,y⟩
   exact ⟨⟨x,y a List.mem_cons_self⟩,fun d hd => y d (List.mem_cons_of_mem _ hd)⟩
theorem sqN_val {H' : List (Nat × Nat × Nat × Nat)} (Y : Hy N H' L C Z q σ) {l : List Nat} {s : Nat} (h : sqN (sx Tryz.prog N H K L C Z pr) l=some s) : q s=0 ↔ ∀ d ∈ l,q d=0 := by
 unfold sqN at h
 split at h
 ·cases h
 ·rename_i a l
  rw [Option.bind_eq_some_iff] at h
  obtain ⟨b,h1,h2⟩ := h
  have e1 : q b=q a*q a := Hy.nd (H := H') (K := K) (pr := pr) Y h1
  have n := sq_nn (q a)
  obtain ⟨_,g⟩ := sqF_val Y h2 (by grind)
  rw [g,e1]
  constructor
  ·rintro ⟨x,y⟩ d hd
   rcases List.mem_cons.1 hd with rfl | hd
   ·rcases Rat.mul_eq_zero.1 x with x | x <;> exact x
   ·exact y d hd
  ·intro y
   refine ⟨?_,fun d hd => y d (List.mem_cons_of_mem _ hd)⟩
   rw [y a List.mem_cons_self,Rat.zero_mul]
theorem run_cases {f : FuncId} {args : List AV} {vs : List Value} {k : Nat} {p : List HB × Nat} {b : Bool} (Y : Hy N H L C Z q σ) (hm : (Tryz.prog).follows .mixedOrders=true) {w : World} (hP : ∀ H',Hy N H' L C Z q σ→PrimOk (sx Tryz.prog N H' K L C Z pr) (evS q σ) w) (hr : callC (sx Tryz.prog N H K L C Z pr) cs k [] f args [] 0=some (kB b,p))
  (hA : A2 (avOn (cOn (evS q σ) K (fun _ => none) w)) args vs) : Calls Tryz.prog f vs.toArray w fun e w' => Below w.heap.size w w'∧e=.returned (.bool b) := by
 refine (callC_ok (S := sx Tryz.prog N H K L C Z pr) (E := evS q σ) (w0 := w) (T := fun X => Hy N (X ++ H) L C Z q σ) (z := fun d => q d=0) hm (fun X hX => knows hX) (fun X hX => hP _ hX) ask_true ?_ k [] Y f args [] 0 (kB b,p) hr (fun _ => none) w vs ⟨Below.refl _ _,(fun _ _ h => by cases h)⟩ hA (fun x hx => by cases hx) (fun x hx => by cases hx) (fun _ _ _ => rfl)).mono ?_
 ·intro X hX l s r h1 h2
  have e := hX.k0 s r h2
  have g := sqN_val hX h1
  refine ⟨fun h => g.1 (e.1 h),fun h => ?_⟩
  have hn : ¬ ∀ d ∈ l,q d=0 := fun q' => by
   rw [e.2 (g.2 q')] at h
   cases h
  simpa using hn
 ·rintro _ w' ⟨r,γ',rfl,hef,hv,_⟩
  exact ⟨hef.wi.bel,by rw [show r=.bool b from (asC_on (v := kB b) (c := .inl (.bool b)) rfl hv).1]⟩
theorem run_toldC {f : FuncId} {args : List AV} {vs : List Value} {k : Nat} {p : List HB × Nat} {b : Bool} (Y : Hy N H L C Z q σ) (hc : ∀ f ∈ cl,Closed f) (hm : (Tryz.prog).follows .mixedOrders=true) (hr : callC (sx Tryz.prog N H K L C Z (prC cl)) cs k [] f args [] 0=some (kB b,p)) {w : World} (hp : PreS w)
  (hA : A2 (avOn (cOn (evS q σ) K (fun _ => none) w)) args vs) : Calls Tryz.prog f vs.toArray w fun e w' => Below w.heap.size w w'∧e=.returned (.bool b) := run_cases Y hm (fun _ Y' => primOk Y' hp hc) hr hA
theorem run_toldC' {f : FuncId} {args : List AV} {vs : List Value} (k : Nat) (Y : Hy N H L C Z q σ) (hc : ∀ f ∈ cl,Closed f) (hm : (Tryz.prog).follows .mixedOrders=true) (hr : (callC (sx Tryz.prog N H K L C Z (prC cl)) cs k [] f args [] 0).map (·.1)=some (kB true)) {w : World} (hp : PreS w)
  (hA : A2 (avOn (cOn (evS q σ) K (fun _ => none) w)) args vs) : Calls Tryz.prog f vs.toArray w fun e w' => Below w.heap.size w w'∧e=.returned (.bool true) := by
 rw [Option.map_eq_some_iff] at hr
 obtain ⟨⟨v,p⟩,h1,h2⟩ := hr
 dsimp only at h2
 subst h2
 exact run_toldC Y hc hm h1 hp hA
theorem sq_first {u x : Rat} (h : u=x*x) : 0≤u∧(u=0 ↔ x=0) := by
 rw [h]
 exact ⟨sq_nn x,fun e => (Rat.mul_eq_zero.1 e).elim id id,fun e => by rw [e,Rat.zero_mul]⟩
theorem sq_next {p : Prop} {s x v t : Rat} (h : 0≤s∧(s=0 ↔ p)) (hv : v=x*x) (ht : t=s+v) : 0≤t∧(t=0 ↔ (p∧x=0)) := by
 have n := sq_nn x
 refine ⟨by have := h.1; grind,?_⟩
 rw [ht,hv,sq_sum h.1,h.2]
end
end Go.Proofs.YtkafcpodhflhpaaGreatDoor
/- VPD -/
namespace Cx
open Go Go.RowKit
def a1sB : List A1→List A1→Bool
 | [],[] => true
 | (a,x) :: l,(b,y) :: m => (a == b && acsW x y) && a1sB l m
 | _,_ => false
theorem a1sB_eq : ∀ {l m : List A1},a1sB l m=true→l=m
 | [],[],_ => rfl
 | (a,x) :: l,(b,y) :: m,h => by
  unfold a1sB at h
  simp only [Bool.and_eq_true,beq_iff_eq] at h
  obtain ⟨⟨h1,h2⟩,h3⟩ := h
  rw [h1,acsW_eq h2,a1sB_eq h3]
 | [],_ :: _,h => by cases h
 | _ :: _,[],h => by cases h
def avsB : List AV→List AV→Bool
 | [],[] => true
 | (a,x) :: l,(b,y) :: m => (a == b && a1sB x y) && avsB l m
 | _,_ => false
theorem avsB_eq : ∀ {l m : List AV},avsB l m=true→l=m
 | [],[],_ => rfl
 | (a,x) :: l,(b,y) :: m,h => by
  unfold avsB at h
  simp only [Bool.and_eq_true,beq_iff_eq] at h
  obtain ⟨⟨h1,h2⟩,h3⟩ := h
  rw [h1,a1sB_eq h2,avsB_eq h3]
 | [],_ :: _,h => by cases h
 | _ :: _,[],h => by cases h
abbrev Memo := List (FuncId × List AV × AV)
def memoGet (f : FuncId) (args : List AV) : Memo→Option AV
 | [] => none
 | (g,bs,v) :: m => bif Nat.beq f g && avsB args bs then some v else memoGet f args m
theorem memoGet_mem {f : FuncId} {args : List AV} {v : AV} : ∀ {m : Memo},memoGet f args m=some v→(f,args,v) ∈ m
 | [],h => by cases h
 | (g,bs,u) :: m,h => by
  unfold memoGet at h
  cases e : (Nat.beq f g && avsB args bs) with
  | true =>
   rw [e] at h
   rw [Bool.and_eq_true,Nat.beq_eq] at e
   rw [e.1,avsB_eq e.2,show u=v from Option.some.inj h]
   exact List.mem_cons_self
  | false =>
   rw [e] at h
   exact List.mem_cons_of_mem _ (memoGet_mem h)
def bareC : AC→Bool
 | .inl _ => true
 | .inr (k,_) => Nat.ble k 2
def bareV (v : AV) : Bool := v.2.all fun x => x.2.all bareC
def callD (S : Sx) (cs : List (FuncId × Nat)) (M : Memo) : Nat→Hs→CallF
 | 0,_,_,_,_,_ => none
 | n+1,X,f,args,h,nx => match memoGet f args M with
  | some v => some (v,h,nx)
  | none => match prGet f cs with
   | none => bodyC (S.plus X) (callD S cs M n X) f args h nx
   | some c => match askIt S X h c args with
    | none => bodyC (S.plus X) (callD S cs M n X) f args h nx
    | some (l,r) => bif Nat.beq 1 r then bodyC (S.plus (allZ l X)) (callD S cs M n (allZ l X)) f args h nx
     else joinC h nx ((splits l X).map fun X' => weakR (S.plus X') (bodyC (S.plus X') (callD S cs M n X') f args h nx))
def MemoOk (S : Sx) (E : Ev S.nb) (w0 : World) (M : Memo) : Prop := ∀ f args v,(f,args,v) ∈ M→∀ (γ : Nat→Option Nat) (w : World) (vs : List Value),WI w0 γ w→A2 (avOn (cOn E S.K γ w)) args vs →
 Calls S.P f vs.toArray w fun e w' => ∃ r,e=.returned r∧(∀ wr nx,(∀ b ∈ wr,Live γ b)→Ef S.nb w0 wr nx nx γ w γ w')∧avOn (cOn E S.K γ w') v r
section
variable {S : Sx} {E : Ev S.nb} {w0 : World}
theorem bareC_on {K K' : List (FuncId × List AC)} {γ γ' : Nat→Option Nat} {w : World} {d : Nat} {c : AC} {v : Value} (hc : bareC c=true) (h : cellOn E K γ w d c v) : cellOn E K' γ' w d c v := by
 cases c with
 | inl u =>
  unfold cellOn at h ⊢
  exact h
 | inr t =>
  obtain ⟨k,a,b,n,c⟩ := t
  have hk : k≤2 := by
   unfold bareC at hc
   rw [Nat.ble_eq] at hc
   exact hc
  match k,hk with
  | 0,_ =>
   unfold cellOn at h ⊢
   exact h
  | 1,_ =>
   unfold cellOn at h ⊢
   exact h
  | 2,_ =>
   unfold cellOn at h ⊢
   exact h
theorem A2_imp {α : Type} {R R' : α→Value→Prop} {P : α→Prop} (h : ∀ a v,P a→R a v→R' a v) : ∀ {l : List α} {vs : List Value},(∀ a ∈ l,P a)→A2 R l vs→A2 R' l vs
 | [],[],_,_ => trivial
 | _ :: _,_ :: _,hp,q => ⟨h _ _ (hp _ List.mem_cons_self) q.1,A2_imp h (fun a ha => hp a (List.mem_cons_of_mem _ ha)) q.2⟩
 | [],_ :: _,_,q => q.elim
 | _ :: _,[],_,q => q.elim
theorem bareV_on {K K' : List (FuncId × List AC)} {γ γ' : Nat→Option Nat} {w : World} {x : AV} {v : Value} (hx : bareV x=true) (h : avOn (cOn E K γ w) x v) : avOn (cOn E K' γ' w) x v := by
 unfold bareV at hx
 rw [List.all_eq_true] at hx
 have one : ∀ (y : A1) u,(∀ c ∈ y.2,bareC c=true)→a1On (cOn E K γ w) y u→a1On (cOn E K' γ' w) y u := fun y u hy q => by
  obtain ⟨b,cs⟩ := y
  cases b with
  | true =>
   obtain ⟨us,e,q⟩ := q
   exact ⟨us,e,A2_imp (P := fun c => bareC c=true) (fun _ _ hc q => bareC_on hc q) hy q⟩
  | false => exact A2_imp (P := fun c => bareC c=true) (fun _ _ hc q => bareC_on hc q) hy q
 have all : ∀ y ∈ x.2,∀ c ∈ y.2,bareC c=true := fun y hy c hc => (List.all_eq_true.1 (hx y hy)) c hc
 obtain ⟨b,ys⟩ := x
 cases b with
 | true =>
  obtain ⟨us,e,q⟩ := h
  exact ⟨us,e,A2_imp (P := fun y : A1 => ∀ c ∈ y.2,bareC c=true) (fun y u hy q => one y u hy q) all q⟩
 | false => exact A2_imp (P := fun y : A1 => ∀ c ∈ y.2,bareC c=true) (fun y u hy q => one y u hy q) all h
variable {T : Hs→Prop} {z : Nat→Prop}
theorem callD_ok {cs : List (FuncId × Nat)} {M : Memo} (hm : S.P.follows .mixedOrders=true) (hM : MemoOk S E w0 M) (hN : ∀ X,T X→Knows (S.plus X) E) (hP : ∀ X,T X→PrimOk (S.plus X) E w0) (hk : AskTrue S T z)
  (hs : ∀ X,T X→∀ l s r,sqN S l=some s→(S.plus X).kn 0 s 0=some r→(Nat.beq 1 r=true→∀ d ∈ l,z d)∧(Nat.beq 1 r=false→∃ d ∈ l,¬ z d)) : ∀ n X,T X→CallOk S E w0 (callD S cs M n X)
 | 0,_,_ => fun _ _ _ _ _ h => by cases h
 | n+1,X,hX => fun f args h nx p hp => by
  have body : ∀ Y,T Y→CallOk S E w0 (bodyC (S.plus Y) (callD S cs M n Y)) := fun Y hY => bodyC_ok (S := S.plus Y) hm (hN Y hY) (hP Y hY) (callD_ok hm hM hN hP hk hs n Y hY)
  unfold callD at hp
  split at hp
  ·rename_i v hv
   cases hp
   intro γ w vs hi hA hb hlt hf
   refine (hM f args v (memoGet_mem hv) γ w vs hi hA).mono ?_
   rintro _ w' ⟨r,rfl,hef,hr⟩
   have live : ∀ b ∈ h.map (·.1),Live γ b := fun b hb' => by
    obtain ⟨x,hx,rfl⟩ := List.mem_map.1 hb'
    obtain ⟨_,_,_,_,hl,_⟩ := hb x hx
    exact hl
   exact ⟨r,γ,rfl,hef _ _ live,hr,fun x hx => (hef [] nx no_live).box hi (hb x hx) (by simp)⟩
  ·split at hp
   ·exact body X hX f args h nx p hp
   ·split at hp
    ·exact body X hX f args h nx p hp
    rename_i l r hk'
    obtain ⟨hl,s,h1,h2⟩ := askIt_some hk'
    have h3 := hp
    obtain ⟨a1,a0⟩ := hs X hX _ s r h1 h2
    cases e : Nat.beq 1 r with
    | true =>
     rw [e] at h3
     exact body _ (allZ_true hk hX hl fun a ha => a1 e _ (List.mem_map_of_mem ha)) f args h nx p h3
    | false =>
     rw [e] at h3
     obtain ⟨d,hd,hz⟩ := a0 e
     obtain ⟨a,ha,rfl⟩ := List.mem_map.1 hd
     obtain ⟨X',m1,m2⟩ := splits_true hk hX hl ⟨a,ha,hz⟩
     replace h3 : joinC h nx ((splits l X).map fun X' => weakR (S.plus X') (bodyC (S.plus X') (callD S cs M n X') f args h nx))=some p := h3
     unfold joinC at h3
     split at h3
     ·rename_i p0 rs hrs
      rw [Option.bind_eq_some_iff] at h3
      obtain ⟨b,hb,h4⟩ := h3
      rw [ifO_some,List.all_eq_true] at h4
      obtain ⟨h5,h6⟩ := h4
      cases h6
      obtain ⟨h',nx',q1,q2,q3⟩ := agree_some (h5 _ (List.mem_map_of_mem m1))
      intro γ w vs hi hA hb hlt hf
      refine (weak_ok (hN X' m2) (body X' m2) f args h nx _ q1 γ w vs hi hA hb hlt fun b g1 g2 => hf b g1 (Nat.lt_of_lt_of_le g2 q2)).mono ?_
      rintro _ w' ⟨r',γ',rfl,hef,hv,hx⟩
      exact ⟨r',γ',rfl,hef.wide (Nat.le_refl _) q2,hv,fun x hh => hx x (q3 x hh)⟩
     ·cases h3
theorem memo_run {K1 K2 : List (FuncId × List AC)} {H1 H2 : Hs} {M : Memo} {f : FuncId} {args : List AV} {v : AV} {p : List HB × Nat} {call : CallF} (hC : CallOk { S with H := H1,K := K1 } E w0 call) (hr : call f args [] 0=some (v,p)) (ha : args.all bareV=true) (hv : bareV v=true) (hM : MemoOk { S with H := H2,K := K2 } E w0 M) : MemoOk { S with H := H2,K := K2 } E w0 ((f,args,v) :: M) := fun g bs u hmem => by
 rcases List.mem_cons.1 hmem with e | hmem
 ·cases e
  intro γ w vs hi hA
  rw [List.all_eq_true] at ha
  refine (hC f args [] 0 (v,p) hr (fun _ => none) w vs ⟨hi.bel,(fun _ _ h => by cases h)⟩ (A2_imp (P := fun x => bareV x=true) (fun _ _ hx q => bareV_on hx q) ha hA) (fun x hx => by cases hx) (fun x hx => by cases hx) (fun _ _ _ => rfl)).mono ?_
  rintro _ w' ⟨r,γ',rfl,hef,hr,_⟩
  refine ⟨r,rfl,fun wr nx hl => ⟨leG.refl _,fun _ _ => rfl,fun _ _ h => Or.inl h,⟨hef.wi.bel,fun b G q => ⟨(hi.lo b G q).1,Nat.lt_of_lt_of_le (hi.lo b G q).2 hef.gr.size⟩⟩,hef.gr,fun G hG _ => hef.keep G hG (fun b hb => by cases hb),hl⟩,bareV_on hv hr⟩
 ·exact hM g bs u hmem
def memoOne (S : Sx) (cs : List (FuncId × Nat)) (k : Nat) : Memo→Bool
 | (f,args,v) :: M => (match callD S cs M k [] f args [] 0 with
  | some (u,_) => avsB [u] [v]
  | none => false) && (args.all bareV && bareV v)
 | [] => false
def memoChk (S : Sx) (cs : List (FuncId × Nat)) (k : Nat) : Nat→Memo→Bool
 | 0,_ => true
 | n+1,M => memoOne S cs k M && memoChk S cs k n M.tail
def qA (l : List Nat) : AV := (false,[(true,l.flatMap qCells)])
def tA (l : List Nat) : AV := (false,[(true,l.map fun a => .inr (1,a,0,0,0))])
def pA (l : List Nat) : AV := (false,[(true,l.map fun a => .inr (2,a,0,0,0))])
theorem memo_nil : MemoOk S E w0 [] := fun _ _ _ h => by cases h
end
end Cx
/- VPE -/
namespace Go.Proofs.YtkafcpodhflhpaaGreatDoor
open Cx Go Go.RowKit
section
variable {N : List Nd} {H : List (Nat × Nat × Nat × Nat)} {K : List (FuncId × List AC)} {L C : List (List Nat × Nat)} {Z : List Nat} {q : Nat→Rat} {σ : Nat→ByteArray} {cl : List FuncId} {cs pr : List (FuncId × Nat)} {M : Memo} {w : World}
theorem callD_told (Y : Hy N H L C Z q σ) (hc : ∀ f ∈ cl,Closed f) (hm : (Tryz.prog).follows .mixedOrders=true) (hp : PreS w) (hM : MemoOk (sx Tryz.prog N H K L C Z (prC cl)) (evS q σ) w M) (k : Nat) : CallOk (sx Tryz.prog N H K L C Z (prC cl)) (evS q σ) w (callD (sx Tryz.prog N H K L C Z (prC cl)) cs M k []) :=
 callD_ok (S := sx Tryz.prog N H K L C Z (prC cl)) (E := evS q σ) (w0 := w) (T := fun X => Hy N (X ++ H) L C Z q σ) (z := fun d => q d=0) hm hM (fun X hX => knows hX) (fun X hX => primOk hX hp hc) ask_true (fun X hX l s r h1 h2 => by
  have e := hX.k0 s r h2
  have g := sqN_val hX h1
  refine ⟨fun h => g.1 (e.1 h),fun h => ?_⟩
  have hn : ¬ ∀ d ∈ l,q d=0 := fun q' => by
   rw [e.2 (g.2 q')] at h
   cases h
  simpa using hn) k [] Y
def MemoAll (N : List Nd) (L C : List (List Nat × Nat)) (Z : List Nat) (q : Nat→Rat) (σ : Nat→ByteArray) (cl : List FuncId) (w : World) (M : Memo) : Prop := ∀ H K,MemoOk (sx Tryz.prog N H K L C Z (prC cl)) (evS q σ) w M
theorem memoAll_nil : MemoAll N L C Z q σ cl w [] := fun _ _ => memo_nil
theorem memoAll_cons {H1 : List (Nat × Nat × Nat × Nat)} (Y : Hy N H1 L C Z q σ) (hc : ∀ f ∈ cl,Closed f) (hm : (Tryz.prog).follows .mixedOrders=true) (hp : PreS w) {f : FuncId} {args : List AV} {v : AV} (k : Nat) (hr : memoOne (sx Tryz.prog N H1 [] L C Z (prC cl)) cs k ((f,args,v) :: M)=true) (hM : MemoAll N L C Z q σ cl w M) : MemoAll N L C Z q σ cl w ((f,args,v) :: M) := fun H K => by
 unfold memoOne at hr
 simp only [Bool.and_eq_true] at hr
 obtain ⟨h1,h2,h3⟩ := hr
 split at h1
 ·rename_i u p hu
  have e := avsB_eq h1
  cases e
  exact memo_run (S := sx Tryz.prog N H K L C Z (prC cl)) (K1 := []) (H1 := H1) (K2 := K) (H2 := H) (callD_told (K := []) (cs := cs) Y hc hm hp (hM H1 []) k) hu h2 h3 (hM H K)
 ·cases h1
theorem memoAll_drop {i : Nat} {H1 : List (Nat × Nat × Nat × Nat)} (Y : Hy N H1 L C Z q σ) (hc : ∀ f ∈ cl,Closed f) (hm : (Tryz.prog).follows .mixedOrders=true) (hp : PreS w) {k : Nat} (hr : memoOne (sx Tryz.prog N H1 [] L C Z (prC cl)) cs k (M.drop i)=true) (hM : MemoAll N L C Z q σ cl w (M.drop (i+1))) : MemoAll N L C Z q σ cl w (M.drop i) := by
 rw [← List.tail_drop] at hM
 generalize M.drop i=D at *
 match D with
 | [] => cases hr
 | (f,args,v) :: D => exact memoAll_cons Y hc hm hp k hr hM
theorem memoAll_chk {H1 : List (Nat × Nat × Nat × Nat)} (Y : Hy N H1 L C Z q σ) (hc : ∀ f ∈ cl,Closed f) (hm : (Tryz.prog).follows .mixedOrders=true) (hp : PreS w) {k : Nat} : ∀ (n : Nat) {M : Memo},memoChk (sx Tryz.prog N H1 [] L C Z (prC cl)) cs k n M=true→MemoAll N L C Z q σ cl w (M.drop n)→MemoAll N L C Z q σ cl w M
 | 0,_,_,h => h
 | n+1,M,hr,h => by
  unfold memoChk at hr
  rw [Bool.and_eq_true] at hr
  have h1 := memoAll_chk Y hc hm hp n hr.2 (by rw [List.drop_tail]; exact h)
  exact memoAll_drop (i := 0) Y hc hm hp hr.1 (by rw [Nat.zero_add,List.drop_one]; exact h1)
theorem run_toldD' {f : FuncId} {args : List AV} {vs : List Value} (k : Nat) (Y : Hy N H L C Z q σ) (hc : ∀ f ∈ cl,Closed f) (hm : (Tryz.prog).follows .mixedOrders=true) (hp : PreS w) (hM : MemoAll N L C Z q σ cl w M) (hr : (callD (sx Tryz.prog N H K L C Z (prC cl)) cs M k [] f args [] 0).map (·.1)=some (kB true))
  (hA : A2 (avOn (cOn (evS q σ) K (fun _ => none) w)) args vs) : Calls Tryz.prog f vs.toArray w fun e w' => Below w.heap.size w w'∧e=.returned (.bool true) := by
 rw [Option.map_eq_some_iff] at hr
 obtain ⟨⟨v,p⟩,h1,h2⟩ := hr
 dsimp only at h2
 subst h2
 refine (callD_told (cs := cs) Y hc hm hp (hM H K) k f args [] 0 (kB true,p) h1 (fun _ => none) w vs ⟨Below.refl _ _,(fun _ _ h => by cases h)⟩ hA (fun x hx => by cases hx) (fun x hx => by cases hx) (fun _ _ _ => rfl)).mono ?_
 rintro _ w' ⟨r,γ',rfl,hef,hv,_⟩
 exact ⟨hef.wi.bel,by rw [show r=.bool true from (asC_on (v := kB true) (c := .inl (.bool true)) rfl hv).1]⟩
end
end Go.Proofs.YtkafcpodhflhpaaGreatDoor
/- VY -/
namespace Go.Proofs.YtkafcpodhflhpaaGreatDoor
open Go.RowKit Cx
theorem den_num (t : Rat) : t*(t.den : Rat)=((t.num : Int) : Rat) := by
 conv => lhs; lhs; rw [← Rat.mkRat_self t]
 have h0 : (t.den : Rat) ≠ 0 := fun h => t.den_nz (by exact_mod_cast h)
 rw [Rat.mkRat_eq_div,Rat.div_mul_cancel h0]
theorem whole {q : Rat} (h : q.den=1) : q=((q.num : Int) : Rat) := by
 have := den_num q
 rw [h] at this
 rw [← this]
 show q=q*((1 : Nat) : Rat)
 exact (Rat.mul_one q).symm
end Go.Proofs.YtkafcpodhflhpaaGreatDoor
/- VSZ -/
namespace Go.Proofs.YtkafcpodhflhpaaGreatDoor
open Go.RowKit Cx
structure QW (z : Nat) (x : Rat) : Prop where
 qs : QS z x
 wh : x.den=1
theorem QW.of {z : Nat} {n : Int} (h : n.natAbs < 2 ^ z) (hz : 0 < z) : QW z ((n : Int) : Rat) :=
 ⟨⟨by simpa using h,by
  show ((n : Int) : Rat).den < 2 ^ z
  rw [Rat.den_intCast]
  exact Nat.one_lt_two_pow (by omega)⟩,Rat.den_intCast n⟩
theorem QW.mono {k l : Nat} {x : Rat} (h : QW k x) (hk : k≤l) : QW l x := ⟨h.qs.mono hk,h.wh⟩
theorem two_max {a b x y : Nat} (h1 : a < 2 ^ x) (h2 : b < 2 ^ y) : a+b < 2 ^ (Nat.max x y+1) := by
 have e1 : 2 ^ x≤2 ^ Nat.max x y := Nat.pow_le_pow_right (by decide) (Nat.le_max_left x y)
 have e2 : 2 ^ y≤2 ^ Nat.max x y := Nat.pow_le_pow_right (by decide) (Nat.le_max_right x y)
 rw [Nat.pow_succ]
 omega
theorem QW.add {x y : Nat} {a b : Rat} (h1 : QW x a) (h2 : QW y b) : QW (Nat.max x y+1) (a+b) := by
 rw [whole h1.wh,whole h2.wh,← Rat.intCast_add]
 refine QW.of ?_ (by omega)
 have := two_max h1.qs.num h2.qs.num
 omega
theorem QW.sub {x y : Nat} {a b : Rat} (h1 : QW x a) (h2 : QW y b) : QW (Nat.max x y+1) (a - b) := by
 rw [whole h1.wh,whole h2.wh,← Rat.intCast_sub]
 refine QW.of ?_ (by omega)
 have := two_max h1.qs.num h2.qs.num
 omega
theorem QW.mul {x y : Nat} {a b : Rat} (h1 : QW x a) (h2 : QW y b) : QW (x+y) (a*b) := by
 refine ⟨h1.qs.mul h2.qs,?_⟩
 rw [whole h1.wh,whole h2.wh,← Rat.intCast_mul]
 exact Rat.den_intCast _
theorem QW.neg {x : Nat} {a : Rat} (h1 : QW x a) : QW x (-a) := ⟨h1.qs.neg,h1.wh⟩
theorem ten_three : ∀ n : Nat,10 ^ n≤2 ^ ((10*n+2) / 3)
 | 0 => by decide
 | 1 => by decide
 | 2 => by decide
 | n+3 => by
  have h := ten_three n
  have e : (10*(n+3)+2) / 3=(10*n+2) / 3+10 := by omega
  rw [e,Nat.pow_add,Nat.pow_add]
  exact Nat.mul_le_mul h (by decide)
theorem QS.rd3 (l : List UInt8) : QS ((10*l.length+2) / 3+5) (Cx.rd l) := by
 have key : ∀ {m : List UInt8},digs m=true→dv m < 2 ^ ((10*m.length+2) / 3) := fun {m} h => Nat.lt_of_lt_of_le (dv_lt (digs_all h)) (ten_three _)
 unfold Cx.rd
 split
 ·rename_i h
  rw [Bool.and_eq_true] at h
  have h1 := key h.1
  have h2 := key h.2
  have h3 := up_len (tailOf l)
  have h4 := low_len (tailOf l)
  have h5 := tail_len l
  apply QS.mkr
  ·rw [sg_abs]; exact Nat.lt_of_lt_of_le h1 (Nat.pow_le_pow_right (by decide) (by omega))
  ·exact Nat.lt_of_lt_of_le h2 (Nat.pow_le_pow_right (by decide) (by omega))
 ·exact QS.zero.mono (by omega)
section
variable {N : List Nd} {Z : List Nat} {I : List Bool} {q : Nat→Rat}
end
end Go.Proofs.YtkafcpodhflhpaaGreatDoor
/- VSA -/
namespace Go.Proofs.YtkafcpodhflhpaaGreatDoor
open Go.RowKit Cx
def inB : Nat := 3495259
abbrev Atm := Nat × Nat
def remA (x : Atm) : List Atm→Option (List Atm)
 | [] => none
 | y :: l => bif Nat.beq x.1 y.1 && Nat.beq x.2 y.2 then some l else (remA x l).map (y :: ·)
def subA : List Atm→List Atm→Option (List Atm)
 | l,[] => some l
 | l,x :: r => (remA x l).bind fun l' => subA l' r
def leftA : List Atm→List Atm→List Atm
 | _,[] => []
 | U,x :: D => match remA x U with
  | some U' => leftA U' D
  | none => x :: leftA U D
def uniA (E : List (Nat × List Atm)) : List Nat→List Atm→List Atm
 | [],U => U
 | a :: l,U => uniA E l (match E[a]? with
  | some p => U ++ leftA U p.2
  | none => U)
def bitA (E : List (Nat × List Atm)) (x : Atm) : Nat := match x.1 with
 | 0 => inB
 | 1 => (match E[x.2]? with
  | some p => p.1
  | none => 1)
 | _ => Nat.log2 x.2+1
def bitL (E : List (Nat × List Atm)) : List Atm→Nat
 | [] => 1
 | x :: l => bitA E x+bitL E l
def noneA (l : Option (List Atm)) : Bool := match l with
 | some [] => true
 | _ => false
def saN (E : List (Nat × List Atm)) (k z : Nat) (D : List Atm) (nd : Nd) : Bool := (Nat.blt 0 z && D.all fun x => !Nat.beq x.1 1 || Nat.blt x.2 k) && match nd.1,nd.2 with
 | 0,[_,n,d] => (Nat.blt n (2 ^ z) && Nat.blt 0 d) && noneA (subA D (bif Nat.beq d 1 then [] else [(2,d)]))
 | 1,[j] => Nat.ble inB z && noneA (subA D [(0,j)])
 | 2,[a,b] => (match E[a]?,E[b]? with
  | some p,some r => (match subA D p.2,subA D r.2 with
   | some c,some e => Nat.ble (Nat.max (p.1+bitL E c) (r.1+bitL E e)+1) z
   | _,_ => false)
  | _,_ => false)
 | 3,[a,b] => (match E[a]?,E[b]? with
  | some p,some r => (match subA D p.2,subA D r.2 with
   | some c,some e => Nat.ble (Nat.max (p.1+bitL E c) (r.1+bitL E e)+1) z
   | _,_ => false)
  | _,_ => false)
 | 4,[a,b] => (match E[a]?,E[b]? with
  | some p,some r => (match subA D p.2 with
   | some c => noneA (subA c r.2) && Nat.ble (p.1+r.1) z
   | _ => false)
  | _,_ => false)
 | 5,[a] => (match E[a]? with
  | some p => noneA (subA D p.2) && Nat.ble p.1 z
  | _ => false)
 | 6,[a,b] => (match E[a]?,E[b]?,remA (1,b) D with
  | some p,some r,some D' => (match subA p.2 D' with
   | some c => (match subA r.2 c with
    | some e => Nat.ble (p.1+bitL E e) z
    | none => false)
   | none => false)
  | _,_,_ => false)
 | 7,_ => Nat.beq D.length 0
 | 8,i :: xs => Nat.beq D.length 0 && (xs.all (fun a => match E[a]? with
   | some p => (subA (uniA E xs []) p.2).isSome
   | none => false) && (match xs[i]? with
   | some a => (match E[a]? with
    | some p => (match subA (uniA E xs []) p.2 with
     | some e => Nat.ble (p.1+bitL E e) z
     | none => false)
    | none => false)
   | none => false))
 | _,_ => false
def saB (E : List (Nat × List Atm)) : Nat→List Nd→List (Nat × List Atm)→List Nat→Bool
 | _,[],[],[] => true
 | k,nd :: ns,p :: ps,z :: zs => (saN E k p.1 p.2 nd && (Nat.ble p.1 z && (Nat.ble (bitL E p.2) z && Nat.ble z 1000000000000))) && saB E (k+1) ns ps zs
 | _,_,_,_ => false
theorem saB_get {E : List (Nat × List Atm)} : ∀ {ns : List Nd} {ps : List (Nat × List Atm)} {zs : List Nat} {k i : Nat} {nd : Nd},saB E k ns ps zs=true→ns[i]? = some nd→∃ p z,ps[i]? = some p∧zs[i]? = some z∧saN E (k+i) p.1 p.2 nd=true∧p.1≤z∧bitL E p.2≤z∧z≤1000000000000
 | [],_,_,_,_,_,_,h => by simp at h
 | _ :: _,[],_,_,_,_,h,_ => by cases h
 | _ :: _,_ :: _,[],_,_,_,h,_ => by cases h
 | nd' :: ns,p :: ps,z :: zs,k,0,nd,h,e => by
  have : nd'=nd := by simpa using e
  subst this
  unfold saB at h
  simp only [Bool.and_eq_true,Nat.ble_eq] at h
  exact ⟨p,z,rfl,rfl,h.1.1,h.1.2.1,h.1.2.2.1,h.1.2.2.2⟩
 | nd' :: ns,p :: ps,z :: zs,k,i+1,nd,h,e => by
  unfold saB at h
  rw [Bool.and_eq_true] at h
  obtain ⟨p',z',g1,g2,g3,g4⟩ := saB_get (k := k+1) (i := i) h.2 (by simpa using e)
  exact ⟨p',z',by simpa using g1,by simpa using g2,by rw [show k+(i+1)=k+1+i by omega]; exact g3,g4⟩
theorem saB_len {E : List (Nat × List Atm)} : ∀ {ns : List Nd} {ps : List (Nat × List Atm)} {zs : List Nat} {k : Nat},saB E k ns ps zs=true→ns.length=ps.length∧ns.length=zs.length
 | [],[],[],_,_ => ⟨rfl,rfl⟩
 | [],[],_ :: _,_,h => by cases h
 | [],_ :: _,_,_,h => by cases h
 | _ :: _,[],_,_,h => by cases h
 | _ :: _,_ :: _,[],_,h => by cases h
 | _ :: _,_ :: _,_ :: _,k,h => by
  unfold saB at h
  rw [Bool.and_eq_true] at h
  have := saB_len h.2
  exact ⟨congrArg (· + 1) this.1,congrArg (· + 1) this.2⟩
def valA (dn : Nat→Nat) (M : Nat→Rat) (x : Atm) : Rat := match x.1 with
 | 0 => ((dn x.2 : Nat) : Rat)
 | 1 => if M x.2=0 then 1 else M x.2
 | _ => if x.2=0 then 1 else ((x.2 : Nat) : Rat)
def proA (dn : Nat→Nat) (M : Nat→Rat) : List Atm→Rat
 | [] => 1
 | x :: l => valA dn M x*proA dn M l
theorem remA_pro {dn : Nat→Nat} {M : Nat→Rat} {x : Atm} : ∀ {l c : List Atm},remA x l=some c→proA dn M l=valA dn M x*proA dn M c
 | [],_,h => by cases h
 | y :: l,c,h => by
  unfold remA at h
  cases e : (Nat.beq x.1 y.1 && Nat.beq x.2 y.2) with
  | true =>
   rw [e] at h
   cases h
   rw [Bool.and_eq_true,Nat.beq_eq,Nat.beq_eq] at e
   have : x=y := Prod.ext e.1 e.2
   rw [this]
   rfl
  | false =>
   rw [e] at h
   simp only [cond_false,Option.map_eq_some_iff] at h
   obtain ⟨c',h1,rfl⟩ := h
   show valA dn M y*proA dn M l=valA dn M x*(valA dn M y*proA dn M c')
   rw [remA_pro h1]
   grind
theorem subA_pro {dn : Nat→Nat} {M : Nat→Rat} : ∀ {r l c : List Atm},subA l r=some c→proA dn M l=proA dn M r*proA dn M c
 | [],l,c,h => by
  have : l=c := by simpa [subA] using h
  rw [this]
  exact (Rat.one_mul _).symm
 | x :: r,l,c,h => by
  unfold subA at h
  rw [Option.bind_eq_some_iff] at h
  obtain ⟨l',h1,h2⟩ := h
  rw [remA_pro h1,subA_pro h2]
  exact (Rat.mul_assoc _ _ _).symm
theorem noneA_some {l : Option (List Atm)} (h : noneA l=true) : l=some [] := by
 unfold noneA at h
 split at h
 ·rfl
 ·cases h
theorem QW.one {z : Nat} (h : 0 < z) : QW z 1 := ⟨⟨by
  show (1 : Int).natAbs < 2 ^ z
  exact Nat.one_lt_two_pow (by omega),by
  show 1 < 2 ^ z
  exact Nat.one_lt_two_pow (by omega)⟩,rfl⟩
theorem QW.zero {z : Nat} (h : 0 < z) : QW z 0 := ⟨⟨by
  show (0 : Int).natAbs < 2 ^ z
  exact Nat.two_pow_pos z,by
  show 1 < 2 ^ z
  exact Nat.one_lt_two_pow (by omega)⟩,rfl⟩
theorem QW.nat {z n : Nat} (h : n < 2 ^ z) (hz : 0 < z) : QW z ((n : Nat) : Rat) := by
 have : ((n : Nat) : Rat)=(((n : Nat) : Int) : Rat) := (Rat.intCast_natCast n).symm
 rw [this]
 exact QW.of (by simpa using h) hz
section
variable {E : List (Nat × List Atm)} {dn : Nat→Nat} {M : Nat→Rat} {k : Nat}
def BelA (E : List (Nat × List Atm)) (dn : Nat→Nat) (M : Nat→Rat) (q : Nat→Rat) (k : Nat) : Prop := ∀ a,a < k→∃ p,E[a]? = some p∧QW p.1 (M a)∧0 < p.1∧(∀ x ∈ p.2,x.1=1→x.2 < a)∧q a*proA dn M p.2=M a
theorem valA_ok {q : Nat→Rat} (hdn : ∀ j,0 < dn j∧dn j < 2 ^ inB) (hM : BelA E dn M q k) {x : Atm} (hx : x.1=1→x.2 < k) : QW (bitA E x) (valA dn M x)∧valA dn M x ≠ 0 := by
 obtain ⟨i,j⟩ := x
 match i with
 | 0 =>
  show QW inB ((dn j : Nat) : Rat)∧((dn j : Nat) : Rat) ≠ 0
  refine ⟨QW.nat (hdn j).2 (by unfold inB; omega),fun h => ?_⟩
  have := (hdn j).1
  have h2 : dn j=0 := by exact_mod_cast h
  omega
 | 1 =>
  obtain ⟨p,h1,h2,h3,_⟩ := hM j (hx rfl)
  show QW (match E[j]? with
   | some p => p.1
   | none => 1) (if M j=0 then 1 else M j)∧(if M j=0 then 1 else M j) ≠ 0
  rw [h1]
  by_cases h : M j=0
  ·rw [if_pos h]
   exact ⟨QW.one h3,by decide⟩
  ·rw [if_neg h]
   exact ⟨h2,h⟩
 | i+2 =>
  show QW (Nat.log2 j+1) (if j=0 then 1 else ((j : Nat) : Rat))∧(if j=0 then 1 else ((j : Nat) : Rat)) ≠ 0
  by_cases h : j=0
  ·rw [if_pos h]
   exact ⟨QW.one (by omega),by decide⟩
  ·rw [if_neg h]
   refine ⟨QW.nat Nat.lt_log2_self (by omega),fun h2 => h ?_⟩
   exact_mod_cast h2
theorem proA_ok {q : Nat→Rat} (hdn : ∀ j,0 < dn j∧dn j < 2 ^ inB) (hM : BelA E dn M q k) : ∀ {l : List Atm},(∀ x ∈ l,x.1=1→x.2 < k)→QW (bitL E l) (proA dn M l)∧proA dn M l ≠ 0
 | [],_ => ⟨QW.one (show 0 < 1 by decide),by show (1 : Rat) ≠ 0; decide⟩
 | x :: l,h => by
  have h1 := valA_ok hdn hM (h x List.mem_cons_self)
  have h2 := proA_ok hdn hM (l := l) fun y hy => h y (List.mem_cons_of_mem _ hy)
  exact ⟨h1.1.mul h2.1,mul_ne h1.2 h2.2⟩
theorem proA_congr {M' : Nat→Rat} : ∀ {l : List Atm},(∀ x ∈ l,x.1=1→M x.2=M' x.2)→proA dn M l=proA dn M' l
 | [],_ => rfl
 | x :: l,h => by
  show valA dn M x*proA dn M l=valA dn M' x*proA dn M' l
  rw [proA_congr (l := l) fun y hy => h y (List.mem_cons_of_mem _ hy)]
  have e : valA dn M x=valA dn M' x := by
   obtain ⟨i,j⟩ := x
   match i with
   | 0 => rfl
   | 1 =>
    have := h (1,j) List.mem_cons_self rfl
    show (if M j=0 then 1 else M j)=(if M' j=0 then 1 else M' j)
    rw [this]
   | i+2 => rfl
  rw [e]
theorem remA_mem {x y : Atm} : ∀ {l c : List Atm},remA x l=some c→y ∈ c→y ∈ l
 | [],_,h,_ => by cases h
 | z :: l,c,h,hy => by
  unfold remA at h
  cases e : (Nat.beq x.1 z.1 && Nat.beq x.2 z.2) with
  | true => rw [e] at h; cases h; exact List.mem_cons_of_mem _ hy
  | false =>
   rw [e] at h
   simp only [cond_false,Option.map_eq_some_iff] at h
   obtain ⟨c',h1,rfl⟩ := h
   rcases List.mem_cons.1 hy with rfl | hy
   ·exact List.mem_cons_self
   ·exact List.mem_cons_of_mem _ (remA_mem h1 hy)
theorem subA_mem {y : Atm} : ∀ {r l c : List Atm},subA l r=some c→y ∈ c→y ∈ l
 | [],l,c,h,hy => by
  have : l=c := by simpa [subA] using h
  rw [this]; exact hy
 | x :: r,l,c,h,hy => by
  unfold subA at h
  rw [Option.bind_eq_some_iff] at h
  obtain ⟨l',h1,h2⟩ := h
  exact remA_mem h1 (subA_mem h2 hy)
theorem nat_ne {n : Nat} (h : n ≠ 0) : ((n : Nat) : Rat) ≠ 0 := fun e => h (by exact_mod_cast e)
theorem mul_low (x : Rat) : x*((x.den : Nat) : Rat)=((x.num : Int) : Rat) := by
 have e : x=((x.num : Int) : Rat) / ((x.den : Nat) : Rat) := by
  have := Rat.mkRat_self x
  rw [Rat.mkRat_eq_div] at this
  exact this.symm
 conv => lhs; lhs; rw [e]
 exact Rat.div_mul_cancel (nat_ne x.den_nz)
theorem lD_dvd_of {qs : List Rat} {m M : Nat} (hm : m ∣ M) (h : ∀ q ∈ qs,q.den ∣ M) : qs.foldl (fun m q => m*(q.den / Nat.gcd m q.den)) m ∣ M := by
 induction qs generalizing m with
 | nil => exact hm
 | cons q qs ih =>
  rw [List.foldl_cons]
  refine ih ?_ fun p hp => h p (List.mem_cons_of_mem _ hp)
  have e : m*(q.den / Nat.gcd m q.den)=Nat.lcm m q.den := by
   unfold Nat.lcm
   exact (Nat.mul_div_assoc _ (Nat.gcd_dvd_right _ _)).symm
  rw [e]
  exact Nat.lcm_dvd hm (h q List.mem_cons_self)
theorem den_dvd {x : Rat} {m : Int} (h : (x*((m : Int) : Rat)).den=1) : x.den ∣ m.natAbs := by
 have e := whole h
 generalize (x*((m : Int) : Rat)).num=n at e
 have h1 : x*((x.den : Nat) : Rat)=((x.num : Int) : Rat) := mul_low x
 have h2 : ((x.num : Int) : Rat)*((m : Int) : Rat)=((n : Int) : Rat)*(((x.den : Nat) : Int) : Rat) := by
  rw [← h1,← e,Rat.intCast_natCast]
  grind
 have h3 : x.num*m=n*(x.den : Int) := by exact_mod_cast h2
 have h4 : (x.den : Int) ∣ x.num*m := ⟨n,by rw [h3,Int.mul_comm]⟩
 have h5 : x.den ∣ x.num.natAbs*m.natAbs := by
  have := Int.natAbs_dvd_natAbs.2 h4
  rwa [Int.natAbs_mul,Int.natAbs_natCast] at this
 exact (Nat.Coprime.symm x.reduced).dvd_of_dvd_mul_left h5
theorem fac_whole {qs : List Rat} {x : Rat} {z : Nat} {m : Int} (hx : x ∈ qs) (hm : m ≠ 0) (hall : ∀ y ∈ qs,(y*((m : Int) : Rat)).den=1) (hz : QW z (x*((m : Int) : Rat))) : QW z (x*fac qs) := by
 have hl : lD qs ∣ m.natAbs := lD_dvd_of (Nat.one_dvd _) fun y hy => den_dvd (hall y hy)
 have hd := fac_den hx
 have hpos : 0 < m.natAbs := Int.natAbs_pos.2 hm
 have hle : lD qs≤m.natAbs := Nat.le_of_dvd hpos hl
 have hn : (x*fac qs).num.natAbs≤(x*((m : Int) : Rat)).num.natAbs := by
  rw [fac_abs hx]
  have e := whole hz.wh
  generalize (x*((m : Int) : Rat)).num=n at e
  have h1 : x*((x.den : Nat) : Rat)=((x.num : Int) : Rat) := mul_low x
  have h2 : ((x.num : Int) : Rat)*((m : Int) : Rat)=((n : Int) : Rat)*(((x.den : Nat) : Int) : Rat) := by
   rw [← h1,← e,Rat.intCast_natCast]
   grind
  have h3 : x.num*m=n*(x.den : Int) := by exact_mod_cast h2
  have h4 : x.num.natAbs*m.natAbs=n.natAbs*x.den := by
   have := congrArg Int.natAbs h3
   rwa [Int.natAbs_mul,Int.natAbs_mul,Int.natAbs_natCast] at this
  obtain ⟨c,hc⟩ := den_dvd (x := x) (m := m) (hall x hx)
  have h5 : n.natAbs=x.num.natAbs*c := by
   rw [hc] at h4
   refine Nat.eq_of_mul_eq_mul_right x.den_pos ?_
   rw [← h4]
   rw [Nat.mul_assoc,Nat.mul_comm c]
  show x.num.natAbs / gN qs*(lD qs / x.den)≤n.natAbs
  rw [h5]
  refine Nat.mul_le_mul (Nat.div_le_self _ _) ?_
  have : lD qs / x.den≤m.natAbs / x.den := Nat.div_le_div_right hle
  rw [hc,Nat.mul_div_cancel_left _ x.den_pos] at this
  exact this
 refine ⟨⟨Nat.lt_of_le_of_lt hn hz.qs.num,?_⟩,hd⟩
 rw [hd]
 have := hz.qs.den
 rw [hz.wh] at this
 exact this
theorem leftA_mem {y : Atm} : ∀ {D U : List Atm},y ∈ leftA U D→y ∈ D
 | [],_,h => by cases h
 | x :: D,U,h => by
  unfold leftA at h
  split at h
  ·exact List.mem_cons_of_mem _ (leftA_mem h)
  ·rcases List.mem_cons.1 h with rfl | h
   ·exact List.mem_cons_self
   ·exact List.mem_cons_of_mem _ (leftA_mem h)
theorem uniA_low {q : Nat→Rat} (hM : BelA E dn M q k) : ∀ {l : List Nat} {U : List Atm},(∀ c ∈ l,c < k)→(∀ x ∈ U,x.1=1→x.2 < k)→∀ x ∈ uniA E l U,x.1=1→x.2 < k
 | [],_,_,hU => hU
 | a :: l,U,hl,hU => by
  unfold uniA
  refine uniA_low hM (fun c hc => hl c (List.mem_cons_of_mem _ hc)) ?_
  have ha := hl a List.mem_cons_self
  obtain ⟨p,h1,_,_,h4,_⟩ := hM a ha
  rw [h1]
  intro x hx h
  rcases List.mem_append.1 hx with hx | hx
  ·exact hU x hx h
  ·exact Nat.lt_trans (h4 x (leftA_mem hx) h) ha
theorem node_ok {q : Nat→Rat} {σ : Nat→ByteArray} (hσ : ∀ j,(σ j).size≤1048576) (hdn : ∀ j,dn j=(Cx.rd (σ j).data.toList).den) (hM : BelA E dn M q k) {z : Nat} {D : List Atm} {nd : Nd} (hwf : wfN k nd=true) (hs : saN E k z D nd=true) : QW z (valN σ q nd*proA dn M D)∧0 < z∧∀ x ∈ D,x.1=1→x.2 < k := by
 have hdn' : ∀ j,0 < dn j∧dn j < 2 ^ inB := fun j => by
  rw [hdn j]
  refine ⟨Rat.den_pos _,Nat.lt_of_lt_of_le (QS.rd3 _).den (Nat.pow_le_pow_right (by decide) ?_)⟩
  have := hσ j
  rw [str_len]
  unfold inB
  omega
 obtain ⟨op,xs⟩ := nd
 unfold saN at hs
 rw [Bool.and_eq_true,Bool.and_eq_true] at hs
 obtain ⟨⟨hz0,hD⟩,hs⟩ := hs
 have hz : 0 < z := by simpa [Nat.blt_eq] using hz0
 have hD' : ∀ x ∈ D,x.1=1→x.2 < k := fun x hx h1 => by
  rw [List.all_eq_true] at hD
  have := hD x hx
  rw [h1] at this
  simpa [Nat.blt_eq] using this
 refine ⟨?_,hz,hD'⟩
 have hlow : ∀ {a : Nat} {p : Nat × List Atm},a < k→E[a]? = some p→QW p.1 (M a)∧(∀ x ∈ p.2,x.1=1→x.2 < k)∧q a*proA dn M p.2=M a := fun {a p} ha hp => by
  obtain ⟨p',h1,h2,_,h4,h5⟩ := hM a ha
  rw [hp] at h1
  cases h1
  exact ⟨h2,fun x hx h => Nat.lt_trans (h4 x hx h) ha,h5⟩
 have hpr : ∀ {l : List Atm},(∀ x ∈ l,x.1=1→x.2 < k)→QW (bitL E l) (proA dn M l)∧proA dn M l ≠ 0 := fun h => proA_ok hdn' hM h
 unfold wfN at hwf
 unfold valN
 dsimp only at hs hwf ⊢
 split at hs
 ·rename_i s n d
  simp only [Bool.and_eq_true] at hs
  obtain ⟨⟨h1,h2⟩,h3⟩ := hs
  have h1' : n < 2 ^ z := by simpa [Nat.blt_eq] using h1
  have h2' : d ≠ 0 := by
   have : 0 < d := by simpa [Nat.blt_eq] using h2
   omega
  have hp : proA dn M D=((d : Nat) : Rat) := by
   have := subA_pro (dn := dn) (M := M) (noneA_some h3)
   rw [this]
   cases e : Nat.beq d 1 with
   | true =>
    rw [Nat.beq_eq] at e
    rw [e]
    show (1 : Rat)*1=((1 : Nat) : Rat)
    rw [Rat.mul_one]
    exact_mod_cast rfl
   | false =>
    show (if d=0 then (1 : Rat) else ((d : Nat) : Rat))*1*1=_
    rw [if_neg h2',Rat.mul_one,Rat.mul_one]
  show QW z ((if s=0 then mkRat (n : Int) d else mkRat (-(n : Int)) d)*proA dn M D)
  rw [hp]
  have key : ∀ m : Int,m.natAbs < 2 ^ z→QW z (mkRat m d*((d : Nat) : Rat)) := fun m hm => by
   rw [Rat.mkRat_eq_div,Rat.div_mul_cancel (nat_ne h2')]
   exact QW.of hm hz
  by_cases hs0 : s=0
  ·rw [if_pos hs0]
   exact key _ (by simpa using h1')
  ·rw [if_neg hs0]
   exact key _ (by simpa using h1')
 ·rename_i j
  simp only [Bool.and_eq_true,Nat.ble_eq] at hs
  have hp : proA dn M D=(((Cx.rd (σ j).data.toList).den : Nat) : Rat) := by
   rw [subA_pro (dn := dn) (M := M) (noneA_some hs.2)]
   show ((dn j : Nat) : Rat)*1*1=_
   rw [Rat.mul_one,Rat.mul_one,hdn j]
  show QW z (Cx.rd (σ j).data.toList*proA dn M D)
  rw [hp,mul_low]
  refine QW.of (Nat.lt_of_lt_of_le (QS.rd3 _).num (Nat.pow_le_pow_right (by decide) ?_)) hz
  have := hσ j
  have := hs.1
  unfold inB at this
  rw [str_len]
  omega
 ·simp only [List.all_cons,List.all_nil,Bool.and_true,Bool.and_eq_true] at hwf
  rename_i a b
  have l1 : a < k := by simpa [Nat.blt_eq] using hwf.1
  have l2 : b < k := by simpa [Nat.blt_eq] using hwf.2
  split at hs
  ·rename_i p r hp hr
   split at hs
   ·rename_i c e hc he
    rw [Nat.ble_eq] at hs
    obtain ⟨a1,a2,a3⟩ := hlow l1 hp
    obtain ⟨b1,b2,b3⟩ := hlow l2 hr
    have hc' := hpr (l := c) fun x hx => hD' x (subA_mem hc hx)
    have he' := hpr (l := e) fun x hx => hD' x (subA_mem he hx)
    have e1 : (q a+q b)*proA dn M D=M a*proA dn M c+M b*proA dn M e := by
     rw [Rat.add_mul]
     congr 1
     ·rw [subA_pro hc,← Rat.mul_assoc,a3]
     ·rw [subA_pro he,← Rat.mul_assoc,b3]
    show QW z ((q a+q b)*proA dn M D)
    rw [e1]
    exact ((a1.mul hc'.1).add (b1.mul he'.1)).mono hs
   ·cases hs
  ·cases hs
 ·simp only [List.all_cons,List.all_nil,Bool.and_true,Bool.and_eq_true] at hwf
  rename_i a b
  have l1 : a < k := by simpa [Nat.blt_eq] using hwf.1
  have l2 : b < k := by simpa [Nat.blt_eq] using hwf.2
  split at hs
  ·rename_i p r hp hr
   split at hs
   ·rename_i c e hc he
    rw [Nat.ble_eq] at hs
    obtain ⟨a1,a2,a3⟩ := hlow l1 hp
    obtain ⟨b1,b2,b3⟩ := hlow l2 hr
    have hc' := hpr (l := c) fun x hx => hD' x (subA_mem hc hx)
    have he' := hpr (l := e) fun x hx => hD' x (subA_mem he hx)
    have e1 : (q a - q b)*proA dn M D=M a*proA dn M c - M b*proA dn M e := by
     rw [show (q a - q b)*proA dn M D=q a*proA dn M D - q b*proA dn M D by grind]
     congr 1
     ·rw [subA_pro hc,← Rat.mul_assoc,a3]
     ·rw [subA_pro he,← Rat.mul_assoc,b3]
    show QW z ((q a - q b)*proA dn M D)
    rw [e1]
    exact ((a1.mul hc'.1).sub (b1.mul he'.1)).mono hs
   ·cases hs
  ·cases hs
 ·simp only [List.all_cons,List.all_nil,Bool.and_true,Bool.and_eq_true] at hwf
  rename_i a b
  have l1 : a < k := by simpa [Nat.blt_eq] using hwf.1
  have l2 : b < k := by simpa [Nat.blt_eq] using hwf.2
  split at hs
  ·rename_i p r hp hr
   split at hs
   ·rename_i c hc
    rw [Bool.and_eq_true,Nat.ble_eq] at hs
    obtain ⟨a1,a2,a3⟩ := hlow l1 hp
    obtain ⟨b1,b2,b3⟩ := hlow l2 hr
    have e1 : q a*q b*proA dn M D=M a*M b := by
     rw [subA_pro hc,subA_pro (noneA_some hs.1),← a3,← b3]
     show q a*q b*(proA dn M p.2*(proA dn M r.2*1))=_
     grind
    show QW z (q a*q b*proA dn M D)
    rw [e1]
    exact (a1.mul b1).mono hs.2
   ·cases hs
  ·cases hs
 ·simp only [List.all_cons,List.all_nil,Bool.and_true] at hwf
  rename_i a
  have l1 : a < k := by simpa [Nat.blt_eq] using hwf
  split at hs
  ·rename_i p hp
   rw [Bool.and_eq_true,Nat.ble_eq] at hs
   obtain ⟨a1,a2,a3⟩ := hlow l1 hp
   have e1 : -q a*proA dn M D=-M a := by
    rw [subA_pro (noneA_some hs.1),← a3]
    show -q a*(proA dn M p.2*1)=_
    grind
   show QW z (-q a*proA dn M D)
   rw [e1]
   exact a1.neg.mono hs.2
  ·cases hs
 ·simp only [List.all_cons,List.all_nil,Bool.and_true,Bool.and_eq_true] at hwf
  rename_i a b
  have l1 : a < k := by simpa [Nat.blt_eq] using hwf.1
  have l2 : b < k := by simpa [Nat.blt_eq] using hwf.2
  split at hs
  ·rename_i p r D' hp hr hD1
   split at hs
   ·rename_i c hc
    split at hs
    ·rename_i e he
     rw [Nat.ble_eq] at hs
     obtain ⟨a1,a2,a3⟩ := hlow l1 hp
     obtain ⟨b1,b2,b3⟩ := hlow l2 hr
     have he' := hpr (l := e) fun x hx => b2 x (subA_mem he hx)
     by_cases h0 : M b=0
     ·have hb : q b=0 := by
       rw [h0] at b3
       exact (Rat.mul_eq_zero.1 b3).resolve_right (hpr b2).2
      show QW z (q a / q b*proA dn M D)
      rw [hb,Rat.div_def,Rat.inv_zero,Rat.mul_zero,Rat.zero_mul]
      exact QW.zero hz
     ·have hb : q b ≠ 0 := fun h => h0 (by rw [← b3,h,Rat.zero_mul])
      have e1 : q a / q b*proA dn M D=M a*proA dn M e := by
       have e2 : proA dn M D=M b*proA dn M D' := by
        rw [remA_pro hD1]
        show (if M b=0 then (1 : Rat) else M b)*_=_
        rw [if_neg h0]
       have e3 : q a / q b*q b=q a := Rat.div_mul_cancel hb
       rw [e2,← a3,← b3,subA_pro hc,subA_pro he]
       generalize q a / q b=t at e3
       rw [← e3]
       grind
      show QW z (q a / q b*proA dn M D)
      rw [e1]
      exact (a1.mul he'.1).mono hs
    ·cases hs
   ·cases hs
  ·cases hs
 ·have hD0 : D=[] := by
   rw [Nat.beq_eq] at hs
   exact List.length_eq_zero_iff.1 hs
  rw [hD0]
  have hv : valN σ q (7,xs)=0 ∨ valN σ q (7,xs)=1 := by
   unfold valN
   dsimp only
   split
   all_goals first | (split; exact Or.inl rfl; exact Or.inr rfl) | exact Or.inl rfl | (rename_i h; cases h)
  show QW z (valN σ q (7,xs)*1)
  rw [Rat.mul_one]
  rcases hv with h | h
  ·rw [h]
   exact QW.zero hz
  ·rw [h]
   exact QW.one hz
 ·rename_i i ys
  rw [Bool.and_eq_true,Bool.and_eq_true,List.all_eq_true] at hs
  obtain ⟨h1,h2,h3⟩ := hs
  have hD0 : D=[] := by
   rw [Nat.beq_eq] at h1
   exact List.length_eq_zero_iff.1 h1
  have hwf' : ys.all (Nat.blt · k)=true := hwf
  rw [List.all_eq_true] at hwf'
  have hlt : ∀ c ∈ ys,c < k := fun c hc => by simpa [Nat.blt_eq] using hwf' c hc
  split at h3
  ·rename_i a ha
   split at h3
   ·rename_i p hp
    split at h3
    ·rename_i e he
     rw [Nat.ble_eq] at h3
     obtain ⟨hi,ha'⟩ := List.getElem?_eq_some_iff.1 ha
     have hmem : a ∈ ys := List.mem_of_getElem? ha
     have hg : (ys.map q).getD i 0=q a := by
      rw [List.getD_eq_getElem?_getD,List.getElem?_map,ha]
      rfl
     show QW z ((ys.map q).getD i 0*fac (ys.map q)*proA dn M D)
     rw [hg,hD0]
     show QW z (q a*fac (ys.map q)*1)
     rw [Rat.mul_one]
     -- what makes all of them whole
     have hU : ∀ x ∈ uniA E ys [],x.1=1→x.2 < k := uniA_low hM hlt (fun x hx => by cases hx)
     have hUp := hpr hU
     have hw := whole hUp.1.wh
     generalize hm : (proA dn M (uniA E ys [])).num=m at hw
     have hm0 : m ≠ 0 := fun h => hUp.2 (by rw [hw,h]; rfl)
     have hall : ∀ y ∈ ys.map q,(y*((m : Int) : Rat)).den=1 := fun y hy => by
      obtain ⟨c,hc,rfl⟩ := List.mem_map.1 hy
      have h4 := h2 c hc
      split at h4
      ·rename_i r hr
       obtain ⟨c1,c2,c3⟩ := hlow (hlt c hc) hr
       cases hs2 : subA (uniA E ys []) r.2 with
       | none => rw [hs2] at h4; cases h4
       | some f =>
        have hf := hpr (l := f) fun x hx => hU x (subA_mem hs2 hx)
        rw [← hw,subA_pro hs2,← Rat.mul_assoc,c3]
        exact (c1.mul hf.1).wh
      ·cases h4
     obtain ⟨a1,a2,a3⟩ := hlow (hlt a hmem) hp
     have he' := hpr (l := e) fun x hx => hU x (subA_mem he hx)
     refine fac_whole (List.mem_map_of_mem hmem) hm0 hall ?_
     rw [← hw,subA_pro he,← Rat.mul_assoc,a3]
     exact (a1.mul he'.1).mono h3
    ·cases h3
   ·cases h3
  ·cases h3
 ·cases hs
end
theorem QS_over {x m p : Rat} {z y K : Nat} (hm : QW z m) (hp : QW y p) (h0 : p ≠ 0) (e : x*p=m) (hz : z≤K) (hy : y≤K) : QS K x := by
 have hw := whole hp.wh
 generalize p.num=P at hw
 have hP : P ≠ 0 := fun h => h0 (by rw [hw,h]; rfl)
 have hpos : 0 < P.natAbs := Int.natAbs_pos.2 hP
 have hd : x.den ∣ P.natAbs := den_dvd (x := x) (m := P) (by rw [← hw,e]; exact hm.wh)
 have hdle : x.den≤P.natAbs := Nat.le_of_dvd hpos hd
 have hPlt : P.natAbs < 2 ^ y := by
  have := hp.qs.num
  rw [hw,Rat.num_intCast] at this
  exact this
 have hmw := whole hm.wh
 have hmlt := hm.qs.num
 generalize m.num=n at hmw hmlt
 have h1 : x*((x.den : Nat) : Rat)=((x.num : Int) : Rat) := mul_low x
 have h2 : ((x.num : Int) : Rat)*((P : Int) : Rat)=((n : Int) : Rat)*(((x.den : Nat) : Int) : Rat) := by
  rw [← h1,← hw,← hmw,← e,Rat.intCast_natCast]
  grind
 have h3 : x.num*P=n*(x.den : Int) := by exact_mod_cast h2
 have h4 : x.num.natAbs*P.natAbs=n.natAbs*x.den := by
  have := congrArg Int.natAbs h3
  rwa [Int.natAbs_mul,Int.natAbs_mul,Int.natAbs_natCast] at this
 have h5 : x.num.natAbs≤n.natAbs := by
  refine Nat.le_of_mul_le_mul_right (c := P.natAbs) ?_ hpos
  rw [h4]
  exact Nat.mul_le_mul_left _ hdle
 exact ⟨Nat.lt_of_lt_of_le (Nat.lt_of_le_of_lt h5 hmlt) (Nat.pow_le_pow_right (by decide) hz),Nat.lt_of_lt_of_le (Nat.lt_of_le_of_lt hdle hPlt) (Nat.pow_le_pow_right (by decide) hy)⟩
section
variable {N : List Nd} {Z : List Nat} {E : List (Nat × List Atm)} {q : Nat→Rat}
theorem sizes_okA {σ : Nat→ByteArray} (hσ : ∀ j,(σ j).size≤1048576) (hw : wfB 0 N=true) (hz : saB E 0 N E Z=true) (hq : ∀ (a : Nat) nd,N[a]? = some nd→q a=valN σ q nd) (h0 : ∀ a,N.length≤a→q a=0) : (∀ (a : Nat) z,Z[a]? = some z→QS z (q a))∧∀ a,QS 1000000000000 (q a) := by
 have hl := saB_len hz
 have key : ∀ k,k≤N.length→∃ M,BelA E (fun j => (Cx.rd (σ j).data.toList).den) M q k := by
  intro k
  induction k with
  | zero => exact fun _ => ⟨fun _ => 0,fun a ha => by omega⟩
  | succ k ih =>
   intro hk
   obtain ⟨M,hM⟩ := ih (by omega)
   have hn : N[k]? = some N[k] := List.getElem?_eq_getElem (by omega)
   obtain ⟨p,z,h1,_,h3,_⟩ := saB_get hz hn
   rw [Nat.zero_add] at h3
   have hwf := wfB_get hw hn
   rw [Nat.zero_add] at hwf
   obtain ⟨g1,g2,g3⟩ := node_ok hσ (fun _ => rfl) hM hwf h3
   rw [← hq k _ hn] at g1
   refine ⟨fun x => if x=k then q k*proA (fun j => (Cx.rd (σ j).data.toList).den) M p.2 else M x,fun a ha => ?_⟩
   have same : ∀ {l : List Atm},(∀ x ∈ l,x.1=1→x.2 < k)→proA (fun j => (Cx.rd (σ j).data.toList).den) (fun x => if x=k then q k*proA (fun j => (Cx.rd (σ j).data.toList).den) M p.2 else M x) l=proA (fun j => (Cx.rd (σ j).data.toList).den) M l := fun hl => (proA_congr fun x hx h => by
    have := hl x hx h
    rw [if_neg (by omega)]).symm
   by_cases e : a=k
   ·subst e
    refine ⟨p,h1,?_,g2,g3,?_⟩
    ·show QW p.1 (if a=a then _ else _)
     rw [if_pos rfl]
     exact g1
    ·rw [same g3]
     show _=(if a=a then _ else _)
     rw [if_pos rfl]
   ·obtain ⟨p',f1,f2,f3,f4,f5⟩ := hM a (by omega)
    refine ⟨p',f1,?_,f3,f4,?_⟩
    ·show QW p'.1 (if a=k then _ else M a)
     rw [if_neg e]
     exact f2
    ·rw [same fun x hx h => by have := f4 x hx h; omega]
     show _=(if a=k then _ else M a)
     rw [if_neg e]
     exact f5
 obtain ⟨M,hM⟩ := key N.length (Nat.le_refl _)
 have hdn : ∀ j,0 < (Cx.rd (σ j).data.toList).den∧(Cx.rd (σ j).data.toList).den < 2 ^ inB := fun j => by
  refine ⟨Rat.den_pos _,Nat.lt_of_lt_of_le (QS.rd3 _).den (Nat.pow_le_pow_right (by decide) ?_)⟩
  have := hσ j
  rw [str_len]
  unfold inB
  omega
 have h2 : ∀ (a : Nat) z,Z[a]? = some z→QS z (q a)∧z≤1000000000000 := by
  intro a z ha
  have hlt : a < N.length := by
   have := (List.getElem?_eq_some_iff.1 ha).1
   omega
  have hn : N[a]? = some N[a] := List.getElem?_eq_getElem hlt
  obtain ⟨p,z',h1,h2,_,h4,h5,h6⟩ := saB_get hz hn
  rw [ha] at h2
  cases h2
  obtain ⟨p',f1,f2,f3,f4,f5⟩ := hM a hlt
  rw [h1] at f1
  cases f1
  have hp := proA_ok hdn hM (l := p.2) fun x hx h => Nat.lt_trans (f4 x hx h) hlt
  exact ⟨QS_over f2 hp.1 hp.2 f5 h4 h5,h6⟩
 refine ⟨fun a z h => (h2 a z h).1,fun a => ?_⟩
 by_cases ha : a < Z.length
 ·have := h2 a _ (List.getElem?_eq_getElem ha)
  exact this.1.mono this.2
 ·rw [h0 a (by omega)]
  exact QS.zero.mono (by decide)
theorem hy_ofA {L C : List (List Nat × Nat)} {σ : Nat→ByteArray} {H : List (Nat × Nat × Nat × Nat)} (hσ : ∀ j,(σ j).size≤1048576) (hw : wfB 0 N=true) (hz : saB E 0 N E Z=true) (hl : litB N L=true) (hcn : canB N C=true) (hq : ∀ (a : Nat) nd,N[a]? = some nd→q a=valN σ q nd) (h0 : ∀ a,N.length≤a→q a=0) (hH : hAll q H) : Hy N H L C Z q σ where
 nat := hq
 qs := (sizes_okA hσ hw hz hq h0).2
 zs := (sizes_okA hσ hw hz hq h0).1
 par := hσ
 lit := fun s b h => lit_rd hl hq h
 k0 := fun a r h => kn_at hH h
 k1 := fun a r h => kn_at hH h
 k2 := fun a r h => kn_at hH h
 k3 := fun a b r h => kn_at hH h
 k4 := fun l a b r h1 h2 => by
  have h3 : Nat.beq 1 r=true ↔ q a=q b := kn_at hH h2
  rw [h3,← can_tx hcn hq h1]
  exact ⟨fun e => by rw [e],fun e => tellS_inj (bytesN_inj e)⟩
 k6 := fun a b r h => kn_at hH h
 k5 := fun a r h => kn_at hH h
end
end Go.Proofs.YtkafcpodhflhpaaGreatDoor
/- CFconed -/
namespace Go.Proofs.YtkafcpodhflhpaaGreatDoor
open Go.RowKit Cx
theorem closed_coned : Closed 14 :=
 closed_told (N := [(0,[0,1,1]),(0,[0,0,1]),(0,[1,1,1]),(0,[0,3,5]),(0,[0,4,5]),(4,[1,0]),(4,[0,0]),(3,[5,6]),(4,[0,1]),(3,[8,6]),(4,[1,1]),(3,[6,10]),(4,[0,2]),(3,[5,12]),(4,[2,0]),(3,[8,14]),(4,[2,2]),(3,[16,10]),(4,[7,13]),(4,[7,15]),(4,[9,13]),(2,[19,20]),(4,[9,15]),(4,[7,17]),(4,[11,13]),(2,[23,24]),(4,[9,17]),(4,[11,15]),(2,[26,27]),(4,[11,17]),(3,[5,8]),(3,[12,6]),(4,[1,2]),(3,[8,32]),(3,[6,12]),(3,[8,5]),(3,[32,8]),(4,[30,34]),(4,[30,35]),(4,[31,34]),(2,[38,39]),(4,[31,35]),(4,[30,36]),(4,[33,34]),(2,[42,43]),(4,[31,36]),(4,[33,35]),(2,[45,46]),(4,[33,36]),(0,[0,2,1]),(4,[18,49]),(4,[22,49]),(4,[29,49]),(4,[50,3]),(2,[1,53]),(4,[21,4]),(2,[54,55]),(4,[25,0]),(2,[56,57]),(4,[21,3]),(2,[1,59]),(4,[51,4]),(2,[60,61]),(4,[28,0]),(2,[62,63]),(4,[25,3]),(2,[1,65]),(4,[28,4]),(2,[66,67]),(4,[52,0]),(2,[68,69]),(4,[3,58]),(2,[1,71]),(4,[4,64]),(2,[72,73]),(4,[0,70]),(2,[74,75]),(4,[37,49]),(4,[41,49]),(4,[48,49]),(4,[77,3]),(2,[1,80]),(4,[40,4]),(2,[81,82]),(4,[44,0]),(2,[83,84]),(4,[40,3]),(2,[1,86]),(4,[78,4]),(2,[87,88]),(4,[47,0]),(2,[89,90]),(4,[44,3]),(2,[1,92]),(4,[47,4]),(2,[93,94]),(4,[79,0]),(2,[95,96]),(4,[3,85]),(2,[1,98]),(4,[4,91]),(2,[99,100]),(4,[0,97]),(2,[101,102]),(4,[18,103]),(4,[37,76]),(3,[104,105]),(4,[21,103]),(4,[40,76]),(3,[107,108]),(4,[22,103]),(4,[41,76]),(3,[110,111]),(4,[25,103]),(4,[44,76]),(3,[113,114]),(4,[28,103]),(4,[47,76]),(3,[116,117]),(4,[29,103]),(4,[48,76]),(3,[119,120]),(8,[0,106,109,112,115,118,121]),(8,[1,106,109,112,115,118,121]),(8,[2,106,109,112,115,118,121]),(8,[3,106,109,112,115,118,121]),(8,[4,106,109,112,115,118,121]),(8,[5,106,109,112,115,118,121]),(4,[122,49]),(4,[124,49]),(4,[127,49]),(4,[123,126]),(4,[125,129]),(3,[131,132]),(4,[125,123]),(4,[128,126]),(3,[134,135]),(4,[128,129]),(4,[123,123]),(3,[137,138]),(4,[133,125]),(2,[1,140]),(4,[136,126]),(2,[141,142]),(4,[139,130]),(2,[143,144]),(2,[128,129]),(4,[145,146]),(4,[128,3]),(2,[1,148]),(4,[123,4]),(2,[149,150]),(4,[125,0]),(2,[151,152]),(4,[123,3]),(2,[1,154]),(4,[129,4]),(2,[155,156]),(4,[126,0]),(2,[157,158]),(4,[125,3]),(2,[1,160]),(4,[126,4]),(2,[161,162]),(4,[130,0]),(2,[163,164]),(4,[3,153]),(2,[1,166]),(4,[4,159]),(2,[167,168]),(4,[0,165]),(2,[169,170]),(4,[122,171]),(8,[0,153,159,165]),(8,[1,153,159,165]),(8,[2,153,159,165]),(0,[0,3,1]),(0,[0,4,1]),(0,[1,5,1])]) (H := [(0,106,0,0),(0,122,0,0),(0,145,0,0),(1,139,0,0),(0,139,0,0),(2,147,0,0),(0,172,0,1),(0,153,0,0),(4,122,0,1),(4,123,1,1),(4,124,0,1),(4,125,1,1),(4,126,1,1),(4,127,2,1),(4,173,176,1),(4,174,177,1),(4,175,178,1)]) (K := [(32,[.inr (3,7,0,0,0)]),(76,[.inr (3,43,0,0,0),.inr (3,44,0,0,0)]),(76,[.inr (3,59,0,0,0),.inr (3,60,0,0,0)])]) (L := [([49],0),([48],1),([45,49],2),([51,47,53],3),([52,47,53],4),([51],176),([52],177),([45,53],178)]) (C := [([49],0),([48],1),([45,49],2),([51],176),([52],177),([45,53],178)]) (Z := [2,2,2,4,4,4,4,9,4,9,4,9,4,9,4,9,4,9,18,18,18,37,18,18,18,37,18,18,37,18,9,9,4,9,9,9,9,18,18,18,37,18,18,18,37,18,18,37,18,3,21,21,21,25,28,41,70,39,110,41,44,25,70,39,110,41,44,41,86,23,110,114,117,114,232,112,345,21,21,21,25,28,41,70,39,110,41,44,25,70,39,110,41,44,41,86,23,110,114,117,114,232,112,345,363,363,727,382,382,765,363,363,727,382,382,765,382,382,765,363,363,727,5356,5356,5356,5356,5356,5356,5359,5359,5359,10712,10715,21428,10712,10715,21428,10718,10712,21431,26784,26787,26784,53572,26790,80363,10719,91082,5363,5366,5360,10727,5358,16086,5360,5363,5363,10727,5358,16086,5360,5363,5360,10724,5361,16086,16090,16093,16090,32184,16088,48273,53629,64345,64345,64345,3,4,4]) (cl := []) 8 (fun _ h => by cases h) (by kernel_rfl) (by kernel_rfl) (by kernel_rfl) (by kernel_rfl) (by kernel_rfl) (by kernel_rfl) (by kernel_rfl)
end Go.Proofs.YtkafcpodhflhpaaGreatDoor
/- MKC -/
namespace Go.Proofs.YtkafcpodhflhpaaGreatDoor
open Go.RowKit Cx
def kC_N : List Nd := [(1,[0]),(1,[1]),(1,[2]),(1,[3]),(1,[4]),(1,[5]),(4,[0,0]),(4,[1,1]),(2,[6,7]),(4,[2,2]),(2,[8,9]),(4,[3,3]),(2,[10,11]),(4,[4,4]),(2,[12,13]),(1,[8]),(1,[9]),(1,[10]),(1,[11]),(4,[15,15]),(4,[16,16]),(2,[19,20]),(4,[17,17]),(4,[18,18]),(2,[22,23]),(1,[6]),(1,[7]),(0,[0,1,1]),(0,[0,2,1]),(4,[0,28]),(4,[2,28]),(4,[5,28]),(4,[29,25]),(0,[0,0,1]),(2,[33,32]),(4,[1,26]),(2,[34,35]),(4,[3,27]),(2,[36,37]),(4,[1,25]),(2,[33,39]),(4,[30,26]),(2,[40,41]),(4,[4,27]),(2,[42,43]),(4,[3,25]),(2,[33,45]),(4,[4,26]),(2,[46,47]),(4,[31,27]),(2,[48,49]),(4,[25,38]),(2,[33,51]),(4,[26,44]),(2,[52,53]),(4,[27,50]),(2,[54,55]),(4,[0,56]),(4,[1,56]),(4,[2,56]),(4,[3,56]),(4,[4,56]),(4,[29,17]),(2,[33,62]),(4,[1,18]),(2,[63,64]),(4,[3,33]),(2,[65,66]),(4,[1,17]),(2,[33,68]),(4,[30,18]),(2,[69,70]),(4,[4,33]),(2,[71,72]),(4,[3,17]),(2,[33,74]),(4,[4,18]),(2,[75,76]),(4,[31,33]),(2,[77,78]),(4,[25,67]),(2,[33,80]),(4,[26,73]),(2,[81,82]),(4,[27,79]),(2,[83,84]),(4,[17,67]),(2,[33,86]),(4,[18,73]),(2,[87,88]),(4,[33,79]),(2,[89,90]),(4,[28,85]),(6,[92,91]),(4,[17,93]),(4,[18,93]),(3,[25,94]),(3,[26,95]),(4,[29,15]),(2,[33,98]),(4,[1,16]),(2,[99,100]),(2,[101,66]),(4,[1,15]),(2,[33,103]),(4,[30,16]),(2,[104,105]),(2,[106,72]),(4,[3,15]),(2,[33,108]),(4,[4,16]),(2,[109,110]),(2,[111,78]),(4,[25,102]),(2,[33,113]),(4,[26,107]),(2,[114,115]),(4,[27,112]),(2,[116,117]),(4,[15,102]),(2,[33,119]),(4,[16,107]),(2,[120,121]),(4,[33,112]),(2,[122,123]),(4,[102,102]),(4,[107,107]),(2,[125,126]),(8,[0,102,107,112]),(8,[1,102,107,112]),(8,[2,102,107,112]),(4,[28,118]),(6,[131,124]),(4,[15,132]),(4,[16,132]),(3,[25,133]),(3,[26,134]),(3,[135,25]),(3,[136,26]),(0,[0,1,2]),(4,[137,139]),(4,[138,139]),(2,[33,25]),(2,[33,26]),(2,[142,140]),(2,[143,141]),(4,[128,128]),(4,[129,129]),(2,[146,147]),(4,[128,144]),(4,[129,145]),(2,[149,150]),(2,[151,130]),(4,[129,152]),(4,[128,152]),(4,[29,96]),(2,[33,155]),(4,[1,97]),(2,[156,157]),(2,[158,37]),(4,[1,96]),(2,[33,160]),(4,[30,97]),(2,[161,162]),(2,[163,43]),(4,[3,96]),(2,[33,165]),(4,[4,97]),(2,[166,167]),(2,[168,49]),(4,[96,159]),(2,[33,170]),(4,[97,164]),(2,[171,172]),(4,[27,169]),(2,[173,174]),(4,[0,175]),(4,[1,175]),(4,[2,175]),(4,[3,175]),(4,[4,175]),(4,[96,102]),(2,[33,181]),(4,[97,107]),(2,[182,183]),(2,[184,117]),(4,[28,185]),(6,[186,124]),(4,[15,187]),(4,[16,187]),(3,[96,188]),(3,[97,189]),(3,[190,96]),(3,[191,97]),(4,[192,139]),(4,[193,139]),(2,[33,96]),(2,[33,97]),(2,[196,194]),(2,[197,195]),(4,[128,198]),(4,[129,199]),(2,[200,201]),(2,[202,130]),(4,[129,203]),(4,[128,203])]
def kC_L : List (List Nat × Nat) := [([49,47,50],139)]
def kC_C : List (List Nat × Nat) := []
def kC_Z : List Nat := [3495260,3495260,3495260,3495260,3495260,3495260,6990519,6990519,13981038,6990519,20971558,6990519,27962078,6990519,34952598,3495260,3495260,3495260,3495260,6990519,6990519,13981038,6990519,6990519,13981038,3495260,3495260,1,2,3495261,3495261,3495261,6990520,1,6990522,6990519,13981042,3495260,17476303,6990519,6990521,6990520,13981041,3495260,17476302,6990519,6990521,6990519,13981041,3495262,17476302,20971562,20971564,20971561,31457343,17476303,34952604,38447863,38447863,38447863,38447863,38447863,6990520,6990522,6990519,13981042,3495260,17476303,6990519,6990521,6990520,13981041,3495260,17476302,6990519,6990521,6990519,13981041,3495262,17476302,20971562,20971564,20971561,31457343,17476303,34952604,20971562,20971564,20971561,31457343,17476303,34952604,34952606,41943125,45438384,45438384,45438386,45438386,6990520,6990522,6990519,13981042,17476303,6990519,6990521,6990520,13981041,17476302,6990519,6990521,6990519,13981041,17476302,20971562,20971564,20971561,31457343,17476303,34952604,20971562,20971564,20971561,31457343,17476303,34952604,34952606,34952604,48933644,27962081,27962080,27962080,34952606,41943125,45438384,45438384,45438386,45438386,45438388,45438388,3,45438389,45438389,3495262,3495262,45438391,45438391,55924162,55924160,55924164,73400472,73400471,76895733,76895735,104857815,104857816,48933647,48933649,48933645,55924169,59419430,48933645,48933647,48933647,55924167,59419428,48933645,48933647,48933645,55924167,59419428,104857816,104857818,104857814,115343597,59419429,118838858,122334117,122334117,122334117,122334117,122334117,62914689,62914691,62914688,73400470,76895731,76895733,83886252,87381511,87381511,87381513,87381513,87381515,87381515,87381516,87381516,45438388,45438388,87381518,87381518,115343599,115343598,118838860,118838862,146800942,146800943]
def kC_D0 : List Atm := [(0,0),(0,6)]
def kC_D1 : List Atm := [(0,1),(0,6)]
def kC_D2 : List Atm := [(0,3),(0,6)]
def kC_D3 : List Atm := [(0,3),(0,4),(0,5),(0,6),(0,7)]
def kC_D4 : List Atm := [(0,0),(0,1),(0,3),(0,6),(0,6),(0,7)]
def kC_D5 : List Atm := [(0,0),(0,10)]
def kC_D6 : List Atm := [(0,1),(0,10)]
def kC_D7 : List Atm := [(0,3),(0,10)]
def kC_D8 : List Atm := [(0,3),(0,4),(0,5),(0,10),(0,11)]
def kC_D9 : List Atm := [(0,0),(0,1),(0,3),(0,6),(0,10),(0,11)]
def kC_D10 : List Atm := [(0,0),(0,1),(0,2),(0,3),(0,4),(0,5),(0,6),(0,7),(0,10),(0,11)]
def kC_D11 : List Atm := [(0,0),(0,1),(0,3),(0,10),(0,10),(0,11)]
def kC_D12 : List Atm := [(0,6),(0,7),(0,10),(1,91)]
def kC_D13 : List Atm := [(0,6),(0,7),(0,11),(1,91)]
def kC_D14 : List Atm := [(0,0),(0,8)]
def kC_D15 : List Atm := [(0,1),(0,8)]
def kC_D16 : List Atm := [(0,3),(0,8)]
def kC_D17 : List Atm := [(0,3),(0,4),(0,5),(0,8),(0,9)]
def kC_D18 : List Atm := [(0,0),(0,1),(0,3),(0,6),(0,8),(0,9)]
def kC_D19 : List Atm := [(0,0),(0,1),(0,2),(0,3),(0,4),(0,5),(0,6),(0,7),(0,8),(0,9)]
def kC_D20 : List Atm := [(0,0),(0,1),(0,3),(0,8),(0,8),(0,9)]
def kC_D21 : List Atm := [(0,6),(0,7),(0,8),(1,124)]
def kC_D22 : List Atm := [(0,6),(0,7),(0,9),(1,124)]
def kC_D23 : List Atm := [(0,6),(0,7),(0,8),(1,124),(2,2)]
def kC_D24 : List Atm := [(0,6),(0,7),(0,9),(1,124),(2,2)]
def kC_D25 : List Atm := [(0,6),(0,7),(0,8),(0,9),(1,124),(2,2)]
def kC_D26 : List Atm := [(0,0),(0,6),(0,7),(0,10),(1,91)]
def kC_D27 : List Atm := [(0,1),(0,6),(0,7),(0,10),(1,91)]
def kC_D28 : List Atm := [(0,3),(0,6),(0,7),(0,10),(1,91)]
def kC_D29 : List Atm := [(0,3),(0,4),(0,5),(0,6),(0,7),(0,10),(0,11),(1,91)]
def kC_D30 : List Atm := [(0,0),(0,1),(0,3),(0,6),(0,6),(0,7),(0,7),(0,10),(0,10),(0,11),(1,91),(1,91)]
def kC_D31 : List Atm := [(0,0),(0,1),(0,3),(0,6),(0,7),(0,8),(0,9),(0,10),(1,91)]
def kC_D32 : List Atm := [(0,0),(0,1),(0,2),(0,3),(0,4),(0,5),(0,6),(0,7),(0,8),(0,9),(0,10),(0,11),(1,91)]
def kC_D33 : List Atm := [(0,6),(0,7),(0,8),(0,10),(0,11),(1,91),(1,124)]
def kC_D34 : List Atm := [(0,6),(0,7),(0,9),(0,10),(0,11),(1,91),(1,124)]
def kC_D35 : List Atm := [(0,6),(0,7),(0,8),(0,10),(0,11),(1,91),(1,124),(2,2)]
def kC_D36 : List Atm := [(0,6),(0,7),(0,9),(0,10),(0,11),(1,91),(1,124),(2,2)]
def kC_D37 : List Atm := [(0,6),(0,7),(0,8),(0,9),(0,10),(0,11),(1,91),(1,124),(2,2)]
def kC_E : List (Nat × List Atm) := [(3495259,[(0,0)]),(3495259,[(0,1)]),(3495259,[(0,2)]),(3495259,[(0,3)]),(3495259,[(0,4)]),(3495259,[(0,5)]),(6990518,[(0,0),(0,0)]),(6990518,[(0,1),(0,1)]),(13981038,[(0,0),(0,0),(0,1),(0,1)]),(6990518,[(0,2),(0,2)]),(20971558,[(0,0),(0,0),(0,1),(0,1),(0,2),(0,2)]),(6990518,[(0,3),(0,3)]),(27962078,[(0,0),(0,0),(0,1),(0,1),(0,2),(0,2),(0,3),(0,3)]),(6990518,[(0,4),(0,4)]),(34952598,[(0,0),(0,0),(0,1),(0,1),(0,2),(0,2),(0,3),(0,3),(0,4),(0,4)]),(3495259,[(0,8)]),(3495259,[(0,9)]),(3495259,[(0,10)]),(3495259,[(0,11)]),(6990518,[(0,8),(0,8)]),(6990518,[(0,9),(0,9)]),(13981038,[(0,8),(0,8),(0,9),(0,9)]),(6990518,[(0,10),(0,10)]),(6990518,[(0,11),(0,11)]),(13981038,[(0,10),(0,10),(0,11),(0,11)]),(3495259,[(0,6)]),(3495259,[(0,7)]),(1,[]),(2,[]),(3495261,[(0,0)]),(3495261,[(0,2)]),(3495261,[(0,5)]),(6990520,kC_D0),(1,[]),(6990522,kC_D0),(6990518,[(0,1),(0,7)]),(13981042,[(0,0),(0,1),(0,6),(0,7)]),(3495260,[(0,3)]),(17476303,[(0,0),(0,1),(0,3),(0,6),(0,7)]),(6990518,kC_D1),(6990521,kC_D1),(6990520,[(0,2),(0,7)]),(13981041,[(0,1),(0,2),(0,6),(0,7)]),(3495260,[(0,4)]),(17476302,[(0,1),(0,2),(0,4),(0,6),(0,7)]),(6990518,kC_D2),(6990521,kC_D2),(6990518,[(0,4),(0,7)]),(13981041,[(0,3),(0,4),(0,6),(0,7)]),(3495262,[(0,5)]),(17476302,kC_D3),(20971562,kC_D4),(20971564,kC_D4),(20971561,[(0,1),(0,2),(0,4),(0,6),(0,7),(0,7)]),(31457343,[(0,0),(0,1),(0,2),(0,3),(0,4),(0,6),(0,6),(0,7),(0,7)]),(17476303,kC_D3),(34952604,[(0,0),(0,1),(0,2),(0,3),(0,4),(0,5),(0,6),(0,6),(0,7),(0,7)]),(38447863,[(0,0),(0,0),(0,1),(0,2),(0,3),(0,4),(0,5),(0,6),(0,6),(0,7),(0,7)]),(38447863,[(0,0),(0,1),(0,1),(0,2),(0,3),(0,4),(0,5),(0,6),(0,6),(0,7),(0,7)]),(38447863,[(0,0),(0,1),(0,2),(0,2),(0,3),(0,4),(0,5),(0,6),(0,6),(0,7),(0,7)]),(38447863,[(0,0),(0,1),(0,2),(0,3),(0,3),(0,4),(0,5),(0,6),(0,6),(0,7),(0,7)]),(38447863,[(0,0),(0,1),(0,2),(0,3),(0,4),(0,4),(0,5),(0,6),(0,6),(0,7),(0,7)]),(6990520,kC_D5),(6990522,kC_D5),(6990518,[(0,1),(0,11)]),(13981042,[(0,0),(0,1),(0,10),(0,11)]),(3495260,[(0,3)]),(17476303,[(0,0),(0,1),(0,3),(0,10),(0,11)]),(6990518,kC_D6),(6990521,kC_D6),(6990520,[(0,2),(0,11)]),(13981041,[(0,1),(0,2),(0,10),(0,11)]),(3495260,[(0,4)]),(17476302,[(0,1),(0,2),(0,4),(0,10),(0,11)]),(6990518,kC_D7),(6990521,kC_D7),(6990518,[(0,4),(0,11)]),(13981041,[(0,3),(0,4),(0,10),(0,11)]),(3495262,[(0,5)]),(17476302,kC_D8),(20971562,kC_D9),(20971564,kC_D9),(20971561,[(0,1),(0,2),(0,4),(0,7),(0,10),(0,11)]),(31457343,[(0,0),(0,1),(0,2),(0,3),(0,4),(0,6),(0,7),(0,10),(0,11)]),(17476303,kC_D8),(34952604,kC_D10),(20971562,kC_D11),(20971564,kC_D11),(20971561,[(0,1),(0,2),(0,4),(0,10),(0,11),(0,11)]),(31457343,[(0,0),(0,1),(0,2),(0,3),(0,4),(0,10),(0,10),(0,11),(0,11)]),(17476303,kC_D8),(34952604,[(0,0),(0,1),(0,2),(0,3),(0,4),(0,5),(0,10),(0,10),(0,11),(0,11)]),(34952606,kC_D10),(41943125,[(0,6),(0,7),(1,91)]),(45438384,kC_D12),(45438384,kC_D13),(45438386,kC_D12),(45438386,kC_D13),(6990520,kC_D14),(6990522,kC_D14),(6990518,[(0,1),(0,9)]),(13981042,[(0,0),(0,1),(0,8),(0,9)]),(17476303,[(0,0),(0,1),(0,3),(0,8),(0,9)]),(6990518,kC_D15),(6990521,kC_D15),(6990520,[(0,2),(0,9)]),(13981041,[(0,1),(0,2),(0,8),(0,9)]),(17476302,[(0,1),(0,2),(0,4),(0,8),(0,9)]),(6990518,kC_D16),(6990521,kC_D16),(6990518,[(0,4),(0,9)]),(13981041,[(0,3),(0,4),(0,8),(0,9)]),(17476302,kC_D17),(20971562,kC_D18),(20971564,kC_D18),(20971561,[(0,1),(0,2),(0,4),(0,7),(0,8),(0,9)]),(31457343,[(0,0),(0,1),(0,2),(0,3),(0,4),(0,6),(0,7),(0,8),(0,9)]),(17476303,kC_D17),(34952604,kC_D19),(20971562,kC_D20),(20971564,kC_D20),(20971561,[(0,1),(0,2),(0,4),(0,8),(0,9),(0,9)]),(31457343,[(0,0),(0,1),(0,2),(0,3),(0,4),(0,8),(0,8),(0,9),(0,9)]),(17476303,kC_D17),(34952604,[(0,0),(0,1),(0,2),(0,3),(0,4),(0,5),(0,8),(0,8),(0,9),(0,9)]),(34952606,[(0,0),(0,0),(0,1),(0,1),(0,3),(0,3),(0,8),(0,8),(0,9),(0,9)]),(34952604,[(0,1),(0,1),(0,2),(0,2),(0,4),(0,4),(0,8),(0,8),(0,9),(0,9)]),(48933644,[(0,0),(0,0),(0,1),(0,1),(0,2),(0,2),(0,3),(0,3),(0,4),(0,4),(0,8),(0,8),(0,9),(0,9)]),(27962081,[]),(27962080,[]),(27962080,[]),(34952606,kC_D19),(41943125,[(0,6),(0,7),(1,124)]),(45438384,kC_D21),(45438384,kC_D22),(45438386,kC_D21),(45438386,kC_D22),(45438388,kC_D21),(45438388,kC_D22),(1,[(2,2)]),(45438389,kC_D23),(45438389,kC_D24),(3495262,[(0,6)]),(3495262,[(0,7)]),(45438391,kC_D23),(45438391,kC_D24),(55924162,[]),(55924160,[]),(55924164,[]),(73400472,kC_D23),(73400471,kC_D24),(76895733,kC_D25),(76895735,kC_D25),(104857815,kC_D25),(104857816,kC_D25),(48933647,kC_D26),(48933649,kC_D26),(48933645,[(0,1),(0,6),(0,7),(0,11),(1,91)]),(55924169,[(0,0),(0,1),(0,6),(0,7),(0,10),(0,11),(1,91)]),(59419430,[(0,0),(0,1),(0,3),(0,6),(0,7),(0,10),(0,11),(1,91)]),(48933645,kC_D27),(48933647,kC_D27),(48933647,[(0,2),(0,6),(0,7),(0,11),(1,91)]),(55924167,[(0,1),(0,2),(0,6),(0,7),(0,10),(0,11),(1,91)]),(59419428,[(0,1),(0,2),(0,4),(0,6),(0,7),(0,10),(0,11),(1,91)]),(48933645,kC_D28),(48933647,kC_D28),(48933645,[(0,4),(0,6),(0,7),(0,11),(1,91)]),(55924167,[(0,3),(0,4),(0,6),(0,7),(0,10),(0,11),(1,91)]),(59419428,kC_D29),(104857816,kC_D30),(104857818,kC_D30),(104857814,[(0,1),(0,2),(0,4),(0,6),(0,6),(0,7),(0,7),(0,10),(0,11),(0,11),(1,91),(1,91)]),(115343597,[(0,0),(0,1),(0,2),(0,3),(0,4),(0,6),(0,6),(0,7),(0,7),(0,10),(0,10),(0,11),(0,11),(1,91),(1,91)]),(59419429,kC_D29),(118838858,[(0,0),(0,1),(0,2),(0,3),(0,4),(0,5),(0,6),(0,6),(0,7),(0,7),(0,10),(0,10),(0,11),(0,11),(1,91),(1,91)]),(122334117,[(0,0),(0,0),(0,1),(0,2),(0,3),(0,4),(0,5),(0,6),(0,6),(0,7),(0,7),(0,10),(0,10),(0,11),(0,11),(1,91),(1,91)]),(122334117,[(0,0),(0,1),(0,1),(0,2),(0,3),(0,4),(0,5),(0,6),(0,6),(0,7),(0,7),(0,10),(0,10),(0,11),(0,11),(1,91),(1,91)]),(122334117,[(0,0),(0,1),(0,2),(0,2),(0,3),(0,4),(0,5),(0,6),(0,6),(0,7),(0,7),(0,10),(0,10),(0,11),(0,11),(1,91),(1,91)]),(122334117,[(0,0),(0,1),(0,2),(0,3),(0,3),(0,4),(0,5),(0,6),(0,6),(0,7),(0,7),(0,10),(0,10),(0,11),(0,11),(1,91),(1,91)]),(122334117,[(0,0),(0,1),(0,2),(0,3),(0,4),(0,4),(0,5),(0,6),(0,6),(0,7),(0,7),(0,10),(0,10),(0,11),(0,11),(1,91),(1,91)]),(62914689,kC_D31),(62914691,kC_D31),(62914688,[(0,1),(0,2),(0,4),(0,6),(0,7),(0,8),(0,9),(0,11),(1,91)]),(73400470,[(0,0),(0,1),(0,2),(0,3),(0,4),(0,6),(0,7),(0,8),(0,9),(0,10),(0,11),(1,91)]),(76895731,kC_D32),(76895733,kC_D32),(83886252,[(0,6),(0,7),(0,10),(0,11),(1,91),(1,124)]),(87381511,kC_D33),(87381511,kC_D34),(87381513,kC_D33),(87381513,kC_D34),(87381515,kC_D33),(87381515,kC_D34),(87381516,kC_D35),(87381516,kC_D36),(45438388,kC_D12),(45438388,kC_D13),(87381518,kC_D35),(87381518,kC_D36),(115343599,kC_D35),(115343598,kC_D36),(118838860,kC_D37),(118838862,kC_D37),(146800942,kC_D37),(146800943,kC_D37)]
theorem kC_wf : wfB 0 kC_N=true := by kernel_rfl
theorem kC_sz : saB kC_E 0 kC_N kC_E kC_Z=true := by kernel_rfl
theorem kC_lt : litB kC_N kC_L=true := by kernel_rfl
theorem kC_cn : canB kC_N kC_C=true := by kernel_rfl
theorem kC_c27 : cst 0 1 1=(1 : Rat) := by decide +kernel
theorem kC_c28 : cst 0 2 1=(2 : Rat) := by decide +kernel
theorem kC_c33 : cst 0 0 1=(0 : Rat) := by decide +kernel
theorem kC_c139 : cst 0 1 2=((1 / 2) : Rat) := by decide +kernel
def kC_A : List AV := [(false,[(true,[.inr (2,0,0,0,0),.inr (2,1,0,0,0),.inr (2,2,0,0,0),.inr (2,3,0,0,0),.inr (2,4,0,0,0),.inr (2,5,0,0,0)])]),(false,[(true,[.inr (2,6,0,0,0),.inr (2,7,0,0,0)])]),(false,[(true,[.inr (2,8,0,0,0),.inr (2,9,0,0,0)])]),(false,[(true,[.inr (2,10,0,0,0),.inr (2,11,0,0,0)])])]
theorem kC_f0 {z0 z1 z2 z3 z4 z5 z15 z16 z28 z29 z30 z31 z33 z66 z72 z78 z98 z99 z100 z101 z102 z103 z104 z105 z106 z107 z108 z109 z110 z111 z112 z119 z120 z121 z122 z123 z124 z127 : Rat} : z28=2→z29=z0*z28→z30=z2*z28→z31=z5*z28→z33=0→z66=z3*z33→z72=z4*z33→z78=z31*z33→z98=z29*z15→z99=z33+z98→z100=z1*z16→z101=z99+z100→z102=z101+z66→z103=z1*z15→z104=z33+z103→z105=z30*z16→z106=z104+z105→z107=z106+z72→z108=z3*z15→z109=z33+z108→z110=z4*z16→z111=z109+z110→z112=z111+z78→z119=z15*z102→z120=z33+z119→z121=z16*z107→z122=z120+z121→z123=z33*z112→z124=z122+z123→(z127=0↔(z102=0∧z107=0))→(¬ (z124=0))→¬ (z127=0) := by
 intro e28 e29 e30 e31 e33 e66 e72 e78 e98 e99 e100 e101 e102 e103 e104 e105 e106 e107 e108 e109 e110 e111 e112 e119 e120 e121 e122 e123 e124 e127 u3
 rw [e127]
 clear  e127
 have hp := sq_pos (x := z102) (y := z107) (by grind)
 rintro ⟨ub102,ub107⟩
 subst_vars; grind
theorem kC_f1 {z0 z1 z2 z3 z4 z5 z15 z16 z28 z29 z30 z31 z33 z66 z72 z78 z98 z99 z100 z101 z102 z103 z104 z105 z106 z107 z108 z109 z110 z111 z112 z119 z120 z121 z122 z123 z124 z128 z129 z148 : Rat} : z28=2→z29=z0*z28→z30=z2*z28→z31=z5*z28→z33=0→z66=z3*z33→z72=z4*z33→z78=z31*z33→z98=z29*z15→z99=z33+z98→z100=z1*z16→z101=z99+z100→z102=z101+z66→z103=z1*z15→z104=z33+z103→z105=z30*z16→z106=z104+z105→z107=z106+z72→z108=z3*z15→z109=z33+z108→z110=z4*z16→z111=z109+z110→z112=z111+z78→z119=z15*z102→z120=z33+z119→z121=z16*z107→z122=z120+z121→z123=z33*z112→z124=z122+z123→z128=z102*fac [z102,z107,z112]→z129=z107*fac [z102,z107,z112]→(z148=0↔(z128=0∧z129=0))→(¬ (z124=0))→¬ (z148=0) := by
 intro e28 e29 e30 e31 e33 e66 e72 e78 e98 e99 e100 e101 e102 e103 e104 e105 e106 e107 e108 e109 e110 e111 e112 e119 e120 e121 e122 e123 e124 e128 e129 e148 u3
 rw [e148]
 clear  e148
 have k0_102 : fac [z102,z107,z112]=0→z102=0 := fac_zero (by simp)
 have k0_107 : fac [z102,z107,z112]=0→z107=0 := fac_zero (by simp)
 have k0_112 : fac [z102,z107,z112]=0→z112=0 := fac_zero (by simp)
 generalize fac [z102,z107,z112]=g0 at *
 have nx0 : ¬ ((z102=0∧z107=0)∧z112=0) := by
  rintro ⟨⟨hx102,hx107⟩,hx112⟩
  first | grind | (subst_vars; grind)
 have iw0 : g0 ≠ 0 := fun hg => nx0 ⟨⟨(k0_102 hg),(k0_107 hg)⟩,(k0_112 hg)⟩
 obtain ⟨iv0,ih0⟩ : ∃ i,g0*i=1 := ⟨g0⁻¹,Rat.mul_inv_cancel _ iw0⟩
 clear k0_102 k0_107 k0_112
 have hp := sq_pos (x := z128) (y := z129) (by grind)
 rintro ⟨ub128,ub129⟩
 subst_vars; grind
theorem kC_f2 {z0 z1 z2 z3 z4 z5 z15 z16 z25 z26 z27 z28 z29 z30 z31 z33 z66 z72 z78 z98 z99 z100 z101 z102 z103 z104 z105 z106 z107 z108 z109 z110 z111 z112 z113 z114 z115 z116 z117 z118 z119 z120 z121 z122 z123 z124 z128 z129 z130 z131 z132 z133 z134 z135 z136 z137 z138 z139 z140 z141 z142 z143 z144 z145 z149 z150 z151 z152 z153 : Rat} : z27=1→z28=2→z29=z0*z28→z30=z2*z28→z31=z5*z28→z33=0→z66=z3*z33→z72=z4*z33→z78=z31*z33→z98=z29*z15→z99=z33+z98→z100=z1*z16→z101=z99+z100→z102=z101+z66→z103=z1*z15→z104=z33+z103→z105=z30*z16→z106=z104+z105→z107=z106+z72→z108=z3*z15→z109=z33+z108→z110=z4*z16→z111=z109+z110→z112=z111+z78→z113=z25*z102→z114=z33+z113→z115=z26*z107→z116=z114+z115→z117=z27*z112→z118=z116+z117→z119=z15*z102→z120=z33+z119→z121=z16*z107→z122=z120+z121→z123=z33*z112→z124=z122+z123→z128=z102*fac [z102,z107,z112]→z129=z107*fac [z102,z107,z112]→z130=z112*fac [z102,z107,z112]→z131=z28*z118→z132=z131/z124→z133=z15*z132→z134=z16*z132→z135=z25-z133→z136=z26-z134→z137=z135-z25→z138=z136-z26→z139=(1/2)→z140=z137*z139→z141=z138*z139→z142=z33+z25→z143=z33+z26→z144=z142+z140→z145=z143+z141→z149=z128*z144→z150=z129*z145→z151=z149+z150→z152=z151+z130→z153=z129*z152→(¬ (z124=0))→z153=0 := by
 intro e27 e28 e29 e30 e31 e33 e66 e72 e78 e98 e99 e100 e101 e102 e103 e104 e105 e106 e107 e108 e109 e110 e111 e112 e113 e114 e115 e116 e117 e118 e119 e120 e121 e122 e123 e124 e128 e129 e130 e131 e132 e133 e134 e135 e136 e137 e138 e139 e140 e141 e142 e143 e144 e145 e149 e150 e151 e152 e153 u3
 have k0_102 : fac [z102,z107,z112]=0→z102=0 := fac_zero (by simp)
 have k0_107 : fac [z102,z107,z112]=0→z107=0 := fac_zero (by simp)
 have k0_112 : fac [z102,z107,z112]=0→z112=0 := fac_zero (by simp)
 generalize fac [z102,z107,z112]=g0 at *
 have nx0 : ¬ ((z102=0∧z107=0)∧z112=0) := by
  rintro ⟨⟨hx102,hx107⟩,hx112⟩
  first | grind | (subst_vars; grind)
 have iw0 : g0 ≠ 0 := fun hg => nx0 ⟨⟨(k0_102 hg),(k0_107 hg)⟩,(k0_112 hg)⟩
 obtain ⟨iv0,ih0⟩ : ∃ i,g0*i=1 := ⟨g0⁻¹,Rat.mul_inv_cancel _ iw0⟩
 clear k0_102 k0_107 k0_112
 have n124 : z124 ≠ 0 := by grind
 subst_vars; grind
theorem kC_f3 {z0 z1 z2 z3 z4 z5 z15 z16 z25 z26 z27 z28 z29 z30 z31 z33 z66 z72 z78 z98 z99 z100 z101 z102 z103 z104 z105 z106 z107 z108 z109 z110 z111 z112 z113 z114 z115 z116 z117 z118 z119 z120 z121 z122 z123 z124 z128 z129 z130 z131 z132 z133 z134 z135 z136 z137 z138 z139 z140 z141 z142 z143 z144 z145 z149 z150 z151 z152 z154 : Rat} : z27=1→z28=2→z29=z0*z28→z30=z2*z28→z31=z5*z28→z33=0→z66=z3*z33→z72=z4*z33→z78=z31*z33→z98=z29*z15→z99=z33+z98→z100=z1*z16→z101=z99+z100→z102=z101+z66→z103=z1*z15→z104=z33+z103→z105=z30*z16→z106=z104+z105→z107=z106+z72→z108=z3*z15→z109=z33+z108→z110=z4*z16→z111=z109+z110→z112=z111+z78→z113=z25*z102→z114=z33+z113→z115=z26*z107→z116=z114+z115→z117=z27*z112→z118=z116+z117→z119=z15*z102→z120=z33+z119→z121=z16*z107→z122=z120+z121→z123=z33*z112→z124=z122+z123→z128=z102*fac [z102,z107,z112]→z129=z107*fac [z102,z107,z112]→z130=z112*fac [z102,z107,z112]→z131=z28*z118→z132=z131/z124→z133=z15*z132→z134=z16*z132→z135=z25-z133→z136=z26-z134→z137=z135-z25→z138=z136-z26→z139=(1/2)→z140=z137*z139→z141=z138*z139→z142=z33+z25→z143=z33+z26→z144=z142+z140→z145=z143+z141→z149=z128*z144→z150=z129*z145→z151=z149+z150→z152=z151+z130→z154=z128*z152→(¬ (z124=0))→z154=0 := by
 intro e27 e28 e29 e30 e31 e33 e66 e72 e78 e98 e99 e100 e101 e102 e103 e104 e105 e106 e107 e108 e109 e110 e111 e112 e113 e114 e115 e116 e117 e118 e119 e120 e121 e122 e123 e124 e128 e129 e130 e131 e132 e133 e134 e135 e136 e137 e138 e139 e140 e141 e142 e143 e144 e145 e149 e150 e151 e152 e154 u3
 have k0_102 : fac [z102,z107,z112]=0→z102=0 := fac_zero (by simp)
 have k0_107 : fac [z102,z107,z112]=0→z107=0 := fac_zero (by simp)
 have k0_112 : fac [z102,z107,z112]=0→z112=0 := fac_zero (by simp)
 generalize fac [z102,z107,z112]=g0 at *
 have nx0 : ¬ ((z102=0∧z107=0)∧z112=0) := by
  rintro ⟨⟨hx102,hx107⟩,hx112⟩
  first | grind | (subst_vars; grind)
 have iw0 : g0 ≠ 0 := fun hg => nx0 ⟨⟨(k0_102 hg),(k0_107 hg)⟩,(k0_112 hg)⟩
 obtain ⟨iv0,ih0⟩ : ∃ i,g0*i=1 := ⟨g0⁻¹,Rat.mul_inv_cancel _ iw0⟩
 clear k0_102 k0_107 k0_112
 have n124 : z124 ≠ 0 := by grind
 subst_vars; grind
theorem kC_f4 {z0 z1 z2 z3 z4 z5 z17 z18 z25 z26 z27 z28 z29 z30 z31 z32 z33 z34 z35 z36 z37 z38 z39 z40 z41 z42 z43 z44 z45 z46 z47 z48 z49 z50 z51 z52 z53 z54 z55 z56 z62 z63 z64 z65 z66 z67 z68 z69 z70 z71 z72 z73 z74 z75 z76 z77 z78 z79 z80 z81 z82 z83 z84 z85 z86 z87 z88 z89 z90 z91 z92 z93 z94 z95 z96 z97 z155 z156 z157 z158 z159 z160 z161 z162 z163 z164 z165 z166 z167 z168 z169 z170 z171 z172 z173 z174 z175 : Rat} : z27=1→z28=2→z29=z0*z28→z30=z2*z28→z31=z5*z28→z32=z29*z25→z33=0→z34=z33+z32→z35=z1*z26→z36=z34+z35→z37=z3*z27→z38=z36+z37→z39=z1*z25→z40=z33+z39→z41=z30*z26→z42=z40+z41→z43=z4*z27→z44=z42+z43→z45=z3*z25→z46=z33+z45→z47=z4*z26→z48=z46+z47→z49=z31*z27→z50=z48+z49→z51=z25*z38→z52=z33+z51→z53=z26*z44→z54=z52+z53→z55=z27*z50→z56=z54+z55→z62=z29*z17→z63=z33+z62→z64=z1*z18→z65=z63+z64→z66=z3*z33→z67=z65+z66→z68=z1*z17→z69=z33+z68→z70=z30*z18→z71=z69+z70→z72=z4*z33→z73=z71+z72→z74=z3*z17→z75=z33+z74→z76=z4*z18→z77=z75+z76→z78=z31*z33→z79=z77+z78→z80=z25*z67→z81=z33+z80→z82=z26*z73→z83=z81+z82→z84=z27*z79→z85=z83+z84→z86=z17*z67→z87=z33+z86→z88=z18*z73→z89=z87+z88→z90=z33*z79→z91=z89+z90→z92=z28*z85→z93=z92/z91→z94=z17*z93→z95=z18*z93→z96=z25-z94→z97=z26-z95→z155=z29*z96→z156=z33+z155→z157=z1*z97→z158=z156+z157→z159=z158+z37→z160=z1*z96→z161=z33+z160→z162=z30*z97→z163=z161+z162→z164=z163+z43→z165=z3*z96→z166=z33+z165→z167=z4*z97→z168=z166+z167→z169=z168+z49→z170=z96*z159→z171=z33+z170→z172=z97*z164→z173=z171+z172→z174=z27*z169→z175=z173+z174→(z56=0)→(¬ (z91=0))→z175=0 := by
 intro e27 e28 e29 e30 e31 e32 e33 e34 e35 e36 e37 e38 e39 e40 e41 e42 e43 e44 e45 e46 e47 e48 e49 e50 e51 e52 e53 e54 e55 e56 e62 e63 e64 e65 e66 e67 e68 e69 e70 e71 e72 e73 e74 e75 e76 e77 e78 e79 e80 e81 e82 e83 e84 e85 e86 e87 e88 e89 e90 e91 e92 e93 e94 e95 e96 e97 e155 e156 e157 e158 e159 e160 e161 e162 e163 e164 e165 e166 e167 e168 e169 e170 e171 e172 e173 e174 e175 u2 u5
 rw [u2] at e56
 have n91 : z91 ≠ 0 := by grind
 subst_vars; grind
theorem kC_f5 {z0 z1 z2 z3 z4 z5 z15 z16 z17 z18 z25 z26 z27 z28 z29 z30 z31 z33 z62 z63 z64 z65 z66 z67 z68 z69 z70 z71 z72 z73 z74 z75 z76 z77 z78 z79 z80 z81 z82 z83 z84 z85 z86 z87 z88 z89 z90 z91 z92 z93 z94 z95 z96 z97 z98 z99 z100 z101 z102 z103 z104 z105 z106 z107 z108 z109 z110 z111 z112 z117 z119 z120 z121 z122 z123 z124 z128 z129 z130 z139 z181 z182 z183 z184 z185 z186 z187 z188 z189 z190 z191 z192 z193 z194 z195 z196 z197 z198 z199 z200 z201 z202 z203 z204 : Rat} : z27=1→z28=2→z29=z0*z28→z30=z2*z28→z31=z5*z28→z33=0→z62=z29*z17→z63=z33+z62→z64=z1*z18→z65=z63+z64→z66=z3*z33→z67=z65+z66→z68=z1*z17→z69=z33+z68→z70=z30*z18→z71=z69+z70→z72=z4*z33→z73=z71+z72→z74=z3*z17→z75=z33+z74→z76=z4*z18→z77=z75+z76→z78=z31*z33→z79=z77+z78→z80=z25*z67→z81=z33+z80→z82=z26*z73→z83=z81+z82→z84=z27*z79→z85=z83+z84→z86=z17*z67→z87=z33+z86→z88=z18*z73→z89=z87+z88→z90=z33*z79→z91=z89+z90→z92=z28*z85→z93=z92/z91→z94=z17*z93→z95=z18*z93→z96=z25-z94→z97=z26-z95→z98=z29*z15→z99=z33+z98→z100=z1*z16→z101=z99+z100→z102=z101+z66→z103=z1*z15→z104=z33+z103→z105=z30*z16→z106=z104+z105→z107=z106+z72→z108=z3*z15→z109=z33+z108→z110=z4*z16→z111=z109+z110→z112=z111+z78→z117=z27*z112→z119=z15*z102→z120=z33+z119→z121=z16*z107→z122=z120+z121→z123=z33*z112→z124=z122+z123→z128=z102*fac [z102,z107,z112]→z129=z107*fac [z102,z107,z112]→z130=z112*fac [z102,z107,z112]→z139=(1/2)→z181=z96*z102→z182=z33+z181→z183=z97*z107→z184=z182+z183→z185=z184+z117→z186=z28*z185→z187=z186/z124→z188=z15*z187→z189=z16*z187→z190=z96-z188→z191=z97-z189→z192=z190-z96→z193=z191-z97→z194=z192*z139→z195=z193*z139→z196=z33+z96→z197=z33+z97→z198=z196+z194→z199=z197+z195→z200=z128*z198→z201=z129*z199→z202=z200+z201→z203=z202+z130→z204=z129*z203→(¬ (z124=0))→(¬ (z91=0))→z204=0 := by
 intro e27 e28 e29 e30 e31 e33 e62 e63 e64 e65 e66 e67 e68 e69 e70 e71 e72 e73 e74 e75 e76 e77 e78 e79 e80 e81 e82 e83 e84 e85 e86 e87 e88 e89 e90 e91 e92 e93 e94 e95 e96 e97 e98 e99 e100 e101 e102 e103 e104 e105 e106 e107 e108 e109 e110 e111 e112 e117 e119 e120 e121 e122 e123 e124 e128 e129 e130 e139 e181 e182 e183 e184 e185 e186 e187 e188 e189 e190 e191 e192 e193 e194 e195 e196 e197 e198 e199 e200 e201 e202 e203 e204 u3 u5
 have k0_102 : fac [z102,z107,z112]=0→z102=0 := fac_zero (by simp)
 have k0_107 : fac [z102,z107,z112]=0→z107=0 := fac_zero (by simp)
 have k0_112 : fac [z102,z107,z112]=0→z112=0 := fac_zero (by simp)
 generalize fac [z102,z107,z112]=g0 at *
 have nx0 : ¬ ((z102=0∧z107=0)∧z112=0) := by
  rintro ⟨⟨hx102,hx107⟩,hx112⟩
  first | grind | (subst_vars; grind)
 have iw0 : g0 ≠ 0 := fun hg => nx0 ⟨⟨(k0_102 hg),(k0_107 hg)⟩,(k0_112 hg)⟩
 obtain ⟨iv0,ih0⟩ : ∃ i,g0*i=1 := ⟨g0⁻¹,Rat.mul_inv_cancel _ iw0⟩
 clear k0_102 k0_107 k0_112
 have n91 : z91 ≠ 0 := by grind
 have n124 : z124 ≠ 0 := by grind
 subst_vars; grind
theorem kC_f6 {z0 z1 z2 z3 z4 z5 z15 z16 z17 z18 z25 z26 z27 z28 z29 z30 z31 z33 z62 z63 z64 z65 z66 z67 z68 z69 z70 z71 z72 z73 z74 z75 z76 z77 z78 z79 z80 z81 z82 z83 z84 z85 z86 z87 z88 z89 z90 z91 z92 z93 z94 z95 z96 z97 z98 z99 z100 z101 z102 z103 z104 z105 z106 z107 z108 z109 z110 z111 z112 z117 z119 z120 z121 z122 z123 z124 z128 z129 z130 z139 z181 z182 z183 z184 z185 z186 z187 z188 z189 z190 z191 z192 z193 z194 z195 z196 z197 z198 z199 z200 z201 z202 z203 z205 : Rat} : z27=1→z28=2→z29=z0*z28→z30=z2*z28→z31=z5*z28→z33=0→z62=z29*z17→z63=z33+z62→z64=z1*z18→z65=z63+z64→z66=z3*z33→z67=z65+z66→z68=z1*z17→z69=z33+z68→z70=z30*z18→z71=z69+z70→z72=z4*z33→z73=z71+z72→z74=z3*z17→z75=z33+z74→z76=z4*z18→z77=z75+z76→z78=z31*z33→z79=z77+z78→z80=z25*z67→z81=z33+z80→z82=z26*z73→z83=z81+z82→z84=z27*z79→z85=z83+z84→z86=z17*z67→z87=z33+z86→z88=z18*z73→z89=z87+z88→z90=z33*z79→z91=z89+z90→z92=z28*z85→z93=z92/z91→z94=z17*z93→z95=z18*z93→z96=z25-z94→z97=z26-z95→z98=z29*z15→z99=z33+z98→z100=z1*z16→z101=z99+z100→z102=z101+z66→z103=z1*z15→z104=z33+z103→z105=z30*z16→z106=z104+z105→z107=z106+z72→z108=z3*z15→z109=z33+z108→z110=z4*z16→z111=z109+z110→z112=z111+z78→z117=z27*z112→z119=z15*z102→z120=z33+z119→z121=z16*z107→z122=z120+z121→z123=z33*z112→z124=z122+z123→z128=z102*fac [z102,z107,z112]→z129=z107*fac [z102,z107,z112]→z130=z112*fac [z102,z107,z112]→z139=(1/2)→z181=z96*z102→z182=z33+z181→z183=z97*z107→z184=z182+z183→z185=z184+z117→z186=z28*z185→z187=z186/z124→z188=z15*z187→z189=z16*z187→z190=z96-z188→z191=z97-z189→z192=z190-z96→z193=z191-z97→z194=z192*z139→z195=z193*z139→z196=z33+z96→z197=z33+z97→z198=z196+z194→z199=z197+z195→z200=z128*z198→z201=z129*z199→z202=z200+z201→z203=z202+z130→z205=z128*z203→(¬ (z124=0))→(¬ (z91=0))→z205=0 := by
 intro e27 e28 e29 e30 e31 e33 e62 e63 e64 e65 e66 e67 e68 e69 e70 e71 e72 e73 e74 e75 e76 e77 e78 e79 e80 e81 e82 e83 e84 e85 e86 e87 e88 e89 e90 e91 e92 e93 e94 e95 e96 e97 e98 e99 e100 e101 e102 e103 e104 e105 e106 e107 e108 e109 e110 e111 e112 e117 e119 e120 e121 e122 e123 e124 e128 e129 e130 e139 e181 e182 e183 e184 e185 e186 e187 e188 e189 e190 e191 e192 e193 e194 e195 e196 e197 e198 e199 e200 e201 e202 e203 e205 u3 u5
 have k0_102 : fac [z102,z107,z112]=0→z102=0 := fac_zero (by simp)
 have k0_107 : fac [z102,z107,z112]=0→z107=0 := fac_zero (by simp)
 have k0_112 : fac [z102,z107,z112]=0→z112=0 := fac_zero (by simp)
 generalize fac [z102,z107,z112]=g0 at *
 have nx0 : ¬ ((z102=0∧z107=0)∧z112=0) := by
  rintro ⟨⟨hx102,hx107⟩,hx112⟩
  first | grind | (subst_vars; grind)
 have iw0 : g0 ≠ 0 := fun hg => nx0 ⟨⟨(k0_102 hg),(k0_107 hg)⟩,(k0_112 hg)⟩
 obtain ⟨iv0,ih0⟩ : ∃ i,g0*i=1 := ⟨g0⁻¹,Rat.mul_inv_cancel _ iw0⟩
 clear k0_102 k0_107 k0_112
 have n91 : z91 ≠ 0 := by grind
 have n124 : z124 ≠ 0 := by grind
 subst_vars; grind
def kC_cs : List (FuncId × Nat) := [(93,61),(17,63),(78,64),(101,60),(58,68)]
def kC_G : Memo := [(29,[tA [96,97],tA [190,191],(false,[(false,[.inl (.string ⟨#[49,47,50]⟩)])])],tA [198,199]),(63,[qA [29,1,3,1,30,4,3,4,31],qA [96,97,27],(false,[(true,[.inr (0,1,15,0,0),.inr (0,2,15,0,0),.inr (0,3,15,0,0),.inr (0,1,16,0,0),.inr (0,2,16,0,0),.inr (0,3,16,0,0),.inl (.bool false),.inl (.slice none 0 0),.inl (.slice none 0 0)])])],qA [185]),(63,[qA [29,1,3,1,30,4,3,4,31],qA [96,97,27],qA [96,97,27]],qA [175]),(29,[pA [6,7],tA [135,136],(false,[(false,[.inl (.string ⟨#[49,47,50]⟩)])])],tA [144,145]),(103,[qA [102,107,112]],tA [128,129,130]),(63,[qA [29,1,3,1,30,4,3,4,31],(false,[(true,[.inr (0,1,15,0,0),.inr (0,2,15,0,0),.inr (0,3,15,0,0),.inr (0,1,16,0,0),.inr (0,2,16,0,0),.inr (0,3,16,0,0),.inl (.bool false),.inl (.slice none 0 0),.inl (.slice none 0 0)])]),(false,[(true,[.inr (0,1,15,0,0),.inr (0,2,15,0,0),.inr (0,3,15,0,0),.inr (0,1,16,0,0),.inr (0,2,16,0,0),.inr (0,3,16,0,0),.inl (.bool false),.inl (.slice none 0 0),.inl (.slice none 0 0)])])],qA [124]),(63,[qA [29,1,3,1,30,4,3,4,31],qA [25,26,27],(false,[(true,[.inr (0,1,15,0,0),.inr (0,2,15,0,0),.inr (0,3,15,0,0),.inr (0,1,16,0,0),.inr (0,2,16,0,0),.inr (0,3,16,0,0),.inl (.bool false),.inl (.slice none 0 0),.inl (.slice none 0 0)])])],qA [118]),(108,[qA [29,1,3,1,30,4,3,4,31],(false,[(true,[.inr (0,1,15,0,0),.inr (0,2,15,0,0),.inr (0,3,15,0,0),.inr (0,1,16,0,0),.inr (0,2,16,0,0),.inr (0,3,16,0,0),.inl (.bool false),.inl (.slice none 0 0),.inl (.slice none 0 0)])])],qA [102,107,112]),(63,[qA [29,1,3,1,30,4,3,4,31],(false,[(true,[.inr (0,1,17,0,0),.inr (0,2,17,0,0),.inr (0,3,17,0,0),.inr (0,1,18,0,0),.inr (0,2,18,0,0),.inr (0,3,18,0,0),.inl (.bool false),.inl (.slice none 0 0),.inl (.slice none 0 0)])]),(false,[(true,[.inr (0,1,17,0,0),.inr (0,2,17,0,0),.inr (0,3,17,0,0),.inr (0,1,18,0,0),.inr (0,2,18,0,0),.inr (0,3,18,0,0),.inl (.bool false),.inl (.slice none 0 0),.inl (.slice none 0 0)])])],qA [91]),(63,[qA [29,1,3,1,30,4,3,4,31],qA [25,26,27],(false,[(true,[.inr (0,1,17,0,0),.inr (0,2,17,0,0),.inr (0,3,17,0,0),.inr (0,1,18,0,0),.inr (0,2,18,0,0),.inr (0,3,18,0,0),.inl (.bool false),.inl (.slice none 0 0),.inl (.slice none 0 0)])])],qA [85]),(108,[qA [29,1,3,1,30,4,3,4,31],(false,[(true,[.inr (0,1,17,0,0),.inr (0,2,17,0,0),.inr (0,3,17,0,0),.inr (0,1,18,0,0),.inr (0,2,18,0,0),.inr (0,3,18,0,0),.inl (.bool false),.inl (.slice none 0 0),.inl (.slice none 0 0)])])],qA [67,73,79]),(63,[qA [29,1,3,1,30,4,3,4,31],qA [25,26,27],qA [25,26,27]],qA [56]),(56,[qA [0,1,2,3,4,5]],qA [29,1,3,1,30,4,3,4,31])]
theorem kC_g0 : memoChk (sx Tryz.prog kC_N [] [] kC_L kC_C kC_Z (prC [14])) kC_cs 7 12 (kC_G.drop 0)=true := by kernel_rfl
theorem kC_g1 : memoChk (sx Tryz.prog kC_N [] [] kC_L kC_C kC_Z (prC [14])) kC_cs 7 1 (kC_G.drop 12)=true := by kernel_rfl
theorem kC_memoG {q : Nat→Rat} {σ : Nat→ByteArray} {w : World} (hσ : ∀ j,(σ j).size≤1048576) (hq : ∀ (a : Nat) nd,kC_N[a]? = some nd→q a=valN σ q nd) (h0 : ∀ a,kC_N.length≤a→q a=0) (hp : PreS w) : MemoAll kC_N kC_L kC_C kC_Z q σ [14] w kC_G := by
 have Y : Hy kC_N [] kC_L kC_C kC_Z q σ := hy_ofA hσ kC_wf kC_sz kC_lt kC_cn hq h0 trivial
 have hc : ∀ f ∈ ([14] : List FuncId),Closed f := by simp [closed_coned]
 have hm : (Tryz.prog).follows .mixedOrders=true := by kernel_rfl
 exact (memoAll_chk (M := kC_G.drop 0) Y hc hm hp 12 kC_g0 (memoAll_chk (M := kC_G.drop 12) Y hc hm hp 1 kC_g1 memoAll_nil))
def kC_H0 : List (Nat × Nat × Nat × Nat) := [(0,14,0,1)]
def kC_H1 : List (Nat × Nat × Nat × Nat) := [(0,14,0,0),(0,21,0,1),(0,24,0,1)]
def kC_H2 : List (Nat × Nat × Nat × Nat) := [(0,14,0,0),(0,21,0,1),(0,24,0,0),(0,56,0,1),(0,91,0,1),(0,85,0,1)]
def kC_H3 : List (Nat × Nat × Nat × Nat) := [(0,14,0,0),(0,21,0,1),(0,24,0,0),(0,56,0,1),(0,91,0,1),(0,85,0,0)]
def kC_H4 : List (Nat × Nat × Nat × Nat) := [(0,14,0,0),(0,21,0,1),(0,24,0,0),(0,56,0,1),(0,91,0,0)]
def kC_H5 : List (Nat × Nat × Nat × Nat) := [(0,14,0,0),(0,21,0,1),(0,24,0,0),(0,56,0,0)]
def kC_H6 : List (Nat × Nat × Nat × Nat) := [(0,14,0,0),(0,21,0,0),(0,56,0,1),(0,124,0,1),(0,118,0,1),(0,24,0,1),(0,127,0,1)]
def kC_H7 : List (Nat × Nat × Nat × Nat) := [(0,14,0,0),(0,21,0,0),(0,56,0,1),(0,124,0,1),(0,118,0,1),(0,24,0,1),(0,127,0,0)]
def kC_H8 : List (Nat × Nat × Nat × Nat) := [(0,14,0,0),(0,21,0,0),(0,56,0,1),(0,124,0,1),(0,118,0,1),(0,24,0,0),(0,91,0,1),(0,85,0,1),(0,127,0,1)]
def kC_H9 : List (Nat × Nat × Nat × Nat) := [(0,14,0,0),(0,21,0,0),(0,56,0,1),(0,124,0,1),(0,118,0,1),(0,24,0,0),(0,91,0,1),(0,85,0,1),(0,127,0,0)]
def kC_H10 : List (Nat × Nat × Nat × Nat) := [(0,14,0,0),(0,21,0,0),(0,56,0,1),(0,124,0,1),(0,118,0,1),(0,24,0,0),(0,91,0,1),(0,85,0,0),(0,127,0,1)]
def kC_H11 : List (Nat × Nat × Nat × Nat) := [(0,14,0,0),(0,21,0,0),(0,56,0,1),(0,124,0,1),(0,118,0,1),(0,24,0,0),(0,91,0,1),(0,85,0,0),(0,127,0,0)]
def kC_H12 : List (Nat × Nat × Nat × Nat) := [(0,14,0,0),(0,21,0,0),(0,56,0,1),(0,124,0,1),(0,118,0,1),(0,24,0,0),(0,91,0,0),(0,127,0,1)]
def kC_H13 : List (Nat × Nat × Nat × Nat) := [(0,14,0,0),(0,21,0,0),(0,56,0,1),(0,124,0,1),(0,118,0,1),(0,24,0,0),(0,91,0,0),(0,127,0,0)]
def kC_H14 : List (Nat × Nat × Nat × Nat) := [(0,14,0,0),(0,21,0,0),(0,56,0,1),(0,124,0,1),(0,118,0,0),(0,24,0,1),(0,127,0,1)]
def kC_H15 : List (Nat × Nat × Nat × Nat) := [(0,14,0,0),(0,21,0,0),(0,56,0,1),(0,124,0,1),(0,118,0,0),(0,24,0,1),(0,127,0,0)]
def kC_H16 : List (Nat × Nat × Nat × Nat) := [(0,14,0,0),(0,21,0,0),(0,56,0,1),(0,124,0,1),(0,118,0,0),(0,24,0,0),(0,91,0,1),(0,85,0,1),(0,127,0,1)]
def kC_H17 : List (Nat × Nat × Nat × Nat) := [(0,14,0,0),(0,21,0,0),(0,56,0,1),(0,124,0,1),(0,118,0,0),(0,24,0,0),(0,91,0,1),(0,85,0,1),(0,127,0,0)]
def kC_H18 : List (Nat × Nat × Nat × Nat) := [(0,14,0,0),(0,21,0,0),(0,56,0,1),(0,124,0,1),(0,118,0,0),(0,24,0,0),(0,91,0,1),(0,85,0,0),(0,127,0,1)]
def kC_H19 : List (Nat × Nat × Nat × Nat) := [(0,14,0,0),(0,21,0,0),(0,56,0,1),(0,124,0,1),(0,118,0,0),(0,24,0,0),(0,91,0,1),(0,85,0,0),(0,127,0,0)]
def kC_H20 : List (Nat × Nat × Nat × Nat) := [(0,14,0,0),(0,21,0,0),(0,56,0,1),(0,124,0,1),(0,118,0,0),(0,24,0,0),(0,91,0,0),(0,127,0,1)]
def kC_H21 : List (Nat × Nat × Nat × Nat) := [(0,14,0,0),(0,21,0,0),(0,56,0,1),(0,124,0,1),(0,118,0,0),(0,24,0,0),(0,91,0,0),(0,127,0,0)]
def kC_H22 : List (Nat × Nat × Nat × Nat) := [(0,14,0,0),(0,21,0,0),(0,56,0,1),(0,124,0,0),(0,24,0,1),(0,127,0,0),(0,148,0,0),(0,128,0,1),(0,153,0,1)]
def kC_H23 : List (Nat × Nat × Nat × Nat) := [(0,14,0,0),(0,21,0,0),(0,56,0,1),(0,124,0,0),(0,24,0,1),(0,127,0,0),(0,148,0,0),(0,128,0,0),(0,154,0,1)]
def kC_H24 : List (Nat × Nat × Nat × Nat) := [(0,14,0,0),(0,21,0,0),(0,56,0,1),(0,124,0,0),(0,24,0,0),(0,91,0,1),(0,85,0,1),(0,127,0,0),(0,148,0,0),(0,128,0,1),(0,153,0,1)]
def kC_H25 : List (Nat × Nat × Nat × Nat) := [(0,14,0,0),(0,21,0,0),(0,56,0,1),(0,124,0,0),(0,24,0,0),(0,91,0,1),(0,85,0,1),(0,127,0,0),(0,148,0,0),(0,128,0,0),(0,154,0,1)]
def kC_H26 : List (Nat × Nat × Nat × Nat) := [(0,14,0,0),(0,21,0,0),(0,56,0,1),(0,124,0,0),(0,24,0,0),(0,91,0,1),(0,85,0,0),(0,127,0,0),(0,148,0,0),(0,128,0,1),(0,153,0,1)]
def kC_H27 : List (Nat × Nat × Nat × Nat) := [(0,14,0,0),(0,21,0,0),(0,56,0,1),(0,124,0,0),(0,24,0,0),(0,91,0,1),(0,85,0,0),(0,127,0,0),(0,148,0,0),(0,128,0,0),(0,154,0,1)]
def kC_H28 : List (Nat × Nat × Nat × Nat) := [(0,14,0,0),(0,21,0,0),(0,56,0,1),(0,124,0,0),(0,24,0,0),(0,91,0,0),(0,127,0,0),(0,148,0,0),(0,128,0,1),(0,153,0,1),(0,175,0,1),(0,204,0,1)]
def kC_H29 : List (Nat × Nat × Nat × Nat) := [(0,14,0,0),(0,21,0,0),(0,56,0,1),(0,124,0,0),(0,24,0,0),(0,91,0,0),(0,127,0,0),(0,148,0,0),(0,128,0,0),(0,154,0,1),(0,175,0,1),(0,205,0,1)]
def kC_H30 : List (Nat × Nat × Nat × Nat) := [(0,14,0,0),(0,21,0,0),(0,56,0,0),(0,24,0,1),(0,127,0,1)]
def kC_H31 : List (Nat × Nat × Nat × Nat) := [(0,14,0,0),(0,21,0,0),(0,56,0,0),(0,24,0,1),(0,127,0,0)]
def kC_H32 : List (Nat × Nat × Nat × Nat) := [(0,14,0,0),(0,21,0,0),(0,56,0,0),(0,24,0,0),(0,127,0,1)]
def kC_H33 : List (Nat × Nat × Nat × Nat) := [(0,14,0,0),(0,21,0,0),(0,56,0,0),(0,24,0,0),(0,127,0,0)]
theorem kC_r0 : (callD (sx Tryz.prog kC_N kC_H0 [] kC_L kC_C kC_Z (prC [14])) kC_cs kC_G 6 [] 6 kC_A [] 0).map (·.1)=some (kB true) := by kernel_rfl
theorem kC_r1 : (callD (sx Tryz.prog kC_N kC_H1 [] kC_L kC_C kC_Z (prC [14])) kC_cs kC_G 6 [] 6 kC_A [] 0).map (·.1)=some (kB true) := by kernel_rfl
theorem kC_r2 : (callD (sx Tryz.prog kC_N kC_H2 [] kC_L kC_C kC_Z (prC [14])) kC_cs kC_G 6 [] 6 kC_A [] 0).map (·.1)=some (kB true) := by kernel_rfl
theorem kC_r3 : (callD (sx Tryz.prog kC_N kC_H3 [] kC_L kC_C kC_Z (prC [14])) kC_cs kC_G 6 [] 6 kC_A [] 0).map (·.1)=some (kB true) := by kernel_rfl
theorem kC_r4 : (callD (sx Tryz.prog kC_N kC_H4 [] kC_L kC_C kC_Z (prC [14])) kC_cs kC_G 6 [] 6 kC_A [] 0).map (·.1)=some (kB true) := by kernel_rfl
theorem kC_r5 : (callD (sx Tryz.prog kC_N kC_H5 [] kC_L kC_C kC_Z (prC [14])) kC_cs kC_G 6 [] 6 kC_A [] 0).map (·.1)=some (kB true) := by kernel_rfl
theorem kC_r6 : (callD (sx Tryz.prog kC_N kC_H6 [] kC_L kC_C kC_Z (prC [14])) kC_cs kC_G 6 [] 6 kC_A [] 0).map (·.1)=some (kB true) := by kernel_rfl
theorem kC_r7 : (callD (sx Tryz.prog kC_N kC_H7 [] kC_L kC_C kC_Z (prC [14])) kC_cs kC_G 6 [] 6 kC_A [] 0).map (·.1)=some (kB true) := by kernel_rfl
theorem kC_r8 : (callD (sx Tryz.prog kC_N kC_H8 [] kC_L kC_C kC_Z (prC [14])) kC_cs kC_G 6 [] 6 kC_A [] 0).map (·.1)=some (kB true) := by kernel_rfl
theorem kC_r9 : (callD (sx Tryz.prog kC_N kC_H9 [] kC_L kC_C kC_Z (prC [14])) kC_cs kC_G 6 [] 6 kC_A [] 0).map (·.1)=some (kB true) := by kernel_rfl
theorem kC_r10 : (callD (sx Tryz.prog kC_N kC_H10 [] kC_L kC_C kC_Z (prC [14])) kC_cs kC_G 6 [] 6 kC_A [] 0).map (·.1)=some (kB true) := by kernel_rfl
theorem kC_r11 : (callD (sx Tryz.prog kC_N kC_H11 [] kC_L kC_C kC_Z (prC [14])) kC_cs kC_G 6 [] 6 kC_A [] 0).map (·.1)=some (kB true) := by kernel_rfl
theorem kC_r12 : (callD (sx Tryz.prog kC_N kC_H12 [] kC_L kC_C kC_Z (prC [14])) kC_cs kC_G 6 [] 6 kC_A [] 0).map (·.1)=some (kB true) := by kernel_rfl
theorem kC_r13 : (callD (sx Tryz.prog kC_N kC_H13 [] kC_L kC_C kC_Z (prC [14])) kC_cs kC_G 6 [] 6 kC_A [] 0).map (·.1)=some (kB true) := by kernel_rfl
theorem kC_r14 : (callD (sx Tryz.prog kC_N kC_H14 [] kC_L kC_C kC_Z (prC [14])) kC_cs kC_G 6 [] 6 kC_A [] 0).map (·.1)=some (kB true) := by kernel_rfl
theorem kC_r15 : (callD (sx Tryz.prog kC_N kC_H15 [] kC_L kC_C kC_Z (prC [14])) kC_cs kC_G 6 [] 6 kC_A [] 0).map (·.1)=some (kB true) := by kernel_rfl
theorem kC_r16 : (callD (sx Tryz.prog kC_N kC_H16 [] kC_L kC_C kC_Z (prC [14])) kC_cs kC_G 6 [] 6 kC_A [] 0).map (·.1)=some (kB true) := by kernel_rfl
theorem kC_r17 : (callD (sx Tryz.prog kC_N kC_H17 [] kC_L kC_C kC_Z (prC [14])) kC_cs kC_G 6 [] 6 kC_A [] 0).map (·.1)=some (kB true) := by kernel_rfl
theorem kC_r18 : (callD (sx Tryz.prog kC_N kC_H18 [] kC_L kC_C kC_Z (prC [14])) kC_cs kC_G 6 [] 6 kC_A [] 0).map (·.1)=some (kB true) := by kernel_rfl
theorem kC_r19 : (callD (sx Tryz.prog kC_N kC_H19 [] kC_L kC_C kC_Z (prC [14])) kC_cs kC_G 6 [] 6 kC_A [] 0).map (·.1)=some (kB true) := by kernel_rfl
theorem kC_r20 : (callD (sx Tryz.prog kC_N kC_H20 [] kC_L kC_C kC_Z (prC [14])) kC_cs kC_G 6 [] 6 kC_A [] 0).map (·.1)=some (kB true) := by kernel_rfl
theorem kC_r21 : (callD (sx Tryz.prog kC_N kC_H21 [] kC_L kC_C kC_Z (prC [14])) kC_cs kC_G 6 [] 6 kC_A [] 0).map (·.1)=some (kB true) := by kernel_rfl
theorem kC_r22 : (callD (sx Tryz.prog kC_N kC_H22 [] kC_L kC_C kC_Z (prC [14])) kC_cs kC_G 6 [] 6 kC_A [] 0).map (·.1)=some (kB true) := by kernel_rfl
theorem kC_r23 : (callD (sx Tryz.prog kC_N kC_H23 [] kC_L kC_C kC_Z (prC [14])) kC_cs kC_G 6 [] 6 kC_A [] 0).map (·.1)=some (kB true) := by kernel_rfl
theorem kC_r24 : (callD (sx Tryz.prog kC_N kC_H24 [] kC_L kC_C kC_Z (prC [14])) kC_cs kC_G 6 [] 6 kC_A [] 0).map (·.1)=some (kB true) := by kernel_rfl
theorem kC_r25 : (callD (sx Tryz.prog kC_N kC_H25 [] kC_L kC_C kC_Z (prC [14])) kC_cs kC_G 6 [] 6 kC_A [] 0).map (·.1)=some (kB true) := by kernel_rfl
theorem kC_r26 : (callD (sx Tryz.prog kC_N kC_H26 [] kC_L kC_C kC_Z (prC [14])) kC_cs kC_G 6 [] 6 kC_A [] 0).map (·.1)=some (kB true) := by kernel_rfl
theorem kC_r27 : (callD (sx Tryz.prog kC_N kC_H27 [] kC_L kC_C kC_Z (prC [14])) kC_cs kC_G 6 [] 6 kC_A [] 0).map (·.1)=some (kB true) := by kernel_rfl
theorem kC_r28 : (callD (sx Tryz.prog kC_N kC_H28 [] kC_L kC_C kC_Z (prC [14])) kC_cs kC_G 6 [] 6 kC_A [] 0).map (·.1)=some (kB true) := by kernel_rfl
theorem kC_r29 : (callD (sx Tryz.prog kC_N kC_H29 [] kC_L kC_C kC_Z (prC [14])) kC_cs kC_G 6 [] 6 kC_A [] 0).map (·.1)=some (kB true) := by kernel_rfl
theorem kC_r30 : (callD (sx Tryz.prog kC_N kC_H30 [] kC_L kC_C kC_Z (prC [14])) kC_cs kC_G 6 [] 6 kC_A [] 0).map (·.1)=some (kB true) := by kernel_rfl
theorem kC_r31 : (callD (sx Tryz.prog kC_N kC_H31 [] kC_L kC_C kC_Z (prC [14])) kC_cs kC_G 6 [] 6 kC_A [] 0).map (·.1)=some (kB true) := by kernel_rfl
theorem kC_r32 : (callD (sx Tryz.prog kC_N kC_H32 [] kC_L kC_C kC_Z (prC [14])) kC_cs kC_G 6 [] 6 kC_A [] 0).map (·.1)=some (kB true) := by kernel_rfl
theorem kC_r33 : (callD (sx Tryz.prog kC_N kC_H33 [] kC_L kC_C kC_Z (prC [14])) kC_cs kC_G 6 [] 6 kC_A [] 0).map (·.1)=some (kB true) := by kernel_rfl
theorem kC_An {a b : Prop} (x : a) (y : b) : a∧b := ⟨x,y⟩
theorem kC_leaf {M : Memo} {H : List (Nat × Nat × Nat × Nat)} {K : List (FuncId × List AC)} {k : Nat} {q : Nat→Rat} {σ : Nat→ByteArray} {args : List AV} {vs : List Value} {w : World} (hr : (callD (sx Tryz.prog kC_N H K kC_L kC_C kC_Z (prC [14])) kC_cs M k [] 6 args [] 0).map (·.1)=some (kB true)) (hσ : ∀ j,(σ j).size≤1048576) (hq : ∀ (a : Nat) nd,kC_N[a]? = some nd→q a=valN σ q nd) (h0 : ∀ a,kC_N.length≤a→q a=0) (hH : hAll q H) (hp : PreS w) (hM : MemoAll kC_N kC_L kC_C kC_Z q σ [14] w M) (hA : ∀ K,A2 (avOn (cOn (evS q σ) K (fun _ => none) w)) args vs) : Calls Tryz.prog 6 vs.toArray w fun e w' => Below w.heap.size w w'∧e=.returned (.bool true) :=
 run_toldD' k (hy_ofA hσ kC_wf kC_sz kC_lt kC_cn hq h0 hH) (by simp [closed_coned]) (by kernel_rfl) hp hM hr (hA K)
theorem kC_leafC {H : List (Nat × Nat × Nat × Nat)} {K : List (FuncId × List AC)} {k : Nat} {q : Nat→Rat} {σ : Nat→ByteArray} {args : List AV} {vs : List Value} {w : World} (hr : (callC (sx Tryz.prog kC_N H K kC_L kC_C kC_Z (prC [14])) kC_cs k [] 6 args [] 0).map (·.1)=some (kB true)) (hσ : ∀ j,(σ j).size≤1048576) (hq : ∀ (a : Nat) nd,kC_N[a]? = some nd→q a=valN σ q nd) (h0 : ∀ a,kC_N.length≤a→q a=0) (hH : hAll q H) (hp : PreS w) (hA : ∀ K,A2 (avOn (cOn (evS q σ) K (fun _ => none) w)) args vs) : Calls Tryz.prog 6 vs.toArray w fun e w' => Below w.heap.size w w'∧e=.returned (.bool true) :=
 run_toldC' k (hy_ofA hσ kC_wf kC_sz kC_lt kC_cn hq h0 hH) (by simp [closed_coned]) (by kernel_rfl) hr hp (hA K)
theorem kC_walk {w : World} {ka kb kc kd ke kf ux uz vx vz ax az : ByteArray}  (ska : ka.size≤1048576) (skb : kb.size≤1048576) (skc : kc.size≤1048576) (skd : kd.size≤1048576) (ske : ke.size≤1048576) (skf : kf.size≤1048576) (sux : ux.size≤1048576) (suz : uz.size≤1048576) (svx : vx.size≤1048576) (svz : vz.size≤1048576) (sax : ax.size≤1048576) (saz : az.size≤1048576) (tab : Tab w) (mx : MaxL w) :
  Calls Tryz.prog 6 #[.agg #[.string ka,.string kb,.string kc,.string kd,.string ke,.string kf],.agg #[.string ux,.string uz],.agg #[.string vx,.string vz],.agg #[.string ax,.string az]] w fun e w' => Below w.heap.size w w'∧e=.returned (.bool true) := by
 have hσ : ∀ j,(sgOf [ka,kb,kc,kd,ke,kf,ux,uz,vx,vz,ax,az] j).size≤1048576 := sgOf_size (by simp [ska,skb,skc,skd,ske,skf,sux,suz,svx,svz,sax,saz])
 obtain ⟨q,hq,h0⟩ := nodes_exist (sgOf [ka,kb,kc,kd,ke,kf,ux,uz,vx,vz,ax,az]) kC_N kC_wf
 have hA : ∀ K,A2 (avOn (cOn (evS q (sgOf [ka,kb,kc,kd,ke,kf,ux,uz,vx,vz,ax,az])) K (fun _ => none) w)) [(false,[(true,[.inr (2,0,0,0,0),.inr (2,1,0,0,0),.inr (2,2,0,0,0),.inr (2,3,0,0,0),.inr (2,4,0,0,0),.inr (2,5,0,0,0)])]),(false,[(true,[.inr (2,6,0,0,0),.inr (2,7,0,0,0)])]),(false,[(true,[.inr (2,8,0,0,0),.inr (2,9,0,0,0)])]),(false,[(true,[.inr (2,10,0,0,0),.inr (2,11,0,0,0)])])] [.agg #[.string ka,.string kb,.string kc,.string kd,.string ke,.string kf],.agg #[.string ux,.string uz],.agg #[.string vx,.string vz],.agg #[.string ax,.string az]] := fun K => ⟨⟨⟨[.string ka,.string kb,.string kc,.string kd,.string ke,.string kf],rfl,rfl,rfl,rfl,rfl,rfl,rfl,trivial⟩,trivial⟩,⟨⟨[.string ux,.string uz],rfl,rfl,rfl,trivial⟩,trivial⟩,⟨⟨[.string vx,.string vz],rfl,rfl,rfl,trivial⟩,trivial⟩,⟨⟨[.string ax,.string az],rfl,rfl,rfl,trivial⟩,trivial⟩,trivial⟩
 have E27 : q 27=1 := (hq 27 _ rfl).trans kC_c27
 have E28 : q 28=2 := (hq 28 _ rfl).trans kC_c28
 have E29 : q 29=q 0*q 28 := hq 29 _ rfl
 have E30 : q 30=q 2*q 28 := hq 30 _ rfl
 have E31 : q 31=q 5*q 28 := hq 31 _ rfl
 have E32 : q 32=q 29*q 25 := hq 32 _ rfl
 have E33 : q 33=0 := (hq 33 _ rfl).trans kC_c33
 have E34 : q 34=q 33+q 32 := hq 34 _ rfl
 have E35 : q 35=q 1*q 26 := hq 35 _ rfl
 have E36 : q 36=q 34+q 35 := hq 36 _ rfl
 have E37 : q 37=q 3*q 27 := hq 37 _ rfl
 have E38 : q 38=q 36+q 37 := hq 38 _ rfl
 have E39 : q 39=q 1*q 25 := hq 39 _ rfl
 have E40 : q 40=q 33+q 39 := hq 40 _ rfl
 have E41 : q 41=q 30*q 26 := hq 41 _ rfl
 have E42 : q 42=q 40+q 41 := hq 42 _ rfl
 have E43 : q 43=q 4*q 27 := hq 43 _ rfl
 have E44 : q 44=q 42+q 43 := hq 44 _ rfl
 have E45 : q 45=q 3*q 25 := hq 45 _ rfl
 have E46 : q 46=q 33+q 45 := hq 46 _ rfl
 have E47 : q 47=q 4*q 26 := hq 47 _ rfl
 have E48 : q 48=q 46+q 47 := hq 48 _ rfl
 have E49 : q 49=q 31*q 27 := hq 49 _ rfl
 have E50 : q 50=q 48+q 49 := hq 50 _ rfl
 have E51 : q 51=q 25*q 38 := hq 51 _ rfl
 have E52 : q 52=q 33+q 51 := hq 52 _ rfl
 have E53 : q 53=q 26*q 44 := hq 53 _ rfl
 have E54 : q 54=q 52+q 53 := hq 54 _ rfl
 have E55 : q 55=q 27*q 50 := hq 55 _ rfl
 have E56 : q 56=q 54+q 55 := hq 56 _ rfl
 have E62 : q 62=q 29*q 17 := hq 62 _ rfl
 have E63 : q 63=q 33+q 62 := hq 63 _ rfl
 have E64 : q 64=q 1*q 18 := hq 64 _ rfl
 have E65 : q 65=q 63+q 64 := hq 65 _ rfl
 have E66 : q 66=q 3*q 33 := hq 66 _ rfl
 have E67 : q 67=q 65+q 66 := hq 67 _ rfl
 have E68 : q 68=q 1*q 17 := hq 68 _ rfl
 have E69 : q 69=q 33+q 68 := hq 69 _ rfl
 have E70 : q 70=q 30*q 18 := hq 70 _ rfl
 have E71 : q 71=q 69+q 70 := hq 71 _ rfl
 have E72 : q 72=q 4*q 33 := hq 72 _ rfl
 have E73 : q 73=q 71+q 72 := hq 73 _ rfl
 have E74 : q 74=q 3*q 17 := hq 74 _ rfl
 have E75 : q 75=q 33+q 74 := hq 75 _ rfl
 have E76 : q 76=q 4*q 18 := hq 76 _ rfl
 have E77 : q 77=q 75+q 76 := hq 77 _ rfl
 have E78 : q 78=q 31*q 33 := hq 78 _ rfl
 have E79 : q 79=q 77+q 78 := hq 79 _ rfl
 have E80 : q 80=q 25*q 67 := hq 80 _ rfl
 have E81 : q 81=q 33+q 80 := hq 81 _ rfl
 have E82 : q 82=q 26*q 73 := hq 82 _ rfl
 have E83 : q 83=q 81+q 82 := hq 83 _ rfl
 have E84 : q 84=q 27*q 79 := hq 84 _ rfl
 have E85 : q 85=q 83+q 84 := hq 85 _ rfl
 have E86 : q 86=q 17*q 67 := hq 86 _ rfl
 have E87 : q 87=q 33+q 86 := hq 87 _ rfl
 have E88 : q 88=q 18*q 73 := hq 88 _ rfl
 have E89 : q 89=q 87+q 88 := hq 89 _ rfl
 have E90 : q 90=q 33*q 79 := hq 90 _ rfl
 have E91 : q 91=q 89+q 90 := hq 91 _ rfl
 have E92 : q 92=q 28*q 85 := hq 92 _ rfl
 have E93 : q 93=q 92/q 91 := hq 93 _ rfl
 have E94 : q 94=q 17*q 93 := hq 94 _ rfl
 have E95 : q 95=q 18*q 93 := hq 95 _ rfl
 have E96 : q 96=q 25-q 94 := hq 96 _ rfl
 have E97 : q 97=q 26-q 95 := hq 97 _ rfl
 have E98 : q 98=q 29*q 15 := hq 98 _ rfl
 have E99 : q 99=q 33+q 98 := hq 99 _ rfl
 have E100 : q 100=q 1*q 16 := hq 100 _ rfl
 have E101 : q 101=q 99+q 100 := hq 101 _ rfl
 have E102 : q 102=q 101+q 66 := hq 102 _ rfl
 have E103 : q 103=q 1*q 15 := hq 103 _ rfl
 have E104 : q 104=q 33+q 103 := hq 104 _ rfl
 have E105 : q 105=q 30*q 16 := hq 105 _ rfl
 have E106 : q 106=q 104+q 105 := hq 106 _ rfl
 have E107 : q 107=q 106+q 72 := hq 107 _ rfl
 have E108 : q 108=q 3*q 15 := hq 108 _ rfl
 have E109 : q 109=q 33+q 108 := hq 109 _ rfl
 have E110 : q 110=q 4*q 16 := hq 110 _ rfl
 have E111 : q 111=q 109+q 110 := hq 111 _ rfl
 have E112 : q 112=q 111+q 78 := hq 112 _ rfl
 have E113 : q 113=q 25*q 102 := hq 113 _ rfl
 have E114 : q 114=q 33+q 113 := hq 114 _ rfl
 have E115 : q 115=q 26*q 107 := hq 115 _ rfl
 have E116 : q 116=q 114+q 115 := hq 116 _ rfl
 have E117 : q 117=q 27*q 112 := hq 117 _ rfl
 have E118 : q 118=q 116+q 117 := hq 118 _ rfl
 have E119 : q 119=q 15*q 102 := hq 119 _ rfl
 have E120 : q 120=q 33+q 119 := hq 120 _ rfl
 have E121 : q 121=q 16*q 107 := hq 121 _ rfl
 have E122 : q 122=q 120+q 121 := hq 122 _ rfl
 have E123 : q 123=q 33*q 112 := hq 123 _ rfl
 have E124 : q 124=q 122+q 123 := hq 124 _ rfl
 have E128 : q 128=q 102*fac [q 102,q 107,q 112] := hq 128 _ rfl
 have E129 : q 129=q 107*fac [q 102,q 107,q 112] := hq 129 _ rfl
 have E130 : q 130=q 112*fac [q 102,q 107,q 112] := hq 130 _ rfl
 have E131 : q 131=q 28*q 118 := hq 131 _ rfl
 have E132 : q 132=q 131/q 124 := hq 132 _ rfl
 have E133 : q 133=q 15*q 132 := hq 133 _ rfl
 have E134 : q 134=q 16*q 132 := hq 134 _ rfl
 have E135 : q 135=q 25-q 133 := hq 135 _ rfl
 have E136 : q 136=q 26-q 134 := hq 136 _ rfl
 have E137 : q 137=q 135-q 25 := hq 137 _ rfl
 have E138 : q 138=q 136-q 26 := hq 138 _ rfl
 have E139 : q 139=(1/2) := (hq 139 _ rfl).trans kC_c139
 have E140 : q 140=q 137*q 139 := hq 140 _ rfl
 have E141 : q 141=q 138*q 139 := hq 141 _ rfl
 have E142 : q 142=q 33+q 25 := hq 142 _ rfl
 have E143 : q 143=q 33+q 26 := hq 143 _ rfl
 have E144 : q 144=q 142+q 140 := hq 144 _ rfl
 have E145 : q 145=q 143+q 141 := hq 145 _ rfl
 have E149 : q 149=q 128*q 144 := hq 149 _ rfl
 have E150 : q 150=q 129*q 145 := hq 150 _ rfl
 have E151 : q 151=q 149+q 150 := hq 151 _ rfl
 have E152 : q 152=q 151+q 130 := hq 152 _ rfl
 have E153 : q 153=q 129*q 152 := hq 153 _ rfl
 have E154 : q 154=q 128*q 152 := hq 154 _ rfl
 have E155 : q 155=q 29*q 96 := hq 155 _ rfl
 have E156 : q 156=q 33+q 155 := hq 156 _ rfl
 have E157 : q 157=q 1*q 97 := hq 157 _ rfl
 have E158 : q 158=q 156+q 157 := hq 158 _ rfl
 have E159 : q 159=q 158+q 37 := hq 159 _ rfl
 have E160 : q 160=q 1*q 96 := hq 160 _ rfl
 have E161 : q 161=q 33+q 160 := hq 161 _ rfl
 have E162 : q 162=q 30*q 97 := hq 162 _ rfl
 have E163 : q 163=q 161+q 162 := hq 163 _ rfl
 have E164 : q 164=q 163+q 43 := hq 164 _ rfl
 have E165 : q 165=q 3*q 96 := hq 165 _ rfl
 have E166 : q 166=q 33+q 165 := hq 166 _ rfl
 have E167 : q 167=q 4*q 97 := hq 167 _ rfl
 have E168 : q 168=q 166+q 167 := hq 168 _ rfl
 have E169 : q 169=q 168+q 49 := hq 169 _ rfl
 have E170 : q 170=q 96*q 159 := hq 170 _ rfl
 have E171 : q 171=q 33+q 170 := hq 171 _ rfl
 have E172 : q 172=q 97*q 164 := hq 172 _ rfl
 have E173 : q 173=q 171+q 172 := hq 173 _ rfl
 have E174 : q 174=q 27*q 169 := hq 174 _ rfl
 have E175 : q 175=q 173+q 174 := hq 175 _ rfl
 have E181 : q 181=q 96*q 102 := hq 181 _ rfl
 have E182 : q 182=q 33+q 181 := hq 182 _ rfl
 have E183 : q 183=q 97*q 107 := hq 183 _ rfl
 have E184 : q 184=q 182+q 183 := hq 184 _ rfl
 have E185 : q 185=q 184+q 117 := hq 185 _ rfl
 have E186 : q 186=q 28*q 185 := hq 186 _ rfl
 have E187 : q 187=q 186/q 124 := hq 187 _ rfl
 have E188 : q 188=q 15*q 187 := hq 188 _ rfl
 have E189 : q 189=q 16*q 187 := hq 189 _ rfl
 have E190 : q 190=q 96-q 188 := hq 190 _ rfl
 have E191 : q 191=q 97-q 189 := hq 191 _ rfl
 have E192 : q 192=q 190-q 96 := hq 192 _ rfl
 have E193 : q 193=q 191-q 97 := hq 193 _ rfl
 have E194 : q 194=q 192*q 139 := hq 194 _ rfl
 have E195 : q 195=q 193*q 139 := hq 195 _ rfl
 have E196 : q 196=q 33+q 96 := hq 196 _ rfl
 have E197 : q 197=q 33+q 97 := hq 197 _ rfl
 have E198 : q 198=q 196+q 194 := hq 198 _ rfl
 have E199 : q 199=q 197+q 195 := hq 199 _ rfl
 have E200 : q 200=q 128*q 198 := hq 200 _ rfl
 have E201 : q 201=q 129*q 199 := hq 201 _ rfl
 have E202 : q 202=q 200+q 201 := hq 202 _ rfl
 have E203 : q 203=q 202+q 130 := hq 203 _ rfl
 have E204 : q 204=q 129*q 203 := hq 204 _ rfl
 have E205 : q 205=q 128*q 203 := hq 205 _ rfl
 have Q127 : q 127=0 ↔ (q 102=0∧q 107=0) := (sq_next (sq_first (hq 125 _ rfl)) (hq 126 _ rfl) (hq 127 _ rfl)).2
 have Q148 : q 148=0 ↔ (q 128=0∧q 129=0) := (sq_next (sq_first (hq 146 _ rfl)) (hq 147 _ rfl) (hq 148 _ rfl)).2
 by_cases b14 : q 14=0
 ·
  have hH : hAll q kC_H0 := (kC_An (hT b14) trivial)
  exact kC_leaf kC_r0 hσ hq h0 hH ⟨tab,mx⟩ (kC_memoG hσ hq h0 ⟨tab,mx⟩) hA
 ·
  by_cases b21 : q 21=0
  ·
   by_cases b24 : q 24=0
   ·
    have hH : hAll q kC_H1 := (kC_An (hF b14) (kC_An (hT b21) (kC_An (hT b24) trivial)))
    exact kC_leaf kC_r1 hσ hq h0 hH ⟨tab,mx⟩ (kC_memoG hσ hq h0 ⟨tab,mx⟩) hA
   ·
    by_cases b56 : q 56=0
    ·
     by_cases b91 : q 91=0
     ·
      by_cases b85 : q 85=0
      ·
       have hH : hAll q kC_H2 := (kC_An (hF b14) (kC_An (hT b21) (kC_An (hF b24) (kC_An (hT b56) (kC_An (hT b91) (kC_An (hT b85) trivial))))))
       exact kC_leaf kC_r2 hσ hq h0 hH ⟨tab,mx⟩ (kC_memoG hσ hq h0 ⟨tab,mx⟩) hA
      ·
       have hH : hAll q kC_H3 := (kC_An (hF b14) (kC_An (hT b21) (kC_An (hF b24) (kC_An (hT b56) (kC_An (hT b91) (kC_An (hF b85) trivial))))))
       exact kC_leaf kC_r3 hσ hq h0 hH ⟨tab,mx⟩ (kC_memoG hσ hq h0 ⟨tab,mx⟩) hA
     ·
      have hH : hAll q kC_H4 := (kC_An (hF b14) (kC_An (hT b21) (kC_An (hF b24) (kC_An (hT b56) (kC_An (hF b91) trivial)))))
      exact kC_leaf kC_r4 hσ hq h0 hH ⟨tab,mx⟩ (kC_memoG hσ hq h0 ⟨tab,mx⟩) hA
    ·
     have hH : hAll q kC_H5 := (kC_An (hF b14) (kC_An (hT b21) (kC_An (hF b24) (kC_An (hF b56) trivial))))
     exact kC_leaf kC_r5 hσ hq h0 hH ⟨tab,mx⟩ (kC_memoG hσ hq h0 ⟨tab,mx⟩) hA
  ·
   by_cases b56 : q 56=0
   ·
    by_cases b124 : q 124=0
    ·
     by_cases b118 : q 118=0
     ·
      by_cases b24 : q 24=0
      ·
       by_cases b127 : q 127=0
       ·
        have hH : hAll q kC_H6 := (kC_An (hF b14) (kC_An (hF b21) (kC_An (hT b56) (kC_An (hT b124) (kC_An (hT b118) (kC_An (hT b24) (kC_An (hT b127) trivial)))))))
        exact kC_leaf kC_r6 hσ hq h0 hH ⟨tab,mx⟩ (kC_memoG hσ hq h0 ⟨tab,mx⟩) hA
       ·
        have hH : hAll q kC_H7 := (kC_An (hF b14) (kC_An (hF b21) (kC_An (hT b56) (kC_An (hT b124) (kC_An (hT b118) (kC_An (hT b24) (kC_An (hF b127) trivial)))))))
        exact kC_leaf kC_r7 hσ hq h0 hH ⟨tab,mx⟩ (kC_memoG hσ hq h0 ⟨tab,mx⟩) hA
      ·
       by_cases b91 : q 91=0
       ·
        by_cases b85 : q 85=0
        ·
         by_cases b127 : q 127=0
         ·
          have hH : hAll q kC_H8 := (kC_An (hF b14) (kC_An (hF b21) (kC_An (hT b56) (kC_An (hT b124) (kC_An (hT b118) (kC_An (hF b24) (kC_An (hT b91) (kC_An (hT b85) (kC_An (hT b127) trivial)))))))))
          exact kC_leaf kC_r8 hσ hq h0 hH ⟨tab,mx⟩ (kC_memoG hσ hq h0 ⟨tab,mx⟩) hA
         ·
          have hH : hAll q kC_H9 := (kC_An (hF b14) (kC_An (hF b21) (kC_An (hT b56) (kC_An (hT b124) (kC_An (hT b118) (kC_An (hF b24) (kC_An (hT b91) (kC_An (hT b85) (kC_An (hF b127) trivial)))))))))
          exact kC_leaf kC_r9 hσ hq h0 hH ⟨tab,mx⟩ (kC_memoG hσ hq h0 ⟨tab,mx⟩) hA
        ·
         by_cases b127 : q 127=0
         ·
          have hH : hAll q kC_H10 := (kC_An (hF b14) (kC_An (hF b21) (kC_An (hT b56) (kC_An (hT b124) (kC_An (hT b118) (kC_An (hF b24) (kC_An (hT b91) (kC_An (hF b85) (kC_An (hT b127) trivial)))))))))
          exact kC_leaf kC_r10 hσ hq h0 hH ⟨tab,mx⟩ (kC_memoG hσ hq h0 ⟨tab,mx⟩) hA
         ·
          have hH : hAll q kC_H11 := (kC_An (hF b14) (kC_An (hF b21) (kC_An (hT b56) (kC_An (hT b124) (kC_An (hT b118) (kC_An (hF b24) (kC_An (hT b91) (kC_An (hF b85) (kC_An (hF b127) trivial)))))))))
          exact kC_leaf kC_r11 hσ hq h0 hH ⟨tab,mx⟩ (kC_memoG hσ hq h0 ⟨tab,mx⟩) hA
       ·
        by_cases b127 : q 127=0
        ·
         have hH : hAll q kC_H12 := (kC_An (hF b14) (kC_An (hF b21) (kC_An (hT b56) (kC_An (hT b124) (kC_An (hT b118) (kC_An (hF b24) (kC_An (hF b91) (kC_An (hT b127) trivial))))))))
         exact kC_leaf kC_r12 hσ hq h0 hH ⟨tab,mx⟩ (kC_memoG hσ hq h0 ⟨tab,mx⟩) hA
        ·
         have hH : hAll q kC_H13 := (kC_An (hF b14) (kC_An (hF b21) (kC_An (hT b56) (kC_An (hT b124) (kC_An (hT b118) (kC_An (hF b24) (kC_An (hF b91) (kC_An (hF b127) trivial))))))))
         exact kC_leaf kC_r13 hσ hq h0 hH ⟨tab,mx⟩ (kC_memoG hσ hq h0 ⟨tab,mx⟩) hA
     ·
      by_cases b24 : q 24=0
      ·
       by_cases b127 : q 127=0
       ·
        have hH : hAll q kC_H14 := (kC_An (hF b14) (kC_An (hF b21) (kC_An (hT b56) (kC_An (hT b124) (kC_An (hF b118) (kC_An (hT b24) (kC_An (hT b127) trivial)))))))
        exact kC_leaf kC_r14 hσ hq h0 hH ⟨tab,mx⟩ (kC_memoG hσ hq h0 ⟨tab,mx⟩) hA
       ·
        have hH : hAll q kC_H15 := (kC_An (hF b14) (kC_An (hF b21) (kC_An (hT b56) (kC_An (hT b124) (kC_An (hF b118) (kC_An (hT b24) (kC_An (hF b127) trivial)))))))
        exact kC_leaf kC_r15 hσ hq h0 hH ⟨tab,mx⟩ (kC_memoG hσ hq h0 ⟨tab,mx⟩) hA
      ·
       by_cases b91 : q 91=0
       ·
        by_cases b85 : q 85=0
        ·
         by_cases b127 : q 127=0
         ·
          have hH : hAll q kC_H16 := (kC_An (hF b14) (kC_An (hF b21) (kC_An (hT b56) (kC_An (hT b124) (kC_An (hF b118) (kC_An (hF b24) (kC_An (hT b91) (kC_An (hT b85) (kC_An (hT b127) trivial)))))))))
          exact kC_leaf kC_r16 hσ hq h0 hH ⟨tab,mx⟩ (kC_memoG hσ hq h0 ⟨tab,mx⟩) hA
         ·
          have hH : hAll q kC_H17 := (kC_An (hF b14) (kC_An (hF b21) (kC_An (hT b56) (kC_An (hT b124) (kC_An (hF b118) (kC_An (hF b24) (kC_An (hT b91) (kC_An (hT b85) (kC_An (hF b127) trivial)))))))))
          exact kC_leaf kC_r17 hσ hq h0 hH ⟨tab,mx⟩ (kC_memoG hσ hq h0 ⟨tab,mx⟩) hA
        ·
         by_cases b127 : q 127=0
         ·
          have hH : hAll q kC_H18 := (kC_An (hF b14) (kC_An (hF b21) (kC_An (hT b56) (kC_An (hT b124) (kC_An (hF b118) (kC_An (hF b24) (kC_An (hT b91) (kC_An (hF b85) (kC_An (hT b127) trivial)))))))))
          exact kC_leaf kC_r18 hσ hq h0 hH ⟨tab,mx⟩ (kC_memoG hσ hq h0 ⟨tab,mx⟩) hA
         ·
          have hH : hAll q kC_H19 := (kC_An (hF b14) (kC_An (hF b21) (kC_An (hT b56) (kC_An (hT b124) (kC_An (hF b118) (kC_An (hF b24) (kC_An (hT b91) (kC_An (hF b85) (kC_An (hF b127) trivial)))))))))
          exact kC_leaf kC_r19 hσ hq h0 hH ⟨tab,mx⟩ (kC_memoG hσ hq h0 ⟨tab,mx⟩) hA
       ·
        by_cases b127 : q 127=0
        ·
         have hH : hAll q kC_H20 := (kC_An (hF b14) (kC_An (hF b21) (kC_An (hT b56) (kC_An (hT b124) (kC_An (hF b118) (kC_An (hF b24) (kC_An (hF b91) (kC_An (hT b127) trivial))))))))
         exact kC_leaf kC_r20 hσ hq h0 hH ⟨tab,mx⟩ (kC_memoG hσ hq h0 ⟨tab,mx⟩) hA
        ·
         have hH : hAll q kC_H21 := (kC_An (hF b14) (kC_An (hF b21) (kC_An (hT b56) (kC_An (hT b124) (kC_An (hF b118) (kC_An (hF b24) (kC_An (hF b91) (kC_An (hF b127) trivial))))))))
         exact kC_leaf kC_r21 hσ hq h0 hH ⟨tab,mx⟩ (kC_memoG hσ hq h0 ⟨tab,mx⟩) hA
    ·
     by_cases b24 : q 24=0
     ·
      have b127 : ¬ (q 127=0) := kC_f0 E28 E29 E30 E31 E33 E66 E72 E78 E98 E99 E100 E101 E102 E103 E104 E105 E106 E107 E108 E109 E110 E111 E112 E119 E120 E121 E122 E123 E124 Q127 b124
      have b148 : ¬ (q 148=0) := kC_f1 E28 E29 E30 E31 E33 E66 E72 E78 E98 E99 E100 E101 E102 E103 E104 E105 E106 E107 E108 E109 E110 E111 E112 E119 E120 E121 E122 E123 E124 E128 E129 Q148 b124
      by_cases b128 : q 128=0
      ·
       have b153 : q 153=0 := kC_f2 E27 E28 E29 E30 E31 E33 E66 E72 E78 E98 E99 E100 E101 E102 E103 E104 E105 E106 E107 E108 E109 E110 E111 E112 E113 E114 E115 E116 E117 E118 E119 E120 E121 E122 E123 E124 E128 E129 E130 E131 E132 E133 E134 E135 E136 E137 E138 E139 E140 E141 E142 E143 E144 E145 E149 E150 E151 E152 E153 b124
       have hH : hAll q kC_H22 := (kC_An (hF b14) (kC_An (hF b21) (kC_An (hT b56) (kC_An (hF b124) (kC_An (hT b24) (kC_An (hF b127) (kC_An (hF b148) (kC_An (hT b128) (kC_An (hT b153) trivial)))))))))
       exact kC_leaf kC_r22 hσ hq h0 hH ⟨tab,mx⟩ (kC_memoG hσ hq h0 ⟨tab,mx⟩) hA
      ·
       have b154 : q 154=0 := kC_f3 E27 E28 E29 E30 E31 E33 E66 E72 E78 E98 E99 E100 E101 E102 E103 E104 E105 E106 E107 E108 E109 E110 E111 E112 E113 E114 E115 E116 E117 E118 E119 E120 E121 E122 E123 E124 E128 E129 E130 E131 E132 E133 E134 E135 E136 E137 E138 E139 E140 E141 E142 E143 E144 E145 E149 E150 E151 E152 E154 b124
       have hH : hAll q kC_H23 := (kC_An (hF b14) (kC_An (hF b21) (kC_An (hT b56) (kC_An (hF b124) (kC_An (hT b24) (kC_An (hF b127) (kC_An (hF b148) (kC_An (hF b128) (kC_An (hT b154) trivial)))))))))
       exact kC_leaf kC_r23 hσ hq h0 hH ⟨tab,mx⟩ (kC_memoG hσ hq h0 ⟨tab,mx⟩) hA
     ·
      by_cases b91 : q 91=0
      ·
       by_cases b85 : q 85=0
       ·
        have b127 : ¬ (q 127=0) := kC_f0 E28 E29 E30 E31 E33 E66 E72 E78 E98 E99 E100 E101 E102 E103 E104 E105 E106 E107 E108 E109 E110 E111 E112 E119 E120 E121 E122 E123 E124 Q127 b124
        have b148 : ¬ (q 148=0) := kC_f1 E28 E29 E30 E31 E33 E66 E72 E78 E98 E99 E100 E101 E102 E103 E104 E105 E106 E107 E108 E109 E110 E111 E112 E119 E120 E121 E122 E123 E124 E128 E129 Q148 b124
        by_cases b128 : q 128=0
        ·
         have b153 : q 153=0 := kC_f2 E27 E28 E29 E30 E31 E33 E66 E72 E78 E98 E99 E100 E101 E102 E103 E104 E105 E106 E107 E108 E109 E110 E111 E112 E113 E114 E115 E116 E117 E118 E119 E120 E121 E122 E123 E124 E128 E129 E130 E131 E132 E133 E134 E135 E136 E137 E138 E139 E140 E141 E142 E143 E144 E145 E149 E150 E151 E152 E153 b124
         have hH : hAll q kC_H24 := (kC_An (hF b14) (kC_An (hF b21) (kC_An (hT b56) (kC_An (hF b124) (kC_An (hF b24) (kC_An (hT b91) (kC_An (hT b85) (kC_An (hF b127) (kC_An (hF b148) (kC_An (hT b128) (kC_An (hT b153) trivial)))))))))))
         exact kC_leaf kC_r24 hσ hq h0 hH ⟨tab,mx⟩ (kC_memoG hσ hq h0 ⟨tab,mx⟩) hA
        ·
         have b154 : q 154=0 := kC_f3 E27 E28 E29 E30 E31 E33 E66 E72 E78 E98 E99 E100 E101 E102 E103 E104 E105 E106 E107 E108 E109 E110 E111 E112 E113 E114 E115 E116 E117 E118 E119 E120 E121 E122 E123 E124 E128 E129 E130 E131 E132 E133 E134 E135 E136 E137 E138 E139 E140 E141 E142 E143 E144 E145 E149 E150 E151 E152 E154 b124
         have hH : hAll q kC_H25 := (kC_An (hF b14) (kC_An (hF b21) (kC_An (hT b56) (kC_An (hF b124) (kC_An (hF b24) (kC_An (hT b91) (kC_An (hT b85) (kC_An (hF b127) (kC_An (hF b148) (kC_An (hF b128) (kC_An (hT b154) trivial)))))))))))
         exact kC_leaf kC_r25 hσ hq h0 hH ⟨tab,mx⟩ (kC_memoG hσ hq h0 ⟨tab,mx⟩) hA
       ·
        have b127 : ¬ (q 127=0) := kC_f0 E28 E29 E30 E31 E33 E66 E72 E78 E98 E99 E100 E101 E102 E103 E104 E105 E106 E107 E108 E109 E110 E111 E112 E119 E120 E121 E122 E123 E124 Q127 b124
        have b148 : ¬ (q 148=0) := kC_f1 E28 E29 E30 E31 E33 E66 E72 E78 E98 E99 E100 E101 E102 E103 E104 E105 E106 E107 E108 E109 E110 E111 E112 E119 E120 E121 E122 E123 E124 E128 E129 Q148 b124
        by_cases b128 : q 128=0
        ·
         have b153 : q 153=0 := kC_f2 E27 E28 E29 E30 E31 E33 E66 E72 E78 E98 E99 E100 E101 E102 E103 E104 E105 E106 E107 E108 E109 E110 E111 E112 E113 E114 E115 E116 E117 E118 E119 E120 E121 E122 E123 E124 E128 E129 E130 E131 E132 E133 E134 E135 E136 E137 E138 E139 E140 E141 E142 E143 E144 E145 E149 E150 E151 E152 E153 b124
         have hH : hAll q kC_H26 := (kC_An (hF b14) (kC_An (hF b21) (kC_An (hT b56) (kC_An (hF b124) (kC_An (hF b24) (kC_An (hT b91) (kC_An (hF b85) (kC_An (hF b127) (kC_An (hF b148) (kC_An (hT b128) (kC_An (hT b153) trivial)))))))))))
         exact kC_leaf kC_r26 hσ hq h0 hH ⟨tab,mx⟩ (kC_memoG hσ hq h0 ⟨tab,mx⟩) hA
        ·
         have b154 : q 154=0 := kC_f3 E27 E28 E29 E30 E31 E33 E66 E72 E78 E98 E99 E100 E101 E102 E103 E104 E105 E106 E107 E108 E109 E110 E111 E112 E113 E114 E115 E116 E117 E118 E119 E120 E121 E122 E123 E124 E128 E129 E130 E131 E132 E133 E134 E135 E136 E137 E138 E139 E140 E141 E142 E143 E144 E145 E149 E150 E151 E152 E154 b124
         have hH : hAll q kC_H27 := (kC_An (hF b14) (kC_An (hF b21) (kC_An (hT b56) (kC_An (hF b124) (kC_An (hF b24) (kC_An (hT b91) (kC_An (hF b85) (kC_An (hF b127) (kC_An (hF b148) (kC_An (hF b128) (kC_An (hT b154) trivial)))))))))))
         exact kC_leaf kC_r27 hσ hq h0 hH ⟨tab,mx⟩ (kC_memoG hσ hq h0 ⟨tab,mx⟩) hA
      ·
       have b127 : ¬ (q 127=0) := kC_f0 E28 E29 E30 E31 E33 E66 E72 E78 E98 E99 E100 E101 E102 E103 E104 E105 E106 E107 E108 E109 E110 E111 E112 E119 E120 E121 E122 E123 E124 Q127 b124
       have b148 : ¬ (q 148=0) := kC_f1 E28 E29 E30 E31 E33 E66 E72 E78 E98 E99 E100 E101 E102 E103 E104 E105 E106 E107 E108 E109 E110 E111 E112 E119 E120 E121 E122 E123 E124 E128 E129 Q148 b124
       by_cases b128 : q 128=0
       ·
        have b153 : q 153=0 := kC_f2 E27 E28 E29 E30 E31 E33 E66 E72 E78 E98 E99 E100 E101 E102 E103 E104 E105 E106 E107 E108 E109 E110 E111 E112 E113 E114 E115 E116 E117 E118 E119 E120 E121 E122 E123 E124 E128 E129 E130 E131 E132 E133 E134 E135 E136 E137 E138 E139 E140 E141 E142 E143 E144 E145 E149 E150 E151 E152 E153 b124
        have b175 : q 175=0 := kC_f4 E27 E28 E29 E30 E31 E32 E33 E34 E35 E36 E37 E38 E39 E40 E41 E42 E43 E44 E45 E46 E47 E48 E49 E50 E51 E52 E53 E54 E55 E56 E62 E63 E64 E65 E66 E67 E68 E69 E70 E71 E72 E73 E74 E75 E76 E77 E78 E79 E80 E81 E82 E83 E84 E85 E86 E87 E88 E89 E90 E91 E92 E93 E94 E95 E96 E97 E155 E156 E157 E158 E159 E160 E161 E162 E163 E164 E165 E166 E167 E168 E169 E170 E171 E172 E173 E174 E175 b56 b91
        have b204 : q 204=0 := kC_f5 E27 E28 E29 E30 E31 E33 E62 E63 E64 E65 E66 E67 E68 E69 E70 E71 E72 E73 E74 E75 E76 E77 E78 E79 E80 E81 E82 E83 E84 E85 E86 E87 E88 E89 E90 E91 E92 E93 E94 E95 E96 E97 E98 E99 E100 E101 E102 E103 E104 E105 E106 E107 E108 E109 E110 E111 E112 E117 E119 E120 E121 E122 E123 E124 E128 E129 E130 E139 E181 E182 E183 E184 E185 E186 E187 E188 E189 E190 E191 E192 E193 E194 E195 E196 E197 E198 E199 E200 E201 E202 E203 E204 b124 b91
        have hH : hAll q kC_H28 := (kC_An (hF b14) (kC_An (hF b21) (kC_An (hT b56) (kC_An (hF b124) (kC_An (hF b24) (kC_An (hF b91) (kC_An (hF b127) (kC_An (hF b148) (kC_An (hT b128) (kC_An (hT b153) (kC_An (hT b175) (kC_An (hT b204) trivial))))))))))))
        exact kC_leaf kC_r28 hσ hq h0 hH ⟨tab,mx⟩ (kC_memoG hσ hq h0 ⟨tab,mx⟩) hA
       ·
        have b154 : q 154=0 := kC_f3 E27 E28 E29 E30 E31 E33 E66 E72 E78 E98 E99 E100 E101 E102 E103 E104 E105 E106 E107 E108 E109 E110 E111 E112 E113 E114 E115 E116 E117 E118 E119 E120 E121 E122 E123 E124 E128 E129 E130 E131 E132 E133 E134 E135 E136 E137 E138 E139 E140 E141 E142 E143 E144 E145 E149 E150 E151 E152 E154 b124
        have b175 : q 175=0 := kC_f4 E27 E28 E29 E30 E31 E32 E33 E34 E35 E36 E37 E38 E39 E40 E41 E42 E43 E44 E45 E46 E47 E48 E49 E50 E51 E52 E53 E54 E55 E56 E62 E63 E64 E65 E66 E67 E68 E69 E70 E71 E72 E73 E74 E75 E76 E77 E78 E79 E80 E81 E82 E83 E84 E85 E86 E87 E88 E89 E90 E91 E92 E93 E94 E95 E96 E97 E155 E156 E157 E158 E159 E160 E161 E162 E163 E164 E165 E166 E167 E168 E169 E170 E171 E172 E173 E174 E175 b56 b91
        have b205 : q 205=0 := kC_f6 E27 E28 E29 E30 E31 E33 E62 E63 E64 E65 E66 E67 E68 E69 E70 E71 E72 E73 E74 E75 E76 E77 E78 E79 E80 E81 E82 E83 E84 E85 E86 E87 E88 E89 E90 E91 E92 E93 E94 E95 E96 E97 E98 E99 E100 E101 E102 E103 E104 E105 E106 E107 E108 E109 E110 E111 E112 E117 E119 E120 E121 E122 E123 E124 E128 E129 E130 E139 E181 E182 E183 E184 E185 E186 E187 E188 E189 E190 E191 E192 E193 E194 E195 E196 E197 E198 E199 E200 E201 E202 E203 E205 b124 b91
        have hH : hAll q kC_H29 := (kC_An (hF b14) (kC_An (hF b21) (kC_An (hT b56) (kC_An (hF b124) (kC_An (hF b24) (kC_An (hF b91) (kC_An (hF b127) (kC_An (hF b148) (kC_An (hF b128) (kC_An (hT b154) (kC_An (hT b175) (kC_An (hT b205) trivial))))))))))))
        exact kC_leaf kC_r29 hσ hq h0 hH ⟨tab,mx⟩ (kC_memoG hσ hq h0 ⟨tab,mx⟩) hA
   ·
    by_cases b24 : q 24=0
    ·
     by_cases b127 : q 127=0
     ·
      have hH : hAll q kC_H30 := (kC_An (hF b14) (kC_An (hF b21) (kC_An (hF b56) (kC_An (hT b24) (kC_An (hT b127) trivial)))))
      exact kC_leaf kC_r30 hσ hq h0 hH ⟨tab,mx⟩ (kC_memoG hσ hq h0 ⟨tab,mx⟩) hA
     ·
      have hH : hAll q kC_H31 := (kC_An (hF b14) (kC_An (hF b21) (kC_An (hF b56) (kC_An (hT b24) (kC_An (hF b127) trivial)))))
      exact kC_leaf kC_r31 hσ hq h0 hH ⟨tab,mx⟩ (kC_memoG hσ hq h0 ⟨tab,mx⟩) hA
    ·
     by_cases b127 : q 127=0
     ·
      have hH : hAll q kC_H32 := (kC_An (hF b14) (kC_An (hF b21) (kC_An (hF b56) (kC_An (hF b24) (kC_An (hT b127) trivial)))))
      exact kC_leaf kC_r32 hσ hq h0 hH ⟨tab,mx⟩ (kC_memoG hσ hq h0 ⟨tab,mx⟩) hA
     ·
      have hH : hAll q kC_H33 := (kC_An (hF b14) (kC_An (hF b21) (kC_An (hF b56) (kC_An (hF b24) (kC_An (hF b127) trivial)))))
      exact kC_leaf kC_r33 hσ hq h0 hH ⟨tab,mx⟩ (kC_memoG hσ hq h0 ⟨tab,mx⟩) hA
end Go.Proofs.YtkafcpodhflhpaaGreatDoor
