/- Part 13 of the walks and of the mathematics under them: VP VPC VPD VPE VY VSZ VSA CFspaced MEV. -/
import Derived.Test.YtikldelfdioimaaGreatDoorA2
import Derived.Test.YtikldelfdioimaaGreatDoorA12
set_option maxHeartbeats 16000000
set_option maxRecDepth 100000
/- VP -/
namespace Cx
open Go Go.RowKit
abbrev Hs := List (Nat × Nat × Nat × Nat)
def Sx.plus (S : Sx) (X : Hs) : Sx := { S with H := X ++ S.H }
abbrev Ask := Nat × Nat × Nat × Nat
def askZ (a : Nat) : Ask := (0,a,0,a)
def askOk (S : Sx) : Ask→Bool
 | (k,a,b,d) => (Nat.beq k 0 && (Nat.beq b 0 && Nat.beq d a)) || (Nat.beq k 3 && (match S.N[d]? with
  | some (op,ar) => Nat.beq op 3 && beqL ar [a,b]
  | none => false))
def acrossB (S : Sx) (a b : Nat) : List Nat→List Nat→Option (List Ask)
 | c :: l,d :: m => (S.nd 4 [a,d]).bind fun x => (S.nd 4 [c,b]).bind fun y => (S.nd 3 [x,y]).bind fun z => (acrossB S a b l m).map fun r => (3,x,y,z) :: r
 | _,_ => some []
def alikeB (S : Sx) : List Nat→List Nat→List Nat→List Nat→Option (List Ask)
 | pl,pm,a :: l,b :: m => (acrossB S a b pl pm).bind fun r => (alikeB S (pl ++ [a]) (pm ++ [b]) l m).map fun t => r ++ t
 | _,_,_,_ => some []
def sameA (S : Sx) : List Nat→List Nat→Option (List Ask)
 | a :: l,b :: m => (S.nd 3 [a,b]).bind fun d => (sameA S l m).map fun r => (3,a,b,d) :: r
 | _,_ => some []
def asks (S : Sx) (h : List HB) (code : Nat) (args : List AV) : Option (List Ask) :=
 match code with
 | 60 => arg1 (fun x => (asA x).bind fun cs => (qRow S cs).map fun l => l.map askZ) args
 | 61 => arg1 (fun x => (rowB h 1 x).bind fun p => (mapO (acX 0) p.2).map fun l => l.map askZ) args
 | 62 => arg2 (fun x y => (rowB h 1 x).bind fun p => (mapO (acX 0) p.2).bind fun l => (rowB h 1 y).bind fun p' => (mapO (acX 0) p'.2).bind fun m => alikeB S [] [] l m) args
 | 63 => arg1 (fun x => (asA x).bind fun cs => (mapO acTold cs).bind fun l => (plainOf S l).map fun xs => xs.map askZ) args
 | 69 => arg1 (fun x => (asA x).bind fun cs => (mapO (txNode S) cs).map fun l => l.map askZ) args
 | 67 => arg1 (fun x => (asA x).bind fun cs => (mapO (txNode S) (cs.take 3)).map fun l => l.map askZ) args
 | 65 => arg1 (fun x => (asA x).bind fun cs => (mapO (acX 0) cs).map fun l => l.map askZ) args
 | 66 => arg2 (fun x y => (asA x).bind fun cs => (asA y).bind fun ds => (mapO (acX 0) cs).bind fun l => (mapO (acX 0) ds).bind fun m => sameA S l m) args
 | 64 => arg1 (fun x => (asA x).bind fun cs => (qRow S cs).map fun l => (l.take 5).map askZ) args
 | 68 => arg2 (fun x _ => (asA x).bind fun cs => (qRow S cs).map fun l => (l.take 5).map askZ) args
 | _ => none
def splits : List Ask→Hs→List Hs
 | [],_ => []
 | (k,a,b,_) :: l,X => ((k,a,b,0) :: X) :: splits l ((k,a,b,1) :: X)
def allZ : List Ask→Hs→Hs
 | [],X => X
 | (k,a,b,_) :: l,X => allZ l ((k,a,b,1) :: X)
def bodyC (S : Sx) (call : CallF) : CallF := fun f args h nx => S.P.funcs[f]?.bind fun fn => fn.body.bind fun c => ifO (Nat.ble args.length fn.ntmps) ((runB S call fn.ntmps c { tm := numb1 0 args,h := h,nx := nx }).bind fun r =>
   ifO (Nat.ble r.1 1) ((mapO (resB S.P r.2) fn.results.toList).map fun xs => (tupB xs,r.2.h,r.2.nx)))
abbrev CRes := Option (AV × List HB × Nat)
def acZ : AC→Option Nat
 | .inr (k,j,a,x,y) => ifO (Nat.beq k 0 && (Nat.beq j 7 && (Nat.beq x 0 && Nat.beq y 0))) (some a)
 | _ => none
def weakV (S : Sx) (v : AV) : AV := match (asC v).bind (acX 4) with
 | some n => (match S.N[n]? with
  | some (_,[a,b]) => (match S.nd 4 [a,b],S.kn 0 a 0 with
   | some m,some r => bif Nat.beq m n && !Nat.beq 1 r then v1 (.inr (0,7,b,0,0)) else v
   | _,_ => v)
  | _ => v)
 | none => v
def weakR (S : Sx) (r : CRes) : CRes := r.map fun p => (weakV S p.1,p.2)
def ansK (v : AV) : Option (Bool ⊕ Nat) := match asB v with
 | some b => some (.inl b)
 | none => ((asC v).bind acZ).map .inr
def kAns : Bool ⊕ Nat→AV
 | .inl b => kB b
 | .inr a => v1 (.inr (0,7,a,0,0))
def sameK : Bool ⊕ Nat→Bool ⊕ Nat→Bool
 | .inl b,.inl c => b == c
 | .inr a,.inr b => Nat.beq a b
 | _,_ => false
def agree (h : List HB) (b : Bool ⊕ Nat) (hi : Nat) : CRes→Bool
 | some (v,h',nx') => (match ansK v with
  | some c => sameK b c
  | none => false) && (Nat.ble nx' hi && h.all fun x => h'.any fun y => Nat.beq y.1 x.1 && acsW x.2 y.2)
 | none => false
def topN : Nat→List CRes→Nat
 | m,[] => m
 | m,some p :: rs => topN (bif Nat.ble m p.2.2 then p.2.2 else m) rs
 | m,none :: rs => topN m rs
def joinC (h : List HB) (nx : Nat) (rs : List CRes) : CRes :=
 match rs with
 | some p :: _ => (ansK p.1).bind fun b => ifO (rs.all (agree h b (topN nx rs))) (some (kAns b,h,topN nx rs))
 | _ => none
def askIt (S : Sx) (X : Hs) (h : List HB) (c : Nat) (args : List AV) : Option (List Ask × Nat) :=
 (asks (S.plus X) h c args).bind fun l => ifO (l.all (askOk S)) ((sqN S (l.map (·.2.2.2))).bind fun s => ((S.plus X).kn 0 s 0).map fun r => (l,r))
theorem askIt_some {S : Sx} {X : Hs} {h : List HB} {c : Nat} {args : List AV} {l : List Ask} {r : Nat} (e : askIt S X h c args=some (l,r)) : (∀ a ∈ l,askOk S a=true)∧∃ s,sqN S (l.map (·.2.2.2))=some s∧(S.plus X).kn 0 s 0=some r := by
 unfold askIt at e
 simp only [Option.bind_eq_some_iff,ifO_some,Option.map_eq_some_iff,List.all_eq_true,Prod.mk.injEq] at e
 obtain ⟨l',_,h1,s,h2,r',h3,rfl,rfl⟩ := e
 exact ⟨h1,s,h2,h3⟩
def callC (S : Sx) (cs : List (FuncId × Nat)) : Nat→Hs→CallF
 | 0,_,_,_,_,_ => none
 | n+1,X,f,args,h,nx => match prGet f cs with
  | none => bodyC (S.plus X) (callC S cs n X) f args h nx
  | some c => match askIt S X h c args with
   | none => bodyC (S.plus X) (callC S cs n X) f args h nx
   | some (l,r) => bif Nat.beq 1 r then bodyC (S.plus (allZ l X)) (callC S cs n (allZ l X)) f args h nx
    else joinC h nx ((splits l X).map fun X' => weakR (S.plus X') (bodyC (S.plus X') (callC S cs n X') f args h nx))
section
variable {S : Sx} {E : Ev S.nb} {w0 : World}
theorem bodyC_ok {call : CallF} (hm : S.P.follows .mixedOrders=true) (N : Knows S E) (hP : PrimOk S E w0) (hC : CallOk S E w0 call) : CallOk S E w0 (bodyC S call) := fun f args h nx p hp γ w vs hi hA hb hlt hf => by
 unfold bodyC at hp
 simp only [Option.bind_eq_some_iff,ifO_some,Option.map_eq_some_iff,Nat.ble_eq] at hp
 obtain ⟨fn,h1,c,h2,h3,⟨e,s'⟩,h4,h5,xs,h6,rfl⟩ := hp
 dsimp only at h5 h6
 rcases (show e=0 ∨ e=1 by omega) with rfl | rfl
 all_goals
  obtain ⟨_,_,r⟩ := runB_ok hm N hP hC c _ _ _ h4
  refine calls_of_wp h1 h2 (r γ _ w _ ⟨hi,fun t v q => ?_,hb,hlt,?_,rfl⟩ hf fun a' w' γ' hef hs => ?_)
  ·obtain ⟨_,q2⟩ := numb1_get q
   rw [Nat.sub_zero] at q2
   obtain ⟨u,hu,hv⟩ := hA.get q2
   have hlt : t < vs.length := (List.getElem?_eq_some_iff.1 hu).1
   have : (vs.toArray ++ Array.replicate (fn.ntmps - vs.toArray.size) undef).getD t undef=u := by
    rw [Array.getD_eq_getD_getElem?,Array.getElem?_append_left (by simpa using hlt)]
    simp [hu]
   show avOn _ v ((vs.toArray ++ Array.replicate (fn.ntmps - vs.toArray.size) undef).getD t undef)
   rw [this]
   exact hv
  ·have := hA.len
   simp
   omega
  ·obtain ⟨v,hv,hx⟩ := results_run hs h6
   exact ⟨hs.df,v,hv,v,γ',rfl,hef,hx,hs.bx⟩
theorem asB_kB {v : AV} {b : Bool} (h : asB v=some b) : v=kB b := by
 unfold asB at h
 rw [Option.bind_eq_some_iff] at h
 obtain ⟨c,h1,h2⟩ := h
 unfold asC at h1
 split at h1
 ·cases h1
  unfold acB at h2
  split at h2
  ·cases h2
   rfl
  ·cases h2
 ·cases h1
theorem ansK_eq {v : AV} {k : Bool ⊕ Nat} (h : ansK v=some k) : v=kAns k := by
 unfold ansK at h
 split at h
 ·rename_i b hb
  cases h
  exact asB_kB hb
 ·rw [Option.map_eq_some_iff] at h
  obtain ⟨a,h,rfl⟩ := h
  rw [Option.bind_eq_some_iff] at h
  obtain ⟨c,h1,h2⟩ := h
  unfold asC at h1
  split at h1
  ·cases h1
   unfold acZ at h2
   split at h2
   ·rw [ifO_some,Bool.and_eq_true,Bool.and_eq_true,Bool.and_eq_true,Nat.beq_eq,Nat.beq_eq,Nat.beq_eq,Nat.beq_eq] at h2
    obtain ⟨⟨rfl,rfl,rfl,rfl⟩,h3⟩ := h2
    cases h3
    rfl
   ·cases h2
  ·cases h1
theorem sameK_eq {a b : Bool ⊕ Nat} (h : sameK a b=true) : a=b := by
 unfold sameK at h
 split at h
 ·rename_i x y
  have : x=y := by simpa using h
  rw [this]
 ·rw [Nat.beq_eq] at h
  rw [h]
 ·cases h
theorem sgnZ_zero (q : Rat) : sgnZ q=0 ↔ q=0 := by
 unfold sgnZ
 split
 ·rename_i hlt
  constructor
  ·intro q; cases q
  ·intro q; rw [q] at hlt; exact absurd hlt (by decide)
 ·split <;> simp_all
theorem weakV_on (N : Knows S E) {γ : Nat→Option Nat} {w : World} {v : AV} {r : Value} (h : avOn (cOn E S.K γ w) v r) : avOn (cOn E S.K γ w) (weakV S v) r := by
 unfold weakV
 split
 ·rename_i n hn
  rw [Option.bind_eq_some_iff] at hn
  obtain ⟨c,h1,h2⟩ := hn
  split
  ·split
   ·rename_i a b _ _ _ m r' hm hr
    cases e : (Nat.beq m n && !Nat.beq 1 r') with
    | true =>
     rw [Bool.and_eq_true,Nat.beq_eq,Bool.not_eq_true'] at e
     obtain ⟨rfl,e2⟩ := e
     have ez := (N.x4 _ _ _).1 (acX_on h2 (asC_on h1 h))
     refine v1_on ((N.x7 _ _ _).2 ⟨_,ez,?_⟩)
     have hz : ¬ E.q a=0 := fun q => by rw [(N.k0 a r' hr).2 q] at e2; cases e2
     rw [sgnZ_zero,N.k7 _ _ _ hm]
     constructor
     ·exact fun q => (Rat.mul_eq_zero.1 q).resolve_left hz
     ·intro q
      rw [q,Rat.mul_zero]
    | false => exact h
   ·exact h
  ·exact h
 ·exact h
theorem weak_ok {X : Hs} {call : CallF} (N : Knows (S.plus X) E) (hC : CallOk S E w0 call) : CallOk S E w0 (fun f args h nx => weakR (S.plus X) (call f args h nx)) := fun f args h nx p hp => by
 replace hp : weakR (S.plus X) (call f args h nx)=some p := hp
 unfold weakR at hp
 rw [Option.map_eq_some_iff] at hp
 obtain ⟨p0,hp0,rfl⟩ := hp
 intro γ w vs hi hA hb hlt hf
 refine (hC f args h nx p0 hp0 γ w vs hi hA hb hlt hf).mono ?_
 rintro _ w' ⟨r',γ',rfl,hef,hv,hx⟩
 exact ⟨r',γ',rfl,hef,weakV_on (S := S.plus X) N hv,hx⟩
theorem agree_some {h : List HB} {b : Bool ⊕ Nat} {hi : Nat} {r : CRes} (hr : agree h b hi r=true) : ∃ h' nx',r=some (kAns b,h',nx')∧nx'≤hi∧∀ x ∈ h,x ∈ h' := by
 unfold agree at hr
 split at hr
 ·rename_i v h' nx'
  rw [Bool.and_eq_true,Bool.and_eq_true,Nat.ble_eq,List.all_eq_true] at hr
  obtain ⟨h1,h2,h3⟩ := hr
  refine ⟨h',nx',?_,h2,fun x hx => ?_⟩
  ·split at h1
   ·rename_i c hc
    rw [ansK_eq hc,sameK_eq h1]
   ·cases h1
  ·have := h3 x hx
   rw [List.any_eq_true] at this
   obtain ⟨y,hy,e⟩ := this
   rw [Bool.and_eq_true,Nat.beq_eq] at e
   have : x=y := Prod.ext e.1.symm (acsW_eq e.2)
   rw [this]
   exact hy
 ·cases hr
variable {T : Hs→Prop} {z : Nat→Prop}
def AskTrue (S : Sx) (T : Hs→Prop) (z : Nat→Prop) : Prop := ∀ X,T X→∀ a,askOk S a=true→(z a.2.2.2→T ((a.1,a.2.1,a.2.2.1,1) :: X))∧(¬ z a.2.2.2→T ((a.1,a.2.1,a.2.2.1,0) :: X))
theorem allZ_true (hk : AskTrue S T z) : ∀ {l : List Ask} {X : Hs},T X→(∀ a ∈ l,askOk S a=true)→(∀ a ∈ l,z a.2.2.2)→T (allZ l X)
 | [],_,h,_,_ => h
 | (k,a,b,d) :: l,X,h,ho,hz => allZ_true (l := l) hk ((hk X h (k,a,b,d) (ho _ List.mem_cons_self)).1 (hz _ List.mem_cons_self)) (fun a ha => ho a (List.mem_cons_of_mem _ ha)) (fun a ha => hz a (List.mem_cons_of_mem _ ha))
theorem splits_true (hk : AskTrue S T z) : ∀ {l : List Ask} {X : Hs},T X→(∀ a ∈ l,askOk S a=true)→(∃ a ∈ l,¬ z a.2.2.2)→∃ X' ∈ splits l X,T X'
 | [],_,_,_,⟨_,h,_⟩ => by cases h
 | (k,a,b,d) :: l,X,h,ho,hz => by
  by_cases e : z d
  ·obtain ⟨X',h1,h2⟩ := splits_true (l := l) hk ((hk X h (k,a,b,d) (ho _ List.mem_cons_self)).1 e) (fun a ha => ho a (List.mem_cons_of_mem _ ha)) (by
    obtain ⟨c,hc,hn⟩ := hz
    rcases List.mem_cons.1 hc with rfl | hc
    ·exact (hn e).elim
    ·exact ⟨c,hc,hn⟩)
   exact ⟨X',List.mem_cons_of_mem _ h1,h2⟩
  ·exact ⟨_,List.mem_cons_self,(hk X h (k,a,b,d) (ho _ List.mem_cons_self)).2 e⟩
theorem callC_ok {cs : List (FuncId × Nat)} (hm : S.P.follows .mixedOrders=true) (hN : ∀ X,T X→Knows (S.plus X) E) (hP : ∀ X,T X→PrimOk (S.plus X) E w0) (hk : AskTrue S T z)
  (hs : ∀ X,T X→∀ l s r,sqN S l=some s→(S.plus X).kn 0 s 0=some r→(Nat.beq 1 r=true→∀ d ∈ l,z d)∧(Nat.beq 1 r=false→∃ d ∈ l,¬ z d)) : ∀ n X,T X→CallOk S E w0 (callC S cs n X)
 | 0,_,_ => fun _ _ _ _ _ h => by cases h
 | n+1,X,hX => fun f args h nx p hp => by
  have body : ∀ Y,T Y→CallOk S E w0 (bodyC (S.plus Y) (callC S cs n Y)) := fun Y hY => bodyC_ok (S := S.plus Y) hm (hN Y hY) (hP Y hY) (callC_ok hm hN hP hk hs n Y hY)
  unfold callC at hp
  split at hp
  ·exact body X hX f args h nx p hp
  ·split at hp
   ·exact body X hX f args h nx p hp
   rename_i l r hk'
   obtain ⟨hl,s,h1,h2⟩ := askIt_some hk'
   have h3 := hp
   obtain ⟨a1,a0⟩ := hs X hX _ s r h1 h2
   cases e : Nat.beq 1 r with
   | true =>
    rw [e] at h3
    exact body _ (allZ_true hk hX hl fun a ha => a1 e _ (List.mem_map_of_mem ha)) f args h nx p h3
   | false =>
    rw [e] at h3
    obtain ⟨d,hd,hz⟩ := a0 e
    obtain ⟨a,ha,rfl⟩ := List.mem_map.1 hd
    obtain ⟨X',m1,m2⟩ := splits_true hk hX hl ⟨a,ha,hz⟩
    replace h3 : joinC h nx ((splits l X).map fun X' => weakR (S.plus X') (bodyC (S.plus X') (callC S cs n X') f args h nx))=some p := h3
    unfold joinC at h3
    split at h3
    ·rename_i p0 rs hrs
     rw [Option.bind_eq_some_iff] at h3
     obtain ⟨b,hb,h4⟩ := h3
     rw [ifO_some,List.all_eq_true] at h4
     obtain ⟨h5,h6⟩ := h4
     cases h6
     obtain ⟨h',nx',q1,q2,q3⟩ := agree_some (h5 _ (List.mem_map_of_mem m1))
     intro γ w vs hi hA hb hlt hf
     refine (weak_ok (hN X' m2) (body X' m2) f args h nx _ q1 γ w vs hi hA hb hlt fun b g1 g2 => hf b g1 (Nat.lt_of_lt_of_le g2 q2)).mono ?_
     rintro _ w' ⟨r',γ',rfl,hef,hv,hx⟩
     exact ⟨r',γ',rfl,hef.wide (Nat.le_refl _) q2,hv,fun x hh => hx x (q3 x hh)⟩
    ·cases h3
end
end Cx
/- VPC -/
namespace Go.Proofs.YtikldelfdioimaaGreatDoor
open Cx Go Go.RowKit
section
variable {N : List Nd} {H : List (Nat × Nat × Nat × Nat)} {K : List (FuncId × List AC)} {L C : List (List Nat × Nat)} {Z : List Nat} {q : Nat→Rat} {σ : Nat→ByteArray} {w0 : World} {cl : List FuncId} {cs pr : List (FuncId × Nat)}
theorem kn_cons {k a b k' a' b' r' : Nat} {r : Nat} (h : knFrom k a b ((k',a',b',r') :: H)=some r) : (k=k'∧a=a'∧b=b'∧r=r') ∨ knFrom k a b H=some r := by
 unfold knFrom at h
 cases e : (Nat.beq k k' && (Nat.beq a a' && Nat.beq b b')) with
 | true =>
  rw [e] at h
  simp only [Bool.and_eq_true,Nat.beq_eq] at e
  exact Or.inl ⟨e.1,e.2.1,e.2.2,(Option.some.inj h).symm⟩
 | false =>
  rw [e] at h
  exact Or.inr h
theorem Hy.add0 (Y : Hy N H L C Z q σ) {a r : Nat} (h : Nat.beq 1 r=true ↔ q a=0) : Hy N ((0,a,0,r) :: H) L C Z q σ where
 nat := Y.nat
 qs := Y.qs
 zs := Y.zs
 par := Y.par
 lit := Y.lit
 k0 := fun a' r' g => by
  rcases kn_cons g with ⟨_,e1,_,e2⟩ | g
  ·rw [e1,e2]
   exact h
  ·exact Y.k0 a' r' g
 k1 := fun a' r' g => by
  rcases kn_cons g with ⟨e,_⟩ | g
  ·cases e
  ·exact Y.k1 a' r' g
 k2 := fun a' r' g => by
  rcases kn_cons g with ⟨e,_⟩ | g
  ·cases e
  ·exact Y.k2 a' r' g
 k4 := fun l a' b' r' g1 g => by
  rcases kn_cons g with ⟨e,_⟩ | g
  ·cases e
  ·exact Y.k4 l a' b' r' g1 g
 k3 := fun a' b' r' g => by
  rcases kn_cons g with ⟨e,_⟩ | g
  ·cases e
  ·exact Y.k3 a' b' r' g
 k6 := fun a' b' r' g => by
  rcases kn_cons g with ⟨e,_⟩ | g
  ·cases e
  ·exact Y.k6 a' b' r' g
 k5 := fun a' r' g => by
  rcases kn_cons g with ⟨e,_⟩ | g
  ·cases e
  ·exact Y.k5 a' r' g
theorem Hy.add3 (Y : Hy N H L C Z q σ) {a b r : Nat} (h : Nat.beq 1 r=true ↔ q a=q b) : Hy N ((3,a,b,r) :: H) L C Z q σ where
 nat := Y.nat
 qs := Y.qs
 zs := Y.zs
 par := Y.par
 lit := Y.lit
 k0 := fun a' r' g => by
  rcases kn_cons g with ⟨e,_⟩ | g
  ·cases e
  ·exact Y.k0 a' r' g
 k1 := fun a' r' g => by
  rcases kn_cons g with ⟨e,_⟩ | g
  ·cases e
  ·exact Y.k1 a' r' g
 k2 := fun a' r' g => by
  rcases kn_cons g with ⟨e,_⟩ | g
  ·cases e
  ·exact Y.k2 a' r' g
 k4 := fun l a' b' r' g1 g => by
  rcases kn_cons g with ⟨e,_⟩ | g
  ·cases e
  ·exact Y.k4 l a' b' r' g1 g
 k3 := fun a' b' r' g => by
  rcases kn_cons g with ⟨_,e1,e2,e3⟩ | g
  ·rw [e1,e2,e3]
   exact h
  ·exact Y.k3 a' b' r' g
 k6 := fun a' b' r' g => by
  rcases kn_cons g with ⟨e,_⟩ | g
  ·cases e
  ·exact Y.k6 a' b' r' g
 k5 := fun a' r' g => by
  rcases kn_cons g with ⟨e,_⟩ | g
  ·cases e
  ·exact Y.k5 a' r' g
theorem ask_true : AskTrue (sx Tryz.prog N H K L C Z pr) (fun X => Hy N (X ++ H) L C Z q σ) (fun d => q d=0) := fun X Y a ha => by
 obtain ⟨k,a,b,d⟩ := a
 have t1 : Nat.beq 1 1=true := rfl
 have t0 : Nat.beq 1 0 ≠ true := fun h => by cases h
 unfold askOk at ha
 rw [Bool.or_eq_true] at ha
 rcases ha with ha | ha
 ·simp only [Bool.and_eq_true,Nat.beq_eq] at ha
  obtain ⟨rfl,rfl,rfl⟩ := ha
  exact ⟨fun h => Hy.add0 Y ⟨fun _ => h,fun _ => t1⟩,fun h => Hy.add0 Y ⟨fun g => (t0 g).elim,fun g => (h g).elim⟩⟩
 ·rw [Bool.and_eq_true,Nat.beq_eq] at ha
  obtain ⟨rfl,hb⟩ := ha
  split at hb
  ·rename_i op ar hn
   rw [Bool.and_eq_true,Nat.beq_eq] at hb
   obtain ⟨rfl,hb⟩ := hb
   have e := beqL_eq hb
   subst e
   have hv : q d=q a - q b := Y.nat d _ hn
   have h2 : q d=0 ↔ q a=q b := by
    rw [hv]
    constructor <;> intro h <;> grind
   exact ⟨fun h => Hy.add3 Y ⟨fun _ => h2.1 h,fun _ => t1⟩,fun h => Hy.add3 Y ⟨fun g => (t0 g).elim,fun g => (h (h2.2 g)).elim⟩⟩
  ·cases hb
theorem sq_nn (y : Rat) : 0≤y*y := by
 by_cases h : y=0
 ·rw [h,Rat.zero_mul]
  exact Rat.le_refl
 ·exact Rat.le_of_lt (sq1_pos h)
theorem sq_sum {x y : Rat} (hx : 0≤x) : x+y*y=0 ↔ x=0∧y=0 := by
 constructor
 ·intro h
  have h2 := sq_nn y
  have h3 : x=0 := by grind
  refine ⟨h3,?_⟩
  have : y*y=0 := by grind
  rcases Rat.mul_eq_zero.1 this with g | g <;> exact g
 ·rintro ⟨rfl,rfl⟩
  grind
theorem sqF_val {H' : List (Nat × Nat × Nat × Nat)} (Y : Hy N H' L C Z q σ) : ∀ {l : List Nat} {s t : Nat},sqF (sx Tryz.prog N H K L C Z pr) s l=some t→0≤q s→0≤q t∧(q t=0 ↔ q s=0∧∀ d ∈ l,q d=0)
 | [],s,t,h,hs => by
  cases h
  exact ⟨hs,fun e => ⟨e,fun d hd => by cases hd⟩,fun e => e.1⟩
 | a :: l,s,t,h,hs => by
  unfold sqF at h
  simp only [Option.bind_eq_some_iff] at h
  obtain ⟨b,h1,c,h2,h3⟩ := h
  have e1 : q b=q a*q a := Hy.nd (H := H') (K := K) (pr := pr) Y h1
  have e2 : q c=q s+q b := Hy.nd (H := H') (K := K) (pr := pr) Y h2
  have n := sq_nn (q a)
  obtain ⟨g1,g2⟩ := sqF_val Y h3 (by grind)
  refine ⟨g1,g2.trans ?_⟩
  have e3 := sq_sum (y := q a) hs
  rw [e2,e1,e3]
  constructor
  ·rintro ⟨⟨x,y⟩,z⟩
   refine ⟨x,fun d hd => ?_⟩
   rcases List.mem_cons.1 hd with rfl | hd
   ·exact y
   ·exact z d hd
  ·rintro ⟨x,y⟩
   exact ⟨⟨x,y a List.mem_cons_self⟩,fun d hd => y d (List.mem_cons_of_mem _ hd)⟩
theorem sqN_val {H' : List (Nat × Nat × Nat × Nat)} (Y : Hy N H' L C Z q σ) {l : List Nat} {s : Nat} (h : sqN (sx Tryz.prog N H K L C Z pr) l=some s) : q s=0 ↔ ∀ d ∈ l,q d=0 := by
 unfold sqN at h
 split at h
 ·cases h
 ·rename_i a l
  rw [Option.bind_eq_some_iff] at h
  obtain ⟨b,h1,h2⟩ := h
  have e1 : q b=q a*q a := Hy.nd (H := H') (K := K) (pr := pr) Y h1
  have n := sq_nn (q a)
  obtain ⟨_,g⟩ := sqF_val Y h2 (by grind)
  rw [g,e1]
  constructor
  ·rintro ⟨x,y⟩ d hd
   rcases List.mem_cons.1 hd with rfl | hd
   ·rcases Rat.mul_eq_zero.1 x with x | x <;> exact x
   ·exact y d hd
  ·intro y
   refine ⟨?_,fun d hd => y d (List.mem_cons_of_mem _ hd)⟩
   rw [y a List.mem_cons_self,Rat.zero_mul]
theorem run_cases {f : FuncId} {args : List AV} {vs : List Value} {k : Nat} {p : List HB × Nat} {b : Bool} (Y : Hy N H L C Z q σ) (hm : (Tryz.prog).follows .mixedOrders=true) {w : World} (hP : ∀ H',Hy N H' L C Z q σ→PrimOk (sx Tryz.prog N H' K L C Z pr) (evS q σ) w) (hr : callC (sx Tryz.prog N H K L C Z pr) cs k [] f args [] 0=some (kB b,p))
  (hA : A2 (avOn (cOn (evS q σ) K (fun _ => none) w)) args vs) : Calls Tryz.prog f vs.toArray w fun e w' => Below w.heap.size w w'∧e=.returned (.bool b) := by
 refine (callC_ok (S := sx Tryz.prog N H K L C Z pr) (E := evS q σ) (w0 := w) (T := fun X => Hy N (X ++ H) L C Z q σ) (z := fun d => q d=0) hm (fun X hX => knows hX) (fun X hX => hP _ hX) ask_true ?_ k [] Y f args [] 0 (kB b,p) hr (fun _ => none) w vs ⟨Below.refl _ _,(fun _ _ h => by cases h)⟩ hA (fun x hx => by cases hx) (fun x hx => by cases hx) (fun _ _ _ => rfl)).mono ?_
 ·intro X hX l s r h1 h2
  have e := hX.k0 s r h2
  have g := sqN_val hX h1
  refine ⟨fun h => g.1 (e.1 h),fun h => ?_⟩
  have hn : ¬ ∀ d ∈ l,q d=0 := fun q' => by
   rw [e.2 (g.2 q')] at h
   cases h
  simpa using hn
 ·rintro _ w' ⟨r,γ',rfl,hef,hv,_⟩
  exact ⟨hef.wi.bel,by rw [show r=.bool b from (asC_on (v := kB b) (c := .inl (.bool b)) rfl hv).1]⟩
theorem run_toldC {f : FuncId} {args : List AV} {vs : List Value} {k : Nat} {p : List HB × Nat} {b : Bool} (Y : Hy N H L C Z q σ) (hc : ∀ f ∈ cl,Closed f) (hm : (Tryz.prog).follows .mixedOrders=true) (hr : callC (sx Tryz.prog N H K L C Z (prC cl)) cs k [] f args [] 0=some (kB b,p)) {w : World} (hp : PreS w)
  (hA : A2 (avOn (cOn (evS q σ) K (fun _ => none) w)) args vs) : Calls Tryz.prog f vs.toArray w fun e w' => Below w.heap.size w w'∧e=.returned (.bool b) := run_cases Y hm (fun _ Y' => primOk Y' hp hc) hr hA
theorem run_toldC' {f : FuncId} {args : List AV} {vs : List Value} (k : Nat) (Y : Hy N H L C Z q σ) (hc : ∀ f ∈ cl,Closed f) (hm : (Tryz.prog).follows .mixedOrders=true) (hr : (callC (sx Tryz.prog N H K L C Z (prC cl)) cs k [] f args [] 0).map (·.1)=some (kB true)) {w : World} (hp : PreS w)
  (hA : A2 (avOn (cOn (evS q σ) K (fun _ => none) w)) args vs) : Calls Tryz.prog f vs.toArray w fun e w' => Below w.heap.size w w'∧e=.returned (.bool true) := by
 rw [Option.map_eq_some_iff] at hr
 obtain ⟨⟨v,p⟩,h1,h2⟩ := hr
 dsimp only at h2
 subst h2
 exact run_toldC Y hc hm h1 hp hA
end
end Go.Proofs.YtikldelfdioimaaGreatDoor
/- VPD -/
namespace Cx
open Go Go.RowKit
def a1sB : List A1→List A1→Bool
 | [],[] => true
 | (a,x) :: l,(b,y) :: m => (a == b && acsW x y) && a1sB l m
 | _,_ => false
theorem a1sB_eq : ∀ {l m : List A1},a1sB l m=true→l=m
 | [],[],_ => rfl
 | (a,x) :: l,(b,y) :: m,h => by
  unfold a1sB at h
  simp only [Bool.and_eq_true,beq_iff_eq] at h
  obtain ⟨⟨h1,h2⟩,h3⟩ := h
  rw [h1,acsW_eq h2,a1sB_eq h3]
 | [],_ :: _,h => by cases h
 | _ :: _,[],h => by cases h
def avsB : List AV→List AV→Bool
 | [],[] => true
 | (a,x) :: l,(b,y) :: m => (a == b && a1sB x y) && avsB l m
 | _,_ => false
theorem avsB_eq : ∀ {l m : List AV},avsB l m=true→l=m
 | [],[],_ => rfl
 | (a,x) :: l,(b,y) :: m,h => by
  unfold avsB at h
  simp only [Bool.and_eq_true,beq_iff_eq] at h
  obtain ⟨⟨h1,h2⟩,h3⟩ := h
  rw [h1,a1sB_eq h2,avsB_eq h3]
 | [],_ :: _,h => by cases h
 | _ :: _,[],h => by cases h
abbrev Memo := List (FuncId × List AV × AV)
def memoGet (f : FuncId) (args : List AV) : Memo→Option AV
 | [] => none
 | (g,bs,v) :: m => bif Nat.beq f g && avsB args bs then some v else memoGet f args m
theorem memoGet_mem {f : FuncId} {args : List AV} {v : AV} : ∀ {m : Memo},memoGet f args m=some v→(f,args,v) ∈ m
 | [],h => by cases h
 | (g,bs,u) :: m,h => by
  unfold memoGet at h
  cases e : (Nat.beq f g && avsB args bs) with
  | true =>
   rw [e] at h
   rw [Bool.and_eq_true,Nat.beq_eq] at e
   rw [e.1,avsB_eq e.2,show u=v from Option.some.inj h]
   exact List.mem_cons_self
  | false =>
   rw [e] at h
   exact List.mem_cons_of_mem _ (memoGet_mem h)
def bareC : AC→Bool
 | .inl _ => true
 | .inr (k,_) => Nat.ble k 2
def bareV (v : AV) : Bool := v.2.all fun x => x.2.all bareC
def callD (S : Sx) (cs : List (FuncId × Nat)) (M : Memo) : Nat→Hs→CallF
 | 0,_,_,_,_,_ => none
 | n+1,X,f,args,h,nx => match memoGet f args M with
  | some v => some (v,h,nx)
  | none => match prGet f cs with
   | none => bodyC (S.plus X) (callD S cs M n X) f args h nx
   | some c => match askIt S X h c args with
    | none => bodyC (S.plus X) (callD S cs M n X) f args h nx
    | some (l,r) => bif Nat.beq 1 r then bodyC (S.plus (allZ l X)) (callD S cs M n (allZ l X)) f args h nx
     else joinC h nx ((splits l X).map fun X' => weakR (S.plus X') (bodyC (S.plus X') (callD S cs M n X') f args h nx))
def MemoOk (S : Sx) (E : Ev S.nb) (w0 : World) (M : Memo) : Prop := ∀ f args v,(f,args,v) ∈ M→∀ (γ : Nat→Option Nat) (w : World) (vs : List Value),WI w0 γ w→A2 (avOn (cOn E S.K γ w)) args vs →
 Calls S.P f vs.toArray w fun e w' => ∃ r,e=.returned r∧(∀ wr nx,(∀ b ∈ wr,Live γ b)→Ef S.nb w0 wr nx nx γ w γ w')∧avOn (cOn E S.K γ w') v r
section
variable {S : Sx} {E : Ev S.nb} {w0 : World}
theorem bareC_on {K K' : List (FuncId × List AC)} {γ γ' : Nat→Option Nat} {w : World} {d : Nat} {c : AC} {v : Value} (hc : bareC c=true) (h : cellOn E K γ w d c v) : cellOn E K' γ' w d c v := by
 cases c with
 | inl u =>
  unfold cellOn at h ⊢
  exact h
 | inr t =>
  obtain ⟨k,a,b,n,c⟩ := t
  have hk : k≤2 := by
   unfold bareC at hc
   rw [Nat.ble_eq] at hc
   exact hc
  match k,hk with
  | 0,_ =>
   unfold cellOn at h ⊢
   exact h
  | 1,_ =>
   unfold cellOn at h ⊢
   exact h
  | 2,_ =>
   unfold cellOn at h ⊢
   exact h
theorem A2_imp {α : Type} {R R' : α→Value→Prop} {P : α→Prop} (h : ∀ a v,P a→R a v→R' a v) : ∀ {l : List α} {vs : List Value},(∀ a ∈ l,P a)→A2 R l vs→A2 R' l vs
 | [],[],_,_ => trivial
 | _ :: _,_ :: _,hp,q => ⟨h _ _ (hp _ List.mem_cons_self) q.1,A2_imp h (fun a ha => hp a (List.mem_cons_of_mem _ ha)) q.2⟩
 | [],_ :: _,_,q => q.elim
 | _ :: _,[],_,q => q.elim
theorem bareV_on {K K' : List (FuncId × List AC)} {γ γ' : Nat→Option Nat} {w : World} {x : AV} {v : Value} (hx : bareV x=true) (h : avOn (cOn E K γ w) x v) : avOn (cOn E K' γ' w) x v := by
 unfold bareV at hx
 rw [List.all_eq_true] at hx
 have one : ∀ (y : A1) u,(∀ c ∈ y.2,bareC c=true)→a1On (cOn E K γ w) y u→a1On (cOn E K' γ' w) y u := fun y u hy q => by
  obtain ⟨b,cs⟩ := y
  cases b with
  | true =>
   obtain ⟨us,e,q⟩ := q
   exact ⟨us,e,A2_imp (P := fun c => bareC c=true) (fun _ _ hc q => bareC_on hc q) hy q⟩
  | false => exact A2_imp (P := fun c => bareC c=true) (fun _ _ hc q => bareC_on hc q) hy q
 have all : ∀ y ∈ x.2,∀ c ∈ y.2,bareC c=true := fun y hy c hc => (List.all_eq_true.1 (hx y hy)) c hc
 obtain ⟨b,ys⟩ := x
 cases b with
 | true =>
  obtain ⟨us,e,q⟩ := h
  exact ⟨us,e,A2_imp (P := fun y : A1 => ∀ c ∈ y.2,bareC c=true) (fun y u hy q => one y u hy q) all q⟩
 | false => exact A2_imp (P := fun y : A1 => ∀ c ∈ y.2,bareC c=true) (fun y u hy q => one y u hy q) all h
variable {T : Hs→Prop} {z : Nat→Prop}
theorem callD_ok {cs : List (FuncId × Nat)} {M : Memo} (hm : S.P.follows .mixedOrders=true) (hM : MemoOk S E w0 M) (hN : ∀ X,T X→Knows (S.plus X) E) (hP : ∀ X,T X→PrimOk (S.plus X) E w0) (hk : AskTrue S T z)
  (hs : ∀ X,T X→∀ l s r,sqN S l=some s→(S.plus X).kn 0 s 0=some r→(Nat.beq 1 r=true→∀ d ∈ l,z d)∧(Nat.beq 1 r=false→∃ d ∈ l,¬ z d)) : ∀ n X,T X→CallOk S E w0 (callD S cs M n X)
 | 0,_,_ => fun _ _ _ _ _ h => by cases h
 | n+1,X,hX => fun f args h nx p hp => by
  have body : ∀ Y,T Y→CallOk S E w0 (bodyC (S.plus Y) (callD S cs M n Y)) := fun Y hY => bodyC_ok (S := S.plus Y) hm (hN Y hY) (hP Y hY) (callD_ok hm hM hN hP hk hs n Y hY)
  unfold callD at hp
  split at hp
  ·rename_i v hv
   cases hp
   intro γ w vs hi hA hb hlt hf
   refine (hM f args v (memoGet_mem hv) γ w vs hi hA).mono ?_
   rintro _ w' ⟨r,rfl,hef,hr⟩
   have live : ∀ b ∈ h.map (·.1),Live γ b := fun b hb' => by
    obtain ⟨x,hx,rfl⟩ := List.mem_map.1 hb'
    obtain ⟨_,_,_,_,hl,_⟩ := hb x hx
    exact hl
   exact ⟨r,γ,rfl,hef _ _ live,hr,fun x hx => (hef [] nx no_live).box hi (hb x hx) (by simp)⟩
  ·split at hp
   ·exact body X hX f args h nx p hp
   ·split at hp
    ·exact body X hX f args h nx p hp
    rename_i l r hk'
    obtain ⟨hl,s,h1,h2⟩ := askIt_some hk'
    have h3 := hp
    obtain ⟨a1,a0⟩ := hs X hX _ s r h1 h2
    cases e : Nat.beq 1 r with
    | true =>
     rw [e] at h3
     exact body _ (allZ_true hk hX hl fun a ha => a1 e _ (List.mem_map_of_mem ha)) f args h nx p h3
    | false =>
     rw [e] at h3
     obtain ⟨d,hd,hz⟩ := a0 e
     obtain ⟨a,ha,rfl⟩ := List.mem_map.1 hd
     obtain ⟨X',m1,m2⟩ := splits_true hk hX hl ⟨a,ha,hz⟩
     replace h3 : joinC h nx ((splits l X).map fun X' => weakR (S.plus X') (bodyC (S.plus X') (callD S cs M n X') f args h nx))=some p := h3
     unfold joinC at h3
     split at h3
     ·rename_i p0 rs hrs
      rw [Option.bind_eq_some_iff] at h3
      obtain ⟨b,hb,h4⟩ := h3
      rw [ifO_some,List.all_eq_true] at h4
      obtain ⟨h5,h6⟩ := h4
      cases h6
      obtain ⟨h',nx',q1,q2,q3⟩ := agree_some (h5 _ (List.mem_map_of_mem m1))
      intro γ w vs hi hA hb hlt hf
      refine (weak_ok (hN X' m2) (body X' m2) f args h nx _ q1 γ w vs hi hA hb hlt fun b g1 g2 => hf b g1 (Nat.lt_of_lt_of_le g2 q2)).mono ?_
      rintro _ w' ⟨r',γ',rfl,hef,hv,hx⟩
      exact ⟨r',γ',rfl,hef.wide (Nat.le_refl _) q2,hv,fun x hh => hx x (q3 x hh)⟩
     ·cases h3
theorem memo_run {K1 K2 : List (FuncId × List AC)} {H1 H2 : Hs} {M : Memo} {f : FuncId} {args : List AV} {v : AV} {p : List HB × Nat} {call : CallF} (hC : CallOk { S with H := H1,K := K1 } E w0 call) (hr : call f args [] 0=some (v,p)) (ha : args.all bareV=true) (hv : bareV v=true) (hM : MemoOk { S with H := H2,K := K2 } E w0 M) : MemoOk { S with H := H2,K := K2 } E w0 ((f,args,v) :: M) := fun g bs u hmem => by
 rcases List.mem_cons.1 hmem with e | hmem
 ·cases e
  intro γ w vs hi hA
  rw [List.all_eq_true] at ha
  refine (hC f args [] 0 (v,p) hr (fun _ => none) w vs ⟨hi.bel,(fun _ _ h => by cases h)⟩ (A2_imp (P := fun x => bareV x=true) (fun _ _ hx q => bareV_on hx q) ha hA) (fun x hx => by cases hx) (fun x hx => by cases hx) (fun _ _ _ => rfl)).mono ?_
  rintro _ w' ⟨r,γ',rfl,hef,hr,_⟩
  refine ⟨r,rfl,fun wr nx hl => ⟨leG.refl _,fun _ _ => rfl,fun _ _ h => Or.inl h,⟨hef.wi.bel,fun b G q => ⟨(hi.lo b G q).1,Nat.lt_of_lt_of_le (hi.lo b G q).2 hef.gr.size⟩⟩,hef.gr,fun G hG _ => hef.keep G hG (fun b hb => by cases hb),hl⟩,bareV_on hv hr⟩
 ·exact hM g bs u hmem
def memoOne (S : Sx) (cs : List (FuncId × Nat)) (k : Nat) : Memo→Bool
 | (f,args,v) :: M => (match callD S cs M k [] f args [] 0 with
  | some (u,_) => avsB [u] [v]
  | none => false) && (args.all bareV && bareV v)
 | [] => false
def memoChk (S : Sx) (cs : List (FuncId × Nat)) (k : Nat) : Nat→Memo→Bool
 | 0,_ => true
 | n+1,M => memoOne S cs k M && memoChk S cs k n M.tail
def qA (l : List Nat) : AV := (false,[(true,l.flatMap qCells)])
def rC (a : Nat) : AC := .inr (0,0,a,0,0)
def rA (l : List Nat) : AV := (false,[(true,l.map rC)])
theorem memo_nil : MemoOk S E w0 [] := fun _ _ _ h => by cases h
end
end Cx
/- VPE -/
namespace Go.Proofs.YtikldelfdioimaaGreatDoor
open Cx Go Go.RowKit
section
variable {N : List Nd} {H : List (Nat × Nat × Nat × Nat)} {K : List (FuncId × List AC)} {L C : List (List Nat × Nat)} {Z : List Nat} {q : Nat→Rat} {σ : Nat→ByteArray} {cl : List FuncId} {cs pr : List (FuncId × Nat)} {M : Memo} {w : World}
theorem callD_told (Y : Hy N H L C Z q σ) (hc : ∀ f ∈ cl,Closed f) (hm : (Tryz.prog).follows .mixedOrders=true) (hp : PreS w) (hM : MemoOk (sx Tryz.prog N H K L C Z (prC cl)) (evS q σ) w M) (k : Nat) : CallOk (sx Tryz.prog N H K L C Z (prC cl)) (evS q σ) w (callD (sx Tryz.prog N H K L C Z (prC cl)) cs M k []) :=
 callD_ok (S := sx Tryz.prog N H K L C Z (prC cl)) (E := evS q σ) (w0 := w) (T := fun X => Hy N (X ++ H) L C Z q σ) (z := fun d => q d=0) hm hM (fun X hX => knows hX) (fun X hX => primOk hX hp hc) ask_true (fun X hX l s r h1 h2 => by
  have e := hX.k0 s r h2
  have g := sqN_val hX h1
  refine ⟨fun h => g.1 (e.1 h),fun h => ?_⟩
  have hn : ¬ ∀ d ∈ l,q d=0 := fun q' => by
   rw [e.2 (g.2 q')] at h
   cases h
  simpa using hn) k [] Y
def MemoAll (N : List Nd) (L C : List (List Nat × Nat)) (Z : List Nat) (q : Nat→Rat) (σ : Nat→ByteArray) (cl : List FuncId) (w : World) (M : Memo) : Prop := ∀ H K,MemoOk (sx Tryz.prog N H K L C Z (prC cl)) (evS q σ) w M
theorem memoAll_nil : MemoAll N L C Z q σ cl w [] := fun _ _ => memo_nil
theorem memoAll_cons {H1 : List (Nat × Nat × Nat × Nat)} (Y : Hy N H1 L C Z q σ) (hc : ∀ f ∈ cl,Closed f) (hm : (Tryz.prog).follows .mixedOrders=true) (hp : PreS w) {f : FuncId} {args : List AV} {v : AV} (k : Nat) (hr : memoOne (sx Tryz.prog N H1 [] L C Z (prC cl)) cs k ((f,args,v) :: M)=true) (hM : MemoAll N L C Z q σ cl w M) : MemoAll N L C Z q σ cl w ((f,args,v) :: M) := fun H K => by
 unfold memoOne at hr
 simp only [Bool.and_eq_true] at hr
 obtain ⟨h1,h2,h3⟩ := hr
 split at h1
 ·rename_i u p hu
  have e := avsB_eq h1
  cases e
  exact memo_run (S := sx Tryz.prog N H K L C Z (prC cl)) (K1 := []) (H1 := H1) (K2 := K) (H2 := H) (callD_told (K := []) (cs := cs) Y hc hm hp (hM H1 []) k) hu h2 h3 (hM H K)
 ·cases h1
theorem memoAll_drop {i : Nat} {H1 : List (Nat × Nat × Nat × Nat)} (Y : Hy N H1 L C Z q σ) (hc : ∀ f ∈ cl,Closed f) (hm : (Tryz.prog).follows .mixedOrders=true) (hp : PreS w) {k : Nat} (hr : memoOne (sx Tryz.prog N H1 [] L C Z (prC cl)) cs k (M.drop i)=true) (hM : MemoAll N L C Z q σ cl w (M.drop (i+1))) : MemoAll N L C Z q σ cl w (M.drop i) := by
 rw [← List.tail_drop] at hM
 generalize M.drop i=D at *
 match D with
 | [] => cases hr
 | (f,args,v) :: D => exact memoAll_cons Y hc hm hp k hr hM
theorem memoAll_chk {H1 : List (Nat × Nat × Nat × Nat)} (Y : Hy N H1 L C Z q σ) (hc : ∀ f ∈ cl,Closed f) (hm : (Tryz.prog).follows .mixedOrders=true) (hp : PreS w) {k : Nat} : ∀ (n : Nat) {M : Memo},memoChk (sx Tryz.prog N H1 [] L C Z (prC cl)) cs k n M=true→MemoAll N L C Z q σ cl w (M.drop n)→MemoAll N L C Z q σ cl w M
 | 0,_,_,h => h
 | n+1,M,hr,h => by
  unfold memoChk at hr
  rw [Bool.and_eq_true] at hr
  have h1 := memoAll_chk Y hc hm hp n hr.2 (by rw [List.drop_tail]; exact h)
  exact memoAll_drop (i := 0) Y hc hm hp hr.1 (by rw [Nat.zero_add,List.drop_one]; exact h1)
theorem run_toldD' {f : FuncId} {args : List AV} {vs : List Value} (k : Nat) (Y : Hy N H L C Z q σ) (hc : ∀ f ∈ cl,Closed f) (hm : (Tryz.prog).follows .mixedOrders=true) (hp : PreS w) (hM : MemoAll N L C Z q σ cl w M) (hr : (callD (sx Tryz.prog N H K L C Z (prC cl)) cs M k [] f args [] 0).map (·.1)=some (kB true))
  (hA : A2 (avOn (cOn (evS q σ) K (fun _ => none) w)) args vs) : Calls Tryz.prog f vs.toArray w fun e w' => Below w.heap.size w w'∧e=.returned (.bool true) := by
 rw [Option.map_eq_some_iff] at hr
 obtain ⟨⟨v,p⟩,h1,h2⟩ := hr
 dsimp only at h2
 subst h2
 refine (callD_told (cs := cs) Y hc hm hp (hM H K) k f args [] 0 (kB true,p) h1 (fun _ => none) w vs ⟨Below.refl _ _,(fun _ _ h => by cases h)⟩ hA (fun x hx => by cases hx) (fun x hx => by cases hx) (fun _ _ _ => rfl)).mono ?_
 rintro _ w' ⟨r,γ',rfl,hef,hv,_⟩
 exact ⟨hef.wi.bel,by rw [show r=.bool true from (asC_on (v := kB true) (c := .inl (.bool true)) rfl hv).1]⟩
end
end Go.Proofs.YtikldelfdioimaaGreatDoor
/- VY -/
namespace Go.Proofs.YtikldelfdioimaaGreatDoor
open Go.RowKit Cx
theorem den_num (t : Rat) : t*(t.den : Rat)=((t.num : Int) : Rat) := by
 conv => lhs; lhs; rw [← Rat.mkRat_self t]
 have h0 : (t.den : Rat) ≠ 0 := fun h => t.den_nz (by exact_mod_cast h)
 rw [Rat.mkRat_eq_div,Rat.div_mul_cancel h0]
theorem whole {q : Rat} (h : q.den=1) : q=((q.num : Int) : Rat) := by
 have := den_num q
 rw [h] at this
 rw [← this]
 show q=q*((1 : Nat) : Rat)
 exact (Rat.mul_one q).symm
theorem plain_uniq {us : List Rat} {t : Rat} (hU : PlainOk us) (hV : PlainOk (us.map fun u => t*u)) : t=1 := by
 have hb := den_num t
 have key : ∀ u ∈ us,(t*u).num*(t.den : Int)=t.num*u.num := fun u hu => by
  have e1 := whole (hU.den u hu)
  have e2 := whole (hV.den (t*u) (List.mem_map_of_mem (f := fun u => t*u) hu))
  have e3 : (((t*u).num*(t.den : Int) : Int) : Rat)=((t.num*u.num : Int) : Rat) := by
   rw [Rat.intCast_mul,Rat.intCast_mul,← e2,← e1,← hb]
   show t*u*((t.den : Int) : Rat)=t*(t.den : Rat)*u
   have : (((t.den : Nat) : Int) : Rat)=(t.den : Rat) := rfl
   rw [this]
   grind
  exact_mod_cast e3
 have h1 : t.den=1 := by
  have : t.den ∣ gN us := gN_great fun u hu => by
   have hd : (t.den : Int) ∣ t.num*u.num := ⟨(t*u).num,by rw [← key u hu,Int.mul_comm]⟩
   have hd' : t.den ∣ t.num.natAbs*u.num.natAbs := by
    have := Int.natAbs_dvd_natAbs.2 hd
    rwa [Int.natAbs_natCast,Int.natAbs_mul] at this
   exact Nat.Coprime.dvd_of_dvd_mul_left t.reduced.symm hd'
  rw [hU.gcd] at this
  exact Nat.dvd_one.1 this
 have ht := whole h1
 have h2 : t.num.natAbs=1 := by
  have : t.num.natAbs ∣ gN (us.map fun u => t*u) := gN_great fun v hv => by
   obtain ⟨u,hu,rfl⟩ := List.mem_map.1 hv
   have := key u hu
   rw [h1] at this
   refine ⟨u.num.natAbs,?_⟩
   rw [← Int.natAbs_mul,← this]
   simp
  rw [hV.gcd] at this
  exact Nat.dvd_one.1 this
 -- the first that is not 0
 have hne : ∃ (j : Nat) (hj : j < us.length),us[j] ≠ 0∧∀ (i : Nat) (hi : i < us.length),i < j→us[i]=0 := by
  apply Classical.byContradiction
  intro hn
  have all0 : ∀ (n j : Nat) (hj : j < us.length),j < n→us[j]=0 := by
   intro n
   induction n with
   | zero => intro j _ h; omega
   | succ n ih =>
    intro j hj hjn
    apply Classical.byContradiction
    intro h
    exact hn ⟨j,hj,h,fun i hi hij => ih i hi (by omega)⟩
  have h0 : (0 : Nat) ∣ gN us := gN_great fun u hu => by
   obtain ⟨j,hj,rfl⟩ := List.getElem_of_mem hu
   rw [all0 us.length j hj hj]
   decide
  rw [hU.gcd] at h0
  exact absurd (Nat.zero_dvd.1 h0) (by decide)
 obtain ⟨j,hj,hj1,hj2⟩ := hne
 have p1 := hU.sgn j hj hj2 hj1
 have ht0 : t ≠ 0 := fun e => by rw [e] at h2; exact absurd h2 (by decide)
 have p2 := hV.sgn j (by simpa using hj) (fun i hi hij => by
  rw [List.getElem_map,hj2 i (by simpa using hi) hij,Rat.mul_zero]) (by
  rw [List.getElem_map]
  exact fun e => (Rat.mul_eq_zero.1 e).elim ht0 hj1)
 rw [List.getElem_map] at p2
 have hk := key us[j] (List.getElem_mem hj)
 rw [h1] at hk
 have hk' : (t*us[j]).num=t.num*us[j].num := by simpa using hk
 rw [hk'] at p2
 have ht1 : t.num=1 := by
  rcases Int.natAbs_eq t.num with e | e
  ·rw [h2] at e
   exact e
  ·rw [h2] at e
   rw [e] at p2
   omega
 rw [ht,ht1]
 rfl
theorem fac_scale {qs : List Rat} {q0 r : Rat} (h0 : q0 ∈ qs) (hz : q0 ≠ 0) (hr : r ≠ 0) : r*fac (qs.map fun q => r*q)=fac qs := by
 have hf := fac_ne h0 hz
 have hU := plain_fac h0 hz
 have hV := plain_fac (qs := qs.map fun q => r*q) (List.mem_map_of_mem (f := fun q => r*q) h0) (fun e => (Rat.mul_eq_zero.1 e).elim hr hz)
 have he : (qs.map fun q => r*q).map (fun q => q*fac (qs.map fun q => r*q))=(qs.map (fun q => q*fac qs)).map fun u => (r*fac (qs.map fun q => r*q) / fac qs)*u := by
  rw [List.map_map,List.map_map]
  apply List.map_congr_left
  intro q _
  show r*q*fac (qs.map fun q => r*q)=r*fac (qs.map fun q => r*q) / fac qs*(q*fac qs)
  generalize fac (qs.map fun q => r*q)=g
  generalize fac qs=f at *
  have : f*f⁻¹=1 := Rat.mul_inv_cancel f hf
  rw [Rat.div_def]
  grind
 rw [he] at hV
 have := plain_uniq hU hV
 generalize fac (qs.map fun q => r*q)=g at *
 generalize fac qs=f at *
 have h2 : r*g / f*f=r*g := Rat.div_mul_cancel hf
 rw [this] at h2
 grind
end Go.Proofs.YtikldelfdioimaaGreatDoor
/- VSZ -/
namespace Go.Proofs.YtikldelfdioimaaGreatDoor
open Go.RowKit Cx
structure QW (z : Nat) (x : Rat) : Prop where
 qs : QS z x
 wh : x.den=1
theorem QW.of {z : Nat} {n : Int} (h : n.natAbs < 2 ^ z) (hz : 0 < z) : QW z ((n : Int) : Rat) :=
 ⟨⟨by simpa using h,by
  show ((n : Int) : Rat).den < 2 ^ z
  rw [Rat.den_intCast]
  exact Nat.one_lt_two_pow (by omega)⟩,Rat.den_intCast n⟩
theorem QW.mono {k l : Nat} {x : Rat} (h : QW k x) (hk : k≤l) : QW l x := ⟨h.qs.mono hk,h.wh⟩
theorem two_max {a b x y : Nat} (h1 : a < 2 ^ x) (h2 : b < 2 ^ y) : a+b < 2 ^ (Nat.max x y+1) := by
 have e1 : 2 ^ x≤2 ^ Nat.max x y := Nat.pow_le_pow_right (by decide) (Nat.le_max_left x y)
 have e2 : 2 ^ y≤2 ^ Nat.max x y := Nat.pow_le_pow_right (by decide) (Nat.le_max_right x y)
 rw [Nat.pow_succ]
 omega
theorem QW.add {x y : Nat} {a b : Rat} (h1 : QW x a) (h2 : QW y b) : QW (Nat.max x y+1) (a+b) := by
 rw [whole h1.wh,whole h2.wh,← Rat.intCast_add]
 refine QW.of ?_ (by omega)
 have := two_max h1.qs.num h2.qs.num
 omega
theorem QW.sub {x y : Nat} {a b : Rat} (h1 : QW x a) (h2 : QW y b) : QW (Nat.max x y+1) (a - b) := by
 rw [whole h1.wh,whole h2.wh,← Rat.intCast_sub]
 refine QW.of ?_ (by omega)
 have := two_max h1.qs.num h2.qs.num
 omega
theorem QW.mul {x y : Nat} {a b : Rat} (h1 : QW x a) (h2 : QW y b) : QW (x+y) (a*b) := by
 refine ⟨h1.qs.mul h2.qs,?_⟩
 rw [whole h1.wh,whole h2.wh,← Rat.intCast_mul]
 exact Rat.den_intCast _
theorem QW.neg {x : Nat} {a : Rat} (h1 : QW x a) : QW x (-a) := ⟨h1.qs.neg,h1.wh⟩
theorem ten_three : ∀ n : Nat,10 ^ n≤2 ^ ((10*n+2) / 3)
 | 0 => by decide
 | 1 => by decide
 | 2 => by decide
 | n+3 => by
  have h := ten_three n
  have e : (10*(n+3)+2) / 3=(10*n+2) / 3+10 := by omega
  rw [e,Nat.pow_add,Nat.pow_add]
  exact Nat.mul_le_mul h (by decide)
theorem QS.rd3 (l : List UInt8) : QS ((10*l.length+2) / 3+5) (Cx.rd l) := by
 have key : ∀ {m : List UInt8},digs m=true→dv m < 2 ^ ((10*m.length+2) / 3) := fun {m} h => Nat.lt_of_lt_of_le (dv_lt (digs_all h)) (ten_three _)
 unfold Cx.rd
 split
 ·rename_i h
  rw [Bool.and_eq_true] at h
  have h1 := key h.1
  have h2 := key h.2
  have h3 := up_len (tailOf l)
  have h4 := low_len (tailOf l)
  have h5 := tail_len l
  apply QS.mkr
  ·rw [sg_abs]; exact Nat.lt_of_lt_of_le h1 (Nat.pow_le_pow_right (by decide) (by omega))
  ·exact Nat.lt_of_lt_of_le h2 (Nat.pow_le_pow_right (by decide) (by omega))
 ·exact QS.zero.mono (by omega)
section
variable {N : List Nd} {Z : List Nat} {I : List Bool} {q : Nat→Rat}
end
end Go.Proofs.YtikldelfdioimaaGreatDoor
/- VSA -/
namespace Go.Proofs.YtikldelfdioimaaGreatDoor
open Go.RowKit Cx
def inB : Nat := 3495259
abbrev Atm := Nat × Nat
def remA (x : Atm) : List Atm→Option (List Atm)
 | [] => none
 | y :: l => bif Nat.beq x.1 y.1 && Nat.beq x.2 y.2 then some l else (remA x l).map (y :: ·)
def subA : List Atm→List Atm→Option (List Atm)
 | l,[] => some l
 | l,x :: r => (remA x l).bind fun l' => subA l' r
def leftA : List Atm→List Atm→List Atm
 | _,[] => []
 | U,x :: D => match remA x U with
  | some U' => leftA U' D
  | none => x :: leftA U D
def uniA (E : List (Nat × List Atm)) : List Nat→List Atm→List Atm
 | [],U => U
 | a :: l,U => uniA E l (match E[a]? with
  | some p => U ++ leftA U p.2
  | none => U)
def bitA (E : List (Nat × List Atm)) (x : Atm) : Nat := match x.1 with
 | 0 => inB
 | 1 => (match E[x.2]? with
  | some p => p.1
  | none => 1)
 | _ => Nat.log2 x.2+1
def bitL (E : List (Nat × List Atm)) : List Atm→Nat
 | [] => 1
 | x :: l => bitA E x+bitL E l
def noneA (l : Option (List Atm)) : Bool := match l with
 | some [] => true
 | _ => false
def saN (E : List (Nat × List Atm)) (k z : Nat) (D : List Atm) (nd : Nd) : Bool := (Nat.blt 0 z && D.all fun x => !Nat.beq x.1 1 || Nat.blt x.2 k) && match nd.1,nd.2 with
 | 0,[_,n,d] => (Nat.blt n (2 ^ z) && Nat.blt 0 d) && noneA (subA D (bif Nat.beq d 1 then [] else [(2,d)]))
 | 1,[j] => Nat.ble inB z && noneA (subA D [(0,j)])
 | 2,[a,b] => (match E[a]?,E[b]? with
  | some p,some r => (match subA D p.2,subA D r.2 with
   | some c,some e => Nat.ble (Nat.max (p.1+bitL E c) (r.1+bitL E e)+1) z
   | _,_ => false)
  | _,_ => false)
 | 3,[a,b] => (match E[a]?,E[b]? with
  | some p,some r => (match subA D p.2,subA D r.2 with
   | some c,some e => Nat.ble (Nat.max (p.1+bitL E c) (r.1+bitL E e)+1) z
   | _,_ => false)
  | _,_ => false)
 | 4,[a,b] => (match E[a]?,E[b]? with
  | some p,some r => (match subA D p.2 with
   | some c => noneA (subA c r.2) && Nat.ble (p.1+r.1) z
   | _ => false)
  | _,_ => false)
 | 5,[a] => (match E[a]? with
  | some p => noneA (subA D p.2) && Nat.ble p.1 z
  | _ => false)
 | 6,[a,b] => (match E[a]?,E[b]?,remA (1,b) D with
  | some p,some r,some D' => (match subA p.2 D' with
   | some c => (match subA r.2 c with
    | some e => Nat.ble (p.1+bitL E e) z
    | none => false)
   | none => false)
  | _,_,_ => false)
 | 7,_ => Nat.beq D.length 0
 | 8,i :: xs => Nat.beq D.length 0 && (xs.all (fun a => match E[a]? with
   | some p => (subA (uniA E xs []) p.2).isSome
   | none => false) && (match xs[i]? with
   | some a => (match E[a]? with
    | some p => (match subA (uniA E xs []) p.2 with
     | some e => Nat.ble (p.1+bitL E e) z
     | none => false)
    | none => false)
   | none => false))
 | _,_ => false
def saB (E : List (Nat × List Atm)) : Nat→List Nd→List (Nat × List Atm)→List Nat→Bool
 | _,[],[],[] => true
 | k,nd :: ns,p :: ps,z :: zs => (saN E k p.1 p.2 nd && (Nat.ble p.1 z && (Nat.ble (bitL E p.2) z && Nat.ble z 1000000000000))) && saB E (k+1) ns ps zs
 | _,_,_,_ => false
theorem saB_get {E : List (Nat × List Atm)} : ∀ {ns : List Nd} {ps : List (Nat × List Atm)} {zs : List Nat} {k i : Nat} {nd : Nd},saB E k ns ps zs=true→ns[i]? = some nd→∃ p z,ps[i]? = some p∧zs[i]? = some z∧saN E (k+i) p.1 p.2 nd=true∧p.1≤z∧bitL E p.2≤z∧z≤1000000000000
 | [],_,_,_,_,_,_,h => by simp at h
 | _ :: _,[],_,_,_,_,h,_ => by cases h
 | _ :: _,_ :: _,[],_,_,_,h,_ => by cases h
 | nd' :: ns,p :: ps,z :: zs,k,0,nd,h,e => by
  have : nd'=nd := by simpa using e
  subst this
  unfold saB at h
  simp only [Bool.and_eq_true,Nat.ble_eq] at h
  exact ⟨p,z,rfl,rfl,h.1.1,h.1.2.1,h.1.2.2.1,h.1.2.2.2⟩
 | nd' :: ns,p :: ps,z :: zs,k,i+1,nd,h,e => by
  unfold saB at h
  rw [Bool.and_eq_true] at h
  obtain ⟨p',z',g1,g2,g3,g4⟩ := saB_get (k := k+1) (i := i) h.2 (by simpa using e)
  exact ⟨p',z',by simpa using g1,by simpa using g2,by rw [show k+(i+1)=k+1+i by omega]; exact g3,g4⟩
theorem saB_len {E : List (Nat × List Atm)} : ∀ {ns : List Nd} {ps : List (Nat × List Atm)} {zs : List Nat} {k : Nat},saB E k ns ps zs=true→ns.length=ps.length∧ns.length=zs.length
 | [],[],[],_,_ => ⟨rfl,rfl⟩
 | [],[],_ :: _,_,h => by cases h
 | [],_ :: _,_,_,h => by cases h
 | _ :: _,[],_,_,h => by cases h
 | _ :: _,_ :: _,[],_,h => by cases h
 | _ :: _,_ :: _,_ :: _,k,h => by
  unfold saB at h
  rw [Bool.and_eq_true] at h
  have := saB_len h.2
  exact ⟨congrArg (· + 1) this.1,congrArg (· + 1) this.2⟩
def valA (dn : Nat→Nat) (M : Nat→Rat) (x : Atm) : Rat := match x.1 with
 | 0 => ((dn x.2 : Nat) : Rat)
 | 1 => if M x.2=0 then 1 else M x.2
 | _ => if x.2=0 then 1 else ((x.2 : Nat) : Rat)
def proA (dn : Nat→Nat) (M : Nat→Rat) : List Atm→Rat
 | [] => 1
 | x :: l => valA dn M x*proA dn M l
theorem remA_pro {dn : Nat→Nat} {M : Nat→Rat} {x : Atm} : ∀ {l c : List Atm},remA x l=some c→proA dn M l=valA dn M x*proA dn M c
 | [],_,h => by cases h
 | y :: l,c,h => by
  unfold remA at h
  cases e : (Nat.beq x.1 y.1 && Nat.beq x.2 y.2) with
  | true =>
   rw [e] at h
   cases h
   rw [Bool.and_eq_true,Nat.beq_eq,Nat.beq_eq] at e
   have : x=y := Prod.ext e.1 e.2
   rw [this]
   rfl
  | false =>
   rw [e] at h
   simp only [cond_false,Option.map_eq_some_iff] at h
   obtain ⟨c',h1,rfl⟩ := h
   show valA dn M y*proA dn M l=valA dn M x*(valA dn M y*proA dn M c')
   rw [remA_pro h1]
   grind
theorem subA_pro {dn : Nat→Nat} {M : Nat→Rat} : ∀ {r l c : List Atm},subA l r=some c→proA dn M l=proA dn M r*proA dn M c
 | [],l,c,h => by
  have : l=c := by simpa [subA] using h
  rw [this]
  exact (Rat.one_mul _).symm
 | x :: r,l,c,h => by
  unfold subA at h
  rw [Option.bind_eq_some_iff] at h
  obtain ⟨l',h1,h2⟩ := h
  rw [remA_pro h1,subA_pro h2]
  exact (Rat.mul_assoc _ _ _).symm
theorem noneA_some {l : Option (List Atm)} (h : noneA l=true) : l=some [] := by
 unfold noneA at h
 split at h
 ·rfl
 ·cases h
theorem QW.one {z : Nat} (h : 0 < z) : QW z 1 := ⟨⟨by
  show (1 : Int).natAbs < 2 ^ z
  exact Nat.one_lt_two_pow (by omega),by
  show 1 < 2 ^ z
  exact Nat.one_lt_two_pow (by omega)⟩,rfl⟩
theorem QW.zero {z : Nat} (h : 0 < z) : QW z 0 := ⟨⟨by
  show (0 : Int).natAbs < 2 ^ z
  exact Nat.two_pow_pos z,by
  show 1 < 2 ^ z
  exact Nat.one_lt_two_pow (by omega)⟩,rfl⟩
theorem QW.nat {z n : Nat} (h : n < 2 ^ z) (hz : 0 < z) : QW z ((n : Nat) : Rat) := by
 have : ((n : Nat) : Rat)=(((n : Nat) : Int) : Rat) := (Rat.intCast_natCast n).symm
 rw [this]
 exact QW.of (by simpa using h) hz
section
variable {E : List (Nat × List Atm)} {dn : Nat→Nat} {M : Nat→Rat} {k : Nat}
def BelA (E : List (Nat × List Atm)) (dn : Nat→Nat) (M : Nat→Rat) (q : Nat→Rat) (k : Nat) : Prop := ∀ a,a < k→∃ p,E[a]? = some p∧QW p.1 (M a)∧0 < p.1∧(∀ x ∈ p.2,x.1=1→x.2 < a)∧q a*proA dn M p.2=M a
theorem valA_ok {q : Nat→Rat} (hdn : ∀ j,0 < dn j∧dn j < 2 ^ inB) (hM : BelA E dn M q k) {x : Atm} (hx : x.1=1→x.2 < k) : QW (bitA E x) (valA dn M x)∧valA dn M x ≠ 0 := by
 obtain ⟨i,j⟩ := x
 match i with
 | 0 =>
  show QW inB ((dn j : Nat) : Rat)∧((dn j : Nat) : Rat) ≠ 0
  refine ⟨QW.nat (hdn j).2 (by unfold inB; omega),fun h => ?_⟩
  have := (hdn j).1
  have h2 : dn j=0 := by exact_mod_cast h
  omega
 | 1 =>
  obtain ⟨p,h1,h2,h3,_⟩ := hM j (hx rfl)
  show QW (match E[j]? with
   | some p => p.1
   | none => 1) (if M j=0 then 1 else M j)∧(if M j=0 then 1 else M j) ≠ 0
  rw [h1]
  by_cases h : M j=0
  ·rw [if_pos h]
   exact ⟨QW.one h3,by decide⟩
  ·rw [if_neg h]
   exact ⟨h2,h⟩
 | i+2 =>
  show QW (Nat.log2 j+1) (if j=0 then 1 else ((j : Nat) : Rat))∧(if j=0 then 1 else ((j : Nat) : Rat)) ≠ 0
  by_cases h : j=0
  ·rw [if_pos h]
   exact ⟨QW.one (by omega),by decide⟩
  ·rw [if_neg h]
   refine ⟨QW.nat Nat.lt_log2_self (by omega),fun h2 => h ?_⟩
   exact_mod_cast h2
theorem proA_ok {q : Nat→Rat} (hdn : ∀ j,0 < dn j∧dn j < 2 ^ inB) (hM : BelA E dn M q k) : ∀ {l : List Atm},(∀ x ∈ l,x.1=1→x.2 < k)→QW (bitL E l) (proA dn M l)∧proA dn M l ≠ 0
 | [],_ => ⟨QW.one (show 0 < 1 by decide),by show (1 : Rat) ≠ 0; decide⟩
 | x :: l,h => by
  have h1 := valA_ok hdn hM (h x List.mem_cons_self)
  have h2 := proA_ok hdn hM (l := l) fun y hy => h y (List.mem_cons_of_mem _ hy)
  exact ⟨h1.1.mul h2.1,mul_ne h1.2 h2.2⟩
theorem proA_congr {M' : Nat→Rat} : ∀ {l : List Atm},(∀ x ∈ l,x.1=1→M x.2=M' x.2)→proA dn M l=proA dn M' l
 | [],_ => rfl
 | x :: l,h => by
  show valA dn M x*proA dn M l=valA dn M' x*proA dn M' l
  rw [proA_congr (l := l) fun y hy => h y (List.mem_cons_of_mem _ hy)]
  have e : valA dn M x=valA dn M' x := by
   obtain ⟨i,j⟩ := x
   match i with
   | 0 => rfl
   | 1 =>
    have := h (1,j) List.mem_cons_self rfl
    show (if M j=0 then 1 else M j)=(if M' j=0 then 1 else M' j)
    rw [this]
   | i+2 => rfl
  rw [e]
theorem remA_mem {x y : Atm} : ∀ {l c : List Atm},remA x l=some c→y ∈ c→y ∈ l
 | [],_,h,_ => by cases h
 | z :: l,c,h,hy => by
  unfold remA at h
  cases e : (Nat.beq x.1 z.1 && Nat.beq x.2 z.2) with
  | true => rw [e] at h; cases h; exact List.mem_cons_of_mem _ hy
  | false =>
   rw [e] at h
   simp only [cond_false,Option.map_eq_some_iff] at h
   obtain ⟨c',h1,rfl⟩ := h
   rcases List.mem_cons.1 hy with rfl | hy
   ·exact List.mem_cons_self
   ·exact List.mem_cons_of_mem _ (remA_mem h1 hy)
theorem subA_mem {y : Atm} : ∀ {r l c : List Atm},subA l r=some c→y ∈ c→y ∈ l
 | [],l,c,h,hy => by
  have : l=c := by simpa [subA] using h
  rw [this]; exact hy
 | x :: r,l,c,h,hy => by
  unfold subA at h
  rw [Option.bind_eq_some_iff] at h
  obtain ⟨l',h1,h2⟩ := h
  exact remA_mem h1 (subA_mem h2 hy)
theorem nat_ne {n : Nat} (h : n ≠ 0) : ((n : Nat) : Rat) ≠ 0 := fun e => h (by exact_mod_cast e)
theorem mul_low (x : Rat) : x*((x.den : Nat) : Rat)=((x.num : Int) : Rat) := by
 have e : x=((x.num : Int) : Rat) / ((x.den : Nat) : Rat) := by
  have := Rat.mkRat_self x
  rw [Rat.mkRat_eq_div] at this
  exact this.symm
 conv => lhs; lhs; rw [e]
 exact Rat.div_mul_cancel (nat_ne x.den_nz)
theorem lD_dvd_of {qs : List Rat} {m M : Nat} (hm : m ∣ M) (h : ∀ q ∈ qs,q.den ∣ M) : qs.foldl (fun m q => m*(q.den / Nat.gcd m q.den)) m ∣ M := by
 induction qs generalizing m with
 | nil => exact hm
 | cons q qs ih =>
  rw [List.foldl_cons]
  refine ih ?_ fun p hp => h p (List.mem_cons_of_mem _ hp)
  have e : m*(q.den / Nat.gcd m q.den)=Nat.lcm m q.den := by
   unfold Nat.lcm
   exact (Nat.mul_div_assoc _ (Nat.gcd_dvd_right _ _)).symm
  rw [e]
  exact Nat.lcm_dvd hm (h q List.mem_cons_self)
theorem den_dvd {x : Rat} {m : Int} (h : (x*((m : Int) : Rat)).den=1) : x.den ∣ m.natAbs := by
 have e := whole h
 generalize (x*((m : Int) : Rat)).num=n at e
 have h1 : x*((x.den : Nat) : Rat)=((x.num : Int) : Rat) := mul_low x
 have h2 : ((x.num : Int) : Rat)*((m : Int) : Rat)=((n : Int) : Rat)*(((x.den : Nat) : Int) : Rat) := by
  rw [← h1,← e,Rat.intCast_natCast]
  grind
 have h3 : x.num*m=n*(x.den : Int) := by exact_mod_cast h2
 have h4 : (x.den : Int) ∣ x.num*m := ⟨n,by rw [h3,Int.mul_comm]⟩
 have h5 : x.den ∣ x.num.natAbs*m.natAbs := by
  have := Int.natAbs_dvd_natAbs.2 h4
  rwa [Int.natAbs_mul,Int.natAbs_natCast] at this
 exact (Nat.Coprime.symm x.reduced).dvd_of_dvd_mul_left h5
theorem fac_whole {qs : List Rat} {x : Rat} {z : Nat} {m : Int} (hx : x ∈ qs) (hm : m ≠ 0) (hall : ∀ y ∈ qs,(y*((m : Int) : Rat)).den=1) (hz : QW z (x*((m : Int) : Rat))) : QW z (x*fac qs) := by
 have hl : lD qs ∣ m.natAbs := lD_dvd_of (Nat.one_dvd _) fun y hy => den_dvd (hall y hy)
 have hd := fac_den hx
 have hpos : 0 < m.natAbs := Int.natAbs_pos.2 hm
 have hle : lD qs≤m.natAbs := Nat.le_of_dvd hpos hl
 have hn : (x*fac qs).num.natAbs≤(x*((m : Int) : Rat)).num.natAbs := by
  rw [fac_abs hx]
  have e := whole hz.wh
  generalize (x*((m : Int) : Rat)).num=n at e
  have h1 : x*((x.den : Nat) : Rat)=((x.num : Int) : Rat) := mul_low x
  have h2 : ((x.num : Int) : Rat)*((m : Int) : Rat)=((n : Int) : Rat)*(((x.den : Nat) : Int) : Rat) := by
   rw [← h1,← e,Rat.intCast_natCast]
   grind
  have h3 : x.num*m=n*(x.den : Int) := by exact_mod_cast h2
  have h4 : x.num.natAbs*m.natAbs=n.natAbs*x.den := by
   have := congrArg Int.natAbs h3
   rwa [Int.natAbs_mul,Int.natAbs_mul,Int.natAbs_natCast] at this
  obtain ⟨c,hc⟩ := den_dvd (x := x) (m := m) (hall x hx)
  have h5 : n.natAbs=x.num.natAbs*c := by
   rw [hc] at h4
   refine Nat.eq_of_mul_eq_mul_right x.den_pos ?_
   rw [← h4]
   rw [Nat.mul_assoc,Nat.mul_comm c]
  show x.num.natAbs / gN qs*(lD qs / x.den)≤n.natAbs
  rw [h5]
  refine Nat.mul_le_mul (Nat.div_le_self _ _) ?_
  have : lD qs / x.den≤m.natAbs / x.den := Nat.div_le_div_right hle
  rw [hc,Nat.mul_div_cancel_left _ x.den_pos] at this
  exact this
 refine ⟨⟨Nat.lt_of_le_of_lt hn hz.qs.num,?_⟩,hd⟩
 rw [hd]
 have := hz.qs.den
 rw [hz.wh] at this
 exact this
theorem leftA_mem {y : Atm} : ∀ {D U : List Atm},y ∈ leftA U D→y ∈ D
 | [],_,h => by cases h
 | x :: D,U,h => by
  unfold leftA at h
  split at h
  ·exact List.mem_cons_of_mem _ (leftA_mem h)
  ·rcases List.mem_cons.1 h with rfl | h
   ·exact List.mem_cons_self
   ·exact List.mem_cons_of_mem _ (leftA_mem h)
theorem uniA_low {q : Nat→Rat} (hM : BelA E dn M q k) : ∀ {l : List Nat} {U : List Atm},(∀ c ∈ l,c < k)→(∀ x ∈ U,x.1=1→x.2 < k)→∀ x ∈ uniA E l U,x.1=1→x.2 < k
 | [],_,_,hU => hU
 | a :: l,U,hl,hU => by
  unfold uniA
  refine uniA_low hM (fun c hc => hl c (List.mem_cons_of_mem _ hc)) ?_
  have ha := hl a List.mem_cons_self
  obtain ⟨p,h1,_,_,h4,_⟩ := hM a ha
  rw [h1]
  intro x hx h
  rcases List.mem_append.1 hx with hx | hx
  ·exact hU x hx h
  ·exact Nat.lt_trans (h4 x (leftA_mem hx) h) ha
theorem node_ok {q : Nat→Rat} {σ : Nat→ByteArray} (hσ : ∀ j,(σ j).size≤1048576) (hdn : ∀ j,dn j=(Cx.rd (σ j).data.toList).den) (hM : BelA E dn M q k) {z : Nat} {D : List Atm} {nd : Nd} (hwf : wfN k nd=true) (hs : saN E k z D nd=true) : QW z (valN σ q nd*proA dn M D)∧0 < z∧∀ x ∈ D,x.1=1→x.2 < k := by
 have hdn' : ∀ j,0 < dn j∧dn j < 2 ^ inB := fun j => by
  rw [hdn j]
  refine ⟨Rat.den_pos _,Nat.lt_of_lt_of_le (QS.rd3 _).den (Nat.pow_le_pow_right (by decide) ?_)⟩
  have := hσ j
  rw [str_len]
  unfold inB
  omega
 obtain ⟨op,xs⟩ := nd
 unfold saN at hs
 rw [Bool.and_eq_true,Bool.and_eq_true] at hs
 obtain ⟨⟨hz0,hD⟩,hs⟩ := hs
 have hz : 0 < z := by simpa [Nat.blt_eq] using hz0
 have hD' : ∀ x ∈ D,x.1=1→x.2 < k := fun x hx h1 => by
  rw [List.all_eq_true] at hD
  have := hD x hx
  rw [h1] at this
  simpa [Nat.blt_eq] using this
 refine ⟨?_,hz,hD'⟩
 have hlow : ∀ {a : Nat} {p : Nat × List Atm},a < k→E[a]? = some p→QW p.1 (M a)∧(∀ x ∈ p.2,x.1=1→x.2 < k)∧q a*proA dn M p.2=M a := fun {a p} ha hp => by
  obtain ⟨p',h1,h2,_,h4,h5⟩ := hM a ha
  rw [hp] at h1
  cases h1
  exact ⟨h2,fun x hx h => Nat.lt_trans (h4 x hx h) ha,h5⟩
 have hpr : ∀ {l : List Atm},(∀ x ∈ l,x.1=1→x.2 < k)→QW (bitL E l) (proA dn M l)∧proA dn M l ≠ 0 := fun h => proA_ok hdn' hM h
 unfold wfN at hwf
 unfold valN
 dsimp only at hs hwf ⊢
 split at hs
 ·rename_i s n d
  simp only [Bool.and_eq_true] at hs
  obtain ⟨⟨h1,h2⟩,h3⟩ := hs
  have h1' : n < 2 ^ z := by simpa [Nat.blt_eq] using h1
  have h2' : d ≠ 0 := by
   have : 0 < d := by simpa [Nat.blt_eq] using h2
   omega
  have hp : proA dn M D=((d : Nat) : Rat) := by
   have := subA_pro (dn := dn) (M := M) (noneA_some h3)
   rw [this]
   cases e : Nat.beq d 1 with
   | true =>
    rw [Nat.beq_eq] at e
    rw [e]
    show (1 : Rat)*1=((1 : Nat) : Rat)
    rw [Rat.mul_one]
    exact_mod_cast rfl
   | false =>
    show (if d=0 then (1 : Rat) else ((d : Nat) : Rat))*1*1=_
    rw [if_neg h2',Rat.mul_one,Rat.mul_one]
  show QW z ((if s=0 then mkRat (n : Int) d else mkRat (-(n : Int)) d)*proA dn M D)
  rw [hp]
  have key : ∀ m : Int,m.natAbs < 2 ^ z→QW z (mkRat m d*((d : Nat) : Rat)) := fun m hm => by
   rw [Rat.mkRat_eq_div,Rat.div_mul_cancel (nat_ne h2')]
   exact QW.of hm hz
  by_cases hs0 : s=0
  ·rw [if_pos hs0]
   exact key _ (by simpa using h1')
  ·rw [if_neg hs0]
   exact key _ (by simpa using h1')
 ·rename_i j
  simp only [Bool.and_eq_true,Nat.ble_eq] at hs
  have hp : proA dn M D=(((Cx.rd (σ j).data.toList).den : Nat) : Rat) := by
   rw [subA_pro (dn := dn) (M := M) (noneA_some hs.2)]
   show ((dn j : Nat) : Rat)*1*1=_
   rw [Rat.mul_one,Rat.mul_one,hdn j]
  show QW z (Cx.rd (σ j).data.toList*proA dn M D)
  rw [hp,mul_low]
  refine QW.of (Nat.lt_of_lt_of_le (QS.rd3 _).num (Nat.pow_le_pow_right (by decide) ?_)) hz
  have := hσ j
  have := hs.1
  unfold inB at this
  rw [str_len]
  omega
 ·simp only [List.all_cons,List.all_nil,Bool.and_true,Bool.and_eq_true] at hwf
  rename_i a b
  have l1 : a < k := by simpa [Nat.blt_eq] using hwf.1
  have l2 : b < k := by simpa [Nat.blt_eq] using hwf.2
  split at hs
  ·rename_i p r hp hr
   split at hs
   ·rename_i c e hc he
    rw [Nat.ble_eq] at hs
    obtain ⟨a1,a2,a3⟩ := hlow l1 hp
    obtain ⟨b1,b2,b3⟩ := hlow l2 hr
    have hc' := hpr (l := c) fun x hx => hD' x (subA_mem hc hx)
    have he' := hpr (l := e) fun x hx => hD' x (subA_mem he hx)
    have e1 : (q a+q b)*proA dn M D=M a*proA dn M c+M b*proA dn M e := by
     rw [Rat.add_mul]
     congr 1
     ·rw [subA_pro hc,← Rat.mul_assoc,a3]
     ·rw [subA_pro he,← Rat.mul_assoc,b3]
    show QW z ((q a+q b)*proA dn M D)
    rw [e1]
    exact ((a1.mul hc'.1).add (b1.mul he'.1)).mono hs
   ·cases hs
  ·cases hs
 ·simp only [List.all_cons,List.all_nil,Bool.and_true,Bool.and_eq_true] at hwf
  rename_i a b
  have l1 : a < k := by simpa [Nat.blt_eq] using hwf.1
  have l2 : b < k := by simpa [Nat.blt_eq] using hwf.2
  split at hs
  ·rename_i p r hp hr
   split at hs
   ·rename_i c e hc he
    rw [Nat.ble_eq] at hs
    obtain ⟨a1,a2,a3⟩ := hlow l1 hp
    obtain ⟨b1,b2,b3⟩ := hlow l2 hr
    have hc' := hpr (l := c) fun x hx => hD' x (subA_mem hc hx)
    have he' := hpr (l := e) fun x hx => hD' x (subA_mem he hx)
    have e1 : (q a - q b)*proA dn M D=M a*proA dn M c - M b*proA dn M e := by
     rw [show (q a - q b)*proA dn M D=q a*proA dn M D - q b*proA dn M D by grind]
     congr 1
     ·rw [subA_pro hc,← Rat.mul_assoc,a3]
     ·rw [subA_pro he,← Rat.mul_assoc,b3]
    show QW z ((q a - q b)*proA dn M D)
    rw [e1]
    exact ((a1.mul hc'.1).sub (b1.mul he'.1)).mono hs
   ·cases hs
  ·cases hs
 ·simp only [List.all_cons,List.all_nil,Bool.and_true,Bool.and_eq_true] at hwf
  rename_i a b
  have l1 : a < k := by simpa [Nat.blt_eq] using hwf.1
  have l2 : b < k := by simpa [Nat.blt_eq] using hwf.2
  split at hs
  ·rename_i p r hp hr
   split at hs
   ·rename_i c hc
    rw [Bool.and_eq_true,Nat.ble_eq] at hs
    obtain ⟨a1,a2,a3⟩ := hlow l1 hp
    obtain ⟨b1,b2,b3⟩ := hlow l2 hr
    have e1 : q a*q b*proA dn M D=M a*M b := by
     rw [subA_pro hc,subA_pro (noneA_some hs.1),← a3,← b3]
     show q a*q b*(proA dn M p.2*(proA dn M r.2*1))=_
     grind
    show QW z (q a*q b*proA dn M D)
    rw [e1]
    exact (a1.mul b1).mono hs.2
   ·cases hs
  ·cases hs
 ·simp only [List.all_cons,List.all_nil,Bool.and_true] at hwf
  rename_i a
  have l1 : a < k := by simpa [Nat.blt_eq] using hwf
  split at hs
  ·rename_i p hp
   rw [Bool.and_eq_true,Nat.ble_eq] at hs
   obtain ⟨a1,a2,a3⟩ := hlow l1 hp
   have e1 : -q a*proA dn M D=-M a := by
    rw [subA_pro (noneA_some hs.1),← a3]
    show -q a*(proA dn M p.2*1)=_
    grind
   show QW z (-q a*proA dn M D)
   rw [e1]
   exact a1.neg.mono hs.2
  ·cases hs
 ·simp only [List.all_cons,List.all_nil,Bool.and_true,Bool.and_eq_true] at hwf
  rename_i a b
  have l1 : a < k := by simpa [Nat.blt_eq] using hwf.1
  have l2 : b < k := by simpa [Nat.blt_eq] using hwf.2
  split at hs
  ·rename_i p r D' hp hr hD1
   split at hs
   ·rename_i c hc
    split at hs
    ·rename_i e he
     rw [Nat.ble_eq] at hs
     obtain ⟨a1,a2,a3⟩ := hlow l1 hp
     obtain ⟨b1,b2,b3⟩ := hlow l2 hr
     have he' := hpr (l := e) fun x hx => b2 x (subA_mem he hx)
     by_cases h0 : M b=0
     ·have hb : q b=0 := by
       rw [h0] at b3
       exact (Rat.mul_eq_zero.1 b3).resolve_right (hpr b2).2
      show QW z (q a / q b*proA dn M D)
      rw [hb,Rat.div_def,Rat.inv_zero,Rat.mul_zero,Rat.zero_mul]
      exact QW.zero hz
     ·have hb : q b ≠ 0 := fun h => h0 (by rw [← b3,h,Rat.zero_mul])
      have e1 : q a / q b*proA dn M D=M a*proA dn M e := by
       have e2 : proA dn M D=M b*proA dn M D' := by
        rw [remA_pro hD1]
        show (if M b=0 then (1 : Rat) else M b)*_=_
        rw [if_neg h0]
       have e3 : q a / q b*q b=q a := Rat.div_mul_cancel hb
       rw [e2,← a3,← b3,subA_pro hc,subA_pro he]
       generalize q a / q b=t at e3
       rw [← e3]
       grind
      show QW z (q a / q b*proA dn M D)
      rw [e1]
      exact (a1.mul he'.1).mono hs
    ·cases hs
   ·cases hs
  ·cases hs
 ·have hD0 : D=[] := by
   rw [Nat.beq_eq] at hs
   exact List.length_eq_zero_iff.1 hs
  rw [hD0]
  have hv : valN σ q (7,xs)=0 ∨ valN σ q (7,xs)=1 := by
   unfold valN
   dsimp only
   split
   all_goals first | (split; exact Or.inl rfl; exact Or.inr rfl) | exact Or.inl rfl | (rename_i h; cases h)
  show QW z (valN σ q (7,xs)*1)
  rw [Rat.mul_one]
  rcases hv with h | h
  ·rw [h]
   exact QW.zero hz
  ·rw [h]
   exact QW.one hz
 ·rename_i i ys
  rw [Bool.and_eq_true,Bool.and_eq_true,List.all_eq_true] at hs
  obtain ⟨h1,h2,h3⟩ := hs
  have hD0 : D=[] := by
   rw [Nat.beq_eq] at h1
   exact List.length_eq_zero_iff.1 h1
  have hwf' : ys.all (Nat.blt · k)=true := hwf
  rw [List.all_eq_true] at hwf'
  have hlt : ∀ c ∈ ys,c < k := fun c hc => by simpa [Nat.blt_eq] using hwf' c hc
  split at h3
  ·rename_i a ha
   split at h3
   ·rename_i p hp
    split at h3
    ·rename_i e he
     rw [Nat.ble_eq] at h3
     obtain ⟨hi,ha'⟩ := List.getElem?_eq_some_iff.1 ha
     have hmem : a ∈ ys := List.mem_of_getElem? ha
     have hg : (ys.map q).getD i 0=q a := by
      rw [List.getD_eq_getElem?_getD,List.getElem?_map,ha]
      rfl
     show QW z ((ys.map q).getD i 0*fac (ys.map q)*proA dn M D)
     rw [hg,hD0]
     show QW z (q a*fac (ys.map q)*1)
     rw [Rat.mul_one]
     -- what makes all of them whole
     have hU : ∀ x ∈ uniA E ys [],x.1=1→x.2 < k := uniA_low hM hlt (fun x hx => by cases hx)
     have hUp := hpr hU
     have hw := whole hUp.1.wh
     generalize hm : (proA dn M (uniA E ys [])).num=m at hw
     have hm0 : m ≠ 0 := fun h => hUp.2 (by rw [hw,h]; rfl)
     have hall : ∀ y ∈ ys.map q,(y*((m : Int) : Rat)).den=1 := fun y hy => by
      obtain ⟨c,hc,rfl⟩ := List.mem_map.1 hy
      have h4 := h2 c hc
      split at h4
      ·rename_i r hr
       obtain ⟨c1,c2,c3⟩ := hlow (hlt c hc) hr
       cases hs2 : subA (uniA E ys []) r.2 with
       | none => rw [hs2] at h4; cases h4
       | some f =>
        have hf := hpr (l := f) fun x hx => hU x (subA_mem hs2 hx)
        rw [← hw,subA_pro hs2,← Rat.mul_assoc,c3]
        exact (c1.mul hf.1).wh
      ·cases h4
     obtain ⟨a1,a2,a3⟩ := hlow (hlt a hmem) hp
     have he' := hpr (l := e) fun x hx => hU x (subA_mem he hx)
     refine fac_whole (List.mem_map_of_mem hmem) hm0 hall ?_
     rw [← hw,subA_pro he,← Rat.mul_assoc,a3]
     exact (a1.mul he'.1).mono h3
    ·cases h3
   ·cases h3
  ·cases h3
 ·cases hs
end
theorem QS_over {x m p : Rat} {z y K : Nat} (hm : QW z m) (hp : QW y p) (h0 : p ≠ 0) (e : x*p=m) (hz : z≤K) (hy : y≤K) : QS K x := by
 have hw := whole hp.wh
 generalize p.num=P at hw
 have hP : P ≠ 0 := fun h => h0 (by rw [hw,h]; rfl)
 have hpos : 0 < P.natAbs := Int.natAbs_pos.2 hP
 have hd : x.den ∣ P.natAbs := den_dvd (x := x) (m := P) (by rw [← hw,e]; exact hm.wh)
 have hdle : x.den≤P.natAbs := Nat.le_of_dvd hpos hd
 have hPlt : P.natAbs < 2 ^ y := by
  have := hp.qs.num
  rw [hw,Rat.num_intCast] at this
  exact this
 have hmw := whole hm.wh
 have hmlt := hm.qs.num
 generalize m.num=n at hmw hmlt
 have h1 : x*((x.den : Nat) : Rat)=((x.num : Int) : Rat) := mul_low x
 have h2 : ((x.num : Int) : Rat)*((P : Int) : Rat)=((n : Int) : Rat)*(((x.den : Nat) : Int) : Rat) := by
  rw [← h1,← hw,← hmw,← e,Rat.intCast_natCast]
  grind
 have h3 : x.num*P=n*(x.den : Int) := by exact_mod_cast h2
 have h4 : x.num.natAbs*P.natAbs=n.natAbs*x.den := by
  have := congrArg Int.natAbs h3
  rwa [Int.natAbs_mul,Int.natAbs_mul,Int.natAbs_natCast] at this
 have h5 : x.num.natAbs≤n.natAbs := by
  refine Nat.le_of_mul_le_mul_right (c := P.natAbs) ?_ hpos
  rw [h4]
  exact Nat.mul_le_mul_left _ hdle
 exact ⟨Nat.lt_of_lt_of_le (Nat.lt_of_le_of_lt h5 hmlt) (Nat.pow_le_pow_right (by decide) hz),Nat.lt_of_lt_of_le (Nat.lt_of_le_of_lt hdle hPlt) (Nat.pow_le_pow_right (by decide) hy)⟩
section
variable {N : List Nd} {Z : List Nat} {E : List (Nat × List Atm)} {q : Nat→Rat}
theorem sizes_okA {σ : Nat→ByteArray} (hσ : ∀ j,(σ j).size≤1048576) (hw : wfB 0 N=true) (hz : saB E 0 N E Z=true) (hq : ∀ (a : Nat) nd,N[a]? = some nd→q a=valN σ q nd) (h0 : ∀ a,N.length≤a→q a=0) : (∀ (a : Nat) z,Z[a]? = some z→QS z (q a))∧∀ a,QS 1000000000000 (q a) := by
 have hl := saB_len hz
 have key : ∀ k,k≤N.length→∃ M,BelA E (fun j => (Cx.rd (σ j).data.toList).den) M q k := by
  intro k
  induction k with
  | zero => exact fun _ => ⟨fun _ => 0,fun a ha => by omega⟩
  | succ k ih =>
   intro hk
   obtain ⟨M,hM⟩ := ih (by omega)
   have hn : N[k]? = some N[k] := List.getElem?_eq_getElem (by omega)
   obtain ⟨p,z,h1,_,h3,_⟩ := saB_get hz hn
   rw [Nat.zero_add] at h3
   have hwf := wfB_get hw hn
   rw [Nat.zero_add] at hwf
   obtain ⟨g1,g2,g3⟩ := node_ok hσ (fun _ => rfl) hM hwf h3
   rw [← hq k _ hn] at g1
   refine ⟨fun x => if x=k then q k*proA (fun j => (Cx.rd (σ j).data.toList).den) M p.2 else M x,fun a ha => ?_⟩
   have same : ∀ {l : List Atm},(∀ x ∈ l,x.1=1→x.2 < k)→proA (fun j => (Cx.rd (σ j).data.toList).den) (fun x => if x=k then q k*proA (fun j => (Cx.rd (σ j).data.toList).den) M p.2 else M x) l=proA (fun j => (Cx.rd (σ j).data.toList).den) M l := fun hl => (proA_congr fun x hx h => by
    have := hl x hx h
    rw [if_neg (by omega)]).symm
   by_cases e : a=k
   ·subst e
    refine ⟨p,h1,?_,g2,g3,?_⟩
    ·show QW p.1 (if a=a then _ else _)
     rw [if_pos rfl]
     exact g1
    ·rw [same g3]
     show _=(if a=a then _ else _)
     rw [if_pos rfl]
   ·obtain ⟨p',f1,f2,f3,f4,f5⟩ := hM a (by omega)
    refine ⟨p',f1,?_,f3,f4,?_⟩
    ·show QW p'.1 (if a=k then _ else M a)
     rw [if_neg e]
     exact f2
    ·rw [same fun x hx h => by have := f4 x hx h; omega]
     show _=(if a=k then _ else M a)
     rw [if_neg e]
     exact f5
 obtain ⟨M,hM⟩ := key N.length (Nat.le_refl _)
 have hdn : ∀ j,0 < (Cx.rd (σ j).data.toList).den∧(Cx.rd (σ j).data.toList).den < 2 ^ inB := fun j => by
  refine ⟨Rat.den_pos _,Nat.lt_of_lt_of_le (QS.rd3 _).den (Nat.pow_le_pow_right (by decide) ?_)⟩
  have := hσ j
  rw [str_len]
  unfold inB
  omega
 have h2 : ∀ (a : Nat) z,Z[a]? = some z→QS z (q a)∧z≤1000000000000 := by
  intro a z ha
  have hlt : a < N.length := by
   have := (List.getElem?_eq_some_iff.1 ha).1
   omega
  have hn : N[a]? = some N[a] := List.getElem?_eq_getElem hlt
  obtain ⟨p,z',h1,h2,_,h4,h5,h6⟩ := saB_get hz hn
  rw [ha] at h2
  cases h2
  obtain ⟨p',f1,f2,f3,f4,f5⟩ := hM a hlt
  rw [h1] at f1
  cases f1
  have hp := proA_ok hdn hM (l := p.2) fun x hx h => Nat.lt_trans (f4 x hx h) hlt
  exact ⟨QS_over f2 hp.1 hp.2 f5 h4 h5,h6⟩
 refine ⟨fun a z h => (h2 a z h).1,fun a => ?_⟩
 by_cases ha : a < Z.length
 ·have := h2 a _ (List.getElem?_eq_getElem ha)
  exact this.1.mono this.2
 ·rw [h0 a (by omega)]
  exact QS.zero.mono (by decide)
theorem hy_ofA {L C : List (List Nat × Nat)} {σ : Nat→ByteArray} {H : List (Nat × Nat × Nat × Nat)} (hσ : ∀ j,(σ j).size≤1048576) (hw : wfB 0 N=true) (hz : saB E 0 N E Z=true) (hl : litB N L=true) (hcn : canB N C=true) (hq : ∀ (a : Nat) nd,N[a]? = some nd→q a=valN σ q nd) (h0 : ∀ a,N.length≤a→q a=0) (hH : hAll q H) : Hy N H L C Z q σ where
 nat := hq
 qs := (sizes_okA hσ hw hz hq h0).2
 zs := (sizes_okA hσ hw hz hq h0).1
 par := hσ
 lit := fun s b h => lit_rd hl hq h
 k0 := fun a r h => kn_at hH h
 k1 := fun a r h => kn_at hH h
 k2 := fun a r h => kn_at hH h
 k3 := fun a b r h => kn_at hH h
 k4 := fun l a b r h1 h2 => by
  have h3 : Nat.beq 1 r=true ↔ q a=q b := kn_at hH h2
  rw [h3,← can_tx hcn hq h1]
  exact ⟨fun e => by rw [e],fun e => tellS_inj (bytesN_inj e)⟩
 k6 := fun a b r h => kn_at hH h
 k5 := fun a r h => kn_at hH h
end
end Go.Proofs.YtikldelfdioimaaGreatDoor
/- CFspaced -/
namespace Go.Proofs.YtikldelfdioimaaGreatDoor
open Go.RowKit Cx
theorem closed_spaced : Closed 9 :=
 closed_told (N := [(0,[0,1,1]),(0,[0,0,1]),(3,[1,0]),(3,[0,1]),(3,[1,1]),(4,[3,3]),(4,[4,4]),(3,[5,6]),(4,[4,2]),(4,[2,3]),(3,[8,9]),(4,[2,4]),(4,[3,2]),(3,[11,12]),(4,[7,0]),(2,[1,14]),(4,[10,1]),(2,[15,16]),(4,[13,1]),(2,[17,18]),(5,[19]),(8,[0,7,10,13,20]),(8,[1,7,10,13,20]),(8,[2,7,10,13,20]),(8,[3,7,10,13,20]),(2,[1,0]),(2,[1,1]),(0,[0,2,1]),(6,[25,27]),(6,[26,27]),(4,[3,28]),(2,[1,30]),(4,[4,29]),(2,[31,32]),(2,[33,32]),(5,[34]),(8,[0,3,4,4,35]),(8,[1,3,4,4,35]),(8,[2,3,4,4,35]),(8,[3,3,4,4,35]),(2,[1,32]),(2,[40,30]),(2,[41,32]),(5,[42]),(8,[0,4,3,4,43]),(8,[1,4,3,4,43]),(8,[2,4,3,4,43]),(8,[3,4,3,4,43]),(2,[40,32]),(2,[48,30]),(5,[49]),(8,[0,4,4,3,50]),(8,[1,4,4,3,50]),(8,[2,4,4,3,50]),(8,[3,4,4,3,50]),(4,[45,53]),(4,[46,52]),(3,[55,56]),(4,[46,51]),(4,[44,53]),(3,[58,59]),(4,[44,52]),(4,[45,51]),(3,[61,62]),(4,[36,57]),(2,[1,64]),(4,[37,60]),(2,[65,66]),(4,[38,63]),(2,[67,68]),(4,[52,38]),(4,[53,37]),(3,[70,71]),(4,[53,36]),(4,[51,38]),(3,[73,74]),(4,[51,37]),(4,[52,36]),(3,[76,77]),(4,[37,46]),(4,[38,45]),(3,[79,80]),(4,[38,44]),(4,[36,46]),(3,[82,83]),(4,[36,45]),(4,[37,44]),(3,[85,86]),(4,[57,39]),(2,[1,88]),(4,[72,47]),(2,[89,90]),(4,[81,54]),(2,[91,92]),(4,[60,39]),(2,[1,94]),(4,[75,47]),(2,[95,96]),(4,[84,54]),(2,[97,98]),(4,[63,39]),(2,[1,100]),(4,[78,47]),(2,[101,102]),(4,[87,54]),(2,[103,104]),(5,[69]),(6,[93,106]),(6,[99,106]),(6,[105,106]),(3,[1,107]),(3,[1,108]),(3,[1,109]),(4,[110,110]),(2,[1,113]),(4,[111,111]),(2,[114,115]),(4,[112,112]),(2,[116,117]),(0,[1,1,1]),(0,[0,1,2]),(0,[0,3,4]),(4,[4,3]),(3,[6,122]),(4,[3,4]),(3,[6,124]),(4,[3,7]),(2,[1,126]),(4,[4,123]),(2,[127,128]),(4,[4,125]),(2,[129,130]),(4,[2,2]),(2,[1,132]),(2,[133,5]),(2,[134,6])]) (H := [(0,7,0,0),(0,3,0,0),(0,4,0,1),(0,69,0,0),(4,21,0,1),(4,22,0,1),(4,23,0,1),(4,24,119,1),(4,107,120,1),(4,108,120,1),(4,109,120,1),(4,118,121,1),(4,131,0,1),(4,135,27,1)]) (K := []) (L := [([49],0),([48],1),([45,49],119),([49,47,50],120),([51,47,52],121),([50],27)]) (C := [([49],0),([45,49],119),([49,47,50],120),([51,47,52],121),([50],27)]) (Z := [2,2,5,5,5,10,10,21,10,10,21,10,10,21,23,26,23,50,23,74,74,371,371,371,371,5,5,3,8,8,13,16,13,30,44,44,221,221,221,221,16,30,44,44,221,221,221,221,30,44,44,221,221,221,221,442,442,885,442,442,885,442,442,885,1106,1109,1106,2216,1106,3323,442,442,885,442,442,885,442,442,885,442,442,885,442,442,885,442,442,885,1106,1109,1106,2216,1106,3323,1106,1109,1106,2216,1106,3323,1106,1109,1106,2216,1106,3323,3323,6646,6646,6646,6649,6649,6649,13298,13301,13298,26600,13298,39899,2,3,4,10,21,10,21,26,29,26,56,26,83,10,13,24,35]) (cl := []) 8 (fun _ h => by cases h) (by kernel_rfl) (by kernel_rfl) (by kernel_rfl) (by kernel_rfl) (by kernel_rfl) (by kernel_rfl) (by kernel_rfl)
end Go.Proofs.YtikldelfdioimaaGreatDoor
/- MEV -/
namespace Go.Proofs.YtikldelfdioimaaGreatDoor
open Go.RowKit Cx
def eV_N : List Nd := [(1,[0]),(1,[1]),(1,[2]),(1,[3]),(1,[4]),(1,[5]),(3,[3,0]),(3,[4,1]),(3,[5,2]),(1,[12]),(4,[9,6]),(2,[0,10]),(4,[9,7]),(2,[1,12]),(4,[9,8]),(2,[2,14]),(1,[6]),(1,[7]),(1,[8]),(3,[16,0]),(3,[17,1]),(3,[18,2]),(1,[13]),(4,[22,19]),(2,[0,23]),(4,[22,20]),(2,[1,25]),(4,[22,21]),(2,[2,27]),(1,[9]),(1,[10]),(1,[11]),(3,[29,0]),(3,[30,1]),(3,[31,2]),(1,[14]),(4,[35,32]),(2,[0,36]),(4,[35,33]),(2,[1,38]),(4,[35,34]),(2,[2,40]),(3,[16,3]),(3,[17,4]),(3,[18,5]),(3,[29,3]),(3,[30,4]),(3,[31,5]),(4,[43,47]),(4,[44,46]),(3,[48,49]),(4,[44,45]),(4,[42,47]),(3,[51,52]),(4,[42,46]),(4,[43,45]),(3,[54,55]),(4,[50,50]),(4,[53,53]),(2,[57,58]),(4,[56,56]),(2,[59,60]),(4,[50,3]),(0,[0,0,1]),(2,[63,62]),(4,[53,4]),(2,[64,65]),(4,[56,5]),(2,[66,67]),(5,[68]),(8,[0,50,53,56,69]),(8,[1,50,53,56,69]),(8,[2,50,53,56,69]),(8,[3,50,53,56,69]),(3,[24,11]),(3,[26,13]),(3,[28,15]),(3,[37,11]),(3,[39,13]),(3,[41,15]),(4,[75,79]),(4,[76,78]),(3,[80,81]),(4,[76,77]),(4,[74,79]),(3,[83,84]),(4,[74,78]),(4,[75,77]),(3,[86,87]),(4,[82,82]),(4,[85,85]),(2,[89,90]),(4,[88,88]),(2,[91,92]),(4,[82,11]),(2,[63,94]),(4,[85,13]),(2,[95,96]),(4,[88,15]),(2,[97,98]),(5,[99]),(8,[0,82,85,88,100]),(8,[1,82,85,88,100]),(8,[2,82,85,88,100]),(8,[3,82,85,88,100]),(3,[70,101]),(3,[71,102]),(3,[72,103]),(3,[73,104]),(4,[105,105]),(4,[106,106]),(2,[109,110]),(4,[107,107]),(2,[111,112]),(4,[108,108]),(2,[113,114]),(4,[101,101]),(4,[102,102]),(2,[116,117]),(4,[103,103]),(2,[118,119]),(8,[0,101,102,103,104]),(8,[1,101,102,103,104]),(8,[2,101,102,103,104]),(8,[3,101,102,103,104]),(4,[42,42]),(4,[43,43]),(2,[125,126]),(4,[44,44]),(2,[127,128]),(4,[121,3]),(2,[63,130]),(4,[122,4]),(2,[131,132]),(4,[123,5]),(2,[133,134]),(2,[135,124]),(4,[121,42]),(2,[63,137]),(4,[122,43]),(2,[138,139]),(4,[123,44]),(2,[140,141]),(6,[136,142]),(4,[42,143]),(4,[43,143]),(4,[44,143]),(3,[3,144]),(3,[4,145]),(3,[5,146]),(4,[121,147]),(2,[63,150]),(4,[122,148]),(2,[151,152]),(4,[123,149]),(2,[153,154]),(2,[155,124]),(4,[7,21]),(4,[8,20]),(3,[157,158]),(4,[8,19]),(4,[6,21]),(3,[160,161]),(4,[6,20]),(4,[7,19]),(3,[163,164]),(4,[159,159]),(4,[162,162]),(2,[166,167]),(4,[165,165]),(2,[168,169]),(3,[147,11]),(3,[148,13]),(3,[149,15]),(4,[172,76]),(4,[173,75]),(3,[174,175]),(4,[173,74]),(4,[171,76]),(3,[177,178]),(4,[171,75]),(4,[172,74]),(3,[180,181]),(4,[176,176]),(4,[179,179]),(2,[183,184]),(4,[182,182]),(2,[185,186]),(3,[29,16]),(3,[30,17]),(3,[31,18]),(4,[188,188]),(4,[189,189]),(2,[191,192]),(4,[190,190]),(2,[193,194]),(4,[121,16]),(2,[63,196]),(4,[122,17]),(2,[197,198]),(4,[123,18]),(2,[199,200]),(2,[201,124]),(4,[121,188]),(2,[63,203]),(4,[122,189]),(2,[204,205]),(4,[123,190]),(2,[206,207]),(6,[202,208]),(4,[188,209]),(4,[189,209]),(4,[190,209]),(3,[16,210]),(3,[17,211]),(3,[18,212]),(4,[121,213]),(2,[63,216]),(4,[122,214]),(2,[217,218]),(4,[123,215]),(2,[219,220]),(2,[221,124]),(4,[20,34]),(4,[21,33]),(3,[223,224]),(4,[21,32]),(4,[19,34]),(3,[226,227]),(4,[19,33]),(4,[20,32]),(3,[229,230]),(4,[225,225]),(4,[228,228]),(2,[232,233]),(4,[231,231]),(2,[234,235]),(3,[213,24]),(3,[214,26]),(3,[215,28]),(3,[37,24]),(3,[39,26]),(3,[41,28]),(4,[238,242]),(4,[239,241]),(3,[243,244]),(4,[239,240]),(4,[237,242]),(3,[246,247]),(4,[237,241]),(4,[238,240]),(3,[249,250]),(4,[245,245]),(4,[248,248]),(2,[252,253]),(4,[251,251]),(2,[254,255]),(3,[3,29]),(3,[4,30]),(3,[5,31]),(4,[257,257]),(4,[258,258]),(2,[260,261]),(4,[259,259]),(2,[262,263]),(4,[121,29]),(2,[63,265]),(4,[122,30]),(2,[266,267]),(4,[123,31]),(2,[268,269]),(2,[270,124]),(4,[121,257]),(2,[63,272]),(4,[122,258]),(2,[273,274]),(4,[123,259]),(2,[275,276]),(6,[271,277]),(4,[257,278]),(4,[258,278]),(4,[259,278]),(3,[29,279]),(3,[30,280]),(3,[31,281]),(4,[121,282]),(2,[63,285]),(4,[122,283]),(2,[286,287]),(4,[123,284]),(2,[288,289]),(2,[290,124]),(4,[33,8]),(4,[34,7]),(3,[292,293]),(4,[34,6]),(4,[32,8]),(3,[295,296]),(4,[32,7]),(4,[33,6]),(3,[298,299]),(4,[294,294]),(4,[297,297]),(2,[301,302]),(4,[300,300]),(2,[303,304]),(3,[282,37]),(3,[283,39]),(3,[284,41]),(3,[11,37]),(3,[13,39]),(3,[15,41]),(4,[307,311]),(4,[308,310]),(3,[312,313]),(4,[308,309]),(4,[306,311]),(3,[315,316]),(4,[306,310]),(4,[307,309]),(3,[318,319]),(4,[314,314]),(4,[317,317]),(2,[321,322]),(4,[320,320]),(2,[323,324])]
def eV_L : List (List Nat × Nat) := []
def eV_C : List (List Nat × Nat) := []
def eV_Z : List Nat := [3495260,3495260,3495260,3495260,3495260,3495260,6990520,6990520,6990520,3495260,10485779,10485781,10485779,10485781,10485779,10485781,3495260,3495260,3495260,6990520,6990520,6990520,3495260,10485779,10485781,10485779,10485781,10485779,10485781,3495260,3495260,3495260,6990520,6990520,6990520,3495260,10485779,10485781,10485779,10485781,10485779,10485781,6990520,6990520,6990520,6990520,6990520,6990520,13981040,13981040,20971560,13981040,13981040,20971560,13981040,13981040,20971560,41943120,41943120,62914676,41943120,62914678,24466819,1,24466821,24466819,31457341,24466819,31457343,31457343,31457338,31457338,31457338,31457344,17476301,17476301,17476301,17476301,17476301,17476301,34952602,34952602,41943122,34952602,34952602,41943122,34952602,34952602,41943122,83886244,83886244,111848318,83886244,111848320,52428903,52428905,52428903,59419425,52428903,59419427,59419427,59419418,59419418,59419418,59419428,59419420,59419420,59419420,59419430,118838840,118838840,118838842,118838840,118838844,118838860,118838862,118838836,118838836,118838838,118838836,118838840,59419419,59419419,59419419,59419429,13981040,13981040,27962078,13981040,41943116,62914678,62914680,62914678,66409941,62914678,69905202,69905208,66409939,66409941,66409939,73400461,66409939,80390981,80390986,87381506,87381506,87381506,87381508,87381508,87381508,146800927,146800929,146800927,153791449,146800927,160781969,160781971,13981040,13981040,20971560,13981040,13981040,20971560,13981040,13981040,20971560,41943120,41943120,62914676,41943120,62914678,94372028,94372028,94372028,111848329,111848329,111848331,111848329,111848329,111848331,111848329,111848329,111848331,223696662,223696662,244668218,223696662,244668220,6990520,6990520,6990520,13981040,13981040,27962078,13981040,41943116,62914678,62914680,62914678,66409941,62914678,69905202,69905208,66409939,66409941,66409939,73400461,66409939,80390981,80390986,87381506,87381506,87381506,87381508,87381508,87381508,146800927,146800929,146800927,153791449,146800927,160781969,160781971,13981040,13981040,20971560,13981040,13981040,20971560,13981040,13981040,20971560,41943120,41943120,62914676,41943120,62914678,94372028,94372028,94372028,17476301,17476301,17476301,111848329,111848329,111848331,111848329,111848329,111848331,111848329,111848329,111848331,223696662,223696662,244668218,223696662,244668220,6990520,6990520,6990520,13981040,13981040,27962078,13981040,41943116,62914678,62914680,62914678,66409941,62914678,69905202,69905208,66409939,66409941,66409939,73400461,66409939,80390981,80390986,87381506,87381506,87381506,87381508,87381508,87381508,146800927,146800929,146800927,153791449,146800927,160781969,160781971,13981040,13981040,20971560,13981040,13981040,20971560,13981040,13981040,20971560,41943120,41943120,62914676,41943120,62914678,94372028,94372028,94372028,17476301,17476301,17476301,111848329,111848329,111848331,111848329,111848329,111848331,111848329,111848329,111848331,223696662,223696662,244668218,223696662,244668220]
def eV_D0 : List Atm := [(0,0),(0,3),(0,12)]
def eV_D1 : List Atm := [(0,1),(0,4),(0,12)]
def eV_D2 : List Atm := [(0,2),(0,5),(0,12)]
def eV_D3 : List Atm := [(0,0),(0,6),(0,13)]
def eV_D4 : List Atm := [(0,1),(0,7),(0,13)]
def eV_D5 : List Atm := [(0,2),(0,8),(0,13)]
def eV_D6 : List Atm := [(0,0),(0,9),(0,14)]
def eV_D7 : List Atm := [(0,1),(0,10),(0,14)]
def eV_D8 : List Atm := [(0,2),(0,11),(0,14)]
def eV_D9 : List Atm := [(0,3),(0,6)]
def eV_D10 : List Atm := [(0,4),(0,7)]
def eV_D11 : List Atm := [(0,5),(0,8)]
def eV_D12 : List Atm := [(0,3),(0,9)]
def eV_D13 : List Atm := [(0,4),(0,10)]
def eV_D14 : List Atm := [(0,5),(0,11)]
def eV_D15 : List Atm := [(0,3),(0,3),(0,4),(0,4),(0,5),(0,5),(0,6),(0,6),(0,7),(0,7),(0,8),(0,8),(0,9),(0,9),(0,10),(0,10),(0,11),(0,11)]
def eV_D16 : List Atm := [(0,3),(0,4),(0,5),(0,7),(0,8),(0,10),(0,11)]
def eV_D17 : List Atm := [(0,3),(0,4),(0,5),(0,6),(0,7),(0,8),(0,9),(0,10),(0,11)]
def eV_D18 : List Atm := [(0,0),(0,3),(0,9),(0,12),(0,14)]
def eV_D19 : List Atm := [(0,1),(0,4),(0,10),(0,12),(0,14)]
def eV_D20 : List Atm := [(0,2),(0,5),(0,11),(0,12),(0,14)]
def eV_D21 : List Atm := [(0,0),(0,0),(0,1),(0,1),(0,2),(0,2),(0,3),(0,3),(0,4),(0,4),(0,5),(0,5),(0,6),(0,6),(0,7),(0,7),(0,8),(0,8),(0,9),(0,9),(0,10),(0,10),(0,11),(0,11),(0,12),(0,12),(0,12),(0,12),(0,13),(0,13),(0,14),(0,14)]
def eV_D22 : List Atm := [(0,0),(0,1),(0,2),(0,3),(0,4),(0,5),(0,7),(0,8),(0,10),(0,11),(0,12),(0,12),(0,12),(0,13),(0,14)]
def eV_D23 : List Atm := [(0,0),(0,1),(0,2),(0,3),(0,4),(0,5),(0,6),(0,7),(0,8),(0,9),(0,10),(0,11),(0,12),(0,12),(0,12),(0,13),(0,14)]
def eV_D24 : List Atm := [(0,3),(0,4),(0,5)]
def eV_D25 : List Atm := [(0,3),(0,6),(1,142)]
def eV_D26 : List Atm := [(0,4),(0,7),(1,142)]
def eV_D27 : List Atm := [(0,5),(0,8),(1,142)]
def eV_D28 : List Atm := [(0,3),(0,4),(0,5),(0,6),(0,7),(0,8),(1,142)]
def eV_D29 : List Atm := [(0,0),(0,0),(0,1),(0,1),(0,2),(0,2),(0,3),(0,3),(0,4),(0,4),(0,5),(0,5),(0,6),(0,6),(0,7),(0,7),(0,8),(0,8)]
def eV_D30 : List Atm := [(0,1),(0,2),(0,4),(0,5),(0,7),(0,8),(0,12),(0,12),(0,13),(1,142)]
def eV_D31 : List Atm := [(0,0),(0,2),(0,3),(0,5),(0,6),(0,8),(0,12),(0,12),(0,13),(1,142)]
def eV_D32 : List Atm := [(0,0),(0,1),(0,3),(0,4),(0,6),(0,7),(0,12),(0,12),(0,13),(1,142)]
def eV_D33 : List Atm := [(0,0),(0,0),(0,1),(0,1),(0,2),(0,2),(0,3),(0,3),(0,4),(0,4),(0,5),(0,5),(0,6),(0,6),(0,7),(0,7),(0,8),(0,8),(0,12),(0,12),(0,12),(0,12),(0,13),(0,13),(1,142),(1,142)]
def eV_D34 : List Atm := [(0,6),(0,9)]
def eV_D35 : List Atm := [(0,7),(0,10)]
def eV_D36 : List Atm := [(0,8),(0,11)]
def eV_D37 : List Atm := [(0,6),(0,7),(0,8)]
def eV_D38 : List Atm := [(0,6),(0,9),(1,208)]
def eV_D39 : List Atm := [(0,7),(0,10),(1,208)]
def eV_D40 : List Atm := [(0,8),(0,11),(1,208)]
def eV_D41 : List Atm := [(0,6),(0,7),(0,8),(0,9),(0,10),(0,11),(1,208)]
def eV_D42 : List Atm := [(0,0),(0,0),(0,1),(0,1),(0,2),(0,2),(0,6),(0,6),(0,7),(0,7),(0,8),(0,8),(0,9),(0,9),(0,10),(0,10),(0,11),(0,11)]
def eV_D43 : List Atm := [(0,1),(0,2),(0,7),(0,8),(0,10),(0,11),(0,13),(0,13),(0,14),(1,208)]
def eV_D44 : List Atm := [(0,0),(0,2),(0,6),(0,8),(0,9),(0,11),(0,13),(0,13),(0,14),(1,208)]
def eV_D45 : List Atm := [(0,0),(0,1),(0,6),(0,7),(0,9),(0,10),(0,13),(0,13),(0,14),(1,208)]
def eV_D46 : List Atm := [(0,0),(0,0),(0,1),(0,1),(0,2),(0,2),(0,6),(0,6),(0,7),(0,7),(0,8),(0,8),(0,9),(0,9),(0,10),(0,10),(0,11),(0,11),(0,13),(0,13),(0,13),(0,13),(0,14),(0,14),(1,208),(1,208)]
def eV_D47 : List Atm := [(0,9),(0,10),(0,11)]
def eV_D48 : List Atm := [(0,3),(0,9),(1,277)]
def eV_D49 : List Atm := [(0,4),(0,10),(1,277)]
def eV_D50 : List Atm := [(0,5),(0,11),(1,277)]
def eV_D51 : List Atm := [(0,3),(0,4),(0,5),(0,9),(0,10),(0,11),(1,277)]
def eV_D52 : List Atm := [(0,0),(0,0),(0,1),(0,1),(0,2),(0,2),(0,3),(0,3),(0,4),(0,4),(0,5),(0,5),(0,9),(0,9),(0,10),(0,10),(0,11),(0,11)]
def eV_D53 : List Atm := [(0,1),(0,2),(0,4),(0,5),(0,10),(0,11),(0,12),(0,14),(0,14),(1,277)]
def eV_D54 : List Atm := [(0,0),(0,2),(0,3),(0,5),(0,9),(0,11),(0,12),(0,14),(0,14),(1,277)]
def eV_D55 : List Atm := [(0,0),(0,1),(0,3),(0,4),(0,9),(0,10),(0,12),(0,14),(0,14),(1,277)]
def eV_D56 : List Atm := [(0,0),(0,0),(0,1),(0,1),(0,2),(0,2),(0,3),(0,3),(0,4),(0,4),(0,5),(0,5),(0,9),(0,9),(0,10),(0,10),(0,11),(0,11),(0,12),(0,12),(0,14),(0,14),(0,14),(0,14),(1,277),(1,277)]
def eV_E : List (Nat × List Atm) := [(3495259,[(0,0)]),(3495259,[(0,1)]),(3495259,[(0,2)]),(3495259,[(0,3)]),(3495259,[(0,4)]),(3495259,[(0,5)]),(6990520,[(0,0),(0,3)]),(6990520,[(0,1),(0,4)]),(6990520,[(0,2),(0,5)]),(3495259,[(0,12)]),(10485779,eV_D0),(10485781,eV_D0),(10485779,eV_D1),(10485781,eV_D1),(10485779,eV_D2),(10485781,eV_D2),(3495259,[(0,6)]),(3495259,[(0,7)]),(3495259,[(0,8)]),(6990520,[(0,0),(0,6)]),(6990520,[(0,1),(0,7)]),(6990520,[(0,2),(0,8)]),(3495259,[(0,13)]),(10485779,eV_D3),(10485781,eV_D3),(10485779,eV_D4),(10485781,eV_D4),(10485779,eV_D5),(10485781,eV_D5),(3495259,[(0,9)]),(3495259,[(0,10)]),(3495259,[(0,11)]),(6990520,[(0,0),(0,9)]),(6990520,[(0,1),(0,10)]),(6990520,[(0,2),(0,11)]),(3495259,[(0,14)]),(10485779,eV_D6),(10485781,eV_D6),(10485779,eV_D7),(10485781,eV_D7),(10485779,eV_D8),(10485781,eV_D8),(6990520,eV_D9),(6990520,eV_D10),(6990520,eV_D11),(6990520,eV_D12),(6990520,eV_D13),(6990520,eV_D14),(13981040,[(0,4),(0,5),(0,7),(0,11)]),(13981040,[(0,4),(0,5),(0,8),(0,10)]),(20971560,[(0,4),(0,5),(0,7),(0,8),(0,10),(0,11)]),(13981040,[(0,3),(0,5),(0,8),(0,9)]),(13981040,[(0,3),(0,5),(0,6),(0,11)]),(20971560,[(0,3),(0,5),(0,6),(0,8),(0,9),(0,11)]),(13981040,[(0,3),(0,4),(0,6),(0,10)]),(13981040,[(0,3),(0,4),(0,7),(0,9)]),(20971560,[(0,3),(0,4),(0,6),(0,7),(0,9),(0,10)]),(41943120,[(0,4),(0,4),(0,5),(0,5),(0,7),(0,7),(0,8),(0,8),(0,10),(0,10),(0,11),(0,11)]),(41943120,[(0,3),(0,3),(0,5),(0,5),(0,6),(0,6),(0,8),(0,8),(0,9),(0,9),(0,11),(0,11)]),(62914676,eV_D15),(41943120,[(0,3),(0,3),(0,4),(0,4),(0,6),(0,6),(0,7),(0,7),(0,9),(0,9),(0,10),(0,10)]),(62914678,eV_D15),(24466819,eV_D16),(1,[]),(24466821,eV_D16),(24466819,[(0,3),(0,4),(0,5),(0,6),(0,8),(0,9),(0,11)]),(31457341,eV_D17),(24466819,[(0,3),(0,4),(0,5),(0,6),(0,7),(0,9),(0,10)]),(31457343,eV_D17),(31457343,eV_D17),(31457338,[]),(31457338,[]),(31457338,[]),(31457344,[]),(17476301,[(0,0),(0,3),(0,6),(0,12),(0,13)]),(17476301,[(0,1),(0,4),(0,7),(0,12),(0,13)]),(17476301,[(0,2),(0,5),(0,8),(0,12),(0,13)]),(17476301,eV_D18),(17476301,eV_D19),(17476301,eV_D20),(34952602,[(0,1),(0,2),(0,4),(0,5),(0,7),(0,11),(0,12),(0,12),(0,13),(0,14)]),(34952602,[(0,1),(0,2),(0,4),(0,5),(0,8),(0,10),(0,12),(0,12),(0,13),(0,14)]),(41943122,[(0,1),(0,2),(0,4),(0,5),(0,7),(0,8),(0,10),(0,11),(0,12),(0,12),(0,13),(0,14)]),(34952602,[(0,0),(0,2),(0,3),(0,5),(0,8),(0,9),(0,12),(0,12),(0,13),(0,14)]),(34952602,[(0,0),(0,2),(0,3),(0,5),(0,6),(0,11),(0,12),(0,12),(0,13),(0,14)]),(41943122,[(0,0),(0,2),(0,3),(0,5),(0,6),(0,8),(0,9),(0,11),(0,12),(0,12),(0,13),(0,14)]),(34952602,[(0,0),(0,1),(0,3),(0,4),(0,6),(0,10),(0,12),(0,12),(0,13),(0,14)]),(34952602,[(0,0),(0,1),(0,3),(0,4),(0,7),(0,9),(0,12),(0,12),(0,13),(0,14)]),(41943122,[(0,0),(0,1),(0,3),(0,4),(0,6),(0,7),(0,9),(0,10),(0,12),(0,12),(0,13),(0,14)]),(83886244,[(0,1),(0,1),(0,2),(0,2),(0,4),(0,4),(0,5),(0,5),(0,7),(0,7),(0,8),(0,8),(0,10),(0,10),(0,11),(0,11),(0,12),(0,12),(0,12),(0,12),(0,13),(0,13),(0,14),(0,14)]),(83886244,[(0,0),(0,0),(0,2),(0,2),(0,3),(0,3),(0,5),(0,5),(0,6),(0,6),(0,8),(0,8),(0,9),(0,9),(0,11),(0,11),(0,12),(0,12),(0,12),(0,12),(0,13),(0,13),(0,14),(0,14)]),(111848318,eV_D21),(83886244,[(0,0),(0,0),(0,1),(0,1),(0,3),(0,3),(0,4),(0,4),(0,6),(0,6),(0,7),(0,7),(0,9),(0,9),(0,10),(0,10),(0,12),(0,12),(0,12),(0,12),(0,13),(0,13),(0,14),(0,14)]),(111848320,eV_D21),(52428903,eV_D22),(52428905,eV_D22),(52428903,[(0,0),(0,1),(0,2),(0,3),(0,4),(0,5),(0,6),(0,8),(0,9),(0,11),(0,12),(0,12),(0,12),(0,13),(0,14)]),(59419425,eV_D23),(52428903,[(0,0),(0,1),(0,2),(0,3),(0,4),(0,5),(0,6),(0,7),(0,9),(0,10),(0,12),(0,12),(0,12),(0,13),(0,14)]),(59419427,eV_D23),(59419427,eV_D23),(59419418,[]),(59419418,[]),(59419418,[]),(59419428,[]),(59419420,[]),(59419420,[]),(59419420,[]),(59419430,[]),(118838840,[]),(118838840,[]),(118838842,[]),(118838840,[]),(118838844,[]),(118838860,[]),(118838862,[]),(118838836,[]),(118838836,[]),(118838838,[]),(118838836,[]),(118838840,[]),(59419419,[]),(59419419,[]),(59419419,[]),(59419429,[]),(13981040,[(0,3),(0,3),(0,6),(0,6)]),(13981040,[(0,4),(0,4),(0,7),(0,7)]),(27962078,[(0,3),(0,3),(0,4),(0,4),(0,6),(0,6),(0,7),(0,7)]),(13981040,[(0,5),(0,5),(0,8),(0,8)]),(41943116,[(0,3),(0,3),(0,4),(0,4),(0,5),(0,5),(0,6),(0,6),(0,7),(0,7),(0,8),(0,8)]),(62914678,[(0,3)]),(62914680,[(0,3)]),(62914678,[(0,4)]),(66409941,[(0,3),(0,4)]),(62914678,[(0,5)]),(69905202,eV_D24),(69905208,eV_D24),(66409939,eV_D9),(66409941,eV_D9),(66409939,eV_D10),(73400461,[(0,3),(0,4),(0,6),(0,7)]),(66409939,eV_D11),(80390981,[(0,3),(0,4),(0,5),(0,6),(0,7),(0,8)]),(80390986,[(1,142)]),(87381506,eV_D25),(87381506,eV_D26),(87381506,eV_D27),(87381508,eV_D25),(87381508,eV_D26),(87381508,eV_D27),(146800927,eV_D25),(146800929,eV_D25),(146800927,eV_D26),(153791449,[(0,3),(0,4),(0,6),(0,7),(1,142)]),(146800927,eV_D27),(160781969,eV_D28),(160781971,eV_D28),(13981040,[(0,1),(0,2),(0,4),(0,8)]),(13981040,[(0,1),(0,2),(0,5),(0,7)]),(20971560,[(0,1),(0,2),(0,4),(0,5),(0,7),(0,8)]),(13981040,[(0,0),(0,2),(0,5),(0,6)]),(13981040,[(0,0),(0,2),(0,3),(0,8)]),(20971560,[(0,0),(0,2),(0,3),(0,5),(0,6),(0,8)]),(13981040,[(0,0),(0,1),(0,3),(0,7)]),(13981040,[(0,0),(0,1),(0,4),(0,6)]),(20971560,[(0,0),(0,1),(0,3),(0,4),(0,6),(0,7)]),(41943120,[(0,1),(0,1),(0,2),(0,2),(0,4),(0,4),(0,5),(0,5),(0,7),(0,7),(0,8),(0,8)]),(41943120,[(0,0),(0,0),(0,2),(0,2),(0,3),(0,3),(0,5),(0,5),(0,6),(0,6),(0,8),(0,8)]),(62914676,eV_D29),(41943120,[(0,0),(0,0),(0,1),(0,1),(0,3),(0,3),(0,4),(0,4),(0,6),(0,6),(0,7),(0,7)]),(62914678,eV_D29),(94372028,[(0,0),(0,3),(0,6),(0,12),(1,142)]),(94372028,[(0,1),(0,4),(0,7),(0,12),(1,142)]),(94372028,[(0,2),(0,5),(0,8),(0,12),(1,142)]),(111848329,eV_D30),(111848329,eV_D30),(111848331,eV_D30),(111848329,eV_D31),(111848329,eV_D31),(111848331,eV_D31),(111848329,eV_D32),(111848329,eV_D32),(111848331,eV_D32),(223696662,[(0,1),(0,1),(0,2),(0,2),(0,4),(0,4),(0,5),(0,5),(0,7),(0,7),(0,8),(0,8),(0,12),(0,12),(0,12),(0,12),(0,13),(0,13),(1,142),(1,142)]),(223696662,[(0,0),(0,0),(0,2),(0,2),(0,3),(0,3),(0,5),(0,5),(0,6),(0,6),(0,8),(0,8),(0,12),(0,12),(0,12),(0,12),(0,13),(0,13),(1,142),(1,142)]),(244668218,eV_D33),(223696662,[(0,0),(0,0),(0,1),(0,1),(0,3),(0,3),(0,4),(0,4),(0,6),(0,6),(0,7),(0,7),(0,12),(0,12),(0,12),(0,12),(0,13),(0,13),(1,142),(1,142)]),(244668220,eV_D33),(6990520,eV_D34),(6990520,eV_D35),(6990520,eV_D36),(13981040,[(0,6),(0,6),(0,9),(0,9)]),(13981040,[(0,7),(0,7),(0,10),(0,10)]),(27962078,[(0,6),(0,6),(0,7),(0,7),(0,9),(0,9),(0,10),(0,10)]),(13981040,[(0,8),(0,8),(0,11),(0,11)]),(41943116,[(0,6),(0,6),(0,7),(0,7),(0,8),(0,8),(0,9),(0,9),(0,10),(0,10),(0,11),(0,11)]),(62914678,[(0,6)]),(62914680,[(0,6)]),(62914678,[(0,7)]),(66409941,[(0,6),(0,7)]),(62914678,[(0,8)]),(69905202,eV_D37),(69905208,eV_D37),(66409939,eV_D34),(66409941,eV_D34),(66409939,eV_D35),(73400461,[(0,6),(0,7),(0,9),(0,10)]),(66409939,eV_D36),(80390981,[(0,6),(0,7),(0,8),(0,9),(0,10),(0,11)]),(80390986,[(1,208)]),(87381506,eV_D38),(87381506,eV_D39),(87381506,eV_D40),(87381508,eV_D38),(87381508,eV_D39),(87381508,eV_D40),(146800927,eV_D38),(146800929,eV_D38),(146800927,eV_D39),(153791449,[(0,6),(0,7),(0,9),(0,10),(1,208)]),(146800927,eV_D40),(160781969,eV_D41),(160781971,eV_D41),(13981040,[(0,1),(0,2),(0,7),(0,11)]),(13981040,[(0,1),(0,2),(0,8),(0,10)]),(20971560,[(0,1),(0,2),(0,7),(0,8),(0,10),(0,11)]),(13981040,[(0,0),(0,2),(0,8),(0,9)]),(13981040,[(0,0),(0,2),(0,6),(0,11)]),(20971560,[(0,0),(0,2),(0,6),(0,8),(0,9),(0,11)]),(13981040,[(0,0),(0,1),(0,6),(0,10)]),(13981040,[(0,0),(0,1),(0,7),(0,9)]),(20971560,[(0,0),(0,1),(0,6),(0,7),(0,9),(0,10)]),(41943120,[(0,1),(0,1),(0,2),(0,2),(0,7),(0,7),(0,8),(0,8),(0,10),(0,10),(0,11),(0,11)]),(41943120,[(0,0),(0,0),(0,2),(0,2),(0,6),(0,6),(0,8),(0,8),(0,9),(0,9),(0,11),(0,11)]),(62914676,eV_D42),(41943120,[(0,0),(0,0),(0,1),(0,1),(0,6),(0,6),(0,7),(0,7),(0,9),(0,9),(0,10),(0,10)]),(62914678,eV_D42),(94372028,[(0,0),(0,6),(0,9),(0,13),(1,208)]),(94372028,[(0,1),(0,7),(0,10),(0,13),(1,208)]),(94372028,[(0,2),(0,8),(0,11),(0,13),(1,208)]),(17476301,[(0,0),(0,6),(0,9),(0,13),(0,14)]),(17476301,[(0,1),(0,7),(0,10),(0,13),(0,14)]),(17476301,[(0,2),(0,8),(0,11),(0,13),(0,14)]),(111848329,eV_D43),(111848329,eV_D43),(111848331,eV_D43),(111848329,eV_D44),(111848329,eV_D44),(111848331,eV_D44),(111848329,eV_D45),(111848329,eV_D45),(111848331,eV_D45),(223696662,[(0,1),(0,1),(0,2),(0,2),(0,7),(0,7),(0,8),(0,8),(0,10),(0,10),(0,11),(0,11),(0,13),(0,13),(0,13),(0,13),(0,14),(0,14),(1,208),(1,208)]),(223696662,[(0,0),(0,0),(0,2),(0,2),(0,6),(0,6),(0,8),(0,8),(0,9),(0,9),(0,11),(0,11),(0,13),(0,13),(0,13),(0,13),(0,14),(0,14),(1,208),(1,208)]),(244668218,eV_D46),(223696662,[(0,0),(0,0),(0,1),(0,1),(0,6),(0,6),(0,7),(0,7),(0,9),(0,9),(0,10),(0,10),(0,13),(0,13),(0,13),(0,13),(0,14),(0,14),(1,208),(1,208)]),(244668220,eV_D46),(6990520,eV_D12),(6990520,eV_D13),(6990520,eV_D14),(13981040,[(0,3),(0,3),(0,9),(0,9)]),(13981040,[(0,4),(0,4),(0,10),(0,10)]),(27962078,[(0,3),(0,3),(0,4),(0,4),(0,9),(0,9),(0,10),(0,10)]),(13981040,[(0,5),(0,5),(0,11),(0,11)]),(41943116,[(0,3),(0,3),(0,4),(0,4),(0,5),(0,5),(0,9),(0,9),(0,10),(0,10),(0,11),(0,11)]),(62914678,[(0,9)]),(62914680,[(0,9)]),(62914678,[(0,10)]),(66409941,[(0,9),(0,10)]),(62914678,[(0,11)]),(69905202,eV_D47),(69905208,eV_D47),(66409939,eV_D12),(66409941,eV_D12),(66409939,eV_D13),(73400461,[(0,3),(0,4),(0,9),(0,10)]),(66409939,eV_D14),(80390981,[(0,3),(0,4),(0,5),(0,9),(0,10),(0,11)]),(80390986,[(1,277)]),(87381506,eV_D48),(87381506,eV_D49),(87381506,eV_D50),(87381508,eV_D48),(87381508,eV_D49),(87381508,eV_D50),(146800927,eV_D48),(146800929,eV_D48),(146800927,eV_D49),(153791449,[(0,3),(0,4),(0,9),(0,10),(1,277)]),(146800927,eV_D50),(160781969,eV_D51),(160781971,eV_D51),(13981040,[(0,1),(0,2),(0,5),(0,10)]),(13981040,[(0,1),(0,2),(0,4),(0,11)]),(20971560,[(0,1),(0,2),(0,4),(0,5),(0,10),(0,11)]),(13981040,[(0,0),(0,2),(0,3),(0,11)]),(13981040,[(0,0),(0,2),(0,5),(0,9)]),(20971560,[(0,0),(0,2),(0,3),(0,5),(0,9),(0,11)]),(13981040,[(0,0),(0,1),(0,4),(0,9)]),(13981040,[(0,0),(0,1),(0,3),(0,10)]),(20971560,[(0,0),(0,1),(0,3),(0,4),(0,9),(0,10)]),(41943120,[(0,1),(0,1),(0,2),(0,2),(0,4),(0,4),(0,5),(0,5),(0,10),(0,10),(0,11),(0,11)]),(41943120,[(0,0),(0,0),(0,2),(0,2),(0,3),(0,3),(0,5),(0,5),(0,9),(0,9),(0,11),(0,11)]),(62914676,eV_D52),(41943120,[(0,0),(0,0),(0,1),(0,1),(0,3),(0,3),(0,4),(0,4),(0,9),(0,9),(0,10),(0,10)]),(62914678,eV_D52),(94372028,[(0,0),(0,3),(0,9),(0,14),(1,277)]),(94372028,[(0,1),(0,4),(0,10),(0,14),(1,277)]),(94372028,[(0,2),(0,5),(0,11),(0,14),(1,277)]),(17476301,eV_D18),(17476301,eV_D19),(17476301,eV_D20),(111848329,eV_D53),(111848329,eV_D53),(111848331,eV_D53),(111848329,eV_D54),(111848329,eV_D54),(111848331,eV_D54),(111848329,eV_D55),(111848329,eV_D55),(111848331,eV_D55),(223696662,[(0,1),(0,1),(0,2),(0,2),(0,4),(0,4),(0,5),(0,5),(0,10),(0,10),(0,11),(0,11),(0,12),(0,12),(0,14),(0,14),(0,14),(0,14),(1,277),(1,277)]),(223696662,[(0,0),(0,0),(0,2),(0,2),(0,3),(0,3),(0,5),(0,5),(0,9),(0,9),(0,11),(0,11),(0,12),(0,12),(0,14),(0,14),(0,14),(0,14),(1,277),(1,277)]),(244668218,eV_D56),(223696662,[(0,0),(0,0),(0,1),(0,1),(0,3),(0,3),(0,4),(0,4),(0,9),(0,9),(0,10),(0,10),(0,12),(0,12),(0,14),(0,14),(0,14),(0,14),(1,277),(1,277)]),(244668220,eV_D56)]
abbrev eV_Q (q : Nat→Rat) (σ : Nat→ByteArray) : Prop := ∀ (a : Nat) nd,eV_N[a]? = some nd→q a=valN σ q nd
variable {q : Nat→Rat} {σ : Nat→ByteArray}
theorem eV_wf : wfB 0 eV_N=true := by kernel_rfl
theorem eV_sz : saB eV_E 0 eV_N eV_E eV_Z=true := by kernel_rfl
theorem eV_lt : litB eV_N eV_L=true := by kernel_rfl
theorem eV_cn : canB eV_N eV_C=true := by kernel_rfl
theorem eV_c63 : cst 0 0 1=(0 : Rat) := by decide +kernel
def eV_A : List AV := [(false,[(true,[.inr (2,0,0,0,0),.inr (2,1,0,0,0),.inr (2,2,0,0,0)])]),(false,[(true,[.inr (2,3,0,0,0),.inr (2,4,0,0,0),.inr (2,5,0,0,0),.inr (2,6,0,0,0),.inr (2,7,0,0,0),.inr (2,8,0,0,0),.inr (2,9,0,0,0),.inr (2,10,0,0,0),.inr (2,11,0,0,0)])]),(false,[(true,[.inr (2,12,0,0,0),.inr (2,13,0,0,0),.inr (2,14,0,0,0)])])]
theorem sp_sq3 {x y z m1 m2 m3 s t : Rat} (h1 : m1=x*x) (h2 : m2=y*y) (hs : s=m1+m2) (h3 : m3=z*z) (ht : t=s+m3) : t=0 ↔ ((x=0∧y=0)∧z=0) := by
 have a1 := sq_facts x
 have a2 := sq_facts y
 have a3 := sq_facts z
 subst_vars
 constructor
 ·intro h
  refine ⟨⟨a1.2.1 ?_,a2.2.1 ?_⟩,a3.2.1 ?_⟩ <;> grind
 ·rintro ⟨⟨h1,h2⟩,h3⟩
  rw [h1,h2,h3]; grind
theorem sp_par {x y z a b c d e f n1 n2 n3 : Rat} (e1 : n1=b*f - c*e) (e2 : n2=c*d - a*f) (e3 : n3=a*e - b*d) (h : ¬ ((n1=0∧n2=0)∧n3=0)) (p1 : y*c - z*b=0) (p2 : z*a - x*c=0) (p3 : x*b - y*a=0) (q1 : y*f - z*e=0) (q2 : z*d - x*f=0) (q3 : x*e - y*d=0) : (x=0∧y=0)∧z=0 := by
 have k : ∀ n,n ≠ 0→x*n=0∧y*n=0∧z*n=0→(x=0∧y=0)∧z=0 := fun n hn ⟨i,j,l⟩ => ⟨⟨(Rat.mul_eq_zero.1 i).resolve_right hn,(Rat.mul_eq_zero.1 j).resolve_right hn⟩,(Rat.mul_eq_zero.1 l).resolve_right hn⟩
 by_cases h1 : n1=0
 ·by_cases h2 : n2=0
  ·exact k n3 (fun h3 => h ⟨⟨h1,h2⟩,h3⟩) (by clear h k h1 h2; subst_vars; refine ⟨?_,?_,?_⟩ <;> grind)
  ·exact k n2 h2 (by clear h k h1 h2; subst_vars; refine ⟨?_,?_,?_⟩ <;> grind)
 ·exact k n1 h1 (by clear h k h1; subst_vars; refine ⟨?_,?_,?_⟩ <;> grind)
theorem sp_apart {u1 u2 u3 v1 v2 v3 w1 w2 w3 D x y h : Rat} (hD : D ≠ 0) (eD : D=(u1*u1+u2*u2+u3*u3)*(v1*v1+v2*v2+v3*v3) - (u1*v1+u2*v2+u3*v3)*(u1*v1+u2*v2+u3*v3)) (ex : x*D=(u1*w1+u2*w2+u3*w3)*(v1*v1+v2*v2+v3*v3) - (u1*v1+u2*v2+u3*v3)*(v1*w1+v2*w2+v3*w3)) (ey : y*D=(u1*v1+u2*v2+u3*v3)*(u1*w1+u2*w2+u3*w3) - (u1*u1+u2*u2+u3*u3)*(v1*w1+v2*w2+v3*w3)) (eh : h=(u2*v3 - u3*v2)*w1+(u3*v1 - u1*v3)*w2+(u1*v2 - u2*v1)*w3) : ((x*u1 - w1 - y*v1)*(x*u1 - w1 - y*v1)+(x*u2 - w2 - y*v2)*(x*u2 - w2 - y*v2)+(x*u3 - w3 - y*v3)*(x*u3 - w3 - y*v3))*D=h*h := by
 have a1 : (x*u1 - w1 - y*v1)*D=-(h*(u2*v3 - u3*v2)) := by
  have : (x*u1 - w1 - y*v1)*D=(x*D)*u1 - w1*D - (y*D)*v1 := by grind
  rw [this,ex,ey,eh,eD]; grind
 have a2 : (x*u2 - w2 - y*v2)*D=-(h*(u3*v1 - u1*v3)) := by
  have : (x*u2 - w2 - y*v2)*D=(x*D)*u2 - w2*D - (y*D)*v2 := by grind
  rw [this,ex,ey,eh,eD]; grind
 have a3 : (x*u3 - w3 - y*v3)*D=-(h*(u1*v2 - u2*v1)) := by
  have : (x*u3 - w3 - y*v3)*D=(x*D)*u3 - w3*D - (y*D)*v3 := by grind
  rw [this,ex,ey,eh,eD]; grind
 have e : D=(u2*v3 - u3*v2)*(u2*v3 - u3*v2)+(u3*v1 - u1*v3)*(u3*v1 - u1*v3)+(u1*v2 - u2*v1)*(u1*v2 - u2*v1) := by rw [eD]; grind
 clear ex ey eh eD
 generalize x*u1 - w1 - y*v1=d1 at *
 generalize x*u2 - w2 - y*v2=d2 at *
 generalize x*u3 - w3 - y*v3=d3 at *
 generalize u2*v3 - u3*v2=n1 at *
 generalize u3*v1 - u1*v3=n2 at *
 generalize u1*v2 - u2*v1=n3 at *
 have k : ((d1*d1+d2*d2+d3*d3)*D - h*h)*D=0 := by
  have : ((d1*d1+d2*d2+d3*d3)*D - h*h)*D=(d1*D)*(d1*D)+(d2*D)*(d2*D)+(d3*D)*(d3*D) - h*h*D := by grind
  rw [this,a1,a2,a3,e]; grind
 have := (Rat.mul_eq_zero.1 k).resolve_right hD
 grind
theorem sp_apart1 {u1 u2 u3 w1 w2 w3 x : Rat} (ex : x*(u1*u1+u2*u2+u3*u3)=u1*w1+u2*w2+u3*w3) : ((x*u1 - w1)*(x*u1 - w1)+(x*u2 - w2)*(x*u2 - w2)+(x*u3 - w3)*(x*u3 - w3))*(u1*u1+u2*u2+u3*u3)=(w2*u3 - w3*u2)*(w2*u3 - w3*u2)+(w3*u1 - w1*u3)*(w3*u1 - w1*u3)+(w1*u2 - w2*u1)*(w1*u2 - w2*u1) := by
 generalize hU : u1*u1+u2*u2+u3*u3=U at *
 have : ((x*u1 - w1)*(x*u1 - w1)+(x*u2 - w2)*(x*u2 - w2)+(x*u3 - w3)*(x*u3 - w3))*U=(x*U)*(x*U) - 2*(x*U)*(u1*w1+u2*w2+u3*w3)+(w1*w1+w2*w2+w3*w3)*U := by grind
 rw [this,ex,← hU]; grind
theorem sp_cramer {a1 a2 a3 b1 b2 b3 c1 c2 c3 da db dc D k p1 p2 p3 : Rat} (eD : D=a1*(b2*c3 - b3*c2)+a2*(b3*c1 - b1*c3)+a3*(b1*c2 - b2*c1)) (hk : k*D=-1) (e1 : p1=((b2*c3 - b3*c2)*da+(c2*a3 - c3*a2)*db+(a2*b3 - a3*b2)*dc)*k) (e2 : p2=((b3*c1 - b1*c3)*da+(c3*a1 - c1*a3)*db+(a3*b1 - a1*b3)*dc)*k) (e3 : p3=((b1*c2 - b2*c1)*da+(c1*a2 - c2*a1)*db+(a1*b2 - a2*b1)*dc)*k) : a1*p1+a2*p2+a3*p3+da=0∧b1*p1+b2*p2+b3*p3+db=0∧c1*p1+c2*p2+c3*p3+dc=0 := by
 have f : ∀ t,(k*D)*t+t=0 := fun t => by rw [hk]; grind
 refine ⟨?_,?_,?_⟩
 ·have := f da; rw [eD] at this; rw [e1,e2,e3]; grind
 ·have := f db; rw [eD] at this; rw [e1,e2,e3]; grind
 ·have := f dc; rw [eD] at this; rw [e1,e2,e3]; grind
theorem sp_between {a1 a2 a3 b1 b2 b3 p1 p2 p3 d : Rat} (hd : 2*d=-((b1 - a1)*(a1+b1)+(b2 - a2)*(a2+b2)+(b3 - a3)*(a3+b3))) (h : (b1 - a1)*p1+(b2 - a2)*p2+(b3 - a3)*p3+d=0) : (p1 - a1)*(p1 - a1)+(p2 - a2)*(p2 - a2)+(p3 - a3)*(p3 - a3)=(p1 - b1)*(p1 - b1)+(p2 - b2)*(p2 - b2)+(p3 - b3)*(p3 - b3) := by grind
theorem sp_sq4 {x y z u m1 m2 m3 m4 s t v : Rat} (h1 : m1=x*x) (h2 : m2=y*y) (hs : s=m1+m2) (h3 : m3=z*z) (ht : t=s+m3) (h4 : m4=u*u) (hv : v=t+m4) (k1 : x=0) (k2 : y=0) (k3 : z=0) (k4 : u=0) : v=0 := by
 rw [hv,ht,hs,h1,h2,h3,h4,k1,k2,k3,k4]; grind
theorem sp_ln {B1 B2 B3 d o1 o2 o3 a1 a2 a3 b1 b2 b3 k l : Rat} (hx : a2*b3 - a3*b2=0) (hy : a3*b1 - a1*b3=0) (hz : a1*b2 - a2*b1=0) (h1 : B1*(o1+k*a1)+B2*(o2+k*a2)+B3*(o3+k*a3)+d=0) (h2 : B1*(o1+l*b1)+B2*(o2+l*b2)+B3*(o3+l*b3)+d=0) : (l*b1 - k*a1)*(B1*(b1 - a1)+B2*(b2 - a2)+B3*(b3 - a3))=0∧(l*b2 - k*a2)*(B1*(b1 - a1)+B2*(b2 - a2)+B3*(b3 - a3))=0∧(l*b3 - k*a3)*(B1*(b1 - a1)+B2*(b2 - a2)+B3*(b3 - a3))=0 := by
 have e1 : (l*b1 - k*a1)*(B1*(b1 - a1)+B2*(b2 - a2)+B3*(b3 - a3))=(b1 - a1)*((B1*(o1+l*b1)+B2*(o2+l*b2)+B3*(o3+l*b3)+d) - (B1*(o1+k*a1)+B2*(o2+k*a2)+B3*(o3+k*a3)+d))+B2*((l - k)*(a1*b2 - a2*b1)) - B3*((l - k)*(a3*b1 - a1*b3)) := by clear hx hy hz h1 h2; grind
 have e2 : (l*b2 - k*a2)*(B1*(b1 - a1)+B2*(b2 - a2)+B3*(b3 - a3))=(b2 - a2)*((B1*(o1+l*b1)+B2*(o2+l*b2)+B3*(o3+l*b3)+d) - (B1*(o1+k*a1)+B2*(o2+k*a2)+B3*(o3+k*a3)+d))+B3*((l - k)*(a2*b3 - a3*b2)) - B1*((l - k)*(a1*b2 - a2*b1)) := by clear hx hy hz h1 h2 e1; grind
 have e3 : (l*b3 - k*a3)*(B1*(b1 - a1)+B2*(b2 - a2)+B3*(b3 - a3))=(b3 - a3)*((B1*(o1+l*b1)+B2*(o2+l*b2)+B3*(o3+l*b3)+d) - (B1*(o1+k*a1)+B2*(o2+k*a2)+B3*(o3+k*a3)+d))+B1*((l - k)*(a3*b1 - a1*b3)) - B2*((l - k)*(a2*b3 - a3*b2)) := by clear hx hy hz h1 h2 e1 e2; grind
 rw [e1,e2,e3,hx,hy,hz,h1,h2]
 refine ⟨?_,?_,?_⟩ <;> grind
theorem sp_dsg {A B C k l s : Rat} (h1 : C+k*A=0) (h2 : C+l*B=0) (hv : C+(1+s)*A - s*B=0) (hg : B - A ≠ 0) : (1+s - k)*l - s*k=0 := by
 have x : ((1+s - k)*l - s*k)*(B - A)=0 := by grind
 exact (Rat.mul_eq_zero.1 x).resolve_right hg
theorem sp_prop {a b c x y z : Rat} (h : ¬ ((x=0∧y=0)∧z=0)) (h1 : b*z - c*y=0) (h2 : c*x - a*z=0) (h3 : a*y - b*x=0) : ∃ r,a=r*x∧b=r*y∧c=r*z := by
 have k : ∀ n m,n ≠ 0→a*n=m*x→b*n=m*y→c*n=m*z→∃ r,a=r*x∧b=r*y∧c=r*z := by
  intro n m hn i j l
  refine ⟨m / n,?_,?_,?_⟩ <;> (rw [Rat.div_def]; have := Rat.mul_inv_cancel n hn; grind)
 by_cases p : x=0
 ·by_cases q : y=0
  ·exact k z c (fun r => h ⟨⟨p,q⟩,r⟩) (by grind) (by grind) (by grind)
  ·exact k y b q (by grind) (by grind) (by grind)
 ·exact k x a p (by grind) (by grind) (by grind)
theorem eV_pP (H : eV_Q q σ) : (¬ (q 93=0))→(¬ (q 120=0)) := by
 have e89:q 89=q 82*q 82:=H 89 _ rfl;have e90:q 90=q 85*q 85:=H 90 _ rfl;have e91:q 91=q 89+q 90:=H 91 _ rfl;have e92:q 92=q 88*q 88:=H 92 _ rfl;have e93:q 93=q 91+q 92:=H 93 _ rfl;have e101:q 101=q 82*fac [q 82,q 85,q 88,q 100]:=H 101 _ rfl;have e102:q 102=q 85*fac [q 82,q 85,q 88,q 100]:=H 102 _ rfl;have e103:q 103=q 88*fac [q 82,q 85,q 88,q 100]:=H 103 _ rfl;have e104:q 104=q 100*fac [q 82,q 85,q 88,q 100]:=H 104 _ rfl;have e116:q 116=q 101*q 101:=H 116 _ rfl;have e117:q 117=q 102*q 102:=H 117 _ rfl;have e118:q 118=q 116+q 117:=H 118 _ rfl;have e119:q 119=q 103*q 103:=H 119 _ rfl;have e120:q 120=q 118+q 119:=H 120 _ rfl
 clear H
 intro hn
 have n : ¬ ((q 82=0∧q 85=0)∧q 88=0) := fun x => hn ((sp_sq3 e89 e90 e91 e92 e93).2 x)
 have k : fac [q 82,q 85,q 88,q 100] ≠ 0 := fun h => n ⟨⟨fac_zero (by simp) h,fac_zero (by simp) h⟩,fac_zero (by simp) h⟩
 intro h
 have ⟨⟨a,b⟩,c⟩ := (sp_sq3 e116 e117 e118 e119 e120).1 h
 rw [e101] at a; rw [e102] at b; rw [e103] at c
 exact n ⟨⟨(Rat.mul_eq_zero.1 a).resolve_right k,(Rat.mul_eq_zero.1 b).resolve_right k⟩,(Rat.mul_eq_zero.1 c).resolve_right k⟩
theorem eV_pA0 (H : eV_Q q σ) : (¬ (q 61=0))→(¬ (q 129=0)) := by
 have e42:q 42=q 16-q 3:=H 42 _ rfl;have e43:q 43=q 17-q 4:=H 43 _ rfl;have e44:q 44=q 18-q 5:=H 44 _ rfl;have e45:q 45=q 29-q 3:=H 45 _ rfl;have e46:q 46=q 30-q 4:=H 46 _ rfl;have e47:q 47=q 31-q 5:=H 47 _ rfl;have e48:q 48=q 43*q 47:=H 48 _ rfl;have e49:q 49=q 44*q 46:=H 49 _ rfl;have e50:q 50=q 48-q 49:=H 50 _ rfl;have e51:q 51=q 44*q 45:=H 51 _ rfl;have e52:q 52=q 42*q 47:=H 52 _ rfl;have e53:q 53=q 51-q 52:=H 53 _ rfl;have e54:q 54=q 42*q 46:=H 54 _ rfl;have e55:q 55=q 43*q 45:=H 55 _ rfl;have e56:q 56=q 54-q 55:=H 56 _ rfl;have e57:q 57=q 50*q 50:=H 57 _ rfl;have e58:q 58=q 53*q 53:=H 58 _ rfl;have e59:q 59=q 57+q 58:=H 59 _ rfl;have e60:q 60=q 56*q 56:=H 60 _ rfl;have e61:q 61=q 59+q 60:=H 61 _ rfl;have e125:q 125=q 42*q 42:=H 125 _ rfl;have e126:q 126=q 43*q 43:=H 126 _ rfl;have e127:q 127=q 125+q 126:=H 127 _ rfl;have e128:q 128=q 44*q 44:=H 128 _ rfl;have e129:q 129=q 127+q 128:=H 129 _ rfl
 clear H
 intro hn
 intro h
 have ⟨⟨a,b⟩,c⟩ := (sp_sq3 e125 e126 e127 e128 e129).1 h
 apply hn
 refine (sp_sq3 e57 e58 e59 e60 e61).2 ⟨⟨?_,?_⟩,?_⟩ <;> (clear hn h; clear e57 e58 e59 e60 e61 e125 e126 e127 e128 e129; subst_vars; grind)
theorem eV_pA1 (H : eV_Q q σ) : (¬ (q 61=0))→(¬ (q 195=0)) := by
 have e42:q 42=q 16-q 3:=H 42 _ rfl;have e43:q 43=q 17-q 4:=H 43 _ rfl;have e44:q 44=q 18-q 5:=H 44 _ rfl;have e45:q 45=q 29-q 3:=H 45 _ rfl;have e46:q 46=q 30-q 4:=H 46 _ rfl;have e47:q 47=q 31-q 5:=H 47 _ rfl;have e48:q 48=q 43*q 47:=H 48 _ rfl;have e49:q 49=q 44*q 46:=H 49 _ rfl;have e50:q 50=q 48-q 49:=H 50 _ rfl;have e51:q 51=q 44*q 45:=H 51 _ rfl;have e52:q 52=q 42*q 47:=H 52 _ rfl;have e53:q 53=q 51-q 52:=H 53 _ rfl;have e54:q 54=q 42*q 46:=H 54 _ rfl;have e55:q 55=q 43*q 45:=H 55 _ rfl;have e56:q 56=q 54-q 55:=H 56 _ rfl;have e57:q 57=q 50*q 50:=H 57 _ rfl;have e58:q 58=q 53*q 53:=H 58 _ rfl;have e59:q 59=q 57+q 58:=H 59 _ rfl;have e60:q 60=q 56*q 56:=H 60 _ rfl;have e61:q 61=q 59+q 60:=H 61 _ rfl;have e188:q 188=q 29-q 16:=H 188 _ rfl;have e189:q 189=q 30-q 17:=H 189 _ rfl;have e190:q 190=q 31-q 18:=H 190 _ rfl;have e191:q 191=q 188*q 188:=H 191 _ rfl;have e192:q 192=q 189*q 189:=H 192 _ rfl;have e193:q 193=q 191+q 192:=H 193 _ rfl;have e194:q 194=q 190*q 190:=H 194 _ rfl;have e195:q 195=q 193+q 194:=H 195 _ rfl
 clear H
 intro hn
 intro h
 have ⟨⟨a,b⟩,c⟩ := (sp_sq3 e191 e192 e193 e194 e195).1 h
 apply hn
 refine (sp_sq3 e57 e58 e59 e60 e61).2 ⟨⟨?_,?_⟩,?_⟩ <;> (clear hn h; clear e57 e58 e59 e60 e61 e191 e192 e193 e194 e195; subst_vars; grind)
theorem eV_pYz {z3 z4 z5 z16 z17 z18 z29 z30 z31 z42 z43 z44 z45 z46 z47 z48 z49 z50 z51 z52 z53 z54 z55 z56 z57 z58 z59 z60 z61 z62 z63 z64 z65 z66 z67 z68 z69 z70 z71 z72 z73 z74 z75 z76 z77 z78 z79 z80 z81 z82 z83 z84 z85 z86 z87 z88 z89 z90 z91 z92 z93 z100 z101 z102 z103 z104 z105 z106 z107 z108 z109 z110 z111 z112 z113 z114 z115 z121 z122 z123 z124 z130 z131 z132 z133 z134 z135 z136 z137 z138 z139 z140 z141 z142 z188 z189 z190 z203 z204 z205 z206 z207 z208 : Rat} : z42=z16-z3→z43=z17-z4→z44=z18-z5→z45=z29-z3→z46=z30-z4→z47=z31-z5→z48=z43*z47→z49=z44*z46→z50=z48-z49→z51=z44*z45→z52=z42*z47→z53=z51-z52→z54=z42*z46→z55=z43*z45→z56=z54-z55→z57=z50*z50→z58=z53*z53→z59=z57+z58→z60=z56*z56→z61=z59+z60→z62=z50*z3→z63=0→z64=z63+z62→z65=z53*z4→z66=z64+z65→z67=z56*z5→z68=z66+z67→z69=-z68→z70=z50*fac [z50,z53,z56,z69]→z71=z53*fac [z50,z53,z56,z69]→z72=z56*fac [z50,z53,z56,z69]→z73=z69*fac [z50,z53,z56,z69]→z80=z75*z79→z81=z76*z78→z82=z80-z81→z83=z76*z77→z84=z74*z79→z85=z83-z84→z86=z74*z78→z87=z75*z77→z88=z86-z87→z89=z82*z82→z90=z85*z85→z91=z89+z90→z92=z88*z88→z93=z91+z92→z101=z82*fac [z82,z85,z88,z100]→z102=z85*fac [z82,z85,z88,z100]→z103=z88*fac [z82,z85,z88,z100]→z104=z100*fac [z82,z85,z88,z100]→z105=z70-z101→z106=z71-z102→z107=z72-z103→z108=z73-z104→z109=z105*z105→z110=z106*z106→z111=z109+z110→z112=z107*z107→z113=z111+z112→z114=z108*z108→z115=z113+z114→z121=z101*fac [z101,z102,z103,z104]→z122=z102*fac [z101,z102,z103,z104]→z123=z103*fac [z101,z102,z103,z104]→z124=z104*fac [z101,z102,z103,z104]→z130=z121*z3→z131=z63+z130→z132=z122*z4→z133=z131+z132→z134=z123*z5→z135=z133+z134→z136=z135+z124→z137=z121*z42→z138=z63+z137→z139=z122*z43→z140=z138+z139→z141=z123*z44→z142=z140+z141→z188=z29-z16→z189=z30-z17→z190=z31-z18→z203=z121*z188→z204=z63+z203→z205=z122*z189→z206=z204+z205→z207=z123*z190→z208=z206+z207→(¬ (z61=0))→(¬ (z93=0))→(¬ (z115=0))→(z142=0)→(z136=0)→(¬ (z208=0)) := by
 intro e42 e43 e44 e45 e46 e47 e48 e49 e50 e51 e52 e53 e54 e55 e56 e57 e58 e59 e60 e61 e62 e63 e64 e65 e66 e67 e68 e69 e70 e71 e72 e73 e80 e81 e82 e83 e84 e85 e86 e87 e88 e89 e90 e91 e92 e93 e101 e102 e103 e104 e105 e106 e107 e108 e109 e110 e111 e112 e113 e114 e115 e121 e122 e123 e124 e130 e131 e132 e133 e134 e135 e136 e137 e138 e139 e140 e141 e142 e188 e189 e190 e203 e204 e205 e206 e207 e208
 intro ht hu hE h0 v0
 intro h
 have n : ¬ ((z82=0∧z85=0)∧z88=0) := fun x => hu ((sp_sq3 e89 e90 e91 e92 e93).2 x)
 have m : ¬ ((z50=0∧z53=0)∧z56=0) := fun x => ht ((sp_sq3 e57 e58 e59 e60 e61).2 x)
 have ku : fac [z82,z85,z88,z100] ≠ 0 := fun h => n ⟨⟨fac_zero (by simp) h,fac_zero (by simp) h⟩,fac_zero (by simp) h⟩
 have kp : fac [z101,z102,z103,z104] ≠ 0 := fun h => n ⟨⟨(Rat.mul_eq_zero.1 (e101.symm.trans (fac_zero (by simp) h))).resolve_right ku,(Rat.mul_eq_zero.1 (e102.symm.trans (fac_zero (by simp) h))).resolve_right ku⟩,(Rat.mul_eq_zero.1 (e103.symm.trans (fac_zero (by simp) h))).resolve_right ku⟩
 obtain ⟨f,hf⟩ : ∃ f,f=fac [z101,z102,z103,z104] := ⟨_,rfl⟩
 obtain ⟨g,hg⟩ : ∃ f,f=fac [z82,z85,z88,z100] := ⟨_,rfl⟩
 rw [← hf] at kp e121 e122 e123 e124
 rw [← hg] at ku
 have p0 : z101=z82*g := by rw [e101,hg]
 have p1 : z102=z85*g := by rw [e102,hg]
 have p2 : z103=z88*g := by rw [e103,hg]
 have p3 : z104=z100*g := by rw [e104,hg]
 have o0 : (z82*z42+z85*z43+z88*z44)=0 := by
  have : (z82*z42+z85*z43+z88*z44)*(g*f)=0 := by
   rw [← h0]; clear kp ku n m hu ht hf hg h0 v0 h; clear e42 e43 e44 e45 e46 e47 e48 e49 e50 e51 e52 e53 e54 e55 e56 e57 e58 e59 e60 e61 e62 e64 e65 e66 e67 e68 e69 e70 e71 e72 e73 e80 e81 e82 e83 e84 e85 e86 e87 e88 e89 e90 e91 e92 e93 e101 e102 e103 e104 e105 e106 e107 e108 e109 e110 e111 e112 e113 e114 e115 e130 e131 e132 e133 e134 e135 e136 e188 e189 e190 e203 e204 e205 e206 e207 e208; subst_vars; grind
  exact (Rat.mul_eq_zero.1 this).resolve_right (mul_ne ku kp)
 have o1 : (z82*z188+z85*z189+z88*z190)=0 := by
  have : (z82*z188+z85*z189+z88*z190)*(g*f)=0 := by
   rw [← h]; clear kp ku n m hu ht hf hg h0 v0 h o0; clear e42 e43 e44 e45 e46 e47 e48 e49 e50 e51 e52 e53 e54 e55 e56 e57 e58 e59 e60 e61 e62 e64 e65 e66 e67 e68 e69 e70 e71 e72 e73 e80 e81 e82 e83 e84 e85 e86 e87 e88 e89 e90 e91 e92 e93 e101 e102 e103 e104 e105 e106 e107 e108 e109 e110 e111 e112 e113 e114 e115 e130 e131 e132 e133 e134 e135 e136 e137 e138 e139 e140 e141 e142 e188 e189 e190; subst_vars; grind
  exact (Rat.mul_eq_zero.1 this).resolve_right (mul_ne ku kp)
 have o2 : (z82*z3+z85*z4+z88*z5+z100)=0 := by
  have : (z82*z3+z85*z4+z88*z5+z100)*(g*f)=0 := by
   rw [← v0]; clear kp ku n m hu ht hf hg h0 v0 h o0 o1; clear e42 e43 e44 e45 e46 e47 e48 e49 e50 e51 e52 e53 e54 e55 e56 e57 e58 e59 e60 e61 e62 e64 e65 e66 e67 e68 e69 e70 e71 e72 e73 e80 e81 e82 e83 e84 e85 e86 e87 e88 e89 e90 e91 e92 e93 e101 e102 e103 e104 e105 e106 e107 e108 e109 e110 e111 e112 e113 e114 e115 e137 e138 e139 e140 e141 e142 e188 e189 e190 e203 e204 e205 e206 e207 e208; subst_vars; grind
  exact (Rat.mul_eq_zero.1 this).resolve_right (mul_ne ku kp)
 have ⟨r,r0,r1,r2⟩ := sp_prop m (a := z82) (b := z85) (c := z88) (by clear kp ku n m hu ht hf hg h0 v0 h o2 p0 p1 p2 p3; clear e57 e58 e59 e60 e61 e62 e63 e64 e65 e66 e67 e68 e69 e70 e71 e72 e73 e80 e81 e82 e83 e84 e85 e86 e87 e88 e89 e90 e91 e92 e93 e101 e102 e103 e104 e105 e106 e107 e108 e109 e110 e111 e112 e113 e114 e115 e121 e122 e123 e124 e130 e131 e132 e133 e134 e135 e136 e137 e138 e139 e140 e141 e142 e203 e204 e205 e206 e207 e208; subst_vars; grind) (by clear kp ku n m hu ht hf hg h0 v0 h o2 p0 p1 p2 p3; clear e57 e58 e59 e60 e61 e62 e63 e64 e65 e66 e67 e68 e69 e70 e71 e72 e73 e80 e81 e82 e83 e84 e85 e86 e87 e88 e89 e90 e91 e92 e93 e101 e102 e103 e104 e105 e106 e107 e108 e109 e110 e111 e112 e113 e114 e115 e121 e122 e123 e124 e130 e131 e132 e133 e134 e135 e136 e137 e138 e139 e140 e141 e142 e203 e204 e205 e206 e207 e208; subst_vars; grind) (by clear kp ku n m hu ht hf hg h0 v0 h o2 p0 p1 p2 p3; clear e57 e58 e59 e60 e61 e62 e63 e64 e65 e66 e67 e68 e69 e70 e71 e72 e73 e80 e81 e82 e83 e84 e85 e86 e87 e88 e89 e90 e91 e92 e93 e101 e102 e103 e104 e105 e106 e107 e108 e109 e110 e111 e112 e113 e114 e115 e121 e122 e123 e124 e130 e131 e132 e133 e134 e135 e136 e137 e138 e139 e140 e141 e142 e203 e204 e205 e206 e207 e208; subst_vars; grind)
 have hr : r ≠ 0 := fun k => n ⟨⟨by rw [r0,k,Rat.zero_mul],by rw [r1,k,Rat.zero_mul]⟩,by rw [r2,k,Rat.zero_mul]⟩
 have r3 : z100=r*z69 := by
  clear kp ku n m hu ht hf hg h0 v0 h o0 o1 p0 p1 p2 p3 hr; clear e42 e43 e44 e45 e46 e47 e48 e49 e50 e51 e52 e53 e54 e55 e56 e57 e58 e59 e60 e61 e70 e71 e72 e73 e80 e81 e82 e83 e84 e85 e86 e87 e88 e89 e90 e91 e92 e93 e101 e102 e103 e104 e105 e106 e107 e108 e109 e110 e111 e112 e113 e114 e115 e121 e122 e123 e124 e130 e131 e132 e133 e134 e135 e136 e137 e138 e139 e140 e141 e142 e188 e189 e190 e203 e204 e205 e206 e207 e208; subst_vars; grind
 have hs : r*fac [z82,z85,z88,z100]=fac [z50,z53,z56,z69] := by
  rw [r0,r1,r2,r3]
  by_cases k0 : z50=0
  ·by_cases k1 : z53=0
   ·exact fac_scale (qs := [z50,z53,z56,z69]) (q0 := z56) (by simp) (fun k2 => m ⟨⟨k0,k1⟩,k2⟩) hr
   ·exact fac_scale (qs := [z50,z53,z56,z69]) (q0 := z53) (by simp) k1 hr
  ·exact fac_scale (qs := [z50,z53,z56,z69]) (q0 := z50) (by simp) k0 hr
 rw [← hg] at hs; apply hE
 exact sp_sq4 e109 e110 e111 e112 e113 e114 e115 (by rw [e105,e70,p0,← hs,r0]; clear kp ku n m hu ht hf hg h0 v0 h o0 o1 o2 p0 p1 p2 p3 hr hs r0 r1 r2 r3; clear e42 e43 e44 e45 e46 e47 e48 e49 e50 e51 e52 e53 e54 e55 e56 e57 e58 e59 e60 e61 e62 e63 e64 e65 e66 e67 e68 e69 e70 e71 e72 e73 e80 e81 e82 e83 e84 e85 e86 e87 e88 e89 e90 e91 e92 e93 e101 e102 e103 e104 e105 e106 e107 e108 e109 e110 e111 e112 e113 e114 e115 e121 e122 e123 e124 e130 e131 e132 e133 e134 e135 e136 e137 e138 e139 e140 e141 e142 e188 e189 e190 e203 e204 e205 e206 e207 e208; grind) (by rw [e106,e71,p1,← hs,r1]; clear kp ku n m hu ht hf hg h0 v0 h o0 o1 o2 p0 p1 p2 p3 hr hs r0 r1 r2 r3; clear e42 e43 e44 e45 e46 e47 e48 e49 e50 e51 e52 e53 e54 e55 e56 e57 e58 e59 e60 e61 e62 e63 e64 e65 e66 e67 e68 e69 e70 e71 e72 e73 e80 e81 e82 e83 e84 e85 e86 e87 e88 e89 e90 e91 e92 e93 e101 e102 e103 e104 e105 e106 e107 e108 e109 e110 e111 e112 e113 e114 e115 e121 e122 e123 e124 e130 e131 e132 e133 e134 e135 e136 e137 e138 e139 e140 e141 e142 e188 e189 e190 e203 e204 e205 e206 e207 e208; grind) (by rw [e107,e72,p2,← hs,r2]; clear kp ku n m hu ht hf hg h0 v0 h o0 o1 o2 p0 p1 p2 p3 hr hs r0 r1 r2 r3; clear e42 e43 e44 e45 e46 e47 e48 e49 e50 e51 e52 e53 e54 e55 e56 e57 e58 e59 e60 e61 e62 e63 e64 e65 e66 e67 e68 e69 e70 e71 e72 e73 e80 e81 e82 e83 e84 e85 e86 e87 e88 e89 e90 e91 e92 e93 e101 e102 e103 e104 e105 e106 e107 e108 e109 e110 e111 e112 e113 e114 e115 e121 e122 e123 e124 e130 e131 e132 e133 e134 e135 e136 e137 e138 e139 e140 e141 e142 e188 e189 e190 e203 e204 e205 e206 e207 e208; grind) (by rw [e108,e73,p3,← hs,r3]; clear kp ku n m hu ht hf hg h0 v0 h o0 o1 o2 p0 p1 p2 p3 hr hs r0 r1 r2 r3; clear e42 e43 e44 e45 e46 e47 e48 e49 e50 e51 e52 e53 e54 e55 e56 e57 e58 e59 e60 e61 e62 e63 e64 e65 e66 e67 e68 e69 e70 e71 e72 e73 e80 e81 e82 e83 e84 e85 e86 e87 e88 e89 e90 e91 e92 e93 e101 e102 e103 e104 e105 e106 e107 e108 e109 e110 e111 e112 e113 e114 e115 e121 e122 e123 e124 e130 e131 e132 e133 e134 e135 e136 e137 e138 e139 e140 e141 e142 e188 e189 e190 e203 e204 e205 e206 e207 e208; grind)
theorem eV_pY (H : eV_Q q σ) : (¬ (q 61=0))→(¬ (q 93=0))→(¬ (q 115=0))→(q 142=0)→(q 136=0)→(¬ (q 208=0)) := by
 have e42:q 42=q 16-q 3:=H 42 _ rfl;have e43:q 43=q 17-q 4:=H 43 _ rfl;have e44:q 44=q 18-q 5:=H 44 _ rfl;have e45:q 45=q 29-q 3:=H 45 _ rfl;have e46:q 46=q 30-q 4:=H 46 _ rfl;have e47:q 47=q 31-q 5:=H 47 _ rfl;have e48:q 48=q 43*q 47:=H 48 _ rfl;have e49:q 49=q 44*q 46:=H 49 _ rfl;have e50:q 50=q 48-q 49:=H 50 _ rfl;have e51:q 51=q 44*q 45:=H 51 _ rfl;have e52:q 52=q 42*q 47:=H 52 _ rfl;have e53:q 53=q 51-q 52:=H 53 _ rfl;have e54:q 54=q 42*q 46:=H 54 _ rfl;have e55:q 55=q 43*q 45:=H 55 _ rfl;have e56:q 56=q 54-q 55:=H 56 _ rfl;have e57:q 57=q 50*q 50:=H 57 _ rfl;have e58:q 58=q 53*q 53:=H 58 _ rfl;have e59:q 59=q 57+q 58:=H 59 _ rfl;have e60:q 60=q 56*q 56:=H 60 _ rfl;have e61:q 61=q 59+q 60:=H 61 _ rfl;have e62:q 62=q 50*q 3:=H 62 _ rfl;have e63:q 63=0:=(H 63 _ rfl).trans eV_c63;have e64:q 64=q 63+q 62:=H 64 _ rfl;have e65:q 65=q 53*q 4:=H 65 _ rfl;have e66:q 66=q 64+q 65:=H 66 _ rfl;have e67:q 67=q 56*q 5:=H 67 _ rfl;have e68:q 68=q 66+q 67:=H 68 _ rfl;have e69:q 69=-q 68:=H 69 _ rfl;have e70:q 70=q 50*fac [q 50,q 53,q 56,q 69]:=H 70 _ rfl;have e71:q 71=q 53*fac [q 50,q 53,q 56,q 69]:=H 71 _ rfl;have e72:q 72=q 56*fac [q 50,q 53,q 56,q 69]:=H 72 _ rfl;have e73:q 73=q 69*fac [q 50,q 53,q 56,q 69]:=H 73 _ rfl;have e80:q 80=q 75*q 79:=H 80 _ rfl;have e81:q 81=q 76*q 78:=H 81 _ rfl;have e82:q 82=q 80-q 81:=H 82 _ rfl;have e83:q 83=q 76*q 77:=H 83 _ rfl;have e84:q 84=q 74*q 79:=H 84 _ rfl;have e85:q 85=q 83-q 84:=H 85 _ rfl;have e86:q 86=q 74*q 78:=H 86 _ rfl;have e87:q 87=q 75*q 77:=H 87 _ rfl;have e88:q 88=q 86-q 87:=H 88 _ rfl;have e89:q 89=q 82*q 82:=H 89 _ rfl;have e90:q 90=q 85*q 85:=H 90 _ rfl;have e91:q 91=q 89+q 90:=H 91 _ rfl;have e92:q 92=q 88*q 88:=H 92 _ rfl;have e93:q 93=q 91+q 92:=H 93 _ rfl;have e101:q 101=q 82*fac [q 82,q 85,q 88,q 100]:=H 101 _ rfl;have e102:q 102=q 85*fac [q 82,q 85,q 88,q 100]:=H 102 _ rfl;have e103:q 103=q 88*fac [q 82,q 85,q 88,q 100]:=H 103 _ rfl;have e104:q 104=q 100*fac [q 82,q 85,q 88,q 100]:=H 104 _ rfl;have e105:q 105=q 70-q 101:=H 105 _ rfl;have e106:q 106=q 71-q 102:=H 106 _ rfl;have e107:q 107=q 72-q 103:=H 107 _ rfl;have e108:q 108=q 73-q 104:=H 108 _ rfl;have e109:q 109=q 105*q 105:=H 109 _ rfl;have e110:q 110=q 106*q 106:=H 110 _ rfl;have e111:q 111=q 109+q 110:=H 111 _ rfl;have e112:q 112=q 107*q 107:=H 112 _ rfl;have e113:q 113=q 111+q 112:=H 113 _ rfl;have e114:q 114=q 108*q 108:=H 114 _ rfl;have e115:q 115=q 113+q 114:=H 115 _ rfl;have e121:q 121=q 101*fac [q 101,q 102,q 103,q 104]:=H 121 _ rfl;have e122:q 122=q 102*fac [q 101,q 102,q 103,q 104]:=H 122 _ rfl;have e123:q 123=q 103*fac [q 101,q 102,q 103,q 104]:=H 123 _ rfl;have e124:q 124=q 104*fac [q 101,q 102,q 103,q 104]:=H 124 _ rfl;have e130:q 130=q 121*q 3:=H 130 _ rfl;have e131:q 131=q 63+q 130:=H 131 _ rfl;have e132:q 132=q 122*q 4:=H 132 _ rfl;have e133:q 133=q 131+q 132:=H 133 _ rfl;have e134:q 134=q 123*q 5:=H 134 _ rfl;have e135:q 135=q 133+q 134:=H 135 _ rfl;have e136:q 136=q 135+q 124:=H 136 _ rfl;have e137:q 137=q 121*q 42:=H 137 _ rfl;have e138:q 138=q 63+q 137:=H 138 _ rfl;have e139:q 139=q 122*q 43:=H 139 _ rfl;have e140:q 140=q 138+q 139:=H 140 _ rfl;have e141:q 141=q 123*q 44:=H 141 _ rfl;have e142:q 142=q 140+q 141:=H 142 _ rfl;have e188:q 188=q 29-q 16:=H 188 _ rfl;have e189:q 189=q 30-q 17:=H 189 _ rfl;have e190:q 190=q 31-q 18:=H 190 _ rfl;have e203:q 203=q 121*q 188:=H 203 _ rfl;have e204:q 204=q 63+q 203:=H 204 _ rfl;have e205:q 205=q 122*q 189:=H 205 _ rfl;have e206:q 206=q 204+q 205:=H 206 _ rfl;have e207:q 207=q 123*q 190:=H 207 _ rfl;have e208:q 208=q 206+q 207:=H 208 _ rfl
 exact eV_pYz e42 e43 e44 e45 e46 e47 e48 e49 e50 e51 e52 e53 e54 e55 e56 e57 e58 e59 e60 e61 e62 e63 e64 e65 e66 e67 e68 e69 e70 e71 e72 e73 e80 e81 e82 e83 e84 e85 e86 e87 e88 e89 e90 e91 e92 e93 e101 e102 e103 e104 e105 e106 e107 e108 e109 e110 e111 e112 e113 e114 e115 e121 e122 e123 e124 e130 e131 e132 e133 e134 e135 e136 e137 e138 e139 e140 e141 e142 e188 e189 e190 e203 e204 e205 e206 e207 e208
theorem eV_pV1z {z16 z17 z18 z29 z30 z31 z63 z121 z122 z123 z124 z188 z189 z190 z196 z197 z198 z199 z200 z201 z202 z203 z204 z205 z206 z207 z208 z209 z210 z211 z212 z213 z214 z215 z216 z217 z218 z219 z220 z221 z222 : Rat} : z63=0→z188=z29-z16→z189=z30-z17→z190=z31-z18→z196=z121*z16→z197=z63+z196→z198=z122*z17→z199=z197+z198→z200=z123*z18→z201=z199+z200→z202=z201+z124→z203=z121*z188→z204=z63+z203→z205=z122*z189→z206=z204+z205→z207=z123*z190→z208=z206+z207→z209=z202/z208→z210=z188*z209→z211=z189*z209→z212=z190*z209→z213=z16-z210→z214=z17-z211→z215=z18-z212→z216=z121*z213→z217=z63+z216→z218=z122*z214→z219=z217+z218→z220=z123*z215→z221=z219+z220→z222=z221+z124→(¬ (z208=0))→(z222=0) := by
 intro e63 e188 e189 e190 e196 e197 e198 e199 e200 e201 e202 e203 e204 e205 e206 e207 e208 e209 e210 e211 e212 e213 e214 e215 e216 e217 e218 e219 e220 e221 e222
 intro h
 have hd : z209*z208=z202 := by rw [e209]; exact Rat.div_mul_cancel h
 clear h e209
 subst_vars; grind
theorem eV_pV1 (H : eV_Q q σ) : (¬ (q 208=0))→(q 222=0) := by
 have e63:q 63=0:=(H 63 _ rfl).trans eV_c63;have e188:q 188=q 29-q 16:=H 188 _ rfl;have e189:q 189=q 30-q 17:=H 189 _ rfl;have e190:q 190=q 31-q 18:=H 190 _ rfl;have e196:q 196=q 121*q 16:=H 196 _ rfl;have e197:q 197=q 63+q 196:=H 197 _ rfl;have e198:q 198=q 122*q 17:=H 198 _ rfl;have e199:q 199=q 197+q 198:=H 199 _ rfl;have e200:q 200=q 123*q 18:=H 200 _ rfl;have e201:q 201=q 199+q 200:=H 201 _ rfl;have e202:q 202=q 201+q 124:=H 202 _ rfl;have e203:q 203=q 121*q 188:=H 203 _ rfl;have e204:q 204=q 63+q 203:=H 204 _ rfl;have e205:q 205=q 122*q 189:=H 205 _ rfl;have e206:q 206=q 204+q 205:=H 206 _ rfl;have e207:q 207=q 123*q 190:=H 207 _ rfl;have e208:q 208=q 206+q 207:=H 208 _ rfl;have e209:q 209=q 202/q 208:=H 209 _ rfl;have e210:q 210=q 188*q 209:=H 210 _ rfl;have e211:q 211=q 189*q 209:=H 211 _ rfl;have e212:q 212=q 190*q 209:=H 212 _ rfl;have e213:q 213=q 16-q 210:=H 213 _ rfl;have e214:q 214=q 17-q 211:=H 214 _ rfl;have e215:q 215=q 18-q 212:=H 215 _ rfl;have e216:q 216=q 121*q 213:=H 216 _ rfl;have e217:q 217=q 63+q 216:=H 217 _ rfl;have e218:q 218=q 122*q 214:=H 218 _ rfl;have e219:q 219=q 217+q 218:=H 219 _ rfl;have e220:q 220=q 123*q 215:=H 220 _ rfl;have e221:q 221=q 219+q 220:=H 221 _ rfl;have e222:q 222=q 221+q 124:=H 222 _ rfl
 exact eV_pV1z e63 e188 e189 e190 e196 e197 e198 e199 e200 e201 e202 e203 e204 e205 e206 e207 e208 e209 e210 e211 e212 e213 e214 e215 e216 e217 e218 e219 e220 e221 e222
theorem eV_pW1z {z0 z1 z2 z11 z13 z15 z16 z17 z18 z19 z20 z21 z22 z23 z24 z25 z26 z27 z28 z29 z30 z31 z32 z33 z34 z35 z36 z37 z38 z39 z40 z41 z63 z74 z75 z76 z77 z78 z79 z80 z81 z82 z83 z84 z85 z86 z87 z88 z89 z90 z91 z92 z93 z121 z122 z123 z124 z188 z189 z190 z203 z204 z205 z206 z207 z208 z223 z224 z225 z226 z227 z228 z229 z230 z231 z232 z233 z234 z235 z236 z240 z241 z242 : Rat} : z19=z16-z0→z20=z17-z1→z21=z18-z2→z23=z22*z19→z24=z0+z23→z25=z22*z20→z26=z1+z25→z27=z22*z21→z28=z2+z27→z32=z29-z0→z33=z30-z1→z34=z31-z2→z36=z35*z32→z37=z0+z36→z38=z35*z33→z39=z1+z38→z40=z35*z34→z41=z2+z40→z63=0→z74=z24-z11→z75=z26-z13→z76=z28-z15→z77=z37-z11→z78=z39-z13→z79=z41-z15→z80=z75*z79→z81=z76*z78→z82=z80-z81→z83=z76*z77→z84=z74*z79→z85=z83-z84→z86=z74*z78→z87=z75*z77→z88=z86-z87→z89=z82*z82→z90=z85*z85→z91=z89+z90→z92=z88*z88→z93=z91+z92→z188=z29-z16→z189=z30-z17→z190=z31-z18→z203=z121*z188→z204=z63+z203→z205=z122*z189→z206=z204+z205→z207=z123*z190→z208=z206+z207→z223=z20*z34→z224=z21*z33→z225=z223-z224→z226=z21*z32→z227=z19*z34→z228=z226-z227→z229=z19*z33→z230=z20*z32→z231=z229-z230→z232=z225*z225→z233=z228*z228→z234=z232+z233→z235=z231*z231→z236=z234+z235→z240=z37-z24→z241=z39-z26→z242=z41-z28→(¬ (z93=0))→(¬ (z208=0))→(z121*z24+z122*z26+z123*z28+z124=0)→(z121*z37+z122*z39+z123*z41+z124=0)→(¬ (z236=0)) := by
 intro e19 e20 e21 e23 e24 e25 e26 e27 e28 e32 e33 e34 e36 e37 e38 e39 e40 e41 e63 e74 e75 e76 e77 e78 e79 e80 e81 e82 e83 e84 e85 e86 e87 e88 e89 e90 e91 e92 e93 e188 e189 e190 e203 e204 e205 e206 e207 e208 e223 e224 e225 e226 e227 e228 e229 e230 e231 e232 e233 e234 e235 e236 e240 e241 e242
 intro hn hg b1 b2
 intro h
 have ⟨⟨c1,c2⟩,c3⟩ := (sp_sq3 e232 e233 e234 e235 e236).1 h
 rw [e225,e223,e224] at c1
 rw [e228,e226,e227] at c2
 rw [e231,e229,e230] at c3
 rw [e24,e26,e28,e23,e25,e27] at b1
 rw [e37,e39,e41,e36,e38,e40] at b2
 have ⟨l1,l2,l3⟩ := sp_ln (B1 := z121) (o1 := z0) (a1 := z19) (b1 := z32) (B2 := z122) (o2 := z1) (a2 := z20) (b2 := z33) (B3 := z123) (o3 := z2) (a3 := z21) (b3 := z34) (d := z124) (k := z22) (l := z35) c1 c2 c3 b1 b2
 have hG : z208=z121*(z32 - z19)+z122*(z33 - z20)+z123*(z34 - z21) := by clear hn hg h c1 c2 c3 b1 b2 l1 l2 l3; clear e23 e24 e25 e26 e27 e28 e36 e37 e38 e39 e40 e41 e74 e75 e76 e77 e78 e79 e80 e81 e82 e83 e84 e85 e86 e87 e88 e89 e90 e91 e92 e93 e223 e224 e225 e226 e227 e228 e229 e230 e231 e232 e233 e234 e235 e236 e240 e241 e242; subst_vars; grind
 rw [← hG] at l1 l2 l3; clear c1 c2 c3 b1 b2 hG h; apply hn
 have m0 : z240=0 := by
  rw [e240,e24,e37,e23,e36]; have := (Rat.mul_eq_zero.1 l1).resolve_right hg; grind
 have m1 : z241=0 := by
  rw [e241,e26,e39,e25,e38]; have := (Rat.mul_eq_zero.1 l2).resolve_right hg; grind
 have m2 : z242=0 := by
  rw [e242,e28,e41,e27,e40]; have := (Rat.mul_eq_zero.1 l3).resolve_right hg; grind
 clear l1 l2 l3 hg
 refine (sp_sq3 e89 e90 e91 e92 e93).2 ⟨⟨?_,?_⟩,?_⟩ <;> (clear e19 e20 e21 e23 e24 e25 e26 e27 e28 e32 e33 e34 e36 e37 e38 e39 e40 e41 e63 e89 e90 e91 e92 e93 e188 e189 e190 e203 e204 e205 e206 e207 e208 e223 e224 e225 e226 e227 e228 e229 e230 e231 e232 e233 e234 e235 e236; clear hn; subst_vars; grind)
theorem eV_pW1 (H : eV_Q q σ) : (¬ (q 93=0))→(¬ (q 208=0))→(q 121*q 24+q 122*q 26+q 123*q 28+q 124=0)→(q 121*q 37+q 122*q 39+q 123*q 41+q 124=0)→(¬ (q 236=0)) := by
 have e19:q 19=q 16-q 0:=H 19 _ rfl;have e20:q 20=q 17-q 1:=H 20 _ rfl;have e21:q 21=q 18-q 2:=H 21 _ rfl;have e23:q 23=q 22*q 19:=H 23 _ rfl;have e24:q 24=q 0+q 23:=H 24 _ rfl;have e25:q 25=q 22*q 20:=H 25 _ rfl;have e26:q 26=q 1+q 25:=H 26 _ rfl;have e27:q 27=q 22*q 21:=H 27 _ rfl;have e28:q 28=q 2+q 27:=H 28 _ rfl;have e32:q 32=q 29-q 0:=H 32 _ rfl;have e33:q 33=q 30-q 1:=H 33 _ rfl;have e34:q 34=q 31-q 2:=H 34 _ rfl;have e36:q 36=q 35*q 32:=H 36 _ rfl;have e37:q 37=q 0+q 36:=H 37 _ rfl;have e38:q 38=q 35*q 33:=H 38 _ rfl;have e39:q 39=q 1+q 38:=H 39 _ rfl;have e40:q 40=q 35*q 34:=H 40 _ rfl;have e41:q 41=q 2+q 40:=H 41 _ rfl;have e63:q 63=0:=(H 63 _ rfl).trans eV_c63;have e74:q 74=q 24-q 11:=H 74 _ rfl;have e75:q 75=q 26-q 13:=H 75 _ rfl;have e76:q 76=q 28-q 15:=H 76 _ rfl;have e77:q 77=q 37-q 11:=H 77 _ rfl;have e78:q 78=q 39-q 13:=H 78 _ rfl;have e79:q 79=q 41-q 15:=H 79 _ rfl;have e80:q 80=q 75*q 79:=H 80 _ rfl;have e81:q 81=q 76*q 78:=H 81 _ rfl;have e82:q 82=q 80-q 81:=H 82 _ rfl;have e83:q 83=q 76*q 77:=H 83 _ rfl;have e84:q 84=q 74*q 79:=H 84 _ rfl;have e85:q 85=q 83-q 84:=H 85 _ rfl;have e86:q 86=q 74*q 78:=H 86 _ rfl;have e87:q 87=q 75*q 77:=H 87 _ rfl;have e88:q 88=q 86-q 87:=H 88 _ rfl;have e89:q 89=q 82*q 82:=H 89 _ rfl;have e90:q 90=q 85*q 85:=H 90 _ rfl;have e91:q 91=q 89+q 90:=H 91 _ rfl;have e92:q 92=q 88*q 88:=H 92 _ rfl;have e93:q 93=q 91+q 92:=H 93 _ rfl;have e188:q 188=q 29-q 16:=H 188 _ rfl;have e189:q 189=q 30-q 17:=H 189 _ rfl;have e190:q 190=q 31-q 18:=H 190 _ rfl;have e203:q 203=q 121*q 188:=H 203 _ rfl;have e204:q 204=q 63+q 203:=H 204 _ rfl;have e205:q 205=q 122*q 189:=H 205 _ rfl;have e206:q 206=q 204+q 205:=H 206 _ rfl;have e207:q 207=q 123*q 190:=H 207 _ rfl;have e208:q 208=q 206+q 207:=H 208 _ rfl;have e223:q 223=q 20*q 34:=H 223 _ rfl;have e224:q 224=q 21*q 33:=H 224 _ rfl;have e225:q 225=q 223-q 224:=H 225 _ rfl;have e226:q 226=q 21*q 32:=H 226 _ rfl;have e227:q 227=q 19*q 34:=H 227 _ rfl;have e228:q 228=q 226-q 227:=H 228 _ rfl;have e229:q 229=q 19*q 33:=H 229 _ rfl;have e230:q 230=q 20*q 32:=H 230 _ rfl;have e231:q 231=q 229-q 230:=H 231 _ rfl;have e232:q 232=q 225*q 225:=H 232 _ rfl;have e233:q 233=q 228*q 228:=H 233 _ rfl;have e234:q 234=q 232+q 233:=H 234 _ rfl;have e235:q 235=q 231*q 231:=H 235 _ rfl;have e236:q 236=q 234+q 235:=H 236 _ rfl;have e240:q 240=q 37-q 24:=H 240 _ rfl;have e241:q 241=q 39-q 26:=H 241 _ rfl;have e242:q 242=q 41-q 28:=H 242 _ rfl
 exact eV_pW1z e19 e20 e21 e23 e24 e25 e26 e27 e28 e32 e33 e34 e36 e37 e38 e39 e40 e41 e63 e74 e75 e76 e77 e78 e79 e80 e81 e82 e83 e84 e85 e86 e87 e88 e89 e90 e91 e92 e93 e188 e189 e190 e203 e204 e205 e206 e207 e208 e223 e224 e225 e226 e227 e228 e229 e230 e231 e232 e233 e234 e235 e236 e240 e241 e242
theorem eV_pB1z {z11 z13 z15 z24 z26 z28 z37 z39 z41 z63 z74 z75 z76 z77 z78 z79 z80 z81 z82 z83 z84 z85 z86 z87 z88 z94 z95 z96 z97 z98 z99 z100 z101 z102 z103 z104 z121 z122 z123 z124 : Rat} : z63=0→z74=z24-z11→z75=z26-z13→z76=z28-z15→z77=z37-z11→z78=z39-z13→z79=z41-z15→z80=z75*z79→z81=z76*z78→z82=z80-z81→z83=z76*z77→z84=z74*z79→z85=z83-z84→z86=z74*z78→z87=z75*z77→z88=z86-z87→z94=z82*z11→z95=z63+z94→z96=z85*z13→z97=z95+z96→z98=z88*z15→z99=z97+z98→z100=-z99→z101=z82*fac [z82,z85,z88,z100]→z102=z85*fac [z82,z85,z88,z100]→z103=z88*fac [z82,z85,z88,z100]→z104=z100*fac [z82,z85,z88,z100]→z121=z101*fac [z101,z102,z103,z104]→z122=z102*fac [z101,z102,z103,z104]→z123=z103*fac [z101,z102,z103,z104]→z124=z104*fac [z101,z102,z103,z104]→(z121*z24+z122*z26+z123*z28+z124=0) := by
 intro e63 e74 e75 e76 e77 e78 e79 e80 e81 e82 e83 e84 e85 e86 e87 e88 e94 e95 e96 e97 e98 e99 e100 e101 e102 e103 e104 e121 e122 e123 e124
 generalize fac [z101,z102,z103,z104]=f at *
 generalize fac [z82,z85,z88,z100]=g at *
 subst_vars; grind
theorem eV_pB1 (H : eV_Q q σ) : (q 121*q 24+q 122*q 26+q 123*q 28+q 124=0) := by
 have e63:q 63=0:=(H 63 _ rfl).trans eV_c63;have e74:q 74=q 24-q 11:=H 74 _ rfl;have e75:q 75=q 26-q 13:=H 75 _ rfl;have e76:q 76=q 28-q 15:=H 76 _ rfl;have e77:q 77=q 37-q 11:=H 77 _ rfl;have e78:q 78=q 39-q 13:=H 78 _ rfl;have e79:q 79=q 41-q 15:=H 79 _ rfl;have e80:q 80=q 75*q 79:=H 80 _ rfl;have e81:q 81=q 76*q 78:=H 81 _ rfl;have e82:q 82=q 80-q 81:=H 82 _ rfl;have e83:q 83=q 76*q 77:=H 83 _ rfl;have e84:q 84=q 74*q 79:=H 84 _ rfl;have e85:q 85=q 83-q 84:=H 85 _ rfl;have e86:q 86=q 74*q 78:=H 86 _ rfl;have e87:q 87=q 75*q 77:=H 87 _ rfl;have e88:q 88=q 86-q 87:=H 88 _ rfl;have e94:q 94=q 82*q 11:=H 94 _ rfl;have e95:q 95=q 63+q 94:=H 95 _ rfl;have e96:q 96=q 85*q 13:=H 96 _ rfl;have e97:q 97=q 95+q 96:=H 97 _ rfl;have e98:q 98=q 88*q 15:=H 98 _ rfl;have e99:q 99=q 97+q 98:=H 99 _ rfl;have e100:q 100=-q 99:=H 100 _ rfl;have e101:q 101=q 82*fac [q 82,q 85,q 88,q 100]:=H 101 _ rfl;have e102:q 102=q 85*fac [q 82,q 85,q 88,q 100]:=H 102 _ rfl;have e103:q 103=q 88*fac [q 82,q 85,q 88,q 100]:=H 103 _ rfl;have e104:q 104=q 100*fac [q 82,q 85,q 88,q 100]:=H 104 _ rfl;have e121:q 121=q 101*fac [q 101,q 102,q 103,q 104]:=H 121 _ rfl;have e122:q 122=q 102*fac [q 101,q 102,q 103,q 104]:=H 122 _ rfl;have e123:q 123=q 103*fac [q 101,q 102,q 103,q 104]:=H 123 _ rfl;have e124:q 124=q 104*fac [q 101,q 102,q 103,q 104]:=H 124 _ rfl
 exact eV_pB1z e63 e74 e75 e76 e77 e78 e79 e80 e81 e82 e83 e84 e85 e86 e87 e88 e94 e95 e96 e97 e98 e99 e100 e101 e102 e103 e104 e121 e122 e123 e124
theorem eV_pB2z {z11 z13 z15 z24 z26 z28 z37 z39 z41 z63 z74 z75 z76 z77 z78 z79 z80 z81 z82 z83 z84 z85 z86 z87 z88 z94 z95 z96 z97 z98 z99 z100 z101 z102 z103 z104 z121 z122 z123 z124 : Rat} : z63=0→z74=z24-z11→z75=z26-z13→z76=z28-z15→z77=z37-z11→z78=z39-z13→z79=z41-z15→z80=z75*z79→z81=z76*z78→z82=z80-z81→z83=z76*z77→z84=z74*z79→z85=z83-z84→z86=z74*z78→z87=z75*z77→z88=z86-z87→z94=z82*z11→z95=z63+z94→z96=z85*z13→z97=z95+z96→z98=z88*z15→z99=z97+z98→z100=-z99→z101=z82*fac [z82,z85,z88,z100]→z102=z85*fac [z82,z85,z88,z100]→z103=z88*fac [z82,z85,z88,z100]→z104=z100*fac [z82,z85,z88,z100]→z121=z101*fac [z101,z102,z103,z104]→z122=z102*fac [z101,z102,z103,z104]→z123=z103*fac [z101,z102,z103,z104]→z124=z104*fac [z101,z102,z103,z104]→(z121*z37+z122*z39+z123*z41+z124=0) := by
 intro e63 e74 e75 e76 e77 e78 e79 e80 e81 e82 e83 e84 e85 e86 e87 e88 e94 e95 e96 e97 e98 e99 e100 e101 e102 e103 e104 e121 e122 e123 e124
 generalize fac [z101,z102,z103,z104]=f at *
 generalize fac [z82,z85,z88,z100]=g at *
 subst_vars; grind
theorem eV_pB2 (H : eV_Q q σ) : (q 121*q 37+q 122*q 39+q 123*q 41+q 124=0) := by
 have e63:q 63=0:=(H 63 _ rfl).trans eV_c63;have e74:q 74=q 24-q 11:=H 74 _ rfl;have e75:q 75=q 26-q 13:=H 75 _ rfl;have e76:q 76=q 28-q 15:=H 76 _ rfl;have e77:q 77=q 37-q 11:=H 77 _ rfl;have e78:q 78=q 39-q 13:=H 78 _ rfl;have e79:q 79=q 41-q 15:=H 79 _ rfl;have e80:q 80=q 75*q 79:=H 80 _ rfl;have e81:q 81=q 76*q 78:=H 81 _ rfl;have e82:q 82=q 80-q 81:=H 82 _ rfl;have e83:q 83=q 76*q 77:=H 83 _ rfl;have e84:q 84=q 74*q 79:=H 84 _ rfl;have e85:q 85=q 83-q 84:=H 85 _ rfl;have e86:q 86=q 74*q 78:=H 86 _ rfl;have e87:q 87=q 75*q 77:=H 87 _ rfl;have e88:q 88=q 86-q 87:=H 88 _ rfl;have e94:q 94=q 82*q 11:=H 94 _ rfl;have e95:q 95=q 63+q 94:=H 95 _ rfl;have e96:q 96=q 85*q 13:=H 96 _ rfl;have e97:q 97=q 95+q 96:=H 97 _ rfl;have e98:q 98=q 88*q 15:=H 98 _ rfl;have e99:q 99=q 97+q 98:=H 99 _ rfl;have e100:q 100=-q 99:=H 100 _ rfl;have e101:q 101=q 82*fac [q 82,q 85,q 88,q 100]:=H 101 _ rfl;have e102:q 102=q 85*fac [q 82,q 85,q 88,q 100]:=H 102 _ rfl;have e103:q 103=q 88*fac [q 82,q 85,q 88,q 100]:=H 103 _ rfl;have e104:q 104=q 100*fac [q 82,q 85,q 88,q 100]:=H 104 _ rfl;have e121:q 121=q 101*fac [q 101,q 102,q 103,q 104]:=H 121 _ rfl;have e122:q 122=q 102*fac [q 101,q 102,q 103,q 104]:=H 122 _ rfl;have e123:q 123=q 103*fac [q 101,q 102,q 103,q 104]:=H 123 _ rfl;have e124:q 124=q 104*fac [q 101,q 102,q 103,q 104]:=H 124 _ rfl
 exact eV_pB2z e63 e74 e75 e76 e77 e78 e79 e80 e81 e82 e83 e84 e85 e86 e87 e88 e94 e95 e96 e97 e98 e99 e100 e101 e102 e103 e104 e121 e122 e123 e124
theorem eV_pX1z {z0 z1 z2 z16 z17 z18 z19 z20 z21 z22 z23 z24 z25 z26 z27 z28 z29 z30 z31 z32 z33 z34 z35 z36 z37 z38 z39 z40 z41 z63 z121 z122 z123 z124 z188 z189 z190 z196 z197 z198 z199 z200 z201 z202 z203 z204 z205 z206 z207 z208 z209 z210 z211 z212 z213 z214 z215 z237 z238 z239 z240 z241 z242 z243 z244 z245 z246 z247 z248 z249 z250 z251 z252 z253 z254 z255 z256 : Rat} : z19=z16-z0→z20=z17-z1→z21=z18-z2→z23=z22*z19→z24=z0+z23→z25=z22*z20→z26=z1+z25→z27=z22*z21→z28=z2+z27→z32=z29-z0→z33=z30-z1→z34=z31-z2→z36=z35*z32→z37=z0+z36→z38=z35*z33→z39=z1+z38→z40=z35*z34→z41=z2+z40→z63=0→z188=z29-z16→z189=z30-z17→z190=z31-z18→z196=z121*z16→z197=z63+z196→z198=z122*z17→z199=z197+z198→z200=z123*z18→z201=z199+z200→z202=z201+z124→z203=z121*z188→z204=z63+z203→z205=z122*z189→z206=z204+z205→z207=z123*z190→z208=z206+z207→z209=z202/z208→z210=z188*z209→z211=z189*z209→z212=z190*z209→z213=z16-z210→z214=z17-z211→z215=z18-z212→z237=z213-z24→z238=z214-z26→z239=z215-z28→z240=z37-z24→z241=z39-z26→z242=z41-z28→z243=z238*z242→z244=z239*z241→z245=z243-z244→z246=z239*z240→z247=z237*z242→z248=z246-z247→z249=z237*z241→z250=z238*z240→z251=z249-z250→z252=z245*z245→z253=z248*z248→z254=z252+z253→z255=z251*z251→z256=z254+z255→(¬ (z208=0))→(z121*z24+z122*z26+z123*z28+z124=0)→(z121*z37+z122*z39+z123*z41+z124=0)→(z256=0) := by
 intro e19 e20 e21 e23 e24 e25 e26 e27 e28 e32 e33 e34 e36 e37 e38 e39 e40 e41 e63 e188 e189 e190 e196 e197 e198 e199 e200 e201 e202 e203 e204 e205 e206 e207 e208 e209 e210 e211 e212 e213 e214 e215 e237 e238 e239 e240 e241 e242 e243 e244 e245 e246 e247 e248 e249 e250 e251 e252 e253 e254 e255 e256
 intro hg b1 b2
 have hd : z209*z208=z202 := by rw [e209]; exact Rat.div_mul_cancel hg
 clear e209
 rw [e24,e26,e28,e23,e25,e27] at b1
 rw [e37,e39,e41,e36,e38,e40] at b2
 have hba : z121*z32+z122*z33+z123*z34 - (z121*z19+z122*z20+z123*z21) ≠ 0 := by
  have : z208=z121*z32+z122*z33+z123*z34 - (z121*z19+z122*z20+z123*z21) := by clear hg hd b1 b2; clear e23 e24 e25 e26 e27 e28 e36 e37 e38 e39 e40 e41 e210 e211 e212 e213 e214 e215 e237 e238 e239 e240 e241 e242 e243 e244 e245 e246 e247 e248 e249 e250 e251 e252 e253 e254 e255 e256; subst_vars; grind
  rw [← this]; exact hg
 have v := sp_dsg (A := z121*z19+z122*z20+z123*z21) (B := z121*z32+z122*z33+z123*z34) (C := (z121*z0+z122*z1+z123*z2+z124)) (k := z22) (l := z35) (s := z209) (by clear hg hd b2 hba; clear e19 e20 e21 e23 e24 e25 e26 e27 e28 e32 e33 e34 e36 e37 e38 e39 e40 e41 e63 e188 e189 e190 e196 e197 e198 e199 e200 e201 e202 e203 e204 e205 e206 e207 e208 e210 e211 e212 e213 e214 e215 e237 e238 e239 e240 e241 e242 e243 e244 e245 e246 e247 e248 e249 e250 e251 e252 e253 e254 e255 e256; grind) (by clear hg hd b1 hba; clear e19 e20 e21 e23 e24 e25 e26 e27 e28 e32 e33 e34 e36 e37 e38 e39 e40 e41 e63 e188 e189 e190 e196 e197 e198 e199 e200 e201 e202 e203 e204 e205 e206 e207 e208 e210 e211 e212 e213 e214 e215 e237 e238 e239 e240 e241 e242 e243 e244 e245 e246 e247 e248 e249 e250 e251 e252 e253 e254 e255 e256; grind) (by clear hg b1 b2 hba; clear e23 e24 e25 e26 e27 e28 e36 e37 e38 e39 e40 e41 e210 e211 e212 e213 e214 e215 e237 e238 e239 e240 e241 e242 e243 e244 e245 e246 e247 e248 e249 e250 e251 e252 e253 e254 e255 e256; subst_vars; grind) hba
 clear hba
 clear hg hd b1 b2
 clear e63 e196 e197 e198 e199 e200 e201 e202 e203 e204 e205 e206 e207 e208
 refine (sp_sq3 e252 e253 e254 e255 e256).2 ⟨⟨?_,?_⟩,?_⟩
 ·have : z245=((1+z209 - z22)*z35 - z209*z22)*(z20*z34 - z21*z33) := by
   clear v; clear e19 e23 e24 e32 e36 e37 e188 e210 e213 e237 e240 e246 e247 e248 e249 e250 e251 e252 e253 e254 e255 e256; subst_vars; grind
  rw [this,v,Rat.zero_mul]
 ·have : z248=((1+z209 - z22)*z35 - z209*z22)*(z21*z32 - z19*z34) := by
   clear v; clear e20 e25 e26 e33 e38 e39 e189 e211 e214 e238 e241 e243 e244 e245 e249 e250 e251 e252 e253 e254 e255 e256; subst_vars; grind
  rw [this,v,Rat.zero_mul]
 ·have : z251=((1+z209 - z22)*z35 - z209*z22)*(z19*z33 - z20*z32) := by
   clear v; clear e21 e27 e28 e34 e40 e41 e190 e212 e215 e239 e242 e243 e244 e245 e246 e247 e248 e252 e253 e254 e255 e256; subst_vars; grind
  rw [this,v,Rat.zero_mul]
theorem eV_pX1 (H : eV_Q q σ) : (¬ (q 208=0))→(q 121*q 24+q 122*q 26+q 123*q 28+q 124=0)→(q 121*q 37+q 122*q 39+q 123*q 41+q 124=0)→(q 256=0) := by
 have e19:q 19=q 16-q 0:=H 19 _ rfl;have e20:q 20=q 17-q 1:=H 20 _ rfl;have e21:q 21=q 18-q 2:=H 21 _ rfl;have e23:q 23=q 22*q 19:=H 23 _ rfl;have e24:q 24=q 0+q 23:=H 24 _ rfl;have e25:q 25=q 22*q 20:=H 25 _ rfl;have e26:q 26=q 1+q 25:=H 26 _ rfl;have e27:q 27=q 22*q 21:=H 27 _ rfl;have e28:q 28=q 2+q 27:=H 28 _ rfl;have e32:q 32=q 29-q 0:=H 32 _ rfl;have e33:q 33=q 30-q 1:=H 33 _ rfl;have e34:q 34=q 31-q 2:=H 34 _ rfl;have e36:q 36=q 35*q 32:=H 36 _ rfl;have e37:q 37=q 0+q 36:=H 37 _ rfl;have e38:q 38=q 35*q 33:=H 38 _ rfl;have e39:q 39=q 1+q 38:=H 39 _ rfl;have e40:q 40=q 35*q 34:=H 40 _ rfl;have e41:q 41=q 2+q 40:=H 41 _ rfl;have e63:q 63=0:=(H 63 _ rfl).trans eV_c63;have e188:q 188=q 29-q 16:=H 188 _ rfl;have e189:q 189=q 30-q 17:=H 189 _ rfl;have e190:q 190=q 31-q 18:=H 190 _ rfl;have e196:q 196=q 121*q 16:=H 196 _ rfl;have e197:q 197=q 63+q 196:=H 197 _ rfl;have e198:q 198=q 122*q 17:=H 198 _ rfl;have e199:q 199=q 197+q 198:=H 199 _ rfl;have e200:q 200=q 123*q 18:=H 200 _ rfl;have e201:q 201=q 199+q 200:=H 201 _ rfl;have e202:q 202=q 201+q 124:=H 202 _ rfl;have e203:q 203=q 121*q 188:=H 203 _ rfl;have e204:q 204=q 63+q 203:=H 204 _ rfl;have e205:q 205=q 122*q 189:=H 205 _ rfl;have e206:q 206=q 204+q 205:=H 206 _ rfl;have e207:q 207=q 123*q 190:=H 207 _ rfl;have e208:q 208=q 206+q 207:=H 208 _ rfl;have e209:q 209=q 202/q 208:=H 209 _ rfl;have e210:q 210=q 188*q 209:=H 210 _ rfl;have e211:q 211=q 189*q 209:=H 211 _ rfl;have e212:q 212=q 190*q 209:=H 212 _ rfl;have e213:q 213=q 16-q 210:=H 213 _ rfl;have e214:q 214=q 17-q 211:=H 214 _ rfl;have e215:q 215=q 18-q 212:=H 215 _ rfl;have e237:q 237=q 213-q 24:=H 237 _ rfl;have e238:q 238=q 214-q 26:=H 238 _ rfl;have e239:q 239=q 215-q 28:=H 239 _ rfl;have e240:q 240=q 37-q 24:=H 240 _ rfl;have e241:q 241=q 39-q 26:=H 241 _ rfl;have e242:q 242=q 41-q 28:=H 242 _ rfl;have e243:q 243=q 238*q 242:=H 243 _ rfl;have e244:q 244=q 239*q 241:=H 244 _ rfl;have e245:q 245=q 243-q 244:=H 245 _ rfl;have e246:q 246=q 239*q 240:=H 246 _ rfl;have e247:q 247=q 237*q 242:=H 247 _ rfl;have e248:q 248=q 246-q 247:=H 248 _ rfl;have e249:q 249=q 237*q 241:=H 249 _ rfl;have e250:q 250=q 238*q 240:=H 250 _ rfl;have e251:q 251=q 249-q 250:=H 251 _ rfl;have e252:q 252=q 245*q 245:=H 252 _ rfl;have e253:q 253=q 248*q 248:=H 253 _ rfl;have e254:q 254=q 252+q 253:=H 254 _ rfl;have e255:q 255=q 251*q 251:=H 255 _ rfl;have e256:q 256=q 254+q 255:=H 256 _ rfl
 exact eV_pX1z e19 e20 e21 e23 e24 e25 e26 e27 e28 e32 e33 e34 e36 e37 e38 e39 e40 e41 e63 e188 e189 e190 e196 e197 e198 e199 e200 e201 e202 e203 e204 e205 e206 e207 e208 e209 e210 e211 e212 e213 e214 e215 e237 e238 e239 e240 e241 e242 e243 e244 e245 e246 e247 e248 e249 e250 e251 e252 e253 e254 e255 e256
theorem eV_pA2 (H : eV_Q q σ) : (¬ (q 61=0))→(¬ (q 264=0)) := by
 have e42:q 42=q 16-q 3:=H 42 _ rfl;have e43:q 43=q 17-q 4:=H 43 _ rfl;have e44:q 44=q 18-q 5:=H 44 _ rfl;have e45:q 45=q 29-q 3:=H 45 _ rfl;have e46:q 46=q 30-q 4:=H 46 _ rfl;have e47:q 47=q 31-q 5:=H 47 _ rfl;have e48:q 48=q 43*q 47:=H 48 _ rfl;have e49:q 49=q 44*q 46:=H 49 _ rfl;have e50:q 50=q 48-q 49:=H 50 _ rfl;have e51:q 51=q 44*q 45:=H 51 _ rfl;have e52:q 52=q 42*q 47:=H 52 _ rfl;have e53:q 53=q 51-q 52:=H 53 _ rfl;have e54:q 54=q 42*q 46:=H 54 _ rfl;have e55:q 55=q 43*q 45:=H 55 _ rfl;have e56:q 56=q 54-q 55:=H 56 _ rfl;have e57:q 57=q 50*q 50:=H 57 _ rfl;have e58:q 58=q 53*q 53:=H 58 _ rfl;have e59:q 59=q 57+q 58:=H 59 _ rfl;have e60:q 60=q 56*q 56:=H 60 _ rfl;have e61:q 61=q 59+q 60:=H 61 _ rfl;have e257:q 257=q 3-q 29:=H 257 _ rfl;have e258:q 258=q 4-q 30:=H 258 _ rfl;have e259:q 259=q 5-q 31:=H 259 _ rfl;have e260:q 260=q 257*q 257:=H 260 _ rfl;have e261:q 261=q 258*q 258:=H 261 _ rfl;have e262:q 262=q 260+q 261:=H 262 _ rfl;have e263:q 263=q 259*q 259:=H 263 _ rfl;have e264:q 264=q 262+q 263:=H 264 _ rfl
 clear H
 intro hn
 intro h
 have ⟨⟨a,b⟩,c⟩ := (sp_sq3 e260 e261 e262 e263 e264).1 h
 apply hn
 refine (sp_sq3 e57 e58 e59 e60 e61).2 ⟨⟨?_,?_⟩,?_⟩ <;> (clear hn h; clear e57 e58 e59 e60 e61 e260 e261 e262 e263 e264; subst_vars; grind)
theorem eV_pZ (H : eV_Q q σ) : (q 142=0)→(¬ (q 208=0))→(¬ (q 277=0)) := by
 have e42:q 42=q 16-q 3:=H 42 _ rfl;have e43:q 43=q 17-q 4:=H 43 _ rfl;have e44:q 44=q 18-q 5:=H 44 _ rfl;have e63:q 63=0:=(H 63 _ rfl).trans eV_c63;have e137:q 137=q 121*q 42:=H 137 _ rfl;have e138:q 138=q 63+q 137:=H 138 _ rfl;have e139:q 139=q 122*q 43:=H 139 _ rfl;have e140:q 140=q 138+q 139:=H 140 _ rfl;have e141:q 141=q 123*q 44:=H 141 _ rfl;have e142:q 142=q 140+q 141:=H 142 _ rfl;have e188:q 188=q 29-q 16:=H 188 _ rfl;have e189:q 189=q 30-q 17:=H 189 _ rfl;have e190:q 190=q 31-q 18:=H 190 _ rfl;have e203:q 203=q 121*q 188:=H 203 _ rfl;have e204:q 204=q 63+q 203:=H 204 _ rfl;have e205:q 205=q 122*q 189:=H 205 _ rfl;have e206:q 206=q 204+q 205:=H 206 _ rfl;have e207:q 207=q 123*q 190:=H 207 _ rfl;have e208:q 208=q 206+q 207:=H 208 _ rfl;have e257:q 257=q 3-q 29:=H 257 _ rfl;have e258:q 258=q 4-q 30:=H 258 _ rfl;have e259:q 259=q 5-q 31:=H 259 _ rfl;have e272:q 272=q 121*q 257:=H 272 _ rfl;have e273:q 273=q 63+q 272:=H 273 _ rfl;have e274:q 274=q 122*q 258:=H 274 _ rfl;have e275:q 275=q 273+q 274:=H 275 _ rfl;have e276:q 276=q 123*q 259:=H 276 _ rfl;have e277:q 277=q 275+q 276:=H 277 _ rfl
 clear H
 intro h k
 intro y; apply k
 subst_vars; grind
theorem eV_pV2z {z3 z4 z5 z29 z30 z31 z63 z121 z122 z123 z124 z257 z258 z259 z265 z266 z267 z268 z269 z270 z271 z272 z273 z274 z275 z276 z277 z278 z279 z280 z281 z282 z283 z284 z285 z286 z287 z288 z289 z290 z291 : Rat} : z63=0→z257=z3-z29→z258=z4-z30→z259=z5-z31→z265=z121*z29→z266=z63+z265→z267=z122*z30→z268=z266+z267→z269=z123*z31→z270=z268+z269→z271=z270+z124→z272=z121*z257→z273=z63+z272→z274=z122*z258→z275=z273+z274→z276=z123*z259→z277=z275+z276→z278=z271/z277→z279=z257*z278→z280=z258*z278→z281=z259*z278→z282=z29-z279→z283=z30-z280→z284=z31-z281→z285=z121*z282→z286=z63+z285→z287=z122*z283→z288=z286+z287→z289=z123*z284→z290=z288+z289→z291=z290+z124→(¬ (z277=0))→(z291=0) := by
 intro e63 e257 e258 e259 e265 e266 e267 e268 e269 e270 e271 e272 e273 e274 e275 e276 e277 e278 e279 e280 e281 e282 e283 e284 e285 e286 e287 e288 e289 e290 e291
 intro h
 have hd : z278*z277=z271 := by rw [e278]; exact Rat.div_mul_cancel h
 clear h e278
 subst_vars; grind
theorem eV_pV2 (H : eV_Q q σ) : (¬ (q 277=0))→(q 291=0) := by
 have e63:q 63=0:=(H 63 _ rfl).trans eV_c63;have e257:q 257=q 3-q 29:=H 257 _ rfl;have e258:q 258=q 4-q 30:=H 258 _ rfl;have e259:q 259=q 5-q 31:=H 259 _ rfl;have e265:q 265=q 121*q 29:=H 265 _ rfl;have e266:q 266=q 63+q 265:=H 266 _ rfl;have e267:q 267=q 122*q 30:=H 267 _ rfl;have e268:q 268=q 266+q 267:=H 268 _ rfl;have e269:q 269=q 123*q 31:=H 269 _ rfl;have e270:q 270=q 268+q 269:=H 270 _ rfl;have e271:q 271=q 270+q 124:=H 271 _ rfl;have e272:q 272=q 121*q 257:=H 272 _ rfl;have e273:q 273=q 63+q 272:=H 273 _ rfl;have e274:q 274=q 122*q 258:=H 274 _ rfl;have e275:q 275=q 273+q 274:=H 275 _ rfl;have e276:q 276=q 123*q 259:=H 276 _ rfl;have e277:q 277=q 275+q 276:=H 277 _ rfl;have e278:q 278=q 271/q 277:=H 278 _ rfl;have e279:q 279=q 257*q 278:=H 279 _ rfl;have e280:q 280=q 258*q 278:=H 280 _ rfl;have e281:q 281=q 259*q 278:=H 281 _ rfl;have e282:q 282=q 29-q 279:=H 282 _ rfl;have e283:q 283=q 30-q 280:=H 283 _ rfl;have e284:q 284=q 31-q 281:=H 284 _ rfl;have e285:q 285=q 121*q 282:=H 285 _ rfl;have e286:q 286=q 63+q 285:=H 286 _ rfl;have e287:q 287=q 122*q 283:=H 287 _ rfl;have e288:q 288=q 286+q 287:=H 288 _ rfl;have e289:q 289=q 123*q 284:=H 289 _ rfl;have e290:q 290=q 288+q 289:=H 290 _ rfl;have e291:q 291=q 290+q 124:=H 291 _ rfl
 exact eV_pV2z e63 e257 e258 e259 e265 e266 e267 e268 e269 e270 e271 e272 e273 e274 e275 e276 e277 e278 e279 e280 e281 e282 e283 e284 e285 e286 e287 e288 e289 e290 e291
theorem eV_pW2z {z0 z1 z2 z3 z4 z5 z6 z7 z8 z9 z10 z11 z12 z13 z14 z15 z24 z26 z28 z29 z30 z31 z32 z33 z34 z35 z36 z37 z38 z39 z40 z41 z63 z74 z75 z76 z77 z78 z79 z80 z81 z82 z83 z84 z85 z86 z87 z88 z89 z90 z91 z92 z93 z121 z122 z123 z124 z257 z258 z259 z272 z273 z274 z275 z276 z277 z292 z293 z294 z295 z296 z297 z298 z299 z300 z301 z302 z303 z304 z305 z309 z310 z311 : Rat} : z6=z3-z0→z7=z4-z1→z8=z5-z2→z10=z9*z6→z11=z0+z10→z12=z9*z7→z13=z1+z12→z14=z9*z8→z15=z2+z14→z32=z29-z0→z33=z30-z1→z34=z31-z2→z36=z35*z32→z37=z0+z36→z38=z35*z33→z39=z1+z38→z40=z35*z34→z41=z2+z40→z63=0→z74=z24-z11→z75=z26-z13→z76=z28-z15→z77=z37-z11→z78=z39-z13→z79=z41-z15→z80=z75*z79→z81=z76*z78→z82=z80-z81→z83=z76*z77→z84=z74*z79→z85=z83-z84→z86=z74*z78→z87=z75*z77→z88=z86-z87→z89=z82*z82→z90=z85*z85→z91=z89+z90→z92=z88*z88→z93=z91+z92→z257=z3-z29→z258=z4-z30→z259=z5-z31→z272=z121*z257→z273=z63+z272→z274=z122*z258→z275=z273+z274→z276=z123*z259→z277=z275+z276→z292=z33*z8→z293=z34*z7→z294=z292-z293→z295=z34*z6→z296=z32*z8→z297=z295-z296→z298=z32*z7→z299=z33*z6→z300=z298-z299→z301=z294*z294→z302=z297*z297→z303=z301+z302→z304=z300*z300→z305=z303+z304→z309=z11-z37→z310=z13-z39→z311=z15-z41→(¬ (z93=0))→(¬ (z277=0))→(z121*z37+z122*z39+z123*z41+z124=0)→(z121*z11+z122*z13+z123*z15+z124=0)→(¬ (z305=0)) := by
 intro e6 e7 e8 e10 e11 e12 e13 e14 e15 e32 e33 e34 e36 e37 e38 e39 e40 e41 e63 e74 e75 e76 e77 e78 e79 e80 e81 e82 e83 e84 e85 e86 e87 e88 e89 e90 e91 e92 e93 e257 e258 e259 e272 e273 e274 e275 e276 e277 e292 e293 e294 e295 e296 e297 e298 e299 e300 e301 e302 e303 e304 e305 e309 e310 e311
 intro hn hg b2 b0
 intro h
 have ⟨⟨c1,c2⟩,c3⟩ := (sp_sq3 e301 e302 e303 e304 e305).1 h
 rw [e294,e292,e293] at c1
 rw [e297,e295,e296] at c2
 rw [e300,e298,e299] at c3
 rw [e37,e39,e41,e36,e38,e40] at b2
 rw [e11,e13,e15,e10,e12,e14] at b0
 have ⟨l1,l2,l3⟩ := sp_ln (B1 := z121) (o1 := z0) (a1 := z32) (b1 := z6) (B2 := z122) (o2 := z1) (a2 := z33) (b2 := z7) (B3 := z123) (o3 := z2) (a3 := z34) (b3 := z8) (d := z124) (k := z35) (l := z9) c1 c2 c3 b2 b0
 have hG : z277=z121*(z6 - z32)+z122*(z7 - z33)+z123*(z8 - z34) := by clear hn hg h c1 c2 c3 b2 b0 l1 l2 l3; clear e10 e11 e12 e13 e14 e15 e36 e37 e38 e39 e40 e41 e74 e75 e76 e77 e78 e79 e80 e81 e82 e83 e84 e85 e86 e87 e88 e89 e90 e91 e92 e93 e292 e293 e294 e295 e296 e297 e298 e299 e300 e301 e302 e303 e304 e305 e309 e310 e311; subst_vars; grind
 rw [← hG] at l1 l2 l3; clear c1 c2 c3 b2 b0 hG h; apply hn
 have m0 : z309=0 := by
  rw [e309,e37,e11,e36,e10]; have := (Rat.mul_eq_zero.1 l1).resolve_right hg; grind
 have m1 : z310=0 := by
  rw [e310,e39,e13,e38,e12]; have := (Rat.mul_eq_zero.1 l2).resolve_right hg; grind
 have m2 : z311=0 := by
  rw [e311,e41,e15,e40,e14]; have := (Rat.mul_eq_zero.1 l3).resolve_right hg; grind
 clear l1 l2 l3 hg
 refine (sp_sq3 e89 e90 e91 e92 e93).2 ⟨⟨?_,?_⟩,?_⟩ <;> (clear e6 e7 e8 e10 e11 e12 e13 e14 e15 e32 e33 e34 e36 e37 e38 e39 e40 e41 e63 e89 e90 e91 e92 e93 e257 e258 e259 e272 e273 e274 e275 e276 e277 e292 e293 e294 e295 e296 e297 e298 e299 e300 e301 e302 e303 e304 e305; clear hn; subst_vars; grind)
theorem eV_pW2 (H : eV_Q q σ) : (¬ (q 93=0))→(¬ (q 277=0))→(q 121*q 37+q 122*q 39+q 123*q 41+q 124=0)→(q 121*q 11+q 122*q 13+q 123*q 15+q 124=0)→(¬ (q 305=0)) := by
 have e6:q 6=q 3-q 0:=H 6 _ rfl;have e7:q 7=q 4-q 1:=H 7 _ rfl;have e8:q 8=q 5-q 2:=H 8 _ rfl;have e10:q 10=q 9*q 6:=H 10 _ rfl;have e11:q 11=q 0+q 10:=H 11 _ rfl;have e12:q 12=q 9*q 7:=H 12 _ rfl;have e13:q 13=q 1+q 12:=H 13 _ rfl;have e14:q 14=q 9*q 8:=H 14 _ rfl;have e15:q 15=q 2+q 14:=H 15 _ rfl;have e32:q 32=q 29-q 0:=H 32 _ rfl;have e33:q 33=q 30-q 1:=H 33 _ rfl;have e34:q 34=q 31-q 2:=H 34 _ rfl;have e36:q 36=q 35*q 32:=H 36 _ rfl;have e37:q 37=q 0+q 36:=H 37 _ rfl;have e38:q 38=q 35*q 33:=H 38 _ rfl;have e39:q 39=q 1+q 38:=H 39 _ rfl;have e40:q 40=q 35*q 34:=H 40 _ rfl;have e41:q 41=q 2+q 40:=H 41 _ rfl;have e63:q 63=0:=(H 63 _ rfl).trans eV_c63;have e74:q 74=q 24-q 11:=H 74 _ rfl;have e75:q 75=q 26-q 13:=H 75 _ rfl;have e76:q 76=q 28-q 15:=H 76 _ rfl;have e77:q 77=q 37-q 11:=H 77 _ rfl;have e78:q 78=q 39-q 13:=H 78 _ rfl;have e79:q 79=q 41-q 15:=H 79 _ rfl;have e80:q 80=q 75*q 79:=H 80 _ rfl;have e81:q 81=q 76*q 78:=H 81 _ rfl;have e82:q 82=q 80-q 81:=H 82 _ rfl;have e83:q 83=q 76*q 77:=H 83 _ rfl;have e84:q 84=q 74*q 79:=H 84 _ rfl;have e85:q 85=q 83-q 84:=H 85 _ rfl;have e86:q 86=q 74*q 78:=H 86 _ rfl;have e87:q 87=q 75*q 77:=H 87 _ rfl;have e88:q 88=q 86-q 87:=H 88 _ rfl;have e89:q 89=q 82*q 82:=H 89 _ rfl;have e90:q 90=q 85*q 85:=H 90 _ rfl;have e91:q 91=q 89+q 90:=H 91 _ rfl;have e92:q 92=q 88*q 88:=H 92 _ rfl;have e93:q 93=q 91+q 92:=H 93 _ rfl;have e257:q 257=q 3-q 29:=H 257 _ rfl;have e258:q 258=q 4-q 30:=H 258 _ rfl;have e259:q 259=q 5-q 31:=H 259 _ rfl;have e272:q 272=q 121*q 257:=H 272 _ rfl;have e273:q 273=q 63+q 272:=H 273 _ rfl;have e274:q 274=q 122*q 258:=H 274 _ rfl;have e275:q 275=q 273+q 274:=H 275 _ rfl;have e276:q 276=q 123*q 259:=H 276 _ rfl;have e277:q 277=q 275+q 276:=H 277 _ rfl;have e292:q 292=q 33*q 8:=H 292 _ rfl;have e293:q 293=q 34*q 7:=H 293 _ rfl;have e294:q 294=q 292-q 293:=H 294 _ rfl;have e295:q 295=q 34*q 6:=H 295 _ rfl;have e296:q 296=q 32*q 8:=H 296 _ rfl;have e297:q 297=q 295-q 296:=H 297 _ rfl;have e298:q 298=q 32*q 7:=H 298 _ rfl;have e299:q 299=q 33*q 6:=H 299 _ rfl;have e300:q 300=q 298-q 299:=H 300 _ rfl;have e301:q 301=q 294*q 294:=H 301 _ rfl;have e302:q 302=q 297*q 297:=H 302 _ rfl;have e303:q 303=q 301+q 302:=H 303 _ rfl;have e304:q 304=q 300*q 300:=H 304 _ rfl;have e305:q 305=q 303+q 304:=H 305 _ rfl;have e309:q 309=q 11-q 37:=H 309 _ rfl;have e310:q 310=q 13-q 39:=H 310 _ rfl;have e311:q 311=q 15-q 41:=H 311 _ rfl
 exact eV_pW2z e6 e7 e8 e10 e11 e12 e13 e14 e15 e32 e33 e34 e36 e37 e38 e39 e40 e41 e63 e74 e75 e76 e77 e78 e79 e80 e81 e82 e83 e84 e85 e86 e87 e88 e89 e90 e91 e92 e93 e257 e258 e259 e272 e273 e274 e275 e276 e277 e292 e293 e294 e295 e296 e297 e298 e299 e300 e301 e302 e303 e304 e305 e309 e310 e311
theorem eV_pB0z {z11 z13 z15 z24 z26 z28 z37 z39 z41 z63 z74 z75 z76 z77 z78 z79 z80 z81 z82 z83 z84 z85 z86 z87 z88 z94 z95 z96 z97 z98 z99 z100 z101 z102 z103 z104 z121 z122 z123 z124 : Rat} : z63=0→z74=z24-z11→z75=z26-z13→z76=z28-z15→z77=z37-z11→z78=z39-z13→z79=z41-z15→z80=z75*z79→z81=z76*z78→z82=z80-z81→z83=z76*z77→z84=z74*z79→z85=z83-z84→z86=z74*z78→z87=z75*z77→z88=z86-z87→z94=z82*z11→z95=z63+z94→z96=z85*z13→z97=z95+z96→z98=z88*z15→z99=z97+z98→z100=-z99→z101=z82*fac [z82,z85,z88,z100]→z102=z85*fac [z82,z85,z88,z100]→z103=z88*fac [z82,z85,z88,z100]→z104=z100*fac [z82,z85,z88,z100]→z121=z101*fac [z101,z102,z103,z104]→z122=z102*fac [z101,z102,z103,z104]→z123=z103*fac [z101,z102,z103,z104]→z124=z104*fac [z101,z102,z103,z104]→(z121*z11+z122*z13+z123*z15+z124=0) := by
 intro e63 e74 e75 e76 e77 e78 e79 e80 e81 e82 e83 e84 e85 e86 e87 e88 e94 e95 e96 e97 e98 e99 e100 e101 e102 e103 e104 e121 e122 e123 e124
 generalize fac [z101,z102,z103,z104]=f at *
 generalize fac [z82,z85,z88,z100]=g at *
 subst_vars; grind
theorem eV_pB0 (H : eV_Q q σ) : (q 121*q 11+q 122*q 13+q 123*q 15+q 124=0) := by
 have e63:q 63=0:=(H 63 _ rfl).trans eV_c63;have e74:q 74=q 24-q 11:=H 74 _ rfl;have e75:q 75=q 26-q 13:=H 75 _ rfl;have e76:q 76=q 28-q 15:=H 76 _ rfl;have e77:q 77=q 37-q 11:=H 77 _ rfl;have e78:q 78=q 39-q 13:=H 78 _ rfl;have e79:q 79=q 41-q 15:=H 79 _ rfl;have e80:q 80=q 75*q 79:=H 80 _ rfl;have e81:q 81=q 76*q 78:=H 81 _ rfl;have e82:q 82=q 80-q 81:=H 82 _ rfl;have e83:q 83=q 76*q 77:=H 83 _ rfl;have e84:q 84=q 74*q 79:=H 84 _ rfl;have e85:q 85=q 83-q 84:=H 85 _ rfl;have e86:q 86=q 74*q 78:=H 86 _ rfl;have e87:q 87=q 75*q 77:=H 87 _ rfl;have e88:q 88=q 86-q 87:=H 88 _ rfl;have e94:q 94=q 82*q 11:=H 94 _ rfl;have e95:q 95=q 63+q 94:=H 95 _ rfl;have e96:q 96=q 85*q 13:=H 96 _ rfl;have e97:q 97=q 95+q 96:=H 97 _ rfl;have e98:q 98=q 88*q 15:=H 98 _ rfl;have e99:q 99=q 97+q 98:=H 99 _ rfl;have e100:q 100=-q 99:=H 100 _ rfl;have e101:q 101=q 82*fac [q 82,q 85,q 88,q 100]:=H 101 _ rfl;have e102:q 102=q 85*fac [q 82,q 85,q 88,q 100]:=H 102 _ rfl;have e103:q 103=q 88*fac [q 82,q 85,q 88,q 100]:=H 103 _ rfl;have e104:q 104=q 100*fac [q 82,q 85,q 88,q 100]:=H 104 _ rfl;have e121:q 121=q 101*fac [q 101,q 102,q 103,q 104]:=H 121 _ rfl;have e122:q 122=q 102*fac [q 101,q 102,q 103,q 104]:=H 122 _ rfl;have e123:q 123=q 103*fac [q 101,q 102,q 103,q 104]:=H 123 _ rfl;have e124:q 124=q 104*fac [q 101,q 102,q 103,q 104]:=H 124 _ rfl
 exact eV_pB0z e63 e74 e75 e76 e77 e78 e79 e80 e81 e82 e83 e84 e85 e86 e87 e88 e94 e95 e96 e97 e98 e99 e100 e101 e102 e103 e104 e121 e122 e123 e124
theorem eV_pX2z {z0 z1 z2 z3 z4 z5 z6 z7 z8 z9 z10 z11 z12 z13 z14 z15 z29 z30 z31 z32 z33 z34 z35 z36 z37 z38 z39 z40 z41 z63 z121 z122 z123 z124 z257 z258 z259 z265 z266 z267 z268 z269 z270 z271 z272 z273 z274 z275 z276 z277 z278 z279 z280 z281 z282 z283 z284 z306 z307 z308 z309 z310 z311 z312 z313 z314 z315 z316 z317 z318 z319 z320 z321 z322 z323 z324 z325 : Rat} : z6=z3-z0→z7=z4-z1→z8=z5-z2→z10=z9*z6→z11=z0+z10→z12=z9*z7→z13=z1+z12→z14=z9*z8→z15=z2+z14→z32=z29-z0→z33=z30-z1→z34=z31-z2→z36=z35*z32→z37=z0+z36→z38=z35*z33→z39=z1+z38→z40=z35*z34→z41=z2+z40→z63=0→z257=z3-z29→z258=z4-z30→z259=z5-z31→z265=z121*z29→z266=z63+z265→z267=z122*z30→z268=z266+z267→z269=z123*z31→z270=z268+z269→z271=z270+z124→z272=z121*z257→z273=z63+z272→z274=z122*z258→z275=z273+z274→z276=z123*z259→z277=z275+z276→z278=z271/z277→z279=z257*z278→z280=z258*z278→z281=z259*z278→z282=z29-z279→z283=z30-z280→z284=z31-z281→z306=z282-z37→z307=z283-z39→z308=z284-z41→z309=z11-z37→z310=z13-z39→z311=z15-z41→z312=z307*z311→z313=z308*z310→z314=z312-z313→z315=z308*z309→z316=z306*z311→z317=z315-z316→z318=z306*z310→z319=z307*z309→z320=z318-z319→z321=z314*z314→z322=z317*z317→z323=z321+z322→z324=z320*z320→z325=z323+z324→(¬ (z277=0))→(z121*z37+z122*z39+z123*z41+z124=0)→(z121*z11+z122*z13+z123*z15+z124=0)→(z325=0) := by
 intro e6 e7 e8 e10 e11 e12 e13 e14 e15 e32 e33 e34 e36 e37 e38 e39 e40 e41 e63 e257 e258 e259 e265 e266 e267 e268 e269 e270 e271 e272 e273 e274 e275 e276 e277 e278 e279 e280 e281 e282 e283 e284 e306 e307 e308 e309 e310 e311 e312 e313 e314 e315 e316 e317 e318 e319 e320 e321 e322 e323 e324 e325
 intro hg b2 b0
 have hd : z278*z277=z271 := by rw [e278]; exact Rat.div_mul_cancel hg
 clear e278
 rw [e37,e39,e41,e36,e38,e40] at b2
 rw [e11,e13,e15,e10,e12,e14] at b0
 have hba : z121*z6+z122*z7+z123*z8 - (z121*z32+z122*z33+z123*z34) ≠ 0 := by
  have : z277=z121*z6+z122*z7+z123*z8 - (z121*z32+z122*z33+z123*z34) := by clear hg hd b2 b0; clear e10 e11 e12 e13 e14 e15 e36 e37 e38 e39 e40 e41 e279 e280 e281 e282 e283 e284 e306 e307 e308 e309 e310 e311 e312 e313 e314 e315 e316 e317 e318 e319 e320 e321 e322 e323 e324 e325; subst_vars; grind
  rw [← this]; exact hg
 have v := sp_dsg (A := z121*z32+z122*z33+z123*z34) (B := z121*z6+z122*z7+z123*z8) (C := (z121*z0+z122*z1+z123*z2+z124)) (k := z35) (l := z9) (s := z278) (by clear hg hd b0 hba; clear e6 e7 e8 e10 e11 e12 e13 e14 e15 e32 e33 e34 e36 e37 e38 e39 e40 e41 e63 e257 e258 e259 e265 e266 e267 e268 e269 e270 e271 e272 e273 e274 e275 e276 e277 e279 e280 e281 e282 e283 e284 e306 e307 e308 e309 e310 e311 e312 e313 e314 e315 e316 e317 e318 e319 e320 e321 e322 e323 e324 e325; grind) (by clear hg hd b2 hba; clear e6 e7 e8 e10 e11 e12 e13 e14 e15 e32 e33 e34 e36 e37 e38 e39 e40 e41 e63 e257 e258 e259 e265 e266 e267 e268 e269 e270 e271 e272 e273 e274 e275 e276 e277 e279 e280 e281 e282 e283 e284 e306 e307 e308 e309 e310 e311 e312 e313 e314 e315 e316 e317 e318 e319 e320 e321 e322 e323 e324 e325; grind) (by clear hg b2 b0 hba; clear e10 e11 e12 e13 e14 e15 e36 e37 e38 e39 e40 e41 e279 e280 e281 e282 e283 e284 e306 e307 e308 e309 e310 e311 e312 e313 e314 e315 e316 e317 e318 e319 e320 e321 e322 e323 e324 e325; subst_vars; grind) hba
 clear hba
 clear hg hd b2 b0
 clear e63 e265 e266 e267 e268 e269 e270 e271 e272 e273 e274 e275 e276 e277
 refine (sp_sq3 e321 e322 e323 e324 e325).2 ⟨⟨?_,?_⟩,?_⟩
 ·have : z314=((1+z278 - z35)*z9 - z278*z35)*(z33*z8 - z34*z7) := by
   clear v; clear e6 e10 e11 e32 e36 e37 e257 e279 e282 e306 e309 e315 e316 e317 e318 e319 e320 e321 e322 e323 e324 e325; subst_vars; grind
  rw [this,v,Rat.zero_mul]
 ·have : z317=((1+z278 - z35)*z9 - z278*z35)*(z34*z6 - z32*z8) := by
   clear v; clear e7 e12 e13 e33 e38 e39 e258 e280 e283 e307 e310 e312 e313 e314 e318 e319 e320 e321 e322 e323 e324 e325; subst_vars; grind
  rw [this,v,Rat.zero_mul]
 ·have : z320=((1+z278 - z35)*z9 - z278*z35)*(z32*z7 - z33*z6) := by
   clear v; clear e8 e14 e15 e34 e40 e41 e259 e281 e284 e308 e311 e312 e313 e314 e315 e316 e317 e321 e322 e323 e324 e325; subst_vars; grind
  rw [this,v,Rat.zero_mul]
theorem eV_pX2 (H : eV_Q q σ) : (¬ (q 277=0))→(q 121*q 37+q 122*q 39+q 123*q 41+q 124=0)→(q 121*q 11+q 122*q 13+q 123*q 15+q 124=0)→(q 325=0) := by
 have e6:q 6=q 3-q 0:=H 6 _ rfl;have e7:q 7=q 4-q 1:=H 7 _ rfl;have e8:q 8=q 5-q 2:=H 8 _ rfl;have e10:q 10=q 9*q 6:=H 10 _ rfl;have e11:q 11=q 0+q 10:=H 11 _ rfl;have e12:q 12=q 9*q 7:=H 12 _ rfl;have e13:q 13=q 1+q 12:=H 13 _ rfl;have e14:q 14=q 9*q 8:=H 14 _ rfl;have e15:q 15=q 2+q 14:=H 15 _ rfl;have e32:q 32=q 29-q 0:=H 32 _ rfl;have e33:q 33=q 30-q 1:=H 33 _ rfl;have e34:q 34=q 31-q 2:=H 34 _ rfl;have e36:q 36=q 35*q 32:=H 36 _ rfl;have e37:q 37=q 0+q 36:=H 37 _ rfl;have e38:q 38=q 35*q 33:=H 38 _ rfl;have e39:q 39=q 1+q 38:=H 39 _ rfl;have e40:q 40=q 35*q 34:=H 40 _ rfl;have e41:q 41=q 2+q 40:=H 41 _ rfl;have e63:q 63=0:=(H 63 _ rfl).trans eV_c63;have e257:q 257=q 3-q 29:=H 257 _ rfl;have e258:q 258=q 4-q 30:=H 258 _ rfl;have e259:q 259=q 5-q 31:=H 259 _ rfl;have e265:q 265=q 121*q 29:=H 265 _ rfl;have e266:q 266=q 63+q 265:=H 266 _ rfl;have e267:q 267=q 122*q 30:=H 267 _ rfl;have e268:q 268=q 266+q 267:=H 268 _ rfl;have e269:q 269=q 123*q 31:=H 269 _ rfl;have e270:q 270=q 268+q 269:=H 270 _ rfl;have e271:q 271=q 270+q 124:=H 271 _ rfl;have e272:q 272=q 121*q 257:=H 272 _ rfl;have e273:q 273=q 63+q 272:=H 273 _ rfl;have e274:q 274=q 122*q 258:=H 274 _ rfl;have e275:q 275=q 273+q 274:=H 275 _ rfl;have e276:q 276=q 123*q 259:=H 276 _ rfl;have e277:q 277=q 275+q 276:=H 277 _ rfl;have e278:q 278=q 271/q 277:=H 278 _ rfl;have e279:q 279=q 257*q 278:=H 279 _ rfl;have e280:q 280=q 258*q 278:=H 280 _ rfl;have e281:q 281=q 259*q 278:=H 281 _ rfl;have e282:q 282=q 29-q 279:=H 282 _ rfl;have e283:q 283=q 30-q 280:=H 283 _ rfl;have e284:q 284=q 31-q 281:=H 284 _ rfl;have e306:q 306=q 282-q 37:=H 306 _ rfl;have e307:q 307=q 283-q 39:=H 307 _ rfl;have e308:q 308=q 284-q 41:=H 308 _ rfl;have e309:q 309=q 11-q 37:=H 309 _ rfl;have e310:q 310=q 13-q 39:=H 310 _ rfl;have e311:q 311=q 15-q 41:=H 311 _ rfl;have e312:q 312=q 307*q 311:=H 312 _ rfl;have e313:q 313=q 308*q 310:=H 313 _ rfl;have e314:q 314=q 312-q 313:=H 314 _ rfl;have e315:q 315=q 308*q 309:=H 315 _ rfl;have e316:q 316=q 306*q 311:=H 316 _ rfl;have e317:q 317=q 315-q 316:=H 317 _ rfl;have e318:q 318=q 306*q 310:=H 318 _ rfl;have e319:q 319=q 307*q 309:=H 319 _ rfl;have e320:q 320=q 318-q 319:=H 320 _ rfl;have e321:q 321=q 314*q 314:=H 321 _ rfl;have e322:q 322=q 317*q 317:=H 322 _ rfl;have e323:q 323=q 321+q 322:=H 323 _ rfl;have e324:q 324=q 320*q 320:=H 324 _ rfl;have e325:q 325=q 323+q 324:=H 325 _ rfl
 exact eV_pX2z e6 e7 e8 e10 e11 e12 e13 e14 e15 e32 e33 e34 e36 e37 e38 e39 e40 e41 e63 e257 e258 e259 e265 e266 e267 e268 e269 e270 e271 e272 e273 e274 e275 e276 e277 e278 e279 e280 e281 e282 e283 e284 e306 e307 e308 e309 e310 e311 e312 e313 e314 e315 e316 e317 e318 e319 e320 e321 e322 e323 e324 e325
theorem eV_pL202x0x142y1x208y1x136y0z {z3 z4 z5 z16 z17 z18 z29 z30 z31 z42 z43 z44 z63 z121 z122 z123 z124 z130 z131 z132 z133 z134 z135 z136 z137 z138 z139 z140 z141 z142 z188 z189 z190 z196 z197 z198 z199 z200 z201 z202 z203 z204 z205 z206 z207 z208 : Rat} : z42=z16-z3→z43=z17-z4→z44=z18-z5→z63=0→z130=z121*z3→z131=z63+z130→z132=z122*z4→z133=z131+z132→z134=z123*z5→z135=z133+z134→z136=z135+z124→z137=z121*z42→z138=z63+z137→z139=z122*z43→z140=z138+z139→z141=z123*z44→z142=z140+z141→z188=z29-z16→z189=z30-z17→z190=z31-z18→z196=z121*z16→z197=z63+z196→z198=z122*z17→z199=z197+z198→z200=z123*z18→z201=z199+z200→z202=z201+z124→z203=z121*z188→z204=z63+z203→z205=z122*z189→z206=z204+z205→z207=z123*z190→z208=z206+z207→(z142=0)→(z208=0)→(¬ (z136=0))→(¬ (z202=0)) := by
 intro e42 e43 e44 e63 e130 e131 e132 e133 e134 e135 e136 e137 e138 e139 e140 e141 e142 e188 e189 e190 e196 e197 e198 e199 e200 e201 e202 e203 e204 e205 e206 e207 e208
 intro h142 h208 h136
 intro h
 subst_vars; grind
theorem eV_pL202x0x142y1x208y1x136y0 (H : eV_Q q σ) : (q 142=0)→(q 208=0)→(¬ (q 136=0))→(¬ (q 202=0)) := by
 have e42:q 42=q 16-q 3:=H 42 _ rfl;have e43:q 43=q 17-q 4:=H 43 _ rfl;have e44:q 44=q 18-q 5:=H 44 _ rfl;have e63:q 63=0:=(H 63 _ rfl).trans eV_c63;have e130:q 130=q 121*q 3:=H 130 _ rfl;have e131:q 131=q 63+q 130:=H 131 _ rfl;have e132:q 132=q 122*q 4:=H 132 _ rfl;have e133:q 133=q 131+q 132:=H 133 _ rfl;have e134:q 134=q 123*q 5:=H 134 _ rfl;have e135:q 135=q 133+q 134:=H 135 _ rfl;have e136:q 136=q 135+q 124:=H 136 _ rfl;have e137:q 137=q 121*q 42:=H 137 _ rfl;have e138:q 138=q 63+q 137:=H 138 _ rfl;have e139:q 139=q 122*q 43:=H 139 _ rfl;have e140:q 140=q 138+q 139:=H 140 _ rfl;have e141:q 141=q 123*q 44:=H 141 _ rfl;have e142:q 142=q 140+q 141:=H 142 _ rfl;have e188:q 188=q 29-q 16:=H 188 _ rfl;have e189:q 189=q 30-q 17:=H 189 _ rfl;have e190:q 190=q 31-q 18:=H 190 _ rfl;have e196:q 196=q 121*q 16:=H 196 _ rfl;have e197:q 197=q 63+q 196:=H 197 _ rfl;have e198:q 198=q 122*q 17:=H 198 _ rfl;have e199:q 199=q 197+q 198:=H 199 _ rfl;have e200:q 200=q 123*q 18:=H 200 _ rfl;have e201:q 201=q 199+q 200:=H 201 _ rfl;have e202:q 202=q 201+q 124:=H 202 _ rfl;have e203:q 203=q 121*q 188:=H 203 _ rfl;have e204:q 204=q 63+q 203:=H 204 _ rfl;have e205:q 205=q 122*q 189:=H 205 _ rfl;have e206:q 206=q 204+q 205:=H 206 _ rfl;have e207:q 207=q 123*q 190:=H 207 _ rfl;have e208:q 208=q 206+q 207:=H 208 _ rfl
 exact eV_pL202x0x142y1x208y1x136y0z e42 e43 e44 e63 e130 e131 e132 e133 e134 e135 e136 e137 e138 e139 e140 e141 e142 e188 e189 e190 e196 e197 e198 e199 e200 e201 e202 e203 e204 e205 e206 e207 e208
theorem eV_pL277x1x142y1x208y1x136y0z {z3 z4 z5 z16 z17 z18 z29 z30 z31 z42 z43 z44 z63 z121 z122 z123 z124 z130 z131 z132 z133 z134 z135 z136 z137 z138 z139 z140 z141 z142 z188 z189 z190 z203 z204 z205 z206 z207 z208 z257 z258 z259 z272 z273 z274 z275 z276 z277 : Rat} : z42=z16-z3→z43=z17-z4→z44=z18-z5→z63=0→z130=z121*z3→z131=z63+z130→z132=z122*z4→z133=z131+z132→z134=z123*z5→z135=z133+z134→z136=z135+z124→z137=z121*z42→z138=z63+z137→z139=z122*z43→z140=z138+z139→z141=z123*z44→z142=z140+z141→z188=z29-z16→z189=z30-z17→z190=z31-z18→z203=z121*z188→z204=z63+z203→z205=z122*z189→z206=z204+z205→z207=z123*z190→z208=z206+z207→z257=z3-z29→z258=z4-z30→z259=z5-z31→z272=z121*z257→z273=z63+z272→z274=z122*z258→z275=z273+z274→z276=z123*z259→z277=z275+z276→(z142=0)→(z208=0)→(¬ (z136=0))→(z277=0) := by
 intro e42 e43 e44 e63 e130 e131 e132 e133 e134 e135 e136 e137 e138 e139 e140 e141 e142 e188 e189 e190 e203 e204 e205 e206 e207 e208 e257 e258 e259 e272 e273 e274 e275 e276 e277
 intro h142 h208 h136
 subst_vars; grind
theorem eV_pL277x1x142y1x208y1x136y0 (H : eV_Q q σ) : (q 142=0)→(q 208=0)→(¬ (q 136=0))→(q 277=0) := by
 have e42:q 42=q 16-q 3:=H 42 _ rfl;have e43:q 43=q 17-q 4:=H 43 _ rfl;have e44:q 44=q 18-q 5:=H 44 _ rfl;have e63:q 63=0:=(H 63 _ rfl).trans eV_c63;have e130:q 130=q 121*q 3:=H 130 _ rfl;have e131:q 131=q 63+q 130:=H 131 _ rfl;have e132:q 132=q 122*q 4:=H 132 _ rfl;have e133:q 133=q 131+q 132:=H 133 _ rfl;have e134:q 134=q 123*q 5:=H 134 _ rfl;have e135:q 135=q 133+q 134:=H 135 _ rfl;have e136:q 136=q 135+q 124:=H 136 _ rfl;have e137:q 137=q 121*q 42:=H 137 _ rfl;have e138:q 138=q 63+q 137:=H 138 _ rfl;have e139:q 139=q 122*q 43:=H 139 _ rfl;have e140:q 140=q 138+q 139:=H 140 _ rfl;have e141:q 141=q 123*q 44:=H 141 _ rfl;have e142:q 142=q 140+q 141:=H 142 _ rfl;have e188:q 188=q 29-q 16:=H 188 _ rfl;have e189:q 189=q 30-q 17:=H 189 _ rfl;have e190:q 190=q 31-q 18:=H 190 _ rfl;have e203:q 203=q 121*q 188:=H 203 _ rfl;have e204:q 204=q 63+q 203:=H 204 _ rfl;have e205:q 205=q 122*q 189:=H 205 _ rfl;have e206:q 206=q 204+q 205:=H 206 _ rfl;have e207:q 207=q 123*q 190:=H 207 _ rfl;have e208:q 208=q 206+q 207:=H 208 _ rfl;have e257:q 257=q 3-q 29:=H 257 _ rfl;have e258:q 258=q 4-q 30:=H 258 _ rfl;have e259:q 259=q 5-q 31:=H 259 _ rfl;have e272:q 272=q 121*q 257:=H 272 _ rfl;have e273:q 273=q 63+q 272:=H 273 _ rfl;have e274:q 274=q 122*q 258:=H 274 _ rfl;have e275:q 275=q 273+q 274:=H 275 _ rfl;have e276:q 276=q 123*q 259:=H 276 _ rfl;have e277:q 277=q 275+q 276:=H 277 _ rfl
 exact eV_pL277x1x142y1x208y1x136y0z e42 e43 e44 e63 e130 e131 e132 e133 e134 e135 e136 e137 e138 e139 e140 e141 e142 e188 e189 e190 e203 e204 e205 e206 e207 e208 e257 e258 e259 e272 e273 e274 e275 e276 e277
theorem eV_pL271x0x142y1x208y1x136y0z {z3 z4 z5 z16 z17 z18 z29 z30 z31 z42 z43 z44 z63 z121 z122 z123 z124 z130 z131 z132 z133 z134 z135 z136 z137 z138 z139 z140 z141 z142 z188 z189 z190 z203 z204 z205 z206 z207 z208 z265 z266 z267 z268 z269 z270 z271 : Rat} : z42=z16-z3→z43=z17-z4→z44=z18-z5→z63=0→z130=z121*z3→z131=z63+z130→z132=z122*z4→z133=z131+z132→z134=z123*z5→z135=z133+z134→z136=z135+z124→z137=z121*z42→z138=z63+z137→z139=z122*z43→z140=z138+z139→z141=z123*z44→z142=z140+z141→z188=z29-z16→z189=z30-z17→z190=z31-z18→z203=z121*z188→z204=z63+z203→z205=z122*z189→z206=z204+z205→z207=z123*z190→z208=z206+z207→z265=z121*z29→z266=z63+z265→z267=z122*z30→z268=z266+z267→z269=z123*z31→z270=z268+z269→z271=z270+z124→(z142=0)→(z208=0)→(¬ (z136=0))→(¬ (z271=0)) := by
 intro e42 e43 e44 e63 e130 e131 e132 e133 e134 e135 e136 e137 e138 e139 e140 e141 e142 e188 e189 e190 e203 e204 e205 e206 e207 e208 e265 e266 e267 e268 e269 e270 e271
 intro h142 h208 h136
 intro h
 subst_vars; grind
theorem eV_pL271x0x142y1x208y1x136y0 (H : eV_Q q σ) : (q 142=0)→(q 208=0)→(¬ (q 136=0))→(¬ (q 271=0)) := by
 have e42:q 42=q 16-q 3:=H 42 _ rfl;have e43:q 43=q 17-q 4:=H 43 _ rfl;have e44:q 44=q 18-q 5:=H 44 _ rfl;have e63:q 63=0:=(H 63 _ rfl).trans eV_c63;have e130:q 130=q 121*q 3:=H 130 _ rfl;have e131:q 131=q 63+q 130:=H 131 _ rfl;have e132:q 132=q 122*q 4:=H 132 _ rfl;have e133:q 133=q 131+q 132:=H 133 _ rfl;have e134:q 134=q 123*q 5:=H 134 _ rfl;have e135:q 135=q 133+q 134:=H 135 _ rfl;have e136:q 136=q 135+q 124:=H 136 _ rfl;have e137:q 137=q 121*q 42:=H 137 _ rfl;have e138:q 138=q 63+q 137:=H 138 _ rfl;have e139:q 139=q 122*q 43:=H 139 _ rfl;have e140:q 140=q 138+q 139:=H 140 _ rfl;have e141:q 141=q 123*q 44:=H 141 _ rfl;have e142:q 142=q 140+q 141:=H 142 _ rfl;have e188:q 188=q 29-q 16:=H 188 _ rfl;have e189:q 189=q 30-q 17:=H 189 _ rfl;have e190:q 190=q 31-q 18:=H 190 _ rfl;have e203:q 203=q 121*q 188:=H 203 _ rfl;have e204:q 204=q 63+q 203:=H 204 _ rfl;have e205:q 205=q 122*q 189:=H 205 _ rfl;have e206:q 206=q 204+q 205:=H 206 _ rfl;have e207:q 207=q 123*q 190:=H 207 _ rfl;have e208:q 208=q 206+q 207:=H 208 _ rfl;have e265:q 265=q 121*q 29:=H 265 _ rfl;have e266:q 266=q 63+q 265:=H 266 _ rfl;have e267:q 267=q 122*q 30:=H 267 _ rfl;have e268:q 268=q 266+q 267:=H 268 _ rfl;have e269:q 269=q 123*q 31:=H 269 _ rfl;have e270:q 270=q 268+q 269:=H 270 _ rfl;have e271:q 271=q 270+q 124:=H 271 _ rfl
 exact eV_pL271x0x142y1x208y1x136y0z e42 e43 e44 e63 e130 e131 e132 e133 e134 e135 e136 e137 e138 e139 e140 e141 e142 e188 e189 e190 e203 e204 e205 e206 e207 e208 e265 e266 e267 e268 e269 e270 e271
theorem eV_pL277x0x142y1x208y0x136y0z {z3 z4 z5 z16 z17 z18 z29 z30 z31 z42 z43 z44 z63 z121 z122 z123 z124 z130 z131 z132 z133 z134 z135 z136 z137 z138 z139 z140 z141 z142 z188 z189 z190 z203 z204 z205 z206 z207 z208 z257 z258 z259 z272 z273 z274 z275 z276 z277 : Rat} : z42=z16-z3→z43=z17-z4→z44=z18-z5→z63=0→z130=z121*z3→z131=z63+z130→z132=z122*z4→z133=z131+z132→z134=z123*z5→z135=z133+z134→z136=z135+z124→z137=z121*z42→z138=z63+z137→z139=z122*z43→z140=z138+z139→z141=z123*z44→z142=z140+z141→z188=z29-z16→z189=z30-z17→z190=z31-z18→z203=z121*z188→z204=z63+z203→z205=z122*z189→z206=z204+z205→z207=z123*z190→z208=z206+z207→z257=z3-z29→z258=z4-z30→z259=z5-z31→z272=z121*z257→z273=z63+z272→z274=z122*z258→z275=z273+z274→z276=z123*z259→z277=z275+z276→(z142=0)→(¬ (z208=0))→(¬ (z136=0))→(¬ (z277=0)) := by
 intro e42 e43 e44 e63 e130 e131 e132 e133 e134 e135 e136 e137 e138 e139 e140 e141 e142 e188 e189 e190 e203 e204 e205 e206 e207 e208 e257 e258 e259 e272 e273 e274 e275 e276 e277
 intro h142 h208 h136
 intro h
 subst_vars; grind
theorem eV_pL277x0x142y1x208y0x136y0 (H : eV_Q q σ) : (q 142=0)→(¬ (q 208=0))→(¬ (q 136=0))→(¬ (q 277=0)) := by
 have e42:q 42=q 16-q 3:=H 42 _ rfl;have e43:q 43=q 17-q 4:=H 43 _ rfl;have e44:q 44=q 18-q 5:=H 44 _ rfl;have e63:q 63=0:=(H 63 _ rfl).trans eV_c63;have e130:q 130=q 121*q 3:=H 130 _ rfl;have e131:q 131=q 63+q 130:=H 131 _ rfl;have e132:q 132=q 122*q 4:=H 132 _ rfl;have e133:q 133=q 131+q 132:=H 133 _ rfl;have e134:q 134=q 123*q 5:=H 134 _ rfl;have e135:q 135=q 133+q 134:=H 135 _ rfl;have e136:q 136=q 135+q 124:=H 136 _ rfl;have e137:q 137=q 121*q 42:=H 137 _ rfl;have e138:q 138=q 63+q 137:=H 138 _ rfl;have e139:q 139=q 122*q 43:=H 139 _ rfl;have e140:q 140=q 138+q 139:=H 140 _ rfl;have e141:q 141=q 123*q 44:=H 141 _ rfl;have e142:q 142=q 140+q 141:=H 142 _ rfl;have e188:q 188=q 29-q 16:=H 188 _ rfl;have e189:q 189=q 30-q 17:=H 189 _ rfl;have e190:q 190=q 31-q 18:=H 190 _ rfl;have e203:q 203=q 121*q 188:=H 203 _ rfl;have e204:q 204=q 63+q 203:=H 204 _ rfl;have e205:q 205=q 122*q 189:=H 205 _ rfl;have e206:q 206=q 204+q 205:=H 206 _ rfl;have e207:q 207=q 123*q 190:=H 207 _ rfl;have e208:q 208=q 206+q 207:=H 208 _ rfl;have e257:q 257=q 3-q 29:=H 257 _ rfl;have e258:q 258=q 4-q 30:=H 258 _ rfl;have e259:q 259=q 5-q 31:=H 259 _ rfl;have e272:q 272=q 121*q 257:=H 272 _ rfl;have e273:q 273=q 63+q 272:=H 273 _ rfl;have e274:q 274=q 122*q 258:=H 274 _ rfl;have e275:q 275=q 273+q 274:=H 275 _ rfl;have e276:q 276=q 123*q 259:=H 276 _ rfl;have e277:q 277=q 275+q 276:=H 277 _ rfl
 exact eV_pL277x0x142y1x208y0x136y0z e42 e43 e44 e63 e130 e131 e132 e133 e134 e135 e136 e137 e138 e139 e140 e141 e142 e188 e189 e190 e203 e204 e205 e206 e207 e208 e257 e258 e259 e272 e273 e274 e275 e276 e277
theorem eV_pV0z {z3 z4 z5 z16 z17 z18 z42 z43 z44 z63 z121 z122 z123 z124 z130 z131 z132 z133 z134 z135 z136 z137 z138 z139 z140 z141 z142 z143 z144 z145 z146 z147 z148 z149 z150 z151 z152 z153 z154 z155 z156 : Rat} : z42=z16-z3→z43=z17-z4→z44=z18-z5→z63=0→z130=z121*z3→z131=z63+z130→z132=z122*z4→z133=z131+z132→z134=z123*z5→z135=z133+z134→z136=z135+z124→z137=z121*z42→z138=z63+z137→z139=z122*z43→z140=z138+z139→z141=z123*z44→z142=z140+z141→z143=z136/z142→z144=z42*z143→z145=z43*z143→z146=z44*z143→z147=z3-z144→z148=z4-z145→z149=z5-z146→z150=z121*z147→z151=z63+z150→z152=z122*z148→z153=z151+z152→z154=z123*z149→z155=z153+z154→z156=z155+z124→(¬ (z142=0))→(z156=0) := by
 intro e42 e43 e44 e63 e130 e131 e132 e133 e134 e135 e136 e137 e138 e139 e140 e141 e142 e143 e144 e145 e146 e147 e148 e149 e150 e151 e152 e153 e154 e155 e156
 intro h
 have hd : z143*z142=z136 := by rw [e143]; exact Rat.div_mul_cancel h
 clear h e143
 subst_vars; grind
theorem eV_pV0 (H : eV_Q q σ) : (¬ (q 142=0))→(q 156=0) := by
 have e42:q 42=q 16-q 3:=H 42 _ rfl;have e43:q 43=q 17-q 4:=H 43 _ rfl;have e44:q 44=q 18-q 5:=H 44 _ rfl;have e63:q 63=0:=(H 63 _ rfl).trans eV_c63;have e130:q 130=q 121*q 3:=H 130 _ rfl;have e131:q 131=q 63+q 130:=H 131 _ rfl;have e132:q 132=q 122*q 4:=H 132 _ rfl;have e133:q 133=q 131+q 132:=H 133 _ rfl;have e134:q 134=q 123*q 5:=H 134 _ rfl;have e135:q 135=q 133+q 134:=H 135 _ rfl;have e136:q 136=q 135+q 124:=H 136 _ rfl;have e137:q 137=q 121*q 42:=H 137 _ rfl;have e138:q 138=q 63+q 137:=H 138 _ rfl;have e139:q 139=q 122*q 43:=H 139 _ rfl;have e140:q 140=q 138+q 139:=H 140 _ rfl;have e141:q 141=q 123*q 44:=H 141 _ rfl;have e142:q 142=q 140+q 141:=H 142 _ rfl;have e143:q 143=q 136/q 142:=H 143 _ rfl;have e144:q 144=q 42*q 143:=H 144 _ rfl;have e145:q 145=q 43*q 143:=H 145 _ rfl;have e146:q 146=q 44*q 143:=H 146 _ rfl;have e147:q 147=q 3-q 144:=H 147 _ rfl;have e148:q 148=q 4-q 145:=H 148 _ rfl;have e149:q 149=q 5-q 146:=H 149 _ rfl;have e150:q 150=q 121*q 147:=H 150 _ rfl;have e151:q 151=q 63+q 150:=H 151 _ rfl;have e152:q 152=q 122*q 148:=H 152 _ rfl;have e153:q 153=q 151+q 152:=H 153 _ rfl;have e154:q 154=q 123*q 149:=H 154 _ rfl;have e155:q 155=q 153+q 154:=H 155 _ rfl;have e156:q 156=q 155+q 124:=H 156 _ rfl
 exact eV_pV0z e42 e43 e44 e63 e130 e131 e132 e133 e134 e135 e136 e137 e138 e139 e140 e141 e142 e143 e144 e145 e146 e147 e148 e149 e150 e151 e152 e153 e154 e155 e156
theorem eV_pW0z {z0 z1 z2 z3 z4 z5 z6 z7 z8 z9 z10 z11 z12 z13 z14 z15 z16 z17 z18 z19 z20 z21 z22 z23 z24 z25 z26 z27 z28 z37 z39 z41 z42 z43 z44 z63 z74 z75 z76 z77 z78 z79 z80 z81 z82 z83 z84 z85 z86 z87 z88 z89 z90 z91 z92 z93 z121 z122 z123 z124 z137 z138 z139 z140 z141 z142 z157 z158 z159 z160 z161 z162 z163 z164 z165 z166 z167 z168 z169 z170 : Rat} : z6=z3-z0→z7=z4-z1→z8=z5-z2→z10=z9*z6→z11=z0+z10→z12=z9*z7→z13=z1+z12→z14=z9*z8→z15=z2+z14→z19=z16-z0→z20=z17-z1→z21=z18-z2→z23=z22*z19→z24=z0+z23→z25=z22*z20→z26=z1+z25→z27=z22*z21→z28=z2+z27→z42=z16-z3→z43=z17-z4→z44=z18-z5→z63=0→z74=z24-z11→z75=z26-z13→z76=z28-z15→z77=z37-z11→z78=z39-z13→z79=z41-z15→z80=z75*z79→z81=z76*z78→z82=z80-z81→z83=z76*z77→z84=z74*z79→z85=z83-z84→z86=z74*z78→z87=z75*z77→z88=z86-z87→z89=z82*z82→z90=z85*z85→z91=z89+z90→z92=z88*z88→z93=z91+z92→z137=z121*z42→z138=z63+z137→z139=z122*z43→z140=z138+z139→z141=z123*z44→z142=z140+z141→z157=z7*z21→z158=z8*z20→z159=z157-z158→z160=z8*z19→z161=z6*z21→z162=z160-z161→z163=z6*z20→z164=z7*z19→z165=z163-z164→z166=z159*z159→z167=z162*z162→z168=z166+z167→z169=z165*z165→z170=z168+z169→(¬ (z93=0))→(¬ (z142=0))→(z121*z11+z122*z13+z123*z15+z124=0)→(z121*z24+z122*z26+z123*z28+z124=0)→(¬ (z170=0)) := by
 intro e6 e7 e8 e10 e11 e12 e13 e14 e15 e19 e20 e21 e23 e24 e25 e26 e27 e28 e42 e43 e44 e63 e74 e75 e76 e77 e78 e79 e80 e81 e82 e83 e84 e85 e86 e87 e88 e89 e90 e91 e92 e93 e137 e138 e139 e140 e141 e142 e157 e158 e159 e160 e161 e162 e163 e164 e165 e166 e167 e168 e169 e170
 intro hn hg b0 b1
 intro h
 have ⟨⟨c1,c2⟩,c3⟩ := (sp_sq3 e166 e167 e168 e169 e170).1 h
 rw [e159,e157,e158] at c1
 rw [e162,e160,e161] at c2
 rw [e165,e163,e164] at c3
 rw [e11,e13,e15,e10,e12,e14] at b0
 rw [e24,e26,e28,e23,e25,e27] at b1
 have ⟨l1,l2,l3⟩ := sp_ln (B1 := z121) (o1 := z0) (a1 := z6) (b1 := z19) (B2 := z122) (o2 := z1) (a2 := z7) (b2 := z20) (B3 := z123) (o3 := z2) (a3 := z8) (b3 := z21) (d := z124) (k := z9) (l := z22) c1 c2 c3 b0 b1
 have hG : z142=z121*(z19 - z6)+z122*(z20 - z7)+z123*(z21 - z8) := by clear hn hg h c1 c2 c3 b0 b1 l1 l2 l3; clear e10 e11 e12 e13 e14 e15 e23 e24 e25 e26 e27 e28 e74 e75 e76 e77 e78 e79 e80 e81 e82 e83 e84 e85 e86 e87 e88 e89 e90 e91 e92 e93 e157 e158 e159 e160 e161 e162 e163 e164 e165 e166 e167 e168 e169 e170; subst_vars; grind
 rw [← hG] at l1 l2 l3; clear c1 c2 c3 b0 b1 hG h; apply hn
 have m0 : z74=0 := by
  rw [e74,e11,e24,e10,e23]; have := (Rat.mul_eq_zero.1 l1).resolve_right hg; grind
 have m1 : z75=0 := by
  rw [e75,e13,e26,e12,e25]; have := (Rat.mul_eq_zero.1 l2).resolve_right hg; grind
 have m2 : z76=0 := by
  rw [e76,e15,e28,e14,e27]; have := (Rat.mul_eq_zero.1 l3).resolve_right hg; grind
 clear l1 l2 l3 hg
 refine (sp_sq3 e89 e90 e91 e92 e93).2 ⟨⟨?_,?_⟩,?_⟩ <;> (clear e6 e7 e8 e10 e11 e12 e13 e14 e15 e19 e20 e21 e23 e24 e25 e26 e27 e28 e42 e43 e44 e63 e89 e90 e91 e92 e93 e137 e138 e139 e140 e141 e142 e157 e158 e159 e160 e161 e162 e163 e164 e165 e166 e167 e168 e169 e170; clear hn; subst_vars; grind)
theorem eV_pW0 (H : eV_Q q σ) : (¬ (q 93=0))→(¬ (q 142=0))→(q 121*q 11+q 122*q 13+q 123*q 15+q 124=0)→(q 121*q 24+q 122*q 26+q 123*q 28+q 124=0)→(¬ (q 170=0)) := by
 have e6:q 6=q 3-q 0:=H 6 _ rfl;have e7:q 7=q 4-q 1:=H 7 _ rfl;have e8:q 8=q 5-q 2:=H 8 _ rfl;have e10:q 10=q 9*q 6:=H 10 _ rfl;have e11:q 11=q 0+q 10:=H 11 _ rfl;have e12:q 12=q 9*q 7:=H 12 _ rfl;have e13:q 13=q 1+q 12:=H 13 _ rfl;have e14:q 14=q 9*q 8:=H 14 _ rfl;have e15:q 15=q 2+q 14:=H 15 _ rfl;have e19:q 19=q 16-q 0:=H 19 _ rfl;have e20:q 20=q 17-q 1:=H 20 _ rfl;have e21:q 21=q 18-q 2:=H 21 _ rfl;have e23:q 23=q 22*q 19:=H 23 _ rfl;have e24:q 24=q 0+q 23:=H 24 _ rfl;have e25:q 25=q 22*q 20:=H 25 _ rfl;have e26:q 26=q 1+q 25:=H 26 _ rfl;have e27:q 27=q 22*q 21:=H 27 _ rfl;have e28:q 28=q 2+q 27:=H 28 _ rfl;have e42:q 42=q 16-q 3:=H 42 _ rfl;have e43:q 43=q 17-q 4:=H 43 _ rfl;have e44:q 44=q 18-q 5:=H 44 _ rfl;have e63:q 63=0:=(H 63 _ rfl).trans eV_c63;have e74:q 74=q 24-q 11:=H 74 _ rfl;have e75:q 75=q 26-q 13:=H 75 _ rfl;have e76:q 76=q 28-q 15:=H 76 _ rfl;have e77:q 77=q 37-q 11:=H 77 _ rfl;have e78:q 78=q 39-q 13:=H 78 _ rfl;have e79:q 79=q 41-q 15:=H 79 _ rfl;have e80:q 80=q 75*q 79:=H 80 _ rfl;have e81:q 81=q 76*q 78:=H 81 _ rfl;have e82:q 82=q 80-q 81:=H 82 _ rfl;have e83:q 83=q 76*q 77:=H 83 _ rfl;have e84:q 84=q 74*q 79:=H 84 _ rfl;have e85:q 85=q 83-q 84:=H 85 _ rfl;have e86:q 86=q 74*q 78:=H 86 _ rfl;have e87:q 87=q 75*q 77:=H 87 _ rfl;have e88:q 88=q 86-q 87:=H 88 _ rfl;have e89:q 89=q 82*q 82:=H 89 _ rfl;have e90:q 90=q 85*q 85:=H 90 _ rfl;have e91:q 91=q 89+q 90:=H 91 _ rfl;have e92:q 92=q 88*q 88:=H 92 _ rfl;have e93:q 93=q 91+q 92:=H 93 _ rfl;have e137:q 137=q 121*q 42:=H 137 _ rfl;have e138:q 138=q 63+q 137:=H 138 _ rfl;have e139:q 139=q 122*q 43:=H 139 _ rfl;have e140:q 140=q 138+q 139:=H 140 _ rfl;have e141:q 141=q 123*q 44:=H 141 _ rfl;have e142:q 142=q 140+q 141:=H 142 _ rfl;have e157:q 157=q 7*q 21:=H 157 _ rfl;have e158:q 158=q 8*q 20:=H 158 _ rfl;have e159:q 159=q 157-q 158:=H 159 _ rfl;have e160:q 160=q 8*q 19:=H 160 _ rfl;have e161:q 161=q 6*q 21:=H 161 _ rfl;have e162:q 162=q 160-q 161:=H 162 _ rfl;have e163:q 163=q 6*q 20:=H 163 _ rfl;have e164:q 164=q 7*q 19:=H 164 _ rfl;have e165:q 165=q 163-q 164:=H 165 _ rfl;have e166:q 166=q 159*q 159:=H 166 _ rfl;have e167:q 167=q 162*q 162:=H 167 _ rfl;have e168:q 168=q 166+q 167:=H 168 _ rfl;have e169:q 169=q 165*q 165:=H 169 _ rfl;have e170:q 170=q 168+q 169:=H 170 _ rfl
 exact eV_pW0z e6 e7 e8 e10 e11 e12 e13 e14 e15 e19 e20 e21 e23 e24 e25 e26 e27 e28 e42 e43 e44 e63 e74 e75 e76 e77 e78 e79 e80 e81 e82 e83 e84 e85 e86 e87 e88 e89 e90 e91 e92 e93 e137 e138 e139 e140 e141 e142 e157 e158 e159 e160 e161 e162 e163 e164 e165 e166 e167 e168 e169 e170
theorem eV_pX0z {z0 z1 z2 z3 z4 z5 z6 z7 z8 z9 z10 z11 z12 z13 z14 z15 z16 z17 z18 z19 z20 z21 z22 z23 z24 z25 z26 z27 z28 z42 z43 z44 z63 z74 z75 z76 z121 z122 z123 z124 z130 z131 z132 z133 z134 z135 z136 z137 z138 z139 z140 z141 z142 z143 z144 z145 z146 z147 z148 z149 z171 z172 z173 z174 z175 z176 z177 z178 z179 z180 z181 z182 z183 z184 z185 z186 z187 : Rat} : z6=z3-z0→z7=z4-z1→z8=z5-z2→z10=z9*z6→z11=z0+z10→z12=z9*z7→z13=z1+z12→z14=z9*z8→z15=z2+z14→z19=z16-z0→z20=z17-z1→z21=z18-z2→z23=z22*z19→z24=z0+z23→z25=z22*z20→z26=z1+z25→z27=z22*z21→z28=z2+z27→z42=z16-z3→z43=z17-z4→z44=z18-z5→z63=0→z74=z24-z11→z75=z26-z13→z76=z28-z15→z130=z121*z3→z131=z63+z130→z132=z122*z4→z133=z131+z132→z134=z123*z5→z135=z133+z134→z136=z135+z124→z137=z121*z42→z138=z63+z137→z139=z122*z43→z140=z138+z139→z141=z123*z44→z142=z140+z141→z143=z136/z142→z144=z42*z143→z145=z43*z143→z146=z44*z143→z147=z3-z144→z148=z4-z145→z149=z5-z146→z171=z147-z11→z172=z148-z13→z173=z149-z15→z174=z172*z76→z175=z173*z75→z176=z174-z175→z177=z173*z74→z178=z171*z76→z179=z177-z178→z180=z171*z75→z181=z172*z74→z182=z180-z181→z183=z176*z176→z184=z179*z179→z185=z183+z184→z186=z182*z182→z187=z185+z186→(¬ (z142=0))→(z121*z11+z122*z13+z123*z15+z124=0)→(z121*z24+z122*z26+z123*z28+z124=0)→(z187=0) := by
 intro e6 e7 e8 e10 e11 e12 e13 e14 e15 e19 e20 e21 e23 e24 e25 e26 e27 e28 e42 e43 e44 e63 e74 e75 e76 e130 e131 e132 e133 e134 e135 e136 e137 e138 e139 e140 e141 e142 e143 e144 e145 e146 e147 e148 e149 e171 e172 e173 e174 e175 e176 e177 e178 e179 e180 e181 e182 e183 e184 e185 e186 e187
 intro hg b0 b1
 have hd : z143*z142=z136 := by rw [e143]; exact Rat.div_mul_cancel hg
 clear e143
 rw [e11,e13,e15,e10,e12,e14] at b0
 rw [e24,e26,e28,e23,e25,e27] at b1
 have hba : z121*z19+z122*z20+z123*z21 - (z121*z6+z122*z7+z123*z8) ≠ 0 := by
  have : z142=z121*z19+z122*z20+z123*z21 - (z121*z6+z122*z7+z123*z8) := by clear hg hd b0 b1; clear e10 e11 e12 e13 e14 e15 e23 e24 e25 e26 e27 e28 e74 e75 e76 e144 e145 e146 e147 e148 e149 e171 e172 e173 e174 e175 e176 e177 e178 e179 e180 e181 e182 e183 e184 e185 e186 e187; subst_vars; grind
  rw [← this]; exact hg
 have v := sp_dsg (A := z121*z6+z122*z7+z123*z8) (B := z121*z19+z122*z20+z123*z21) (C := (z121*z0+z122*z1+z123*z2+z124)) (k := z9) (l := z22) (s := z143) (by clear hg hd b1 hba; clear e6 e7 e8 e10 e11 e12 e13 e14 e15 e19 e20 e21 e23 e24 e25 e26 e27 e28 e42 e43 e44 e63 e74 e75 e76 e130 e131 e132 e133 e134 e135 e136 e137 e138 e139 e140 e141 e142 e144 e145 e146 e147 e148 e149 e171 e172 e173 e174 e175 e176 e177 e178 e179 e180 e181 e182 e183 e184 e185 e186 e187; grind) (by clear hg hd b0 hba; clear e6 e7 e8 e10 e11 e12 e13 e14 e15 e19 e20 e21 e23 e24 e25 e26 e27 e28 e42 e43 e44 e63 e74 e75 e76 e130 e131 e132 e133 e134 e135 e136 e137 e138 e139 e140 e141 e142 e144 e145 e146 e147 e148 e149 e171 e172 e173 e174 e175 e176 e177 e178 e179 e180 e181 e182 e183 e184 e185 e186 e187; grind) (by clear hg b0 b1 hba; clear e10 e11 e12 e13 e14 e15 e23 e24 e25 e26 e27 e28 e74 e75 e76 e144 e145 e146 e147 e148 e149 e171 e172 e173 e174 e175 e176 e177 e178 e179 e180 e181 e182 e183 e184 e185 e186 e187; subst_vars; grind) hba
 clear hba
 clear hg hd b0 b1
 clear e63 e130 e131 e132 e133 e134 e135 e136 e137 e138 e139 e140 e141 e142
 refine (sp_sq3 e183 e184 e185 e186 e187).2 ⟨⟨?_,?_⟩,?_⟩
 ·have : z176=((1+z143 - z9)*z22 - z143*z9)*(z7*z21 - z8*z20) := by
   clear v; clear e6 e10 e11 e19 e23 e24 e42 e74 e144 e147 e171 e177 e178 e179 e180 e181 e182 e183 e184 e185 e186 e187; subst_vars; grind
  rw [this,v,Rat.zero_mul]
 ·have : z179=((1+z143 - z9)*z22 - z143*z9)*(z8*z19 - z6*z21) := by
   clear v; clear e7 e12 e13 e20 e25 e26 e43 e75 e145 e148 e172 e174 e175 e176 e180 e181 e182 e183 e184 e185 e186 e187; subst_vars; grind
  rw [this,v,Rat.zero_mul]
 ·have : z182=((1+z143 - z9)*z22 - z143*z9)*(z6*z20 - z7*z19) := by
   clear v; clear e8 e14 e15 e21 e27 e28 e44 e76 e146 e149 e173 e174 e175 e176 e177 e178 e179 e183 e184 e185 e186 e187; subst_vars; grind
  rw [this,v,Rat.zero_mul]
theorem eV_pX0 (H : eV_Q q σ) : (¬ (q 142=0))→(q 121*q 11+q 122*q 13+q 123*q 15+q 124=0)→(q 121*q 24+q 122*q 26+q 123*q 28+q 124=0)→(q 187=0) := by
 have e6:q 6=q 3-q 0:=H 6 _ rfl;have e7:q 7=q 4-q 1:=H 7 _ rfl;have e8:q 8=q 5-q 2:=H 8 _ rfl;have e10:q 10=q 9*q 6:=H 10 _ rfl;have e11:q 11=q 0+q 10:=H 11 _ rfl;have e12:q 12=q 9*q 7:=H 12 _ rfl;have e13:q 13=q 1+q 12:=H 13 _ rfl;have e14:q 14=q 9*q 8:=H 14 _ rfl;have e15:q 15=q 2+q 14:=H 15 _ rfl;have e19:q 19=q 16-q 0:=H 19 _ rfl;have e20:q 20=q 17-q 1:=H 20 _ rfl;have e21:q 21=q 18-q 2:=H 21 _ rfl;have e23:q 23=q 22*q 19:=H 23 _ rfl;have e24:q 24=q 0+q 23:=H 24 _ rfl;have e25:q 25=q 22*q 20:=H 25 _ rfl;have e26:q 26=q 1+q 25:=H 26 _ rfl;have e27:q 27=q 22*q 21:=H 27 _ rfl;have e28:q 28=q 2+q 27:=H 28 _ rfl;have e42:q 42=q 16-q 3:=H 42 _ rfl;have e43:q 43=q 17-q 4:=H 43 _ rfl;have e44:q 44=q 18-q 5:=H 44 _ rfl;have e63:q 63=0:=(H 63 _ rfl).trans eV_c63;have e74:q 74=q 24-q 11:=H 74 _ rfl;have e75:q 75=q 26-q 13:=H 75 _ rfl;have e76:q 76=q 28-q 15:=H 76 _ rfl;have e130:q 130=q 121*q 3:=H 130 _ rfl;have e131:q 131=q 63+q 130:=H 131 _ rfl;have e132:q 132=q 122*q 4:=H 132 _ rfl;have e133:q 133=q 131+q 132:=H 133 _ rfl;have e134:q 134=q 123*q 5:=H 134 _ rfl;have e135:q 135=q 133+q 134:=H 135 _ rfl;have e136:q 136=q 135+q 124:=H 136 _ rfl;have e137:q 137=q 121*q 42:=H 137 _ rfl;have e138:q 138=q 63+q 137:=H 138 _ rfl;have e139:q 139=q 122*q 43:=H 139 _ rfl;have e140:q 140=q 138+q 139:=H 140 _ rfl;have e141:q 141=q 123*q 44:=H 141 _ rfl;have e142:q 142=q 140+q 141:=H 142 _ rfl;have e143:q 143=q 136/q 142:=H 143 _ rfl;have e144:q 144=q 42*q 143:=H 144 _ rfl;have e145:q 145=q 43*q 143:=H 145 _ rfl;have e146:q 146=q 44*q 143:=H 146 _ rfl;have e147:q 147=q 3-q 144:=H 147 _ rfl;have e148:q 148=q 4-q 145:=H 148 _ rfl;have e149:q 149=q 5-q 146:=H 149 _ rfl;have e171:q 171=q 147-q 11:=H 171 _ rfl;have e172:q 172=q 148-q 13:=H 172 _ rfl;have e173:q 173=q 149-q 15:=H 173 _ rfl;have e174:q 174=q 172*q 76:=H 174 _ rfl;have e175:q 175=q 173*q 75:=H 175 _ rfl;have e176:q 176=q 174-q 175:=H 176 _ rfl;have e177:q 177=q 173*q 74:=H 177 _ rfl;have e178:q 178=q 171*q 76:=H 178 _ rfl;have e179:q 179=q 177-q 178:=H 179 _ rfl;have e180:q 180=q 171*q 75:=H 180 _ rfl;have e181:q 181=q 172*q 74:=H 181 _ rfl;have e182:q 182=q 180-q 181:=H 182 _ rfl;have e183:q 183=q 176*q 176:=H 183 _ rfl;have e184:q 184=q 179*q 179:=H 184 _ rfl;have e185:q 185=q 183+q 184:=H 185 _ rfl;have e186:q 186=q 182*q 182:=H 186 _ rfl;have e187:q 187=q 185+q 186:=H 187 _ rfl
 exact eV_pX0z e6 e7 e8 e10 e11 e12 e13 e14 e15 e19 e20 e21 e23 e24 e25 e26 e27 e28 e42 e43 e44 e63 e74 e75 e76 e130 e131 e132 e133 e134 e135 e136 e137 e138 e139 e140 e141 e142 e143 e144 e145 e146 e147 e148 e149 e171 e172 e173 e174 e175 e176 e177 e178 e179 e180 e181 e182 e183 e184 e185 e186 e187
theorem eV_pL277x0x142y0x208y1x202y1z {z3 z4 z5 z16 z17 z18 z29 z30 z31 z42 z43 z44 z63 z121 z122 z123 z124 z137 z138 z139 z140 z141 z142 z188 z189 z190 z196 z197 z198 z199 z200 z201 z202 z203 z204 z205 z206 z207 z208 z257 z258 z259 z272 z273 z274 z275 z276 z277 : Rat} : z42=z16-z3→z43=z17-z4→z44=z18-z5→z63=0→z137=z121*z42→z138=z63+z137→z139=z122*z43→z140=z138+z139→z141=z123*z44→z142=z140+z141→z188=z29-z16→z189=z30-z17→z190=z31-z18→z196=z121*z16→z197=z63+z196→z198=z122*z17→z199=z197+z198→z200=z123*z18→z201=z199+z200→z202=z201+z124→z203=z121*z188→z204=z63+z203→z205=z122*z189→z206=z204+z205→z207=z123*z190→z208=z206+z207→z257=z3-z29→z258=z4-z30→z259=z5-z31→z272=z121*z257→z273=z63+z272→z274=z122*z258→z275=z273+z274→z276=z123*z259→z277=z275+z276→(¬ (z142=0))→(z208=0)→(z202=0)→(¬ (z277=0)) := by
 intro e42 e43 e44 e63 e137 e138 e139 e140 e141 e142 e188 e189 e190 e196 e197 e198 e199 e200 e201 e202 e203 e204 e205 e206 e207 e208 e257 e258 e259 e272 e273 e274 e275 e276 e277
 intro h142 h208 h202
 intro h
 subst_vars; grind
theorem eV_pL277x0x142y0x208y1x202y1 (H : eV_Q q σ) : (¬ (q 142=0))→(q 208=0)→(q 202=0)→(¬ (q 277=0)) := by
 have e42:q 42=q 16-q 3:=H 42 _ rfl;have e43:q 43=q 17-q 4:=H 43 _ rfl;have e44:q 44=q 18-q 5:=H 44 _ rfl;have e63:q 63=0:=(H 63 _ rfl).trans eV_c63;have e137:q 137=q 121*q 42:=H 137 _ rfl;have e138:q 138=q 63+q 137:=H 138 _ rfl;have e139:q 139=q 122*q 43:=H 139 _ rfl;have e140:q 140=q 138+q 139:=H 140 _ rfl;have e141:q 141=q 123*q 44:=H 141 _ rfl;have e142:q 142=q 140+q 141:=H 142 _ rfl;have e188:q 188=q 29-q 16:=H 188 _ rfl;have e189:q 189=q 30-q 17:=H 189 _ rfl;have e190:q 190=q 31-q 18:=H 190 _ rfl;have e196:q 196=q 121*q 16:=H 196 _ rfl;have e197:q 197=q 63+q 196:=H 197 _ rfl;have e198:q 198=q 122*q 17:=H 198 _ rfl;have e199:q 199=q 197+q 198:=H 199 _ rfl;have e200:q 200=q 123*q 18:=H 200 _ rfl;have e201:q 201=q 199+q 200:=H 201 _ rfl;have e202:q 202=q 201+q 124:=H 202 _ rfl;have e203:q 203=q 121*q 188:=H 203 _ rfl;have e204:q 204=q 63+q 203:=H 204 _ rfl;have e205:q 205=q 122*q 189:=H 205 _ rfl;have e206:q 206=q 204+q 205:=H 206 _ rfl;have e207:q 207=q 123*q 190:=H 207 _ rfl;have e208:q 208=q 206+q 207:=H 208 _ rfl;have e257:q 257=q 3-q 29:=H 257 _ rfl;have e258:q 258=q 4-q 30:=H 258 _ rfl;have e259:q 259=q 5-q 31:=H 259 _ rfl;have e272:q 272=q 121*q 257:=H 272 _ rfl;have e273:q 273=q 63+q 272:=H 273 _ rfl;have e274:q 274=q 122*q 258:=H 274 _ rfl;have e275:q 275=q 273+q 274:=H 275 _ rfl;have e276:q 276=q 123*q 259:=H 276 _ rfl;have e277:q 277=q 275+q 276:=H 277 _ rfl
 exact eV_pL277x0x142y0x208y1x202y1z e42 e43 e44 e63 e137 e138 e139 e140 e141 e142 e188 e189 e190 e196 e197 e198 e199 e200 e201 e202 e203 e204 e205 e206 e207 e208 e257 e258 e259 e272 e273 e274 e275 e276 e277
theorem eV_pL277x0x142y0x208y1x202y0z {z3 z4 z5 z16 z17 z18 z29 z30 z31 z42 z43 z44 z63 z121 z122 z123 z124 z137 z138 z139 z140 z141 z142 z188 z189 z190 z196 z197 z198 z199 z200 z201 z202 z203 z204 z205 z206 z207 z208 z257 z258 z259 z272 z273 z274 z275 z276 z277 : Rat} : z42=z16-z3→z43=z17-z4→z44=z18-z5→z63=0→z137=z121*z42→z138=z63+z137→z139=z122*z43→z140=z138+z139→z141=z123*z44→z142=z140+z141→z188=z29-z16→z189=z30-z17→z190=z31-z18→z196=z121*z16→z197=z63+z196→z198=z122*z17→z199=z197+z198→z200=z123*z18→z201=z199+z200→z202=z201+z124→z203=z121*z188→z204=z63+z203→z205=z122*z189→z206=z204+z205→z207=z123*z190→z208=z206+z207→z257=z3-z29→z258=z4-z30→z259=z5-z31→z272=z121*z257→z273=z63+z272→z274=z122*z258→z275=z273+z274→z276=z123*z259→z277=z275+z276→(¬ (z142=0))→(z208=0)→(¬ (z202=0))→(¬ (z277=0)) := by
 intro e42 e43 e44 e63 e137 e138 e139 e140 e141 e142 e188 e189 e190 e196 e197 e198 e199 e200 e201 e202 e203 e204 e205 e206 e207 e208 e257 e258 e259 e272 e273 e274 e275 e276 e277
 intro h142 h208 h202
 intro h
 subst_vars; grind
theorem eV_pL277x0x142y0x208y1x202y0 (H : eV_Q q σ) : (¬ (q 142=0))→(q 208=0)→(¬ (q 202=0))→(¬ (q 277=0)) := by
 have e42:q 42=q 16-q 3:=H 42 _ rfl;have e43:q 43=q 17-q 4:=H 43 _ rfl;have e44:q 44=q 18-q 5:=H 44 _ rfl;have e63:q 63=0:=(H 63 _ rfl).trans eV_c63;have e137:q 137=q 121*q 42:=H 137 _ rfl;have e138:q 138=q 63+q 137:=H 138 _ rfl;have e139:q 139=q 122*q 43:=H 139 _ rfl;have e140:q 140=q 138+q 139:=H 140 _ rfl;have e141:q 141=q 123*q 44:=H 141 _ rfl;have e142:q 142=q 140+q 141:=H 142 _ rfl;have e188:q 188=q 29-q 16:=H 188 _ rfl;have e189:q 189=q 30-q 17:=H 189 _ rfl;have e190:q 190=q 31-q 18:=H 190 _ rfl;have e196:q 196=q 121*q 16:=H 196 _ rfl;have e197:q 197=q 63+q 196:=H 197 _ rfl;have e198:q 198=q 122*q 17:=H 198 _ rfl;have e199:q 199=q 197+q 198:=H 199 _ rfl;have e200:q 200=q 123*q 18:=H 200 _ rfl;have e201:q 201=q 199+q 200:=H 201 _ rfl;have e202:q 202=q 201+q 124:=H 202 _ rfl;have e203:q 203=q 121*q 188:=H 203 _ rfl;have e204:q 204=q 63+q 203:=H 204 _ rfl;have e205:q 205=q 122*q 189:=H 205 _ rfl;have e206:q 206=q 204+q 205:=H 206 _ rfl;have e207:q 207=q 123*q 190:=H 207 _ rfl;have e208:q 208=q 206+q 207:=H 208 _ rfl;have e257:q 257=q 3-q 29:=H 257 _ rfl;have e258:q 258=q 4-q 30:=H 258 _ rfl;have e259:q 259=q 5-q 31:=H 259 _ rfl;have e272:q 272=q 121*q 257:=H 272 _ rfl;have e273:q 273=q 63+q 272:=H 273 _ rfl;have e274:q 274=q 122*q 258:=H 274 _ rfl;have e275:q 275=q 273+q 274:=H 275 _ rfl;have e276:q 276=q 123*q 259:=H 276 _ rfl;have e277:q 277=q 275+q 276:=H 277 _ rfl
 exact eV_pL277x0x142y0x208y1x202y0z e42 e43 e44 e63 e137 e138 e139 e140 e141 e142 e188 e189 e190 e196 e197 e198 e199 e200 e201 e202 e203 e204 e205 e206 e207 e208 e257 e258 e259 e272 e273 e274 e275 e276 e277
def eV_cs : List (FuncId × Nat) := [(93,60),(51,61),(36,65)]
def eV_G : Memo := [(44,[rA [306,307,308],rA [309,310,311]],rA [314,317,320]),(44,[rA [32,33,34],rA [6,7,8]],rA [294,297,300]),(90,[qA [121,122,123,124],qA [282,283,284]],qA [291]),(70,[qA [29,30,31],qA [279,280,281]],qA [282,283,284]),(138,[qA [257,258,259],qA [278]],qA [279,280,281]),(128,[qA [121,122,123],qA [257,258,259]],qA [277]),(90,[qA [121,122,123,124],qA [29,30,31]],qA [271]),(70,[qA [3,4,5],qA [29,30,31]],qA [257,258,259]),(44,[rA [237,238,239],rA [240,241,242]],rA [245,248,251]),(44,[rA [19,20,21],rA [32,33,34]],rA [225,228,231]),(90,[qA [121,122,123,124],qA [213,214,215]],qA [222]),(70,[qA [16,17,18],qA [210,211,212]],qA [213,214,215]),(138,[qA [188,189,190],qA [209]],qA [210,211,212]),(128,[qA [121,122,123],qA [188,189,190]],qA [208]),(90,[qA [121,122,123,124],qA [16,17,18]],qA [202]),(70,[qA [29,30,31],qA [16,17,18]],qA [188,189,190]),(44,[rA [171,172,173],rA [74,75,76]],rA [176,179,182]),(44,[rA [6,7,8],rA [19,20,21]],rA [159,162,165]),(90,[qA [121,122,123,124],qA [147,148,149]],qA [156]),(70,[qA [3,4,5],qA [144,145,146]],qA [147,148,149]),(138,[qA [42,43,44],qA [143]],qA [144,145,146]),(128,[qA [121,122,123],qA [42,43,44]],qA [142]),(90,[qA [121,122,123,124],qA [3,4,5]],qA [136]),(94,[qA [101,102,103,104]],qA [121,122,123,124]),(94,[qA [82,85,88,100]],qA [101,102,103,104]),(128,[qA [82,85,88],qA [11,13,15]],qA [99]),(88,[qA [74,75,76],qA [77,78,79]],qA [82,85,88]),(70,[qA [37,39,41],qA [11,13,15]],qA [77,78,79]),(70,[qA [24,26,28],qA [11,13,15]],qA [74,75,76]),(94,[qA [50,53,56,69]],qA [70,71,72,73]),(128,[qA [50,53,56],qA [3,4,5]],qA [68]),(88,[qA [42,43,44],qA [45,46,47]],qA [50,53,56]),(70,[qA [29,30,31],qA [3,4,5]],qA [45,46,47]),(70,[qA [16,17,18],qA [3,4,5]],qA [42,43,44]),(30,[rA [0,1,2],rA [32,33,34],r1 35],rA [37,39,41]),(30,[rA [0,1,2],rA [19,20,21],r1 22],rA [24,26,28]),(30,[rA [0,1,2],rA [6,7,8],r1 9],rA [11,13,15])]
theorem eV_g0 : memoChk (sx Tryz.prog eV_N [] [] eV_L eV_C eV_Z (prC [9])) eV_cs 5 29 (eV_G.drop 0)=true := by kernel_rfl
theorem eV_g1 : memoChk (sx Tryz.prog eV_N [] [] eV_L eV_C eV_Z (prC [9])) eV_cs 5 8 (eV_G.drop 29)=true := by kernel_rfl
theorem eV_memoG {q : Nat→Rat} {σ : Nat→ByteArray} {w : World} (hσ : ∀ j,(σ j).size≤1048576) (hq : ∀ (a : Nat) nd,eV_N[a]? = some nd→q a=valN σ q nd) (h0 : ∀ a,eV_N.length≤a→q a=0) (hp : PreS w) : MemoAll eV_N eV_L eV_C eV_Z q σ [9] w eV_G := by
 have Y : Hy eV_N [] eV_L eV_C eV_Z q σ := hy_ofA hσ eV_wf eV_sz eV_lt eV_cn hq h0 trivial
 have hc : ∀ f ∈ ([9] : List FuncId),Closed f := by simp [closed_spaced]
 have hm : (Tryz.prog).follows .mixedOrders=true := by kernel_rfl
 exact (memoAll_chk (M := eV_G.drop 0) Y hc hm hp 29 eV_g0 (memoAll_chk (M := eV_G.drop 29) Y hc hm hp 8 eV_g1 memoAll_nil))
def eV_H0 : List (Nat × Nat × Nat × Nat) := [(0,61,0,1),(0,93,0,1)]
def eV_H1 : List (Nat × Nat × Nat × Nat) := [(0,61,0,1),(0,93,0,0)]
def eV_H2 : List (Nat × Nat × Nat × Nat) := [(0,61,0,0),(0,93,0,1)]
def eV_H3 : List (Nat × Nat × Nat × Nat) := [(0,61,0,0),(0,93,0,0),(0,115,0,1)]
def eV_H4 : List (Nat × Nat × Nat × Nat) := [(0,61,0,0),(0,93,0,0),(0,115,0,0),(0,120,0,0),(0,129,0,0),(0,142,0,1),(0,136,0,1),(0,195,0,0),(0,208,0,0),(0,222,0,1),(0,236,0,0),(0,256,0,1),(0,264,0,0),(0,277,0,0),(0,291,0,1),(0,305,0,0),(0,325,0,1)]
def eV_H5 : List (Nat × Nat × Nat × Nat) := [(0,61,0,0),(0,93,0,0),(0,115,0,0),(0,120,0,0),(0,129,0,0),(0,142,0,1),(0,136,0,0),(0,195,0,0),(0,208,0,1),(0,202,0,0),(0,264,0,0),(0,277,0,1),(0,271,0,0)]
def eV_H6 : List (Nat × Nat × Nat × Nat) := [(0,61,0,0),(0,93,0,0),(0,115,0,0),(0,120,0,0),(0,129,0,0),(0,142,0,1),(0,136,0,0),(0,195,0,0),(0,208,0,0),(0,222,0,1),(0,236,0,0),(0,256,0,1),(0,264,0,0),(0,277,0,0),(0,291,0,1),(0,305,0,0),(0,325,0,1)]
def eV_H7 : List (Nat × Nat × Nat × Nat) := [(0,61,0,0),(0,93,0,0),(0,115,0,0),(0,120,0,0),(0,129,0,0),(0,142,0,0),(0,156,0,1),(0,170,0,0),(0,187,0,1),(0,195,0,0),(0,208,0,1),(0,202,0,1),(0,264,0,0),(0,277,0,0),(0,291,0,1),(0,305,0,0),(0,325,0,1)]
def eV_H8 : List (Nat × Nat × Nat × Nat) := [(0,61,0,0),(0,93,0,0),(0,115,0,0),(0,120,0,0),(0,129,0,0),(0,142,0,0),(0,156,0,1),(0,170,0,0),(0,187,0,1),(0,195,0,0),(0,208,0,1),(0,202,0,0),(0,264,0,0),(0,277,0,0),(0,291,0,1),(0,305,0,0),(0,325,0,1)]
def eV_H9 : List (Nat × Nat × Nat × Nat) := [(0,61,0,0),(0,93,0,0),(0,115,0,0),(0,120,0,0),(0,129,0,0),(0,142,0,0),(0,156,0,1),(0,170,0,0),(0,187,0,1),(0,195,0,0),(0,208,0,0),(0,222,0,1),(0,236,0,0),(0,256,0,1),(0,264,0,0),(0,277,0,1),(0,271,0,1)]
def eV_H10 : List (Nat × Nat × Nat × Nat) := [(0,61,0,0),(0,93,0,0),(0,115,0,0),(0,120,0,0),(0,129,0,0),(0,142,0,0),(0,156,0,1),(0,170,0,0),(0,187,0,1),(0,195,0,0),(0,208,0,0),(0,222,0,1),(0,236,0,0),(0,256,0,1),(0,264,0,0),(0,277,0,1),(0,271,0,0)]
def eV_H11 : List (Nat × Nat × Nat × Nat) := [(0,61,0,0),(0,93,0,0),(0,115,0,0),(0,120,0,0),(0,129,0,0),(0,142,0,0),(0,156,0,1),(0,170,0,0),(0,187,0,1),(0,195,0,0),(0,208,0,0),(0,222,0,1),(0,236,0,0),(0,256,0,1),(0,264,0,0),(0,277,0,0),(0,291,0,1),(0,305,0,0),(0,325,0,1)]
theorem eV_r0 : (callD (sx Tryz.prog eV_N eV_H0 [] eV_L eV_C eV_Z (prC [9])) eV_cs eV_G 5 [] 7 eV_A [] 0).map (·.1)=some (kB true) := by kernel_rfl
theorem eV_r1 : (callD (sx Tryz.prog eV_N eV_H1 [] eV_L eV_C eV_Z (prC [9])) eV_cs eV_G 5 [] 7 eV_A [] 0).map (·.1)=some (kB true) := by kernel_rfl
theorem eV_r2 : (callD (sx Tryz.prog eV_N eV_H2 [] eV_L eV_C eV_Z (prC [9])) eV_cs eV_G 5 [] 7 eV_A [] 0).map (·.1)=some (kB true) := by kernel_rfl
theorem eV_r3 : (callD (sx Tryz.prog eV_N eV_H3 [] eV_L eV_C eV_Z (prC [9])) eV_cs eV_G 5 [] 7 eV_A [] 0).map (·.1)=some (kB true) := by kernel_rfl
theorem eV_r4 : (callD (sx Tryz.prog eV_N eV_H4 [] eV_L eV_C eV_Z (prC [9])) eV_cs eV_G 5 [] 7 eV_A [] 0).map (·.1)=some (kB true) := by kernel_rfl
theorem eV_r5 : (callD (sx Tryz.prog eV_N eV_H5 [] eV_L eV_C eV_Z (prC [9])) eV_cs eV_G 5 [] 7 eV_A [] 0).map (·.1)=some (kB true) := by kernel_rfl
theorem eV_r6 : (callD (sx Tryz.prog eV_N eV_H6 [] eV_L eV_C eV_Z (prC [9])) eV_cs eV_G 5 [] 7 eV_A [] 0).map (·.1)=some (kB true) := by kernel_rfl
theorem eV_r7 : (callD (sx Tryz.prog eV_N eV_H7 [] eV_L eV_C eV_Z (prC [9])) eV_cs eV_G 5 [] 7 eV_A [] 0).map (·.1)=some (kB true) := by kernel_rfl
theorem eV_r8 : (callD (sx Tryz.prog eV_N eV_H8 [] eV_L eV_C eV_Z (prC [9])) eV_cs eV_G 5 [] 7 eV_A [] 0).map (·.1)=some (kB true) := by kernel_rfl
theorem eV_r9 : (callD (sx Tryz.prog eV_N eV_H9 [] eV_L eV_C eV_Z (prC [9])) eV_cs eV_G 5 [] 7 eV_A [] 0).map (·.1)=some (kB true) := by kernel_rfl
theorem eV_r10 : (callD (sx Tryz.prog eV_N eV_H10 [] eV_L eV_C eV_Z (prC [9])) eV_cs eV_G 5 [] 7 eV_A [] 0).map (·.1)=some (kB true) := by kernel_rfl
theorem eV_r11 : (callD (sx Tryz.prog eV_N eV_H11 [] eV_L eV_C eV_Z (prC [9])) eV_cs eV_G 5 [] 7 eV_A [] 0).map (·.1)=some (kB true) := by kernel_rfl
theorem eV_An {a b : Prop} (x : a) (y : b) : a∧b := ⟨x,y⟩
theorem eV_leaf {M : Memo} {H : List (Nat × Nat × Nat × Nat)} {K : List (FuncId × List AC)} {k : Nat} {q : Nat→Rat} {σ : Nat→ByteArray} {args : List AV} {vs : List Value} {w : World} (hr : (callD (sx Tryz.prog eV_N H K eV_L eV_C eV_Z (prC [9])) eV_cs M k [] 7 args [] 0).map (·.1)=some (kB true)) (hσ : ∀ j,(σ j).size≤1048576) (hq : ∀ (a : Nat) nd,eV_N[a]? = some nd→q a=valN σ q nd) (h0 : ∀ a,eV_N.length≤a→q a=0) (hH : hAll q H) (hp : PreS w) (hM : MemoAll eV_N eV_L eV_C eV_Z q σ [9] w M) (hA : ∀ K,A2 (avOn (cOn (evS q σ) K (fun _ => none) w)) args vs) : Calls Tryz.prog 7 vs.toArray w fun e w' => Below w.heap.size w w'∧e=.returned (.bool true) :=
 run_toldD' k (hy_ofA hσ eV_wf eV_sz eV_lt eV_cn hq h0 hH) (by simp [closed_spaced]) (by kernel_rfl) hp hM hr (hA K)
theorem eV_leafC {H : List (Nat × Nat × Nat × Nat)} {K : List (FuncId × List AC)} {k : Nat} {q : Nat→Rat} {σ : Nat→ByteArray} {args : List AV} {vs : List Value} {w : World} (hr : (callC (sx Tryz.prog eV_N H K eV_L eV_C eV_Z (prC [9])) eV_cs k [] 7 args [] 0).map (·.1)=some (kB true)) (hσ : ∀ j,(σ j).size≤1048576) (hq : ∀ (a : Nat) nd,eV_N[a]? = some nd→q a=valN σ q nd) (h0 : ∀ a,eV_N.length≤a→q a=0) (hH : hAll q H) (hp : PreS w) (hA : ∀ K,A2 (avOn (cOn (evS q σ) K (fun _ => none) w)) args vs) : Calls Tryz.prog 7 vs.toArray w fun e w' => Below w.heap.size w w'∧e=.returned (.bool true) :=
 run_toldC' k (hy_ofA hσ eV_wf eV_sz eV_lt eV_cn hq h0 hH) (by simp [closed_spaced]) (by kernel_rfl) hr hp (hA K)
theorem eV_walk {w : World} {ox oy oz tax tay taz tbx tby tbz tcx tcy tcz ka kb kc : ByteArray}  (sox : ox.size≤1048576) (soy : oy.size≤1048576) (soz : oz.size≤1048576) (stax : tax.size≤1048576) (stay : tay.size≤1048576) (staz : taz.size≤1048576) (stbx : tbx.size≤1048576) (stby : tby.size≤1048576) (stbz : tbz.size≤1048576) (stcx : tcx.size≤1048576) (stcy : tcy.size≤1048576) (stcz : tcz.size≤1048576) (ska : ka.size≤1048576) (skb : kb.size≤1048576) (skc : kc.size≤1048576) (tab : Tab w) (mx : MaxL w) :
  Calls Tryz.prog 7 #[.agg #[.string ox,.string oy,.string oz],.agg #[.string tax,.string tay,.string taz,.string tbx,.string tby,.string tbz,.string tcx,.string tcy,.string tcz],.agg #[.string ka,.string kb,.string kc]] w fun e w' => Below w.heap.size w w'∧e=.returned (.bool true) := by
 have hσ : ∀ j,(sgOf [ox,oy,oz,tax,tay,taz,tbx,tby,tbz,tcx,tcy,tcz,ka,kb,kc] j).size≤1048576 := sgOf_size (by simp [sox,soy,soz,stax,stay,staz,stbx,stby,stbz,stcx,stcy,stcz,ska,skb,skc])
 obtain ⟨q,hq,h0⟩ := nodes_exist (sgOf [ox,oy,oz,tax,tay,taz,tbx,tby,tbz,tcx,tcy,tcz,ka,kb,kc]) eV_N eV_wf
 have hA : ∀ K,A2 (avOn (cOn (evS q (sgOf [ox,oy,oz,tax,tay,taz,tbx,tby,tbz,tcx,tcy,tcz,ka,kb,kc])) K (fun _ => none) w)) [(false,[(true,[.inr (2,0,0,0,0),.inr (2,1,0,0,0),.inr (2,2,0,0,0)])]),(false,[(true,[.inr (2,3,0,0,0),.inr (2,4,0,0,0),.inr (2,5,0,0,0),.inr (2,6,0,0,0),.inr (2,7,0,0,0),.inr (2,8,0,0,0),.inr (2,9,0,0,0),.inr (2,10,0,0,0),.inr (2,11,0,0,0)])]),(false,[(true,[.inr (2,12,0,0,0),.inr (2,13,0,0,0),.inr (2,14,0,0,0)])])] [.agg #[.string ox,.string oy,.string oz],.agg #[.string tax,.string tay,.string taz,.string tbx,.string tby,.string tbz,.string tcx,.string tcy,.string tcz],.agg #[.string ka,.string kb,.string kc]] := fun K => ⟨⟨⟨[.string ox,.string oy,.string oz],rfl,rfl,rfl,rfl,trivial⟩,trivial⟩,⟨⟨[.string tax,.string tay,.string taz,.string tbx,.string tby,.string tbz,.string tcx,.string tcy,.string tcz],rfl,rfl,rfl,rfl,rfl,rfl,rfl,rfl,rfl,rfl,trivial⟩,trivial⟩,⟨⟨[.string ka,.string kb,.string kc],rfl,rfl,rfl,rfl,trivial⟩,trivial⟩,trivial⟩
 by_cases b61 : q 61=0
 ·
  by_cases b93 : q 93=0
  ·
   have hH : hAll q eV_H0 := (eV_An (hT b61) (eV_An (hT b93) trivial))
   exact eV_leaf eV_r0 hσ hq h0 hH ⟨tab,mx⟩ (eV_memoG hσ hq h0 ⟨tab,mx⟩) hA
  ·
   have hH : hAll q eV_H1 := (eV_An (hT b61) (eV_An (hF b93) trivial))
   exact eV_leaf eV_r1 hσ hq h0 hH ⟨tab,mx⟩ (eV_memoG hσ hq h0 ⟨tab,mx⟩) hA
 ·
  by_cases b93 : q 93=0
  ·
   have hH : hAll q eV_H2 := (eV_An (hF b61) (eV_An (hT b93) trivial))
   exact eV_leaf eV_r2 hσ hq h0 hH ⟨tab,mx⟩ (eV_memoG hσ hq h0 ⟨tab,mx⟩) hA
  ·
   by_cases b115 : q 115=0
   ·
    have hH : hAll q eV_H3 := (eV_An (hF b61) (eV_An (hF b93) (eV_An (hT b115) trivial)))
    exact eV_leaf eV_r3 hσ hq h0 hH ⟨tab,mx⟩ (eV_memoG hσ hq h0 ⟨tab,mx⟩) hA
   ·
    have gP := eV_pP hq b93
    have b120 : ¬ (q 120=0) := gP
    have gA0 := eV_pA0 hq b61
    have b129 : ¬ (q 129=0) := gA0
    by_cases b142 : q 142=0
    ·
     by_cases b136 : q 136=0
     ·
      have gA1 := eV_pA1 hq b61
      have b195 : ¬ (q 195=0) := gA1
      have gY := eV_pY hq b61 b93 b115 b142 b136
      have b208 : ¬ (q 208=0) := gY
      have gV1 := eV_pV1 hq b208
      have b222 : q 222=0 := gV1
      have gW1 := eV_pW1 hq b93 b208 (eV_pB1 hq) (eV_pB2 hq)
      have b236 : ¬ (q 236=0) := gW1
      have gX1 := eV_pX1 hq b208 (eV_pB1 hq) (eV_pB2 hq)
      have b256 : q 256=0 := gX1
      have gA2 := eV_pA2 hq b61
      have b264 : ¬ (q 264=0) := gA2
      have gZ := eV_pZ hq b142 (eV_pY hq b61 b93 b115 b142 b136)
      have b277 : ¬ (q 277=0) := gZ
      have gV2 := eV_pV2 hq b277
      have b291 : q 291=0 := gV2
      have gW2 := eV_pW2 hq b93 b277 (eV_pB2 hq) (eV_pB0 hq)
      have b305 : ¬ (q 305=0) := gW2
      have gX2 := eV_pX2 hq b277 (eV_pB2 hq) (eV_pB0 hq)
      have b325 : q 325=0 := gX2
      have hH : hAll q eV_H4 := (eV_An (hF b61) (eV_An (hF b93) (eV_An (hF b115) (eV_An (hF b120) (eV_An (hF b129) (eV_An (hT b142) (eV_An (hT b136) (eV_An (hF b195) (eV_An (hF b208) (eV_An (hT b222) (eV_An (hF b236) (eV_An (hT b256) (eV_An (hF b264) (eV_An (hF b277) (eV_An (hT b291) (eV_An (hF b305) (eV_An (hT b325) trivial)))))))))))))))))
      exact eV_leaf eV_r4 hσ hq h0 hH ⟨tab,mx⟩ (eV_memoG hσ hq h0 ⟨tab,mx⟩) hA
     ·
      have gA1 := eV_pA1 hq b61
      have b195 : ¬ (q 195=0) := gA1
      by_cases b208 : q 208=0
      ·
       have gL202x0x142y1x208y1x136y0 := eV_pL202x0x142y1x208y1x136y0 hq b142 b208 b136
       have b202 : ¬ (q 202=0) := gL202x0x142y1x208y1x136y0
       have gA2 := eV_pA2 hq b61
       have b264 : ¬ (q 264=0) := gA2
       have gL277x1x142y1x208y1x136y0 := eV_pL277x1x142y1x208y1x136y0 hq b142 b208 b136
       have b277 : q 277=0 := gL277x1x142y1x208y1x136y0
       have gL271x0x142y1x208y1x136y0 := eV_pL271x0x142y1x208y1x136y0 hq b142 b208 b136
       have b271 : ¬ (q 271=0) := gL271x0x142y1x208y1x136y0
       have hH : hAll q eV_H5 := (eV_An (hF b61) (eV_An (hF b93) (eV_An (hF b115) (eV_An (hF b120) (eV_An (hF b129) (eV_An (hT b142) (eV_An (hF b136) (eV_An (hF b195) (eV_An (hT b208) (eV_An (hF b202) (eV_An (hF b264) (eV_An (hT b277) (eV_An (hF b271) trivial)))))))))))))
       exact eV_leaf eV_r5 hσ hq h0 hH ⟨tab,mx⟩ (eV_memoG hσ hq h0 ⟨tab,mx⟩) hA
      ·
       have gV1 := eV_pV1 hq b208
       have b222 : q 222=0 := gV1
       have gW1 := eV_pW1 hq b93 b208 (eV_pB1 hq) (eV_pB2 hq)
       have b236 : ¬ (q 236=0) := gW1
       have gX1 := eV_pX1 hq b208 (eV_pB1 hq) (eV_pB2 hq)
       have b256 : q 256=0 := gX1
       have gA2 := eV_pA2 hq b61
       have b264 : ¬ (q 264=0) := gA2
       have gL277x0x142y1x208y0x136y0 := eV_pL277x0x142y1x208y0x136y0 hq b142 b208 b136
       have b277 : ¬ (q 277=0) := gL277x0x142y1x208y0x136y0
       have gV2 := eV_pV2 hq b277
       have b291 : q 291=0 := gV2
       have gW2 := eV_pW2 hq b93 b277 (eV_pB2 hq) (eV_pB0 hq)
       have b305 : ¬ (q 305=0) := gW2
       have gX2 := eV_pX2 hq b277 (eV_pB2 hq) (eV_pB0 hq)
       have b325 : q 325=0 := gX2
       have hH : hAll q eV_H6 := (eV_An (hF b61) (eV_An (hF b93) (eV_An (hF b115) (eV_An (hF b120) (eV_An (hF b129) (eV_An (hT b142) (eV_An (hF b136) (eV_An (hF b195) (eV_An (hF b208) (eV_An (hT b222) (eV_An (hF b236) (eV_An (hT b256) (eV_An (hF b264) (eV_An (hF b277) (eV_An (hT b291) (eV_An (hF b305) (eV_An (hT b325) trivial)))))))))))))))))
       exact eV_leaf eV_r6 hσ hq h0 hH ⟨tab,mx⟩ (eV_memoG hσ hq h0 ⟨tab,mx⟩) hA
    ·
     have gV0 := eV_pV0 hq b142
     have b156 : q 156=0 := gV0
     have gW0 := eV_pW0 hq b93 b142 (eV_pB0 hq) (eV_pB1 hq)
     have b170 : ¬ (q 170=0) := gW0
     have gX0 := eV_pX0 hq b142 (eV_pB0 hq) (eV_pB1 hq)
     have b187 : q 187=0 := gX0
     have gA1 := eV_pA1 hq b61
     have b195 : ¬ (q 195=0) := gA1
     by_cases b208 : q 208=0
     ·
      by_cases b202 : q 202=0
      ·
       have gA2 := eV_pA2 hq b61
       have b264 : ¬ (q 264=0) := gA2
       have gL277x0x142y0x208y1x202y1 := eV_pL277x0x142y0x208y1x202y1 hq b142 b208 b202
       have b277 : ¬ (q 277=0) := gL277x0x142y0x208y1x202y1
       have gV2 := eV_pV2 hq b277
       have b291 : q 291=0 := gV2
       have gW2 := eV_pW2 hq b93 b277 (eV_pB2 hq) (eV_pB0 hq)
       have b305 : ¬ (q 305=0) := gW2
       have gX2 := eV_pX2 hq b277 (eV_pB2 hq) (eV_pB0 hq)
       have b325 : q 325=0 := gX2
       have hH : hAll q eV_H7 := (eV_An (hF b61) (eV_An (hF b93) (eV_An (hF b115) (eV_An (hF b120) (eV_An (hF b129) (eV_An (hF b142) (eV_An (hT b156) (eV_An (hF b170) (eV_An (hT b187) (eV_An (hF b195) (eV_An (hT b208) (eV_An (hT b202) (eV_An (hF b264) (eV_An (hF b277) (eV_An (hT b291) (eV_An (hF b305) (eV_An (hT b325) trivial)))))))))))))))))
       exact eV_leaf eV_r7 hσ hq h0 hH ⟨tab,mx⟩ (eV_memoG hσ hq h0 ⟨tab,mx⟩) hA
      ·
       have gA2 := eV_pA2 hq b61
       have b264 : ¬ (q 264=0) := gA2
       have gL277x0x142y0x208y1x202y0 := eV_pL277x0x142y0x208y1x202y0 hq b142 b208 b202
       have b277 : ¬ (q 277=0) := gL277x0x142y0x208y1x202y0
       have gV2 := eV_pV2 hq b277
       have b291 : q 291=0 := gV2
       have gW2 := eV_pW2 hq b93 b277 (eV_pB2 hq) (eV_pB0 hq)
       have b305 : ¬ (q 305=0) := gW2
       have gX2 := eV_pX2 hq b277 (eV_pB2 hq) (eV_pB0 hq)
       have b325 : q 325=0 := gX2
       have hH : hAll q eV_H8 := (eV_An (hF b61) (eV_An (hF b93) (eV_An (hF b115) (eV_An (hF b120) (eV_An (hF b129) (eV_An (hF b142) (eV_An (hT b156) (eV_An (hF b170) (eV_An (hT b187) (eV_An (hF b195) (eV_An (hT b208) (eV_An (hF b202) (eV_An (hF b264) (eV_An (hF b277) (eV_An (hT b291) (eV_An (hF b305) (eV_An (hT b325) trivial)))))))))))))))))
       exact eV_leaf eV_r8 hσ hq h0 hH ⟨tab,mx⟩ (eV_memoG hσ hq h0 ⟨tab,mx⟩) hA
     ·
      have gV1 := eV_pV1 hq b208
      have b222 : q 222=0 := gV1
      have gW1 := eV_pW1 hq b93 b208 (eV_pB1 hq) (eV_pB2 hq)
      have b236 : ¬ (q 236=0) := gW1
      have gX1 := eV_pX1 hq b208 (eV_pB1 hq) (eV_pB2 hq)
      have b256 : q 256=0 := gX1
      have gA2 := eV_pA2 hq b61
      have b264 : ¬ (q 264=0) := gA2
      by_cases b277 : q 277=0
      ·
       by_cases b271 : q 271=0
       ·
        have hH : hAll q eV_H9 := (eV_An (hF b61) (eV_An (hF b93) (eV_An (hF b115) (eV_An (hF b120) (eV_An (hF b129) (eV_An (hF b142) (eV_An (hT b156) (eV_An (hF b170) (eV_An (hT b187) (eV_An (hF b195) (eV_An (hF b208) (eV_An (hT b222) (eV_An (hF b236) (eV_An (hT b256) (eV_An (hF b264) (eV_An (hT b277) (eV_An (hT b271) trivial)))))))))))))))))
        exact eV_leaf eV_r9 hσ hq h0 hH ⟨tab,mx⟩ (eV_memoG hσ hq h0 ⟨tab,mx⟩) hA
       ·
        have hH : hAll q eV_H10 := (eV_An (hF b61) (eV_An (hF b93) (eV_An (hF b115) (eV_An (hF b120) (eV_An (hF b129) (eV_An (hF b142) (eV_An (hT b156) (eV_An (hF b170) (eV_An (hT b187) (eV_An (hF b195) (eV_An (hF b208) (eV_An (hT b222) (eV_An (hF b236) (eV_An (hT b256) (eV_An (hF b264) (eV_An (hT b277) (eV_An (hF b271) trivial)))))))))))))))))
        exact eV_leaf eV_r10 hσ hq h0 hH ⟨tab,mx⟩ (eV_memoG hσ hq h0 ⟨tab,mx⟩) hA
      ·
       have gV2 := eV_pV2 hq b277
       have b291 : q 291=0 := gV2
       have gW2 := eV_pW2 hq b93 b277 (eV_pB2 hq) (eV_pB0 hq)
       have b305 : ¬ (q 305=0) := gW2
       have gX2 := eV_pX2 hq b277 (eV_pB2 hq) (eV_pB0 hq)
       have b325 : q 325=0 := gX2
       have hH : hAll q eV_H11 := (eV_An (hF b61) (eV_An (hF b93) (eV_An (hF b115) (eV_An (hF b120) (eV_An (hF b129) (eV_An (hF b142) (eV_An (hT b156) (eV_An (hF b170) (eV_An (hT b187) (eV_An (hF b195) (eV_An (hF b208) (eV_An (hT b222) (eV_An (hF b236) (eV_An (hT b256) (eV_An (hF b264) (eV_An (hF b277) (eV_An (hT b291) (eV_An (hF b305) (eV_An (hT b325) trivial)))))))))))))))))))
       exact eV_leaf eV_r11 hσ hq h0 hH ⟨tab,mx⟩ (eV_memoG hσ hq h0 ⟨tab,mx⟩) hA
end Go.Proofs.YtikldelfdioimaaGreatDoor
