/- Part 13 of the walks and of the mathematics under them: VP VPC VY VSZ VSA CFspun PLY VPD VPE MQORA MQOR1 MQOR2 MQO. -/
import Derived.Test.YtmdfngmjoaigjaaGreatDoorA2
import Derived.Test.YtmdfngmjoaigjaaGreatDoorA12
import Derived.Test.YtmdfngmjoaigjaaGreatDoorA11
set_option maxHeartbeats 16000000
set_option maxRecDepth 100000
/- VP -/
namespace Cx
open Go Go.RowKit
abbrev Hs := List (Nat × Nat × Nat × Nat)
def Sx.plus (S : Sx) (X : Hs) : Sx := { S with H := X ++ S.H }
abbrev Ask := Nat × Nat × Nat × Nat
def XB (a : Nat) : Ask := (0,a,0,a)
def JL (S : Sx) : Ask→Bool
 | (k,a,b,d) => (Nat.beq k 0 && (Nat.beq b 0 && Nat.beq d a)) || (Nat.beq k 3 && (match S.N[d]? with
  | some (op,ar) => Nat.beq op 3 && Rq ar [a,b]
  | none => false))
def Yt (S : Sx) (a b : Nat) : List Nat→List Nat→Option (List Ask)
 | c :: l,d :: m => (S.nd 4 [a,d]).bind fun x => (S.nd 4 [c,b]).bind fun y => (S.nd 3 [x,y]).bind fun z => (Yt S a b l m).map fun r => (3,x,y,z) :: r
 | _,_ => some []
def UI (S : Sx) : List Nat→List Nat→List Nat→List Nat→Option (List Ask)
 | pl,pm,a :: l,b :: m => (Yt S a b pl pm).bind fun r => (UI S (pl ++ [a]) (pm ++ [b]) l m).map fun t => r ++ t
 | _,_,_,_ => some []
def OL (S : Sx) : List Nat→List Nat→Option (List Ask)
 | a :: l,b :: m => (S.nd 3 [a,b]).bind fun d => (OL S l m).map fun r => (3,a,b,d) :: r
 | _,_ => some []
def asks (S : Sx) (h : List HB) (code : Nat) (args : List AV) : Option (List Ask) :=
 match code with
 | 60 => arg1 (fun x => (asA x).bind fun cs => (WY S cs).map fun l => l.map XB) args
 | 61 => arg1 (fun x => (YW h 1 x).bind fun p => (Zi (acX 0) p.2).map fun l => l.map XB) args
 | 62 => Ua (fun x y => (YW h 1 x).bind fun p => (Zi (acX 0) p.2).bind fun l => (YW h 1 y).bind fun p' => (Zi (acX 0) p'.2).bind fun m => UI S [] [] l m) args
 | 63 => arg1 (fun x => (asA x).bind fun cs => (Zi Jx cs).bind fun l => (Rp S l).map fun xs => xs.map XB) args
 | 69 => arg1 (fun x => (asA x).bind fun cs => (Zi (UQ S) cs).map fun l => l.map XB) args
 | 67 => arg1 (fun x => (asA x).bind fun cs => (Zi (UQ S) (cs.take 3)).map fun l => l.map XB) args
 | 65 => arg1 (fun x => (asA x).bind fun cs => (Zi (acX 0) cs).map fun l => l.map XB) args
 | 66 => Ua (fun x y => (asA x).bind fun cs => (asA y).bind fun ds => (Zi (acX 0) cs).bind fun l => (Zi (acX 0) ds).bind fun m => OL S l m) args
 | 64 => arg1 (fun x => (asA x).bind fun cs => (WY S cs).map fun l => (l.take 5).map XB) args
 | 68 => Ua (fun x _ => (asA x).bind fun cs => (WY S cs).map fun l => (l.take 5).map XB) args
 | _ => none
def Jd : List Ask→Hs→List Hs
 | [],_ => []
 | (k,a,b,_) :: l,X => ((k,a,b,0) :: X) :: Jd l ((k,a,b,1) :: X)
def Ub : List Ask→Hs→Hs
 | [],X => X
 | (k,a,b,_) :: l,X => Ub l ((k,a,b,1) :: X)
def Zv (S : Sx) (call : ZN) : ZN := fun f args h nx => S.P.funcs[f]?.bind fun fn => fn.body.bind fun c => ifO (Nat.ble args.length fn.ntmps) ((OH S call fn.ntmps c { tm := Ki 0 args,h := h,nx := nx }).bind fun r =>
   ifO (Nat.ble r.1 1) ((Zi (Dv S.P r.2) fn.results.toList).map fun xs => (Mw xs,r.2.h,r.2.nx)))
abbrev XV := Option (AV × List HB × Nat)
def acZ : AC→Option Nat
 | .inr (k,j,a,x,y) => ifO (Nat.beq k 0 && (Nat.beq j 7 && (Nat.beq x 0 && Nat.beq y 0))) (some a)
 | _ => none
def UA (S : Sx) (v : AV) : AV := match (asC v).bind (acX 4) with
 | some n => (match S.N[n]? with
  | some (_,[a,b]) => (match S.nd 4 [a,b],S.kn 0 a 0 with
   | some m,some r => bif Nat.beq m n && !Nat.beq 1 r then v1 (.inr (0,7,b,0,0)) else v
   | _,_ => v)
  | _ => v)
 | none => v
def JH (S : Sx) (r : XV) : XV := r.map fun p => (UA S p.1,p.2)
def Oa (v : AV) : Option (Bool ⊕ Nat) := match asB v with
 | some b => some (.inl b)
 | none => ((asC v).bind acZ).map .inr
def Rt : Bool ⊕ Nat→AV
 | .inl b => kB b
 | .inr a => v1 (.inr (0,7,a,0,0))
def UP : Bool ⊕ Nat→Bool ⊕ Nat→Bool
 | .inl b,.inl c => b == c
 | .inr a,.inr b => Nat.beq a b
 | _,_ => false
def Uu (h : List HB) (b : Bool ⊕ Nat) (hi : Nat) : XV→Bool
 | some (v,h',nx') => (match Oa v with
  | some c => UP b c
  | none => false) && (Nat.ble nx' hi && h.all fun x => h'.any fun y => Nat.beq y.1 x.1 && Iu x.2 y.2)
 | none => false
def WZ : Nat→List XV→Nat
 | m,[] => m
 | m,some p :: rs => WZ (bif Nat.ble m p.2.2 then p.2.2 else m) rs
 | m,none :: rs => WZ m rs
def XK (h : List HB) (nx : Nat) (rs : List XV) : XV :=
 match rs with
 | some p :: _ => (Oa p.1).bind fun b => ifO (rs.all (Uu h b (WZ nx rs))) (some (Rt b,h,WZ nx rs))
 | _ => none
def YR (S : Sx) (X : Hs) (h : List HB) (c : Nat) (args : List AV) : Option (List Ask × Nat) :=
 (asks (S.plus X) h c args).bind fun l => ifO (l.all (JL S)) ((sqN S (l.map (·.2.2.2))).bind fun s => ((S.plus X).kn 0 s 0).map fun r => (l,r))
theorem JZ {S : Sx} {X : Hs} {h : List HB} {c : Nat} {args : List AV} {l : List Ask} {r : Nat} (e : YR S X h c args=some (l,r)) : (∀ a ∈ l,JL S a=true)∧∃ s,sqN S (l.map (·.2.2.2))=some s∧(S.plus X).kn 0 s 0=some r := by
 unfold YR at e
 simp only [Option.bind_eq_some_iff,ifO_some,Option.map_eq_some_iff,List.all_eq_true,Prod.mk.injEq] at e
 obtain ⟨l',_,h1,s,h2,r',h3,rfl,rfl⟩ := e
 exact ⟨h1,s,h2,h3⟩
def ZC (S : Sx) (cs : List (FuncId × Nat)) : Nat→Hs→ZN
 | 0,_,_,_,_,_ => none
 | n+1,X,f,args,h,nx => match Wp f cs with
  | none => Zv (S.plus X) (ZC S cs n X) f args h nx
  | some c => match YR S X h c args with
   | none => Zv (S.plus X) (ZC S cs n X) f args h nx
   | some (l,r) => bif Nat.beq 1 r then Zv (S.plus (Ub l X)) (ZC S cs n (Ub l X)) f args h nx
    else XK h nx ((Jd l X).map fun X' => JH (S.plus X') (Zv (S.plus X') (ZC S cs n X') f args h nx))
section
variable {S : Sx} {E : Ev S.nb} {w0 : World}
theorem Yi {call : ZN} (hm : S.P.follows .mixedOrders=true) (N : Knows S E) (hP : JI S E w0) (hC : Zl S E w0 call) : Zl S E w0 (Zv S call) := fun f args h nx p hp γ w vs hi hA hb hlt hf => by
 unfold Zv at hp
 simp only [Option.bind_eq_some_iff,ifO_some,Option.map_eq_some_iff,Nat.ble_eq] at hp
 obtain ⟨fn,h1,c,h2,h3,⟨e,s'⟩,h4,h5,xs,h6,rfl⟩ := hp
 dsimp only at h5 h6
 rcases (show e=0 ∨ e=1 by omega) with rfl | rfl
 all_goals
  obtain ⟨_,_,r⟩ := Xr hm N hP hC c _ _ _ h4
  refine calls_of_wp h1 h2 (r γ _ w _ ⟨hi,fun t v q => ?_,hb,hlt,?_,rfl⟩ hf fun a' w' γ' hef hs => ?_)
  ·obtain ⟨_,q2⟩ := Vu q
   rw [Nat.sub_zero] at q2
   obtain ⟨u,hu,hv⟩ := hA.get q2
   have hlt : t < vs.length := (List.getElem?_eq_some_iff.1 hu).1
   have : (vs.toArray ++ Array.replicate (fn.ntmps - vs.toArray.size) undef).getD t undef=u := by
    rw [Array.getD_eq_getD_getElem?,Array.getElem?_append_left (by simpa using hlt)]
    simp [hu]
   show avOn _ v ((vs.toArray ++ Array.replicate (fn.ntmps - vs.toArray.size) undef).getD t undef)
   rw [this]
   exact hv
  ·have := hA.len
   simp
   omega
  ·obtain ⟨v,hv,hx⟩ := YE hs h6
   exact ⟨hs.df,v,hv,v,γ',rfl,hef,hx,hs.bx⟩
theorem Ru {v : AV} {b : Bool} (h : asB v=some b) : v=kB b := by
 unfold asB at h
 rw [Option.bind_eq_some_iff] at h
 obtain ⟨c,h1,h2⟩ := h
 unfold asC at h1
 split at h1
 ·cases h1
  unfold acB at h2
  split at h2
  ·cases h2
   rfl
  ·cases h2
 ·cases h1
theorem WW {v : AV} {k : Bool ⊕ Nat} (h : Oa v=some k) : v=Rt k := by
 unfold Oa at h
 split at h
 ·rename_i b hb
  cases h
  exact Ru hb
 ·rw [Option.map_eq_some_iff] at h
  obtain ⟨a,h,rfl⟩ := h
  rw [Option.bind_eq_some_iff] at h
  obtain ⟨c,h1,h2⟩ := h
  unfold asC at h1
  split at h1
  ·cases h1
   unfold acZ at h2
   split at h2
   ·rw [ifO_some,Bool.and_eq_true,Bool.and_eq_true,Bool.and_eq_true,Nat.beq_eq,Nat.beq_eq,Nat.beq_eq,Nat.beq_eq] at h2
    obtain ⟨⟨rfl,rfl,rfl,rfl⟩,h3⟩ := h2
    cases h3
    rfl
   ·cases h2
  ·cases h1
theorem UC {a b : Bool ⊕ Nat} (h : UP a b=true) : a=b := by
 unfold UP at h
 split at h
 ·rename_i x y
  have : x=y := by simpa using h
  rw [this]
 ·rw [Nat.beq_eq] at h
  rw [h]
 ·cases h
theorem YJ (q : Rat) : Xa q=0 ↔ q=0 := by
 unfold Xa
 split
 ·rename_i hlt
  constructor
  ·intro q; cases q
  ·intro q; rw [q] at hlt; exact absurd hlt (by decide)
 ·split <;> simp_all
theorem UB (N : Knows S E) {γ : Nat→Option Nat} {w : World} {v : AV} {r : Value} (h : avOn (cOn E S.K γ w) v r) : avOn (cOn E S.K γ w) (UA S v) r := by
 unfold UA
 split
 ·rename_i n hn
  rw [Option.bind_eq_some_iff] at hn
  obtain ⟨c,h1,h2⟩ := hn
  split
  ·split
   ·rename_i a b _ _ _ m r' hm hr
    cases e : (Nat.beq m n && !Nat.beq 1 r') with
    | true =>
     rw [Bool.and_eq_true,Nat.beq_eq,Bool.not_eq_true'] at e
     obtain ⟨rfl,e2⟩ := e
     have ez := (N.x4 _ _ _).1 (YU h2 (Zk h1 h))
     refine ZE ((N.x7 _ _ _).2 ⟨_,ez,?_⟩)
     have hz : ¬ E.q a=0 := fun q => by rw [(N.k0 a r' hr).2 q] at e2; cases e2
     rw [YJ,N.k7 _ _ _ hm]
     constructor
     ·exact fun q => (Rat.mul_eq_zero.1 q).resolve_left hz
     ·intro q
      rw [q,Rat.mul_zero]
    | false => exact h
   ·exact h
  ·exact h
 ·exact h
theorem Vq {X : Hs} {call : ZN} (N : Knows (S.plus X) E) (hC : Zl S E w0 call) : Zl S E w0 (fun f args h nx => JH (S.plus X) (call f args h nx)) := fun f args h nx p hp => by
 replace hp : JH (S.plus X) (call f args h nx)=some p := hp
 unfold JH at hp
 rw [Option.map_eq_some_iff] at hp
 obtain ⟨p0,hp0,rfl⟩ := hp
 intro γ w vs hi hA hb hlt hf
 refine (hC f args h nx p0 hp0 γ w vs hi hA hb hlt hf).mono ?_
 rintro _ w' ⟨r',γ',rfl,hef,hv,hx⟩
 exact ⟨r',γ',rfl,hef,UB (S := S.plus X) N hv,hx⟩
theorem JX {h : List HB} {b : Bool ⊕ Nat} {hi : Nat} {r : XV} (hr : Uu h b hi r=true) : ∃ h' nx',r=some (Rt b,h',nx')∧nx'≤hi∧∀ x ∈ h,x ∈ h' := by
 unfold Uu at hr
 split at hr
 ·rename_i v h' nx'
  rw [Bool.and_eq_true,Bool.and_eq_true,Nat.ble_eq,List.all_eq_true] at hr
  obtain ⟨h1,h2,h3⟩ := hr
  refine ⟨h',nx',?_,h2,fun x hx => ?_⟩
  ·split at h1
   ·rename_i c hc
    rw [WW hc,UC h1]
   ·cases h1
  ·have := h3 x hx
   rw [List.any_eq_true] at this
   obtain ⟨y,hy,e⟩ := this
   rw [Bool.and_eq_true,Nat.beq_eq] at e
   have : x=y := Prod.ext e.1.symm (XZ e.2)
   rw [this]
   exact hy
 ·cases hr
variable {T : Hs→Prop} {z : Nat→Prop}
def ZF (S : Sx) (T : Hs→Prop) (z : Nat→Prop) : Prop := ∀ X,T X→∀ a,JL S a=true→(z a.2.2.2→T ((a.1,a.2.1,a.2.2.1,1) :: X))∧(¬ z a.2.2.2→T ((a.1,a.2.1,a.2.2.1,0) :: X))
theorem ZV (hk : ZF S T z) : ∀ {l : List Ask} {X : Hs},T X→(∀ a ∈ l,JL S a=true)→(∀ a ∈ l,z a.2.2.2)→T (Ub l X)
 | [],_,h,_,_ => h
 | (k,a,b,d) :: l,X,h,ho,hz => ZV (l := l) hk ((hk X h (k,a,b,d) (ho _ List.mem_cons_self)).1 (hz _ List.mem_cons_self)) (fun a ha => ho a (List.mem_cons_of_mem _ ha)) (fun a ha => hz a (List.mem_cons_of_mem _ ha))
theorem ZD (hk : ZF S T z) : ∀ {l : List Ask} {X : Hs},T X→(∀ a ∈ l,JL S a=true)→(∃ a ∈ l,¬ z a.2.2.2)→∃ X' ∈ Jd l X,T X'
 | [],_,_,_,⟨_,h,_⟩ => by cases h
 | (k,a,b,d) :: l,X,h,ho,hz => by
  by_cases e : z d
  ·obtain ⟨X',h1,h2⟩ := ZD (l := l) hk ((hk X h (k,a,b,d) (ho _ List.mem_cons_self)).1 e) (fun a ha => ho a (List.mem_cons_of_mem _ ha)) (by
    obtain ⟨c,hc,hn⟩ := hz
    rcases List.mem_cons.1 hc with rfl | hc
    ·exact (hn e).elim
    ·exact ⟨c,hc,hn⟩)
   exact ⟨X',List.mem_cons_of_mem _ h1,h2⟩
  ·exact ⟨_,List.mem_cons_self,(hk X h (k,a,b,d) (ho _ List.mem_cons_self)).2 e⟩
theorem YB {cs : List (FuncId × Nat)} (hm : S.P.follows .mixedOrders=true) (hN : ∀ X,T X→Knows (S.plus X) E) (hP : ∀ X,T X→JI (S.plus X) E w0) (hk : ZF S T z)
  (hs : ∀ X,T X→∀ l s r,sqN S l=some s→(S.plus X).kn 0 s 0=some r→(Nat.beq 1 r=true→∀ d ∈ l,z d)∧(Nat.beq 1 r=false→∃ d ∈ l,¬ z d)) : ∀ n X,T X→Zl S E w0 (ZC S cs n X)
 | 0,_,_ => fun _ _ _ _ _ h => by cases h
 | n+1,X,hX => fun f args h nx p hp => by
  have body : ∀ Y,T Y→Zl S E w0 (Zv (S.plus Y) (ZC S cs n Y)) := fun Y hY => Yi (S := S.plus Y) hm (hN Y hY) (hP Y hY) (YB hm hN hP hk hs n Y hY)
  unfold ZC at hp
  split at hp
  ·exact body X hX f args h nx p hp
  ·split at hp
   ·exact body X hX f args h nx p hp
   rename_i l r hk'
   obtain ⟨hl,s,h1,h2⟩ := JZ hk'
   have h3 := hp
   obtain ⟨a1,a0⟩ := hs X hX _ s r h1 h2
   cases e : Nat.beq 1 r with
   | true =>
    rw [e] at h3
    exact body _ (ZV hk hX hl fun a ha => a1 e _ (List.mem_map_of_mem ha)) f args h nx p h3
   | false =>
    rw [e] at h3
    obtain ⟨d,hd,hz⟩ := a0 e
    obtain ⟨a,ha,rfl⟩ := List.mem_map.1 hd
    obtain ⟨X',m1,m2⟩ := ZD hk hX hl ⟨a,ha,hz⟩
    replace h3 : XK h nx ((Jd l X).map fun X' => JH (S.plus X') (Zv (S.plus X') (ZC S cs n X') f args h nx))=some p := h3
    unfold XK at h3
    split at h3
    ·rename_i p0 rs hrs
     rw [Option.bind_eq_some_iff] at h3
     obtain ⟨b,hb,h4⟩ := h3
     rw [ifO_some,List.all_eq_true] at h4
     obtain ⟨h5,h6⟩ := h4
     cases h6
     obtain ⟨h',nx',q1,q2,q3⟩ := JX (h5 _ (List.mem_map_of_mem m1))
     intro γ w vs hi hA hb hlt hf
     refine (Vq (hN X' m2) (body X' m2) f args h nx _ q1 γ w vs hi hA hb hlt fun b g1 g2 => hf b g1 (Nat.lt_of_lt_of_le g2 q2)).mono ?_
     rintro _ w' ⟨r',γ',rfl,hef,hv,hx⟩
     exact ⟨r',γ',rfl,hef.wide (Nat.le_refl _) q2,hv,fun x hh => hx x (q3 x hh)⟩
    ·cases h3
end
end Cx
/- VPC -/
namespace Go.Proofs.YtmdfngmjoaigjaaGreatDoor
open Cx Go Go.RowKit
section
variable {N : List Nd} {H : List (Nat × Nat × Nat × Nat)} {K : List (FuncId × List AC)} {L C : List (List Nat × Nat)} {Z : List Nat} {q : Nat→Rat} {σ : Nat→ByteArray} {w0 : World} {cl : List FuncId} {cs pr : List (FuncId × Nat)}
theorem QK {k a b k' a' b' r' : Nat} {r : Nat} (h : JG k a b ((k',a',b',r') :: H)=some r) : (k=k'∧a=a'∧b=b'∧r=r') ∨ JG k a b H=some r := by
 unfold JG at h
 cases e : (Nat.beq k k' && (Nat.beq a a' && Nat.beq b b')) with
 | true =>
  rw [e] at h
  simp only [Bool.and_eq_true,Nat.beq_eq] at e
  exact Or.inl ⟨e.1,e.2.1,e.2.2,(Option.some.inj h).symm⟩
 | false =>
  rw [e] at h
  exact Or.inr h
theorem Hy.add0 (Y : Hy N H L C Z q σ) {a r : Nat} (h : Nat.beq 1 r=true ↔ q a=0) : Hy N ((0,a,0,r) :: H) L C Z q σ where
 nat := Y.nat
 qs := Y.qs
 zs := Y.zs
 par := Y.par
 lit := Y.lit
 k0 := fun a' r' g => by
  rcases QK g with ⟨_,e1,_,e2⟩ | g
  ·rw [e1,e2]
   exact h
  ·exact Y.k0 a' r' g
 k1 := fun a' r' g => by
  rcases QK g with ⟨e,_⟩ | g
  ·cases e
  ·exact Y.k1 a' r' g
 k2 := fun a' r' g => by
  rcases QK g with ⟨e,_⟩ | g
  ·cases e
  ·exact Y.k2 a' r' g
 k4 := fun l a' b' r' g1 g => by
  rcases QK g with ⟨e,_⟩ | g
  ·cases e
  ·exact Y.k4 l a' b' r' g1 g
 k3 := fun a' b' r' g => by
  rcases QK g with ⟨e,_⟩ | g
  ·cases e
  ·exact Y.k3 a' b' r' g
 k6 := fun a' b' r' g => by
  rcases QK g with ⟨e,_⟩ | g
  ·cases e
  ·exact Y.k6 a' b' r' g
 k5 := fun a' r' g => by
  rcases QK g with ⟨e,_⟩ | g
  ·cases e
  ·exact Y.k5 a' r' g
theorem Hy.add3 (Y : Hy N H L C Z q σ) {a b r : Nat} (h : Nat.beq 1 r=true ↔ q a=q b) : Hy N ((3,a,b,r) :: H) L C Z q σ where
 nat := Y.nat
 qs := Y.qs
 zs := Y.zs
 par := Y.par
 lit := Y.lit
 k0 := fun a' r' g => by
  rcases QK g with ⟨e,_⟩ | g
  ·cases e
  ·exact Y.k0 a' r' g
 k1 := fun a' r' g => by
  rcases QK g with ⟨e,_⟩ | g
  ·cases e
  ·exact Y.k1 a' r' g
 k2 := fun a' r' g => by
  rcases QK g with ⟨e,_⟩ | g
  ·cases e
  ·exact Y.k2 a' r' g
 k4 := fun l a' b' r' g1 g => by
  rcases QK g with ⟨e,_⟩ | g
  ·cases e
  ·exact Y.k4 l a' b' r' g1 g
 k3 := fun a' b' r' g => by
  rcases QK g with ⟨_,e1,e2,e3⟩ | g
  ·rw [e1,e2,e3]
   exact h
  ·exact Y.k3 a' b' r' g
 k6 := fun a' b' r' g => by
  rcases QK g with ⟨e,_⟩ | g
  ·cases e
  ·exact Y.k6 a' b' r' g
 k5 := fun a' r' g => by
  rcases QK g with ⟨e,_⟩ | g
  ·cases e
  ·exact Y.k5 a' r' g
theorem Yj : ZF (sx Tryz.prog N H K L C Z pr) (fun X => Hy N (X ++ H) L C Z q σ) (fun d => q d=0) := fun X Y a ha => by
 obtain ⟨k,a,b,d⟩ := a
 have t1 : Nat.beq 1 1=true := rfl
 have t0 : Nat.beq 1 0 ≠ true := fun h => by cases h
 unfold JL at ha
 rw [Bool.or_eq_true] at ha
 rcases ha with ha | ha
 ·simp only [Bool.and_eq_true,Nat.beq_eq] at ha
  obtain ⟨rfl,rfl,rfl⟩ := ha
  exact ⟨fun h => Hy.add0 Y ⟨fun _ => h,fun _ => t1⟩,fun h => Hy.add0 Y ⟨fun g => (t0 g).elim,fun g => (h g).elim⟩⟩
 ·rw [Bool.and_eq_true,Nat.beq_eq] at ha
  obtain ⟨rfl,hb⟩ := ha
  split at hb
  ·rename_i op ar hn
   rw [Bool.and_eq_true,Nat.beq_eq] at hb
   obtain ⟨rfl,hb⟩ := hb
   have e := Ug hb
   subst e
   have hv : q d=q a - q b := Y.nat d _ hn
   have h2 : q d=0 ↔ q a=q b := by
    rw [hv]
    constructor <;> intro h <;> grind
   exact ⟨fun h => Hy.add3 Y ⟨fun _ => h2.1 h,fun _ => t1⟩,fun h => Hy.add3 Y ⟨fun g => (t0 g).elim,fun g => (h (h2.2 g)).elim⟩⟩
  ·cases hb
theorem Vg (y : Rat) : 0≤y*y := by
 by_cases h : y=0
 ·rw [h,Rat.zero_mul]
  exact Rat.le_refl
 ·exact Rat.le_of_lt (Rw h)
theorem Ij {x y : Rat} (hx : 0≤x) : x+y*y=0 ↔ x=0∧y=0 := by
 constructor
 ·intro h
  have h2 := Vg y
  have h3 : x=0 := by grind
  refine ⟨h3,?_⟩
  have : y*y=0 := by grind
  rcases Rat.mul_eq_zero.1 this with g | g <;> exact g
 ·rintro ⟨rfl,rfl⟩
  grind
theorem Yp {H' : List (Nat × Nat × Nat × Nat)} (Y : Hy N H' L C Z q σ) : ∀ {l : List Nat} {s t : Nat},sqF (sx Tryz.prog N H K L C Z pr) s l=some t→0≤q s→0≤q t∧(q t=0 ↔ q s=0∧∀ d ∈ l,q d=0)
 | [],s,t,h,hs => by
  cases h
  exact ⟨hs,fun e => ⟨e,fun d hd => by cases hd⟩,fun e => e.1⟩
 | a :: l,s,t,h,hs => by
  unfold sqF at h
  simp only [Option.bind_eq_some_iff] at h
  obtain ⟨b,h1,c,h2,h3⟩ := h
  have e1 : q b=q a*q a := Hy.nd (H := H') (K := K) (pr := pr) Y h1
  have e2 : q c=q s+q b := Hy.nd (H := H') (K := K) (pr := pr) Y h2
  have n := Vg (q a)
  obtain ⟨g1,g2⟩ := Yp Y h3 (by grind)
  refine ⟨g1,g2.trans ?_⟩
  have e3 := Ij (y := q a) hs
  rw [e2,e1,e3]
  constructor
  ·rintro ⟨⟨x,y⟩,z⟩
   refine ⟨x,fun d hd => ?_⟩
   rcases List.mem_cons.1 hd with rfl | hd
   ·exact y
   ·exact z d hd
  ·rintro ⟨x,y⟩
   exact ⟨⟨x,y a List.mem_cons_self⟩,fun d hd => y d (List.mem_cons_of_mem _ hd)⟩
theorem Vl {H' : List (Nat × Nat × Nat × Nat)} (Y : Hy N H' L C Z q σ) {l : List Nat} {s : Nat} (h : sqN (sx Tryz.prog N H K L C Z pr) l=some s) : q s=0 ↔ ∀ d ∈ l,q d=0 := by
 unfold sqN at h
 split at h
 ·cases h
 ·rename_i a l
  rw [Option.bind_eq_some_iff] at h
  obtain ⟨b,h1,h2⟩ := h
  have e1 : q b=q a*q a := Hy.nd (H := H') (K := K) (pr := pr) Y h1
  have n := Vg (q a)
  obtain ⟨_,g⟩ := Yp Y h2 (by grind)
  rw [g,e1]
  constructor
  ·rintro ⟨x,y⟩ d hd
   rcases List.mem_cons.1 hd with rfl | hd
   ·rcases Rat.mul_eq_zero.1 x with x | x <;> exact x
   ·exact y d hd
  ·intro y
   refine ⟨?_,fun d hd => y d (List.mem_cons_of_mem _ hd)⟩
   rw [y a List.mem_cons_self,Rat.zero_mul]
theorem Wc {f : FuncId} {args : List AV} {vs : List Value} {k : Nat} {p : List HB × Nat} {b : Bool} (Y : Hy N H L C Z q σ) (hm : (Tryz.prog).follows .mixedOrders=true) {w : World} (hP : ∀ H',Hy N H' L C Z q σ→JI (sx Tryz.prog N H' K L C Z pr) (evS q σ) w) (hr : ZC (sx Tryz.prog N H K L C Z pr) cs k [] f args [] 0=some (kB b,p))
  (hA : A2 (avOn (cOn (evS q σ) K (fun _ => none) w)) args vs) : Calls Tryz.prog f vs.toArray w fun e w' => Below w.heap.size w w'∧e=.returned (.bool b) := by
 refine (YB (S := sx Tryz.prog N H K L C Z pr) (E := evS q σ) (w0 := w) (T := fun X => Hy N (X ++ H) L C Z q σ) (z := fun d => q d=0) hm (fun X hX => GM hX) (fun X hX => hP _ hX) Yj ?_ k [] Y f args [] 0 (kB b,p) hr (fun _ => none) w vs ⟨Below.refl _ _,(fun _ _ h => by cases h)⟩ hA (fun x hx => by cases hx) (fun x hx => by cases hx) (fun _ _ _ => rfl)).mono ?_
 ·intro X hX l s r h1 h2
  have e := hX.k0 s r h2
  have g := Vl hX h1
  refine ⟨fun h => g.1 (e.1 h),fun h => ?_⟩
  have hn : ¬ ∀ d ∈ l,q d=0 := fun q' => by
   rw [e.2 (g.2 q')] at h
   cases h
  simpa using hn
 ·rintro _ w' ⟨r,γ',rfl,hef,hv,_⟩
  exact ⟨hef.wi.bel,by rw [show r=.bool b from (Zk (v := kB b) (c := .inl (.bool b)) rfl hv).1]⟩
theorem UZ {f : FuncId} {args : List AV} {vs : List Value} {k : Nat} {p : List HB × Nat} {b : Bool} (Y : Hy N H L C Z q σ) (hc : ∀ f ∈ cl,Closed f) (hm : (Tryz.prog).follows .mixedOrders=true) (hr : ZC (sx Tryz.prog N H K L C Z (prC cl)) cs k [] f args [] 0=some (kB b,p)) {w : World} (hp : Zy w)
  (hA : A2 (avOn (cOn (evS q σ) K (fun _ => none) w)) args vs) : Calls Tryz.prog f vs.toArray w fun e w' => Below w.heap.size w w'∧e=.returned (.bool b) := Wc Y hm (fun _ Y' => Rf Y' hp hc) hr hA
theorem Vs {f : FuncId} {args : List AV} {vs : List Value} (k : Nat) (Y : Hy N H L C Z q σ) (hc : ∀ f ∈ cl,Closed f) (hm : (Tryz.prog).follows .mixedOrders=true) (hr : (ZC (sx Tryz.prog N H K L C Z (prC cl)) cs k [] f args [] 0).map (·.1)=some (kB true)) {w : World} (hp : Zy w)
  (hA : A2 (avOn (cOn (evS q σ) K (fun _ => none) w)) args vs) : Calls Tryz.prog f vs.toArray w fun e w' => Below w.heap.size w w'∧e=.returned (.bool true) := by
 rw [Option.map_eq_some_iff] at hr
 obtain ⟨⟨v,p⟩,h1,h2⟩ := hr
 dsimp only at h2
 subst h2
 exact UZ Y hc hm h1 hp hA
end
end Go.Proofs.YtmdfngmjoaigjaaGreatDoor
/- VY -/
namespace Go.Proofs.YtmdfngmjoaigjaaGreatDoor
open Go.RowKit Cx
theorem Ob (t : Rat) : t*(t.den : Rat)=((t.num : Int) : Rat) := by
 conv => lhs; lhs; rw [← Rat.mkRat_self t]
 have h0 : (t.den : Rat) ≠ 0 := fun h => t.den_nz (by exact_mod_cast h)
 rw [Rat.mkRat_eq_div,Rat.div_mul_cancel h0]
theorem whole {q : Rat} (h : q.den=1) : q=((q.num : Int) : Rat) := by
 have := Ob q
 rw [h] at this
 rw [← this]
 show q=q*((1 : Nat) : Rat)
 exact (Rat.mul_one q).symm
end Go.Proofs.YtmdfngmjoaigjaaGreatDoor
/- VSZ -/
namespace Go.Proofs.YtmdfngmjoaigjaaGreatDoor
open Go.RowKit Cx
structure QW (z : Nat) (x : Rat) : Prop where
 qs : QS z x
 wh : x.den=1
theorem QW.of {z : Nat} {n : Int} (h : n.natAbs < 2 ^ z) (hz : 0 < z) : QW z ((n : Int) : Rat) :=
 ⟨⟨by simpa using h,by
  show ((n : Int) : Rat).den < 2 ^ z
  rw [Rat.den_intCast]
  exact Nat.one_lt_two_pow (by omega)⟩,Rat.den_intCast n⟩
theorem QW.mono {k l : Nat} {x : Rat} (h : QW k x) (hk : k≤l) : QW l x := ⟨h.qs.mono hk,h.wh⟩
theorem Ys {a b x y : Nat} (h1 : a < 2 ^ x) (h2 : b < 2 ^ y) : a+b < 2 ^ (Nat.max x y+1) := by
 have e1 : 2 ^ x≤2 ^ Nat.max x y := Nat.pow_le_pow_right (by decide) (Nat.le_max_left x y)
 have e2 : 2 ^ y≤2 ^ Nat.max x y := Nat.pow_le_pow_right (by decide) (Nat.le_max_right x y)
 rw [Nat.pow_succ]
 omega
theorem QW.add {x y : Nat} {a b : Rat} (h1 : QW x a) (h2 : QW y b) : QW (Nat.max x y+1) (a+b) := by
 rw [whole h1.wh,whole h2.wh,← Rat.intCast_add]
 refine QW.of ?_ (by omega)
 have := Ys h1.qs.num h2.qs.num
 omega
theorem QW.sub {x y : Nat} {a b : Rat} (h1 : QW x a) (h2 : QW y b) : QW (Nat.max x y+1) (a - b) := by
 rw [whole h1.wh,whole h2.wh,← Rat.intCast_sub]
 refine QW.of ?_ (by omega)
 have := Ys h1.qs.num h2.qs.num
 omega
theorem QW.mul {x y : Nat} {a b : Rat} (h1 : QW x a) (h2 : QW y b) : QW (x+y) (a*b) := by
 refine ⟨h1.qs.mul h2.qs,?_⟩
 rw [whole h1.wh,whole h2.wh,← Rat.intCast_mul]
 exact Rat.den_intCast _
theorem QW.neg {x : Nat} {a : Rat} (h1 : QW x a) : QW x (-a) := ⟨h1.qs.neg,h1.wh⟩
theorem JQ : ∀ n : Nat,10 ^ n≤2 ^ ((10*n+2) / 3)
 | 0 => by decide
 | 1 => by decide
 | 2 => by decide
 | n+3 => by
  have h := JQ n
  have e : (10*(n+3)+2) / 3=(10*n+2) / 3+10 := by omega
  rw [e,Nat.pow_add,Nat.pow_add]
  exact Nat.mul_le_mul h (by decide)
theorem QS.rd3 (l : List UInt8) : QS ((10*l.length+2) / 3+5) (Cx.rd l) := by
 have key : ∀ {m : List UInt8},JY m=true→dv m < 2 ^ ((10*m.length+2) / 3) := fun {m} h => Nat.lt_of_lt_of_le (GZ (Xb h)) (JQ _)
 unfold Cx.rd
 split
 ·rename_i h
  rw [Bool.and_eq_true] at h
  have h1 := key h.1
  have h2 := key h.2
  have h3 := Pm (QU l)
  have h4 := TP (QU l)
  have h5 := Ix l
  apply QS.mkr
  ·rw [UD]; exact Nat.lt_of_lt_of_le h1 (Nat.pow_le_pow_right (by decide) (by omega))
  ·exact Nat.lt_of_lt_of_le h2 (Nat.pow_le_pow_right (by decide) (by omega))
 ·exact QS.zero.mono (by omega)
section
variable {N : List Nd} {Z : List Nat} {I : List Bool} {q : Nat→Rat}
end
end Go.Proofs.YtmdfngmjoaigjaaGreatDoor
/- VSA -/
namespace Go.Proofs.YtmdfngmjoaigjaaGreatDoor
open Go.RowKit Cx
def inB : Nat := 3495259
abbrev Atm := Nat × Nat
def XC (x : Atm) : List Atm→Option (List Atm)
 | [] => none
 | y :: l => bif Nat.beq x.1 y.1 && Nat.beq x.2 y.2 then some l else (XC x l).map (y :: ·)
def Ze : List Atm→List Atm→Option (List Atm)
 | l,[] => some l
 | l,x :: r => (XC x l).bind fun l' => Ze l' r
def Xu : List Atm→List Atm→List Atm
 | _,[] => []
 | U,x :: D => match XC x U with
  | some U' => Xu U' D
  | none => x :: Xu U D
def Xv (E : List (Nat × List Atm)) : List Nat→List Atm→List Atm
 | [],U => U
 | a :: l,U => Xv E l (match E[a]? with
  | some p => U ++ Xu U p.2
  | none => U)
def GP (E : List (Nat × List Atm)) (x : Atm) : Nat := match x.1 with
 | 0 => inB
 | 1 => (match E[x.2]? with
  | some p => p.1
  | none => 1)
 | _ => Nat.log2 x.2+1
def Jo (E : List (Nat × List Atm)) : List Atm→Nat
 | [] => 1
 | x :: l => GP E x+Jo E l
def JU (l : Option (List Atm)) : Bool := match l with
 | some [] => true
 | _ => false
def saN (E : List (Nat × List Atm)) (k z : Nat) (D : List Atm) (nd : Nd) : Bool := (Nat.blt 0 z && D.all fun x => !Nat.beq x.1 1 || Nat.blt x.2 k) && match nd.1,nd.2 with
 | 0,[_,n,d] => (Nat.blt n (2 ^ z) && Nat.blt 0 d) && JU (Ze D (bif Nat.beq d 1 then [] else [(2,d)]))
 | 1,[j] => Nat.ble inB z && JU (Ze D [(0,j)])
 | 2,[a,b] => (match E[a]?,E[b]? with
  | some p,some r => (match Ze D p.2,Ze D r.2 with
   | some c,some e => Nat.ble (Nat.max (p.1+Jo E c) (r.1+Jo E e)+1) z
   | _,_ => false)
  | _,_ => false)
 | 3,[a,b] => (match E[a]?,E[b]? with
  | some p,some r => (match Ze D p.2,Ze D r.2 with
   | some c,some e => Nat.ble (Nat.max (p.1+Jo E c) (r.1+Jo E e)+1) z
   | _,_ => false)
  | _,_ => false)
 | 4,[a,b] => (match E[a]?,E[b]? with
  | some p,some r => (match Ze D p.2 with
   | some c => JU (Ze c r.2) && Nat.ble (p.1+r.1) z
   | _ => false)
  | _,_ => false)
 | 5,[a] => (match E[a]? with
  | some p => JU (Ze D p.2) && Nat.ble p.1 z
  | _ => false)
 | 6,[a,b] => (match E[a]?,E[b]?,XC (1,b) D with
  | some p,some r,some D' => (match Ze p.2 D' with
   | some c => (match Ze r.2 c with
    | some e => Nat.ble (p.1+Jo E e) z
    | none => false)
   | none => false)
  | _,_,_ => false)
 | 7,_ => Nat.beq D.length 0
 | 8,i :: xs => Nat.beq D.length 0 && (xs.all (fun a => match E[a]? with
   | some p => (Ze (Xv E xs []) p.2).isSome
   | none => false) && (match xs[i]? with
   | some a => (match E[a]? with
    | some p => (match Ze (Xv E xs []) p.2 with
     | some e => Nat.ble (p.1+Jo E e) z
     | none => false)
    | none => false)
   | none => false))
 | _,_ => false
def saB (E : List (Nat × List Atm)) : Nat→List Nd→List (Nat × List Atm)→List Nat→Bool
 | _,[],[],[] => true
 | k,nd :: ns,p :: ps,z :: zs => (saN E k p.1 p.2 nd && (Nat.ble p.1 z && (Nat.ble (Jo E p.2) z && Nat.ble z 1000000000000))) && saB E (k+1) ns ps zs
 | _,_,_,_ => false
theorem Xj {E : List (Nat × List Atm)} : ∀ {ns : List Nd} {ps : List (Nat × List Atm)} {zs : List Nat} {k i : Nat} {nd : Nd},saB E k ns ps zs=true→ns[i]? = some nd→∃ p z,ps[i]? = some p∧zs[i]? = some z∧saN E (k+i) p.1 p.2 nd=true∧p.1≤z∧Jo E p.2≤z∧z≤1000000000000
 | [],_,_,_,_,_,_,h => by simp at h
 | _ :: _,[],_,_,_,_,h,_ => by cases h
 | _ :: _,_ :: _,[],_,_,_,h,_ => by cases h
 | nd' :: ns,p :: ps,z :: zs,k,0,nd,h,e => by
  have : nd'=nd := by simpa using e
  subst this
  unfold saB at h
  simp only [Bool.and_eq_true,Nat.ble_eq] at h
  exact ⟨p,z,rfl,rfl,h.1.1,h.1.2.1,h.1.2.2.1,h.1.2.2.2⟩
 | nd' :: ns,p :: ps,z :: zs,k,i+1,nd,h,e => by
  unfold saB at h
  rw [Bool.and_eq_true] at h
  obtain ⟨p',z',g1,g2,g3,g4⟩ := Xj (k := k+1) (i := i) h.2 (by simpa using e)
  exact ⟨p',z',by simpa using g1,by simpa using g2,by rw [show k+(i+1)=k+1+i by omega]; exact g3,g4⟩
theorem Yv {E : List (Nat × List Atm)} : ∀ {ns : List Nd} {ps : List (Nat × List Atm)} {zs : List Nat} {k : Nat},saB E k ns ps zs=true→ns.length=ps.length∧ns.length=zs.length
 | [],[],[],_,_ => ⟨rfl,rfl⟩
 | [],[],_ :: _,_,h => by cases h
 | [],_ :: _,_,_,h => by cases h
 | _ :: _,[],_,_,h => by cases h
 | _ :: _,_ :: _,[],_,h => by cases h
 | _ :: _,_ :: _,_ :: _,k,h => by
  unfold saB at h
  rw [Bool.and_eq_true] at h
  have := Yv h.2
  exact ⟨congrArg (· + 1) this.1,congrArg (· + 1) this.2⟩
def Jn (dn : Nat→Nat) (M : Nat→Rat) (x : Atm) : Rat := match x.1 with
 | 0 => ((dn x.2 : Nat) : Rat)
 | 1 => if M x.2=0 then 1 else M x.2
 | _ => if x.2=0 then 1 else ((x.2 : Nat) : Rat)
def Qr (dn : Nat→Nat) (M : Nat→Rat) : List Atm→Rat
 | [] => 1
 | x :: l => Jn dn M x*Qr dn M l
theorem Jj {dn : Nat→Nat} {M : Nat→Rat} {x : Atm} : ∀ {l c : List Atm},XC x l=some c→Qr dn M l=Jn dn M x*Qr dn M c
 | [],_,h => by cases h
 | y :: l,c,h => by
  unfold XC at h
  cases e : (Nat.beq x.1 y.1 && Nat.beq x.2 y.2) with
  | true =>
   rw [e] at h
   cases h
   rw [Bool.and_eq_true,Nat.beq_eq,Nat.beq_eq] at e
   have : x=y := Prod.ext e.1 e.2
   rw [this]
   rfl
  | false =>
   rw [e] at h
   simp only [cond_false,Option.map_eq_some_iff] at h
   obtain ⟨c',h1,rfl⟩ := h
   show Jn dn M y*Qr dn M l=Jn dn M x*(Jn dn M y*Qr dn M c')
   rw [Jj h1]
   grind
theorem Qv {dn : Nat→Nat} {M : Nat→Rat} : ∀ {r l c : List Atm},Ze l r=some c→Qr dn M l=Qr dn M r*Qr dn M c
 | [],l,c,h => by
  have : l=c := by simpa [Ze] using h
  rw [this]
  exact (Rat.one_mul _).symm
 | x :: r,l,c,h => by
  unfold Ze at h
  rw [Option.bind_eq_some_iff] at h
  obtain ⟨l',h1,h2⟩ := h
  rw [Jj h1,Qv h2]
  exact (Rat.mul_assoc _ _ _).symm
theorem Zq {l : Option (List Atm)} (h : JU l=true) : l=some [] := by
 unfold JU at h
 split at h
 ·rfl
 ·cases h
theorem QW.one {z : Nat} (h : 0 < z) : QW z 1 := ⟨⟨by
  show (1 : Int).natAbs < 2 ^ z
  exact Nat.one_lt_two_pow (by omega),by
  show 1 < 2 ^ z
  exact Nat.one_lt_two_pow (by omega)⟩,rfl⟩
theorem QW.zero {z : Nat} (h : 0 < z) : QW z 0 := ⟨⟨by
  show (0 : Int).natAbs < 2 ^ z
  exact Nat.two_pow_pos z,by
  show 1 < 2 ^ z
  exact Nat.one_lt_two_pow (by omega)⟩,rfl⟩
theorem QW.nat {z n : Nat} (h : n < 2 ^ z) (hz : 0 < z) : QW z ((n : Nat) : Rat) := by
 have : ((n : Nat) : Rat)=(((n : Nat) : Int) : Rat) := (Rat.intCast_natCast n).symm
 rw [this]
 exact QW.of (by simpa using h) hz
section
variable {E : List (Nat × List Atm)} {dn : Nat→Nat} {M : Nat→Rat} {k : Nat}
def Uq (E : List (Nat × List Atm)) (dn : Nat→Nat) (M : Nat→Rat) (q : Nat→Rat) (k : Nat) : Prop := ∀ a,a < k→∃ p,E[a]? = some p∧QW p.1 (M a)∧0 < p.1∧(∀ x ∈ p.2,x.1=1→x.2 < a)∧q a*Qr dn M p.2=M a
theorem WX {q : Nat→Rat} (hdn : ∀ j,0 < dn j∧dn j < 2 ^ inB) (hM : Uq E dn M q k) {x : Atm} (hx : x.1=1→x.2 < k) : QW (GP E x) (Jn dn M x)∧Jn dn M x ≠ 0 := by
 obtain ⟨i,j⟩ := x
 match i with
 | 0 =>
  show QW inB ((dn j : Nat) : Rat)∧((dn j : Nat) : Rat) ≠ 0
  refine ⟨QW.nat (hdn j).2 (by unfold inB; omega),fun h => ?_⟩
  have := (hdn j).1
  have h2 : dn j=0 := by exact_mod_cast h
  omega
 | 1 =>
  obtain ⟨p,h1,h2,h3,_⟩ := hM j (hx rfl)
  show QW (match E[j]? with
   | some p => p.1
   | none => 1) (if M j=0 then 1 else M j)∧(if M j=0 then 1 else M j) ≠ 0
  rw [h1]
  by_cases h : M j=0
  ·rw [if_pos h]
   exact ⟨QW.one h3,by decide⟩
  ·rw [if_neg h]
   exact ⟨h2,h⟩
 | i+2 =>
  show QW (Nat.log2 j+1) (if j=0 then 1 else ((j : Nat) : Rat))∧(if j=0 then 1 else ((j : Nat) : Rat)) ≠ 0
  by_cases h : j=0
  ·rw [if_pos h]
   exact ⟨QW.one (by omega),by decide⟩
  ·rw [if_neg h]
   refine ⟨QW.nat Nat.lt_log2_self (by omega),fun h2 => h ?_⟩
   exact_mod_cast h2
theorem Xd {q : Nat→Rat} (hdn : ∀ j,0 < dn j∧dn j < 2 ^ inB) (hM : Uq E dn M q k) : ∀ {l : List Atm},(∀ x ∈ l,x.1=1→x.2 < k)→QW (Jo E l) (Qr dn M l)∧Qr dn M l ≠ 0
 | [],_ => ⟨QW.one (show 0 < 1 by decide),by show (1 : Rat) ≠ 0; decide⟩
 | x :: l,h => by
  have h1 := WX hdn hM (h x List.mem_cons_self)
  have h2 := Xd hdn hM (l := l) fun y hy => h y (List.mem_cons_of_mem _ hy)
  exact ⟨h1.1.mul h2.1,ZH h1.2 h2.2⟩
theorem Jk {M' : Nat→Rat} : ∀ {l : List Atm},(∀ x ∈ l,x.1=1→M x.2=M' x.2)→Qr dn M l=Qr dn M' l
 | [],_ => rfl
 | x :: l,h => by
  show Jn dn M x*Qr dn M l=Jn dn M' x*Qr dn M' l
  rw [Jk (l := l) fun y hy => h y (List.mem_cons_of_mem _ hy)]
  have e : Jn dn M x=Jn dn M' x := by
   obtain ⟨i,j⟩ := x
   match i with
   | 0 => rfl
   | 1 =>
    have := h (1,j) List.mem_cons_self rfl
    show (if M j=0 then 1 else M j)=(if M' j=0 then 1 else M' j)
    rw [this]
   | i+2 => rfl
  rw [e]
theorem XD {x y : Atm} : ∀ {l c : List Atm},XC x l=some c→y ∈ c→y ∈ l
 | [],_,h,_ => by cases h
 | z :: l,c,h,hy => by
  unfold XC at h
  cases e : (Nat.beq x.1 z.1 && Nat.beq x.2 z.2) with
  | true => rw [e] at h; cases h; exact List.mem_cons_of_mem _ hy
  | false =>
   rw [e] at h
   simp only [cond_false,Option.map_eq_some_iff] at h
   obtain ⟨c',h1,rfl⟩ := h
   rcases List.mem_cons.1 hy with rfl | hy
   ·exact List.mem_cons_self
   ·exact List.mem_cons_of_mem _ (XD h1 hy)
theorem QX {y : Atm} : ∀ {r l c : List Atm},Ze l r=some c→y ∈ c→y ∈ l
 | [],l,c,h,hy => by
  have : l=c := by simpa [Ze] using h
  rw [this]; exact hy
 | x :: r,l,c,h,hy => by
  unfold Ze at h
  rw [Option.bind_eq_some_iff] at h
  obtain ⟨l',h1,h2⟩ := h
  exact XD h1 (QX h2 hy)
theorem Uy {n : Nat} (h : n ≠ 0) : ((n : Nat) : Rat) ≠ 0 := fun e => h (by exact_mod_cast e)
theorem Jb (x : Rat) : x*((x.den : Nat) : Rat)=((x.num : Int) : Rat) := by
 have e : x=((x.num : Int) : Rat) / ((x.den : Nat) : Rat) := by
  have := Rat.mkRat_self x
  rw [Rat.mkRat_eq_div] at this
  exact this.symm
 conv => lhs; lhs; rw [e]
 exact Rat.div_mul_cancel (Uy x.den_nz)
theorem YM {qs : List Rat} {m M : Nat} (hm : m ∣ M) (h : ∀ q ∈ qs,q.den ∣ M) : qs.foldl (fun m q => m*(q.den / Nat.gcd m q.den)) m ∣ M := by
 induction qs generalizing m with
 | nil => exact hm
 | cons q qs ih =>
  rw [List.foldl_cons]
  refine ih ?_ fun p hp => h p (List.mem_cons_of_mem _ hp)
  have e : m*(q.den / Nat.gcd m q.den)=Nat.lcm m q.den := by
   unfold Nat.lcm
   exact (Nat.mul_div_assoc _ (Nat.gcd_dvd_right _ _)).symm
  rw [e]
  exact Nat.lcm_dvd hm (h q List.mem_cons_self)
theorem Xf {x : Rat} {m : Int} (h : (x*((m : Int) : Rat)).den=1) : x.den ∣ m.natAbs := by
 have e := whole h
 generalize (x*((m : Int) : Rat)).num=n at e
 have h1 : x*((x.den : Nat) : Rat)=((x.num : Int) : Rat) := Jb x
 have h2 : ((x.num : Int) : Rat)*((m : Int) : Rat)=((n : Int) : Rat)*(((x.den : Nat) : Int) : Rat) := by
  rw [← h1,← e,Rat.intCast_natCast]
  grind
 have h3 : x.num*m=n*(x.den : Int) := by exact_mod_cast h2
 have h4 : (x.den : Int) ∣ x.num*m := ⟨n,by rw [h3,Int.mul_comm]⟩
 have h5 : x.den ∣ x.num.natAbs*m.natAbs := by
  have := Int.natAbs_dvd_natAbs.2 h4
  rwa [Int.natAbs_mul,Int.natAbs_natCast] at this
 exact (Nat.Coprime.symm x.reduced).dvd_of_dvd_mul_left h5
theorem YI {qs : List Rat} {x : Rat} {z : Nat} {m : Int} (hx : x ∈ qs) (hm : m ≠ 0) (hall : ∀ y ∈ qs,(y*((m : Int) : Rat)).den=1) (hz : QW z (x*((m : Int) : Rat))) : QW z (x*fac qs) := by
 have hl : lD qs ∣ m.natAbs := YM (Nat.one_dvd _) fun y hy => Xf (hall y hy)
 have hd := TW hx
 have hpos : 0 < m.natAbs := Int.natAbs_pos.2 hm
 have hle : lD qs≤m.natAbs := Nat.le_of_dvd hpos hl
 have hn : (x*fac qs).num.natAbs≤(x*((m : Int) : Rat)).num.natAbs := by
  rw [TJ hx]
  have e := whole hz.wh
  generalize (x*((m : Int) : Rat)).num=n at e
  have h1 : x*((x.den : Nat) : Rat)=((x.num : Int) : Rat) := Jb x
  have h2 : ((x.num : Int) : Rat)*((m : Int) : Rat)=((n : Int) : Rat)*(((x.den : Nat) : Int) : Rat) := by
   rw [← h1,← e,Rat.intCast_natCast]
   grind
  have h3 : x.num*m=n*(x.den : Int) := by exact_mod_cast h2
  have h4 : x.num.natAbs*m.natAbs=n.natAbs*x.den := by
   have := congrArg Int.natAbs h3
   rwa [Int.natAbs_mul,Int.natAbs_mul,Int.natAbs_natCast] at this
  obtain ⟨c,hc⟩ := Xf (x := x) (m := m) (hall x hx)
  have h5 : n.natAbs=x.num.natAbs*c := by
   rw [hc] at h4
   refine Nat.eq_of_mul_eq_mul_right x.den_pos ?_
   rw [← h4]
   rw [Nat.mul_assoc,Nat.mul_comm c]
  show x.num.natAbs / gN qs*(lD qs / x.den)≤n.natAbs
  rw [h5]
  refine Nat.mul_le_mul (Nat.div_le_self _ _) ?_
  have : lD qs / x.den≤m.natAbs / x.den := Nat.div_le_div_right hle
  rw [hc,Nat.mul_div_cancel_left _ x.den_pos] at this
  exact this
 refine ⟨⟨Nat.lt_of_le_of_lt hn hz.qs.num,?_⟩,hd⟩
 rw [hd]
 have := hz.qs.den
 rw [hz.wh] at this
 exact this
theorem ZR {y : Atm} : ∀ {D U : List Atm},y ∈ Xu U D→y ∈ D
 | [],_,h => by cases h
 | x :: D,U,h => by
  unfold Xu at h
  split at h
  ·exact List.mem_cons_of_mem _ (ZR h)
  ·rcases List.mem_cons.1 h with rfl | h
   ·exact List.mem_cons_self
   ·exact List.mem_cons_of_mem _ (ZR h)
theorem Xz {q : Nat→Rat} (hM : Uq E dn M q k) : ∀ {l : List Nat} {U : List Atm},(∀ c ∈ l,c < k)→(∀ x ∈ U,x.1=1→x.2 < k)→∀ x ∈ Xv E l U,x.1=1→x.2 < k
 | [],_,_,hU => hU
 | a :: l,U,hl,hU => by
  unfold Xv
  refine Xz hM (fun c hc => hl c (List.mem_cons_of_mem _ hc)) ?_
  have ha := hl a List.mem_cons_self
  obtain ⟨p,h1,_,_,h4,_⟩ := hM a ha
  rw [h1]
  intro x hx h
  rcases List.mem_append.1 hx with hx | hx
  ·exact hU x hx h
  ·exact Nat.lt_trans (h4 x (ZR hx) h) ha
theorem Oc {q : Nat→Rat} {σ : Nat→ByteArray} (hσ : ∀ j,(σ j).size≤1048576) (hdn : ∀ j,dn j=(Cx.rd (σ j).data.toList).den) (hM : Uq E dn M q k) {z : Nat} {D : List Atm} {nd : Nd} (hwf : wfN k nd=true) (hs : saN E k z D nd=true) : QW z (Zr σ q nd*Qr dn M D)∧0 < z∧∀ x ∈ D,x.1=1→x.2 < k := by
 have hdn' : ∀ j,0 < dn j∧dn j < 2 ^ inB := fun j => by
  rw [hdn j]
  refine ⟨Rat.den_pos _,Nat.lt_of_lt_of_le (QS.rd3 _).den (Nat.pow_le_pow_right (by decide) ?_)⟩
  have := hσ j
  rw [QP]
  unfold inB
  omega
 obtain ⟨op,xs⟩ := nd
 unfold saN at hs
 rw [Bool.and_eq_true,Bool.and_eq_true] at hs
 obtain ⟨⟨hz0,hD⟩,hs⟩ := hs
 have hz : 0 < z := by simpa [Nat.blt_eq] using hz0
 have hD' : ∀ x ∈ D,x.1=1→x.2 < k := fun x hx h1 => by
  rw [List.all_eq_true] at hD
  have := hD x hx
  rw [h1] at this
  simpa [Nat.blt_eq] using this
 refine ⟨?_,hz,hD'⟩
 have hlow : ∀ {a : Nat} {p : Nat × List Atm},a < k→E[a]? = some p→QW p.1 (M a)∧(∀ x ∈ p.2,x.1=1→x.2 < k)∧q a*Qr dn M p.2=M a := fun {a p} ha hp => by
  obtain ⟨p',h1,h2,_,h4,h5⟩ := hM a ha
  rw [hp] at h1
  cases h1
  exact ⟨h2,fun x hx h => Nat.lt_trans (h4 x hx h) ha,h5⟩
 have hpr : ∀ {l : List Atm},(∀ x ∈ l,x.1=1→x.2 < k)→QW (Jo E l) (Qr dn M l)∧Qr dn M l ≠ 0 := fun h => Xd hdn' hM h
 unfold wfN at hwf
 unfold Zr
 dsimp only at hs hwf ⊢
 split at hs
 ·rename_i s n d
  simp only [Bool.and_eq_true] at hs
  obtain ⟨⟨h1,h2⟩,h3⟩ := hs
  have h1' : n < 2 ^ z := by simpa [Nat.blt_eq] using h1
  have h2' : d ≠ 0 := by
   have : 0 < d := by simpa [Nat.blt_eq] using h2
   omega
  have hp : Qr dn M D=((d : Nat) : Rat) := by
   have := Qv (dn := dn) (M := M) (Zq h3)
   rw [this]
   cases e : Nat.beq d 1 with
   | true =>
    rw [Nat.beq_eq] at e
    rw [e]
    show (1 : Rat)*1=((1 : Nat) : Rat)
    rw [Rat.mul_one]
    exact_mod_cast rfl
   | false =>
    show (if d=0 then (1 : Rat) else ((d : Nat) : Rat))*1*1=_
    rw [if_neg h2',Rat.mul_one,Rat.mul_one]
  show QW z ((if s=0 then mkRat (n : Int) d else mkRat (-(n : Int)) d)*Qr dn M D)
  rw [hp]
  have key : ∀ m : Int,m.natAbs < 2 ^ z→QW z (mkRat m d*((d : Nat) : Rat)) := fun m hm => by
   rw [Rat.mkRat_eq_div,Rat.div_mul_cancel (Uy h2')]
   exact QW.of hm hz
  by_cases hs0 : s=0
  ·rw [if_pos hs0]
   exact key _ (by simpa using h1')
  ·rw [if_neg hs0]
   exact key _ (by simpa using h1')
 ·rename_i j
  simp only [Bool.and_eq_true,Nat.ble_eq] at hs
  have hp : Qr dn M D=(((Cx.rd (σ j).data.toList).den : Nat) : Rat) := by
   rw [Qv (dn := dn) (M := M) (Zq hs.2)]
   show ((dn j : Nat) : Rat)*1*1=_
   rw [Rat.mul_one,Rat.mul_one,hdn j]
  show QW z (Cx.rd (σ j).data.toList*Qr dn M D)
  rw [hp,Jb]
  refine QW.of (Nat.lt_of_lt_of_le (QS.rd3 _).num (Nat.pow_le_pow_right (by decide) ?_)) hz
  have := hσ j
  have := hs.1
  unfold inB at this
  rw [QP]
  omega
 ·simp only [List.all_cons,List.all_nil,Bool.and_true,Bool.and_eq_true] at hwf
  rename_i a b
  have l1 : a < k := by simpa [Nat.blt_eq] using hwf.1
  have l2 : b < k := by simpa [Nat.blt_eq] using hwf.2
  split at hs
  ·rename_i p r hp hr
   split at hs
   ·rename_i c e hc he
    rw [Nat.ble_eq] at hs
    obtain ⟨a1,a2,a3⟩ := hlow l1 hp
    obtain ⟨b1,b2,b3⟩ := hlow l2 hr
    have hc' := hpr (l := c) fun x hx => hD' x (QX hc hx)
    have he' := hpr (l := e) fun x hx => hD' x (QX he hx)
    have e1 : (q a+q b)*Qr dn M D=M a*Qr dn M c+M b*Qr dn M e := by
     rw [Rat.add_mul]
     congr 1
     ·rw [Qv hc,← Rat.mul_assoc,a3]
     ·rw [Qv he,← Rat.mul_assoc,b3]
    show QW z ((q a+q b)*Qr dn M D)
    rw [e1]
    exact ((a1.mul hc'.1).add (b1.mul he'.1)).mono hs
   ·cases hs
  ·cases hs
 ·simp only [List.all_cons,List.all_nil,Bool.and_true,Bool.and_eq_true] at hwf
  rename_i a b
  have l1 : a < k := by simpa [Nat.blt_eq] using hwf.1
  have l2 : b < k := by simpa [Nat.blt_eq] using hwf.2
  split at hs
  ·rename_i p r hp hr
   split at hs
   ·rename_i c e hc he
    rw [Nat.ble_eq] at hs
    obtain ⟨a1,a2,a3⟩ := hlow l1 hp
    obtain ⟨b1,b2,b3⟩ := hlow l2 hr
    have hc' := hpr (l := c) fun x hx => hD' x (QX hc hx)
    have he' := hpr (l := e) fun x hx => hD' x (QX he hx)
    have e1 : (q a - q b)*Qr dn M D=M a*Qr dn M c - M b*Qr dn M e := by
     rw [show (q a - q b)*Qr dn M D=q a*Qr dn M D - q b*Qr dn M D by grind]
     congr 1
     ·rw [Qv hc,← Rat.mul_assoc,a3]
     ·rw [Qv he,← Rat.mul_assoc,b3]
    show QW z ((q a - q b)*Qr dn M D)
    rw [e1]
    exact ((a1.mul hc'.1).sub (b1.mul he'.1)).mono hs
   ·cases hs
  ·cases hs
 ·simp only [List.all_cons,List.all_nil,Bool.and_true,Bool.and_eq_true] at hwf
  rename_i a b
  have l1 : a < k := by simpa [Nat.blt_eq] using hwf.1
  have l2 : b < k := by simpa [Nat.blt_eq] using hwf.2
  split at hs
  ·rename_i p r hp hr
   split at hs
   ·rename_i c hc
    rw [Bool.and_eq_true,Nat.ble_eq] at hs
    obtain ⟨a1,a2,a3⟩ := hlow l1 hp
    obtain ⟨b1,b2,b3⟩ := hlow l2 hr
    have e1 : q a*q b*Qr dn M D=M a*M b := by
     rw [Qv hc,Qv (Zq hs.1),← a3,← b3]
     show q a*q b*(Qr dn M p.2*(Qr dn M r.2*1))=_
     grind
    show QW z (q a*q b*Qr dn M D)
    rw [e1]
    exact (a1.mul b1).mono hs.2
   ·cases hs
  ·cases hs
 ·simp only [List.all_cons,List.all_nil,Bool.and_true] at hwf
  rename_i a
  have l1 : a < k := by simpa [Nat.blt_eq] using hwf
  split at hs
  ·rename_i p hp
   rw [Bool.and_eq_true,Nat.ble_eq] at hs
   obtain ⟨a1,a2,a3⟩ := hlow l1 hp
   have e1 : -q a*Qr dn M D=-M a := by
    rw [Qv (Zq hs.1),← a3]
    show -q a*(Qr dn M p.2*1)=_
    grind
   show QW z (-q a*Qr dn M D)
   rw [e1]
   exact a1.neg.mono hs.2
  ·cases hs
 ·simp only [List.all_cons,List.all_nil,Bool.and_true,Bool.and_eq_true] at hwf
  rename_i a b
  have l1 : a < k := by simpa [Nat.blt_eq] using hwf.1
  have l2 : b < k := by simpa [Nat.blt_eq] using hwf.2
  split at hs
  ·rename_i p r D' hp hr hD1
   split at hs
   ·rename_i c hc
    split at hs
    ·rename_i e he
     rw [Nat.ble_eq] at hs
     obtain ⟨a1,a2,a3⟩ := hlow l1 hp
     obtain ⟨b1,b2,b3⟩ := hlow l2 hr
     have he' := hpr (l := e) fun x hx => b2 x (QX he hx)
     by_cases h0 : M b=0
     ·have hb : q b=0 := by
       rw [h0] at b3
       exact (Rat.mul_eq_zero.1 b3).resolve_right (hpr b2).2
      show QW z (q a / q b*Qr dn M D)
      rw [hb,Rat.div_def,Rat.inv_zero,Rat.mul_zero,Rat.zero_mul]
      exact QW.zero hz
     ·have hb : q b ≠ 0 := fun h => h0 (by rw [← b3,h,Rat.zero_mul])
      have e1 : q a / q b*Qr dn M D=M a*Qr dn M e := by
       have e2 : Qr dn M D=M b*Qr dn M D' := by
        rw [Jj hD1]
        show (if M b=0 then (1 : Rat) else M b)*_=_
        rw [if_neg h0]
       have e3 : q a / q b*q b=q a := Rat.div_mul_cancel hb
       rw [e2,← a3,← b3,Qv hc,Qv he]
       generalize q a / q b=t at e3
       rw [← e3]
       grind
      show QW z (q a / q b*Qr dn M D)
      rw [e1]
      exact (a1.mul he'.1).mono hs
    ·cases hs
   ·cases hs
  ·cases hs
 ·have hD0 : D=[] := by
   rw [Nat.beq_eq] at hs
   exact List.length_eq_zero_iff.1 hs
  rw [hD0]
  have hv : Zr σ q (7,xs)=0 ∨ Zr σ q (7,xs)=1 := by
   unfold Zr
   dsimp only
   split
   all_goals first | (split; exact Or.inl rfl; exact Or.inr rfl) | exact Or.inl rfl | (rename_i h; cases h)
  show QW z (Zr σ q (7,xs)*1)
  rw [Rat.mul_one]
  rcases hv with h | h
  ·rw [h]
   exact QW.zero hz
  ·rw [h]
   exact QW.one hz
 ·rename_i i ys
  rw [Bool.and_eq_true,Bool.and_eq_true,List.all_eq_true] at hs
  obtain ⟨h1,h2,h3⟩ := hs
  have hD0 : D=[] := by
   rw [Nat.beq_eq] at h1
   exact List.length_eq_zero_iff.1 h1
  have hwf' : ys.all (Nat.blt · k)=true := hwf
  rw [List.all_eq_true] at hwf'
  have hlt : ∀ c ∈ ys,c < k := fun c hc => by simpa [Nat.blt_eq] using hwf' c hc
  split at h3
  ·rename_i a ha
   split at h3
   ·rename_i p hp
    split at h3
    ·rename_i e he
     rw [Nat.ble_eq] at h3
     obtain ⟨hi,ha'⟩ := List.getElem?_eq_some_iff.1 ha
     have hmem : a ∈ ys := List.mem_of_getElem? ha
     have hg : (ys.map q).getD i 0=q a := by
      rw [List.getD_eq_getElem?_getD,List.getElem?_map,ha]
      rfl
     show QW z ((ys.map q).getD i 0*fac (ys.map q)*Qr dn M D)
     rw [hg,hD0]
     show QW z (q a*fac (ys.map q)*1)
     rw [Rat.mul_one]
     -- what makes all of them whole
     have hU : ∀ x ∈ Xv E ys [],x.1=1→x.2 < k := Xz hM hlt (fun x hx => by cases hx)
     have hUp := hpr hU
     have hw := whole hUp.1.wh
     generalize hm : (Qr dn M (Xv E ys [])).num=m at hw
     have hm0 : m ≠ 0 := fun h => hUp.2 (by rw [hw,h]; rfl)
     have hall : ∀ y ∈ ys.map q,(y*((m : Int) : Rat)).den=1 := fun y hy => by
      obtain ⟨c,hc,rfl⟩ := List.mem_map.1 hy
      have h4 := h2 c hc
      split at h4
      ·rename_i r hr
       obtain ⟨c1,c2,c3⟩ := hlow (hlt c hc) hr
       cases hs2 : Ze (Xv E ys []) r.2 with
       | none => rw [hs2] at h4; cases h4
       | some f =>
        have hf := hpr (l := f) fun x hx => hU x (QX hs2 hx)
        rw [← hw,Qv hs2,← Rat.mul_assoc,c3]
        exact (c1.mul hf.1).wh
      ·cases h4
     obtain ⟨a1,a2,a3⟩ := hlow (hlt a hmem) hp
     have he' := hpr (l := e) fun x hx => hU x (QX he hx)
     refine YI (List.mem_map_of_mem hmem) hm0 hall ?_
     rw [← hw,Qv he,← Rat.mul_assoc,a3]
     exact (a1.mul he'.1).mono h3
    ·cases h3
   ·cases h3
  ·cases h3
 ·cases hs
end
theorem Og {x m p : Rat} {z y K : Nat} (hm : QW z m) (hp : QW y p) (h0 : p ≠ 0) (e : x*p=m) (hz : z≤K) (hy : y≤K) : QS K x := by
 have hw := whole hp.wh
 generalize p.num=P at hw
 have hP : P ≠ 0 := fun h => h0 (by rw [hw,h]; rfl)
 have hpos : 0 < P.natAbs := Int.natAbs_pos.2 hP
 have hd : x.den ∣ P.natAbs := Xf (x := x) (m := P) (by rw [← hw,e]; exact hm.wh)
 have hdle : x.den≤P.natAbs := Nat.le_of_dvd hpos hd
 have hPlt : P.natAbs < 2 ^ y := by
  have := hp.qs.num
  rw [hw,Rat.num_intCast] at this
  exact this
 have hmw := whole hm.wh
 have hmlt := hm.qs.num
 generalize m.num=n at hmw hmlt
 have h1 : x*((x.den : Nat) : Rat)=((x.num : Int) : Rat) := Jb x
 have h2 : ((x.num : Int) : Rat)*((P : Int) : Rat)=((n : Int) : Rat)*(((x.den : Nat) : Int) : Rat) := by
  rw [← h1,← hw,← hmw,← e,Rat.intCast_natCast]
  grind
 have h3 : x.num*P=n*(x.den : Int) := by exact_mod_cast h2
 have h4 : x.num.natAbs*P.natAbs=n.natAbs*x.den := by
  have := congrArg Int.natAbs h3
  rwa [Int.natAbs_mul,Int.natAbs_mul,Int.natAbs_natCast] at this
 have h5 : x.num.natAbs≤n.natAbs := by
  refine Nat.le_of_mul_le_mul_right (c := P.natAbs) ?_ hpos
  rw [h4]
  exact Nat.mul_le_mul_left _ hdle
 exact ⟨Nat.lt_of_lt_of_le (Nat.lt_of_le_of_lt h5 hmlt) (Nat.pow_le_pow_right (by decide) hz),Nat.lt_of_lt_of_le (Nat.lt_of_le_of_lt hdle hPlt) (Nat.pow_le_pow_right (by decide) hy)⟩
section
variable {N : List Nd} {Z : List Nat} {E : List (Nat × List Atm)} {q : Nat→Rat}
theorem JW {σ : Nat→ByteArray} (hσ : ∀ j,(σ j).size≤1048576) (hw : wfB 0 N=true) (hz : saB E 0 N E Z=true) (hq : ∀ (a : Nat) nd,N[a]? = some nd→q a=Zr σ q nd) (h0 : ∀ a,N.length≤a→q a=0) : (∀ (a : Nat) z,Z[a]? = some z→QS z (q a))∧∀ a,QS 1000000000000 (q a) := by
 have hl := Yv hz
 have key : ∀ k,k≤N.length→∃ M,Uq E (fun j => (Cx.rd (σ j).data.toList).den) M q k := by
  intro k
  induction k with
  | zero => exact fun _ => ⟨fun _ => 0,fun a ha => by omega⟩
  | succ k ih =>
   intro hk
   obtain ⟨M,hM⟩ := ih (by omega)
   have hn : N[k]? = some N[k] := List.getElem?_eq_getElem (by omega)
   obtain ⟨p,z,h1,_,h3,_⟩ := Xj hz hn
   rw [Nat.zero_add] at h3
   have hwf := OI hw hn
   rw [Nat.zero_add] at hwf
   obtain ⟨g1,g2,g3⟩ := Oc hσ (fun _ => rfl) hM hwf h3
   rw [← hq k _ hn] at g1
   refine ⟨fun x => if x=k then q k*Qr (fun j => (Cx.rd (σ j).data.toList).den) M p.2 else M x,fun a ha => ?_⟩
   have same : ∀ {l : List Atm},(∀ x ∈ l,x.1=1→x.2 < k)→Qr (fun j => (Cx.rd (σ j).data.toList).den) (fun x => if x=k then q k*Qr (fun j => (Cx.rd (σ j).data.toList).den) M p.2 else M x) l=Qr (fun j => (Cx.rd (σ j).data.toList).den) M l := fun hl => (Jk fun x hx h => by
    have := hl x hx h
    rw [if_neg (by omega)]).symm
   by_cases e : a=k
   ·subst e
    refine ⟨p,h1,?_,g2,g3,?_⟩
    ·show QW p.1 (if a=a then _ else _)
     rw [if_pos rfl]
     exact g1
    ·rw [same g3]
     show _=(if a=a then _ else _)
     rw [if_pos rfl]
   ·obtain ⟨p',f1,f2,f3,f4,f5⟩ := hM a (by omega)
    refine ⟨p',f1,?_,f3,f4,?_⟩
    ·show QW p'.1 (if a=k then _ else M a)
     rw [if_neg e]
     exact f2
    ·rw [same fun x hx h => by have := f4 x hx h; omega]
     show _=(if a=k then _ else M a)
     rw [if_neg e]
     exact f5
 obtain ⟨M,hM⟩ := key N.length (Nat.le_refl _)
 have hdn : ∀ j,0 < (Cx.rd (σ j).data.toList).den∧(Cx.rd (σ j).data.toList).den < 2 ^ inB := fun j => by
  refine ⟨Rat.den_pos _,Nat.lt_of_lt_of_le (QS.rd3 _).den (Nat.pow_le_pow_right (by decide) ?_)⟩
  have := hσ j
  rw [QP]
  unfold inB
  omega
 have h2 : ∀ (a : Nat) z,Z[a]? = some z→QS z (q a)∧z≤1000000000000 := by
  intro a z ha
  have hlt : a < N.length := by
   have := (List.getElem?_eq_some_iff.1 ha).1
   omega
  have hn : N[a]? = some N[a] := List.getElem?_eq_getElem hlt
  obtain ⟨p,z',h1,h2,_,h4,h5,h6⟩ := Xj hz hn
  rw [ha] at h2
  cases h2
  obtain ⟨p',f1,f2,f3,f4,f5⟩ := hM a hlt
  rw [h1] at f1
  cases f1
  have hp := Xd hdn hM (l := p.2) fun x hx h => Nat.lt_trans (f4 x hx h) hlt
  exact ⟨Og f2 hp.1 hp.2 f5 h4 h5,h6⟩
 refine ⟨fun a z h => (h2 a z h).1,fun a => ?_⟩
 by_cases ha : a < Z.length
 ·have := h2 a _ (List.getElem?_eq_getElem ha)
  exact this.1.mono this.2
 ·rw [h0 a (by omega)]
  exact QS.zero.mono (by decide)
theorem Vt {L C : List (List Nat × Nat)} {σ : Nat→ByteArray} {H : List (Nat × Nat × Nat × Nat)} (hσ : ∀ j,(σ j).size≤1048576) (hw : wfB 0 N=true) (hz : saB E 0 N E Z=true) (hl : KZ N L=true) (hcn : Gb N C=true) (hq : ∀ (a : Nat) nd,N[a]? = some nd→q a=Zr σ q nd) (h0 : ∀ a,N.length≤a→q a=0) (hH : Xs q H) : Hy N H L C Z q σ where
 nat := hq
 qs := (JW hσ hw hz hq h0).2
 zs := (JW hσ hw hz hq h0).1
 par := hσ
 lit := fun s b h => Pv hl hq h
 k0 := fun a r h => ZT hH h
 k1 := fun a r h => ZT hH h
 k2 := fun a r h => ZT hH h
 k3 := fun a b r h => ZT hH h
 k4 := fun l a b r h1 h2 => by
  have h3 : Nat.beq 1 r=true ↔ q a=q b := ZT hH h2
  rw [h3,← Pr hcn hq h1]
  exact ⟨fun e => by rw [e],fun e => Wb (YD e)⟩
 k6 := fun a b r h => ZT hH h
 k5 := fun a r h => ZT hH h
end
end Go.Proofs.YtmdfngmjoaigjaaGreatDoor
/- CFspun -/
namespace Go.Proofs.YtmdfngmjoaigjaaGreatDoor
open Go.RowKit Cx
theorem ZK : Closed 11 :=
 Wq (N := [(0,[0,1,1]),(0,[0,0,1]),(8,[0,0,1,1,0]),(8,[1,0,1,1,0]),(8,[2,0,1,1,0]),(8,[3,0,1,1,0]),(3,[1,3]),(3,[1,4]),(3,[1,5]),(4,[2,2]),(4,[3,3]),(2,[1,10]),(4,[4,4]),(2,[11,12]),(4,[5,5]),(2,[13,14]),(2,[9,15]),(4,[2,1]),(4,[3,0]),(2,[1,18]),(4,[4,1]),(2,[19,20]),(4,[5,1]),(2,[21,22]),(3,[17,23]),(4,[0,2]),(4,[1,2]),(4,[3,1]),(2,[25,27]),(2,[26,20]),(2,[26,22]),(3,[20,22]),(4,[5,0]),(3,[32,27]),(4,[4,0]),(3,[27,34]),(2,[28,31]),(2,[29,33]),(2,[30,35]),(4,[24,2]),(4,[36,6]),(2,[1,40]),(4,[37,7]),(2,[41,42]),(4,[38,8]),(2,[43,44]),(3,[39,45]),(4,[6,24]),(4,[7,24]),(4,[8,24]),(4,[36,2]),(4,[37,2]),(4,[38,2]),(2,[47,50]),(2,[48,51]),(2,[49,52]),(4,[37,8]),(4,[38,7]),(3,[56,57]),(4,[38,6]),(4,[36,8]),(3,[59,60]),(4,[36,7]),(4,[37,6]),(3,[62,63]),(2,[53,58]),(2,[54,61]),(2,[55,64]),(6,[65,16]),(6,[66,16]),(6,[67,16]),(4,[0,0]),(2,[1,71]),(4,[1,1]),(2,[72,73]),(2,[74,73]),(3,[75,0]),(3,[0,1]),(6,[0,77]),(6,[1,77]),(4,[0,1]),(2,[1,80]),(4,[1,0]),(2,[81,82]),(2,[83,73]),(3,[73,84]),(2,[73,80]),(2,[80,73]),(2,[73,73]),(3,[73,82]),(3,[73,80]),(3,[71,73]),(2,[86,89]),(2,[87,90]),(2,[88,91])]) (H := [(0,16,0,0),(0,76,0,1),(0,77,0,0),(4,85,1,1),(4,92,1,1),(4,93,1,1),(4,94,0,1),(4,68,1,1),(4,69,0,1),(4,70,1,1),(4,78,0,1),(4,79,1,1)]) (K := [(105,[.inr (3,8,0,0,0),.inr (3,32,0,0,0),.inr (3,33,0,0,0)])]) (L := [([49],0),([48],1)]) (C := [([48],1),([49],0)]) (Z := [2,2,11,11,11,11,14,14,14,22,22,25,22,48,22,71,94,13,13,16,13,30,13,44,58,13,13,13,27,27,27,27,13,27,13,27,55,55,55,69,69,72,69,142,69,212,282,72,72,72,66,66,66,139,139,139,69,69,139,69,69,139,69,69,139,279,279,279,373,373,373,4,7,4,12,17,20,5,7,7,4,7,4,12,17,22,9,9,9,9,9,9,19,19,19]) (cl := []) 7 (fun _ h => by cases h) (by kernel_rfl) (by kernel_rfl) (by kernel_rfl) (by kernel_rfl) (by kernel_rfl) (by kernel_rfl) (by kernel_rfl)
end Go.Proofs.YtmdfngmjoaigjaaGreatDoor
/- PLY -/
namespace Go.Proofs.YtmdfngmjoaigjaaGreatDoor
open Go.RowKit Cx
abbrev Pol := List (Int × List Nat)
def eqM : List Nat→List Nat→Bool
 | [],[] => true
 | a :: m,b :: k => cond (Nat.beq a b) (eqM m k) false
 | _,_ => false
theorem Ow : ∀ {m k : List Nat},eqM m k=true→m=k
 | [],[],_ => rfl
 | a :: m,b :: k,h => by
  unfold eqM at h
  cases e : Nat.beq a b
  ·rw [e] at h; cases h
  ·rw [e] at h; rw [Nat.eq_of_beq_eq_true e,Ow (m := m) (k := k) h]
 | [],_ :: _,h => by cases h
 | _ :: _,[],h => by cases h
def Wa (a : Nat) : List Nat→List Nat
 | [] => [a]
 | b :: m => cond (Nat.ble a b) (a :: b :: m) (b :: Wa a m)
def YL (m k : List Nat) : List Nat := m.foldr Wa k
def isZ : Int→Bool
 | .ofNat n => Nat.beq n 0
 | .negSucc _ => false
theorem Ku {c : Int} (h : isZ c=true) : c=0 := by
 cases c with
 | ofNat n => rw [Nat.eq_of_beq_eq_true (n := n) (m := 0) h]; rfl
 | negSucc n => cases h
def Wd (c : Int) (m : List Nat) : Pol→Pol
 | [] => [(c,m)]
 | (d,k) :: p => cond (eqM m k) (cond (isZ (c+d)) p ((c+d,k) :: p)) ((d,k) :: Wd c m p)
def ZW (p r : Pol) : Pol := p.foldr (fun t s => Wd t.1 t.2 s) r
def JC (p : Pol) : Pol := p.map fun t => (-t.1,t.2)
def Rr (c : Int) (m : List Nat) (p : Pol) : Pol := p.map fun t => (c*t.1,YL m t.2)
def Yo (p r : Pol) : Pol := p.foldr (fun t s => ZW (Rr t.1 t.2 r) s) []
def WU : Pol→Bool
 | [] => true
 | _ => false
section
variable (q : Nat→Rat)
def evM : List Nat→Rat
 | [] => 1
 | a :: m => q a*evM m
def evP : Pol→Rat
 | [] => 0
 | t :: p => (t.1 : Rat)*evM q t.2+evP p
variable {q}
theorem UH (a : Nat) : ∀ m,evM q (Wa a m)=q a*evM q m
 | [] => rfl
 | b :: m => by
  unfold Wa
  cases Nat.ble a b
  ·show q b*evM q (Wa a m)=q a*(q b*evM q m)
   rw [UH a m]; grind
  ·rfl
theorem Yw : ∀ m k,evM q (YL m k)=evM q m*evM q k
 | [],k => (Rat.one_mul _).symm
 | a :: m,k => by
  show evM q (Wa a (YL m k))=q a*evM q m*evM q k
  rw [UH,Yw m k,Rat.mul_assoc]
theorem Uw (c : Int) (m : List Nat) : ∀ p,evP q (Wd c m p)=(c : Rat)*evM q m+evP q p
 | [] => rfl
 | (d,k) :: p => by
  unfold Wd
  cases e : eqM m k
  ·show (d : Rat)*evM q k+evP q (Wd c m p)=(c : Rat)*evM q m+((d : Rat)*evM q k+evP q p)
   rw [Uw c m p]; grind
  ·have e := Ow e
   subst e
   cases f : isZ (c+d)
   ·show ((c+d : Int) : Rat)*evM q m+evP q p=(c : Rat)*evM q m+((d : Rat)*evM q m+evP q p)
    rw [Rat.intCast_add]; grind
   ·show evP q p=(c : Rat)*evM q m+((d : Rat)*evM q m+evP q p)
    have g : (c : Rat)+(d : Rat)=0 := by rw [← Rat.intCast_add,Ku f]; rfl
    have : (c : Rat)*evM q m+((d : Rat)*evM q m+evP q p)=((c : Rat)+(d : Rat))*evM q m+evP q p := by grind
    rw [this,g,Rat.zero_mul,Rat.zero_add]
theorem Zu : ∀ p r,evP q (ZW p r)=evP q p+evP q r
 | [],r => (Rat.zero_add _).symm
 | t :: p,r => by
  show evP q (Wd t.1 t.2 (ZW p r))=(t.1 : Rat)*evM q t.2+evP q p+evP q r
  rw [Uw,Zu p r,Rat.add_assoc]
theorem ZB : ∀ p,evP q (JC p)=-evP q p
 | [] => rfl
 | t :: p => by
  show ((-t.1 : Int) : Rat)*evM q t.2+evP q (JC p)=-((t.1 : Rat)*evM q t.2+evP q p)
  rw [ZB p,Rat.intCast_neg]; grind
theorem Uj (c : Int) (m : List Nat) : ∀ p,evP q (Rr c m p)=(c : Rat)*evM q m*evP q p
 | [] => (Rat.mul_zero _).symm
 | t :: p => by
  show ((c*t.1 : Int) : Rat)*evM q (YL m t.2)+evP q (Rr c m p)=(c : Rat)*evM q m*((t.1 : Rat)*evM q t.2+evP q p)
  rw [Uj c m p,Yw,Rat.intCast_mul]; grind
theorem Jc : ∀ p r,evP q (Yo p r)=evP q p*evP q r
 | [],r => (Rat.zero_mul _).symm
 | t :: p,r => by
  show evP q (ZW (Rr t.1 t.2 r) (Yo p r))=((t.1 : Rat)*evM q t.2+evP q p)*evP q r
  rw [Zu,Uj,Jc p r,Rat.add_mul]
end
def nfN (N : List Nd) (stop : List Nat) : Nat→Nat→Pol
 | 0,a => [(1,[a])]
 | f+1,a => cond (stop.any (Nat.beq a)) [(1,[a])] (match N[a]? with
  | some (0,[0,n,1]) => cond (Nat.beq n 0) [] [((n : Int),[])]
  | some (0,[1,n,1]) => [(-(n : Int),[])]
  | some (2,[x,y]) => ZW (nfN N stop f x) (nfN N stop f y)
  | some (3,[x,y]) => ZW (nfN N stop f x) (JC (nfN N stop f y))
  | some (4,[x,y]) => Yo (nfN N stop f x) (nfN N stop f y)
  | some (5,[x]) => JC (nfN N stop f x)
  | _ => [(1,[a])])
inductive Ex where
 | z | o | t | f
 | v (a : Nat)
 | A (x y : Ex) | S (x y : Ex) | M (x y : Ex) | N (x : Ex)
def Ex.ev (q : Nat→Rat) : Ex→Rat
 | z => 0 | o => 1 | t => 2 | f => 4
 | v a => q a
 | A x y => x.ev q+y.ev q | S x y => x.ev q - y.ev q | M x y => x.ev q*y.ev q | N x => -x.ev q
def Ex.nf : Ex→Pol
 | z => [] | o => [(1,[])] | t => [(2,[])] | f => [(4,[])]
 | v a => [(1,[a])]
 | A x y => ZW x.nf y.nf | S x y => ZW x.nf (JC y.nf) | M x y => Yo x.nf y.nf | N x => JC x.nf
variable {q : Nat→Rat} {σ : Nat→ByteArray}
theorem atP (a : Nat) : evP q [(1,[a])]=q a := by
 show ((1 : Int) : Rat)*(q a*1)+0=q a
 rw [Rat.mul_one,Rat.add_zero]; exact Rat.one_mul _
theorem Ox (c : Int) : evP q [(c,[])]=(c : Rat) := by
 show (c : Rat)*1+0=_
 rw [Rat.mul_one,Rat.add_zero]
theorem Ex.nf_ok : ∀ e : Ex,evP q e.nf=e.ev q
 | z => rfl
 | o => Ox 1 | t => Ox 2 | f => Ox 4
 | v a => atP a
 | A x y => (Zu _ _).trans (by rw [nf_ok x,nf_ok y]; rfl)
 | S x y => (Zu _ _).trans (by rw [ZB,nf_ok x,nf_ok y]; exact (Rat.sub_eq_add_neg _ _).symm)
 | M x y => (Jc _ _).trans (by rw [nf_ok x,nf_ok y]; rfl)
 | N x => (ZB _).trans (by rw [nf_ok x]; rfl)
theorem Zm {N : List Nd} (H : ∀ (a : Nat) nd,N[a]? = some nd→q a=Zr σ q nd) (stop : List Nat) : ∀ f a,evP q (nfN N stop f a)=q a
 | 0,a => atP a
 | f+1,a => by
  unfold nfN
  cases stop.any (Nat.beq a)
  ·show evP q (match N[a]? with | some (0,[0,n,1]) => _ | some (0,[1,n,1]) => _ | some (2,[x,y]) => _ | some (3,[x,y]) => _ | some (4,[x,y]) => _ | some (5,[x]) => _ | _ => _)=q a
   split
   ·rename_i n e
    rw [H a _ e]
    show _=mkRat (n : Int) 1
    cases g : Nat.beq n 0
    ·exact (Ox (n : Int)).trans (Rat.mkRat_one _).symm
    ·rw [Nat.eq_of_beq_eq_true g]; rfl
   ·rename_i n e
    rw [H a _ e]
    exact (Ox (-(n : Int))).trans (Rat.mkRat_one _).symm
   ·rename_i x y e
    rw [H a _ e,Zu,Zm H stop f x,Zm H stop f y]; rfl
   ·rename_i x y e
    rw [H a _ e,Zu,ZB,Zm H stop f x,Zm H stop f y]; exact (Rat.sub_eq_add_neg _ _).symm
   ·rename_i x y e
    rw [H a _ e,Jc,Zm H stop f x,Zm H stop f y]; rfl
   ·rename_i x e
    rw [H a _ e,ZB,Zm H stop f x]; rfl
   ·exact atP a
  ·exact atP a
theorem Vm {p r : Pol} (h : WU (ZW p (JC r))=true) : evP q p=evP q r := by
 have e : evP q (ZW p (JC r))=0 := by
  cases k : ZW p (JC r) with
  | nil => rfl
  | cons t s => rw [k] at h; cases h
 rw [Zu,ZB] at e
 grind
theorem pol {N : List Nd} (H : ∀ (a : Nat) nd,N[a]? = some nd→q a=Zr σ q nd) (stop : List Nat) (f a : Nat) (e : Ex) (h : WU (ZW (nfN N stop f a) (JC e.nf))=true) : q a=e.ev q :=
 (Zm H stop f a).symm.trans ((Vm h).trans e.nf_ok)
theorem pol2 {N : List Nd} (H : ∀ (a : Nat) nd,N[a]? = some nd→q a=Zr σ q nd) (stop : List Nat) (f a b : Nat) (h : WU (ZW (nfN N stop f a) (JC (nfN N stop f b)))=true) : q a=q b :=
 (Zm H stop f a).symm.trans ((Vm h).trans (Zm H stop f b))
def Yz (N : List Nd) (b : Nat) : Nat→Nat→Bool
 | 0,_ => false
 | f+1,a => match N[a]? with
  | some (6,[_,y]) => Nat.beq y b
  | some (2,[x,y]) => cond (Yz N b f x) true (Yz N b f y)
  | some (3,[x,y]) => cond (Yz N b f x) true (Yz N b f y)
  | some (4,[x,y]) => cond (Yz N b f x) true (Yz N b f y)
  | some (5,[x]) => Yz N b f x
  | _ => false
def dvN (N : List Nd) (stop : List Nat) (b : Nat) : Nat→Nat→Pol
 | 0,a => [(1,YL [a] [b])]
 | f+1,a => cond (Yz N b (f+1) a) (match N[a]? with
  | some (6,[x,y]) => cond (Nat.beq y b) (nfN N stop f x) [(1,YL [a] [b])]
  | some (2,[x,y]) => ZW (dvN N stop b f x) (dvN N stop b f y)
  | some (3,[x,y]) => ZW (dvN N stop b f x) (JC (dvN N stop b f y))
  | some (4,[x,y]) => cond (Yz N b f x) (Yo (dvN N stop b f x) (nfN N stop f y)) (Yo (nfN N stop f x) (dvN N stop b f y))
  | some (5,[x]) => JC (dvN N stop b f x)
  | _ => [(1,YL [a] [b])]) (Yo (nfN N stop (f+1) a) [(1,[b])])
theorem abP (a b : Nat) : evP q [(1,YL [a] [b])]=q a*q b := by
 show ((1 : Int) : Rat)*evM q (YL [a] [b])+0=_
 rw [Yw,Rat.add_zero]
 show (1 : Rat)*(q a*1*(q b*1))=_
 rw [Rat.one_mul,Rat.mul_one,Rat.mul_one]
theorem JN {N : List Nd} (H : ∀ (a : Nat) nd,N[a]? = some nd→q a=Zr σ q nd) (stop : List Nat) (b : Nat) (hb : ¬ (q b=0)) : ∀ f a,evP q (dvN N stop b f a)=q a*q b
 | 0,a => abP a b
 | f+1,a => by
  unfold dvN
  cases Yz N b (f+1) a
  ·show evP q (Yo (nfN N stop (f+1) a) [(1,[b])])=_
   rw [Jc,Zm H,atP]
  ·show evP q (match N[a]? with | some (6,[x,y]) => _ | some (2,[x,y]) => _ | some (3,[x,y]) => _ | some (4,[x,y]) => _ | some (5,[x]) => _ | _ => _)=_
   split
   ·rename_i x y e
    cases g : Nat.beq y b
    ·exact abP a b
    ·show evP q (nfN N stop f x)=_
     rw [Zm H,H a _ e,Nat.eq_of_beq_eq_true g]
     exact (Rat.div_mul_cancel hb).symm
   ·rename_i x y e
    rw [H a _ e,Zu,JN H stop b hb f x,JN H stop b hb f y]; exact (Rat.add_mul _ _ _).symm
   ·rename_i x y e
    rw [H a _ e,Zu,ZB,JN H stop b hb f x,JN H stop b hb f y]
    show q x*q b+-(q y*q b)=(q x - q y)*q b
    grind
   ·rename_i x y e
    rw [H a _ e]
    show _=q x*q y*q b
    cases Yz N b f x
    ·show evP q (Yo (nfN N stop f x) (dvN N stop b f y))=_
     rw [Jc,Zm H,JN H stop b hb f y,Rat.mul_assoc]
    ·show evP q (Yo (dvN N stop b f x) (nfN N stop f y))=_
     rw [Jc,Zm H,JN H stop b hb f x]; grind
   ·rename_i x e
    rw [H a _ e,ZB,JN H stop b hb f x]
    show -(q x*q b)=-q x*q b
    grind
   ·exact abP a b
theorem Zo {N : List Nd} (H : ∀ (a : Nat) nd,N[a]? = some nd→q a=Zr σ q nd) (stop : List Nat) (f a b : Nat) (e : Ex) (hb : ¬ (q b=0)) (h : WU (ZW (dvN N stop b f a) (JC e.nf))=true) : q a*q b=e.ev q :=
 (JN H stop b hb f a).symm.trans ((Vm h).trans e.nf_ok)
end Go.Proofs.YtmdfngmjoaigjaaGreatDoor
/- VPD -/
namespace Cx
open Go Go.RowKit
def RH : List A1→List A1→Bool
 | [],[] => true
 | (a,x) :: l,(b,y) :: m => (a == b && Iu x y) && RH l m
 | _,_ => false
theorem Us : ∀ {l m : List A1},RH l m=true→l=m
 | [],[],_ => rfl
 | (a,x) :: l,(b,y) :: m,h => by
  unfold RH at h
  simp only [Bool.and_eq_true,beq_iff_eq] at h
  obtain ⟨⟨h1,h2⟩,h3⟩ := h
  rw [h1,XZ h2,Us h3]
 | [],_ :: _,h => by cases h
 | _ :: _,[],h => by cases h
def UK : List AV→List AV→Bool
 | [],[] => true
 | (a,x) :: l,(b,y) :: m => (a == b && RH x y) && UK l m
 | _,_ => false
theorem XO : ∀ {l m : List AV},UK l m=true→l=m
 | [],[],_ => rfl
 | (a,x) :: l,(b,y) :: m,h => by
  unfold UK at h
  simp only [Bool.and_eq_true,beq_iff_eq] at h
  obtain ⟨⟨h1,h2⟩,h3⟩ := h
  rw [h1,Us h2,XO h3]
 | [],_ :: _,h => by cases h
 | _ :: _,[],h => by cases h
abbrev JP := List (FuncId × List AV × AV)
def Xi (f : FuncId) (args : List AV) : JP→Option AV
 | [] => none
 | (g,bs,v) :: m => bif Nat.beq f g && UK args bs then some v else Xi f args m
theorem JO {f : FuncId} {args : List AV} {v : AV} : ∀ {m : JP},Xi f args m=some v→(f,args,v) ∈ m
 | [],h => by cases h
 | (g,bs,u) :: m,h => by
  unfold Xi at h
  cases e : (Nat.beq f g && UK args bs) with
  | true =>
   rw [e] at h
   rw [Bool.and_eq_true,Nat.beq_eq] at e
   rw [e.1,XO e.2,show u=v from Option.some.inj h]
   exact List.mem_cons_self
  | false =>
   rw [e] at h
   exact List.mem_cons_of_mem _ (JO h)
def Xy : AC→Bool
 | .inl _ => true
 | .inr (k,_) => Nat.ble k 2
def YC (v : AV) : Bool := v.2.all fun x => x.2.all Xy
def Zp (S : Sx) (cs : List (FuncId × Nat)) (M : JP) : Nat→Hs→ZN
 | 0,_,_,_,_,_ => none
 | n+1,X,f,args,h,nx => match Xi f args M with
  | some v => some (v,h,nx)
  | none => match Wp f cs with
   | none => Zv (S.plus X) (Zp S cs M n X) f args h nx
   | some c => match YR S X h c args with
    | none => Zv (S.plus X) (Zp S cs M n X) f args h nx
    | some (l,r) => bif Nat.beq 1 r then Zv (S.plus (Ub l X)) (Zp S cs M n (Ub l X)) f args h nx
     else XK h nx ((Jd l X).map fun X' => JH (S.plus X') (Zv (S.plus X') (Zp S cs M n X') f args h nx))
def Xe (S : Sx) (E : Ev S.nb) (w0 : World) (M : JP) : Prop := ∀ f args v,(f,args,v) ∈ M→∀ (γ : Nat→Option Nat) (w : World) (vs : List Value),WI w0 γ w→A2 (avOn (cOn E S.K γ w)) args vs →
 Calls S.P f vs.toArray w fun e w' => ∃ r,e=.returned r∧(∀ wr nx,(∀ b ∈ wr,Ri γ b)→Ef S.nb w0 wr nx nx γ w γ w')∧avOn (cOn E S.K γ w') v r
section
variable {S : Sx} {E : Ev S.nb} {w0 : World}
theorem Wn {K K' : List (FuncId × List AC)} {γ γ' : Nat→Option Nat} {w : World} {d : Nat} {c : AC} {v : Value} (hc : Xy c=true) (h : QY E K γ w d c v) : QY E K' γ' w d c v := by
 cases c with
 | inl u =>
  unfold QY at h ⊢
  exact h
 | inr t =>
  obtain ⟨k,a,b,n,c⟩ := t
  have hk : k≤2 := by
   unfold Xy at hc
   rw [Nat.ble_eq] at hc
   exact hc
  match k,hk with
  | 0,_ =>
   unfold QY at h ⊢
   exact h
  | 1,_ =>
   unfold QY at h ⊢
   exact h
  | 2,_ =>
   unfold QY at h ⊢
   exact h
theorem XT {α : Type} {R R' : α→Value→Prop} {P : α→Prop} (h : ∀ a v,P a→R a v→R' a v) : ∀ {l : List α} {vs : List Value},(∀ a ∈ l,P a)→A2 R l vs→A2 R' l vs
 | [],[],_,_ => trivial
 | _ :: _,_ :: _,hp,q => ⟨h _ _ (hp _ List.mem_cons_self) q.1,XT h (fun a ha => hp a (List.mem_cons_of_mem _ ha)) q.2⟩
 | [],_ :: _,_,q => q.elim
 | _ :: _,[],_,q => q.elim
theorem Ww {K K' : List (FuncId × List AC)} {γ γ' : Nat→Option Nat} {w : World} {x : AV} {v : Value} (hx : YC x=true) (h : avOn (cOn E K γ w) x v) : avOn (cOn E K' γ' w) x v := by
 unfold YC at hx
 rw [List.all_eq_true] at hx
 have one : ∀ (y : A1) u,(∀ c ∈ y.2,Xy c=true)→a1On (cOn E K γ w) y u→a1On (cOn E K' γ' w) y u := fun y u hy q => by
  obtain ⟨b,cs⟩ := y
  cases b with
  | true =>
   obtain ⟨us,e,q⟩ := q
   exact ⟨us,e,XT (P := fun c => Xy c=true) (fun _ _ hc q => Wn hc q) hy q⟩
  | false => exact XT (P := fun c => Xy c=true) (fun _ _ hc q => Wn hc q) hy q
 have all : ∀ y ∈ x.2,∀ c ∈ y.2,Xy c=true := fun y hy c hc => (List.all_eq_true.1 (hx y hy)) c hc
 obtain ⟨b,ys⟩ := x
 cases b with
 | true =>
  obtain ⟨us,e,q⟩ := h
  exact ⟨us,e,XT (P := fun y : A1 => ∀ c ∈ y.2,Xy c=true) (fun y u hy q => one y u hy q) all q⟩
 | false => exact XT (P := fun y : A1 => ∀ c ∈ y.2,Xy c=true) (fun y u hy q => one y u hy q) all h
variable {T : Hs→Prop} {z : Nat→Prop}
theorem Wt {cs : List (FuncId × Nat)} {M : JP} (hm : S.P.follows .mixedOrders=true) (hM : Xe S E w0 M) (hN : ∀ X,T X→Knows (S.plus X) E) (hP : ∀ X,T X→JI (S.plus X) E w0) (hk : ZF S T z)
  (hs : ∀ X,T X→∀ l s r,sqN S l=some s→(S.plus X).kn 0 s 0=some r→(Nat.beq 1 r=true→∀ d ∈ l,z d)∧(Nat.beq 1 r=false→∃ d ∈ l,¬ z d)) : ∀ n X,T X→Zl S E w0 (Zp S cs M n X)
 | 0,_,_ => fun _ _ _ _ _ h => by cases h
 | n+1,X,hX => fun f args h nx p hp => by
  have body : ∀ Y,T Y→Zl S E w0 (Zv (S.plus Y) (Zp S cs M n Y)) := fun Y hY => Yi (S := S.plus Y) hm (hN Y hY) (hP Y hY) (Wt hm hM hN hP hk hs n Y hY)
  unfold Zp at hp
  split at hp
  ·rename_i v hv
   cases hp
   intro γ w vs hi hA hb hlt hf
   refine (hM f args v (JO hv) γ w vs hi hA).mono ?_
   rintro _ w' ⟨r,rfl,hef,hr⟩
   have live : ∀ b ∈ h.map (·.1),Ri γ b := fun b hb' => by
    obtain ⟨x,hx,rfl⟩ := List.mem_map.1 hb'
    obtain ⟨_,_,_,_,hl,_⟩ := hb x hx
    exact hl
   exact ⟨r,γ,rfl,hef _ _ live,hr,fun x hx => (hef [] nx Yu).box hi (hb x hx) (by simp)⟩
  ·split at hp
   ·exact body X hX f args h nx p hp
   ·split at hp
    ·exact body X hX f args h nx p hp
    rename_i l r hk'
    obtain ⟨hl,s,h1,h2⟩ := JZ hk'
    have h3 := hp
    obtain ⟨a1,a0⟩ := hs X hX _ s r h1 h2
    cases e : Nat.beq 1 r with
    | true =>
     rw [e] at h3
     exact body _ (ZV hk hX hl fun a ha => a1 e _ (List.mem_map_of_mem ha)) f args h nx p h3
    | false =>
     rw [e] at h3
     obtain ⟨d,hd,hz⟩ := a0 e
     obtain ⟨a,ha,rfl⟩ := List.mem_map.1 hd
     obtain ⟨X',m1,m2⟩ := ZD hk hX hl ⟨a,ha,hz⟩
     replace h3 : XK h nx ((Jd l X).map fun X' => JH (S.plus X') (Zv (S.plus X') (Zp S cs M n X') f args h nx))=some p := h3
     unfold XK at h3
     split at h3
     ·rename_i p0 rs hrs
      rw [Option.bind_eq_some_iff] at h3
      obtain ⟨b,hb,h4⟩ := h3
      rw [ifO_some,List.all_eq_true] at h4
      obtain ⟨h5,h6⟩ := h4
      cases h6
      obtain ⟨h',nx',q1,q2,q3⟩ := JX (h5 _ (List.mem_map_of_mem m1))
      intro γ w vs hi hA hb hlt hf
      refine (Vq (hN X' m2) (body X' m2) f args h nx _ q1 γ w vs hi hA hb hlt fun b g1 g2 => hf b g1 (Nat.lt_of_lt_of_le g2 q2)).mono ?_
      rintro _ w' ⟨r',γ',rfl,hef,hv,hx⟩
      exact ⟨r',γ',rfl,hef.wide (Nat.le_refl _) q2,hv,fun x hh => hx x (q3 x hh)⟩
     ·cases h3
theorem Ts {K1 K2 : List (FuncId × List AC)} {H1 H2 : Hs} {M : JP} {f : FuncId} {args : List AV} {v : AV} {p : List HB × Nat} {call : ZN} (hC : Zl { S with H := H1,K := K1 } E w0 call) (hr : call f args [] 0=some (v,p)) (ha : args.all YC=true) (hv : YC v=true) (hM : Xe { S with H := H2,K := K2 } E w0 M) : Xe { S with H := H2,K := K2 } E w0 ((f,args,v) :: M) := fun g bs u hmem => by
 rcases List.mem_cons.1 hmem with e | hmem
 ·cases e
  intro γ w vs hi hA
  rw [List.all_eq_true] at ha
  refine (hC f args [] 0 (v,p) hr (fun _ => none) w vs ⟨hi.bel,(fun _ _ h => by cases h)⟩ (XT (P := fun x => YC x=true) (fun _ _ hx q => Ww hx q) ha hA) (fun x hx => by cases hx) (fun x hx => by cases hx) (fun _ _ _ => rfl)).mono ?_
  rintro _ w' ⟨r,γ',rfl,hef,hr,_⟩
  refine ⟨r,rfl,fun wr nx hl => ⟨leG.refl _,fun _ _ => rfl,fun _ _ h => Or.inl h,⟨hef.wi.bel,fun b G q => ⟨(hi.lo b G q).1,Nat.lt_of_lt_of_le (hi.lo b G q).2 hef.gr.size⟩⟩,hef.gr,fun G hG _ => hef.keep G hG (fun b hb => by cases hb),hl⟩,Ww hv hr⟩
 ·exact hM g bs u hmem
def Yr (S : Sx) (cs : List (FuncId × Nat)) (k : Nat) : JP→Bool
 | (f,args,v) :: M => (match Zp S cs M k [] f args [] 0 with
  | some (u,_) => UK [u] [v]
  | none => false) && (args.all YC && YC v)
 | [] => false
def Zj (S : Sx) (cs : List (FuncId × Nat)) (k : Nat) : Nat→JP→Bool
 | 0,_ => true
 | n+1,M => Yr S cs k M && Zj S cs k n M.tail
def qA (l : List Nat) : AV := (false,[(true,l.flatMap Ry)])
def rC (a : Nat) : AC := .inr (0,0,a,0,0)
def rA (l : List Nat) : AV := (false,[(true,l.map rC)])
def pA (l : List Nat) : AV := (false,[(true,l.map fun a => .inr (2,a,0,0,0))])
theorem OC : Xe S E w0 [] := fun _ _ _ h => by cases h
end
end Cx
/- VPE -/
namespace Go.Proofs.YtmdfngmjoaigjaaGreatDoor
open Cx Go Go.RowKit
section
variable {N : List Nd} {H : List (Nat × Nat × Nat × Nat)} {K : List (FuncId × List AC)} {L C : List (List Nat × Nat)} {Z : List Nat} {q : Nat→Rat} {σ : Nat→ByteArray} {cl : List FuncId} {cs pr : List (FuncId × Nat)} {M : JP} {w : World}
theorem YF (Y : Hy N H L C Z q σ) (hc : ∀ f ∈ cl,Closed f) (hm : (Tryz.prog).follows .mixedOrders=true) (hp : Zy w) (hM : Xe (sx Tryz.prog N H K L C Z (prC cl)) (evS q σ) w M) (k : Nat) : Zl (sx Tryz.prog N H K L C Z (prC cl)) (evS q σ) w (Zp (sx Tryz.prog N H K L C Z (prC cl)) cs M k []) :=
 Wt (S := sx Tryz.prog N H K L C Z (prC cl)) (E := evS q σ) (w0 := w) (T := fun X => Hy N (X ++ H) L C Z q σ) (z := fun d => q d=0) hm hM (fun X hX => GM hX) (fun X hX => Rf hX hp hc) Yj (fun X hX l s r h1 h2 => by
  have e := hX.k0 s r h2
  have g := Vl hX h1
  refine ⟨fun h => g.1 (e.1 h),fun h => ?_⟩
  have hn : ¬ ∀ d ∈ l,q d=0 := fun q' => by
   rw [e.2 (g.2 q')] at h
   cases h
  simpa using hn) k [] Y
def Zw (N : List Nd) (L C : List (List Nat × Nat)) (Z : List Nat) (q : Nat→Rat) (σ : Nat→ByteArray) (cl : List FuncId) (w : World) (M : JP) : Prop := ∀ H K,Xe (sx Tryz.prog N H K L C Z (prC cl)) (evS q σ) w M
theorem XX : Zw N L C Z q σ cl w [] := fun _ _ => OC
theorem UN {H1 : List (Nat × Nat × Nat × Nat)} (Y : Hy N H1 L C Z q σ) (hc : ∀ f ∈ cl,Closed f) (hm : (Tryz.prog).follows .mixedOrders=true) (hp : Zy w) {f : FuncId} {args : List AV} {v : AV} (k : Nat) (hr : Yr (sx Tryz.prog N H1 [] L C Z (prC cl)) cs k ((f,args,v) :: M)=true) (hM : Zw N L C Z q σ cl w M) : Zw N L C Z q σ cl w ((f,args,v) :: M) := fun H K => by
 unfold Yr at hr
 simp only [Bool.and_eq_true] at hr
 obtain ⟨h1,h2,h3⟩ := hr
 split at h1
 ·rename_i u p hu
  have e := XO h1
  cases e
  exact Ts (S := sx Tryz.prog N H K L C Z (prC cl)) (K1 := []) (H1 := H1) (K2 := K) (H2 := H) (YF (K := []) (cs := cs) Y hc hm hp (hM H1 []) k) hu h2 h3 (hM H K)
 ·cases h1
theorem Up {i : Nat} {H1 : List (Nat × Nat × Nat × Nat)} (Y : Hy N H1 L C Z q σ) (hc : ∀ f ∈ cl,Closed f) (hm : (Tryz.prog).follows .mixedOrders=true) (hp : Zy w) {k : Nat} (hr : Yr (sx Tryz.prog N H1 [] L C Z (prC cl)) cs k (M.drop i)=true) (hM : Zw N L C Z q σ cl w (M.drop (i+1))) : Zw N L C Z q σ cl w (M.drop i) := by
 rw [← List.tail_drop] at hM
 generalize M.drop i=D at *
 match D with
 | [] => cases hr
 | (f,args,v) :: D => exact UN Y hc hm hp k hr hM
theorem QN {H1 : List (Nat × Nat × Nat × Nat)} (Y : Hy N H1 L C Z q σ) (hc : ∀ f ∈ cl,Closed f) (hm : (Tryz.prog).follows .mixedOrders=true) (hp : Zy w) {k : Nat} : ∀ (n : Nat) {M : JP},Zj (sx Tryz.prog N H1 [] L C Z (prC cl)) cs k n M=true→Zw N L C Z q σ cl w (M.drop n)→Zw N L C Z q σ cl w M
 | 0,_,_,h => h
 | n+1,M,hr,h => by
  unfold Zj at hr
  rw [Bool.and_eq_true] at hr
  have h1 := QN Y hc hm hp n hr.2 (by rw [List.drop_tail]; exact h)
  exact Up (i := 0) Y hc hm hp hr.1 (by rw [Nat.zero_add,List.drop_one]; exact h1)
theorem On {f : FuncId} {args : List AV} {vs : List Value} (k : Nat) (Y : Hy N H L C Z q σ) (hc : ∀ f ∈ cl,Closed f) (hm : (Tryz.prog).follows .mixedOrders=true) (hp : Zy w) (hM : Zw N L C Z q σ cl w M) (hr : (Zp (sx Tryz.prog N H K L C Z (prC cl)) cs M k [] f args [] 0).map (·.1)=some (kB true))
  (hA : A2 (avOn (cOn (evS q σ) K (fun _ => none) w)) args vs) : Calls Tryz.prog f vs.toArray w fun e w' => Below w.heap.size w w'∧e=.returned (.bool true) := by
 rw [Option.map_eq_some_iff] at hr
 obtain ⟨⟨v,p⟩,h1,h2⟩ := hr
 dsimp only at h2
 subst h2
 refine (YF (cs := cs) Y hc hm hp (hM H K) k f args [] 0 (kB true,p) h1 (fun _ => none) w vs ⟨Below.refl _ _,(fun _ _ h => by cases h)⟩ hA (fun x hx => by cases hx) (fun x hx => by cases hx) (fun _ _ _ => rfl)).mono ?_
 rintro _ w' ⟨r,γ',rfl,hef,hv,_⟩
 exact ⟨hef.wi.bel,by rw [show r=.bool true from (Zk (v := kB true) (c := .inl (.bool true)) rfl hv).1]⟩
end
end Go.Proofs.YtmdfngmjoaigjaaGreatDoor
/- MQORA -/
namespace Go.Proofs.YtmdfngmjoaigjaaGreatDoor
open Go.RowKit Cx
def qO_N : List Nd := [(1,[0]),(1,[1]),(1,[2]),(1,[3]),(1,[4]),(1,[5]),(1,[6]),(1,[7]),(1,[8]),(4,[0,0]),(0,[0,0,1]),(2,[10,9]),(4,[1,1]),(2,[11,12]),(4,[2,2]),(2,[13,14]),(0,[0,1,1]),(3,[15,16]),(4,[4,8]),(4,[5,7]),(3,[18,19]),(4,[0,20]),(4,[3,8]),(4,[5,6]),(3,[22,23]),(4,[1,24]),(5,[25]),(4,[3,7]),(4,[4,6]),(3,[27,28]),(4,[2,29]),(2,[21,26]),(2,[31,30]),(2,[9,12]),(2,[33,14]),(4,[0,3]),(2,[10,35]),(4,[1,4]),(2,[36,37]),(4,[2,5]),(2,[38,39]),(2,[35,37]),(2,[41,39]),(4,[3,3]),(2,[10,43]),(4,[4,4]),(2,[44,45]),(4,[5,5]),(2,[46,47]),(3,[48,16]),(4,[0,6]),(4,[1,7]),(4,[2,8]),(2,[50,51]),(2,[53,52]),(4,[3,0]),(4,[4,1]),(4,[5,2]),(2,[55,56]),(2,[58,57]),(2,[43,45]),(2,[60,47]),(4,[3,6]),(2,[10,62]),(4,[4,7]),(2,[63,64]),(4,[5,8]),(2,[65,66]),(2,[62,64]),(2,[68,66]),(4,[6,6]),(2,[10,70]),(4,[7,7]),(2,[71,72]),(4,[8,8]),(2,[73,74]),(3,[75,16]),(4,[6,0]),(4,[7,1]),(4,[8,2]),(2,[77,78]),(2,[80,79]),(4,[6,3]),(4,[7,4]),(4,[8,5]),(2,[82,83]),(2,[85,84]),(2,[70,72]),(2,[87,74]),(2,[10,77]),(2,[89,78]),(2,[90,79]),(3,[23,22]),(2,[10,21]),(4,[1,92]),(2,[93,94]),(2,[95,30]),(4,[10,16]),(4,[0,10]),(2,[10,98]),(4,[3,10]),(2,[99,100]),(4,[6,10]),(2,[101,102]),(3,[97,103]),(4,[10,10]),(4,[0,16]),(4,[3,16]),(4,[6,16]),(2,[105,106]),(2,[105,107]),(2,[105,108]),(3,[100,102]),(3,[102,98]),(3,[98,100]),(2,[109,112]),(2,[110,113]),(2,[111,114]),(3,[10,16]),(3,[10,10]),(4,[104,10]),(4,[115,118]),(2,[10,121]),(4,[116,119]),(2,[122,123]),(4,[117,119]),(2,[124,125]),(3,[120,126]),(4,[118,104]),(4,[119,104]),(4,[115,10]),(4,[116,10]),(4,[117,10]),(2,[128,130]),(2,[129,131]),(2,[129,132]),(3,[123,125]),(4,[117,118]),(4,[115,119]),(3,[137,138]),(4,[116,118]),(3,[138,140]),(2,[133,136]),(2,[134,139]),(2,[135,141]),(2,[16,127]),(2,[10,142]),(2,[10,143]),(2,[10,144]),(4,[1,10]),(2,[10,149]),(4,[4,10]),(2,[150,151]),(4,[7,10]),(2,[152,153]),(3,[97,154]),(4,[1,16]),(4,[4,16]),(4,[7,16]),(2,[105,156]),(2,[105,157]),(2,[105,158]),(3,[151,153]),(3,[153,149]),(3,[149,151]),(2,[159,162]),(2,[160,163]),(2,[161,164]),(4,[155,10]),(4,[165,119]),(2,[10,169]),(4,[166,118]),(2,[170,171]),(4,[167,119]),(2,[172,173]),(3,[168,174]),(4,[119,155]),(4,[118,155]),(4,[165,10]),(4,[166,10]),(4,[167,10]),(2,[176,178]),(2,[177,179]),(2,[176,180]),(4,[166,119]),(4,[167,118]),(3,[184,185]),(3,[173,169]),(4,[165,118]),(3,[188,184]),(2,[181,186]),(2,[182,187]),(2,[183,189]),(2,[145,175]),(2,[146,190]),(2,[147,191]),(2,[148,192]),(4,[2,10]),(2,[10,197]),(4,[5,10]),(2,[198,199]),(4,[8,10]),(2,[200,201]),(3,[97,202]),(4,[2,16]),(4,[5,16]),(4,[8,16]),(2,[105,204]),(2,[105,205]),(2,[105,206]),(3,[199,201]),(3,[201,197]),(3,[197,199]),(2,[207,210]),(2,[208,211]),(2,[209,212]),(4,[203,10]),(4,[213,119]),(2,[10,217]),(4,[214,119]),(2,[218,219]),(4,[215,118]),(2,[220,221]),(3,[216,222]),(4,[119,203]),(4,[118,203]),(4,[213,10]),(4,[214,10]),(4,[215,10]),(2,[224,226]),(2,[224,227]),(2,[225,228]),(4,[214,118]),(4,[215,119]),(3,[232,233]),(4,[213,118]),(3,[233,235]),(3,[217,219]),(2,[229,234]),(2,[230,236]),(2,[231,237]),(2,[193,223]),(2,[194,238]),(2,[195,239]),(2,[196,240]),(6,[241,241]),(6,[242,241]),(6,[243,241]),(6,[244,241]),(8,[0,245,246,247,248]),(8,[1,245,246,247,248]),(8,[2,245,246,247,248]),(8,[3,245,246,247,248]),(3,[10,250]),(3,[10,251]),(3,[10,252]),(4,[249,249]),(4,[250,250]),(2,[10,257]),(4,[251,251]),(2,[258,259]),(4,[252,252]),(2,[260,261]),(2,[256,262]),(4,[249,10]),(4,[250,16]),(2,[10,265]),(4,[251,10]),(2,[266,267]),(4,[252,10]),(2,[268,269]),(3,[264,270]),(4,[16,249]),(4,[10,249]),(4,[250,10]),(2,[272,274]),(2,[273,267]),(2,[273,269]),(3,[267,269]),(4,[252,16]),(3,[279,274]),(4,[251,16]),(3,[274,281]),(2,[275,278]),(2,[276,280]),(2,[277,282]),(4,[271,249]),(4,[283,253]),(2,[10,287]),(4,[284,254]),(2,[288,289]),(4,[285,255]),(2,[290,291]),(3,[286,292]),(4,[253,271]),(4,[254,271]),(4,[255,271]),(4,[283,249]),(4,[284,249]),(4,[285,249]),(2,[294,297]),(2,[295,298]),(2,[296,299]),(4,[284,255]),(4,[285,254]),(3,[303,304]),(4,[285,253]),(4,[283,255]),(3,[306,307]),(4,[283,254]),(4,[284,253]),(3,[309,310]),(2,[300,305]),(2,[301,308]),(2,[302,311]),(6,[312,263]),(6,[313,263]),(6,[314,263]),(2,[10,274]),(2,[318,281]),(2,[319,269]),(3,[264,320]),(2,[273,274]),(2,[272,267]),(3,[267,279]),(3,[269,274]),(3,[265,267]),(2,[322,324]),(2,[323,325]),(2,[277,326]),(4,[321,249]),(4,[327,253]),(2,[10,331]),(4,[328,254]),(2,[332,333]),(4,[329,255]),(2,[334,335]),(3,[330,336]),(4,[253,321]),(4,[254,321]),(4,[255,321]),(4,[327,249]),(4,[328,249]),(4,[329,249]),(2,[338,341]),(2,[339,342]),(2,[340,343]),(4,[328,255]),(4,[329,254]),(3,[347,348]),(4,[329,253]),(4,[327,255]),(3,[350,351]),(4,[327,254]),(4,[328,253]),(3,[353,354]),(2,[344,349]),(2,[345,352]),(2,[346,355]),(6,[356,263]),(6,[357,263]),(6,[358,263]),(2,[318,267]),(2,[362,279]),(3,[264,363]),(2,[272,269]),(3,[281,269]),(3,[269,265]),(3,[274,267]),(2,[322,366]),(2,[276,367]),(2,[365,368]),(4,[364,249]),(4,[369,253]),(2,[10,373]),(4,[370,254]),(2,[374,375]),(4,[371,255]),(2,[376,377]),(3,[372,378]),(4,[253,364]),(4,[254,364]),(4,[255,364]),(4,[369,249]),(4,[370,249]),(4,[371,249]),(2,[380,383]),(2,[381,384]),(2,[382,385]),(4,[370,255]),(4,[371,254]),(3,[389,390]),(4,[371,253]),(4,[369,255]),(3,[392,393]),(4,[369,254]),(4,[370,253]),(3,[395,396]),(2,[386,391]),(2,[387,394]),(2,[388,397]),(6,[398,263]),(6,[399,263]),(6,[400,263]),(2,[10,106]),(2,[404,100]),(2,[405,102]),(3,[105,406]),(4,[16,10]),(2,[408,98]),(2,[105,100]),(2,[105,102]),(3,[108,98]),(3,[98,107]),(2,[409,112]),(2,[410,412]),(2,[411,413]),(4,[407,10]),(4,[414,118]),(2,[10,418]),(4,[415,119]),(2,[419,420]),(4,[416,119]),(2,[421,422]),(3,[417,423]),(4,[118,407]),(4,[119,407]),(4,[414,10]),(4,[415,10]),(4,[416,10]),(2,[425,427]),(2,[426,428]),(2,[426,429]),(3,[420,422]),(4,[416,118]),(4,[414,119]),(3,[434,435]),(4,[415,118]),(3,[435,437]),(2,[430,433]),(2,[431,436]),(2,[432,438]),(2,[10,424]),(2,[16,439]),(2,[10,440]),(2,[10,441]),(2,[10,156]),(2,[446,151]),(2,[447,153]),(3,[105,448]),(2,[408,149]),(2,[105,151]),(2,[105,153]),(3,[158,149]),(3,[149,157]),(2,[450,162]),(2,[451,453]),(2,[452,454]),(4,[449,10]),(4,[455,119]),(2,[10,459]),(4,[456,118]),(2,[460,461]),(4,[457,119]),(2,[462,463]),(3,[458,464]),(4,[119,449]),(4,[118,449]),(4,[455,10]),(4,[456,10]),(4,[457,10]),(2,[466,468]),(2,[467,469]),(2,[466,470]),(4,[456,119]),(4,[457,118]),(3,[474,475]),(3,[463,459]),(4,[455,118]),(3,[478,474]),(2,[471,476]),(2,[472,477]),(2,[473,479]),(2,[442,465]),(2,[443,480]),(2,[444,481]),(2,[445,482]),(2,[10,204]),(2,[487,199]),(2,[488,201]),(3,[105,489]),(2,[408,197]),(2,[105,199]),(2,[105,201]),(3,[206,197]),(3,[197,205]),(2,[491,210]),(2,[492,494]),(2,[493,495]),(4,[490,10]),(4,[496,119]),(2,[10,500]),(4,[497,119]),(2,[501,502]),(4,[498,118]),(2,[503,504]),(3,[499,505]),(4,[119,490]),(4,[118,490]),(4,[496,10]),(4,[497,10]),(4,[498,10]),(2,[507,509]),(2,[507,510]),(2,[508,511]),(4,[497,118]),(4,[498,119]),(3,[515,516]),(4,[496,118]),(3,[516,518]),(3,[500,502]),(2,[512,517]),(2,[513,519]),(2,[514,520]),(2,[483,506]),(2,[484,521]),(2,[485,522]),(2,[486,523]),(6,[524,525]),(6,[525,525]),(6,[526,525]),(6,[527,525]),(8,[0,528,529,530,531]),(8,[1,528,529,530,531]),(8,[2,528,529,530,531]),(8,[3,528,529,530,531]),(3,[10,533]),(3,[10,534]),(3,[10,535]),(4,[532,532]),(4,[533,533]),(2,[10,540]),(4,[534,534]),(2,[541,542]),(4,[535,535]),(2,[543,544]),(2,[539,545]),(4,[532,10]),(4,[533,16]),(2,[10,548]),(4,[534,10]),(2,[549,550]),(4,[535,10]),(2,[551,552]),(3,[547,553]),(4,[16,532]),(4,[10,532]),(4,[533,10]),(2,[555,557]),(2,[556,550]),(2,[556,552]),(3,[550,552]),(4,[535,16]),(3,[562,557]),(4,[534,16]),(3,[557,564]),(2,[558,561]),(2,[559,563]),(2,[560,565]),(4,[554,532]),(4,[566,536]),(2,[10,570]),(4,[567,537]),(2,[571,572]),(4,[568,538]),(2,[573,574]),(3,[569,575]),(4,[536,554]),(4,[537,554]),(4,[538,554]),(4,[566,532]),(4,[567,532]),(4,[568,532]),(2,[577,580]),(2,[578,581]),(2,[579,582]),(4,[567,538]),(4,[568,537]),(3,[586,587]),(4,[568,536]),(4,[566,538]),(3,[589,590]),(4,[566,537]),(4,[567,536]),(3,[592,593]),(2,[583,588]),(2,[584,591]),(2,[585,594]),(6,[595,546]),(6,[596,546]),(6,[597,546]),(2,[10,557]),(2,[601,564]),(2,[602,552]),(3,[547,603]),(2,[556,557]),(2,[555,550]),(3,[550,562]),(3,[552,557]),(3,[548,550]),(2,[605,607]),(2,[606,608]),(2,[560,609]),(4,[604,532]),(4,[610,536]),(2,[10,614]),(4,[611,537]),(2,[615,616]),(4,[612,538]),(2,[617,618]),(3,[613,619]),(4,[536,604]),(4,[537,604]),(4,[538,604]),(4,[610,532]),(4,[611,532]),(4,[612,532]),(2,[621,624]),(2,[622,625]),(2,[623,626]),(4,[611,538]),(4,[612,537]),(3,[630,631]),(4,[612,536]),(4,[610,538]),(3,[633,634]),(4,[610,537]),(4,[611,536]),(3,[636,637]),(2,[627,632]),(2,[628,635]),(2,[629,638]),(6,[639,546]),(6,[640,546]),(6,[641,546]),(2,[601,550]),(2,[645,562]),(3,[547,646]),(2,[555,552]),(3,[564,552]),(3,[552,548]),(3,[557,550]),(2,[605,649]),(2,[559,650]),(2,[648,651]),(4,[647,532]),(4,[652,536]),(2,[10,656]),(4,[653,537]),(2,[657,658]),(4,[654,538]),(2,[659,660]),(3,[655,661]),(4,[536,647]),(4,[537,647]),(4,[538,647]),(4,[652,532]),(4,[653,532]),(4,[654,532]),(2,[663,666]),(2,[664,667]),(2,[665,668]),(4,[653,538]),(4,[654,537]),(3,[672,673]),(4,[654,536]),(4,[652,538]),(3,[675,676]),(4,[652,537]),(4,[653,536]),(3,[678,679]),(2,[669,674]),(2,[670,677]),(2,[671,680]),(6,[681,546]),(6,[682,546]),(6,[683,546]),(2,[99,107]),(2,[687,102]),(3,[105,688]),(2,[105,98]),(2,[408,100]),(3,[100,108]),(3,[106,100]),(2,[690,692]),(2,[691,113]),(2,[411,693]),(4,[689,10]),(4,[694,118]),(2,[10,698]),(4,[695,119]),(2,[699,700]),(4,[696,119]),(2,[701,702]),(3,[697,703]),(4,[118,689]),(4,[119,689]),(4,[694,10]),(4,[695,10]),(4,[696,10]),(2,[705,707]),(2,[706,708]),(2,[706,709]),(3,[700,702]),(4,[696,118]),(4,[694,119]),(3,[714,715]),(4,[695,118]),(3,[715,717]),(2,[710,713]),(2,[711,716]),(2,[712,718]),(2,[10,704]),(2,[10,719]),(2,[16,720]),(2,[10,721]),(2,[150,157]),(2,[726,153]),(3,[105,727]),(2,[105,149]),(2,[408,151]),(3,[151,158]),(3,[156,151]),(2,[729,731]),(2,[730,163]),(2,[452,732]),(4,[728,10]),(4,[733,119]),(2,[10,737]),(4,[734,118]),(2,[738,739]),(4,[735,119]),(2,[740,741]),(3,[736,742]),(4,[119,728]),(4,[118,728]),(4,[733,10]),(4,[734,10]),(4,[735,10]),(2,[744,746]),(2,[745,747]),(2,[744,748]),(4,[734,119]),(4,[735,118]),(3,[752,753]),(3,[741,737]),(4,[733,118]),(3,[756,752]),(2,[749,754]),(2,[750,755]),(2,[751,757]),(2,[722,743]),(2,[723,758]),(2,[724,759]),(2,[725,760]),(2,[198,205]),(2,[765,201]),(3,[105,766]),(2,[105,197]),(2,[408,199]),(3,[199,206]),(3,[204,199]),(2,[768,770]),(2,[769,211]),(2,[493,771]),(4,[767,10]),(4,[772,119]),(2,[10,776]),(4,[773,119]),(2,[777,778]),(4,[774,118]),(2,[779,780]),(3,[775,781]),(4,[119,767]),(4,[118,767]),(4,[772,10]),(4,[773,10]),(4,[774,10]),(2,[783,785]),(2,[783,786]),(2,[784,787]),(4,[773,118]),(4,[774,119]),(3,[791,792]),(4,[772,118]),(3,[792,794]),(3,[776,778]),(2,[788,793]),(2,[789,795]),(2,[790,796]),(2,[761,782]),(2,[762,797]),(2,[763,798]),(2,[764,799]),(6,[800,802]),(6,[801,802]),(6,[802,802]),(6,[803,802]),(8,[0,804,805,806,807]),(8,[1,804,805,806,807]),(8,[2,804,805,806,807]),(8,[3,804,805,806,807]),(3,[10,809]),(3,[10,810]),(3,[10,811]),(4,[808,808]),(4,[809,809]),(2,[10,816]),(4,[810,810]),(2,[817,818]),(4,[811,811]),(2,[819,820]),(2,[815,821]),(4,[808,10]),(4,[809,16]),(2,[10,824]),(4,[810,10]),(2,[825,826]),(4,[811,10]),(2,[827,828]),(3,[823,829]),(4,[16,808]),(4,[10,808]),(4,[809,10]),(2,[831,833]),(2,[832,826]),(2,[832,828]),(3,[826,828]),(4,[811,16]),(3,[838,833]),(4,[810,16]),(3,[833,840]),(2,[834,837]),(2,[835,839]),(2,[836,841]),(4,[830,808]),(4,[842,812]),(2,[10,846]),(4,[843,813]),(2,[847,848]),(4,[844,814]),(2,[849,850]),(3,[845,851]),(4,[812,830]),(4,[813,830]),(4,[814,830]),(4,[842,808]),(4,[843,808]),(4,[844,808]),(2,[853,856]),(2,[854,857]),(2,[855,858]),(4,[843,814]),(4,[844,813]),(3,[862,863]),(4,[844,812]),(4,[842,814]),(3,[865,866]),(4,[842,813]),(4,[843,812]),(3,[868,869]),(2,[859,864]),(2,[860,867]),(2,[861,870]),(6,[871,822]),(6,[872,822]),(6,[873,822]),(2,[10,833]),(2,[877,840]),(2,[878,828]),(3,[823,879]),(2,[832,833]),(2,[831,826]),(3,[826,838]),(3,[828,833]),(3,[824,826]),(2,[881,883]),(2,[882,884]),(2,[836,885]),(4,[880,808]),(4,[886,812]),(2,[10,890]),(4,[887,813]),(2,[891,892]),(4,[888,814]),(2,[893,894]),(3,[889,895]),(4,[812,880]),(4,[813,880]),(4,[814,880]),(4,[886,808]),(4,[887,808]),(4,[888,808]),(2,[897,900]),(2,[898,901]),(2,[899,902]),(4,[887,814]),(4,[888,813]),(3,[906,907]),(4,[888,812]),(4,[886,814]),(3,[909,910]),(4,[886,813]),(4,[887,812]),(3,[912,913]),(2,[903,908]),(2,[904,911]),(2,[905,914]),(6,[915,822]),(6,[916,822]),(6,[917,822]),(2,[877,826]),(2,[921,838]),(3,[823,922]),(2,[831,828]),(3,[840,828]),(3,[828,824]),(3,[833,826]),(2,[881,925]),(2,[835,926]),(2,[924,927]),(4,[923,808]),(4,[928,812]),(2,[10,932]),(4,[929,813]),(2,[933,934]),(4,[930,814]),(2,[935,936]),(3,[931,937]),(4,[812,923]),(4,[813,923]),(4,[814,923]),(4,[928,808]),(4,[929,808]),(4,[930,808]),(2,[939,942]),(2,[940,943]),(2,[941,944]),(4,[929,814]),(4,[930,813]),(3,[948,949]),(4,[930,812]),(4,[928,814]),(3,[951,952]),(4,[928,813]),(4,[929,812]),(3,[954,955]),(2,[945,950]),(2,[946,953]),(2,[947,956]),(6,[957,822]),(6,[958,822]),(6,[959,822]),(2,[101,108]),(3,[105,963]),(2,[408,102]),(3,[107,102]),(3,[102,106]),(2,[690,966]),(2,[410,967]),(2,[965,114]),(4,[964,10]),(4,[968,118]),(2,[10,972]),(4,[969,119]),(2,[973,974]),(4,[970,119]),(2,[975,976]),(3,[971,977]),(4,[118,964]),(4,[119,964]),(4,[968,10]),(4,[969,10]),(4,[970,10]),(2,[979,981]),(2,[980,982]),(2,[980,983]),(3,[974,976]),(4,[970,118]),(4,[968,119]),(3,[988,989]),(4,[969,118]),(3,[989,991]),(2,[984,987]),(2,[985,990]),(2,[986,992]),(2,[10,978]),(2,[10,993]),(2,[10,994]),(2,[16,995]),(2,[152,158]),(3,[105,1000]),(2,[408,153]),(3,[157,153]),(3,[153,156]),(2,[729,1003]),(2,[451,1004]),(2,[1002,164]),(4,[1001,10]),(4,[1005,119]),(2,[10,1009]),(4,[1006,118]),(2,[1010,1011]),(4,[1007,119]),(2,[1012,1013]),(3,[1008,1014]),(4,[119,1001]),(4,[118,1001]),(4,[1005,10]),(4,[1006,10]),(4,[1007,10]),(2,[1016,1018]),(2,[1017,1019]),(2,[1016,1020]),(4,[1006,119]),(4,[1007,118]),(3,[1024,1025]),(3,[1013,1009]),(4,[1005,118]),(3,[1028,1024]),(2,[1021,1026]),(2,[1022,1027]),(2,[1023,1029]),(2,[996,1015]),(2,[997,1030]),(2,[998,1031]),(2,[999,1032]),(2,[200,206]),(3,[105,1037]),(2,[408,201]),(3,[205,201]),(3,[201,204]),(2,[768,1040]),(2,[492,1041]),(2,[1039,212]),(4,[1038,10]),(4,[1042,119]),(2,[10,1046]),(4,[1043,119]),(2,[1047,1048]),(4,[1044,118]),(2,[1049,1050]),(3,[1045,1051]),(4,[119,1038]),(4,[118,1038]),(4,[1042,10]),(4,[1043,10]),(4,[1044,10]),(2,[1053,1055]),(2,[1053,1056]),(2,[1054,1057]),(4,[1043,118]),(4,[1044,119]),(3,[1061,1062]),(4,[1042,118]),(3,[1062,1064]),(3,[1046,1048]),(2,[1058,1063]),(2,[1059,1065]),(2,[1060,1066]),(2,[1033,1052]),(2,[1034,1067]),(2,[1035,1068]),(2,[1036,1069]),(6,[1070,1073]),(6,[1071,1073]),(6,[1072,1073]),(6,[1073,1073]),(8,[0,1074,1075,1076,1077]),(8,[1,1074,1075,1076,1077]),(8,[2,1074,1075,1076,1077]),(8,[3,1074,1075,1076,1077]),(3,[10,1079]),(3,[10,1080]),(3,[10,1081]),(4,[1078,1078]),(4,[1079,1079]),(2,[10,1086]),(4,[1080,1080]),(2,[1087,1088]),(4,[1081,1081]),(2,[1089,1090]),(2,[1085,1091]),(4,[1078,10]),(4,[1079,16]),(2,[10,1094]),(4,[1080,10]),(2,[1095,1096]),(4,[1081,10]),(2,[1097,1098]),(3,[1093,1099]),(4,[16,1078]),(4,[10,1078]),(4,[1079,10]),(2,[1101,1103]),(2,[1102,1096]),(2,[1102,1098]),(3,[1096,1098]),(4,[1081,16]),(3,[1108,1103]),(4,[1080,16]),(3,[1103,1110]),(2,[1104,1107]),(2,[1105,1109]),(2,[1106,1111]),(4,[1100,1078]),(4,[1112,1082]),(2,[10,1116]),(4,[1113,1083]),(2,[1117,1118]),(4,[1114,1084]),(2,[1119,1120]),(3,[1115,1121]),(4,[1082,1100]),(4,[1083,1100]),(4,[1084,1100]),(4,[1112,1078]),(4,[1113,1078]),(4,[1114,1078]),(2,[1123,1126]),(2,[1124,1127]),(2,[1125,1128]),(4,[1113,1084]),(4,[1114,1083]),(3,[1132,1133]),(4,[1114,1082]),(4,[1112,1084]),(3,[1135,1136]),(4,[1112,1083]),(4,[1113,1082]),(3,[1138,1139]),(2,[1129,1134]),(2,[1130,1137]),(2,[1131,1140]),(6,[1141,1092]),(6,[1142,1092]),(6,[1143,1092]),(2,[10,1103]),(2,[1147,1110]),(2,[1148,1098]),(3,[1093,1149]),(2,[1102,1103]),(2,[1101,1096]),(3,[1096,1108]),(3,[1098,1103]),(3,[1094,1096]),(2,[1151,1153]),(2,[1152,1154]),(2,[1106,1155]),(4,[1150,1078]),(4,[1156,1082]),(2,[10,1160]),(4,[1157,1083]),(2,[1161,1162]),(4,[1158,1084]),(2,[1163,1164]),(3,[1159,1165]),(4,[1082,1150]),(4,[1083,1150]),(4,[1084,1150]),(4,[1156,1078]),(4,[1157,1078]),(4,[1158,1078]),(2,[1167,1170]),(2,[1168,1171]),(2,[1169,1172]),(4,[1157,1084]),(4,[1158,1083]),(3,[1176,1177]),(4,[1158,1082]),(4,[1156,1084]),(3,[1179,1180]),(4,[1156,1083]),(4,[1157,1082]),(3,[1182,1183]),(2,[1173,1178]),(2,[1174,1181]),(2,[1175,1184]),(6,[1185,1092]),(6,[1186,1092]),(6,[1187,1092]),(2,[1147,1096]),(2,[1191,1108]),(3,[1093,1192]),(2,[1101,1098]),(3,[1110,1098]),(3,[1098,1094]),(3,[1103,1096]),(2,[1151,1195]),(2,[1105,1196]),(2,[1194,1197]),(4,[1193,1078]),(4,[1198,1082]),(2,[10,1202]),(4,[1199,1083]),(2,[1203,1204]),(4,[1200,1084]),(2,[1205,1206]),(3,[1201,1207]),(4,[1082,1193]),(4,[1083,1193]),(4,[1084,1193]),(4,[1198,1078]),(4,[1199,1078]),(4,[1200,1078]),(2,[1209,1212]),(2,[1210,1213]),(2,[1211,1214]),(4,[1199,1084]),(4,[1200,1083]),(3,[1218,1219]),(4,[1200,1082]),(4,[1198,1084]),(3,[1221,1222]),(4,[1198,1083]),(4,[1199,1082]),(3,[1224,1225]),(2,[1215,1220]),(2,[1216,1223]),(2,[1217,1226]),(6,[1227,1092]),(6,[1228,1092]),(6,[1229,1092])]
def Ya : List (List Nat × Nat) := []
def Yg : List (List Nat × Nat) := []
def Yb : List Nat := [3495260,3495260,3495260,3495260,3495260,3495260,3495260,3495260,3495260,6990519,1,6990521,6990519,13981041,6990519,20971561,1,20971563,6990519,6990519,13981038,17476297,6990519,6990519,13981038,17476297,17476297,6990519,6990519,13981038,17476297,27962076,31457337,13981038,20971558,6990519,6990521,6990519,13981041,6990519,20971561,13981038,20971558,6990519,6990521,6990519,13981041,6990519,20971561,20971563,6990519,6990519,6990519,13981038,20971558,6990519,6990519,6990519,13981038,20971558,13981038,20971558,6990519,6990521,6990519,13981041,6990519,20971561,13981038,20971558,6990519,6990521,6990519,13981041,6990519,20971561,20971563,6990519,6990519,6990519,13981038,20971558,6990519,6990519,6990519,13981038,20971558,13981038,20971558,6990521,13981041,20971561,13981038,17476299,17476297,27962078,31457339,2,3495260,3495262,3495260,6990523,3495260,10485784,10485786,2,3495260,3495260,3495260,3495263,3495263,3495263,6990521,6990521,6990521,10485783,10485783,10485783,3,3,10485787,10485786,10485788,10485786,10485790,10485786,10485792,10485794,10485789,10485789,10485784,10485784,10485784,10485791,10485791,10485791,10485788,10485786,10485786,10485788,10485786,10485788,10485793,10485793,10485793,10485796,10485795,10485795,10485795,3495260,3495262,3495260,6990523,3495260,10485784,10485786,3495260,3495260,3495260,3495263,3495263,3495263,6990521,6990521,6990521,10485783,10485783,10485783,10485787,10485786,10485788,10485786,10485790,10485786,10485792,10485794,10485789,10485789,10485784,10485784,10485784,10485791,10485791,10485791,10485786,10485786,10485788,10485788,10485786,10485788,10485793,10485793,10485793,20971575,20971574,20971574,20971574,3495260,3495262,3495260,6990523,3495260,10485784,10485786,3495260,3495260,3495260,3495263,3495263,3495263,6990521,6990521,6990521,10485783,10485783,10485783,10485787,10485786,10485788,10485786,10485790,10485786,10485792,10485794,10485789,10485789,10485784,10485784,10485784,10485791,10485791,10485791,10485786,10485786,10485788,10485786,10485788,10485788,10485793,10485793,10485793,31457354,31457353,31457353,31457353,31457355,31457355,31457355,31457355,31457356,31457355,31457355,31457355,31457357,31457357,31457357,62914712,62914710,62914712,62914710,62914714,62914710,62914716,62914718,31457357,31457356,31457358,31457356,31457360,31457356,31457362,31457364,31457357,31457357,31457356,31457359,31457359,31457359,31457358,31457356,31457358,31457356,31457358,31457361,31457361,31457361,62914720,62914718,62914720,62914718,62914722,62914718,62914724,62914726,62914721,62914721,62914721,62914717,62914717,62914717,62914723,62914723,62914723,62914718,62914718,62914720,62914718,62914718,62914720,62914718,62914718,62914720,62914725,62914725,62914725,62914726,62914726,62914726,31457358,31457360,31457362,31457364,31457359,31457359,31457358,31457358,31457358,31457361,31457361,31457361,62914720,62914718,62914720,62914718,62914722,62914718,62914724,62914726,62914721,62914721,62914721,62914717,62914717,62914717,62914723,62914723,62914723,62914718,62914718,62914720,62914718,62914718,62914720,62914718,62914718,62914720,62914725,62914725,62914725,62914726,62914726,62914726,31457360,31457362,31457364,31457359,31457358,31457358,31457358,31457361,31457361,31457361,62914720,62914718,62914720,62914718,62914722,62914718,62914724,62914726,62914721,62914721,62914721,62914717,62914717,62914717,62914723,62914723,62914723,62914718,62914718,62914720,62914718,62914718,62914720,62914718,62914718,62914720,62914725,62914725,62914725,62914726,62914726,62914726,3495262,6990523,10485784,10485786,2,3495263,3495263,3495263,6990521,6990521,10485783,10485783,10485783,10485787,10485786,10485788,10485786,10485790,10485786,10485792,10485794,10485789,10485789,10485784,10485784,10485784,10485791,10485791,10485791,10485788,10485786,10485786,10485788,10485786,10485788,10485793,10485793,10485793,10485796,10485795,10485795,10485795,3495262,6990523,10485784,10485786,3495263,3495263,3495263,6990521,6990521,10485783,10485783,10485783,10485787,10485786,10485788,10485786,10485790,10485786,10485792,10485794,10485789,10485789,10485784,10485784,10485784,10485791,10485791,10485791,10485786,10485786,10485788,10485788,10485786,10485788,10485793,10485793,10485793,20971575,20971574,20971574,20971574,3495262,6990523,10485784,10485786,3495263,3495263,3495263,6990521,6990521,10485783,10485783,10485783,10485787,10485786,10485788,10485786,10485790,10485786,10485792,10485794,10485789,10485789,10485784,10485784,10485784,10485791,10485791,10485791,10485786,10485786,10485788,10485786,10485788,10485788,10485793,10485793,10485793,31457354,31457353,31457353,31457353,31457355,31457354,31457354,31457354,31457356,31457355,31457355,31457355,31457357,31457357,31457357,62914712,62914710,62914712,62914710,62914714,62914710,62914716,62914718,31457357,31457356,31457358,31457356,31457360,31457356,31457362,31457364,31457357,31457357,31457356,31457359,31457359,31457359,31457358,31457356,31457358,31457356,31457358,31457361,31457361,31457361,62914720,62914718,62914720,62914718,62914722,62914718,62914724,62914726,62914721,62914721,62914721,62914717,62914717,62914717,62914723,62914723,62914723,62914718,62914718,62914720,62914718,62914718,62914720,62914718,62914718,62914720,62914725,62914725,62914725,62914726,62914726,62914726,31457358,31457360,31457362,31457364,31457359,31457359,31457358,31457358,31457358,31457361,31457361,31457361,62914720,62914718,62914720,62914718,62914722,62914718,62914724,62914726,62914721,62914721,62914721,62914717,62914717,62914717,62914723,62914723,62914723,62914718,62914718,62914720,62914718,62914718,62914720,62914718,62914718,62914720,62914725,62914725,62914725,62914726,62914726,62914726,31457360,31457362,31457364,31457359,31457358,31457358,31457358,31457361,31457361,31457361,62914720,62914718,62914720,62914718,62914722,62914718,62914724,62914726,62914721,62914721,62914721,62914717,62914717,62914717,62914723,62914723,62914723,62914718,62914718,62914720,62914718,62914718,62914720,62914718,62914718,62914720,62914725,62914725,62914725,62914726,62914726,62914726,6990523,10485784,10485786,3495263,3495263,6990521,6990521,10485783,10485783,10485783,10485787,10485786,10485788,10485786,10485790,10485786,10485792,10485794,10485789,10485789,10485784,10485784,10485784,10485791,10485791,10485791,10485788,10485786,10485786,10485788,10485786,10485788,10485793,10485793,10485793,10485796,10485795,10485795,10485795,6990523,10485784,10485786,3495263,3495263,6990521,6990521,10485783,10485783,10485783,10485787,10485786,10485788,10485786,10485790,10485786,10485792,10485794,10485789,10485789,10485784,10485784,10485784,10485791,10485791,10485791,10485786,10485786,10485788,10485788,10485786,10485788,10485793,10485793,10485793,20971575,20971574,20971574,20971574,6990523,10485784,10485786,3495263,3495263,6990521,6990521,10485783,10485783,10485783,10485787,10485786,10485788,10485786,10485790,10485786,10485792,10485794,10485789,10485789,10485784,10485784,10485784,10485791,10485791,10485791,10485786,10485786,10485788,10485786,10485788,10485788,10485793,10485793,10485793,31457354,31457353,31457353,31457353,31457355,31457354,31457354,31457354,31457356,31457355,31457355,31457355,31457357,31457357,31457357,62914712,62914710,62914712,62914710,62914714,62914710,62914716,62914718,31457357,31457356,31457358,31457356,31457360,31457356,31457362,31457364,31457357,31457357,31457356,31457359,31457359,31457359,31457358,31457356,31457358,31457356,31457358,31457361,31457361,31457361,62914720,62914718,62914720,62914718,62914722,62914718,62914724,62914726,62914721,62914721,62914721,62914717,62914717,62914717,62914723,62914723,62914723,62914718,62914718,62914720,62914718,62914718,62914720,62914718,62914718,62914720,62914725,62914725,62914725,62914726,62914726,62914726,31457358,31457360,31457362,31457364,31457359,31457359,31457358,31457358,31457358,31457361,31457361,31457361,62914720,62914718,62914720,62914718,62914722,62914718,62914724,62914726,62914721,62914721,62914721,62914717,62914717,62914717,62914723,62914723,62914723,62914718,62914718,62914720,62914718,62914718,62914720,62914718,62914718,62914720,62914725,62914725,62914725,62914726,62914726,62914726,31457360,31457362,31457364,31457359,31457358,31457358,31457358,31457361,31457361,31457361,62914720,62914718,62914720,62914718,62914722,62914718,62914724,62914726,62914721,62914721,62914721,62914717,62914717,62914717,62914723,62914723,62914723,62914718,62914718,62914720,62914718,62914718,62914720,62914718,62914718,62914720,62914725,62914725,62914725,62914726,62914726,62914726,10485784,10485786,3495263,6990521,6990521,10485783,10485783,10485783,10485787,10485786,10485788,10485786,10485790,10485786,10485792,10485794,10485789,10485789,10485784,10485784,10485784,10485791,10485791,10485791,10485788,10485786,10485786,10485788,10485786,10485788,10485793,10485793,10485793,10485796,10485795,10485795,10485795,10485784,10485786,3495263,6990521,6990521,10485783,10485783,10485783,10485787,10485786,10485788,10485786,10485790,10485786,10485792,10485794,10485789,10485789,10485784,10485784,10485784,10485791,10485791,10485791,10485786,10485786,10485788,10485788,10485786,10485788,10485793,10485793,10485793,20971575,20971574,20971574,20971574,10485784,10485786,3495263,6990521,6990521,10485783,10485783,10485783,10485787,10485786,10485788,10485786,10485790,10485786,10485792,10485794,10485789,10485789,10485784,10485784,10485784,10485791,10485791,10485791,10485786,10485786,10485788,10485786,10485788,10485788,10485793,10485793,10485793,31457354,31457353,31457353,31457353,31457355,31457354,31457354,31457354,31457356,31457355,31457355,31457355,31457357,31457357,31457357,62914712,62914710,62914712,62914710,62914714,62914710,62914716,62914718,31457357,31457356,31457358,31457356,31457360,31457356,31457362,31457364,31457357,31457357,31457356,31457359,31457359,31457359,31457358,31457356,31457358,31457356,31457358,31457361,31457361,31457361,62914720,62914718,62914720,62914718,62914722,62914718,62914724,62914726,62914721,62914721,62914721,62914717,62914717,62914717,62914723,62914723,62914723,62914718,62914718,62914720,62914718,62914718,62914720,62914718,62914718,62914720,62914725,62914725,62914725,62914726,62914726,62914726,31457358,31457360,31457362,31457364,31457359,31457359,31457358,31457358,31457358,31457361,31457361,31457361,62914720,62914718,62914720,62914718,62914722,62914718,62914724,62914726,62914721,62914721,62914721,62914717,62914717,62914717,62914723,62914723,62914723,62914718,62914718,62914720,62914718,62914718,62914720,62914718,62914718,62914720,62914725,62914725,62914725,62914726,62914726,62914726,31457360,31457362,31457364,31457359,31457358,31457358,31457358,31457361,31457361,31457361,62914720,62914718,62914720,62914718,62914722,62914718,62914724,62914726,62914721,62914721,62914721,62914717,62914717,62914717,62914723,62914723,62914723,62914718,62914718,62914720,62914718,62914718,62914720,62914718,62914718,62914720,62914725,62914725,62914725,62914726,62914726,62914726]
def qO_D0 : List Atm := [(0,0),(0,0)]
def qO_D1 : List Atm := [(0,0),(0,0),(0,1),(0,1)]
def qO_D2 : List Atm := [(0,0),(0,0),(0,1),(0,1),(0,2),(0,2)]
def qO_D3 : List Atm := [(0,0),(0,4),(0,5),(0,7),(0,8)]
def qO_D4 : List Atm := [(0,3),(0,5),(0,6),(0,8)]
def qO_D5 : List Atm := [(0,1),(0,3),(0,5),(0,6),(0,8)]
def AX : List Atm := [(0,3),(0,4),(0,6),(0,7)]
def qO_D7 : List Atm := [(0,0),(0,1),(0,3),(0,4),(0,5),(0,6),(0,7),(0,8)]
def UR : List Atm := [(0,0),(0,1),(0,2),(0,3),(0,4),(0,5),(0,6),(0,7),(0,8)]
def GX : List Atm := [(0,0),(0,3)]
def RP : List Atm := [(0,1),(0,4)]
def Lq : List Atm := [(0,0),(0,1),(0,3),(0,4)]
def RX : List Atm := [(0,2),(0,5)]
def Lz : List Atm := [(0,0),(0,1),(0,2),(0,3),(0,4),(0,5)]
def qO_D14 : List Atm := [(0,3),(0,3)]
def qO_D15 : List Atm := [(0,3),(0,3),(0,4),(0,4)]
def Lw : List Atm := [(0,3),(0,3),(0,4),(0,4),(0,5),(0,5)]
def PC : List Atm := [(0,0),(0,6)]
def FW : List Atm := [(0,1),(0,7)]
def DW : List Atm := [(0,2),(0,8)]
def Hg : List Atm := [(0,0),(0,1),(0,6),(0,7)]
def Lg : List Atm := [(0,0),(0,1),(0,2),(0,6),(0,7),(0,8)]
def Px : List Atm := [(0,3),(0,6)]
def FZ : List Atm := [(0,4),(0,7)]
def Fk : List Atm := [(0,5),(0,8)]
def LD : List Atm := [(0,3),(0,4),(0,5),(0,6),(0,7),(0,8)]
def qO_D26 : List Atm := [(0,6),(0,6)]
def qO_D27 : List Atm := [(0,6),(0,6),(0,7),(0,7)]
def LB : List Atm := [(0,6),(0,6),(0,7),(0,7),(0,8),(0,8)]
def Qq : List Atm := [(0,0),(0,3),(0,6)]
def Qs : List Atm := [(0,1),(0,4),(0,7)]
def YV : List Atm := [(0,0),(0,1),(0,3),(0,4),(0,6),(0,7)]
def Qt : List Atm := [(0,2),(0,5),(0,8)]
def qO_E : List (Nat × List Atm) := [(3495259,[(0,0)]),(3495259,[(0,1)]),(3495259,[(0,2)]),(3495259,[(0,3)]),(3495259,[(0,4)]),(3495259,[(0,5)]),(3495259,[(0,6)]),(3495259,[(0,7)]),(3495259,[(0,8)]),(6990518,qO_D0),(1,[]),(6990521,qO_D0),(6990518,[(0,1),(0,1)]),(13981041,qO_D1),(6990518,[(0,2),(0,2)]),(20971561,qO_D2),(1,[]),(20971563,qO_D2),(6990518,[(0,4),(0,8)]),(6990518,[(0,5),(0,7)]),(13981038,[(0,4),(0,5),(0,7),(0,8)]),(17476297,qO_D3),(6990518,[(0,3),(0,8)]),(6990518,[(0,5),(0,6)]),(13981038,qO_D4),(17476297,qO_D5),(17476297,qO_D5),(6990518,[(0,3),(0,7)]),(6990518,[(0,4),(0,6)]),(13981038,AX),(17476297,[(0,2),(0,3),(0,4),(0,6),(0,7)]),(27962076,qO_D7),(31457337,UR),(13981038,qO_D1),(20971558,qO_D2),(6990518,GX),(6990521,GX),(6990518,RP),(13981041,Lq),(6990518,RX),(20971561,Lz),(13981038,Lq),(20971558,Lz),(6990518,qO_D14),(6990521,qO_D14),(6990518,[(0,4),(0,4)]),(13981041,qO_D15),(6990518,[(0,5),(0,5)]),(20971561,Lw),(20971563,Lw),(6990518,PC),(6990518,FW),(6990518,DW),(13981038,Hg),(20971558,Lg),(6990518,GX),(6990518,RP),(6990518,RX),(13981038,Lq),(20971558,Lz),(13981038,qO_D15),(20971558,Lw),(6990518,Px),(6990521,Px),(6990518,FZ),(13981041,AX),(6990518,Fk),(20971561,LD),(13981038,AX),(20971558,LD),(6990518,qO_D26),(6990521,qO_D26),(6990518,[(0,7),(0,7)]),(13981041,qO_D27),(6990518,[(0,8),(0,8)]),(20971561,LB),(20971563,LB),(6990518,PC),(6990518,FW),(6990518,DW),(13981038,Hg),(20971558,Lg),(6990518,Px),(6990518,FZ),(6990518,Fk),(13981038,AX),(20971558,LD),(13981038,qO_D27),(20971558,LB),(6990521,PC),(13981041,Hg),(20971561,Lg),(13981038,qO_D4),(17476299,qO_D3),(17476297,qO_D5),(27962078,qO_D7),(31457339,UR),(2,[]),(3495260,[(0,0)]),(3495262,[(0,0)]),(3495260,[(0,3)]),(6990523,GX),(3495260,[(0,6)]),(10485784,Qq),(10485786,Qq),(2,[]),(3495260,[(0,0)]),(3495260,[(0,3)]),(3495260,[(0,6)]),(3495263,[(0,0)]),(3495263,[(0,3)]),(3495263,[(0,6)]),(6990521,Px),(6990521,PC),(6990521,GX),(10485783,Qq),(10485783,Qq),(10485783,Qq),(3,[]),(3,[]),(10485787,Qq),(10485786,Qq),(10485788,Qq),(10485786,Qq),(10485790,Qq),(10485786,Qq),(10485792,Qq),(10485794,Qq),(10485789,Qq),(10485789,Qq),(10485784,Qq),(10485784,Qq),(10485784,Qq),(10485791,Qq),(10485791,Qq),(10485791,Qq),(10485788,Qq),(10485786,Qq),(10485786,Qq),(10485788,Qq),(10485786,Qq),(10485788,Qq),(10485793,Qq),(10485793,Qq),(10485793,Qq),(10485796,Qq),(10485795,Qq),(10485795,Qq),(10485795,Qq),(3495260,[(0,1)]),(3495262,[(0,1)]),(3495260,[(0,4)]),(6990523,RP),(3495260,[(0,7)]),(10485784,Qs),(10485786,Qs),(3495260,[(0,1)]),(3495260,[(0,4)]),(3495260,[(0,7)]),(3495263,[(0,1)]),(3495263,[(0,4)]),(3495263,[(0,7)]),(6990521,FZ),(6990521,FW),(6990521,RP),(10485783,Qs),(10485783,Qs),(10485783,Qs),(10485787,Qs),(10485786,Qs),(10485788,Qs),(10485786,Qs),(10485790,Qs),(10485786,Qs),(10485792,Qs),(10485794,Qs),(10485789,Qs),(10485789,Qs),(10485784,Qs),(10485784,Qs),(10485784,Qs),(10485791,Qs),(10485791,Qs),(10485791,Qs),(10485786,Qs),(10485786,Qs),(10485788,Qs),(10485788,Qs),(10485786,Qs),(10485788,Qs),(10485793,Qs),(10485793,Qs),(10485793,Qs),(20971575,YV),(20971574,YV),(20971574,YV),(20971574,YV),(3495260,[(0,2)]),(3495262,[(0,2)]),(3495260,[(0,5)]),(6990523,RX),(3495260,[(0,8)]),(10485784,Qt),(10485786,Qt),(3495260,[(0,2)]),(3495260,[(0,5)]),(3495260,[(0,8)]),(3495263,[(0,2)]),(3495263,[(0,5)]),(3495263,[(0,8)]),(6990521,Fk),(6990521,DW),(6990521,RX),(10485783,Qt),(10485783,Qt),(10485783,Qt),(10485787,Qt),(10485786,Qt),(10485788,Qt),(10485786,Qt),(10485790,Qt),(10485786,Qt),(10485792,Qt),(10485794,Qt),(10485789,Qt),(10485789,Qt),(10485784,Qt),(10485784,Qt),(10485784,Qt),(10485791,Qt),(10485791,Qt),(10485791,Qt),(10485786,Qt),(10485786,Qt),(10485788,Qt),(10485786,Qt),(10485788,Qt),(10485788,Qt),(10485793,Qt),(10485793,Qt),(10485793,Qt),(31457354,UR),(31457353,UR),(31457353,UR),(31457353,UR),(31457355,[(1,241)]),(31457354,[(1,241)]),(31457354,[(1,241)]),(31457354,[(1,241)]),(31457356,[]),(31457355,[]),(31457355,[]),(31457355,[]),(31457357,[]),(31457357,[]),(31457357,[]),(62914712,[]),(62914710,[]),(62914712,[]),(62914710,[]),(62914714,[]),(62914710,[]),(62914716,[]),(62914718,[]),(31457357,[]),(31457356,[]),(31457358,[]),(31457356,[]),(31457360,[]),(31457356,[]),(31457362,[]),(31457364,[]),(31457357,[]),(31457357,[]),(31457356,[]),(31457359,[]),(31457359,[]),(31457359,[]),(31457358,[]),(31457356,[]),(31457358,[]),(31457356,[]),(31457358,[]),(31457361,[]),(31457361,[]),(31457361,[]),(62914720,[]),(62914718,[]),(62914720,[]),(62914718,[]),(62914722,[]),(62914718,[]),(62914724,[]),(62914726,[]),(62914721,[]),(62914721,[]),(62914721,[]),(62914717,[]),(62914717,[]),(62914717,[]),(62914723,[]),(62914723,[]),(62914723,[]),(62914718,[]),(62914718,[]),(62914720,[]),(62914718,[]),(62914718,[]),(62914720,[]),(62914718,[]),(62914718,[]),(62914720,[]),(62914725,[]),(62914725,[]),(62914725,[]),(62914726,[(1,263)]),(62914726,[(1,263)]),(62914726,[(1,263)]),(31457358,[]),(31457360,[]),(31457362,[]),(31457364,[]),(31457359,[]),(31457359,[]),(31457358,[]),(31457358,[]),(31457358,[]),(31457361,[]),(31457361,[]),(31457361,[]),(62914720,[]),(62914718,[]),(62914720,[]),(62914718,[]),(62914722,[]),(62914718,[]),(62914724,[]),(62914726,[]),(62914721,[]),(62914721,[]),(62914721,[]),(62914717,[]),(62914717,[]),(62914717,[]),(62914723,[]),(62914723,[]),(62914723,[]),(62914718,[]),(62914718,[]),(62914720,[]),(62914718,[]),(62914718,[]),(62914720,[]),(62914718,[]),(62914718,[]),(62914720,[]),(62914725,[]),(62914725,[]),(62914725,[]),(62914726,[(1,263)]),(62914726,[(1,263)]),(62914726,[(1,263)]),(31457360,[]),(31457362,[]),(31457364,[]),(31457359,[]),(31457358,[]),(31457358,[]),(31457358,[]),(31457361,[]),(31457361,[]),(31457361,[]),(62914720,[]),(62914718,[]),(62914720,[]),(62914718,[]),(62914722,[]),(62914718,[]),(62914724,[]),(62914726,[]),(62914721,[]),(62914721,[]),(62914721,[]),(62914717,[]),(62914717,[]),(62914717,[]),(62914723,[]),(62914723,[]),(62914723,[]),(62914718,[]),(62914718,[]),(62914720,[]),(62914718,[]),(62914718,[]),(62914720,[]),(62914718,[]),(62914718,[]),(62914720,[]),(62914725,[]),(62914725,[]),(62914725,[]),(62914726,[(1,263)]),(62914726,[(1,263)]),(62914726,[(1,263)]),(3495262,[(0,0)]),(6990523,GX),(10485784,Qq),(10485786,Qq),(2,[]),(3495263,[(0,0)]),(3495263,[(0,3)]),(3495263,[(0,6)]),(6990521,PC),(6990521,GX),(10485783,Qq),(10485783,Qq),(10485783,Qq),(10485787,Qq),(10485786,Qq),(10485788,Qq),(10485786,Qq),(10485790,Qq),(10485786,Qq),(10485792,Qq),(10485794,Qq),(10485789,Qq),(10485789,Qq),(10485784,Qq),(10485784,Qq),(10485784,Qq),(10485791,Qq),(10485791,Qq),(10485791,Qq),(10485788,Qq),(10485786,Qq),(10485786,Qq),(10485788,Qq),(10485786,Qq),(10485788,Qq),(10485793,Qq),(10485793,Qq),(10485793,Qq),(10485796,Qq),(10485795,Qq),(10485795,Qq),(10485795,Qq),(3495262,[(0,1)]),(6990523,RP),(10485784,Qs),(10485786,Qs),(3495263,[(0,1)]),(3495263,[(0,4)]),(3495263,[(0,7)]),(6990521,FW),(6990521,RP),(10485783,Qs),(10485783,Qs),(10485783,Qs),(10485787,Qs),(10485786,Qs),(10485788,Qs),(10485786,Qs),(10485790,Qs),(10485786,Qs),(10485792,Qs),(10485794,Qs),(10485789,Qs),(10485789,Qs),(10485784,Qs),(10485784,Qs),(10485784,Qs),(10485791,Qs),(10485791,Qs),(10485791,Qs),(10485786,Qs),(10485786,Qs),(10485788,Qs),(10485788,Qs),(10485786,Qs),(10485788,Qs),(10485793,Qs),(10485793,Qs),(10485793,Qs),(20971575,YV),(20971574,YV),(20971574,YV),(20971574,YV),(3495262,[(0,2)]),(6990523,RX),(10485784,Qt),(10485786,Qt),(3495263,[(0,2)]),(3495263,[(0,5)]),(3495263,[(0,8)]),(6990521,DW),(6990521,RX),(10485783,Qt),(10485783,Qt),(10485783,Qt),(10485787,Qt),(10485786,Qt),(10485788,Qt),(10485786,Qt),(10485790,Qt),(10485786,Qt),(10485792,Qt),(10485794,Qt),(10485789,Qt),(10485789,Qt),(10485784,Qt),(10485784,Qt),(10485784,Qt),(10485791,Qt),(10485791,Qt),(10485791,Qt),(10485786,Qt),(10485786,Qt),(10485788,Qt),(10485786,Qt),(10485788,Qt),(10485788,Qt),(10485793,Qt),(10485793,Qt),(10485793,Qt),(31457354,UR),(31457353,UR),(31457353,UR),(31457353,UR),(31457355,[(1,525)]),(31457354,[(1,525)]),(31457354,[(1,525)]),(31457354,[(1,525)]),(31457356,[]),(31457355,[]),(31457355,[]),(31457355,[]),(31457357,[]),(31457357,[]),(31457357,[]),(62914712,[]),(62914710,[]),(62914712,[]),(62914710,[]),(62914714,[]),(62914710,[]),(62914716,[]),(62914718,[]),(31457357,[]),(31457356,[]),(31457358,[]),(31457356,[]),(31457360,[]),(31457356,[]),(31457362,[]),(31457364,[]),(31457357,[]),(31457357,[]),(31457356,[]),(31457359,[]),(31457359,[]),(31457359,[]),(31457358,[]),(31457356,[]),(31457358,[]),(31457356,[]),(31457358,[]),(31457361,[]),(31457361,[]),(31457361,[]),(62914720,[]),(62914718,[]),(62914720,[]),(62914718,[]),(62914722,[]),(62914718,[]),(62914724,[]),(62914726,[]),(62914721,[]),(62914721,[]),(62914721,[]),(62914717,[]),(62914717,[]),(62914717,[]),(62914723,[]),(62914723,[]),(62914723,[]),(62914718,[]),(62914718,[]),(62914720,[]),(62914718,[]),(62914718,[]),(62914720,[]),(62914718,[]),(62914718,[]),(62914720,[]),(62914725,[]),(62914725,[]),(62914725,[]),(62914726,[(1,546)]),(62914726,[(1,546)]),(62914726,[(1,546)]),(31457358,[]),(31457360,[]),(31457362,[]),(31457364,[]),(31457359,[]),(31457359,[]),(31457358,[]),(31457358,[]),(31457358,[]),(31457361,[]),(31457361,[]),(31457361,[]),(62914720,[]),(62914718,[]),(62914720,[]),(62914718,[]),(62914722,[]),(62914718,[]),(62914724,[]),(62914726,[]),(62914721,[]),(62914721,[]),(62914721,[]),(62914717,[]),(62914717,[]),(62914717,[]),(62914723,[]),(62914723,[]),(62914723,[]),(62914718,[]),(62914718,[]),(62914720,[]),(62914718,[]),(62914718,[]),(62914720,[]),(62914718,[]),(62914718,[]),(62914720,[]),(62914725,[]),(62914725,[]),(62914725,[]),(62914726,[(1,546)]),(62914726,[(1,546)]),(62914726,[(1,546)]),(31457360,[]),(31457362,[]),(31457364,[]),(31457359,[]),(31457358,[]),(31457358,[]),(31457358,[]),(31457361,[]),(31457361,[]),(31457361,[]),(62914720,[]),(62914718,[]),(62914720,[]),(62914718,[]),(62914722,[]),(62914718,[]),(62914724,[]),(62914726,[]),(62914721,[]),(62914721,[]),(62914721,[]),(62914717,[]),(62914717,[]),(62914717,[]),(62914723,[]),(62914723,[]),(62914723,[]),(62914718,[]),(62914718,[]),(62914720,[]),(62914718,[]),(62914718,[]),(62914720,[]),(62914718,[]),(62914718,[]),(62914720,[]),(62914725,[]),(62914725,[]),(62914725,[]),(62914726,[(1,546)]),(62914726,[(1,546)]),(62914726,[(1,546)]),(6990523,GX),(10485784,Qq),(10485786,Qq),(3495263,[(0,0)]),(3495263,[(0,3)]),(6990521,Px),(6990521,GX),(10485783,Qq),(10485783,Qq),(10485783,Qq),(10485787,Qq),(10485786,Qq),(10485788,Qq),(10485786,Qq),(10485790,Qq),(10485786,Qq),(10485792,Qq),(10485794,Qq),(10485789,Qq),(10485789,Qq),(10485784,Qq),(10485784,Qq),(10485784,Qq),(10485791,Qq),(10485791,Qq),(10485791,Qq),(10485788,Qq),(10485786,Qq),(10485786,Qq),(10485788,Qq),(10485786,Qq),(10485788,Qq),(10485793,Qq),(10485793,Qq),(10485793,Qq),(10485796,Qq),(10485795,Qq),(10485795,Qq),(10485795,Qq),(6990523,RP),(10485784,Qs),(10485786,Qs),(3495263,[(0,1)]),(3495263,[(0,4)]),(6990521,FZ),(6990521,RP),(10485783,Qs),(10485783,Qs),(10485783,Qs),(10485787,Qs),(10485786,Qs),(10485788,Qs),(10485786,Qs),(10485790,Qs),(10485786,Qs),(10485792,Qs),(10485794,Qs),(10485789,Qs),(10485789,Qs),(10485784,Qs),(10485784,Qs),(10485784,Qs),(10485791,Qs),(10485791,Qs),(10485791,Qs),(10485786,Qs),(10485786,Qs),(10485788,Qs),(10485788,Qs),(10485786,Qs),(10485788,Qs),(10485793,Qs),(10485793,Qs),(10485793,Qs),(20971575,YV),(20971574,YV),(20971574,YV),(20971574,YV),(6990523,RX),(10485784,Qt),(10485786,Qt),(3495263,[(0,2)]),(3495263,[(0,5)]),(6990521,Fk),(6990521,RX),(10485783,Qt),(10485783,Qt),(10485783,Qt),(10485787,Qt),(10485786,Qt),(10485788,Qt),(10485786,Qt),(10485790,Qt),(10485786,Qt),(10485792,Qt),(10485794,Qt),(10485789,Qt),(10485789,Qt),(10485784,Qt),(10485784,Qt),(10485784,Qt),(10485791,Qt),(10485791,Qt),(10485791,Qt),(10485786,Qt),(10485786,Qt),(10485788,Qt),(10485786,Qt),(10485788,Qt),(10485788,Qt),(10485793,Qt),(10485793,Qt),(10485793,Qt),(31457354,UR),(31457353,UR),(31457353,UR),(31457353,UR),(31457355,[(1,802)]),(31457354,[(1,802)]),(31457354,[(1,802)]),(31457354,[(1,802)]),(31457356,[]),(31457355,[]),(31457355,[]),(31457355,[]),(31457357,[]),(31457357,[]),(31457357,[]),(62914712,[]),(62914710,[]),(62914712,[]),(62914710,[]),(62914714,[]),(62914710,[]),(62914716,[]),(62914718,[]),(31457357,[]),(31457356,[]),(31457358,[]),(31457356,[]),(31457360,[]),(31457356,[]),(31457362,[]),(31457364,[]),(31457357,[]),(31457357,[]),(31457356,[]),(31457359,[]),(31457359,[]),(31457359,[]),(31457358,[]),(31457356,[]),(31457358,[]),(31457356,[]),(31457358,[]),(31457361,[]),(31457361,[]),(31457361,[]),(62914720,[]),(62914718,[]),(62914720,[]),(62914718,[]),(62914722,[]),(62914718,[]),(62914724,[]),(62914726,[]),(62914721,[]),(62914721,[]),(62914721,[]),(62914717,[]),(62914717,[]),(62914717,[]),(62914723,[]),(62914723,[]),(62914723,[]),(62914718,[]),(62914718,[]),(62914720,[]),(62914718,[]),(62914718,[]),(62914720,[]),(62914718,[]),(62914718,[]),(62914720,[]),(62914725,[]),(62914725,[]),(62914725,[]),(62914726,[(1,822)]),(62914726,[(1,822)]),(62914726,[(1,822)]),(31457358,[]),(31457360,[]),(31457362,[]),(31457364,[]),(31457359,[]),(31457359,[]),(31457358,[]),(31457358,[]),(31457358,[]),(31457361,[]),(31457361,[]),(31457361,[]),(62914720,[]),(62914718,[]),(62914720,[]),(62914718,[]),(62914722,[]),(62914718,[]),(62914724,[]),(62914726,[]),(62914721,[]),(62914721,[]),(62914721,[]),(62914717,[]),(62914717,[]),(62914717,[]),(62914723,[]),(62914723,[]),(62914723,[]),(62914718,[]),(62914718,[]),(62914720,[]),(62914718,[]),(62914718,[]),(62914720,[]),(62914718,[]),(62914718,[]),(62914720,[]),(62914725,[]),(62914725,[]),(62914725,[]),(62914726,[(1,822)]),(62914726,[(1,822)]),(62914726,[(1,822)]),(31457360,[]),(31457362,[]),(31457364,[]),(31457359,[]),(31457358,[]),(31457358,[]),(31457358,[]),(31457361,[]),(31457361,[]),(31457361,[]),(62914720,[]),(62914718,[]),(62914720,[]),(62914718,[]),(62914722,[]),(62914718,[]),(62914724,[]),(62914726,[]),(62914721,[]),(62914721,[]),(62914721,[]),(62914717,[]),(62914717,[]),(62914717,[]),(62914723,[]),(62914723,[]),(62914723,[]),(62914718,[]),(62914718,[]),(62914720,[]),(62914718,[]),(62914718,[]),(62914720,[]),(62914718,[]),(62914718,[]),(62914720,[]),(62914725,[]),(62914725,[]),(62914725,[]),(62914726,[(1,822)]),(62914726,[(1,822)]),(62914726,[(1,822)]),(10485784,Qq),(10485786,Qq),(3495263,[(0,6)]),(6990521,Px),(6990521,PC),(10485783,Qq),(10485783,Qq),(10485783,Qq),(10485787,Qq),(10485786,Qq),(10485788,Qq),(10485786,Qq),(10485790,Qq),(10485786,Qq),(10485792,Qq),(10485794,Qq),(10485789,Qq),(10485789,Qq),(10485784,Qq),(10485784,Qq),(10485784,Qq),(10485791,Qq),(10485791,Qq),(10485791,Qq),(10485788,Qq),(10485786,Qq),(10485786,Qq),(10485788,Qq),(10485786,Qq),(10485788,Qq),(10485793,Qq),(10485793,Qq),(10485793,Qq),(10485796,Qq),(10485795,Qq),(10485795,Qq),(10485795,Qq),(10485784,Qs),(10485786,Qs),(3495263,[(0,7)]),(6990521,FZ),(6990521,FW),(10485783,Qs),(10485783,Qs),(10485783,Qs),(10485787,Qs),(10485786,Qs),(10485788,Qs),(10485786,Qs),(10485790,Qs),(10485786,Qs),(10485792,Qs),(10485794,Qs),(10485789,Qs),(10485789,Qs),(10485784,Qs),(10485784,Qs),(10485784,Qs),(10485791,Qs),(10485791,Qs),(10485791,Qs),(10485786,Qs),(10485786,Qs),(10485788,Qs),(10485788,Qs),(10485786,Qs),(10485788,Qs),(10485793,Qs),(10485793,Qs),(10485793,Qs),(20971575,YV),(20971574,YV),(20971574,YV),(20971574,YV),(10485784,Qt),(10485786,Qt),(3495263,[(0,8)]),(6990521,Fk),(6990521,DW),(10485783,Qt),(10485783,Qt),(10485783,Qt),(10485787,Qt),(10485786,Qt),(10485788,Qt),(10485786,Qt),(10485790,Qt),(10485786,Qt),(10485792,Qt),(10485794,Qt),(10485789,Qt),(10485789,Qt),(10485784,Qt),(10485784,Qt),(10485784,Qt),(10485791,Qt),(10485791,Qt),(10485791,Qt),(10485786,Qt),(10485786,Qt),(10485788,Qt),(10485786,Qt),(10485788,Qt),(10485788,Qt),(10485793,Qt),(10485793,Qt),(10485793,Qt),(31457354,UR),(31457353,UR),(31457353,UR),(31457353,UR),(31457355,[(1,1073)]),(31457354,[(1,1073)]),(31457354,[(1,1073)]),(31457354,[(1,1073)]),(31457356,[]),(31457355,[]),(31457355,[]),(31457355,[]),(31457357,[]),(31457357,[]),(31457357,[]),(62914712,[]),(62914710,[]),(62914712,[]),(62914710,[]),(62914714,[]),(62914710,[]),(62914716,[]),(62914718,[]),(31457357,[]),(31457356,[]),(31457358,[]),(31457356,[]),(31457360,[]),(31457356,[]),(31457362,[]),(31457364,[]),(31457357,[]),(31457357,[]),(31457356,[]),(31457359,[]),(31457359,[]),(31457359,[]),(31457358,[]),(31457356,[]),(31457358,[]),(31457356,[]),(31457358,[]),(31457361,[]),(31457361,[]),(31457361,[]),(62914720,[]),(62914718,[]),(62914720,[]),(62914718,[]),(62914722,[]),(62914718,[]),(62914724,[]),(62914726,[]),(62914721,[]),(62914721,[]),(62914721,[]),(62914717,[]),(62914717,[]),(62914717,[]),(62914723,[]),(62914723,[]),(62914723,[]),(62914718,[]),(62914718,[]),(62914720,[]),(62914718,[]),(62914718,[]),(62914720,[]),(62914718,[]),(62914718,[]),(62914720,[]),(62914725,[]),(62914725,[]),(62914725,[]),(62914726,[(1,1092)]),(62914726,[(1,1092)]),(62914726,[(1,1092)]),(31457358,[]),(31457360,[]),(31457362,[]),(31457364,[]),(31457359,[]),(31457359,[]),(31457358,[]),(31457358,[]),(31457358,[]),(31457361,[]),(31457361,[]),(31457361,[]),(62914720,[]),(62914718,[]),(62914720,[]),(62914718,[]),(62914722,[]),(62914718,[]),(62914724,[]),(62914726,[]),(62914721,[]),(62914721,[]),(62914721,[]),(62914717,[]),(62914717,[]),(62914717,[]),(62914723,[]),(62914723,[]),(62914723,[]),(62914718,[]),(62914718,[]),(62914720,[]),(62914718,[]),(62914718,[]),(62914720,[]),(62914718,[]),(62914718,[]),(62914720,[]),(62914725,[]),(62914725,[]),(62914725,[]),(62914726,[(1,1092)]),(62914726,[(1,1092)]),(62914726,[(1,1092)]),(31457360,[]),(31457362,[]),(31457364,[]),(31457359,[]),(31457358,[]),(31457358,[]),(31457358,[]),(31457361,[]),(31457361,[]),(31457361,[]),(62914720,[]),(62914718,[]),(62914720,[]),(62914718,[]),(62914722,[]),(62914718,[]),(62914724,[]),(62914726,[]),(62914721,[]),(62914721,[]),(62914721,[]),(62914717,[]),(62914717,[]),(62914717,[]),(62914723,[]),(62914723,[]),(62914723,[]),(62914718,[]),(62914718,[]),(62914720,[]),(62914718,[]),(62914718,[]),(62914720,[]),(62914718,[]),(62914718,[]),(62914720,[]),(62914725,[]),(62914725,[]),(62914725,[]),(62914726,[(1,1092)]),(62914726,[(1,1092)]),(62914726,[(1,1092)])]
abbrev Zg (q : Nat→Rat) (σ : Nat→ByteArray) : Prop := ∀ (a : Nat) nd,qO_N[a]? = some nd→q a=Zr σ q nd
variable {q : Nat→Rat} {σ : Nat→ByteArray}
theorem Aw : wfB 0 qO_N=true := by kernel_rfl
theorem qO_sz : saB qO_E 0 qO_N qO_E Yb=true := by kernel_rfl
theorem qO_lt : KZ qO_N Ya=true := by kernel_rfl
theorem qO_cn : Gb qO_N Yg=true := by kernel_rfl
theorem Xp : cst 0 0 1=(0 : Rat) := by decide +kernel
theorem UX : cst 0 1 1=(1 : Rat) := by decide +kernel
def IL : List AV := [(false,[(true,[.inr (2,0,0,0,0),.inr (2,1,0,0,0),.inr (2,2,0,0,0),.inr (2,3,0,0,0),.inr (2,4,0,0,0),.inr (2,5,0,0,0),.inr (2,6,0,0,0),.inr (2,7,0,0,0),.inr (2,8,0,0,0)])])]
theorem Ul {a b c d e f g h i : Rat} (r11 : a*a+b*b+c*c=1) (r22 : d*d+e*e+f*f=1) (r33 : g*g+h*h+i*i=1) (r12 : a*d+b*e+c*f=0) (r13 : a*g+b*h+c*i=0) (r23 : d*g+e*h+f*i=0) (hd : 0 < a*(e*i - f*h)+b*(f*g - d*i)+c*(d*h - e*g)) :
  (e*i - f*h=a∧f*g - d*i=b∧d*h - e*g=c)∧(h*c - i*b=d∧i*a - g*c=e∧g*b - h*a=f)∧(b*f - c*e=g∧c*d - a*f=h∧a*e - b*d=i) := by
 have gram : (a*(e*i - f*h)+b*(f*g - d*i)+c*(d*h - e*g))*(a*(e*i - f*h)+b*(f*g - d*i)+c*(d*h - e*g))=(a*a+b*b+c*c)*((d*d+e*e+f*f)*(g*g+h*h+i*i) - (d*g+e*h+f*i)*(d*g+e*h+f*i)) - (a*d+b*e+c*f)*((a*d+b*e+c*f)*(g*g+h*h+i*i) - (d*g+e*h+f*i)*(a*g+b*h+c*i))+(a*g+b*h+c*i)*((a*d+b*e+c*f)*(d*g+e*h+f*i) - (d*d+e*e+f*f)*(a*g+b*h+c*i)) := by clear r11 r22 r33 r12 r13 r23 hd; grind
 rw [r11,r22,r33,r12,r13,r23] at gram
 generalize hD : a*(e*i - f*h)+b*(f*g - d*i)+c*(d*h - e*g)=D at *
 have one : D=1 := by
  have p : (D - 1)*(D+1)=0 := by grind
  rcases Rat.mul_eq_zero.1 p with q | q <;> grind
 subst one
 have l1 : (e*i - f*h)*(e*i - f*h)+(f*g - d*i)*(f*g - d*i)+(d*h - e*g)*(d*h - e*g)=1 := by
  have : (e*i - f*h)*(e*i - f*h)+(f*g - d*i)*(f*g - d*i)+(d*h - e*g)*(d*h - e*g)=(d*d+e*e+f*f)*(g*g+h*h+i*i) - (d*g+e*h+f*i)*(d*g+e*h+f*i) := by clear r11 r22 r33 r12 r13 r23 hd gram hD; grind
  rw [this,r22,r33,r23]; grind
 have l2 : (h*c - i*b)*(h*c - i*b)+(i*a - g*c)*(i*a - g*c)+(g*b - h*a)*(g*b - h*a)=1 := by
  have : (h*c - i*b)*(h*c - i*b)+(i*a - g*c)*(i*a - g*c)+(g*b - h*a)*(g*b - h*a)=(a*a+b*b+c*c)*(g*g+h*h+i*i) - (a*g+b*h+c*i)*(a*g+b*h+c*i) := by clear r11 r22 r33 r12 r13 r23 hd gram hD l1; grind
  rw [this,r11,r33,r13]; grind
 have l3 : (b*f - c*e)*(b*f - c*e)+(c*d - a*f)*(c*d - a*f)+(a*e - b*d)*(a*e - b*d)=1 := by
  have : (b*f - c*e)*(b*f - c*e)+(c*d - a*f)*(c*d - a*f)+(a*e - b*d)*(a*e - b*d)=(d*d+e*e+f*f)*(a*a+b*b+c*c) - (a*d+b*e+c*f)*(a*d+b*e+c*f) := by clear r11 r22 r33 r12 r13 r23 hd gram hD l1 l2; grind
  rw [this,r11,r22,r12]; grind
 have z : ∀ {x y z u v w : Rat},x*x+y*y+z*z=1→u*u+v*v+w*w=1→u*x+v*y+w*z=1→x=u∧y=v∧z=w := by
  intro x y z u v w p q r
  have s : (x - u)*(x - u)+(y - v)*(y - v)+(z - w)*(z - w)=0 := by grind
  have a1 := QJ (x - u)
  have a2 := QJ (y - v)
  have a3 := QJ (z - w)
  have b1 := a1.2.1 (by grind)
  have b2 := a2.2.1 (by grind)
  have b3 := a3.2.1 (by grind)
  exact ⟨by grind,by grind,by grind⟩
 refine ⟨z l1 r11 hD,z l2 r22 ?_,z l3 r33 ?_⟩
 ·rw [← hD]; clear r11 r22 r33 r12 r13 r23 gram hD l1 l2 l3; grind
 ·rw [← hD]; clear r11 r22 r33 r12 r13 r23 gram hD l1 l2 l3; grind
theorem Qb {k x y : Rat} (h : k ≠ 0) (e : x*k=y*k) : x=y := by
 have : (x - y)*k=0 := by grind
 have := (Rat.mul_eq_zero.1 this).resolve_right h
 grind
theorem TQ {a b c d e f g h i s x y z : Rat} (r11 : a*a+b*b+c*c=1) (r22 : d*d+e*e+f*f=1) (r33 : g*g+h*h+i*i=1) (r12 : a*d+b*e+c*f=0) (r13 : a*g+b*h+c*i=0) (r23 : d*g+e*h+f*i=0) (hd : 0 < a*(e*i - f*h)+b*(f*g - d*i)+c*(d*h - e*g)) (es : s=1+a+e+i) (hs : s ≠ 0) (hx : x*s=h - f) (hy : y*s=c - g) (hz : z*s=d - b) :
  ((1+x*x - y*y - z*z)=a*(1+x*x+y*y+z*z)∧2*(x*y - z)=b*(1+x*x+y*y+z*z)∧2*(x*z+y)=c*(1+x*x+y*y+z*z))∧(2*(x*y+z)=d*(1+x*x+y*y+z*z)∧(1 - x*x+y*y - z*z)=e*(1+x*x+y*y+z*z)∧2*(y*z - x)=f*(1+x*x+y*y+z*z))∧(2*(x*z - y)=g*(1+x*x+y*y+z*z)∧2*(y*z+x)=h*(1+x*x+y*y+z*z)∧(1 - x*x - y*y+z*z)=i*(1+x*x+y*y+z*z)) := by
 obtain ⟨⟨c1,c2,c3⟩,⟨c4,c5,c6⟩,⟨c7,c8,c9⟩⟩ := Ul r11 r22 r33 r12 r13 r23 hd
 clear hd
 have k : s*s ≠ 0 := ZH hs hs
 have xx : x*x*(s*s)=(h - f)*(h - f) := by rw [← hx]; grind
 have yy : y*y*(s*s)=(c - g)*(c - g) := by rw [← hy]; grind
 have zz : z*z*(s*s)=(d - b)*(d - b) := by rw [← hz]; grind
 have xy : x*y*(s*s)=(h - f)*(c - g) := by rw [← hx,← hy]; grind
 have xz : x*z*(s*s)=(h - f)*(d - b) := by rw [← hx,← hz]; grind
 have yz : y*z*(s*s)=(c - g)*(d - b) := by rw [← hy,← hz]; grind
 have sx : x*(s*s)=(h - f)*s := by rw [← hx]; grind
 have sy : y*(s*s)=(c - g)*s := by rw [← hy]; grind
 have sz : z*(s*s)=(d - b)*s := by rw [← hz]; grind
 have n : (1+x*x+y*y+z*z)*(s*s)=4*s := by
  have : (1+x*x+y*y+z*z)*(s*s)=s*s+x*x*(s*s)+y*y*(s*s)+z*z*(s*s) := by grind
  rw [this,xx,yy,zz,es]; clear this xx yy zz xy xz yz sx sy sz hx hy hz k hs; grind
 have N : ∀ t,t*(1+x*x+y*y+z*z)*(s*s)=t*(4*s) := fun t => by rw [← n]; grind
 clear hx hy hz n
 generalize 1+x*x+y*y+z*z=M at *
 refine ⟨⟨?_,?_,?_⟩,⟨?_,?_,?_⟩,⟨?_,?_,?_⟩⟩ <;> refine Qb k ?_ <;> rw [N]
 ·have : (1+x*x - y*y - z*z)*(s*s)=s*s+x*x*(s*s) - y*y*(s*s) - z*z*(s*s) := by grind
  rw [this,xx,yy,zz,es]; clear this xx yy zz xy xz yz sx sy sz N k hs; grind
 ·have : 2*(x*y - z)*(s*s)=2*(x*y*(s*s) - z*(s*s)) := by grind
  rw [this,xy,sz,es]; clear this xx yy zz xy xz yz sx sy sz N k hs; grind
 ·have : 2*(x*z+y)*(s*s)=2*(x*z*(s*s)+y*(s*s)) := by grind
  rw [this,xz,sy,es]; clear this xx yy zz xy xz yz sx sy sz N k hs; grind
 ·have : 2*(x*y+z)*(s*s)=2*(x*y*(s*s)+z*(s*s)) := by grind
  rw [this,xy,sz,es]; clear this xx yy zz xy xz yz sx sy sz N k hs; grind
 ·have : (1 - x*x+y*y - z*z)*(s*s)=s*s - x*x*(s*s)+y*y*(s*s) - z*z*(s*s) := by grind
  rw [this,xx,yy,zz,es]; clear this xx yy zz xy xz yz sx sy sz N k hs; grind
 ·have : 2*(y*z - x)*(s*s)=2*(y*z*(s*s) - x*(s*s)) := by grind
  rw [this,yz,sx,es]; clear this xx yy zz xy xz yz sx sy sz N k hs; grind
 ·have : 2*(x*z - y)*(s*s)=2*(x*z*(s*s) - y*(s*s)) := by grind
  rw [this,xz,sy,es]; clear this xx yy zz xy xz yz sx sy sz N k hs; grind
 ·have : 2*(y*z+x)*(s*s)=2*(y*z*(s*s)+x*(s*s)) := by grind
  rw [this,yz,sx,es]; clear this xx yy zz xy xz yz sx sy sz N k hs; grind
 ·have : (1 - x*x - y*y+z*z)*(s*s)=s*s - x*x*(s*s) - y*y*(s*s)+z*z*(s*s) := by grind
  rw [this,xx,yy,zz,es]; clear this xx yy zz xy xz yz sx sy sz N k hs; grind
theorem Oe {a b c d e f g h i : Rat} (r11 : a*a+b*b+c*c=1) (r22 : d*d+e*e+f*f=1) (r33 : g*g+h*h+i*i=1) (r12 : a*d+b*e+c*f=0) (r13 : a*g+b*h+c*i=0) (r23 : d*g+e*h+f*i=0) (hd : 0 < a*(e*i - f*h)+b*(f*g - d*i)+c*(d*h - e*g)) (hs : 1+a+e+i=0) :
  (d=b∧g=c∧h=f)∧(b*b=(a+1)*(e+1)∧c*c=(a+1)*(i+1)∧f*f=(e+1)*(i+1))∧(b*c=(a+1)*f∧b*f=(e+1)*c∧c*f=(i+1)*b) := by
 obtain ⟨⟨c1,c2,c3⟩,⟨c4,c5,c6⟩,⟨c7,c8,c9⟩⟩ := Ul r11 r22 r33 r12 r13 r23 hd
 clear hd
 have s : (h - f)*(h - f)+(c - g)*(c - g)+(d - b)*(d - b)=0 := by
  have : (h - f)*(h - f)+(c - g)*(c - g)+(d - b)*(d - b)=(1+a+e+i)*(3 - a - e - i) := by grind
  rw [this,hs,Rat.zero_mul]
 have a1 := QJ (h - f)
 have a2 := QJ (c - g)
 have a3 := QJ (d - b)
 have b1 := a1.2.1 (by grind)
 have b2 := a2.2.1 (by grind)
 have b3 := a3.2.1 (by grind)
 have e1 : h=f := by grind
 have e2 : g=c := by grind
 have e3 : d=b := by grind
 clear a1 a2 a3 b1 b2 b3 s
 subst e1 e2 e3
 refine ⟨⟨rfl,rfl,rfl⟩,⟨?_,?_,?_⟩,⟨?_,?_,?_⟩⟩ <;> grind
theorem Iq {a b c e f i p y z : Rat} (hb : b*b=(a+1)*(e+1)) (hc : c*c=(a+1)*(i+1)) (hbc : b*c=(a+1)*f) (hs : 1+a+e+i=0) (ep : p=a+1) (hp : p ≠ 0) (hy : y*p=b) (hz : z*p=c) :
  (1 - y*y - z*z=a*(1+y*y+z*z)∧2*y=b*(1+y*y+z*z)∧2*z=c*(1+y*y+z*z))∧(y*y - 1 - z*z=e*(1+y*y+z*z)∧2*(y*z)=f*(1+y*y+z*z))∧(z*z - 1 - y*y=i*(1+y*y+z*z)) := by
 have yy : y*y*p=e+1 := Qb hp (by
  have : y*y*p*p=(y*p)*(y*p) := by grind
  rw [this,hy,hb,ep]; grind)
 have zz : z*z*p=i+1 := Qb hp (by
  have : z*z*p*p=(z*p)*(z*p) := by grind
  rw [this,hz,hc,ep]; grind)
 have yz : y*z*p=f := Qb hp (by
  have : y*z*p*p=(y*p)*(z*p) := by grind
  rw [this,hy,hz,hbc,ep]; grind)
 refine ⟨⟨?_,?_,?_⟩,⟨?_,?_⟩,?_⟩ <;> refine Qb hp ?_ <;> grind
structure QTab (w x y z n a b c d e f g h i : Rat) : Prop where
 hn : n ≠ 0
 en : n=w*w+x*x+y*y+z*z
 ha : a*n=w*w+x*x - y*y - z*z
 hb : b*n=2*(x*y - w*z)
 hc : c*n=2*(x*z+w*y)
 hd : d*n=2*(x*y+w*z)
 he : e*n=w*w - x*x+y*y - z*z
 hf : f*n=2*(y*z - w*x)
 hg : g*n=2*(x*z - w*y)
 hh : h*n=2*(y*z+w*x)
 hi : i*n=w*w - x*x - y*y+z*z
theorem QTab.scale {w x y z n a b c d e f g h i k W X Y Z N : Rat} (Q : QTab w x y z n a b c d e f g h i) (hk : k ≠ 0) (ew : W=w*k) (ex : X=x*k) (ey : Y=y*k) (ez : Z=z*k) (eN : N=W*W+X*X+Y*Y+Z*Z) : QTab W X Y Z N a b c d e f g h i := by
 obtain ⟨hn,en,ha,hb,hc,hd,he,hf,hg,hh,hi⟩ := Q
 have eM : N=n*(k*k) := by rw [eN,ew,ex,ey,ez,en]; clear hn en ha hb hc hd he hf hg hh hi hk eN ew ex ey ez; grind
 have t : ∀ {p r : Rat},p*n=r→p*N=r*(k*k) := fun {p r} j => by rw [eM,← j]; grind
 refine ⟨by rw [eM]; exact ZH hn (ZH hk hk),eN,(t ha).trans ?_,(t hb).trans ?_,(t hc).trans ?_,(t hd).trans ?_,(t he).trans ?_,(t hf).trans ?_,(t hg).trans ?_,(t hh).trans ?_,(t hi).trans ?_⟩ <;> (rw [ew,ex,ey,ez]; clear t eM hn en ha hb hc hd he hf hg hh hi hk eN ew ex ey ez; grind)
theorem QTab.plain {F0 F1 F2 F3 m a b c d e f g h i r q0 q1 q2 q3 k P0 P1 P2 P3 N : Rat} (Q : QTab F0 F1 F2 F3 m a b c d e f g h i) (hr : r ≠ 0) (hk : k ≠ 0) (x0 : q0=F0 / r) (x1 : q1=F1 / r) (x2 : q2=F2 / r) (x3 : q3=F3 / r) (p0 : P0=q0*k) (p1 : P1=q1*k) (p2 : P2=q2*k) (p3 : P3=q3*k) (eN : N=P0*P0+P1*P1+P2*P2+P3*P3) : QTab P0 P1 P2 P3 N a b c d e f g h i := by
 have hkr : k / r ≠ 0 := fun j => hk (by rw [← Rat.div_mul_cancel hr (a := k),j,Rat.zero_mul])
 have t : ∀ F : Rat,F / r*k=F*(k / r) := fun F => by rw [Rat.div_def,Rat.div_def]; grind
 exact Q.scale hkr (by rw [p0,x0,t]) (by rw [p1,x1,t]) (by rw [p2,x2,t]) (by rw [p3,x3,t]) eN
theorem Gt {x y z a b c d e f g h i : Rat} (r : ((1+x*x - y*y - z*z)=a*(1+x*x+y*y+z*z)∧2*(x*y - z)=b*(1+x*x+y*y+z*z)∧2*(x*z+y)=c*(1+x*x+y*y+z*z))∧(2*(x*y+z)=d*(1+x*x+y*y+z*z)∧(1 - x*x+y*y - z*z)=e*(1+x*x+y*y+z*z)∧2*(y*z - x)=f*(1+x*x+y*y+z*z))∧(2*(x*z - y)=g*(1+x*x+y*y+z*z)∧2*(y*z+x)=h*(1+x*x+y*y+z*z)∧(1 - x*x - y*y+z*z)=i*(1+x*x+y*y+z*z))) : QTab 1 x y z (1+x*x+y*y+z*z) a b c d e f g h i := by
 obtain ⟨⟨r1,r2,r3⟩,⟨r4,r5,r6⟩,⟨r7,r8,r9⟩⟩ := r
 have p := QJ x
 have q := QJ y
 have s := QJ z
 refine ⟨?_,?_,?_,?_,?_,?_,?_,?_,?_,?_,?_⟩
 ·intro j; clear r1 r2 r3 r4 r5 r6 r7 r8 r9; grind
 ·clear r1 r2 r3 r4 r5 r6 r7 r8 r9 p q s; grind
 ·rw [← r1]; clear r1 r2 r3 r4 r5 r6 r7 r8 r9 p q s; grind
 ·rw [← r2]; clear r1 r2 r3 r4 r5 r6 r7 r8 r9 p q s; grind
 ·rw [← r3]; clear r1 r2 r3 r4 r5 r6 r7 r8 r9 p q s; grind
 ·rw [← r4]; clear r1 r2 r3 r4 r5 r6 r7 r8 r9 p q s; grind
 ·rw [← r5]; clear r1 r2 r3 r4 r5 r6 r7 r8 r9 p q s; grind
 ·rw [← r6]; clear r1 r2 r3 r4 r5 r6 r7 r8 r9 p q s; grind
 ·rw [← r7]; clear r1 r2 r3 r4 r5 r6 r7 r8 r9 p q s; grind
 ·rw [← r8]; clear r1 r2 r3 r4 r5 r6 r7 r8 r9 p q s; grind
 ·rw [← r9]; clear r1 r2 r3 r4 r5 r6 r7 r8 r9 p q s; grind
theorem Cv {a b c d e f g h i F0 F1 F2 F3 : Rat} (r11 : a*a+b*b+c*c=1) (r22 : d*d+e*e+f*f=1) (r33 : g*g+h*h+i*i=1) (r12 : a*d+b*e+c*f=0) (r13 : a*g+b*h+c*i=0) (r23 : d*g+e*h+f*i=0) (hd : 0 < a*(e*i - f*h)+b*(f*g - d*i)+c*(d*h - e*g)) (e0 : F0=1+a+e+i) (hs : F0 ≠ 0) (e1 : F1=h - f) (e2 : F2=c - g) (e3 : F3=d - b) : QTab F0 F1 F2 F3 (F0*F0+F1*F1+F2*F2+F3*F3) a b c d e f g h i := by
 have k : ∀ t : Rat,t / F0*F0=t := fun t => Rat.div_mul_cancel hs
 exact (Gt (TQ r11 r22 r33 r12 r13 r23 hd e0 hs ((k F1).trans e1) ((k F2).trans e2) ((k F3).trans e3))).scale hs (Rat.one_mul _).symm (k F1).symm (k F2).symm (k F3).symm rfl
theorem RZ {y z a b c e f i : Rat} (r : (1 - y*y - z*z=a*(1+y*y+z*z)∧2*y=b*(1+y*y+z*z)∧2*z=c*(1+y*y+z*z))∧(y*y - 1 - z*z=e*(1+y*y+z*z)∧2*(y*z)=f*(1+y*y+z*z))∧(z*z - 1 - y*y=i*(1+y*y+z*z))) : QTab 0 1 y z (1+y*y+z*z) a b c b e f c f i := by
 obtain ⟨⟨r1,r2,r3⟩,⟨r4,r5⟩,r6⟩ := r
 have q := QJ y
 have s := QJ z
 refine ⟨?_,?_,?_,?_,?_,?_,?_,?_,?_,?_,?_⟩
 ·intro j; clear r1 r2 r3 r4 r5 r6; grind
 ·clear r1 r2 r3 r4 r5 r6 q s; grind
 ·rw [← r1]; clear r1 r2 r3 r4 r5 r6 q s; grind
 ·rw [← r2]; clear r1 r2 r3 r4 r5 r6 q s; grind
 ·rw [← r3]; clear r1 r2 r3 r4 r5 r6 q s; grind
 ·rw [← r2]; clear r1 r2 r3 r4 r5 r6 q s; grind
 ·rw [← r4]; clear r1 r2 r3 r4 r5 r6 q s; grind
 ·rw [← r5]; clear r1 r2 r3 r4 r5 r6 q s; grind
 ·rw [← r3]; clear r1 r2 r3 r4 r5 r6 q s; grind
 ·rw [← r5]; clear r1 r2 r3 r4 r5 r6 q s; grind
 ·rw [← r6]; clear r1 r2 r3 r4 r5 r6 q s; grind
theorem QTab.axes {x y z n a b c d e f g h i : Rat} (Q : QTab 0 x y z n a b c d e f g h i) : QTab 0 y x z n e d f b a c h g i∧QTab 0 y z x n e f d h i g b c a := by
 obtain ⟨hn,en,ha,hb,hc,hd,he,hf,hg,hh,hi⟩ := Q
 refine ⟨⟨hn,?_,?_,?_,?_,?_,?_,?_,?_,?_,?_⟩,⟨hn,?_,?_,?_,?_,?_,?_,?_,?_,?_,?_⟩⟩ <;> (clear hn; grind)
theorem Ia {a b c d e f g h i F0 F1 F2 F3 : Rat} (r11 : a*a+b*b+c*c=1) (r22 : d*d+e*e+f*f=1) (r33 : g*g+h*h+i*i=1) (r12 : a*d+b*e+c*f=0) (r13 : a*g+b*h+c*i=0) (r23 : d*g+e*h+f*i=0) (hd : 0 < a*(e*i - f*h)+b*(f*g - d*i)+c*(d*h - e*g)) (hs : 1+a+e+i=0) (e0 : F0=0) (e1 : F1=1+a - e - i) (e2 : F2=b+d) (e3 : F3=c+g) (hp : F1 ≠ 0) : QTab F0 F1 F2 F3 (F0*F0+F1*F1+F2*F2+F3*F3) a b c d e f g h i := by
 obtain ⟨⟨y1,y2,y3⟩,⟨y4,y5,y6⟩,⟨y7,y8,y9⟩⟩ := Oe r11 r22 r33 r12 r13 r23 hd hs
 have e4 : F1=2*(a+1) := by rw [e1]; clear y1 y2 y3 y4 y5 y6 y7 y8 y9 r11 r22 r33 r12 r13 r23 hd; grind
 have hq : a+1 ≠ 0 := fun j => hp (by rw [e4,j,Rat.mul_zero])
 clear r11 r22 r33 r12 r13 r23 hd
 subst y1 y2 y3
 have k : ∀ t : Rat,t / (a+1)*(a+1)=t := fun t => Rat.div_mul_cancel hq
 have H := RZ (Iq y4 y5 y7 hs rfl hq (k d) (k g))
 refine H.scale (k := 2*(a+1)) (by rw [← e4]; exact hp) (by rw [e0,Rat.zero_mul]) (by rw [e4,Rat.one_mul]) ?_ ?_ rfl
 ·rw [e2]; have := k d; clear y4 y5 y6 y7 y8 y9 e0 e1 e2 e3 e4 hp hq hs H; grind
 ·rw [e3]; have := k g; clear y4 y5 y6 y7 y8 y9 e0 e1 e2 e3 e4 hp hq hs H; grind
theorem CS {a b c d e f g h i F0 F1 F2 F3 : Rat} (r11 : a*a+b*b+c*c=1) (r22 : d*d+e*e+f*f=1) (r33 : g*g+h*h+i*i=1) (r12 : a*d+b*e+c*f=0) (r13 : a*g+b*h+c*i=0) (r23 : d*g+e*h+f*i=0) (hd : 0 < a*(e*i - f*h)+b*(f*g - d*i)+c*(d*h - e*g)) (hs : 1+a+e+i=0) (e0 : F0=0) (e1 : F1=b+d) (e2 : F2=1 - a+e - i) (e3 : F3=f+h) (hp : F2 ≠ 0) : QTab F0 F1 F2 F3 (F0*F0+F1*F1+F2*F2+F3*F3) a b c d e f g h i := by
 have Q := Ia (a := e) (b := d) (c := f) (d := b) (e := a) (f := c) (g := h) (h := g) (i := i) (F0 := 0) (F1 := F2) (F2 := F1) (F3 := F3) (by grind) (by grind) (by grind) (by grind) (by grind) (by grind) (by clear r11 r22 r33 r12 r13 r23; grind) (by grind) rfl (by grind) (by grind) (by grind) hp
 rw [e0]; have R := Q.axes.1
 rwa [show 0*0+F2*F2+F1*F1+F3*F3=0*0+F1*F1+F2*F2+F3*F3 by grind] at R
theorem CH {a b c d e f g h i F0 F1 F2 F3 : Rat} (r11 : a*a+b*b+c*c=1) (r22 : d*d+e*e+f*f=1) (r33 : g*g+h*h+i*i=1) (r12 : a*d+b*e+c*f=0) (r13 : a*g+b*h+c*i=0) (r23 : d*g+e*h+f*i=0) (hd : 0 < a*(e*i - f*h)+b*(f*g - d*i)+c*(d*h - e*g)) (hs : 1+a+e+i=0) (e0 : F0=0) (e1 : F1=c+g) (e2 : F2=f+h) (e3 : F3=1 - a - e+i) (hp : F3 ≠ 0) : QTab F0 F1 F2 F3 (F0*F0+F1*F1+F2*F2+F3*F3) a b c d e f g h i := by
 have Q := Ia (a := i) (b := g) (c := h) (d := c) (e := a) (f := b) (g := f) (h := d) (i := e) (F0 := 0) (F1 := F3) (F2 := F1) (F3 := F2) (by grind) (by grind) (by grind) (by grind) (by grind) (by grind) (by clear r11 r22 r33 r12 r13 r23; grind) (by grind) rfl (by grind) (by grind) (by grind) hp
 rw [e0]; have R := Q.axes.2
 rwa [show 0*0+F3*F3+F1*F1+F2*F2=0*0+F1*F1+F2*F2+F3*F3 by grind] at R
theorem QH {a b c d e f g h i : Rat} (r11 : a*a+b*b+c*c=1) (r22 : d*d+e*e+f*f=1) (r33 : g*g+h*h+i*i=1) (r12 : a*d+b*e+c*f=0) (r13 : a*g+b*h+c*i=0) (r23 : d*g+e*h+f*i=0) (hd : 0 < a*(e*i - f*h)+b*(f*g - d*i)+c*(d*h - e*g)) (hs : 1+a+e+i=0) : (h - f=0∧c - g=0∧d - b=0)∧(1+a - e - i=0→b+d=0∧c+g=0)∧(1 - a+e - i=0→b+d=0∧f+h=0) := by
 obtain ⟨⟨y1,y2,y3⟩,⟨y4,y5,y6⟩,_⟩ := Oe r11 r22 r33 r12 r13 r23 hd hs
 clear r11 r22 r33 r12 r13 r23 hd
 subst y1 y2 y3
 refine ⟨⟨by grind,by grind,by grind⟩,fun j => ?_,fun j => ?_⟩
 ·have k : a+1=0 := by clear y4 y5 y6; grind
  rw [k,Rat.zero_mul] at y4 y5
  have p := (QJ d).2.1 y4
  have q := (QJ g).2.1 y5
  rw [p,q]; exact ⟨Rat.add_zero 0,Rat.add_zero 0⟩
 ·have k : e+1=0 := by clear y4 y5 y6; grind
  rw [k,Rat.mul_zero] at y4
  rw [k,Rat.zero_mul] at y6
  have p := (QJ d).2.1 y4
  have q := (QJ h).2.1 y6
  rw [p,q]; exact ⟨Rat.add_zero 0,Rat.add_zero 0⟩
theorem QF (H : Zg q σ) : (q 17=0)→(q 0*q 0+q 1*q 1+q 2*q 2=1) := by
 have e9:q 9=q 0*q 0:=H 9 _ rfl;have e10:q 10=0:=(H 10 _ rfl).trans Xp;have e11:q 11=q 10+q 9:=H 11 _ rfl;have e12:q 12=q 1*q 1:=H 12 _ rfl;have e13:q 13=q 11+q 12:=H 13 _ rfl;have e14:q 14=q 2*q 2:=H 14 _ rfl;have e15:q 15=q 13+q 14:=H 15 _ rfl;have e16:q 16=1:=(H 16 _ rfl).trans UX;have e17:q 17=q 15-q 16:=H 17 _ rfl
 clear H
 intro h
 subst_vars; grind
theorem Qx (H : Zg q σ) : (q 49=0)→(q 3*q 3+q 4*q 4+q 5*q 5=1) := by
 have e10:q 10=0:=(H 10 _ rfl).trans Xp;have e16:q 16=1:=(H 16 _ rfl).trans UX;have e43:q 43=q 3*q 3:=H 43 _ rfl;have e44:q 44=q 10+q 43:=H 44 _ rfl;have e45:q 45=q 4*q 4:=H 45 _ rfl;have e46:q 46=q 44+q 45:=H 46 _ rfl;have e47:q 47=q 5*q 5:=H 47 _ rfl;have e48:q 48=q 46+q 47:=H 48 _ rfl;have e49:q 49=q 48-q 16:=H 49 _ rfl
 clear H
 intro h
 subst_vars; grind
theorem Qy (H : Zg q σ) : (q 76=0)→(q 6*q 6+q 7*q 7+q 8*q 8=1) := by
 have e10:q 10=0:=(H 10 _ rfl).trans Xp;have e16:q 16=1:=(H 16 _ rfl).trans UX;have e70:q 70=q 6*q 6:=H 70 _ rfl;have e71:q 71=q 10+q 70:=H 71 _ rfl;have e72:q 72=q 7*q 7:=H 72 _ rfl;have e73:q 73=q 71+q 72:=H 73 _ rfl;have e74:q 74=q 8*q 8:=H 74 _ rfl;have e75:q 75=q 73+q 74:=H 75 _ rfl;have e76:q 76=q 75-q 16:=H 76 _ rfl
 clear H
 intro h
 subst_vars; grind
theorem Qz (H : Zg q σ) : (q 40=0)→(q 0*q 3+q 1*q 4+q 2*q 5=0) := by
 have e10:q 10=0:=(H 10 _ rfl).trans Xp;have e35:q 35=q 0*q 3:=H 35 _ rfl;have e36:q 36=q 10+q 35:=H 36 _ rfl;have e37:q 37=q 1*q 4:=H 37 _ rfl;have e38:q 38=q 36+q 37:=H 38 _ rfl;have e39:q 39=q 2*q 5:=H 39 _ rfl;have e40:q 40=q 38+q 39:=H 40 _ rfl
 clear H
 intro h
 subst_vars; grind
theorem QG (H : Zg q σ) : (q 91=0)→(q 0*q 6+q 1*q 7+q 2*q 8=0) := by
 have e10:q 10=0:=(H 10 _ rfl).trans Xp;have e77:q 77=q 6*q 0:=H 77 _ rfl;have e78:q 78=q 7*q 1:=H 78 _ rfl;have e79:q 79=q 8*q 2:=H 79 _ rfl;have e89:q 89=q 10+q 77:=H 89 _ rfl;have e90:q 90=q 89+q 78:=H 90 _ rfl;have e91:q 91=q 90+q 79:=H 91 _ rfl
 clear H
 intro h
 subst_vars; grind
theorem QE (H : Zg q σ) : (q 67=0)→(q 3*q 6+q 4*q 7+q 5*q 8=0) := by
 have e10:q 10=0:=(H 10 _ rfl).trans Xp;have e62:q 62=q 3*q 6:=H 62 _ rfl;have e63:q 63=q 10+q 62:=H 63 _ rfl;have e64:q 64=q 4*q 7:=H 64 _ rfl;have e65:q 65=q 63+q 64:=H 65 _ rfl;have e66:q 66=q 5*q 8:=H 66 _ rfl;have e67:q 67=q 65+q 66:=H 67 _ rfl
 clear H
 intro h
 subst_vars; grind
theorem QM (H : Zg q σ) : (q 96=q 0*(q 4*q 8-q 5*q 7)+q 1*(q 5*q 6-q 3*q 8)+q 2*(q 3*q 7-q 4*q 6)) :=
 pol H [] 7 96 (.A (.A (.M (.v 0) (.S (.M (.v 4) (.v 8)) (.M (.v 5) (.v 7)))) (.M (.v 1) (.S (.M (.v 5) (.v 6)) (.M (.v 3) (.v 8))))) (.M (.v 2) (.S (.M (.v 3) (.v 7)) (.M (.v 4) (.v 6))))) (by kernel_rfl)
theorem Qw (H : Zg q σ) : (q 241=1+q 0+q 4+q 8) :=
 pol H [] 13 241 (.A (.A (.A .o (.v 0)) (.v 4)) (.v 8)) (by kernel_rfl)
theorem Uh (H : Zg q σ) : (q 242=q 7-q 5) :=
 pol H [] 13 242 (.S (.v 7) (.v 5)) (by kernel_rfl)
theorem Ut (H : Zg q σ) : (q 243=q 2-q 6) :=
 pol H [] 13 243 (.S (.v 2) (.v 6)) (by kernel_rfl)
theorem Ui (H : Zg q σ) : (q 244=q 3-q 1) :=
 pol H [] 13 244 (.S (.v 3) (.v 1)) (by kernel_rfl)
theorem qO_pc10 (H : Zg q σ) : (q 10=0) := by
 have e10:q 10=0:=(H 10 _ rfl).trans Xp
 clear H
 exact e10
theorem Vp (H : Zg q σ) : (q 524=q 7-q 5) :=
 pol H [] 13 524 (.S (.v 7) (.v 5)) (by kernel_rfl)
theorem Xx (H : Zg q σ) : (q 525=1+q 0-q 4-q 8) :=
 pol H [] 13 525 (.S (.S (.A .o (.v 0)) (.v 4)) (.v 8)) (by kernel_rfl)
theorem UO (H : Zg q σ) : (q 526=q 1+q 3) :=
 pol H [] 13 526 (.A (.v 1) (.v 3)) (by kernel_rfl)
theorem Uo (H : Zg q σ) : (q 527=q 2+q 6) :=
 pol H [] 13 527 (.A (.v 2) (.v 6)) (by kernel_rfl)
theorem Vj (H : Zg q σ) : (q 800=q 2-q 6) :=
 pol H [] 13 800 (.S (.v 2) (.v 6)) (by kernel_rfl)
theorem Vo (H : Zg q σ) : (q 801=q 1+q 3) :=
 pol H [] 13 801 (.A (.v 1) (.v 3)) (by kernel_rfl)
theorem Yq (H : Zg q σ) : (q 802=1-q 0+q 4-q 8) :=
 pol H [] 13 802 (.S (.A (.S .o (.v 0)) (.v 4)) (.v 8)) (by kernel_rfl)
theorem Uc (H : Zg q σ) : (q 803=q 5+q 7) :=
 pol H [] 13 803 (.A (.v 5) (.v 7)) (by kernel_rfl)
theorem Vi (H : Zg q σ) : (q 1070=q 3-q 1) :=
 pol H [] 13 1070 (.S (.v 3) (.v 1)) (by kernel_rfl)
theorem Vh (H : Zg q σ) : (q 1071=q 2+q 6) :=
 pol H [] 13 1071 (.A (.v 2) (.v 6)) (by kernel_rfl)
theorem Vn (H : Zg q σ) : (q 1072=q 5+q 7) :=
 pol H [] 13 1072 (.A (.v 5) (.v 7)) (by kernel_rfl)
theorem qO_pw2 (_H : Zg q σ) : (q 1073=1-q 0-q 4+q 8)→(1+q 0+q 4+q 8=0)→(1+q 0-q 4-q 8=0)→(1-q 0+q 4-q 8=0)→(¬ (q 1073=0)) := by
 intro e h h0 h1
 intro k
 rw [e] at k; grind
theorem Uz (H : Zg q σ) : (q 1073=1-q 0-q 4+q 8) :=
 pol H [] 13 1073 (.A (.S (.S .o (.v 0)) (.v 4)) (.v 8)) (by kernel_rfl)
theorem FP (H : Zg q σ) : (q 32=q 96) :=
 pol2 H [] 7 32 96 (by kernel_rfl)
theorem YO (H : Zg q σ) : (q 17=0)→(q 34=q 16) := by
 have e9:q 9=q 0*q 0:=H 9 _ rfl;have e10:q 10=0:=(H 10 _ rfl).trans Xp;have e11:q 11=q 10+q 9:=H 11 _ rfl;have e12:q 12=q 1*q 1:=H 12 _ rfl;have e13:q 13=q 11+q 12:=H 13 _ rfl;have e14:q 14=q 2*q 2:=H 14 _ rfl;have e15:q 15=q 13+q 14:=H 15 _ rfl;have e16:q 16=1:=(H 16 _ rfl).trans UX;have e17:q 17=q 15-q 16:=H 17 _ rfl;have e33:q 33=q 9+q 12:=H 33 _ rfl;have e34:q 34=q 33+q 14:=H 34 _ rfl
 clear H
 intro h
 subst_vars; grind
theorem Vz (H : Zg q σ) : (q 40=0)→(q 42=q 10) := by
 have e10:q 10=0:=(H 10 _ rfl).trans Xp;have e35:q 35=q 0*q 3:=H 35 _ rfl;have e36:q 36=q 10+q 35:=H 36 _ rfl;have e37:q 37=q 1*q 4:=H 37 _ rfl;have e38:q 38=q 36+q 37:=H 38 _ rfl;have e39:q 39=q 2*q 5:=H 39 _ rfl;have e40:q 40=q 38+q 39:=H 40 _ rfl;have e41:q 41=q 35+q 37:=H 41 _ rfl;have e42:q 42=q 41+q 39:=H 42 _ rfl
 clear H
 intro h
 subst_vars; grind
theorem Tw (H : Zg q σ) : (q 91=0)→(q 54=q 10) := by
 have e10:q 10=0:=(H 10 _ rfl).trans Xp;have e50:q 50=q 0*q 6:=H 50 _ rfl;have e51:q 51=q 1*q 7:=H 51 _ rfl;have e52:q 52=q 2*q 8:=H 52 _ rfl;have e53:q 53=q 50+q 51:=H 53 _ rfl;have e54:q 54=q 53+q 52:=H 54 _ rfl;have e77:q 77=q 6*q 0:=H 77 _ rfl;have e78:q 78=q 7*q 1:=H 78 _ rfl;have e79:q 79=q 8*q 2:=H 79 _ rfl;have e89:q 89=q 10+q 77:=H 89 _ rfl;have e90:q 90=q 89+q 78:=H 90 _ rfl;have e91:q 91=q 90+q 79:=H 91 _ rfl
 clear H
 intro h
 subst_vars; grind
theorem UY (H : Zg q σ) : (q 40=0)→(q 59=q 10) := by
 have e10:q 10=0:=(H 10 _ rfl).trans Xp;have e35:q 35=q 0*q 3:=H 35 _ rfl;have e36:q 36=q 10+q 35:=H 36 _ rfl;have e37:q 37=q 1*q 4:=H 37 _ rfl;have e38:q 38=q 36+q 37:=H 38 _ rfl;have e39:q 39=q 2*q 5:=H 39 _ rfl;have e40:q 40=q 38+q 39:=H 40 _ rfl;have e55:q 55=q 3*q 0:=H 55 _ rfl;have e56:q 56=q 4*q 1:=H 56 _ rfl;have e57:q 57=q 5*q 2:=H 57 _ rfl;have e58:q 58=q 55+q 56:=H 58 _ rfl;have e59:q 59=q 58+q 57:=H 59 _ rfl
 clear H
 intro h
 subst_vars; grind
theorem Oj (H : Zg q σ) : (q 49=0)→(q 61=q 16) := by
 have e10:q 10=0:=(H 10 _ rfl).trans Xp;have e16:q 16=1:=(H 16 _ rfl).trans UX;have e43:q 43=q 3*q 3:=H 43 _ rfl;have e44:q 44=q 10+q 43:=H 44 _ rfl;have e45:q 45=q 4*q 4:=H 45 _ rfl;have e46:q 46=q 44+q 45:=H 46 _ rfl;have e47:q 47=q 5*q 5:=H 47 _ rfl;have e48:q 48=q 46+q 47:=H 48 _ rfl;have e49:q 49=q 48-q 16:=H 49 _ rfl;have e60:q 60=q 43+q 45:=H 60 _ rfl;have e61:q 61=q 60+q 47:=H 61 _ rfl
 clear H
 intro h
 subst_vars; grind
theorem IQ (H : Zg q σ) : (q 67=0)→(q 69=q 10) := by
 have e10:q 10=0:=(H 10 _ rfl).trans Xp;have e62:q 62=q 3*q 6:=H 62 _ rfl;have e63:q 63=q 10+q 62:=H 63 _ rfl;have e64:q 64=q 4*q 7:=H 64 _ rfl;have e65:q 65=q 63+q 64:=H 65 _ rfl;have e66:q 66=q 5*q 8:=H 66 _ rfl;have e67:q 67=q 65+q 66:=H 67 _ rfl;have e68:q 68=q 62+q 64:=H 68 _ rfl;have e69:q 69=q 68+q 66:=H 69 _ rfl
 clear H
 intro h
 subst_vars; grind
theorem Tz (H : Zg q σ) : (q 91=0)→(q 81=q 10) := by
 have e10:q 10=0:=(H 10 _ rfl).trans Xp;have e77:q 77=q 6*q 0:=H 77 _ rfl;have e78:q 78=q 7*q 1:=H 78 _ rfl;have e79:q 79=q 8*q 2:=H 79 _ rfl;have e80:q 80=q 77+q 78:=H 80 _ rfl;have e81:q 81=q 80+q 79:=H 81 _ rfl;have e89:q 89=q 10+q 77:=H 89 _ rfl;have e90:q 90=q 89+q 78:=H 90 _ rfl;have e91:q 91=q 90+q 79:=H 91 _ rfl
 clear H
 intro h
 subst_vars; grind
theorem IJ (H : Zg q σ) : (q 67=0)→(q 86=q 10) := by
 have e10:q 10=0:=(H 10 _ rfl).trans Xp;have e62:q 62=q 3*q 6:=H 62 _ rfl;have e63:q 63=q 10+q 62:=H 63 _ rfl;have e64:q 64=q 4*q 7:=H 64 _ rfl;have e65:q 65=q 63+q 64:=H 65 _ rfl;have e66:q 66=q 5*q 8:=H 66 _ rfl;have e67:q 67=q 65+q 66:=H 67 _ rfl;have e82:q 82=q 6*q 3:=H 82 _ rfl;have e83:q 83=q 7*q 4:=H 83 _ rfl;have e84:q 84=q 8*q 5:=H 84 _ rfl;have e85:q 85=q 82+q 83:=H 85 _ rfl;have e86:q 86=q 85+q 84:=H 86 _ rfl
 clear H
 intro h
 subst_vars; grind
theorem Ty (H : Zg q σ) : (q 76=0)→(q 88=q 16) := by
 have e10:q 10=0:=(H 10 _ rfl).trans Xp;have e16:q 16=1:=(H 16 _ rfl).trans UX;have e70:q 70=q 6*q 6:=H 70 _ rfl;have e71:q 71=q 10+q 70:=H 71 _ rfl;have e72:q 72=q 7*q 7:=H 72 _ rfl;have e73:q 73=q 71+q 72:=H 73 _ rfl;have e74:q 74=q 8*q 8:=H 74 _ rfl;have e75:q 75=q 73+q 74:=H 75 _ rfl;have e76:q 76=q 75-q 16:=H 76 _ rfl;have e87:q 87=q 70+q 72:=H 87 _ rfl;have e88:q 88=q 87+q 74:=H 88 _ rfl
 clear H
 intro h
 subst_vars; grind
theorem OU (H : Zg q σ) : (q 1092=q 1078*q 1078+q 1079*q 1079+q 1080*q 1080+q 1081*q 1081) :=
 pol H [] 6 1092 (.A (.A (.A (.M (.v 1078) (.v 1078)) (.M (.v 1079) (.v 1079))) (.M (.v 1080) (.v 1080))) (.M (.v 1081) (.v 1081))) (by kernel_rfl)
theorem WJ (H : Zg q σ) : (¬ (q 1073=0))→(q 1077=1) := by
 have e1077:q 1077=q 1073/q 1073:=H 1077 _ rfl
 clear H
 intro h
 rw [e1077]; exact Qb h ((Rat.div_mul_cancel h).trans (Rat.one_mul _).symm)
theorem OT (_H : Zg q σ) : (q 1077=1)→(¬ (fac [q 1074,q 1075,q 1076,q 1077]=0)) := by
 intro u
 intro k
 have j := ZX (x := q 1077) (by simp) k
 rw [u] at j; exact absurd j (by decide)
theorem OW (H : Zg q σ) : (q 0*q 0+q 1*q 1+q 2*q 2=1)→(q 3*q 3+q 4*q 4+q 5*q 5=1)→(q 6*q 6+q 7*q 7+q 8*q 8=1)→(q 0*q 3+q 1*q 4+q 2*q 5=0)→(q 0*q 6+q 1*q 7+q 2*q 8=0)→(q 3*q 6+q 4*q 7+q 5*q 8=0)→(0 < q 0*(q 4*q 8-q 5*q 7)+q 1*(q 5*q 6-q 3*q 8)+q 2*(q 3*q 7-q 4*q 6))→(1+q 0+q 4+q 8=0)→(q 1070=0)→(q 1071=q 2+q 6)→(q 1072=q 5+q 7)→(q 1073=1-q 0-q 4+q 8)→(¬ (q 1073=0))→(¬ (fac [q 1074,q 1075,q 1076,q 1077]=0))→(q 1092=q 1078*q 1078+q 1079*q 1079+q 1080*q 1080+q 1081*q 1081)→(QTab (q 1078) (q 1079) (q 1080) (q 1081) (q 1092) (q 0) (q 1) (q 2) (q 3) (q 4) (q 5) (q 6) (q 7) (q 8)) := by
 have e1074:q 1074=q 1070/q 1073:=H 1074 _ rfl;have e1075:q 1075=q 1071/q 1073:=H 1075 _ rfl;have e1076:q 1076=q 1072/q 1073:=H 1076 _ rfl;have e1077:q 1077=q 1073/q 1073:=H 1077 _ rfl;have e1078:q 1078=q 1074*fac [q 1074,q 1075,q 1076,q 1077]:=H 1078 _ rfl;have e1079:q 1079=q 1075*fac [q 1074,q 1075,q 1076,q 1077]:=H 1079 _ rfl;have e1080:q 1080=q 1076*fac [q 1074,q 1075,q 1076,q 1077]:=H 1080 _ rfl;have e1081:q 1081=q 1077*fac [q 1074,q 1075,q 1076,q 1077]:=H 1081 _ rfl
 clear H
 intro r00 r11 r22 r01 r02 r12 hd ht f0 f1 f2 f3 hs hk n
 have Q := CH r00 r11 r22 r01 r02 r12 hd ht f0 f1 f2 f3 hs
 exact QTab.plain Q hs hk e1074 e1075 e1076 e1077 e1078 e1079 e1080 e1081 n
theorem qO_pv1074 (H : Zg q σ) : (q 1070=0)→(q 1074=0) := by
 have e1074:q 1074=q 1070/q 1073:=H 1074 _ rfl
 clear H
 intro k
 rw [e1074,k,Rat.div_def,Rat.zero_mul]
theorem qO_pv1075 (H : Zg q σ) : (q 1071=0)→(q 1075=0) := by
 have e1075:q 1075=q 1071/q 1073:=H 1075 _ rfl
 clear H
 intro k
 rw [e1075,k,Rat.div_def,Rat.zero_mul]
theorem qO_pv1076 (H : Zg q σ) : (q 1072=0)→(q 1076=0) := by
 have e1076:q 1076=q 1072/q 1073:=H 1076 _ rfl
 clear H
 intro k
 rw [e1076,k,Rat.div_def,Rat.zero_mul]
theorem qO_pv1077 (_H : Zg q σ) : (q 1077=1)→(¬ (q 1077=0)) := by
 intro u
 rw [u]; decide
theorem qO_pi1077 (H : Zg q σ) : (q 1077=1)→(q 1077=q 16) := by
 have e16:q 16=1:=(H 16 _ rfl).trans UX
 clear H
 intro u
 rw [u,e16]
theorem qO_pe1144 (H : Zg q σ) : (QTab (q 1078) (q 1079) (q 1080) (q 1081) (q 1092) (q 0) (q 1) (q 2) (q 3) (q 4) (q 5) (q 6) (q 7) (q 8))→(q 1144=q 0) :=
 fun Q => Qb Q.hn ((Zo H [1092] 12 1144 1092 (.S (.S (.A (.M (.v 1078) (.v 1078)) (.M (.v 1079) (.v 1079))) (.M (.v 1080) (.v 1080))) (.M (.v 1081) (.v 1081))) Q.hn (by kernel_rfl)).trans Q.ha.symm)
theorem qO_pe1188 (H : Zg q σ) : (QTab (q 1078) (q 1079) (q 1080) (q 1081) (q 1092) (q 0) (q 1) (q 2) (q 3) (q 4) (q 5) (q 6) (q 7) (q 8))→(q 1188=q 1) :=
 fun Q => Qb Q.hn ((Zo H [1092] 12 1188 1092 (.M .t (.S (.M (.v 1079) (.v 1080)) (.M (.v 1078) (.v 1081)))) Q.hn (by kernel_rfl)).trans Q.hb.symm)
theorem qO_pe1230 (H : Zg q σ) : (QTab (q 1078) (q 1079) (q 1080) (q 1081) (q 1092) (q 0) (q 1) (q 2) (q 3) (q 4) (q 5) (q 6) (q 7) (q 8))→(q 1230=q 2) :=
 fun Q => Qb Q.hn ((Zo H [1092] 12 1230 1092 (.M .t (.A (.M (.v 1079) (.v 1081)) (.M (.v 1078) (.v 1080)))) Q.hn (by kernel_rfl)).trans Q.hc.symm)
theorem qO_pe1145 (H : Zg q σ) : (QTab (q 1078) (q 1079) (q 1080) (q 1081) (q 1092) (q 0) (q 1) (q 2) (q 3) (q 4) (q 5) (q 6) (q 7) (q 8))→(q 1145=q 3) :=
 fun Q => Qb Q.hn ((Zo H [1092] 12 1145 1092 (.M .t (.A (.M (.v 1079) (.v 1080)) (.M (.v 1078) (.v 1081)))) Q.hn (by kernel_rfl)).trans Q.hd.symm)
theorem qO_pe1189 (H : Zg q σ) : (QTab (q 1078) (q 1079) (q 1080) (q 1081) (q 1092) (q 0) (q 1) (q 2) (q 3) (q 4) (q 5) (q 6) (q 7) (q 8))→(q 1189=q 4) :=
 fun Q => Qb Q.hn ((Zo H [1092] 12 1189 1092 (.S (.A (.S (.M (.v 1078) (.v 1078)) (.M (.v 1079) (.v 1079))) (.M (.v 1080) (.v 1080))) (.M (.v 1081) (.v 1081))) Q.hn (by kernel_rfl)).trans Q.he.symm)
theorem qO_pe1231 (H : Zg q σ) : (QTab (q 1078) (q 1079) (q 1080) (q 1081) (q 1092) (q 0) (q 1) (q 2) (q 3) (q 4) (q 5) (q 6) (q 7) (q 8))→(q 1231=q 5) :=
 fun Q => Qb Q.hn ((Zo H [1092] 12 1231 1092 (.M .t (.S (.M (.v 1080) (.v 1081)) (.M (.v 1078) (.v 1079)))) Q.hn (by kernel_rfl)).trans Q.hf.symm)
theorem qO_pe1146 (H : Zg q σ) : (QTab (q 1078) (q 1079) (q 1080) (q 1081) (q 1092) (q 0) (q 1) (q 2) (q 3) (q 4) (q 5) (q 6) (q 7) (q 8))→(q 1146=q 6) :=
 fun Q => Qb Q.hn ((Zo H [1092] 12 1146 1092 (.M .t (.S (.M (.v 1079) (.v 1081)) (.M (.v 1078) (.v 1080)))) Q.hn (by kernel_rfl)).trans Q.hg.symm)
theorem qO_pe1190 (H : Zg q σ) : (QTab (q 1078) (q 1079) (q 1080) (q 1081) (q 1092) (q 0) (q 1) (q 2) (q 3) (q 4) (q 5) (q 6) (q 7) (q 8))→(q 1190=q 7) :=
 fun Q => Qb Q.hn ((Zo H [1092] 12 1190 1092 (.M .t (.A (.M (.v 1080) (.v 1081)) (.M (.v 1078) (.v 1079)))) Q.hn (by kernel_rfl)).trans Q.hh.symm)
theorem qO_pe1232 (H : Zg q σ) : (QTab (q 1078) (q 1079) (q 1080) (q 1081) (q 1092) (q 0) (q 1) (q 2) (q 3) (q 4) (q 5) (q 6) (q 7) (q 8))→(q 1232=q 8) :=
 fun Q => Qb Q.hn ((Zo H [1092] 12 1232 1092 (.A (.S (.S (.M (.v 1078) (.v 1078)) (.M (.v 1079) (.v 1079))) (.M (.v 1080) (.v 1080))) (.M (.v 1081) (.v 1081))) Q.hn (by kernel_rfl)).trans Q.hi.symm)
theorem Ih (H : Zg q σ) : (q 822=q 808*q 808+q 809*q 809+q 810*q 810+q 811*q 811) :=
 pol H [] 6 822 (.A (.A (.A (.M (.v 808) (.v 808)) (.M (.v 809) (.v 809))) (.M (.v 810) (.v 810))) (.M (.v 811) (.v 811))) (by kernel_rfl)
theorem WN (H : Zg q σ) : (¬ (q 802=0))→(q 806=1) := by
 have e806:q 806=q 802/q 802:=H 806 _ rfl
 clear H
 intro h
 rw [e806]; exact Qb h ((Rat.div_mul_cancel h).trans (Rat.one_mul _).symm)
theorem Io (_H : Zg q σ) : (q 806=1)→(¬ (fac [q 804,q 805,q 806,q 807]=0)) := by
 intro u
 intro k
 have j := ZX (x := q 806) (by simp) k
 rw [u] at j; exact absurd j (by decide)
theorem Ic (H : Zg q σ) : (q 0*q 0+q 1*q 1+q 2*q 2=1)→(q 3*q 3+q 4*q 4+q 5*q 5=1)→(q 6*q 6+q 7*q 7+q 8*q 8=1)→(q 0*q 3+q 1*q 4+q 2*q 5=0)→(q 0*q 6+q 1*q 7+q 2*q 8=0)→(q 3*q 6+q 4*q 7+q 5*q 8=0)→(0 < q 0*(q 4*q 8-q 5*q 7)+q 1*(q 5*q 6-q 3*q 8)+q 2*(q 3*q 7-q 4*q 6))→(1+q 0+q 4+q 8=0)→(q 800=0)→(q 801=q 1+q 3)→(q 802=1-q 0+q 4-q 8)→(q 803=q 5+q 7)→(¬ (q 802=0))→(¬ (fac [q 804,q 805,q 806,q 807]=0))→(q 822=q 808*q 808+q 809*q 809+q 810*q 810+q 811*q 811)→(QTab (q 808) (q 809) (q 810) (q 811) (q 822) (q 0) (q 1) (q 2) (q 3) (q 4) (q 5) (q 6) (q 7) (q 8)) := by
 have e804:q 804=q 800/q 802:=H 804 _ rfl;have e805:q 805=q 801/q 802:=H 805 _ rfl;have e806:q 806=q 802/q 802:=H 806 _ rfl;have e807:q 807=q 803/q 802:=H 807 _ rfl;have e808:q 808=q 804*fac [q 804,q 805,q 806,q 807]:=H 808 _ rfl;have e809:q 809=q 805*fac [q 804,q 805,q 806,q 807]:=H 809 _ rfl;have e810:q 810=q 806*fac [q 804,q 805,q 806,q 807]:=H 810 _ rfl;have e811:q 811=q 807*fac [q 804,q 805,q 806,q 807]:=H 811 _ rfl
 clear H
 intro r00 r11 r22 r01 r02 r12 hd ht f0 f1 f2 f3 hs hk n
 have Q := CS r00 r11 r22 r01 r02 r12 hd ht f0 f1 f2 f3 hs
 exact QTab.plain Q hs hk e804 e805 e806 e807 e808 e809 e810 e811 n
theorem qO_pv804 (H : Zg q σ) : (q 800=0)→(q 804=0) := by
 have e804:q 804=q 800/q 802:=H 804 _ rfl
 clear H
 intro k
 rw [e804,k,Rat.div_def,Rat.zero_mul]
theorem qO_pv805 (H : Zg q σ) : (q 801=0)→(q 805=0) := by
 have e805:q 805=q 801/q 802:=H 805 _ rfl
 clear H
 intro k
 rw [e805,k,Rat.div_def,Rat.zero_mul]
theorem qO_pv806 (_H : Zg q σ) : (q 806=1)→(¬ (q 806=0)) := by
 intro u
 rw [u]; decide
theorem qO_pi806 (H : Zg q σ) : (q 806=1)→(q 806=q 16) := by
 have e16:q 16=1:=(H 16 _ rfl).trans UX
 clear H
 intro u
 rw [u,e16]
theorem qO_pe874 (H : Zg q σ) : (QTab (q 808) (q 809) (q 810) (q 811) (q 822) (q 0) (q 1) (q 2) (q 3) (q 4) (q 5) (q 6) (q 7) (q 8))→(q 874=q 0) :=
 fun Q => Qb Q.hn ((Zo H [822] 12 874 822 (.S (.S (.A (.M (.v 808) (.v 808)) (.M (.v 809) (.v 809))) (.M (.v 810) (.v 810))) (.M (.v 811) (.v 811))) Q.hn (by kernel_rfl)).trans Q.ha.symm)
theorem qO_pe918 (H : Zg q σ) : (QTab (q 808) (q 809) (q 810) (q 811) (q 822) (q 0) (q 1) (q 2) (q 3) (q 4) (q 5) (q 6) (q 7) (q 8))→(q 918=q 1) :=
 fun Q => Qb Q.hn ((Zo H [822] 12 918 822 (.M .t (.S (.M (.v 809) (.v 810)) (.M (.v 808) (.v 811)))) Q.hn (by kernel_rfl)).trans Q.hb.symm)
theorem qO_pe960 (H : Zg q σ) : (QTab (q 808) (q 809) (q 810) (q 811) (q 822) (q 0) (q 1) (q 2) (q 3) (q 4) (q 5) (q 6) (q 7) (q 8))→(q 960=q 2) :=
 fun Q => Qb Q.hn ((Zo H [822] 12 960 822 (.M .t (.A (.M (.v 809) (.v 811)) (.M (.v 808) (.v 810)))) Q.hn (by kernel_rfl)).trans Q.hc.symm)
theorem qO_pe875 (H : Zg q σ) : (QTab (q 808) (q 809) (q 810) (q 811) (q 822) (q 0) (q 1) (q 2) (q 3) (q 4) (q 5) (q 6) (q 7) (q 8))→(q 875=q 3) :=
 fun Q => Qb Q.hn ((Zo H [822] 12 875 822 (.M .t (.A (.M (.v 809) (.v 810)) (.M (.v 808) (.v 811)))) Q.hn (by kernel_rfl)).trans Q.hd.symm)
theorem qO_pe919 (H : Zg q σ) : (QTab (q 808) (q 809) (q 810) (q 811) (q 822) (q 0) (q 1) (q 2) (q 3) (q 4) (q 5) (q 6) (q 7) (q 8))→(q 919=q 4) :=
 fun Q => Qb Q.hn ((Zo H [822] 12 919 822 (.S (.A (.S (.M (.v 808) (.v 808)) (.M (.v 809) (.v 809))) (.M (.v 810) (.v 810))) (.M (.v 811) (.v 811))) Q.hn (by kernel_rfl)).trans Q.he.symm)
theorem qO_pe961 (H : Zg q σ) : (QTab (q 808) (q 809) (q 810) (q 811) (q 822) (q 0) (q 1) (q 2) (q 3) (q 4) (q 5) (q 6) (q 7) (q 8))→(q 961=q 5) :=
 fun Q => Qb Q.hn ((Zo H [822] 12 961 822 (.M .t (.S (.M (.v 810) (.v 811)) (.M (.v 808) (.v 809)))) Q.hn (by kernel_rfl)).trans Q.hf.symm)
theorem qO_pe876 (H : Zg q σ) : (QTab (q 808) (q 809) (q 810) (q 811) (q 822) (q 0) (q 1) (q 2) (q 3) (q 4) (q 5) (q 6) (q 7) (q 8))→(q 876=q 6) :=
 fun Q => Qb Q.hn ((Zo H [822] 12 876 822 (.M .t (.S (.M (.v 809) (.v 811)) (.M (.v 808) (.v 810)))) Q.hn (by kernel_rfl)).trans Q.hg.symm)
theorem qO_pe920 (H : Zg q σ) : (QTab (q 808) (q 809) (q 810) (q 811) (q 822) (q 0) (q 1) (q 2) (q 3) (q 4) (q 5) (q 6) (q 7) (q 8))→(q 920=q 7) :=
 fun Q => Qb Q.hn ((Zo H [822] 12 920 822 (.M .t (.A (.M (.v 810) (.v 811)) (.M (.v 808) (.v 809)))) Q.hn (by kernel_rfl)).trans Q.hh.symm)
theorem qO_pe962 (H : Zg q σ) : (QTab (q 808) (q 809) (q 810) (q 811) (q 822) (q 0) (q 1) (q 2) (q 3) (q 4) (q 5) (q 6) (q 7) (q 8))→(q 962=q 8) :=
 fun Q => Qb Q.hn ((Zo H [822] 12 962 822 (.A (.S (.S (.M (.v 808) (.v 808)) (.M (.v 809) (.v 809))) (.M (.v 810) (.v 810))) (.M (.v 811) (.v 811))) Q.hn (by kernel_rfl)).trans Q.hi.symm)
theorem Im (H : Zg q σ) : (q 546=q 532*q 532+q 533*q 533+q 534*q 534+q 535*q 535) :=
 pol H [] 6 546 (.A (.A (.A (.M (.v 532) (.v 532)) (.M (.v 533) (.v 533))) (.M (.v 534) (.v 534))) (.M (.v 535) (.v 535))) (by kernel_rfl)
theorem WP (H : Zg q σ) : (¬ (q 525=0))→(q 529=1) := by
 have e529:q 529=q 525/q 525:=H 529 _ rfl
 clear H
 intro h
 rw [e529]; exact Qb h ((Rat.div_mul_cancel h).trans (Rat.one_mul _).symm)
theorem OX (_H : Zg q σ) : (q 529=1)→(¬ (fac [q 528,q 529,q 530,q 531]=0)) := by
 intro u
 intro k
 have j := ZX (x := q 529) (by simp) k
 rw [u] at j; exact absurd j (by decide)
theorem Ie (H : Zg q σ) : (q 0*q 0+q 1*q 1+q 2*q 2=1)→(q 3*q 3+q 4*q 4+q 5*q 5=1)→(q 6*q 6+q 7*q 7+q 8*q 8=1)→(q 0*q 3+q 1*q 4+q 2*q 5=0)→(q 0*q 6+q 1*q 7+q 2*q 8=0)→(q 3*q 6+q 4*q 7+q 5*q 8=0)→(0 < q 0*(q 4*q 8-q 5*q 7)+q 1*(q 5*q 6-q 3*q 8)+q 2*(q 3*q 7-q 4*q 6))→(1+q 0+q 4+q 8=0)→(q 524=0)→(q 525=1+q 0-q 4-q 8)→(q 526=q 1+q 3)→(q 527=q 2+q 6)→(¬ (q 525=0))→(¬ (fac [q 528,q 529,q 530,q 531]=0))→(q 546=q 532*q 532+q 533*q 533+q 534*q 534+q 535*q 535)→(QTab (q 532) (q 533) (q 534) (q 535) (q 546) (q 0) (q 1) (q 2) (q 3) (q 4) (q 5) (q 6) (q 7) (q 8)) := by
 have e528:q 528=q 524/q 525:=H 528 _ rfl;have e529:q 529=q 525/q 525:=H 529 _ rfl;have e530:q 530=q 526/q 525:=H 530 _ rfl;have e531:q 531=q 527/q 525:=H 531 _ rfl;have e532:q 532=q 528*fac [q 528,q 529,q 530,q 531]:=H 532 _ rfl;have e533:q 533=q 529*fac [q 528,q 529,q 530,q 531]:=H 533 _ rfl;have e534:q 534=q 530*fac [q 528,q 529,q 530,q 531]:=H 534 _ rfl;have e535:q 535=q 531*fac [q 528,q 529,q 530,q 531]:=H 535 _ rfl
 clear H
 intro r00 r11 r22 r01 r02 r12 hd ht f0 f1 f2 f3 hs hk n
 have Q := Ia r00 r11 r22 r01 r02 r12 hd ht f0 f1 f2 f3 hs
 exact QTab.plain Q hs hk e528 e529 e530 e531 e532 e533 e534 e535 n
theorem qO_pv528 (H : Zg q σ) : (q 524=0)→(q 528=0) := by
 have e528:q 528=q 524/q 525:=H 528 _ rfl
 clear H
 intro k
 rw [e528,k,Rat.div_def,Rat.zero_mul]
theorem qO_pv529 (_H : Zg q σ) : (q 529=1)→(¬ (q 529=0)) := by
 intro u
 rw [u]; decide
theorem qO_pi529 (H : Zg q σ) : (q 529=1)→(q 529=q 16) := by
 have e16:q 16=1:=(H 16 _ rfl).trans UX
 clear H
 intro u
 rw [u,e16]
theorem qO_pe598 (H : Zg q σ) : (QTab (q 532) (q 533) (q 534) (q 535) (q 546) (q 0) (q 1) (q 2) (q 3) (q 4) (q 5) (q 6) (q 7) (q 8))→(q 598=q 0) :=
 fun Q => Qb Q.hn ((Zo H [546] 12 598 546 (.S (.S (.A (.M (.v 532) (.v 532)) (.M (.v 533) (.v 533))) (.M (.v 534) (.v 534))) (.M (.v 535) (.v 535))) Q.hn (by kernel_rfl)).trans Q.ha.symm)
theorem qO_pe642 (H : Zg q σ) : (QTab (q 532) (q 533) (q 534) (q 535) (q 546) (q 0) (q 1) (q 2) (q 3) (q 4) (q 5) (q 6) (q 7) (q 8))→(q 642=q 1) :=
 fun Q => Qb Q.hn ((Zo H [546] 12 642 546 (.M .t (.S (.M (.v 533) (.v 534)) (.M (.v 532) (.v 535)))) Q.hn (by kernel_rfl)).trans Q.hb.symm)
theorem qO_pe684 (H : Zg q σ) : (QTab (q 532) (q 533) (q 534) (q 535) (q 546) (q 0) (q 1) (q 2) (q 3) (q 4) (q 5) (q 6) (q 7) (q 8))→(q 684=q 2) :=
 fun Q => Qb Q.hn ((Zo H [546] 12 684 546 (.M .t (.A (.M (.v 533) (.v 535)) (.M (.v 532) (.v 534)))) Q.hn (by kernel_rfl)).trans Q.hc.symm)
theorem qO_pe599 (H : Zg q σ) : (QTab (q 532) (q 533) (q 534) (q 535) (q 546) (q 0) (q 1) (q 2) (q 3) (q 4) (q 5) (q 6) (q 7) (q 8))→(q 599=q 3) :=
 fun Q => Qb Q.hn ((Zo H [546] 12 599 546 (.M .t (.A (.M (.v 533) (.v 534)) (.M (.v 532) (.v 535)))) Q.hn (by kernel_rfl)).trans Q.hd.symm)
theorem qO_pe643 (H : Zg q σ) : (QTab (q 532) (q 533) (q 534) (q 535) (q 546) (q 0) (q 1) (q 2) (q 3) (q 4) (q 5) (q 6) (q 7) (q 8))→(q 643=q 4) :=
 fun Q => Qb Q.hn ((Zo H [546] 12 643 546 (.S (.A (.S (.M (.v 532) (.v 532)) (.M (.v 533) (.v 533))) (.M (.v 534) (.v 534))) (.M (.v 535) (.v 535))) Q.hn (by kernel_rfl)).trans Q.he.symm)
theorem qO_pe685 (H : Zg q σ) : (QTab (q 532) (q 533) (q 534) (q 535) (q 546) (q 0) (q 1) (q 2) (q 3) (q 4) (q 5) (q 6) (q 7) (q 8))→(q 685=q 5) :=
 fun Q => Qb Q.hn ((Zo H [546] 12 685 546 (.M .t (.S (.M (.v 534) (.v 535)) (.M (.v 532) (.v 533)))) Q.hn (by kernel_rfl)).trans Q.hf.symm)
theorem qO_pe600 (H : Zg q σ) : (QTab (q 532) (q 533) (q 534) (q 535) (q 546) (q 0) (q 1) (q 2) (q 3) (q 4) (q 5) (q 6) (q 7) (q 8))→(q 600=q 6) :=
 fun Q => Qb Q.hn ((Zo H [546] 12 600 546 (.M .t (.S (.M (.v 533) (.v 535)) (.M (.v 532) (.v 534)))) Q.hn (by kernel_rfl)).trans Q.hg.symm)
theorem qO_pe644 (H : Zg q σ) : (QTab (q 532) (q 533) (q 534) (q 535) (q 546) (q 0) (q 1) (q 2) (q 3) (q 4) (q 5) (q 6) (q 7) (q 8))→(q 644=q 7) :=
 fun Q => Qb Q.hn ((Zo H [546] 12 644 546 (.M .t (.A (.M (.v 534) (.v 535)) (.M (.v 532) (.v 533)))) Q.hn (by kernel_rfl)).trans Q.hh.symm)
theorem qO_pe686 (H : Zg q σ) : (QTab (q 532) (q 533) (q 534) (q 535) (q 546) (q 0) (q 1) (q 2) (q 3) (q 4) (q 5) (q 6) (q 7) (q 8))→(q 686=q 8) :=
 fun Q => Qb Q.hn ((Zo H [546] 12 686 546 (.A (.S (.S (.M (.v 532) (.v 532)) (.M (.v 533) (.v 533))) (.M (.v 534) (.v 534))) (.M (.v 535) (.v 535))) Q.hn (by kernel_rfl)).trans Q.hi.symm)
theorem Ii (H : Zg q σ) : (q 263=q 249*q 249+q 250*q 250+q 251*q 251+q 252*q 252) :=
 pol H [] 6 263 (.A (.A (.A (.M (.v 249) (.v 249)) (.M (.v 250) (.v 250))) (.M (.v 251) (.v 251))) (.M (.v 252) (.v 252))) (by kernel_rfl)
theorem WR (H : Zg q σ) : (¬ (q 241=0))→(q 245=1) := by
 have e245:q 245=q 241/q 241:=H 245 _ rfl
 clear H
 intro h
 rw [e245]; exact Qb h ((Rat.div_mul_cancel h).trans (Rat.one_mul _).symm)
theorem Ig (_H : Zg q σ) : (q 245=1)→(¬ (fac [q 245,q 246,q 247,q 248]=0)) := by
 intro u
 intro k
 have j := ZX (x := q 245) (by simp) k
 rw [u] at j; exact absurd j (by decide)
theorem Il (H : Zg q σ) : (q 0*q 0+q 1*q 1+q 2*q 2=1)→(q 3*q 3+q 4*q 4+q 5*q 5=1)→(q 6*q 6+q 7*q 7+q 8*q 8=1)→(q 0*q 3+q 1*q 4+q 2*q 5=0)→(q 0*q 6+q 1*q 7+q 2*q 8=0)→(q 3*q 6+q 4*q 7+q 5*q 8=0)→(0 < q 0*(q 4*q 8-q 5*q 7)+q 1*(q 5*q 6-q 3*q 8)+q 2*(q 3*q 7-q 4*q 6))→(q 241=1+q 0+q 4+q 8)→(q 242=q 7-q 5)→(q 243=q 2-q 6)→(q 244=q 3-q 1)→(¬ (q 241=0))→(¬ (fac [q 245,q 246,q 247,q 248]=0))→(q 263=q 249*q 249+q 250*q 250+q 251*q 251+q 252*q 252)→(QTab (q 249) (q 250) (q 251) (q 252) (q 263) (q 0) (q 1) (q 2) (q 3) (q 4) (q 5) (q 6) (q 7) (q 8)) := by
 have e245:q 245=q 241/q 241:=H 245 _ rfl;have e246:q 246=q 242/q 241:=H 246 _ rfl;have e247:q 247=q 243/q 241:=H 247 _ rfl;have e248:q 248=q 244/q 241:=H 248 _ rfl;have e249:q 249=q 245*fac [q 245,q 246,q 247,q 248]:=H 249 _ rfl;have e250:q 250=q 246*fac [q 245,q 246,q 247,q 248]:=H 250 _ rfl;have e251:q 251=q 247*fac [q 245,q 246,q 247,q 248]:=H 251 _ rfl;have e252:q 252=q 248*fac [q 245,q 246,q 247,q 248]:=H 252 _ rfl
 clear H
 intro r00 r11 r22 r01 r02 r12 hd f0 f1 f2 f3 hs hk n
 have Q := Cv r00 r11 r22 r01 r02 r12 hd f0 hs f1 f2 f3
 exact QTab.plain Q hs hk e245 e246 e247 e248 e249 e250 e251 e252 n
theorem qO_pv245 (_H : Zg q σ) : (q 245=1)→(¬ (q 245=0)) := by
 intro u
 rw [u]; decide
theorem qO_pi245 (H : Zg q σ) : (q 245=1)→(q 245=q 16) := by
 have e16:q 16=1:=(H 16 _ rfl).trans UX
 clear H
 intro u
 rw [u,e16]
theorem qO_pe315 (H : Zg q σ) : (QTab (q 249) (q 250) (q 251) (q 252) (q 263) (q 0) (q 1) (q 2) (q 3) (q 4) (q 5) (q 6) (q 7) (q 8))→(q 315=q 0) :=
 fun Q => Qb Q.hn ((Zo H [263] 12 315 263 (.S (.S (.A (.M (.v 249) (.v 249)) (.M (.v 250) (.v 250))) (.M (.v 251) (.v 251))) (.M (.v 252) (.v 252))) Q.hn (by kernel_rfl)).trans Q.ha.symm)
theorem qO_pe359 (H : Zg q σ) : (QTab (q 249) (q 250) (q 251) (q 252) (q 263) (q 0) (q 1) (q 2) (q 3) (q 4) (q 5) (q 6) (q 7) (q 8))→(q 359=q 1) :=
 fun Q => Qb Q.hn ((Zo H [263] 12 359 263 (.M .t (.S (.M (.v 250) (.v 251)) (.M (.v 249) (.v 252)))) Q.hn (by kernel_rfl)).trans Q.hb.symm)
theorem qO_pe401 (H : Zg q σ) : (QTab (q 249) (q 250) (q 251) (q 252) (q 263) (q 0) (q 1) (q 2) (q 3) (q 4) (q 5) (q 6) (q 7) (q 8))→(q 401=q 2) :=
 fun Q => Qb Q.hn ((Zo H [263] 12 401 263 (.M .t (.A (.M (.v 250) (.v 252)) (.M (.v 249) (.v 251)))) Q.hn (by kernel_rfl)).trans Q.hc.symm)
theorem qO_pe316 (H : Zg q σ) : (QTab (q 249) (q 250) (q 251) (q 252) (q 263) (q 0) (q 1) (q 2) (q 3) (q 4) (q 5) (q 6) (q 7) (q 8))→(q 316=q 3) :=
 fun Q => Qb Q.hn ((Zo H [263] 12 316 263 (.M .t (.A (.M (.v 250) (.v 251)) (.M (.v 249) (.v 252)))) Q.hn (by kernel_rfl)).trans Q.hd.symm)
theorem qO_pe360 (H : Zg q σ) : (QTab (q 249) (q 250) (q 251) (q 252) (q 263) (q 0) (q 1) (q 2) (q 3) (q 4) (q 5) (q 6) (q 7) (q 8))→(q 360=q 4) :=
 fun Q => Qb Q.hn ((Zo H [263] 12 360 263 (.S (.A (.S (.M (.v 249) (.v 249)) (.M (.v 250) (.v 250))) (.M (.v 251) (.v 251))) (.M (.v 252) (.v 252))) Q.hn (by kernel_rfl)).trans Q.he.symm)
theorem qO_pe402 (H : Zg q σ) : (QTab (q 249) (q 250) (q 251) (q 252) (q 263) (q 0) (q 1) (q 2) (q 3) (q 4) (q 5) (q 6) (q 7) (q 8))→(q 402=q 5) :=
 fun Q => Qb Q.hn ((Zo H [263] 12 402 263 (.M .t (.S (.M (.v 251) (.v 252)) (.M (.v 249) (.v 250)))) Q.hn (by kernel_rfl)).trans Q.hf.symm)
theorem qO_pe317 (H : Zg q σ) : (QTab (q 249) (q 250) (q 251) (q 252) (q 263) (q 0) (q 1) (q 2) (q 3) (q 4) (q 5) (q 6) (q 7) (q 8))→(q 317=q 6) :=
 fun Q => Qb Q.hn ((Zo H [263] 12 317 263 (.M .t (.S (.M (.v 250) (.v 252)) (.M (.v 249) (.v 251)))) Q.hn (by kernel_rfl)).trans Q.hg.symm)
theorem qO_pe361 (H : Zg q σ) : (QTab (q 249) (q 250) (q 251) (q 252) (q 263) (q 0) (q 1) (q 2) (q 3) (q 4) (q 5) (q 6) (q 7) (q 8))→(q 361=q 7) :=
 fun Q => Qb Q.hn ((Zo H [263] 12 361 263 (.M .t (.A (.M (.v 251) (.v 252)) (.M (.v 249) (.v 250)))) Q.hn (by kernel_rfl)).trans Q.hh.symm)
theorem qO_pe403 (H : Zg q σ) : (QTab (q 249) (q 250) (q 251) (q 252) (q 263) (q 0) (q 1) (q 2) (q 3) (q 4) (q 5) (q 6) (q 7) (q 8))→(q 403=q 8) :=
 fun Q => Qb Q.hn ((Zo H [263] 12 403 263 (.A (.S (.S (.M (.v 249) (.v 249)) (.M (.v 250) (.v 250))) (.M (.v 251) (.v 251))) (.M (.v 252) (.v 252))) Q.hn (by kernel_rfl)).trans Q.hi.symm)
theorem qO_pl54x0 (H : Zg q σ) : (¬ (q 91=0))→(¬ (q 54=q 10)) := by
 have e10:q 10=0:=(H 10 _ rfl).trans Xp;have e50:q 50=q 0*q 6:=H 50 _ rfl;have e51:q 51=q 1*q 7:=H 51 _ rfl;have e52:q 52=q 2*q 8:=H 52 _ rfl;have e53:q 53=q 50+q 51:=H 53 _ rfl;have e54:q 54=q 53+q 52:=H 54 _ rfl;have e77:q 77=q 6*q 0:=H 77 _ rfl;have e78:q 78=q 7*q 1:=H 78 _ rfl;have e79:q 79=q 8*q 2:=H 79 _ rfl;have e89:q 89=q 10+q 77:=H 89 _ rfl;have e90:q 90=q 89+q 78:=H 90 _ rfl;have e91:q 91=q 90+q 79:=H 91 _ rfl
 clear H
 intro h
 intro k; apply h
 subst_vars; grind
theorem qO_pl88x0 (H : Zg q σ) : (¬ (q 76=0))→(¬ (q 88=q 16)) := by
 have e10:q 10=0:=(H 10 _ rfl).trans Xp;have e16:q 16=1:=(H 16 _ rfl).trans UX;have e70:q 70=q 6*q 6:=H 70 _ rfl;have e71:q 71=q 10+q 70:=H 71 _ rfl;have e72:q 72=q 7*q 7:=H 72 _ rfl;have e73:q 73=q 71+q 72:=H 73 _ rfl;have e74:q 74=q 8*q 8:=H 74 _ rfl;have e75:q 75=q 73+q 74:=H 75 _ rfl;have e76:q 76=q 75-q 16:=H 76 _ rfl;have e87:q 87=q 70+q 72:=H 87 _ rfl;have e88:q 88=q 87+q 74:=H 88 _ rfl
 clear H
 intro h
 intro k; apply h
 subst_vars; grind
theorem qO_pl69x0 (H : Zg q σ) : (¬ (q 67=0))→(¬ (q 69=q 10)) := by
 have e10:q 10=0:=(H 10 _ rfl).trans Xp;have e62:q 62=q 3*q 6:=H 62 _ rfl;have e63:q 63=q 10+q 62:=H 63 _ rfl;have e64:q 64=q 4*q 7:=H 64 _ rfl;have e65:q 65=q 63+q 64:=H 65 _ rfl;have e66:q 66=q 5*q 8:=H 66 _ rfl;have e67:q 67=q 65+q 66:=H 67 _ rfl;have e68:q 68=q 62+q 64:=H 68 _ rfl;have e69:q 69=q 68+q 66:=H 69 _ rfl
 clear H
 intro h
 intro k; apply h
 subst_vars; grind
theorem qO_pl61x0 (H : Zg q σ) : (¬ (q 49=0))→(¬ (q 61=q 16)) := by
 have e10:q 10=0:=(H 10 _ rfl).trans Xp;have e16:q 16=1:=(H 16 _ rfl).trans UX;have e43:q 43=q 3*q 3:=H 43 _ rfl;have e44:q 44=q 10+q 43:=H 44 _ rfl;have e45:q 45=q 4*q 4:=H 45 _ rfl;have e46:q 46=q 44+q 45:=H 46 _ rfl;have e47:q 47=q 5*q 5:=H 47 _ rfl;have e48:q 48=q 46+q 47:=H 48 _ rfl;have e49:q 49=q 48-q 16:=H 49 _ rfl;have e60:q 60=q 43+q 45:=H 60 _ rfl;have e61:q 61=q 60+q 47:=H 61 _ rfl
 clear H
 intro h
 intro k; apply h
 subst_vars; grind
theorem qO_pl42x0 (H : Zg q σ) : (¬ (q 40=0))→(¬ (q 42=q 10)) := by
 have e10:q 10=0:=(H 10 _ rfl).trans Xp;have e35:q 35=q 0*q 3:=H 35 _ rfl;have e36:q 36=q 10+q 35:=H 36 _ rfl;have e37:q 37=q 1*q 4:=H 37 _ rfl;have e38:q 38=q 36+q 37:=H 38 _ rfl;have e39:q 39=q 2*q 5:=H 39 _ rfl;have e40:q 40=q 38+q 39:=H 40 _ rfl;have e41:q 41=q 35+q 37:=H 41 _ rfl;have e42:q 42=q 41+q 39:=H 42 _ rfl
 clear H
 intro h
 intro k; apply h
 subst_vars; grind
theorem qO_pl34x0 (H : Zg q σ) : (¬ (q 17=0))→(¬ (q 34=q 16)) := by
 have e9:q 9=q 0*q 0:=H 9 _ rfl;have e10:q 10=0:=(H 10 _ rfl).trans Xp;have e11:q 11=q 10+q 9:=H 11 _ rfl;have e12:q 12=q 1*q 1:=H 12 _ rfl;have e13:q 13=q 11+q 12:=H 13 _ rfl;have e14:q 14=q 2*q 2:=H 14 _ rfl;have e15:q 15=q 13+q 14:=H 15 _ rfl;have e16:q 16=1:=(H 16 _ rfl).trans UX;have e17:q 17=q 15-q 16:=H 17 _ rfl;have e33:q 33=q 9+q 12:=H 33 _ rfl;have e34:q 34=q 33+q 14:=H 34 _ rfl
 clear H
 intro h
 intro k; apply h
 subst_vars; grind
theorem qO_f1 {z0 z1 z2 z6 z7 z8 z10 z50 z51 z52 z53 z54 z77 z78 z79 z80 z81 : Rat} : z10=0→z50=z0*z6→z51=z1*z7→z52=z2*z8→z53=z50+z51→z54=z53+z52→z77=z6*z0→z78=z7*z1→z79=z8*z2→z80=z77+z78→z81=z80+z79→(z54=z10)→z81=z10 := by
 intro e10 e50 e51 e52 e53 e54 e77 e78 e79 e80 e81 u6
 subst_vars; grind
def JE : List (FuncId × Nat) := [(37,66),(17,65)]
def qO_G : JP := [(71,[qA [1193,1198,1199,1200],qA [1078,1082,1083,1084]],qA [1208,1227,1228,1229]),(71,[qA [1078,1079,1080,1081],(false,[(true,[.inl (.bool false),.inl (.slice none 0 0),.inl (.slice none 0 0),.inl (.bool false),.inl (.slice none 0 0),.inl (.slice none 0 0),.inl (.bool false),.inl (.slice none 0 0),.inl (.slice none 0 0),.inr (0,1,16,0,0),.inr (0,2,16,0,0),.inr (0,3,16,0,0)])])],qA [1193,1198,1199,1200]),(71,[qA [1150,1156,1157,1158],qA [1078,1082,1083,1084]],qA [1166,1185,1186,1187]),(71,[qA [1078,1079,1080,1081],(false,[(true,[.inl (.bool false),.inl (.slice none 0 0),.inl (.slice none 0 0),.inl (.bool false),.inl (.slice none 0 0),.inl (.slice none 0 0),.inr (0,1,16,0,0),.inr (0,2,16,0,0),.inr (0,3,16,0,0),.inl (.bool false),.inl (.slice none 0 0),.inl (.slice none 0 0)])])],qA [1150,1156,1157,1158]),(71,[qA [1100,1112,1113,1114],qA [1078,1082,1083,1084]],qA [1122,1141,1142,1143]),(71,[qA [1078,1079,1080,1081],(false,[(true,[.inl (.bool false),.inl (.slice none 0 0),.inl (.slice none 0 0),.inr (0,1,16,0,0),.inr (0,2,16,0,0),.inr (0,3,16,0,0),.inl (.bool false),.inl (.slice none 0 0),.inl (.slice none 0 0),.inl (.bool false),.inl (.slice none 0 0),.inl (.slice none 0 0)])])],qA [1100,1112,1113,1114]),(129,[qA [1079,1080,1081],(false,[(true,[.inl (.bool false),.inl (.slice none 0 0),.inl (.slice none 0 0)])])],qA [1103,1096,1098]),(71,[qA [1038,1042,1043,1044],(false,[(true,[.inl (.bool false),.inl (.slice none 0 0),.inl (.slice none 0 0),.inr (0,1,119,0,0),.inr (0,2,119,0,0),.inr (0,3,119,0,0),.inr (0,1,119,0,0),.inr (0,2,119,0,0),.inr (0,3,119,0,0),.inr (0,1,118,0,0),.inr (0,2,118,0,0),.inr (0,3,118,0,0)])])],qA [1052,1067,1068,1069]),(71,[(false,[(true,[.inl (.bool false),.inl (.slice none 0 0),.inl (.slice none 0 0),.inr (0,1,2,0,0),.inr (0,2,2,0,0),.inr (0,3,2,0,0),.inr (0,1,5,0,0),.inr (0,2,5,0,0),.inr (0,3,5,0,0),.inr (0,1,8,0,0),.inr (0,2,8,0,0),.inr (0,3,8,0,0)])]),(false,[(true,[.inl (.bool false),.inl (.slice none 0 0),.inl (.slice none 0 0),.inl (.bool false),.inl (.slice none 0 0),.inl (.slice none 0 0),.inl (.bool false),.inl (.slice none 0 0),.inl (.slice none 0 0),.inr (0,1,16,0,0),.inr (0,2,16,0,0),.inr (0,3,16,0,0)])])],qA [1038,1042,1043,1044]),(71,[qA [1001,1005,1006,1007],(false,[(true,[.inl (.bool false),.inl (.slice none 0 0),.inl (.slice none 0 0),.inr (0,1,119,0,0),.inr (0,2,119,0,0),.inr (0,3,119,0,0),.inr (0,1,118,0,0),.inr (0,2,118,0,0),.inr (0,3,118,0,0),.inr (0,1,119,0,0),.inr (0,2,119,0,0),.inr (0,3,119,0,0)])])],qA [1015,1030,1031,1032]),(71,[(false,[(true,[.inl (.bool false),.inl (.slice none 0 0),.inl (.slice none 0 0),.inr (0,1,1,0,0),.inr (0,2,1,0,0),.inr (0,3,1,0,0),.inr (0,1,4,0,0),.inr (0,2,4,0,0),.inr (0,3,4,0,0),.inr (0,1,7,0,0),.inr (0,2,7,0,0),.inr (0,3,7,0,0)])]),(false,[(true,[.inl (.bool false),.inl (.slice none 0 0),.inl (.slice none 0 0),.inl (.bool false),.inl (.slice none 0 0),.inl (.slice none 0 0),.inl (.bool false),.inl (.slice none 0 0),.inl (.slice none 0 0),.inr (0,1,16,0,0),.inr (0,2,16,0,0),.inr (0,3,16,0,0)])])],qA [1001,1005,1006,1007]),(71,[qA [964,968,969,970],(false,[(true,[.inl (.bool false),.inl (.slice none 0 0),.inl (.slice none 0 0),.inr (0,1,118,0,0),.inr (0,2,118,0,0),.inr (0,3,118,0,0),.inr (0,1,119,0,0),.inr (0,2,119,0,0),.inr (0,3,119,0,0),.inr (0,1,119,0,0),.inr (0,2,119,0,0),.inr (0,3,119,0,0)])])],qA [978,993,994,995]),(71,[(false,[(true,[.inl (.bool false),.inl (.slice none 0 0),.inl (.slice none 0 0),.inr (0,1,0,0,0),.inr (0,2,0,0,0),.inr (0,3,0,0,0),.inr (0,1,3,0,0),.inr (0,2,3,0,0),.inr (0,3,3,0,0),.inr (0,1,6,0,0),.inr (0,2,6,0,0),.inr (0,3,6,0,0)])]),(false,[(true,[.inl (.bool false),.inl (.slice none 0 0),.inl (.slice none 0 0),.inl (.bool false),.inl (.slice none 0 0),.inl (.slice none 0 0),.inl (.bool false),.inl (.slice none 0 0),.inl (.slice none 0 0),.inr (0,1,16,0,0),.inr (0,2,16,0,0),.inr (0,3,16,0,0)])])],qA [964,968,969,970]),(129,[(false,[(true,[.inl (.bool false),.inl (.slice none 0 0),.inl (.slice none 0 0),.inl (.bool false),.inl (.slice none 0 0),.inl (.slice none 0 0),.inr (0,1,16,0,0),.inr (0,2,16,0,0),.inr (0,3,16,0,0)])]),(false,[(true,[.inl (.bool false),.inl (.slice none 0 0),.inl (.slice none 0 0)])])],qA [105,105,408]),(71,[qA [923,928,929,930],qA [808,812,813,814]],qA [938,957,958,959]),(71,[qA [808,809,810,811],(false,[(true,[.inl (.bool false),.inl (.slice none 0 0),.inl (.slice none 0 0),.inl (.bool false),.inl (.slice none 0 0),.inl (.slice none 0 0),.inl (.bool false),.inl (.slice none 0 0),.inl (.slice none 0 0),.inr (0,1,16,0,0),.inr (0,2,16,0,0),.inr (0,3,16,0,0)])])],qA [923,928,929,930]),(71,[qA [880,886,887,888],qA [808,812,813,814]],qA [896,915,916,917]),(71,[qA [808,809,810,811],(false,[(true,[.inl (.bool false),.inl (.slice none 0 0),.inl (.slice none 0 0),.inl (.bool false),.inl (.slice none 0 0),.inl (.slice none 0 0),.inr (0,1,16,0,0),.inr (0,2,16,0,0),.inr (0,3,16,0,0),.inl (.bool false),.inl (.slice none 0 0),.inl (.slice none 0 0)])])],qA [880,886,887,888]),(71,[qA [830,842,843,844],qA [808,812,813,814]],qA [852,871,872,873]),(71,[qA [808,809,810,811],(false,[(true,[.inl (.bool false),.inl (.slice none 0 0),.inl (.slice none 0 0),.inr (0,1,16,0,0),.inr (0,2,16,0,0),.inr (0,3,16,0,0),.inl (.bool false),.inl (.slice none 0 0),.inl (.slice none 0 0),.inl (.bool false),.inl (.slice none 0 0),.inl (.slice none 0 0)])])],qA [830,842,843,844]),(129,[qA [809,810,811],(false,[(true,[.inl (.bool false),.inl (.slice none 0 0),.inl (.slice none 0 0)])])],qA [833,826,828]),(98,[qA [761,762,763,764],qA [782,797,798,799]],qA [800,801,802,803]),(71,[qA [767,772,773,774],(false,[(true,[.inl (.bool false),.inl (.slice none 0 0),.inl (.slice none 0 0),.inr (0,1,119,0,0),.inr (0,2,119,0,0),.inr (0,3,119,0,0),.inr (0,1,119,0,0),.inr (0,2,119,0,0),.inr (0,3,119,0,0),.inr (0,1,118,0,0),.inr (0,2,118,0,0),.inr (0,3,118,0,0)])])],qA [782,797,798,799]),(71,[(false,[(true,[.inl (.bool false),.inl (.slice none 0 0),.inl (.slice none 0 0),.inr (0,1,2,0,0),.inr (0,2,2,0,0),.inr (0,3,2,0,0),.inr (0,1,5,0,0),.inr (0,2,5,0,0),.inr (0,3,5,0,0),.inr (0,1,8,0,0),.inr (0,2,8,0,0),.inr (0,3,8,0,0)])]),(false,[(true,[.inl (.bool false),.inl (.slice none 0 0),.inl (.slice none 0 0),.inl (.bool false),.inl (.slice none 0 0),.inl (.slice none 0 0),.inr (0,1,16,0,0),.inr (0,2,16,0,0),.inr (0,3,16,0,0),.inl (.bool false),.inl (.slice none 0 0),.inl (.slice none 0 0)])])],qA [767,772,773,774]),(98,[qA [722,723,724,725],qA [743,758,759,760]],qA [761,762,763,764]),(71,[qA [728,733,734,735],(false,[(true,[.inl (.bool false),.inl (.slice none 0 0),.inl (.slice none 0 0),.inr (0,1,119,0,0),.inr (0,2,119,0,0),.inr (0,3,119,0,0),.inr (0,1,118,0,0),.inr (0,2,118,0,0),.inr (0,3,118,0,0),.inr (0,1,119,0,0),.inr (0,2,119,0,0),.inr (0,3,119,0,0)])])],qA [743,758,759,760]),(71,[(false,[(true,[.inl (.bool false),.inl (.slice none 0 0),.inl (.slice none 0 0),.inr (0,1,1,0,0),.inr (0,2,1,0,0),.inr (0,3,1,0,0),.inr (0,1,4,0,0),.inr (0,2,4,0,0),.inr (0,3,4,0,0),.inr (0,1,7,0,0),.inr (0,2,7,0,0),.inr (0,3,7,0,0)])]),(false,[(true,[.inl (.bool false),.inl (.slice none 0 0),.inl (.slice none 0 0),.inl (.bool false),.inl (.slice none 0 0),.inl (.slice none 0 0),.inr (0,1,16,0,0),.inr (0,2,16,0,0),.inr (0,3,16,0,0),.inl (.bool false),.inl (.slice none 0 0),.inl (.slice none 0 0)])])],qA [728,733,734,735]),(98,[(false,[(true,[.inl (.bool false),.inl (.slice none 0 0),.inl (.slice none 0 0),.inl (.bool false),.inl (.slice none 0 0),.inl (.slice none 0 0),.inr (0,1,16,0,0),.inr (0,2,16,0,0),.inr (0,3,16,0,0),.inl (.bool false),.inl (.slice none 0 0),.inl (.slice none 0 0)])]),qA [704,719,720,721]],qA [722,723,724,725]),(71,[qA [689,694,695,696],(false,[(true,[.inl (.bool false),.inl (.slice none 0 0),.inl (.slice none 0 0),.inr (0,1,118,0,0),.inr (0,2,118,0,0),.inr (0,3,118,0,0),.inr (0,1,119,0,0),.inr (0,2,119,0,0),.inr (0,3,119,0,0),.inr (0,1,119,0,0),.inr (0,2,119,0,0),.inr (0,3,119,0,0)])])],qA [704,719,720,721]),(71,[(false,[(true,[.inl (.bool false),.inl (.slice none 0 0),.inl (.slice none 0 0),.inr (0,1,0,0,0),.inr (0,2,0,0,0),.inr (0,3,0,0,0),.inr (0,1,3,0,0),.inr (0,2,3,0,0),.inr (0,3,3,0,0),.inr (0,1,6,0,0),.inr (0,2,6,0,0),.inr (0,3,6,0,0)])]),(false,[(true,[.inl (.bool false),.inl (.slice none 0 0),.inl (.slice none 0 0),.inl (.bool false),.inl (.slice none 0 0),.inl (.slice none 0 0),.inr (0,1,16,0,0),.inr (0,2,16,0,0),.inr (0,3,16,0,0),.inl (.bool false),.inl (.slice none 0 0),.inl (.slice none 0 0)])])],qA [689,694,695,696]),(129,[(false,[(true,[.inl (.bool false),.inl (.slice none 0 0),.inl (.slice none 0 0),.inr (0,1,16,0,0),.inr (0,2,16,0,0),.inr (0,3,16,0,0),.inl (.bool false),.inl (.slice none 0 0),.inl (.slice none 0 0)])]),(false,[(true,[.inl (.bool false),.inl (.slice none 0 0),.inl (.slice none 0 0)])])],qA [105,408,105]),(71,[qA [647,652,653,654],qA [532,536,537,538]],qA [662,681,682,683]),(71,[qA [532,533,534,535],(false,[(true,[.inl (.bool false),.inl (.slice none 0 0),.inl (.slice none 0 0),.inl (.bool false),.inl (.slice none 0 0),.inl (.slice none 0 0),.inl (.bool false),.inl (.slice none 0 0),.inl (.slice none 0 0),.inr (0,1,16,0,0),.inr (0,2,16,0,0),.inr (0,3,16,0,0)])])],qA [647,652,653,654]),(71,[qA [604,610,611,612],qA [532,536,537,538]],qA [620,639,640,641]),(71,[qA [532,533,534,535],(false,[(true,[.inl (.bool false),.inl (.slice none 0 0),.inl (.slice none 0 0),.inl (.bool false),.inl (.slice none 0 0),.inl (.slice none 0 0),.inr (0,1,16,0,0),.inr (0,2,16,0,0),.inr (0,3,16,0,0),.inl (.bool false),.inl (.slice none 0 0),.inl (.slice none 0 0)])])],qA [604,610,611,612]),(71,[qA [554,566,567,568],qA [532,536,537,538]],qA [576,595,596,597]),(71,[qA [532,533,534,535],(false,[(true,[.inl (.bool false),.inl (.slice none 0 0),.inl (.slice none 0 0),.inr (0,1,16,0,0),.inr (0,2,16,0,0),.inr (0,3,16,0,0),.inl (.bool false),.inl (.slice none 0 0),.inl (.slice none 0 0),.inl (.bool false),.inl (.slice none 0 0),.inl (.slice none 0 0)])])],qA [554,566,567,568]),(129,[qA [533,534,535],(false,[(true,[.inl (.bool false),.inl (.slice none 0 0),.inl (.slice none 0 0)])])],qA [557,550,552]),(98,[qA [483,484,485,486],qA [506,521,522,523]],qA [524,525,526,527]),(71,[qA [490,496,497,498],(false,[(true,[.inl (.bool false),.inl (.slice none 0 0),.inl (.slice none 0 0),.inr (0,1,119,0,0),.inr (0,2,119,0,0),.inr (0,3,119,0,0),.inr (0,1,119,0,0),.inr (0,2,119,0,0),.inr (0,3,119,0,0),.inr (0,1,118,0,0),.inr (0,2,118,0,0),.inr (0,3,118,0,0)])])],qA [506,521,522,523]),(71,[(false,[(true,[.inl (.bool false),.inl (.slice none 0 0),.inl (.slice none 0 0),.inr (0,1,2,0,0),.inr (0,2,2,0,0),.inr (0,3,2,0,0),.inr (0,1,5,0,0),.inr (0,2,5,0,0),.inr (0,3,5,0,0),.inr (0,1,8,0,0),.inr (0,2,8,0,0),.inr (0,3,8,0,0)])]),(false,[(true,[.inl (.bool false),.inl (.slice none 0 0),.inl (.slice none 0 0),.inr (0,1,16,0,0),.inr (0,2,16,0,0),.inr (0,3,16,0,0),.inl (.bool false),.inl (.slice none 0 0),.inl (.slice none 0 0),.inl (.bool false),.inl (.slice none 0 0),.inl (.slice none 0 0)])])],qA [490,496,497,498]),(129,[qA [2,5,8],(false,[(true,[.inl (.bool false),.inl (.slice none 0 0),.inl (.slice none 0 0)])])],qA [197,199,201]),(98,[qA [442,443,444,445],qA [465,480,481,482]],qA [483,484,485,486]),(71,[qA [449,455,456,457],(false,[(true,[.inl (.bool false),.inl (.slice none 0 0),.inl (.slice none 0 0),.inr (0,1,119,0,0),.inr (0,2,119,0,0),.inr (0,3,119,0,0),.inr (0,1,118,0,0),.inr (0,2,118,0,0),.inr (0,3,118,0,0),.inr (0,1,119,0,0),.inr (0,2,119,0,0),.inr (0,3,119,0,0)])])],qA [465,480,481,482]),(71,[(false,[(true,[.inl (.bool false),.inl (.slice none 0 0),.inl (.slice none 0 0),.inr (0,1,1,0,0),.inr (0,2,1,0,0),.inr (0,3,1,0,0),.inr (0,1,4,0,0),.inr (0,2,4,0,0),.inr (0,3,4,0,0),.inr (0,1,7,0,0),.inr (0,2,7,0,0),.inr (0,3,7,0,0)])]),(false,[(true,[.inl (.bool false),.inl (.slice none 0 0),.inl (.slice none 0 0),.inr (0,1,16,0,0),.inr (0,2,16,0,0),.inr (0,3,16,0,0),.inl (.bool false),.inl (.slice none 0 0),.inl (.slice none 0 0),.inl (.bool false),.inl (.slice none 0 0),.inl (.slice none 0 0)])])],qA [449,455,456,457]),(129,[qA [1,4,7],(false,[(true,[.inl (.bool false),.inl (.slice none 0 0),.inl (.slice none 0 0)])])],qA [149,151,153]),(98,[(false,[(true,[.inl (.bool false),.inl (.slice none 0 0),.inl (.slice none 0 0),.inr (0,1,16,0,0),.inr (0,2,16,0,0),.inr (0,3,16,0,0),.inl (.bool false),.inl (.slice none 0 0),.inl (.slice none 0 0),.inl (.bool false),.inl (.slice none 0 0),.inl (.slice none 0 0)])]),qA [424,439,440,441]],qA [442,443,444,445]),(71,[qA [407,414,415,416],(false,[(true,[.inl (.bool false),.inl (.slice none 0 0),.inl (.slice none 0 0),.inr (0,1,118,0,0),.inr (0,2,118,0,0),.inr (0,3,118,0,0),.inr (0,1,119,0,0),.inr (0,2,119,0,0),.inr (0,3,119,0,0),.inr (0,1,119,0,0),.inr (0,2,119,0,0),.inr (0,3,119,0,0)])])],qA [424,439,440,441]),(71,[(false,[(true,[.inl (.bool false),.inl (.slice none 0 0),.inl (.slice none 0 0),.inr (0,1,0,0,0),.inr (0,2,0,0,0),.inr (0,3,0,0,0),.inr (0,1,3,0,0),.inr (0,2,3,0,0),.inr (0,3,3,0,0),.inr (0,1,6,0,0),.inr (0,2,6,0,0),.inr (0,3,6,0,0)])]),(false,[(true,[.inl (.bool false),.inl (.slice none 0 0),.inl (.slice none 0 0),.inr (0,1,16,0,0),.inr (0,2,16,0,0),.inr (0,3,16,0,0),.inl (.bool false),.inl (.slice none 0 0),.inl (.slice none 0 0),.inl (.bool false),.inl (.slice none 0 0),.inl (.slice none 0 0)])])],qA [407,414,415,416]),(129,[qA [0,3,6],(false,[(true,[.inl (.bool false),.inl (.slice none 0 0),.inl (.slice none 0 0)])])],qA [98,100,102]),(129,[(false,[(true,[.inr (0,1,16,0,0),.inr (0,2,16,0,0),.inr (0,3,16,0,0),.inl (.bool false),.inl (.slice none 0 0),.inl (.slice none 0 0),.inl (.bool false),.inl (.slice none 0 0),.inl (.slice none 0 0)])]),(false,[(true,[.inl (.bool false),.inl (.slice none 0 0),.inl (.slice none 0 0)])])],qA [408,105,105]),(71,[qA [364,369,370,371],qA [249,253,254,255]],qA [379,398,399,400]),(71,[qA [249,250,251,252],(false,[(true,[.inl (.bool false),.inl (.slice none 0 0),.inl (.slice none 0 0),.inl (.bool false),.inl (.slice none 0 0),.inl (.slice none 0 0),.inl (.bool false),.inl (.slice none 0 0),.inl (.slice none 0 0),.inr (0,1,16,0,0),.inr (0,2,16,0,0),.inr (0,3,16,0,0)])])],qA [364,369,370,371]),(71,[qA [321,327,328,329],qA [249,253,254,255]],qA [337,356,357,358]),(71,[qA [249,250,251,252],(false,[(true,[.inl (.bool false),.inl (.slice none 0 0),.inl (.slice none 0 0),.inl (.bool false),.inl (.slice none 0 0),.inl (.slice none 0 0),.inr (0,1,16,0,0),.inr (0,2,16,0,0),.inr (0,3,16,0,0),.inl (.bool false),.inl (.slice none 0 0),.inl (.slice none 0 0)])])],qA [321,327,328,329]),(71,[qA [271,283,284,285],qA [249,253,254,255]],qA [293,312,313,314]),(71,[qA [249,250,251,252],(false,[(true,[.inl (.bool false),.inl (.slice none 0 0),.inl (.slice none 0 0),.inr (0,1,16,0,0),.inr (0,2,16,0,0),.inr (0,3,16,0,0),.inl (.bool false),.inl (.slice none 0 0),.inl (.slice none 0 0),.inl (.bool false),.inl (.slice none 0 0),.inl (.slice none 0 0)])])],qA [271,283,284,285]),(129,[qA [250,251,252],(false,[(true,[.inl (.bool false),.inl (.slice none 0 0),.inl (.slice none 0 0)])])],qA [274,267,269]),(98,[qA [193,194,195,196],qA [223,238,239,240]],qA [241,242,243,244]),(71,[qA [203,213,214,215],(false,[(true,[.inl (.bool false),.inl (.slice none 0 0),.inl (.slice none 0 0),.inr (0,1,119,0,0),.inr (0,2,119,0,0),.inr (0,3,119,0,0),.inr (0,1,119,0,0),.inr (0,2,119,0,0),.inr (0,3,119,0,0),.inr (0,1,118,0,0),.inr (0,2,118,0,0),.inr (0,3,118,0,0)])])],qA [223,238,239,240]),(100,[(false,[(true,[.inl (.bool false),.inl (.slice none 0 0),.inl (.slice none 0 0),.inl (.bool false),.inl (.slice none 0 0),.inl (.slice none 0 0),.inl (.bool false),.inl (.slice none 0 0),.inl (.slice none 0 0),.inr (0,1,16,0,0),.inr (0,2,16,0,0),.inr (0,3,16,0,0)])])],(false,[(true,[.inl (.bool false),.inl (.slice none 0 0),.inl (.slice none 0 0),.inr (0,1,119,0,0),.inr (0,2,119,0,0),.inr (0,3,119,0,0),.inr (0,1,119,0,0),.inr (0,2,119,0,0),.inr (0,3,119,0,0),.inr (0,1,118,0,0),.inr (0,2,118,0,0),.inr (0,3,118,0,0)])])),(71,[(false,[(true,[.inl (.bool false),.inl (.slice none 0 0),.inl (.slice none 0 0),.inr (0,1,2,0,0),.inr (0,2,2,0,0),.inr (0,3,2,0,0),.inr (0,1,5,0,0),.inr (0,2,5,0,0),.inr (0,3,5,0,0),.inr (0,1,8,0,0),.inr (0,2,8,0,0),.inr (0,3,8,0,0)])]),(false,[(true,[.inr (0,1,16,0,0),.inr (0,2,16,0,0),.inr (0,3,16,0,0),.inl (.bool false),.inl (.slice none 0 0),.inl (.slice none 0 0),.inl (.bool false),.inl (.slice none 0 0),.inl (.slice none 0 0),.inl (.bool false),.inl (.slice none 0 0),.inl (.slice none 0 0)])])],qA [203,213,214,215]),(98,[qA [145,146,147,148],qA [175,190,191,192]],qA [193,194,195,196]),(71,[qA [155,165,166,167],(false,[(true,[.inl (.bool false),.inl (.slice none 0 0),.inl (.slice none 0 0),.inr (0,1,119,0,0),.inr (0,2,119,0,0),.inr (0,3,119,0,0),.inr (0,1,118,0,0),.inr (0,2,118,0,0),.inr (0,3,118,0,0),.inr (0,1,119,0,0),.inr (0,2,119,0,0),.inr (0,3,119,0,0)])])],qA [175,190,191,192]),(100,[(false,[(true,[.inl (.bool false),.inl (.slice none 0 0),.inl (.slice none 0 0),.inl (.bool false),.inl (.slice none 0 0),.inl (.slice none 0 0),.inr (0,1,16,0,0),.inr (0,2,16,0,0),.inr (0,3,16,0,0),.inl (.bool false),.inl (.slice none 0 0),.inl (.slice none 0 0)])])],(false,[(true,[.inl (.bool false),.inl (.slice none 0 0),.inl (.slice none 0 0),.inr (0,1,119,0,0),.inr (0,2,119,0,0),.inr (0,3,119,0,0),.inr (0,1,118,0,0),.inr (0,2,118,0,0),.inr (0,3,118,0,0),.inr (0,1,119,0,0),.inr (0,2,119,0,0),.inr (0,3,119,0,0)])])),(71,[(false,[(true,[.inl (.bool false),.inl (.slice none 0 0),.inl (.slice none 0 0),.inr (0,1,1,0,0),.inr (0,2,1,0,0),.inr (0,3,1,0,0),.inr (0,1,4,0,0),.inr (0,2,4,0,0),.inr (0,3,4,0,0),.inr (0,1,7,0,0),.inr (0,2,7,0,0),.inr (0,3,7,0,0)])]),(false,[(true,[.inr (0,1,16,0,0),.inr (0,2,16,0,0),.inr (0,3,16,0,0),.inl (.bool false),.inl (.slice none 0 0),.inl (.slice none 0 0),.inl (.bool false),.inl (.slice none 0 0),.inl (.slice none 0 0),.inl (.bool false),.inl (.slice none 0 0),.inl (.slice none 0 0)])])],qA [155,165,166,167]),(98,[(false,[(true,[.inr (0,1,16,0,0),.inr (0,2,16,0,0),.inr (0,3,16,0,0),.inl (.bool false),.inl (.slice none 0 0),.inl (.slice none 0 0),.inl (.bool false),.inl (.slice none 0 0),.inl (.slice none 0 0),.inl (.bool false),.inl (.slice none 0 0),.inl (.slice none 0 0)])]),qA [127,142,143,144]],qA [145,146,147,148]),(71,[qA [104,115,116,117],(false,[(true,[.inl (.bool false),.inl (.slice none 0 0),.inl (.slice none 0 0),.inr (0,1,118,0,0),.inr (0,2,118,0,0),.inr (0,3,118,0,0),.inr (0,1,119,0,0),.inr (0,2,119,0,0),.inr (0,3,119,0,0),.inr (0,1,119,0,0),.inr (0,2,119,0,0),.inr (0,3,119,0,0)])])],qA [127,142,143,144]),(100,[(false,[(true,[.inl (.bool false),.inl (.slice none 0 0),.inl (.slice none 0 0),.inr (0,1,16,0,0),.inr (0,2,16,0,0),.inr (0,3,16,0,0),.inl (.bool false),.inl (.slice none 0 0),.inl (.slice none 0 0),.inl (.bool false),.inl (.slice none 0 0),.inl (.slice none 0 0)])])],(false,[(true,[.inl (.bool false),.inl (.slice none 0 0),.inl (.slice none 0 0),.inr (0,1,118,0,0),.inr (0,2,118,0,0),.inr (0,3,118,0,0),.inr (0,1,119,0,0),.inr (0,2,119,0,0),.inr (0,3,119,0,0),.inr (0,1,119,0,0),.inr (0,2,119,0,0),.inr (0,3,119,0,0)])])),(71,[(false,[(true,[.inl (.bool false),.inl (.slice none 0 0),.inl (.slice none 0 0),.inr (0,1,0,0,0),.inr (0,2,0,0,0),.inr (0,3,0,0,0),.inr (0,1,3,0,0),.inr (0,2,3,0,0),.inr (0,3,3,0,0),.inr (0,1,6,0,0),.inr (0,2,6,0,0),.inr (0,3,6,0,0)])]),(false,[(true,[.inr (0,1,16,0,0),.inr (0,2,16,0,0),.inr (0,3,16,0,0),.inl (.bool false),.inl (.slice none 0 0),.inl (.slice none 0 0),.inl (.bool false),.inl (.slice none 0 0),.inl (.slice none 0 0),.inl (.bool false),.inl (.slice none 0 0),.inl (.slice none 0 0)])])],qA [104,115,116,117]),(129,[(false,[(true,[.inl (.bool false),.inl (.slice none 0 0),.inl (.slice none 0 0),.inl (.bool false),.inl (.slice none 0 0),.inl (.slice none 0 0),.inl (.bool false),.inl (.slice none 0 0),.inl (.slice none 0 0)])]),(false,[(true,[.inl (.bool false),.inl (.slice none 0 0),.inl (.slice none 0 0)])])],qA [105,105,105]),(96,[qA [0,1,2,3,4,5,6,7,8]],qA [0,3,6,1,4,7,2,5,8]),(94,[qA [0,1,2,3,4,5,6,7,8]],qA [96]),(93,[qA [6,7,8],qA [0,1,2]],qA [91]),(76,[qA [6,7,8]],qA [75]),(93,[qA [3,4,5],qA [6,7,8]],qA [67]),(76,[qA [3,4,5]],qA [48]),(93,[qA [0,1,2],qA [3,4,5]],qA [40]),(24,[rA [0,1,2,3,4,5,6,7,8]],r1 32),(23,[pA [0,1,2,3,4,5,6,7,8]],rA [0,1,2,3,4,5,6,7,8]),(76,[qA [0,1,2]],qA [15]),(52,[pA [0,1,2,3,4,5,6,7,8]],qA [0,1,2,3,4,5,6,7,8])]
theorem qO_g0 : Zj (sx Tryz.prog qO_N [] [] Ya Yg Yb (prC [11])) JE 5 4 (qO_G.drop 0)=true := by kernel_rfl
theorem qO_g1 : Zj (sx Tryz.prog qO_N [] [] Ya Yg Yb (prC [11])) JE 5 5 (qO_G.drop 4)=true := by kernel_rfl
theorem qO_g2 : Zj (sx Tryz.prog qO_N [] [] Ya Yg Yb (prC [11])) JE 5 5 (qO_G.drop 9)=true := by kernel_rfl
theorem qO_g3 : Zj (sx Tryz.prog qO_N [] [] Ya Yg Yb (prC [11])) JE 5 4 (qO_G.drop 14)=true := by kernel_rfl
theorem qO_g4 : Zj (sx Tryz.prog qO_N [] [] Ya Yg Yb (prC [11])) JE 5 6 (qO_G.drop 18)=true := by kernel_rfl
theorem qO_g5 : Zj (sx Tryz.prog qO_N [] [] Ya Yg Yb (prC [11])) JE 5 6 (qO_G.drop 24)=true := by kernel_rfl
theorem qO_g6 : Zj (sx Tryz.prog qO_N [] [] Ya Yg Yb (prC [11])) JE 5 5 (qO_G.drop 30)=true := by kernel_rfl
theorem qO_g7 : Zj (sx Tryz.prog qO_N [] [] Ya Yg Yb (prC [11])) JE 5 6 (qO_G.drop 35)=true := by kernel_rfl
theorem qO_g8 : Zj (sx Tryz.prog qO_N [] [] Ya Yg Yb (prC [11])) JE 5 8 (qO_G.drop 41)=true := by kernel_rfl
theorem qO_g9 : Zj (sx Tryz.prog qO_N [] [] Ya Yg Yb (prC [11])) JE 5 6 (qO_G.drop 49)=true := by kernel_rfl
theorem qO_g10 : Zj (sx Tryz.prog qO_N [] [] Ya Yg Yb (prC [11])) JE 5 7 (qO_G.drop 55)=true := by kernel_rfl
theorem qO_g11 : Zj (sx Tryz.prog qO_N [] [] Ya Yg Yb (prC [11])) JE 5 7 (qO_G.drop 62)=true := by kernel_rfl
theorem qO_g12 : Zj (sx Tryz.prog qO_N [] [] Ya Yg Yb (prC [11])) JE 5 13 (qO_G.drop 69)=true := by kernel_rfl
theorem Ja {q : Nat→Rat} {σ : Nat→ByteArray} {w : World} (hσ : ∀ j,(σ j).size≤1048576) (hq : ∀ (a : Nat) nd,qO_N[a]? = some nd→q a=Zr σ q nd) (h0 : ∀ a,qO_N.length≤a→q a=0) (hp : Zy w) : Zw qO_N Ya Yg Yb q σ [11] w qO_G := by
 have Y : Hy qO_N [] Ya Yg Yb q σ := Vt hσ Aw qO_sz qO_lt qO_cn hq h0 trivial
 have hc : ∀ f ∈ ([11] : List FuncId),Closed f := by simp [ZK]
 have hm : (Tryz.prog).follows .mixedOrders=true := by kernel_rfl
 exact (QN (M := qO_G.drop 0) Y hc hm hp 4 qO_g0 (QN (M := qO_G.drop 4) Y hc hm hp 5 qO_g1 (QN (M := qO_G.drop 9) Y hc hm hp 5 qO_g2 (QN (M := qO_G.drop 14) Y hc hm hp 4 qO_g3 (QN (M := qO_G.drop 18) Y hc hm hp 6 qO_g4 (QN (M := qO_G.drop 24) Y hc hm hp 6 qO_g5 (QN (M := qO_G.drop 30) Y hc hm hp 5 qO_g6 (QN (M := qO_G.drop 35) Y hc hm hp 6 qO_g7 (QN (M := qO_G.drop 41) Y hc hm hp 8 qO_g8 (QN (M := qO_G.drop 49) Y hc hm hp 6 qO_g9 (QN (M := qO_G.drop 55) Y hc hm hp 7 qO_g10 (QN (M := qO_G.drop 62) Y hc hm hp 7 qO_g11 (QN (M := qO_G.drop 69) Y hc hm hp 13 qO_g12 XX)))))))))))))
def qO_H0 : List (Nat × Nat × Nat × Nat) := [(0,17,0,1),(0,40,0,1),(0,49,0,1),(0,67,0,1),(0,76,0,1),(0,91,0,1),(2,96,0,1),(0,241,0,1),(0,242,0,1),(0,243,0,1),(0,244,0,1),(0,10,0,1),(0,524,0,1),(0,525,0,1),(0,526,0,1),(0,527,0,1),(0,800,0,1),(0,801,0,1),(0,802,0,1),(0,803,0,1),(0,1070,0,1),(0,1071,0,1),(0,1072,0,1),(0,1073,0,0),(2,32,0,1),(3,34,16,1),(3,42,10,1),(3,54,10,1),(3,59,10,1),(3,61,16,1),(3,69,10,1),(3,81,10,1),(3,86,10,1),(3,88,16,1),(0,1092,0,0),(0,1074,0,1),(0,1075,0,1),(0,1076,0,1),(0,1077,0,0),(3,1077,16,1),(3,1144,0,1),(3,1188,1,1),(3,1230,2,1),(3,1145,3,1),(3,1189,4,1),(3,1231,5,1),(3,1146,6,1),(3,1190,7,1),(3,1232,8,1)]
def qO_H1 : List (Nat × Nat × Nat × Nat) := [(0,17,0,1),(0,40,0,1),(0,49,0,1),(0,67,0,1),(0,76,0,1),(0,91,0,1),(2,96,0,1),(0,241,0,1),(0,242,0,1),(0,243,0,1),(0,244,0,1),(0,10,0,1),(0,524,0,1),(0,525,0,1),(0,526,0,1),(0,527,0,1),(0,800,0,1),(0,801,0,1),(0,802,0,0),(2,32,0,1),(3,34,16,1),(3,42,10,1),(3,54,10,1),(3,59,10,1),(3,61,16,1),(3,69,10,1),(3,81,10,1),(3,86,10,1),(3,88,16,1),(0,822,0,0),(0,804,0,1),(0,805,0,1),(0,806,0,0),(3,806,16,1),(3,874,0,1),(3,918,1,1),(3,960,2,1),(3,875,3,1),(3,919,4,1),(3,961,5,1),(3,876,6,1),(3,920,7,1),(3,962,8,1)]
def qO_H2 : List (Nat × Nat × Nat × Nat) := [(0,17,0,1),(0,40,0,1),(0,49,0,1),(0,67,0,1),(0,76,0,1),(0,91,0,1),(2,96,0,1),(0,241,0,1),(0,242,0,1),(0,243,0,1),(0,244,0,1),(0,10,0,1),(0,524,0,1),(0,525,0,0),(2,32,0,1),(3,34,16,1),(3,42,10,1),(3,54,10,1),(3,59,10,1),(3,61,16,1),(3,69,10,1),(3,81,10,1),(3,86,10,1),(3,88,16,1),(0,546,0,0),(0,528,0,1),(0,529,0,0),(3,529,16,1),(3,598,0,1),(3,642,1,1),(3,684,2,1),(3,599,3,1),(3,643,4,1),(3,685,5,1),(3,600,6,1),(3,644,7,1),(3,686,8,1)]
def qO_H3 : List (Nat × Nat × Nat × Nat) := [(0,17,0,1),(0,40,0,1),(0,49,0,1),(0,67,0,1),(0,76,0,1),(0,91,0,1),(2,96,0,1),(0,241,0,0),(2,32,0,1),(3,34,16,1),(3,42,10,1),(3,54,10,1),(3,59,10,1),(3,61,16,1),(3,69,10,1),(3,81,10,1),(3,86,10,1),(3,88,16,1),(0,263,0,0),(0,245,0,0),(3,245,16,1),(3,315,0,1),(3,359,1,1),(3,401,2,1),(3,316,3,1),(3,360,4,1),(3,402,5,1),(3,317,6,1),(3,361,7,1),(3,403,8,1)]
def qO_H4 : List (Nat × Nat × Nat × Nat) := [(0,17,0,1),(0,40,0,1),(0,49,0,1),(0,67,0,1),(0,76,0,1),(0,91,0,1),(2,96,0,0),(2,32,0,0)]
def qO_H5 : List (Nat × Nat × Nat × Nat) := [(0,17,0,1),(0,40,0,1),(0,49,0,1),(0,67,0,1),(0,76,0,1),(0,91,0,0),(2,32,0,1),(3,34,16,1),(3,42,10,1),(3,54,10,0)]
def qO_H6 : List (Nat × Nat × Nat × Nat) := [(0,17,0,1),(0,40,0,1),(0,49,0,1),(0,67,0,1),(0,76,0,1),(0,91,0,0),(2,32,0,0)]
def qO_H7 : List (Nat × Nat × Nat × Nat) := [(0,17,0,1),(0,40,0,1),(0,49,0,1),(0,67,0,1),(0,76,0,0),(2,32,0,1),(3,34,16,1),(3,42,10,1),(3,54,10,1),(3,59,10,1),(3,61,16,1),(3,69,10,1),(3,81,10,1),(3,86,10,1),(3,88,16,0)]
def qO_H8 : List (Nat × Nat × Nat × Nat) := [(0,17,0,1),(0,40,0,1),(0,49,0,1),(0,67,0,1),(0,76,0,0),(2,32,0,1),(3,34,16,1),(3,42,10,1),(3,54,10,0)]
def qO_H9 : List (Nat × Nat × Nat × Nat) := [(0,17,0,1),(0,40,0,1),(0,49,0,1),(0,67,0,1),(0,76,0,0),(2,32,0,0)]
def qO_H10 : List (Nat × Nat × Nat × Nat) := [(0,17,0,1),(0,40,0,1),(0,49,0,1),(0,67,0,0),(2,32,0,1),(3,34,16,1),(3,42,10,1),(3,54,10,1),(3,59,10,1),(3,61,16,1),(3,69,10,0)]
def qO_H11 : List (Nat × Nat × Nat × Nat) := [(0,17,0,1),(0,40,0,1),(0,49,0,1),(0,67,0,0),(2,32,0,1),(3,34,16,1),(3,42,10,1),(3,54,10,0)]
def qO_H12 : List (Nat × Nat × Nat × Nat) := [(0,17,0,1),(0,40,0,1),(0,49,0,1),(0,67,0,0),(2,32,0,0)]
def qO_H13 : List (Nat × Nat × Nat × Nat) := [(0,17,0,1),(0,40,0,1),(0,49,0,0),(2,32,0,1),(3,34,16,1),(3,42,10,1),(3,54,10,1),(3,59,10,1),(3,61,16,0)]
def qO_H14 : List (Nat × Nat × Nat × Nat) := [(0,17,0,1),(0,40,0,1),(0,49,0,0),(2,32,0,1),(3,34,16,1),(3,42,10,1),(3,54,10,0)]
def qO_H15 : List (Nat × Nat × Nat × Nat) := [(0,17,0,1),(0,40,0,1),(0,49,0,0),(2,32,0,0)]
def qO_H16 : List (Nat × Nat × Nat × Nat) := [(0,17,0,1),(0,40,0,0),(2,32,0,1),(3,34,16,1),(3,42,10,0)]
def qO_H17 : List (Nat × Nat × Nat × Nat) := [(0,17,0,1),(0,40,0,0),(2,32,0,0)]
def qO_H18 : List (Nat × Nat × Nat × Nat) := [(0,17,0,0),(2,32,0,1),(3,34,16,0)]
def qO_H19 : List (Nat × Nat × Nat × Nat) := [(0,17,0,0),(2,32,0,0)]
end Go.Proofs.YtmdfngmjoaigjaaGreatDoor
