/- Part 13 of the walks and of the mathematics under them: VP VPC VY VSZ VSA CFspun PLY VPD VPE MQK. -/
import Derived.Test.YtmdfngmjoaigjaaGreatDoorA2
import Derived.Test.YtmdfngmjoaigjaaGreatDoorA12
import Derived.Test.YtmdfngmjoaigjaaGreatDoorA11
set_option maxHeartbeats 16000000
set_option maxRecDepth 100000
/- VP -/
namespace Cx
open Go Go.RowKit
abbrev Hs := List (Nat × Nat × Nat × Nat)
def Sx.plus (S : Sx) (X : Hs) : Sx := { S with H := X ++ S.H }
abbrev Ask := Nat × Nat × Nat × Nat
def XB (a : Nat) : Ask := (0,a,0,a)
def JL (S : Sx) : Ask→Bool
 | (k,a,b,d) => (Nat.beq k 0 && (Nat.beq b 0 && Nat.beq d a)) || (Nat.beq k 3 && (match S.N[d]? with
  | some (op,ar) => Nat.beq op 3 && Rq ar [a,b]
  | none => false))
def Yt (S : Sx) (a b : Nat) : List Nat→List Nat→Option (List Ask)
 | c :: l,d :: m => (S.nd 4 [a,d]).bind fun x => (S.nd 4 [c,b]).bind fun y => (S.nd 3 [x,y]).bind fun z => (Yt S a b l m).map fun r => (3,x,y,z) :: r
 | _,_ => some []
def UI (S : Sx) : List Nat→List Nat→List Nat→List Nat→Option (List Ask)
 | pl,pm,a :: l,b :: m => (Yt S a b pl pm).bind fun r => (UI S (pl ++ [a]) (pm ++ [b]) l m).map fun t => r ++ t
 | _,_,_,_ => some []
def OL (S : Sx) : List Nat→List Nat→Option (List Ask)
 | a :: l,b :: m => (S.nd 3 [a,b]).bind fun d => (OL S l m).map fun r => (3,a,b,d) :: r
 | _,_ => some []
def asks (S : Sx) (h : List HB) (code : Nat) (args : List AV) : Option (List Ask) :=
 match code with
 | 60 => arg1 (fun x => (asA x).bind fun cs => (WY S cs).map fun l => l.map XB) args
 | 61 => arg1 (fun x => (YW h 1 x).bind fun p => (Zi (acX 0) p.2).map fun l => l.map XB) args
 | 62 => Ua (fun x y => (YW h 1 x).bind fun p => (Zi (acX 0) p.2).bind fun l => (YW h 1 y).bind fun p' => (Zi (acX 0) p'.2).bind fun m => UI S [] [] l m) args
 | 63 => arg1 (fun x => (asA x).bind fun cs => (Zi Jx cs).bind fun l => (Rp S l).map fun xs => xs.map XB) args
 | 69 => arg1 (fun x => (asA x).bind fun cs => (Zi (UQ S) cs).map fun l => l.map XB) args
 | 67 => arg1 (fun x => (asA x).bind fun cs => (Zi (UQ S) (cs.take 3)).map fun l => l.map XB) args
 | 65 => arg1 (fun x => (asA x).bind fun cs => (Zi (acX 0) cs).map fun l => l.map XB) args
 | 66 => Ua (fun x y => (asA x).bind fun cs => (asA y).bind fun ds => (Zi (acX 0) cs).bind fun l => (Zi (acX 0) ds).bind fun m => OL S l m) args
 | 64 => arg1 (fun x => (asA x).bind fun cs => (WY S cs).map fun l => (l.take 5).map XB) args
 | 68 => Ua (fun x _ => (asA x).bind fun cs => (WY S cs).map fun l => (l.take 5).map XB) args
 | _ => none
def Jd : List Ask→Hs→List Hs
 | [],_ => []
 | (k,a,b,_) :: l,X => ((k,a,b,0) :: X) :: Jd l ((k,a,b,1) :: X)
def Ub : List Ask→Hs→Hs
 | [],X => X
 | (k,a,b,_) :: l,X => Ub l ((k,a,b,1) :: X)
def Zv (S : Sx) (call : ZN) : ZN := fun f args h nx => S.P.funcs[f]?.bind fun fn => fn.body.bind fun c => ifO (Nat.ble args.length fn.ntmps) ((OH S call fn.ntmps c { tm := Ki 0 args,h := h,nx := nx }).bind fun r =>
   ifO (Nat.ble r.1 1) ((Zi (Dv S.P r.2) fn.results.toList).map fun xs => (Mw xs,r.2.h,r.2.nx)))
abbrev XV := Option (AV × List HB × Nat)
def acZ : AC→Option Nat
 | .inr (k,j,a,x,y) => ifO (Nat.beq k 0 && (Nat.beq j 7 && (Nat.beq x 0 && Nat.beq y 0))) (some a)
 | _ => none
def UA (S : Sx) (v : AV) : AV := match (asC v).bind (acX 4) with
 | some n => (match S.N[n]? with
  | some (_,[a,b]) => (match S.nd 4 [a,b],S.kn 0 a 0 with
   | some m,some r => bif Nat.beq m n && !Nat.beq 1 r then v1 (.inr (0,7,b,0,0)) else v
   | _,_ => v)
  | _ => v)
 | none => v
def JH (S : Sx) (r : XV) : XV := r.map fun p => (UA S p.1,p.2)
def Oa (v : AV) : Option (Bool ⊕ Nat) := match asB v with
 | some b => some (.inl b)
 | none => ((asC v).bind acZ).map .inr
def Rt : Bool ⊕ Nat→AV
 | .inl b => kB b
 | .inr a => v1 (.inr (0,7,a,0,0))
def UP : Bool ⊕ Nat→Bool ⊕ Nat→Bool
 | .inl b,.inl c => b == c
 | .inr a,.inr b => Nat.beq a b
 | _,_ => false
def Uu (h : List HB) (b : Bool ⊕ Nat) (hi : Nat) : XV→Bool
 | some (v,h',nx') => (match Oa v with
  | some c => UP b c
  | none => false) && (Nat.ble nx' hi && h.all fun x => h'.any fun y => Nat.beq y.1 x.1 && Iu x.2 y.2)
 | none => false
def WZ : Nat→List XV→Nat
 | m,[] => m
 | m,some p :: rs => WZ (bif Nat.ble m p.2.2 then p.2.2 else m) rs
 | m,none :: rs => WZ m rs
def XK (h : List HB) (nx : Nat) (rs : List XV) : XV :=
 match rs with
 | some p :: _ => (Oa p.1).bind fun b => ifO (rs.all (Uu h b (WZ nx rs))) (some (Rt b,h,WZ nx rs))
 | _ => none
def YR (S : Sx) (X : Hs) (h : List HB) (c : Nat) (args : List AV) : Option (List Ask × Nat) :=
 (asks (S.plus X) h c args).bind fun l => ifO (l.all (JL S)) ((sqN S (l.map (·.2.2.2))).bind fun s => ((S.plus X).kn 0 s 0).map fun r => (l,r))
theorem JZ {S : Sx} {X : Hs} {h : List HB} {c : Nat} {args : List AV} {l : List Ask} {r : Nat} (e : YR S X h c args=some (l,r)) : (∀ a ∈ l,JL S a=true)∧∃ s,sqN S (l.map (·.2.2.2))=some s∧(S.plus X).kn 0 s 0=some r := by
 unfold YR at e
 simp only [Option.bind_eq_some_iff,ifO_some,Option.map_eq_some_iff,List.all_eq_true,Prod.mk.injEq] at e
 obtain ⟨l',_,h1,s,h2,r',h3,rfl,rfl⟩ := e
 exact ⟨h1,s,h2,h3⟩
def ZC (S : Sx) (cs : List (FuncId × Nat)) : Nat→Hs→ZN
 | 0,_,_,_,_,_ => none
 | n+1,X,f,args,h,nx => match Wp f cs with
  | none => Zv (S.plus X) (ZC S cs n X) f args h nx
  | some c => match YR S X h c args with
   | none => Zv (S.plus X) (ZC S cs n X) f args h nx
   | some (l,r) => bif Nat.beq 1 r then Zv (S.plus (Ub l X)) (ZC S cs n (Ub l X)) f args h nx
    else XK h nx ((Jd l X).map fun X' => JH (S.plus X') (Zv (S.plus X') (ZC S cs n X') f args h nx))
section
variable {S : Sx} {E : Ev S.nb} {w0 : World}
theorem Yi {call : ZN} (hm : S.P.follows .mixedOrders=true) (N : Knows S E) (hP : JI S E w0) (hC : Zl S E w0 call) : Zl S E w0 (Zv S call) := fun f args h nx p hp γ w vs hi hA hb hlt hf => by
 unfold Zv at hp
 simp only [Option.bind_eq_some_iff,ifO_some,Option.map_eq_some_iff,Nat.ble_eq] at hp
 obtain ⟨fn,h1,c,h2,h3,⟨e,s'⟩,h4,h5,xs,h6,rfl⟩ := hp
 dsimp only at h5 h6
 rcases (show e=0 ∨ e=1 by omega) with rfl | rfl
 all_goals
  obtain ⟨_,_,r⟩ := Xr hm N hP hC c _ _ _ h4
  refine calls_of_wp h1 h2 (r γ _ w _ ⟨hi,fun t v q => ?_,hb,hlt,?_,rfl⟩ hf fun a' w' γ' hef hs => ?_)
  ·obtain ⟨_,q2⟩ := Vu q
   rw [Nat.sub_zero] at q2
   obtain ⟨u,hu,hv⟩ := hA.get q2
   have hlt : t < vs.length := (List.getElem?_eq_some_iff.1 hu).1
   have : (vs.toArray ++ Array.replicate (fn.ntmps - vs.toArray.size) undef).getD t undef=u := by
    rw [Array.getD_eq_getD_getElem?,Array.getElem?_append_left (by simpa using hlt)]
    simp [hu]
   show avOn _ v ((vs.toArray ++ Array.replicate (fn.ntmps - vs.toArray.size) undef).getD t undef)
   rw [this]
   exact hv
  ·have := hA.len
   simp
   omega
  ·obtain ⟨v,hv,hx⟩ := YE hs h6
   exact ⟨hs.df,v,hv,v,γ',rfl,hef,hx,hs.bx⟩
theorem Ru {v : AV} {b : Bool} (h : asB v=some b) : v=kB b := by
 unfold asB at h
 rw [Option.bind_eq_some_iff] at h
 obtain ⟨c,h1,h2⟩ := h
 unfold asC at h1
 split at h1
 ·cases h1
  unfold acB at h2
  split at h2
  ·cases h2
   rfl
  ·cases h2
 ·cases h1
theorem WW {v : AV} {k : Bool ⊕ Nat} (h : Oa v=some k) : v=Rt k := by
 unfold Oa at h
 split at h
 ·rename_i b hb
  cases h
  exact Ru hb
 ·rw [Option.map_eq_some_iff] at h
  obtain ⟨a,h,rfl⟩ := h
  rw [Option.bind_eq_some_iff] at h
  obtain ⟨c,h1,h2⟩ := h
  unfold asC at h1
  split at h1
  ·cases h1
   unfold acZ at h2
   split at h2
   ·rw [ifO_some,Bool.and_eq_true,Bool.and_eq_true,Bool.and_eq_true,Nat.beq_eq,Nat.beq_eq,Nat.beq_eq,Nat.beq_eq] at h2
    obtain ⟨⟨rfl,rfl,rfl,rfl⟩,h3⟩ := h2
    cases h3
    rfl
   ·cases h2
  ·cases h1
theorem UC {a b : Bool ⊕ Nat} (h : UP a b=true) : a=b := by
 unfold UP at h
 split at h
 ·rename_i x y
  have : x=y := by simpa using h
  rw [this]
 ·rw [Nat.beq_eq] at h
  rw [h]
 ·cases h
theorem YJ (q : Rat) : Xa q=0 ↔ q=0 := by
 unfold Xa
 split
 ·rename_i hlt
  constructor
  ·intro q; cases q
  ·intro q; rw [q] at hlt; exact absurd hlt (by decide)
 ·split <;> simp_all
theorem UB (N : Knows S E) {γ : Nat→Option Nat} {w : World} {v : AV} {r : Value} (h : avOn (cOn E S.K γ w) v r) : avOn (cOn E S.K γ w) (UA S v) r := by
 unfold UA
 split
 ·rename_i n hn
  rw [Option.bind_eq_some_iff] at hn
  obtain ⟨c,h1,h2⟩ := hn
  split
  ·split
   ·rename_i a b _ _ _ m r' hm hr
    cases e : (Nat.beq m n && !Nat.beq 1 r') with
    | true =>
     rw [Bool.and_eq_true,Nat.beq_eq,Bool.not_eq_true'] at e
     obtain ⟨rfl,e2⟩ := e
     have ez := (N.x4 _ _ _).1 (YU h2 (Zk h1 h))
     refine ZE ((N.x7 _ _ _).2 ⟨_,ez,?_⟩)
     have hz : ¬ E.q a=0 := fun q => by rw [(N.k0 a r' hr).2 q] at e2; cases e2
     rw [YJ,N.k7 _ _ _ hm]
     constructor
     ·exact fun q => (Rat.mul_eq_zero.1 q).resolve_left hz
     ·intro q
      rw [q,Rat.mul_zero]
    | false => exact h
   ·exact h
  ·exact h
 ·exact h
theorem Vq {X : Hs} {call : ZN} (N : Knows (S.plus X) E) (hC : Zl S E w0 call) : Zl S E w0 (fun f args h nx => JH (S.plus X) (call f args h nx)) := fun f args h nx p hp => by
 replace hp : JH (S.plus X) (call f args h nx)=some p := hp
 unfold JH at hp
 rw [Option.map_eq_some_iff] at hp
 obtain ⟨p0,hp0,rfl⟩ := hp
 intro γ w vs hi hA hb hlt hf
 refine (hC f args h nx p0 hp0 γ w vs hi hA hb hlt hf).mono ?_
 rintro _ w' ⟨r',γ',rfl,hef,hv,hx⟩
 exact ⟨r',γ',rfl,hef,UB (S := S.plus X) N hv,hx⟩
theorem JX {h : List HB} {b : Bool ⊕ Nat} {hi : Nat} {r : XV} (hr : Uu h b hi r=true) : ∃ h' nx',r=some (Rt b,h',nx')∧nx'≤hi∧∀ x ∈ h,x ∈ h' := by
 unfold Uu at hr
 split at hr
 ·rename_i v h' nx'
  rw [Bool.and_eq_true,Bool.and_eq_true,Nat.ble_eq,List.all_eq_true] at hr
  obtain ⟨h1,h2,h3⟩ := hr
  refine ⟨h',nx',?_,h2,fun x hx => ?_⟩
  ·split at h1
   ·rename_i c hc
    rw [WW hc,UC h1]
   ·cases h1
  ·have := h3 x hx
   rw [List.any_eq_true] at this
   obtain ⟨y,hy,e⟩ := this
   rw [Bool.and_eq_true,Nat.beq_eq] at e
   have : x=y := Prod.ext e.1.symm (XZ e.2)
   rw [this]
   exact hy
 ·cases hr
variable {T : Hs→Prop} {z : Nat→Prop}
def ZF (S : Sx) (T : Hs→Prop) (z : Nat→Prop) : Prop := ∀ X,T X→∀ a,JL S a=true→(z a.2.2.2→T ((a.1,a.2.1,a.2.2.1,1) :: X))∧(¬ z a.2.2.2→T ((a.1,a.2.1,a.2.2.1,0) :: X))
theorem ZV (hk : ZF S T z) : ∀ {l : List Ask} {X : Hs},T X→(∀ a ∈ l,JL S a=true)→(∀ a ∈ l,z a.2.2.2)→T (Ub l X)
 | [],_,h,_,_ => h
 | (k,a,b,d) :: l,X,h,ho,hz => ZV (l := l) hk ((hk X h (k,a,b,d) (ho _ List.mem_cons_self)).1 (hz _ List.mem_cons_self)) (fun a ha => ho a (List.mem_cons_of_mem _ ha)) (fun a ha => hz a (List.mem_cons_of_mem _ ha))
theorem ZD (hk : ZF S T z) : ∀ {l : List Ask} {X : Hs},T X→(∀ a ∈ l,JL S a=true)→(∃ a ∈ l,¬ z a.2.2.2)→∃ X' ∈ Jd l X,T X'
 | [],_,_,_,⟨_,h,_⟩ => by cases h
 | (k,a,b,d) :: l,X,h,ho,hz => by
  by_cases e : z d
  ·obtain ⟨X',h1,h2⟩ := ZD (l := l) hk ((hk X h (k,a,b,d) (ho _ List.mem_cons_self)).1 e) (fun a ha => ho a (List.mem_cons_of_mem _ ha)) (by
    obtain ⟨c,hc,hn⟩ := hz
    rcases List.mem_cons.1 hc with rfl | hc
    ·exact (hn e).elim
    ·exact ⟨c,hc,hn⟩)
   exact ⟨X',List.mem_cons_of_mem _ h1,h2⟩
  ·exact ⟨_,List.mem_cons_self,(hk X h (k,a,b,d) (ho _ List.mem_cons_self)).2 e⟩
theorem YB {cs : List (FuncId × Nat)} (hm : S.P.follows .mixedOrders=true) (hN : ∀ X,T X→Knows (S.plus X) E) (hP : ∀ X,T X→JI (S.plus X) E w0) (hk : ZF S T z)
  (hs : ∀ X,T X→∀ l s r,sqN S l=some s→(S.plus X).kn 0 s 0=some r→(Nat.beq 1 r=true→∀ d ∈ l,z d)∧(Nat.beq 1 r=false→∃ d ∈ l,¬ z d)) : ∀ n X,T X→Zl S E w0 (ZC S cs n X)
 | 0,_,_ => fun _ _ _ _ _ h => by cases h
 | n+1,X,hX => fun f args h nx p hp => by
  have body : ∀ Y,T Y→Zl S E w0 (Zv (S.plus Y) (ZC S cs n Y)) := fun Y hY => Yi (S := S.plus Y) hm (hN Y hY) (hP Y hY) (YB hm hN hP hk hs n Y hY)
  unfold ZC at hp
  split at hp
  ·exact body X hX f args h nx p hp
  ·split at hp
   ·exact body X hX f args h nx p hp
   rename_i l r hk'
   obtain ⟨hl,s,h1,h2⟩ := JZ hk'
   have h3 := hp
   obtain ⟨a1,a0⟩ := hs X hX _ s r h1 h2
   cases e : Nat.beq 1 r with
   | true =>
    rw [e] at h3
    exact body _ (ZV hk hX hl fun a ha => a1 e _ (List.mem_map_of_mem ha)) f args h nx p h3
   | false =>
    rw [e] at h3
    obtain ⟨d,hd,hz⟩ := a0 e
    obtain ⟨a,ha,rfl⟩ := List.mem_map.1 hd
    obtain ⟨X',m1,m2⟩ := ZD hk hX hl ⟨a,ha,hz⟩
    replace h3 : XK h nx ((Jd l X).map fun X' => JH (S.plus X') (Zv (S.plus X') (ZC S cs n X') f args h nx))=some p := h3
    unfold XK at h3
    split at h3
    ·rename_i p0 rs hrs
     rw [Option.bind_eq_some_iff] at h3
     obtain ⟨b,hb,h4⟩ := h3
     rw [ifO_some,List.all_eq_true] at h4
     obtain ⟨h5,h6⟩ := h4
     cases h6
     obtain ⟨h',nx',q1,q2,q3⟩ := JX (h5 _ (List.mem_map_of_mem m1))
     intro γ w vs hi hA hb hlt hf
     refine (Vq (hN X' m2) (body X' m2) f args h nx _ q1 γ w vs hi hA hb hlt fun b g1 g2 => hf b g1 (Nat.lt_of_lt_of_le g2 q2)).mono ?_
     rintro _ w' ⟨r',γ',rfl,hef,hv,hx⟩
     exact ⟨r',γ',rfl,hef.wide (Nat.le_refl _) q2,hv,fun x hh => hx x (q3 x hh)⟩
    ·cases h3
end
end Cx
/- VPC -/
namespace Go.Proofs.YtmdfngmjoaigjaaGreatDoor
open Cx Go Go.RowKit
section
variable {N : List Nd} {H : List (Nat × Nat × Nat × Nat)} {K : List (FuncId × List AC)} {L C : List (List Nat × Nat)} {Z : List Nat} {q : Nat→Rat} {σ : Nat→ByteArray} {w0 : World} {cl : List FuncId} {cs pr : List (FuncId × Nat)}
theorem QK {k a b k' a' b' r' : Nat} {r : Nat} (h : JG k a b ((k',a',b',r') :: H)=some r) : (k=k'∧a=a'∧b=b'∧r=r') ∨ JG k a b H=some r := by
 unfold JG at h
 cases e : (Nat.beq k k' && (Nat.beq a a' && Nat.beq b b')) with
 | true =>
  rw [e] at h
  simp only [Bool.and_eq_true,Nat.beq_eq] at e
  exact Or.inl ⟨e.1,e.2.1,e.2.2,(Option.some.inj h).symm⟩
 | false =>
  rw [e] at h
  exact Or.inr h
theorem Hy.add0 (Y : Hy N H L C Z q σ) {a r : Nat} (h : Nat.beq 1 r=true ↔ q a=0) : Hy N ((0,a,0,r) :: H) L C Z q σ where
 nat := Y.nat
 qs := Y.qs
 zs := Y.zs
 par := Y.par
 lit := Y.lit
 k0 := fun a' r' g => by
  rcases QK g with ⟨_,e1,_,e2⟩ | g
  ·rw [e1,e2]
   exact h
  ·exact Y.k0 a' r' g
 k1 := fun a' r' g => by
  rcases QK g with ⟨e,_⟩ | g
  ·cases e
  ·exact Y.k1 a' r' g
 k2 := fun a' r' g => by
  rcases QK g with ⟨e,_⟩ | g
  ·cases e
  ·exact Y.k2 a' r' g
 k4 := fun l a' b' r' g1 g => by
  rcases QK g with ⟨e,_⟩ | g
  ·cases e
  ·exact Y.k4 l a' b' r' g1 g
 k3 := fun a' b' r' g => by
  rcases QK g with ⟨e,_⟩ | g
  ·cases e
  ·exact Y.k3 a' b' r' g
 k6 := fun a' b' r' g => by
  rcases QK g with ⟨e,_⟩ | g
  ·cases e
  ·exact Y.k6 a' b' r' g
 k5 := fun a' r' g => by
  rcases QK g with ⟨e,_⟩ | g
  ·cases e
  ·exact Y.k5 a' r' g
theorem Hy.add3 (Y : Hy N H L C Z q σ) {a b r : Nat} (h : Nat.beq 1 r=true ↔ q a=q b) : Hy N ((3,a,b,r) :: H) L C Z q σ where
 nat := Y.nat
 qs := Y.qs
 zs := Y.zs
 par := Y.par
 lit := Y.lit
 k0 := fun a' r' g => by
  rcases QK g with ⟨e,_⟩ | g
  ·cases e
  ·exact Y.k0 a' r' g
 k1 := fun a' r' g => by
  rcases QK g with ⟨e,_⟩ | g
  ·cases e
  ·exact Y.k1 a' r' g
 k2 := fun a' r' g => by
  rcases QK g with ⟨e,_⟩ | g
  ·cases e
  ·exact Y.k2 a' r' g
 k4 := fun l a' b' r' g1 g => by
  rcases QK g with ⟨e,_⟩ | g
  ·cases e
  ·exact Y.k4 l a' b' r' g1 g
 k3 := fun a' b' r' g => by
  rcases QK g with ⟨_,e1,e2,e3⟩ | g
  ·rw [e1,e2,e3]
   exact h
  ·exact Y.k3 a' b' r' g
 k6 := fun a' b' r' g => by
  rcases QK g with ⟨e,_⟩ | g
  ·cases e
  ·exact Y.k6 a' b' r' g
 k5 := fun a' r' g => by
  rcases QK g with ⟨e,_⟩ | g
  ·cases e
  ·exact Y.k5 a' r' g
theorem Yj : ZF (sx Tryz.prog N H K L C Z pr) (fun X => Hy N (X ++ H) L C Z q σ) (fun d => q d=0) := fun X Y a ha => by
 obtain ⟨k,a,b,d⟩ := a
 have t1 : Nat.beq 1 1=true := rfl
 have t0 : Nat.beq 1 0 ≠ true := fun h => by cases h
 unfold JL at ha
 rw [Bool.or_eq_true] at ha
 rcases ha with ha | ha
 ·simp only [Bool.and_eq_true,Nat.beq_eq] at ha
  obtain ⟨rfl,rfl,rfl⟩ := ha
  exact ⟨fun h => Hy.add0 Y ⟨fun _ => h,fun _ => t1⟩,fun h => Hy.add0 Y ⟨fun g => (t0 g).elim,fun g => (h g).elim⟩⟩
 ·rw [Bool.and_eq_true,Nat.beq_eq] at ha
  obtain ⟨rfl,hb⟩ := ha
  split at hb
  ·rename_i op ar hn
   rw [Bool.and_eq_true,Nat.beq_eq] at hb
   obtain ⟨rfl,hb⟩ := hb
   have e := Ug hb
   subst e
   have hv : q d=q a - q b := Y.nat d _ hn
   have h2 : q d=0 ↔ q a=q b := by
    rw [hv]
    constructor <;> intro h <;> grind
   exact ⟨fun h => Hy.add3 Y ⟨fun _ => h2.1 h,fun _ => t1⟩,fun h => Hy.add3 Y ⟨fun g => (t0 g).elim,fun g => (h (h2.2 g)).elim⟩⟩
  ·cases hb
theorem Vg (y : Rat) : 0≤y*y := by
 by_cases h : y=0
 ·rw [h,Rat.zero_mul]
  exact Rat.le_refl
 ·exact Rat.le_of_lt (Rw h)
theorem Ij {x y : Rat} (hx : 0≤x) : x+y*y=0 ↔ x=0∧y=0 := by
 constructor
 ·intro h
  have h2 := Vg y
  have h3 : x=0 := by grind
  refine ⟨h3,?_⟩
  have : y*y=0 := by grind
  rcases Rat.mul_eq_zero.1 this with g | g <;> exact g
 ·rintro ⟨rfl,rfl⟩
  grind
theorem Yp {H' : List (Nat × Nat × Nat × Nat)} (Y : Hy N H' L C Z q σ) : ∀ {l : List Nat} {s t : Nat},sqF (sx Tryz.prog N H K L C Z pr) s l=some t→0≤q s→0≤q t∧(q t=0 ↔ q s=0∧∀ d ∈ l,q d=0)
 | [],s,t,h,hs => by
  cases h
  exact ⟨hs,fun e => ⟨e,fun d hd => by cases hd⟩,fun e => e.1⟩
 | a :: l,s,t,h,hs => by
  unfold sqF at h
  simp only [Option.bind_eq_some_iff] at h
  obtain ⟨b,h1,c,h2,h3⟩ := h
  have e1 : q b=q a*q a := Hy.nd (H := H') (K := K) (pr := pr) Y h1
  have e2 : q c=q s+q b := Hy.nd (H := H') (K := K) (pr := pr) Y h2
  have n := Vg (q a)
  obtain ⟨g1,g2⟩ := Yp Y h3 (by grind)
  refine ⟨g1,g2.trans ?_⟩
  have e3 := Ij (y := q a) hs
  rw [e2,e1,e3]
  constructor
  ·rintro ⟨⟨x,y⟩,z⟩
   refine ⟨x,fun d hd => ?_⟩
   rcases List.mem_cons.1 hd with rfl | hd
   ·exact y
   ·exact z d hd
  ·rintro ⟨x,y⟩
   exact ⟨⟨x,y a List.mem_cons_self⟩,fun d hd => y d (List.mem_cons_of_mem _ hd)⟩
theorem Vl {H' : List (Nat × Nat × Nat × Nat)} (Y : Hy N H' L C Z q σ) {l : List Nat} {s : Nat} (h : sqN (sx Tryz.prog N H K L C Z pr) l=some s) : q s=0 ↔ ∀ d ∈ l,q d=0 := by
 unfold sqN at h
 split at h
 ·cases h
 ·rename_i a l
  rw [Option.bind_eq_some_iff] at h
  obtain ⟨b,h1,h2⟩ := h
  have e1 : q b=q a*q a := Hy.nd (H := H') (K := K) (pr := pr) Y h1
  have n := Vg (q a)
  obtain ⟨_,g⟩ := Yp Y h2 (by grind)
  rw [g,e1]
  constructor
  ·rintro ⟨x,y⟩ d hd
   rcases List.mem_cons.1 hd with rfl | hd
   ·rcases Rat.mul_eq_zero.1 x with x | x <;> exact x
   ·exact y d hd
  ·intro y
   refine ⟨?_,fun d hd => y d (List.mem_cons_of_mem _ hd)⟩
   rw [y a List.mem_cons_self,Rat.zero_mul]
theorem Wc {f : FuncId} {args : List AV} {vs : List Value} {k : Nat} {p : List HB × Nat} {b : Bool} (Y : Hy N H L C Z q σ) (hm : (Tryz.prog).follows .mixedOrders=true) {w : World} (hP : ∀ H',Hy N H' L C Z q σ→JI (sx Tryz.prog N H' K L C Z pr) (evS q σ) w) (hr : ZC (sx Tryz.prog N H K L C Z pr) cs k [] f args [] 0=some (kB b,p))
  (hA : A2 (avOn (cOn (evS q σ) K (fun _ => none) w)) args vs) : Calls Tryz.prog f vs.toArray w fun e w' => Below w.heap.size w w'∧e=.returned (.bool b) := by
 refine (YB (S := sx Tryz.prog N H K L C Z pr) (E := evS q σ) (w0 := w) (T := fun X => Hy N (X ++ H) L C Z q σ) (z := fun d => q d=0) hm (fun X hX => GM hX) (fun X hX => hP _ hX) Yj ?_ k [] Y f args [] 0 (kB b,p) hr (fun _ => none) w vs ⟨Below.refl _ _,(fun _ _ h => by cases h)⟩ hA (fun x hx => by cases hx) (fun x hx => by cases hx) (fun _ _ _ => rfl)).mono ?_
 ·intro X hX l s r h1 h2
  have e := hX.k0 s r h2
  have g := Vl hX h1
  refine ⟨fun h => g.1 (e.1 h),fun h => ?_⟩
  have hn : ¬ ∀ d ∈ l,q d=0 := fun q' => by
   rw [e.2 (g.2 q')] at h
   cases h
  simpa using hn
 ·rintro _ w' ⟨r,γ',rfl,hef,hv,_⟩
  exact ⟨hef.wi.bel,by rw [show r=.bool b from (Zk (v := kB b) (c := .inl (.bool b)) rfl hv).1]⟩
theorem UZ {f : FuncId} {args : List AV} {vs : List Value} {k : Nat} {p : List HB × Nat} {b : Bool} (Y : Hy N H L C Z q σ) (hc : ∀ f ∈ cl,Closed f) (hm : (Tryz.prog).follows .mixedOrders=true) (hr : ZC (sx Tryz.prog N H K L C Z (prC cl)) cs k [] f args [] 0=some (kB b,p)) {w : World} (hp : Zy w)
  (hA : A2 (avOn (cOn (evS q σ) K (fun _ => none) w)) args vs) : Calls Tryz.prog f vs.toArray w fun e w' => Below w.heap.size w w'∧e=.returned (.bool b) := Wc Y hm (fun _ Y' => Rf Y' hp hc) hr hA
theorem Vs {f : FuncId} {args : List AV} {vs : List Value} (k : Nat) (Y : Hy N H L C Z q σ) (hc : ∀ f ∈ cl,Closed f) (hm : (Tryz.prog).follows .mixedOrders=true) (hr : (ZC (sx Tryz.prog N H K L C Z (prC cl)) cs k [] f args [] 0).map (·.1)=some (kB true)) {w : World} (hp : Zy w)
  (hA : A2 (avOn (cOn (evS q σ) K (fun _ => none) w)) args vs) : Calls Tryz.prog f vs.toArray w fun e w' => Below w.heap.size w w'∧e=.returned (.bool true) := by
 rw [Option.map_eq_some_iff] at hr
 obtain ⟨⟨v,p⟩,h1,h2⟩ := hr
 dsimp only at h2
 subst h2
 exact UZ Y hc hm h1 hp hA
end
end Go.Proofs.YtmdfngmjoaigjaaGreatDoor
/- VY -/
namespace Go.Proofs.YtmdfngmjoaigjaaGreatDoor
open Go.RowKit Cx
theorem Ob (t : Rat) : t*(t.den : Rat)=((t.num : Int) : Rat) := by
 conv => lhs; lhs; rw [← Rat.mkRat_self t]
 have h0 : (t.den : Rat) ≠ 0 := fun h => t.den_nz (by exact_mod_cast h)
 rw [Rat.mkRat_eq_div,Rat.div_mul_cancel h0]
theorem whole {q : Rat} (h : q.den=1) : q=((q.num : Int) : Rat) := by
 have := Ob q
 rw [h] at this
 rw [← this]
 show q=q*((1 : Nat) : Rat)
 exact (Rat.mul_one q).symm
end Go.Proofs.YtmdfngmjoaigjaaGreatDoor
/- VSZ -/
namespace Go.Proofs.YtmdfngmjoaigjaaGreatDoor
open Go.RowKit Cx
structure QW (z : Nat) (x : Rat) : Prop where
 qs : QS z x
 wh : x.den=1
theorem QW.of {z : Nat} {n : Int} (h : n.natAbs < 2 ^ z) (hz : 0 < z) : QW z ((n : Int) : Rat) :=
 ⟨⟨by simpa using h,by
  show ((n : Int) : Rat).den < 2 ^ z
  rw [Rat.den_intCast]
  exact Nat.one_lt_two_pow (by omega)⟩,Rat.den_intCast n⟩
theorem QW.mono {k l : Nat} {x : Rat} (h : QW k x) (hk : k≤l) : QW l x := ⟨h.qs.mono hk,h.wh⟩
theorem Ys {a b x y : Nat} (h1 : a < 2 ^ x) (h2 : b < 2 ^ y) : a+b < 2 ^ (Nat.max x y+1) := by
 have e1 : 2 ^ x≤2 ^ Nat.max x y := Nat.pow_le_pow_right (by decide) (Nat.le_max_left x y)
 have e2 : 2 ^ y≤2 ^ Nat.max x y := Nat.pow_le_pow_right (by decide) (Nat.le_max_right x y)
 rw [Nat.pow_succ]
 omega
theorem QW.add {x y : Nat} {a b : Rat} (h1 : QW x a) (h2 : QW y b) : QW (Nat.max x y+1) (a+b) := by
 rw [whole h1.wh,whole h2.wh,← Rat.intCast_add]
 refine QW.of ?_ (by omega)
 have := Ys h1.qs.num h2.qs.num
 omega
theorem QW.sub {x y : Nat} {a b : Rat} (h1 : QW x a) (h2 : QW y b) : QW (Nat.max x y+1) (a - b) := by
 rw [whole h1.wh,whole h2.wh,← Rat.intCast_sub]
 refine QW.of ?_ (by omega)
 have := Ys h1.qs.num h2.qs.num
 omega
theorem QW.mul {x y : Nat} {a b : Rat} (h1 : QW x a) (h2 : QW y b) : QW (x+y) (a*b) := by
 refine ⟨h1.qs.mul h2.qs,?_⟩
 rw [whole h1.wh,whole h2.wh,← Rat.intCast_mul]
 exact Rat.den_intCast _
theorem QW.neg {x : Nat} {a : Rat} (h1 : QW x a) : QW x (-a) := ⟨h1.qs.neg,h1.wh⟩
theorem JQ : ∀ n : Nat,10 ^ n≤2 ^ ((10*n+2) / 3)
 | 0 => by decide
 | 1 => by decide
 | 2 => by decide
 | n+3 => by
  have h := JQ n
  have e : (10*(n+3)+2) / 3=(10*n+2) / 3+10 := by omega
  rw [e,Nat.pow_add,Nat.pow_add]
  exact Nat.mul_le_mul h (by decide)
theorem QS.rd3 (l : List UInt8) : QS ((10*l.length+2) / 3+5) (Cx.rd l) := by
 have key : ∀ {m : List UInt8},JY m=true→dv m < 2 ^ ((10*m.length+2) / 3) := fun {m} h => Nat.lt_of_lt_of_le (GZ (Xb h)) (JQ _)
 unfold Cx.rd
 split
 ·rename_i h
  rw [Bool.and_eq_true] at h
  have h1 := key h.1
  have h2 := key h.2
  have h3 := Pm (QU l)
  have h4 := TP (QU l)
  have h5 := Ix l
  apply QS.mkr
  ·rw [UD]; exact Nat.lt_of_lt_of_le h1 (Nat.pow_le_pow_right (by decide) (by omega))
  ·exact Nat.lt_of_lt_of_le h2 (Nat.pow_le_pow_right (by decide) (by omega))
 ·exact QS.zero.mono (by omega)
section
variable {N : List Nd} {Z : List Nat} {I : List Bool} {q : Nat→Rat}
end
end Go.Proofs.YtmdfngmjoaigjaaGreatDoor
/- VSA -/
namespace Go.Proofs.YtmdfngmjoaigjaaGreatDoor
open Go.RowKit Cx
def inB : Nat := 3495259
abbrev Atm := Nat × Nat
def XC (x : Atm) : List Atm→Option (List Atm)
 | [] => none
 | y :: l => bif Nat.beq x.1 y.1 && Nat.beq x.2 y.2 then some l else (XC x l).map (y :: ·)
def Ze : List Atm→List Atm→Option (List Atm)
 | l,[] => some l
 | l,x :: r => (XC x l).bind fun l' => Ze l' r
def Xu : List Atm→List Atm→List Atm
 | _,[] => []
 | U,x :: D => match XC x U with
  | some U' => Xu U' D
  | none => x :: Xu U D
def Xv (E : List (Nat × List Atm)) : List Nat→List Atm→List Atm
 | [],U => U
 | a :: l,U => Xv E l (match E[a]? with
  | some p => U ++ Xu U p.2
  | none => U)
def GP (E : List (Nat × List Atm)) (x : Atm) : Nat := match x.1 with
 | 0 => inB
 | 1 => (match E[x.2]? with
  | some p => p.1
  | none => 1)
 | _ => Nat.log2 x.2+1
def Jo (E : List (Nat × List Atm)) : List Atm→Nat
 | [] => 1
 | x :: l => GP E x+Jo E l
def JU (l : Option (List Atm)) : Bool := match l with
 | some [] => true
 | _ => false
def saN (E : List (Nat × List Atm)) (k z : Nat) (D : List Atm) (nd : Nd) : Bool := (Nat.blt 0 z && D.all fun x => !Nat.beq x.1 1 || Nat.blt x.2 k) && match nd.1,nd.2 with
 | 0,[_,n,d] => (Nat.blt n (2 ^ z) && Nat.blt 0 d) && JU (Ze D (bif Nat.beq d 1 then [] else [(2,d)]))
 | 1,[j] => Nat.ble inB z && JU (Ze D [(0,j)])
 | 2,[a,b] => (match E[a]?,E[b]? with
  | some p,some r => (match Ze D p.2,Ze D r.2 with
   | some c,some e => Nat.ble (Nat.max (p.1+Jo E c) (r.1+Jo E e)+1) z
   | _,_ => false)
  | _,_ => false)
 | 3,[a,b] => (match E[a]?,E[b]? with
  | some p,some r => (match Ze D p.2,Ze D r.2 with
   | some c,some e => Nat.ble (Nat.max (p.1+Jo E c) (r.1+Jo E e)+1) z
   | _,_ => false)
  | _,_ => false)
 | 4,[a,b] => (match E[a]?,E[b]? with
  | some p,some r => (match Ze D p.2 with
   | some c => JU (Ze c r.2) && Nat.ble (p.1+r.1) z
   | _ => false)
  | _,_ => false)
 | 5,[a] => (match E[a]? with
  | some p => JU (Ze D p.2) && Nat.ble p.1 z
  | _ => false)
 | 6,[a,b] => (match E[a]?,E[b]?,XC (1,b) D with
  | some p,some r,some D' => (match Ze p.2 D' with
   | some c => (match Ze r.2 c with
    | some e => Nat.ble (p.1+Jo E e) z
    | none => false)
   | none => false)
  | _,_,_ => false)
 | 7,_ => Nat.beq D.length 0
 | 8,i :: xs => Nat.beq D.length 0 && (xs.all (fun a => match E[a]? with
   | some p => (Ze (Xv E xs []) p.2).isSome
   | none => false) && (match xs[i]? with
   | some a => (match E[a]? with
    | some p => (match Ze (Xv E xs []) p.2 with
     | some e => Nat.ble (p.1+Jo E e) z
     | none => false)
    | none => false)
   | none => false))
 | _,_ => false
def saB (E : List (Nat × List Atm)) : Nat→List Nd→List (Nat × List Atm)→List Nat→Bool
 | _,[],[],[] => true
 | k,nd :: ns,p :: ps,z :: zs => (saN E k p.1 p.2 nd && (Nat.ble p.1 z && (Nat.ble (Jo E p.2) z && Nat.ble z 1000000000000))) && saB E (k+1) ns ps zs
 | _,_,_,_ => false
theorem Xj {E : List (Nat × List Atm)} : ∀ {ns : List Nd} {ps : List (Nat × List Atm)} {zs : List Nat} {k i : Nat} {nd : Nd},saB E k ns ps zs=true→ns[i]? = some nd→∃ p z,ps[i]? = some p∧zs[i]? = some z∧saN E (k+i) p.1 p.2 nd=true∧p.1≤z∧Jo E p.2≤z∧z≤1000000000000
 | [],_,_,_,_,_,_,h => by simp at h
 | _ :: _,[],_,_,_,_,h,_ => by cases h
 | _ :: _,_ :: _,[],_,_,_,h,_ => by cases h
 | nd' :: ns,p :: ps,z :: zs,k,0,nd,h,e => by
  have : nd'=nd := by simpa using e
  subst this
  unfold saB at h
  simp only [Bool.and_eq_true,Nat.ble_eq] at h
  exact ⟨p,z,rfl,rfl,h.1.1,h.1.2.1,h.1.2.2.1,h.1.2.2.2⟩
 | nd' :: ns,p :: ps,z :: zs,k,i+1,nd,h,e => by
  unfold saB at h
  rw [Bool.and_eq_true] at h
  obtain ⟨p',z',g1,g2,g3,g4⟩ := Xj (k := k+1) (i := i) h.2 (by simpa using e)
  exact ⟨p',z',by simpa using g1,by simpa using g2,by rw [show k+(i+1)=k+1+i by omega]; exact g3,g4⟩
theorem Yv {E : List (Nat × List Atm)} : ∀ {ns : List Nd} {ps : List (Nat × List Atm)} {zs : List Nat} {k : Nat},saB E k ns ps zs=true→ns.length=ps.length∧ns.length=zs.length
 | [],[],[],_,_ => ⟨rfl,rfl⟩
 | [],[],_ :: _,_,h => by cases h
 | [],_ :: _,_,_,h => by cases h
 | _ :: _,[],_,_,h => by cases h
 | _ :: _,_ :: _,[],_,h => by cases h
 | _ :: _,_ :: _,_ :: _,k,h => by
  unfold saB at h
  rw [Bool.and_eq_true] at h
  have := Yv h.2
  exact ⟨congrArg (· + 1) this.1,congrArg (· + 1) this.2⟩
def Jn (dn : Nat→Nat) (M : Nat→Rat) (x : Atm) : Rat := match x.1 with
 | 0 => ((dn x.2 : Nat) : Rat)
 | 1 => if M x.2=0 then 1 else M x.2
 | _ => if x.2=0 then 1 else ((x.2 : Nat) : Rat)
def Qr (dn : Nat→Nat) (M : Nat→Rat) : List Atm→Rat
 | [] => 1
 | x :: l => Jn dn M x*Qr dn M l
theorem Jj {dn : Nat→Nat} {M : Nat→Rat} {x : Atm} : ∀ {l c : List Atm},XC x l=some c→Qr dn M l=Jn dn M x*Qr dn M c
 | [],_,h => by cases h
 | y :: l,c,h => by
  unfold XC at h
  cases e : (Nat.beq x.1 y.1 && Nat.beq x.2 y.2) with
  | true =>
   rw [e] at h
   cases h
   rw [Bool.and_eq_true,Nat.beq_eq,Nat.beq_eq] at e
   have : x=y := Prod.ext e.1 e.2
   rw [this]
   rfl
  | false =>
   rw [e] at h
   simp only [cond_false,Option.map_eq_some_iff] at h
   obtain ⟨c',h1,rfl⟩ := h
   show Jn dn M y*Qr dn M l=Jn dn M x*(Jn dn M y*Qr dn M c')
   rw [Jj h1]
   grind
theorem Qv {dn : Nat→Nat} {M : Nat→Rat} : ∀ {r l c : List Atm},Ze l r=some c→Qr dn M l=Qr dn M r*Qr dn M c
 | [],l,c,h => by
  have : l=c := by simpa [Ze] using h
  rw [this]
  exact (Rat.one_mul _).symm
 | x :: r,l,c,h => by
  unfold Ze at h
  rw [Option.bind_eq_some_iff] at h
  obtain ⟨l',h1,h2⟩ := h
  rw [Jj h1,Qv h2]
  exact (Rat.mul_assoc _ _ _).symm
theorem Zq {l : Option (List Atm)} (h : JU l=true) : l=some [] := by
 unfold JU at h
 split at h
 ·rfl
 ·cases h
theorem QW.one {z : Nat} (h : 0 < z) : QW z 1 := ⟨⟨by
  show (1 : Int).natAbs < 2 ^ z
  exact Nat.one_lt_two_pow (by omega),by
  show 1 < 2 ^ z
  exact Nat.one_lt_two_pow (by omega)⟩,rfl⟩
theorem QW.zero {z : Nat} (h : 0 < z) : QW z 0 := ⟨⟨by
  show (0 : Int).natAbs < 2 ^ z
  exact Nat.two_pow_pos z,by
  show 1 < 2 ^ z
  exact Nat.one_lt_two_pow (by omega)⟩,rfl⟩
theorem QW.nat {z n : Nat} (h : n < 2 ^ z) (hz : 0 < z) : QW z ((n : Nat) : Rat) := by
 have : ((n : Nat) : Rat)=(((n : Nat) : Int) : Rat) := (Rat.intCast_natCast n).symm
 rw [this]
 exact QW.of (by simpa using h) hz
section
variable {E : List (Nat × List Atm)} {dn : Nat→Nat} {M : Nat→Rat} {k : Nat}
def Uq (E : List (Nat × List Atm)) (dn : Nat→Nat) (M : Nat→Rat) (q : Nat→Rat) (k : Nat) : Prop := ∀ a,a < k→∃ p,E[a]? = some p∧QW p.1 (M a)∧0 < p.1∧(∀ x ∈ p.2,x.1=1→x.2 < a)∧q a*Qr dn M p.2=M a
theorem WX {q : Nat→Rat} (hdn : ∀ j,0 < dn j∧dn j < 2 ^ inB) (hM : Uq E dn M q k) {x : Atm} (hx : x.1=1→x.2 < k) : QW (GP E x) (Jn dn M x)∧Jn dn M x ≠ 0 := by
 obtain ⟨i,j⟩ := x
 match i with
 | 0 =>
  show QW inB ((dn j : Nat) : Rat)∧((dn j : Nat) : Rat) ≠ 0
  refine ⟨QW.nat (hdn j).2 (by unfold inB; omega),fun h => ?_⟩
  have := (hdn j).1
  have h2 : dn j=0 := by exact_mod_cast h
  omega
 | 1 =>
  obtain ⟨p,h1,h2,h3,_⟩ := hM j (hx rfl)
  show QW (match E[j]? with
   | some p => p.1
   | none => 1) (if M j=0 then 1 else M j)∧(if M j=0 then 1 else M j) ≠ 0
  rw [h1]
  by_cases h : M j=0
  ·rw [if_pos h]
   exact ⟨QW.one h3,by decide⟩
  ·rw [if_neg h]
   exact ⟨h2,h⟩
 | i+2 =>
  show QW (Nat.log2 j+1) (if j=0 then 1 else ((j : Nat) : Rat))∧(if j=0 then 1 else ((j : Nat) : Rat)) ≠ 0
  by_cases h : j=0
  ·rw [if_pos h]
   exact ⟨QW.one (by omega),by decide⟩
  ·rw [if_neg h]
   refine ⟨QW.nat Nat.lt_log2_self (by omega),fun h2 => h ?_⟩
   exact_mod_cast h2
theorem Xd {q : Nat→Rat} (hdn : ∀ j,0 < dn j∧dn j < 2 ^ inB) (hM : Uq E dn M q k) : ∀ {l : List Atm},(∀ x ∈ l,x.1=1→x.2 < k)→QW (Jo E l) (Qr dn M l)∧Qr dn M l ≠ 0
 | [],_ => ⟨QW.one (show 0 < 1 by decide),by show (1 : Rat) ≠ 0; decide⟩
 | x :: l,h => by
  have h1 := WX hdn hM (h x List.mem_cons_self)
  have h2 := Xd hdn hM (l := l) fun y hy => h y (List.mem_cons_of_mem _ hy)
  exact ⟨h1.1.mul h2.1,ZH h1.2 h2.2⟩
theorem Jk {M' : Nat→Rat} : ∀ {l : List Atm},(∀ x ∈ l,x.1=1→M x.2=M' x.2)→Qr dn M l=Qr dn M' l
 | [],_ => rfl
 | x :: l,h => by
  show Jn dn M x*Qr dn M l=Jn dn M' x*Qr dn M' l
  rw [Jk (l := l) fun y hy => h y (List.mem_cons_of_mem _ hy)]
  have e : Jn dn M x=Jn dn M' x := by
   obtain ⟨i,j⟩ := x
   match i with
   | 0 => rfl
   | 1 =>
    have := h (1,j) List.mem_cons_self rfl
    show (if M j=0 then 1 else M j)=(if M' j=0 then 1 else M' j)
    rw [this]
   | i+2 => rfl
  rw [e]
theorem XD {x y : Atm} : ∀ {l c : List Atm},XC x l=some c→y ∈ c→y ∈ l
 | [],_,h,_ => by cases h
 | z :: l,c,h,hy => by
  unfold XC at h
  cases e : (Nat.beq x.1 z.1 && Nat.beq x.2 z.2) with
  | true => rw [e] at h; cases h; exact List.mem_cons_of_mem _ hy
  | false =>
   rw [e] at h
   simp only [cond_false,Option.map_eq_some_iff] at h
   obtain ⟨c',h1,rfl⟩ := h
   rcases List.mem_cons.1 hy with rfl | hy
   ·exact List.mem_cons_self
   ·exact List.mem_cons_of_mem _ (XD h1 hy)
theorem QX {y : Atm} : ∀ {r l c : List Atm},Ze l r=some c→y ∈ c→y ∈ l
 | [],l,c,h,hy => by
  have : l=c := by simpa [Ze] using h
  rw [this]; exact hy
 | x :: r,l,c,h,hy => by
  unfold Ze at h
  rw [Option.bind_eq_some_iff] at h
  obtain ⟨l',h1,h2⟩ := h
  exact XD h1 (QX h2 hy)
theorem Uy {n : Nat} (h : n ≠ 0) : ((n : Nat) : Rat) ≠ 0 := fun e => h (by exact_mod_cast e)
theorem Jb (x : Rat) : x*((x.den : Nat) : Rat)=((x.num : Int) : Rat) := by
 have e : x=((x.num : Int) : Rat) / ((x.den : Nat) : Rat) := by
  have := Rat.mkRat_self x
  rw [Rat.mkRat_eq_div] at this
  exact this.symm
 conv => lhs; lhs; rw [e]
 exact Rat.div_mul_cancel (Uy x.den_nz)
theorem YM {qs : List Rat} {m M : Nat} (hm : m ∣ M) (h : ∀ q ∈ qs,q.den ∣ M) : qs.foldl (fun m q => m*(q.den / Nat.gcd m q.den)) m ∣ M := by
 induction qs generalizing m with
 | nil => exact hm
 | cons q qs ih =>
  rw [List.foldl_cons]
  refine ih ?_ fun p hp => h p (List.mem_cons_of_mem _ hp)
  have e : m*(q.den / Nat.gcd m q.den)=Nat.lcm m q.den := by
   unfold Nat.lcm
   exact (Nat.mul_div_assoc _ (Nat.gcd_dvd_right _ _)).symm
  rw [e]
  exact Nat.lcm_dvd hm (h q List.mem_cons_self)
theorem Xf {x : Rat} {m : Int} (h : (x*((m : Int) : Rat)).den=1) : x.den ∣ m.natAbs := by
 have e := whole h
 generalize (x*((m : Int) : Rat)).num=n at e
 have h1 : x*((x.den : Nat) : Rat)=((x.num : Int) : Rat) := Jb x
 have h2 : ((x.num : Int) : Rat)*((m : Int) : Rat)=((n : Int) : Rat)*(((x.den : Nat) : Int) : Rat) := by
  rw [← h1,← e,Rat.intCast_natCast]
  grind
 have h3 : x.num*m=n*(x.den : Int) := by exact_mod_cast h2
 have h4 : (x.den : Int) ∣ x.num*m := ⟨n,by rw [h3,Int.mul_comm]⟩
 have h5 : x.den ∣ x.num.natAbs*m.natAbs := by
  have := Int.natAbs_dvd_natAbs.2 h4
  rwa [Int.natAbs_mul,Int.natAbs_natCast] at this
 exact (Nat.Coprime.symm x.reduced).dvd_of_dvd_mul_left h5
theorem YI {qs : List Rat} {x : Rat} {z : Nat} {m : Int} (hx : x ∈ qs) (hm : m ≠ 0) (hall : ∀ y ∈ qs,(y*((m : Int) : Rat)).den=1) (hz : QW z (x*((m : Int) : Rat))) : QW z (x*fac qs) := by
 have hl : lD qs ∣ m.natAbs := YM (Nat.one_dvd _) fun y hy => Xf (hall y hy)
 have hd := TW hx
 have hpos : 0 < m.natAbs := Int.natAbs_pos.2 hm
 have hle : lD qs≤m.natAbs := Nat.le_of_dvd hpos hl
 have hn : (x*fac qs).num.natAbs≤(x*((m : Int) : Rat)).num.natAbs := by
  rw [TJ hx]
  have e := whole hz.wh
  generalize (x*((m : Int) : Rat)).num=n at e
  have h1 : x*((x.den : Nat) : Rat)=((x.num : Int) : Rat) := Jb x
  have h2 : ((x.num : Int) : Rat)*((m : Int) : Rat)=((n : Int) : Rat)*(((x.den : Nat) : Int) : Rat) := by
   rw [← h1,← e,Rat.intCast_natCast]
   grind
  have h3 : x.num*m=n*(x.den : Int) := by exact_mod_cast h2
  have h4 : x.num.natAbs*m.natAbs=n.natAbs*x.den := by
   have := congrArg Int.natAbs h3
   rwa [Int.natAbs_mul,Int.natAbs_mul,Int.natAbs_natCast] at this
  obtain ⟨c,hc⟩ := Xf (x := x) (m := m) (hall x hx)
  have h5 : n.natAbs=x.num.natAbs*c := by
   rw [hc] at h4
   refine Nat.eq_of_mul_eq_mul_right x.den_pos ?_
   rw [← h4]
   rw [Nat.mul_assoc,Nat.mul_comm c]
  show x.num.natAbs / gN qs*(lD qs / x.den)≤n.natAbs
  rw [h5]
  refine Nat.mul_le_mul (Nat.div_le_self _ _) ?_
  have : lD qs / x.den≤m.natAbs / x.den := Nat.div_le_div_right hle
  rw [hc,Nat.mul_div_cancel_left _ x.den_pos] at this
  exact this
 refine ⟨⟨Nat.lt_of_le_of_lt hn hz.qs.num,?_⟩,hd⟩
 rw [hd]
 have := hz.qs.den
 rw [hz.wh] at this
 exact this
theorem ZR {y : Atm} : ∀ {D U : List Atm},y ∈ Xu U D→y ∈ D
 | [],_,h => by cases h
 | x :: D,U,h => by
  unfold Xu at h
  split at h
  ·exact List.mem_cons_of_mem _ (ZR h)
  ·rcases List.mem_cons.1 h with rfl | h
   ·exact List.mem_cons_self
   ·exact List.mem_cons_of_mem _ (ZR h)
theorem Xz {q : Nat→Rat} (hM : Uq E dn M q k) : ∀ {l : List Nat} {U : List Atm},(∀ c ∈ l,c < k)→(∀ x ∈ U,x.1=1→x.2 < k)→∀ x ∈ Xv E l U,x.1=1→x.2 < k
 | [],_,_,hU => hU
 | a :: l,U,hl,hU => by
  unfold Xv
  refine Xz hM (fun c hc => hl c (List.mem_cons_of_mem _ hc)) ?_
  have ha := hl a List.mem_cons_self
  obtain ⟨p,h1,_,_,h4,_⟩ := hM a ha
  rw [h1]
  intro x hx h
  rcases List.mem_append.1 hx with hx | hx
  ·exact hU x hx h
  ·exact Nat.lt_trans (h4 x (ZR hx) h) ha
theorem Oc {q : Nat→Rat} {σ : Nat→ByteArray} (hσ : ∀ j,(σ j).size≤1048576) (hdn : ∀ j,dn j=(Cx.rd (σ j).data.toList).den) (hM : Uq E dn M q k) {z : Nat} {D : List Atm} {nd : Nd} (hwf : wfN k nd=true) (hs : saN E k z D nd=true) : QW z (Zr σ q nd*Qr dn M D)∧0 < z∧∀ x ∈ D,x.1=1→x.2 < k := by
 have hdn' : ∀ j,0 < dn j∧dn j < 2 ^ inB := fun j => by
  rw [hdn j]
  refine ⟨Rat.den_pos _,Nat.lt_of_lt_of_le (QS.rd3 _).den (Nat.pow_le_pow_right (by decide) ?_)⟩
  have := hσ j
  rw [QP]
  unfold inB
  omega
 obtain ⟨op,xs⟩ := nd
 unfold saN at hs
 rw [Bool.and_eq_true,Bool.and_eq_true] at hs
 obtain ⟨⟨hz0,hD⟩,hs⟩ := hs
 have hz : 0 < z := by simpa [Nat.blt_eq] using hz0
 have hD' : ∀ x ∈ D,x.1=1→x.2 < k := fun x hx h1 => by
  rw [List.all_eq_true] at hD
  have := hD x hx
  rw [h1] at this
  simpa [Nat.blt_eq] using this
 refine ⟨?_,hz,hD'⟩
 have hlow : ∀ {a : Nat} {p : Nat × List Atm},a < k→E[a]? = some p→QW p.1 (M a)∧(∀ x ∈ p.2,x.1=1→x.2 < k)∧q a*Qr dn M p.2=M a := fun {a p} ha hp => by
  obtain ⟨p',h1,h2,_,h4,h5⟩ := hM a ha
  rw [hp] at h1
  cases h1
  exact ⟨h2,fun x hx h => Nat.lt_trans (h4 x hx h) ha,h5⟩
 have hpr : ∀ {l : List Atm},(∀ x ∈ l,x.1=1→x.2 < k)→QW (Jo E l) (Qr dn M l)∧Qr dn M l ≠ 0 := fun h => Xd hdn' hM h
 unfold wfN at hwf
 unfold Zr
 dsimp only at hs hwf ⊢
 split at hs
 ·rename_i s n d
  simp only [Bool.and_eq_true] at hs
  obtain ⟨⟨h1,h2⟩,h3⟩ := hs
  have h1' : n < 2 ^ z := by simpa [Nat.blt_eq] using h1
  have h2' : d ≠ 0 := by
   have : 0 < d := by simpa [Nat.blt_eq] using h2
   omega
  have hp : Qr dn M D=((d : Nat) : Rat) := by
   have := Qv (dn := dn) (M := M) (Zq h3)
   rw [this]
   cases e : Nat.beq d 1 with
   | true =>
    rw [Nat.beq_eq] at e
    rw [e]
    show (1 : Rat)*1=((1 : Nat) : Rat)
    rw [Rat.mul_one]
    exact_mod_cast rfl
   | false =>
    show (if d=0 then (1 : Rat) else ((d : Nat) : Rat))*1*1=_
    rw [if_neg h2',Rat.mul_one,Rat.mul_one]
  show QW z ((if s=0 then mkRat (n : Int) d else mkRat (-(n : Int)) d)*Qr dn M D)
  rw [hp]
  have key : ∀ m : Int,m.natAbs < 2 ^ z→QW z (mkRat m d*((d : Nat) : Rat)) := fun m hm => by
   rw [Rat.mkRat_eq_div,Rat.div_mul_cancel (Uy h2')]
   exact QW.of hm hz
  by_cases hs0 : s=0
  ·rw [if_pos hs0]
   exact key _ (by simpa using h1')
  ·rw [if_neg hs0]
   exact key _ (by simpa using h1')
 ·rename_i j
  simp only [Bool.and_eq_true,Nat.ble_eq] at hs
  have hp : Qr dn M D=(((Cx.rd (σ j).data.toList).den : Nat) : Rat) := by
   rw [Qv (dn := dn) (M := M) (Zq hs.2)]
   show ((dn j : Nat) : Rat)*1*1=_
   rw [Rat.mul_one,Rat.mul_one,hdn j]
  show QW z (Cx.rd (σ j).data.toList*Qr dn M D)
  rw [hp,Jb]
  refine QW.of (Nat.lt_of_lt_of_le (QS.rd3 _).num (Nat.pow_le_pow_right (by decide) ?_)) hz
  have := hσ j
  have := hs.1
  unfold inB at this
  rw [QP]
  omega
 ·simp only [List.all_cons,List.all_nil,Bool.and_true,Bool.and_eq_true] at hwf
  rename_i a b
  have l1 : a < k := by simpa [Nat.blt_eq] using hwf.1
  have l2 : b < k := by simpa [Nat.blt_eq] using hwf.2
  split at hs
  ·rename_i p r hp hr
   split at hs
   ·rename_i c e hc he
    rw [Nat.ble_eq] at hs
    obtain ⟨a1,a2,a3⟩ := hlow l1 hp
    obtain ⟨b1,b2,b3⟩ := hlow l2 hr
    have hc' := hpr (l := c) fun x hx => hD' x (QX hc hx)
    have he' := hpr (l := e) fun x hx => hD' x (QX he hx)
    have e1 : (q a+q b)*Qr dn M D=M a*Qr dn M c+M b*Qr dn M e := by
     rw [Rat.add_mul]
     congr 1
     ·rw [Qv hc,← Rat.mul_assoc,a3]
     ·rw [Qv he,← Rat.mul_assoc,b3]
    show QW z ((q a+q b)*Qr dn M D)
    rw [e1]
    exact ((a1.mul hc'.1).add (b1.mul he'.1)).mono hs
   ·cases hs
  ·cases hs
 ·simp only [List.all_cons,List.all_nil,Bool.and_true,Bool.and_eq_true] at hwf
  rename_i a b
  have l1 : a < k := by simpa [Nat.blt_eq] using hwf.1
  have l2 : b < k := by simpa [Nat.blt_eq] using hwf.2
  split at hs
  ·rename_i p r hp hr
   split at hs
   ·rename_i c e hc he
    rw [Nat.ble_eq] at hs
    obtain ⟨a1,a2,a3⟩ := hlow l1 hp
    obtain ⟨b1,b2,b3⟩ := hlow l2 hr
    have hc' := hpr (l := c) fun x hx => hD' x (QX hc hx)
    have he' := hpr (l := e) fun x hx => hD' x (QX he hx)
    have e1 : (q a - q b)*Qr dn M D=M a*Qr dn M c - M b*Qr dn M e := by
     rw [show (q a - q b)*Qr dn M D=q a*Qr dn M D - q b*Qr dn M D by grind]
     congr 1
     ·rw [Qv hc,← Rat.mul_assoc,a3]
     ·rw [Qv he,← Rat.mul_assoc,b3]
    show QW z ((q a - q b)*Qr dn M D)
    rw [e1]
    exact ((a1.mul hc'.1).sub (b1.mul he'.1)).mono hs
   ·cases hs
  ·cases hs
 ·simp only [List.all_cons,List.all_nil,Bool.and_true,Bool.and_eq_true] at hwf
  rename_i a b
  have l1 : a < k := by simpa [Nat.blt_eq] using hwf.1
  have l2 : b < k := by simpa [Nat.blt_eq] using hwf.2
  split at hs
  ·rename_i p r hp hr
   split at hs
   ·rename_i c hc
    rw [Bool.and_eq_true,Nat.ble_eq] at hs
    obtain ⟨a1,a2,a3⟩ := hlow l1 hp
    obtain ⟨b1,b2,b3⟩ := hlow l2 hr
    have e1 : q a*q b*Qr dn M D=M a*M b := by
     rw [Qv hc,Qv (Zq hs.1),← a3,← b3]
     show q a*q b*(Qr dn M p.2*(Qr dn M r.2*1))=_
     grind
    show QW z (q a*q b*Qr dn M D)
    rw [e1]
    exact (a1.mul b1).mono hs.2
   ·cases hs
  ·cases hs
 ·simp only [List.all_cons,List.all_nil,Bool.and_true] at hwf
  rename_i a
  have l1 : a < k := by simpa [Nat.blt_eq] using hwf
  split at hs
  ·rename_i p hp
   rw [Bool.and_eq_true,Nat.ble_eq] at hs
   obtain ⟨a1,a2,a3⟩ := hlow l1 hp
   have e1 : -q a*Qr dn M D=-M a := by
    rw [Qv (Zq hs.1),← a3]
    show -q a*(Qr dn M p.2*1)=_
    grind
   show QW z (-q a*Qr dn M D)
   rw [e1]
   exact a1.neg.mono hs.2
  ·cases hs
 ·simp only [List.all_cons,List.all_nil,Bool.and_true,Bool.and_eq_true] at hwf
  rename_i a b
  have l1 : a < k := by simpa [Nat.blt_eq] using hwf.1
  have l2 : b < k := by simpa [Nat.blt_eq] using hwf.2
  split at hs
  ·rename_i p r D' hp hr hD1
   split at hs
   ·rename_i c hc
    split at hs
    ·rename_i e he
     rw [Nat.ble_eq] at hs
     obtain ⟨a1,a2,a3⟩ := hlow l1 hp
     obtain ⟨b1,b2,b3⟩ := hlow l2 hr
     have he' := hpr (l := e) fun x hx => b2 x (QX he hx)
     by_cases h0 : M b=0
     ·have hb : q b=0 := by
       rw [h0] at b3
       exact (Rat.mul_eq_zero.1 b3).resolve_right (hpr b2).2
      show QW z (q a / q b*Qr dn M D)
      rw [hb,Rat.div_def,Rat.inv_zero,Rat.mul_zero,Rat.zero_mul]
      exact QW.zero hz
     ·have hb : q b ≠ 0 := fun h => h0 (by rw [← b3,h,Rat.zero_mul])
      have e1 : q a / q b*Qr dn M D=M a*Qr dn M e := by
       have e2 : Qr dn M D=M b*Qr dn M D' := by
        rw [Jj hD1]
        show (if M b=0 then (1 : Rat) else M b)*_=_
        rw [if_neg h0]
       have e3 : q a / q b*q b=q a := Rat.div_mul_cancel hb
       rw [e2,← a3,← b3,Qv hc,Qv he]
       generalize q a / q b=t at e3
       rw [← e3]
       grind
      show QW z (q a / q b*Qr dn M D)
      rw [e1]
      exact (a1.mul he'.1).mono hs
    ·cases hs
   ·cases hs
  ·cases hs
 ·have hD0 : D=[] := by
   rw [Nat.beq_eq] at hs
   exact List.length_eq_zero_iff.1 hs
  rw [hD0]
  have hv : Zr σ q (7,xs)=0 ∨ Zr σ q (7,xs)=1 := by
   unfold Zr
   dsimp only
   split
   all_goals first | (split; exact Or.inl rfl; exact Or.inr rfl) | exact Or.inl rfl | (rename_i h; cases h)
  show QW z (Zr σ q (7,xs)*1)
  rw [Rat.mul_one]
  rcases hv with h | h
  ·rw [h]
   exact QW.zero hz
  ·rw [h]
   exact QW.one hz
 ·rename_i i ys
  rw [Bool.and_eq_true,Bool.and_eq_true,List.all_eq_true] at hs
  obtain ⟨h1,h2,h3⟩ := hs
  have hD0 : D=[] := by
   rw [Nat.beq_eq] at h1
   exact List.length_eq_zero_iff.1 h1
  have hwf' : ys.all (Nat.blt · k)=true := hwf
  rw [List.all_eq_true] at hwf'
  have hlt : ∀ c ∈ ys,c < k := fun c hc => by simpa [Nat.blt_eq] using hwf' c hc
  split at h3
  ·rename_i a ha
   split at h3
   ·rename_i p hp
    split at h3
    ·rename_i e he
     rw [Nat.ble_eq] at h3
     obtain ⟨hi,ha'⟩ := List.getElem?_eq_some_iff.1 ha
     have hmem : a ∈ ys := List.mem_of_getElem? ha
     have hg : (ys.map q).getD i 0=q a := by
      rw [List.getD_eq_getElem?_getD,List.getElem?_map,ha]
      rfl
     show QW z ((ys.map q).getD i 0*fac (ys.map q)*Qr dn M D)
     rw [hg,hD0]
     show QW z (q a*fac (ys.map q)*1)
     rw [Rat.mul_one]
     -- what makes all of them whole
     have hU : ∀ x ∈ Xv E ys [],x.1=1→x.2 < k := Xz hM hlt (fun x hx => by cases hx)
     have hUp := hpr hU
     have hw := whole hUp.1.wh
     generalize hm : (Qr dn M (Xv E ys [])).num=m at hw
     have hm0 : m ≠ 0 := fun h => hUp.2 (by rw [hw,h]; rfl)
     have hall : ∀ y ∈ ys.map q,(y*((m : Int) : Rat)).den=1 := fun y hy => by
      obtain ⟨c,hc,rfl⟩ := List.mem_map.1 hy
      have h4 := h2 c hc
      split at h4
      ·rename_i r hr
       obtain ⟨c1,c2,c3⟩ := hlow (hlt c hc) hr
       cases hs2 : Ze (Xv E ys []) r.2 with
       | none => rw [hs2] at h4; cases h4
       | some f =>
        have hf := hpr (l := f) fun x hx => hU x (QX hs2 hx)
        rw [← hw,Qv hs2,← Rat.mul_assoc,c3]
        exact (c1.mul hf.1).wh
      ·cases h4
     obtain ⟨a1,a2,a3⟩ := hlow (hlt a hmem) hp
     have he' := hpr (l := e) fun x hx => hU x (QX he hx)
     refine YI (List.mem_map_of_mem hmem) hm0 hall ?_
     rw [← hw,Qv he,← Rat.mul_assoc,a3]
     exact (a1.mul he'.1).mono h3
    ·cases h3
   ·cases h3
  ·cases h3
 ·cases hs
end
theorem Og {x m p : Rat} {z y K : Nat} (hm : QW z m) (hp : QW y p) (h0 : p ≠ 0) (e : x*p=m) (hz : z≤K) (hy : y≤K) : QS K x := by
 have hw := whole hp.wh
 generalize p.num=P at hw
 have hP : P ≠ 0 := fun h => h0 (by rw [hw,h]; rfl)
 have hpos : 0 < P.natAbs := Int.natAbs_pos.2 hP
 have hd : x.den ∣ P.natAbs := Xf (x := x) (m := P) (by rw [← hw,e]; exact hm.wh)
 have hdle : x.den≤P.natAbs := Nat.le_of_dvd hpos hd
 have hPlt : P.natAbs < 2 ^ y := by
  have := hp.qs.num
  rw [hw,Rat.num_intCast] at this
  exact this
 have hmw := whole hm.wh
 have hmlt := hm.qs.num
 generalize m.num=n at hmw hmlt
 have h1 : x*((x.den : Nat) : Rat)=((x.num : Int) : Rat) := Jb x
 have h2 : ((x.num : Int) : Rat)*((P : Int) : Rat)=((n : Int) : Rat)*(((x.den : Nat) : Int) : Rat) := by
  rw [← h1,← hw,← hmw,← e,Rat.intCast_natCast]
  grind
 have h3 : x.num*P=n*(x.den : Int) := by exact_mod_cast h2
 have h4 : x.num.natAbs*P.natAbs=n.natAbs*x.den := by
  have := congrArg Int.natAbs h3
  rwa [Int.natAbs_mul,Int.natAbs_mul,Int.natAbs_natCast] at this
 have h5 : x.num.natAbs≤n.natAbs := by
  refine Nat.le_of_mul_le_mul_right (c := P.natAbs) ?_ hpos
  rw [h4]
  exact Nat.mul_le_mul_left _ hdle
 exact ⟨Nat.lt_of_lt_of_le (Nat.lt_of_le_of_lt h5 hmlt) (Nat.pow_le_pow_right (by decide) hz),Nat.lt_of_lt_of_le (Nat.lt_of_le_of_lt hdle hPlt) (Nat.pow_le_pow_right (by decide) hy)⟩
section
variable {N : List Nd} {Z : List Nat} {E : List (Nat × List Atm)} {q : Nat→Rat}
theorem JW {σ : Nat→ByteArray} (hσ : ∀ j,(σ j).size≤1048576) (hw : wfB 0 N=true) (hz : saB E 0 N E Z=true) (hq : ∀ (a : Nat) nd,N[a]? = some nd→q a=Zr σ q nd) (h0 : ∀ a,N.length≤a→q a=0) : (∀ (a : Nat) z,Z[a]? = some z→QS z (q a))∧∀ a,QS 1000000000000 (q a) := by
 have hl := Yv hz
 have key : ∀ k,k≤N.length→∃ M,Uq E (fun j => (Cx.rd (σ j).data.toList).den) M q k := by
  intro k
  induction k with
  | zero => exact fun _ => ⟨fun _ => 0,fun a ha => by omega⟩
  | succ k ih =>
   intro hk
   obtain ⟨M,hM⟩ := ih (by omega)
   have hn : N[k]? = some N[k] := List.getElem?_eq_getElem (by omega)
   obtain ⟨p,z,h1,_,h3,_⟩ := Xj hz hn
   rw [Nat.zero_add] at h3
   have hwf := OI hw hn
   rw [Nat.zero_add] at hwf
   obtain ⟨g1,g2,g3⟩ := Oc hσ (fun _ => rfl) hM hwf h3
   rw [← hq k _ hn] at g1
   refine ⟨fun x => if x=k then q k*Qr (fun j => (Cx.rd (σ j).data.toList).den) M p.2 else M x,fun a ha => ?_⟩
   have same : ∀ {l : List Atm},(∀ x ∈ l,x.1=1→x.2 < k)→Qr (fun j => (Cx.rd (σ j).data.toList).den) (fun x => if x=k then q k*Qr (fun j => (Cx.rd (σ j).data.toList).den) M p.2 else M x) l=Qr (fun j => (Cx.rd (σ j).data.toList).den) M l := fun hl => (Jk fun x hx h => by
    have := hl x hx h
    rw [if_neg (by omega)]).symm
   by_cases e : a=k
   ·subst e
    refine ⟨p,h1,?_,g2,g3,?_⟩
    ·show QW p.1 (if a=a then _ else _)
     rw [if_pos rfl]
     exact g1
    ·rw [same g3]
     show _=(if a=a then _ else _)
     rw [if_pos rfl]
   ·obtain ⟨p',f1,f2,f3,f4,f5⟩ := hM a (by omega)
    refine ⟨p',f1,?_,f3,f4,?_⟩
    ·show QW p'.1 (if a=k then _ else M a)
     rw [if_neg e]
     exact f2
    ·rw [same fun x hx h => by have := f4 x hx h; omega]
     show _=(if a=k then _ else M a)
     rw [if_neg e]
     exact f5
 obtain ⟨M,hM⟩ := key N.length (Nat.le_refl _)
 have hdn : ∀ j,0 < (Cx.rd (σ j).data.toList).den∧(Cx.rd (σ j).data.toList).den < 2 ^ inB := fun j => by
  refine ⟨Rat.den_pos _,Nat.lt_of_lt_of_le (QS.rd3 _).den (Nat.pow_le_pow_right (by decide) ?_)⟩
  have := hσ j
  rw [QP]
  unfold inB
  omega
 have h2 : ∀ (a : Nat) z,Z[a]? = some z→QS z (q a)∧z≤1000000000000 := by
  intro a z ha
  have hlt : a < N.length := by
   have := (List.getElem?_eq_some_iff.1 ha).1
   omega
  have hn : N[a]? = some N[a] := List.getElem?_eq_getElem hlt
  obtain ⟨p,z',h1,h2,_,h4,h5,h6⟩ := Xj hz hn
  rw [ha] at h2
  cases h2
  obtain ⟨p',f1,f2,f3,f4,f5⟩ := hM a hlt
  rw [h1] at f1
  cases f1
  have hp := Xd hdn hM (l := p.2) fun x hx h => Nat.lt_trans (f4 x hx h) hlt
  exact ⟨Og f2 hp.1 hp.2 f5 h4 h5,h6⟩
 refine ⟨fun a z h => (h2 a z h).1,fun a => ?_⟩
 by_cases ha : a < Z.length
 ·have := h2 a _ (List.getElem?_eq_getElem ha)
  exact this.1.mono this.2
 ·rw [h0 a (by omega)]
  exact QS.zero.mono (by decide)
theorem Vt {L C : List (List Nat × Nat)} {σ : Nat→ByteArray} {H : List (Nat × Nat × Nat × Nat)} (hσ : ∀ j,(σ j).size≤1048576) (hw : wfB 0 N=true) (hz : saB E 0 N E Z=true) (hl : KZ N L=true) (hcn : Gb N C=true) (hq : ∀ (a : Nat) nd,N[a]? = some nd→q a=Zr σ q nd) (h0 : ∀ a,N.length≤a→q a=0) (hH : Xs q H) : Hy N H L C Z q σ where
 nat := hq
 qs := (JW hσ hw hz hq h0).2
 zs := (JW hσ hw hz hq h0).1
 par := hσ
 lit := fun s b h => Pv hl hq h
 k0 := fun a r h => ZT hH h
 k1 := fun a r h => ZT hH h
 k2 := fun a r h => ZT hH h
 k3 := fun a b r h => ZT hH h
 k4 := fun l a b r h1 h2 => by
  have h3 : Nat.beq 1 r=true ↔ q a=q b := ZT hH h2
  rw [h3,← Pr hcn hq h1]
  exact ⟨fun e => by rw [e],fun e => Wb (YD e)⟩
 k6 := fun a b r h => ZT hH h
 k5 := fun a r h => ZT hH h
end
end Go.Proofs.YtmdfngmjoaigjaaGreatDoor
/- CFspun -/
namespace Go.Proofs.YtmdfngmjoaigjaaGreatDoor
open Go.RowKit Cx
theorem ZK : Closed 11 :=
 Wq (N := [(0,[0,1,1]),(0,[0,0,1]),(8,[0,0,1,1,0]),(8,[1,0,1,1,0]),(8,[2,0,1,1,0]),(8,[3,0,1,1,0]),(3,[1,3]),(3,[1,4]),(3,[1,5]),(4,[2,2]),(4,[3,3]),(2,[1,10]),(4,[4,4]),(2,[11,12]),(4,[5,5]),(2,[13,14]),(2,[9,15]),(4,[2,1]),(4,[3,0]),(2,[1,18]),(4,[4,1]),(2,[19,20]),(4,[5,1]),(2,[21,22]),(3,[17,23]),(4,[0,2]),(4,[1,2]),(4,[3,1]),(2,[25,27]),(2,[26,20]),(2,[26,22]),(3,[20,22]),(4,[5,0]),(3,[32,27]),(4,[4,0]),(3,[27,34]),(2,[28,31]),(2,[29,33]),(2,[30,35]),(4,[24,2]),(4,[36,6]),(2,[1,40]),(4,[37,7]),(2,[41,42]),(4,[38,8]),(2,[43,44]),(3,[39,45]),(4,[6,24]),(4,[7,24]),(4,[8,24]),(4,[36,2]),(4,[37,2]),(4,[38,2]),(2,[47,50]),(2,[48,51]),(2,[49,52]),(4,[37,8]),(4,[38,7]),(3,[56,57]),(4,[38,6]),(4,[36,8]),(3,[59,60]),(4,[36,7]),(4,[37,6]),(3,[62,63]),(2,[53,58]),(2,[54,61]),(2,[55,64]),(6,[65,16]),(6,[66,16]),(6,[67,16]),(4,[0,0]),(2,[1,71]),(4,[1,1]),(2,[72,73]),(2,[74,73]),(3,[75,0]),(3,[0,1]),(6,[0,77]),(6,[1,77]),(4,[0,1]),(2,[1,80]),(4,[1,0]),(2,[81,82]),(2,[83,73]),(3,[73,84]),(2,[73,80]),(2,[80,73]),(2,[73,73]),(3,[73,82]),(3,[73,80]),(3,[71,73]),(2,[86,89]),(2,[87,90]),(2,[88,91])]) (H := [(0,16,0,0),(0,76,0,1),(0,77,0,0),(4,85,1,1),(4,92,1,1),(4,93,1,1),(4,94,0,1),(4,68,1,1),(4,69,0,1),(4,70,1,1),(4,78,0,1),(4,79,1,1)]) (K := [(105,[.inr (3,8,0,0,0),.inr (3,32,0,0,0),.inr (3,33,0,0,0)])]) (L := [([49],0),([48],1)]) (C := [([48],1),([49],0)]) (Z := [2,2,11,11,11,11,14,14,14,22,22,25,22,48,22,71,94,13,13,16,13,30,13,44,58,13,13,13,27,27,27,27,13,27,13,27,55,55,55,69,69,72,69,142,69,212,282,72,72,72,66,66,66,139,139,139,69,69,139,69,69,139,69,69,139,279,279,279,373,373,373,4,7,4,12,17,20,5,7,7,4,7,4,12,17,22,9,9,9,9,9,9,19,19,19]) (cl := []) 7 (fun _ h => by cases h) (by kernel_rfl) (by kernel_rfl) (by kernel_rfl) (by kernel_rfl) (by kernel_rfl) (by kernel_rfl) (by kernel_rfl)
end Go.Proofs.YtmdfngmjoaigjaaGreatDoor
/- PLY -/
namespace Go.Proofs.YtmdfngmjoaigjaaGreatDoor
open Go.RowKit Cx
abbrev Pol := List (Int × List Nat)
def eqM : List Nat→List Nat→Bool
 | [],[] => true
 | a :: m,b :: k => cond (Nat.beq a b) (eqM m k) false
 | _,_ => false
theorem Ow : ∀ {m k : List Nat},eqM m k=true→m=k
 | [],[],_ => rfl
 | a :: m,b :: k,h => by
  unfold eqM at h
  cases e : Nat.beq a b
  ·rw [e] at h; cases h
  ·rw [e] at h; rw [Nat.eq_of_beq_eq_true e,Ow (m := m) (k := k) h]
 | [],_ :: _,h => by cases h
 | _ :: _,[],h => by cases h
def Wa (a : Nat) : List Nat→List Nat
 | [] => [a]
 | b :: m => cond (Nat.ble a b) (a :: b :: m) (b :: Wa a m)
def YL (m k : List Nat) : List Nat := m.foldr Wa k
def isZ : Int→Bool
 | .ofNat n => Nat.beq n 0
 | .negSucc _ => false
theorem Ku {c : Int} (h : isZ c=true) : c=0 := by
 cases c with
 | ofNat n => rw [Nat.eq_of_beq_eq_true (n := n) (m := 0) h]; rfl
 | negSucc n => cases h
def Wd (c : Int) (m : List Nat) : Pol→Pol
 | [] => [(c,m)]
 | (d,k) :: p => cond (eqM m k) (cond (isZ (c+d)) p ((c+d,k) :: p)) ((d,k) :: Wd c m p)
def ZW (p r : Pol) : Pol := p.foldr (fun t s => Wd t.1 t.2 s) r
def JC (p : Pol) : Pol := p.map fun t => (-t.1,t.2)
def Rr (c : Int) (m : List Nat) (p : Pol) : Pol := p.map fun t => (c*t.1,YL m t.2)
def Yo (p r : Pol) : Pol := p.foldr (fun t s => ZW (Rr t.1 t.2 r) s) []
def WU : Pol→Bool
 | [] => true
 | _ => false
section
variable (q : Nat→Rat)
def evM : List Nat→Rat
 | [] => 1
 | a :: m => q a*evM m
def evP : Pol→Rat
 | [] => 0
 | t :: p => (t.1 : Rat)*evM q t.2+evP p
variable {q}
theorem UH (a : Nat) : ∀ m,evM q (Wa a m)=q a*evM q m
 | [] => rfl
 | b :: m => by
  unfold Wa
  cases Nat.ble a b
  ·show q b*evM q (Wa a m)=q a*(q b*evM q m)
   rw [UH a m]; grind
  ·rfl
theorem Yw : ∀ m k,evM q (YL m k)=evM q m*evM q k
 | [],k => (Rat.one_mul _).symm
 | a :: m,k => by
  show evM q (Wa a (YL m k))=q a*evM q m*evM q k
  rw [UH,Yw m k,Rat.mul_assoc]
theorem Uw (c : Int) (m : List Nat) : ∀ p,evP q (Wd c m p)=(c : Rat)*evM q m+evP q p
 | [] => rfl
 | (d,k) :: p => by
  unfold Wd
  cases e : eqM m k
  ·show (d : Rat)*evM q k+evP q (Wd c m p)=(c : Rat)*evM q m+((d : Rat)*evM q k+evP q p)
   rw [Uw c m p]; grind
  ·have e := Ow e
   subst e
   cases f : isZ (c+d)
   ·show ((c+d : Int) : Rat)*evM q m+evP q p=(c : Rat)*evM q m+((d : Rat)*evM q m+evP q p)
    rw [Rat.intCast_add]; grind
   ·show evP q p=(c : Rat)*evM q m+((d : Rat)*evM q m+evP q p)
    have g : (c : Rat)+(d : Rat)=0 := by rw [← Rat.intCast_add,Ku f]; rfl
    have : (c : Rat)*evM q m+((d : Rat)*evM q m+evP q p)=((c : Rat)+(d : Rat))*evM q m+evP q p := by grind
    rw [this,g,Rat.zero_mul,Rat.zero_add]
theorem Zu : ∀ p r,evP q (ZW p r)=evP q p+evP q r
 | [],r => (Rat.zero_add _).symm
 | t :: p,r => by
  show evP q (Wd t.1 t.2 (ZW p r))=(t.1 : Rat)*evM q t.2+evP q p+evP q r
  rw [Uw,Zu p r,Rat.add_assoc]
theorem ZB : ∀ p,evP q (JC p)=-evP q p
 | [] => rfl
 | t :: p => by
  show ((-t.1 : Int) : Rat)*evM q t.2+evP q (JC p)=-((t.1 : Rat)*evM q t.2+evP q p)
  rw [ZB p,Rat.intCast_neg]; grind
theorem Uj (c : Int) (m : List Nat) : ∀ p,evP q (Rr c m p)=(c : Rat)*evM q m*evP q p
 | [] => (Rat.mul_zero _).symm
 | t :: p => by
  show ((c*t.1 : Int) : Rat)*evM q (YL m t.2)+evP q (Rr c m p)=(c : Rat)*evM q m*((t.1 : Rat)*evM q t.2+evP q p)
  rw [Uj c m p,Yw,Rat.intCast_mul]; grind
theorem Jc : ∀ p r,evP q (Yo p r)=evP q p*evP q r
 | [],r => (Rat.zero_mul _).symm
 | t :: p,r => by
  show evP q (ZW (Rr t.1 t.2 r) (Yo p r))=((t.1 : Rat)*evM q t.2+evP q p)*evP q r
  rw [Zu,Uj,Jc p r,Rat.add_mul]
end
def nfN (N : List Nd) (stop : List Nat) : Nat→Nat→Pol
 | 0,a => [(1,[a])]
 | f+1,a => cond (stop.any (Nat.beq a)) [(1,[a])] (match N[a]? with
  | some (0,[0,n,1]) => cond (Nat.beq n 0) [] [((n : Int),[])]
  | some (0,[1,n,1]) => [(-(n : Int),[])]
  | some (2,[x,y]) => ZW (nfN N stop f x) (nfN N stop f y)
  | some (3,[x,y]) => ZW (nfN N stop f x) (JC (nfN N stop f y))
  | some (4,[x,y]) => Yo (nfN N stop f x) (nfN N stop f y)
  | some (5,[x]) => JC (nfN N stop f x)
  | _ => [(1,[a])])
inductive Ex where
 | z | o | t | f
 | v (a : Nat)
 | A (x y : Ex) | S (x y : Ex) | M (x y : Ex) | N (x : Ex)
def Ex.ev (q : Nat→Rat) : Ex→Rat
 | z => 0 | o => 1 | t => 2 | f => 4
 | v a => q a
 | A x y => x.ev q+y.ev q | S x y => x.ev q - y.ev q | M x y => x.ev q*y.ev q | N x => -x.ev q
def Ex.nf : Ex→Pol
 | z => [] | o => [(1,[])] | t => [(2,[])] | f => [(4,[])]
 | v a => [(1,[a])]
 | A x y => ZW x.nf y.nf | S x y => ZW x.nf (JC y.nf) | M x y => Yo x.nf y.nf | N x => JC x.nf
variable {q : Nat→Rat} {σ : Nat→ByteArray}
theorem atP (a : Nat) : evP q [(1,[a])]=q a := by
 show ((1 : Int) : Rat)*(q a*1)+0=q a
 rw [Rat.mul_one,Rat.add_zero]; exact Rat.one_mul _
theorem Ox (c : Int) : evP q [(c,[])]=(c : Rat) := by
 show (c : Rat)*1+0=_
 rw [Rat.mul_one,Rat.add_zero]
theorem Ex.nf_ok : ∀ e : Ex,evP q e.nf=e.ev q
 | z => rfl
 | o => Ox 1 | t => Ox 2 | f => Ox 4
 | v a => atP a
 | A x y => (Zu _ _).trans (by rw [nf_ok x,nf_ok y]; rfl)
 | S x y => (Zu _ _).trans (by rw [ZB,nf_ok x,nf_ok y]; exact (Rat.sub_eq_add_neg _ _).symm)
 | M x y => (Jc _ _).trans (by rw [nf_ok x,nf_ok y]; rfl)
 | N x => (ZB _).trans (by rw [nf_ok x]; rfl)
theorem Zm {N : List Nd} (H : ∀ (a : Nat) nd,N[a]? = some nd→q a=Zr σ q nd) (stop : List Nat) : ∀ f a,evP q (nfN N stop f a)=q a
 | 0,a => atP a
 | f+1,a => by
  unfold nfN
  cases stop.any (Nat.beq a)
  ·show evP q (match N[a]? with | some (0,[0,n,1]) => _ | some (0,[1,n,1]) => _ | some (2,[x,y]) => _ | some (3,[x,y]) => _ | some (4,[x,y]) => _ | some (5,[x]) => _ | _ => _)=q a
   split
   ·rename_i n e
    rw [H a _ e]
    show _=mkRat (n : Int) 1
    cases g : Nat.beq n 0
    ·exact (Ox (n : Int)).trans (Rat.mkRat_one _).symm
    ·rw [Nat.eq_of_beq_eq_true g]; rfl
   ·rename_i n e
    rw [H a _ e]
    exact (Ox (-(n : Int))).trans (Rat.mkRat_one _).symm
   ·rename_i x y e
    rw [H a _ e,Zu,Zm H stop f x,Zm H stop f y]; rfl
   ·rename_i x y e
    rw [H a _ e,Zu,ZB,Zm H stop f x,Zm H stop f y]; exact (Rat.sub_eq_add_neg _ _).symm
   ·rename_i x y e
    rw [H a _ e,Jc,Zm H stop f x,Zm H stop f y]; rfl
   ·rename_i x e
    rw [H a _ e,ZB,Zm H stop f x]; rfl
   ·exact atP a
  ·exact atP a
theorem Vm {p r : Pol} (h : WU (ZW p (JC r))=true) : evP q p=evP q r := by
 have e : evP q (ZW p (JC r))=0 := by
  cases k : ZW p (JC r) with
  | nil => rfl
  | cons t s => rw [k] at h; cases h
 rw [Zu,ZB] at e
 grind
theorem pol {N : List Nd} (H : ∀ (a : Nat) nd,N[a]? = some nd→q a=Zr σ q nd) (stop : List Nat) (f a : Nat) (e : Ex) (h : WU (ZW (nfN N stop f a) (JC e.nf))=true) : q a=e.ev q :=
 (Zm H stop f a).symm.trans ((Vm h).trans e.nf_ok)
def Yz (N : List Nd) (b : Nat) : Nat→Nat→Bool
 | 0,_ => false
 | f+1,a => match N[a]? with
  | some (6,[_,y]) => Nat.beq y b
  | some (2,[x,y]) => cond (Yz N b f x) true (Yz N b f y)
  | some (3,[x,y]) => cond (Yz N b f x) true (Yz N b f y)
  | some (4,[x,y]) => cond (Yz N b f x) true (Yz N b f y)
  | some (5,[x]) => Yz N b f x
  | _ => false
def dvN (N : List Nd) (stop : List Nat) (b : Nat) : Nat→Nat→Pol
 | 0,a => [(1,YL [a] [b])]
 | f+1,a => cond (Yz N b (f+1) a) (match N[a]? with
  | some (6,[x,y]) => cond (Nat.beq y b) (nfN N stop f x) [(1,YL [a] [b])]
  | some (2,[x,y]) => ZW (dvN N stop b f x) (dvN N stop b f y)
  | some (3,[x,y]) => ZW (dvN N stop b f x) (JC (dvN N stop b f y))
  | some (4,[x,y]) => cond (Yz N b f x) (Yo (dvN N stop b f x) (nfN N stop f y)) (Yo (nfN N stop f x) (dvN N stop b f y))
  | some (5,[x]) => JC (dvN N stop b f x)
  | _ => [(1,YL [a] [b])]) (Yo (nfN N stop (f+1) a) [(1,[b])])
theorem abP (a b : Nat) : evP q [(1,YL [a] [b])]=q a*q b := by
 show ((1 : Int) : Rat)*evM q (YL [a] [b])+0=_
 rw [Yw,Rat.add_zero]
 show (1 : Rat)*(q a*1*(q b*1))=_
 rw [Rat.one_mul,Rat.mul_one,Rat.mul_one]
theorem JN {N : List Nd} (H : ∀ (a : Nat) nd,N[a]? = some nd→q a=Zr σ q nd) (stop : List Nat) (b : Nat) (hb : ¬ (q b=0)) : ∀ f a,evP q (dvN N stop b f a)=q a*q b
 | 0,a => abP a b
 | f+1,a => by
  unfold dvN
  cases Yz N b (f+1) a
  ·show evP q (Yo (nfN N stop (f+1) a) [(1,[b])])=_
   rw [Jc,Zm H,atP]
  ·show evP q (match N[a]? with | some (6,[x,y]) => _ | some (2,[x,y]) => _ | some (3,[x,y]) => _ | some (4,[x,y]) => _ | some (5,[x]) => _ | _ => _)=_
   split
   ·rename_i x y e
    cases g : Nat.beq y b
    ·exact abP a b
    ·show evP q (nfN N stop f x)=_
     rw [Zm H,H a _ e,Nat.eq_of_beq_eq_true g]
     exact (Rat.div_mul_cancel hb).symm
   ·rename_i x y e
    rw [H a _ e,Zu,JN H stop b hb f x,JN H stop b hb f y]; exact (Rat.add_mul _ _ _).symm
   ·rename_i x y e
    rw [H a _ e,Zu,ZB,JN H stop b hb f x,JN H stop b hb f y]
    show q x*q b+-(q y*q b)=(q x - q y)*q b
    grind
   ·rename_i x y e
    rw [H a _ e]
    show _=q x*q y*q b
    cases Yz N b f x
    ·show evP q (Yo (nfN N stop f x) (dvN N stop b f y))=_
     rw [Jc,Zm H,JN H stop b hb f y,Rat.mul_assoc]
    ·show evP q (Yo (dvN N stop b f x) (nfN N stop f y))=_
     rw [Jc,Zm H,JN H stop b hb f x]; grind
   ·rename_i x e
    rw [H a _ e,ZB,JN H stop b hb f x]
    show -(q x*q b)=-q x*q b
    grind
   ·exact abP a b
theorem Zo {N : List Nd} (H : ∀ (a : Nat) nd,N[a]? = some nd→q a=Zr σ q nd) (stop : List Nat) (f a b : Nat) (e : Ex) (hb : ¬ (q b=0)) (h : WU (ZW (dvN N stop b f a) (JC e.nf))=true) : q a*q b=e.ev q :=
 (JN H stop b hb f a).symm.trans ((Vm h).trans e.nf_ok)
end Go.Proofs.YtmdfngmjoaigjaaGreatDoor
/- VPD -/
namespace Cx
open Go Go.RowKit
def RH : List A1→List A1→Bool
 | [],[] => true
 | (a,x) :: l,(b,y) :: m => (a == b && Iu x y) && RH l m
 | _,_ => false
theorem Us : ∀ {l m : List A1},RH l m=true→l=m
 | [],[],_ => rfl
 | (a,x) :: l,(b,y) :: m,h => by
  unfold RH at h
  simp only [Bool.and_eq_true,beq_iff_eq] at h
  obtain ⟨⟨h1,h2⟩,h3⟩ := h
  rw [h1,XZ h2,Us h3]
 | [],_ :: _,h => by cases h
 | _ :: _,[],h => by cases h
def UK : List AV→List AV→Bool
 | [],[] => true
 | (a,x) :: l,(b,y) :: m => (a == b && RH x y) && UK l m
 | _,_ => false
theorem XO : ∀ {l m : List AV},UK l m=true→l=m
 | [],[],_ => rfl
 | (a,x) :: l,(b,y) :: m,h => by
  unfold UK at h
  simp only [Bool.and_eq_true,beq_iff_eq] at h
  obtain ⟨⟨h1,h2⟩,h3⟩ := h
  rw [h1,Us h2,XO h3]
 | [],_ :: _,h => by cases h
 | _ :: _,[],h => by cases h
abbrev JP := List (FuncId × List AV × AV)
def Xi (f : FuncId) (args : List AV) : JP→Option AV
 | [] => none
 | (g,bs,v) :: m => bif Nat.beq f g && UK args bs then some v else Xi f args m
theorem JO {f : FuncId} {args : List AV} {v : AV} : ∀ {m : JP},Xi f args m=some v→(f,args,v) ∈ m
 | [],h => by cases h
 | (g,bs,u) :: m,h => by
  unfold Xi at h
  cases e : (Nat.beq f g && UK args bs) with
  | true =>
   rw [e] at h
   rw [Bool.and_eq_true,Nat.beq_eq] at e
   rw [e.1,XO e.2,show u=v from Option.some.inj h]
   exact List.mem_cons_self
  | false =>
   rw [e] at h
   exact List.mem_cons_of_mem _ (JO h)
def Xy : AC→Bool
 | .inl _ => true
 | .inr (k,_) => Nat.ble k 2
def YC (v : AV) : Bool := v.2.all fun x => x.2.all Xy
def Zp (S : Sx) (cs : List (FuncId × Nat)) (M : JP) : Nat→Hs→ZN
 | 0,_,_,_,_,_ => none
 | n+1,X,f,args,h,nx => match Xi f args M with
  | some v => some (v,h,nx)
  | none => match Wp f cs with
   | none => Zv (S.plus X) (Zp S cs M n X) f args h nx
   | some c => match YR S X h c args with
    | none => Zv (S.plus X) (Zp S cs M n X) f args h nx
    | some (l,r) => bif Nat.beq 1 r then Zv (S.plus (Ub l X)) (Zp S cs M n (Ub l X)) f args h nx
     else XK h nx ((Jd l X).map fun X' => JH (S.plus X') (Zv (S.plus X') (Zp S cs M n X') f args h nx))
def Xe (S : Sx) (E : Ev S.nb) (w0 : World) (M : JP) : Prop := ∀ f args v,(f,args,v) ∈ M→∀ (γ : Nat→Option Nat) (w : World) (vs : List Value),WI w0 γ w→A2 (avOn (cOn E S.K γ w)) args vs →
 Calls S.P f vs.toArray w fun e w' => ∃ r,e=.returned r∧(∀ wr nx,(∀ b ∈ wr,Ri γ b)→Ef S.nb w0 wr nx nx γ w γ w')∧avOn (cOn E S.K γ w') v r
section
variable {S : Sx} {E : Ev S.nb} {w0 : World}
theorem Wn {K K' : List (FuncId × List AC)} {γ γ' : Nat→Option Nat} {w : World} {d : Nat} {c : AC} {v : Value} (hc : Xy c=true) (h : QY E K γ w d c v) : QY E K' γ' w d c v := by
 cases c with
 | inl u =>
  unfold QY at h ⊢
  exact h
 | inr t =>
  obtain ⟨k,a,b,n,c⟩ := t
  have hk : k≤2 := by
   unfold Xy at hc
   rw [Nat.ble_eq] at hc
   exact hc
  match k,hk with
  | 0,_ =>
   unfold QY at h ⊢
   exact h
  | 1,_ =>
   unfold QY at h ⊢
   exact h
  | 2,_ =>
   unfold QY at h ⊢
   exact h
theorem XT {α : Type} {R R' : α→Value→Prop} {P : α→Prop} (h : ∀ a v,P a→R a v→R' a v) : ∀ {l : List α} {vs : List Value},(∀ a ∈ l,P a)→A2 R l vs→A2 R' l vs
 | [],[],_,_ => trivial
 | _ :: _,_ :: _,hp,q => ⟨h _ _ (hp _ List.mem_cons_self) q.1,XT h (fun a ha => hp a (List.mem_cons_of_mem _ ha)) q.2⟩
 | [],_ :: _,_,q => q.elim
 | _ :: _,[],_,q => q.elim
theorem Ww {K K' : List (FuncId × List AC)} {γ γ' : Nat→Option Nat} {w : World} {x : AV} {v : Value} (hx : YC x=true) (h : avOn (cOn E K γ w) x v) : avOn (cOn E K' γ' w) x v := by
 unfold YC at hx
 rw [List.all_eq_true] at hx
 have one : ∀ (y : A1) u,(∀ c ∈ y.2,Xy c=true)→a1On (cOn E K γ w) y u→a1On (cOn E K' γ' w) y u := fun y u hy q => by
  obtain ⟨b,cs⟩ := y
  cases b with
  | true =>
   obtain ⟨us,e,q⟩ := q
   exact ⟨us,e,XT (P := fun c => Xy c=true) (fun _ _ hc q => Wn hc q) hy q⟩
  | false => exact XT (P := fun c => Xy c=true) (fun _ _ hc q => Wn hc q) hy q
 have all : ∀ y ∈ x.2,∀ c ∈ y.2,Xy c=true := fun y hy c hc => (List.all_eq_true.1 (hx y hy)) c hc
 obtain ⟨b,ys⟩ := x
 cases b with
 | true =>
  obtain ⟨us,e,q⟩ := h
  exact ⟨us,e,XT (P := fun y : A1 => ∀ c ∈ y.2,Xy c=true) (fun y u hy q => one y u hy q) all q⟩
 | false => exact XT (P := fun y : A1 => ∀ c ∈ y.2,Xy c=true) (fun y u hy q => one y u hy q) all h
variable {T : Hs→Prop} {z : Nat→Prop}
theorem Wt {cs : List (FuncId × Nat)} {M : JP} (hm : S.P.follows .mixedOrders=true) (hM : Xe S E w0 M) (hN : ∀ X,T X→Knows (S.plus X) E) (hP : ∀ X,T X→JI (S.plus X) E w0) (hk : ZF S T z)
  (hs : ∀ X,T X→∀ l s r,sqN S l=some s→(S.plus X).kn 0 s 0=some r→(Nat.beq 1 r=true→∀ d ∈ l,z d)∧(Nat.beq 1 r=false→∃ d ∈ l,¬ z d)) : ∀ n X,T X→Zl S E w0 (Zp S cs M n X)
 | 0,_,_ => fun _ _ _ _ _ h => by cases h
 | n+1,X,hX => fun f args h nx p hp => by
  have body : ∀ Y,T Y→Zl S E w0 (Zv (S.plus Y) (Zp S cs M n Y)) := fun Y hY => Yi (S := S.plus Y) hm (hN Y hY) (hP Y hY) (Wt hm hM hN hP hk hs n Y hY)
  unfold Zp at hp
  split at hp
  ·rename_i v hv
   cases hp
   intro γ w vs hi hA hb hlt hf
   refine (hM f args v (JO hv) γ w vs hi hA).mono ?_
   rintro _ w' ⟨r,rfl,hef,hr⟩
   have live : ∀ b ∈ h.map (·.1),Ri γ b := fun b hb' => by
    obtain ⟨x,hx,rfl⟩ := List.mem_map.1 hb'
    obtain ⟨_,_,_,_,hl,_⟩ := hb x hx
    exact hl
   exact ⟨r,γ,rfl,hef _ _ live,hr,fun x hx => (hef [] nx Yu).box hi (hb x hx) (by simp)⟩
  ·split at hp
   ·exact body X hX f args h nx p hp
   ·split at hp
    ·exact body X hX f args h nx p hp
    rename_i l r hk'
    obtain ⟨hl,s,h1,h2⟩ := JZ hk'
    have h3 := hp
    obtain ⟨a1,a0⟩ := hs X hX _ s r h1 h2
    cases e : Nat.beq 1 r with
    | true =>
     rw [e] at h3
     exact body _ (ZV hk hX hl fun a ha => a1 e _ (List.mem_map_of_mem ha)) f args h nx p h3
    | false =>
     rw [e] at h3
     obtain ⟨d,hd,hz⟩ := a0 e
     obtain ⟨a,ha,rfl⟩ := List.mem_map.1 hd
     obtain ⟨X',m1,m2⟩ := ZD hk hX hl ⟨a,ha,hz⟩
     replace h3 : XK h nx ((Jd l X).map fun X' => JH (S.plus X') (Zv (S.plus X') (Zp S cs M n X') f args h nx))=some p := h3
     unfold XK at h3
     split at h3
     ·rename_i p0 rs hrs
      rw [Option.bind_eq_some_iff] at h3
      obtain ⟨b,hb,h4⟩ := h3
      rw [ifO_some,List.all_eq_true] at h4
      obtain ⟨h5,h6⟩ := h4
      cases h6
      obtain ⟨h',nx',q1,q2,q3⟩ := JX (h5 _ (List.mem_map_of_mem m1))
      intro γ w vs hi hA hb hlt hf
      refine (Vq (hN X' m2) (body X' m2) f args h nx _ q1 γ w vs hi hA hb hlt fun b g1 g2 => hf b g1 (Nat.lt_of_lt_of_le g2 q2)).mono ?_
      rintro _ w' ⟨r',γ',rfl,hef,hv,hx⟩
      exact ⟨r',γ',rfl,hef.wide (Nat.le_refl _) q2,hv,fun x hh => hx x (q3 x hh)⟩
     ·cases h3
theorem Ts {K1 K2 : List (FuncId × List AC)} {H1 H2 : Hs} {M : JP} {f : FuncId} {args : List AV} {v : AV} {p : List HB × Nat} {call : ZN} (hC : Zl { S with H := H1,K := K1 } E w0 call) (hr : call f args [] 0=some (v,p)) (ha : args.all YC=true) (hv : YC v=true) (hM : Xe { S with H := H2,K := K2 } E w0 M) : Xe { S with H := H2,K := K2 } E w0 ((f,args,v) :: M) := fun g bs u hmem => by
 rcases List.mem_cons.1 hmem with e | hmem
 ·cases e
  intro γ w vs hi hA
  rw [List.all_eq_true] at ha
  refine (hC f args [] 0 (v,p) hr (fun _ => none) w vs ⟨hi.bel,(fun _ _ h => by cases h)⟩ (XT (P := fun x => YC x=true) (fun _ _ hx q => Ww hx q) ha hA) (fun x hx => by cases hx) (fun x hx => by cases hx) (fun _ _ _ => rfl)).mono ?_
  rintro _ w' ⟨r,γ',rfl,hef,hr,_⟩
  refine ⟨r,rfl,fun wr nx hl => ⟨leG.refl _,fun _ _ => rfl,fun _ _ h => Or.inl h,⟨hef.wi.bel,fun b G q => ⟨(hi.lo b G q).1,Nat.lt_of_lt_of_le (hi.lo b G q).2 hef.gr.size⟩⟩,hef.gr,fun G hG _ => hef.keep G hG (fun b hb => by cases hb),hl⟩,Ww hv hr⟩
 ·exact hM g bs u hmem
def Yr (S : Sx) (cs : List (FuncId × Nat)) (k : Nat) : JP→Bool
 | (f,args,v) :: M => (match Zp S cs M k [] f args [] 0 with
  | some (u,_) => UK [u] [v]
  | none => false) && (args.all YC && YC v)
 | [] => false
def Zj (S : Sx) (cs : List (FuncId × Nat)) (k : Nat) : Nat→JP→Bool
 | 0,_ => true
 | n+1,M => Yr S cs k M && Zj S cs k n M.tail
def qA (l : List Nat) : AV := (false,[(true,l.flatMap Ry)])
def rC (a : Nat) : AC := .inr (0,0,a,0,0)
def rA (l : List Nat) : AV := (false,[(true,l.map rC)])
def tA (l : List Nat) : AV := (false,[(true,l.map fun a => .inr (1,a,0,0,0))])
def pA (l : List Nat) : AV := (false,[(true,l.map fun a => .inr (2,a,0,0,0))])
theorem OC : Xe S E w0 [] := fun _ _ _ h => by cases h
end
end Cx
/- VPE -/
namespace Go.Proofs.YtmdfngmjoaigjaaGreatDoor
open Cx Go Go.RowKit
section
variable {N : List Nd} {H : List (Nat × Nat × Nat × Nat)} {K : List (FuncId × List AC)} {L C : List (List Nat × Nat)} {Z : List Nat} {q : Nat→Rat} {σ : Nat→ByteArray} {cl : List FuncId} {cs pr : List (FuncId × Nat)} {M : JP} {w : World}
theorem YF (Y : Hy N H L C Z q σ) (hc : ∀ f ∈ cl,Closed f) (hm : (Tryz.prog).follows .mixedOrders=true) (hp : Zy w) (hM : Xe (sx Tryz.prog N H K L C Z (prC cl)) (evS q σ) w M) (k : Nat) : Zl (sx Tryz.prog N H K L C Z (prC cl)) (evS q σ) w (Zp (sx Tryz.prog N H K L C Z (prC cl)) cs M k []) :=
 Wt (S := sx Tryz.prog N H K L C Z (prC cl)) (E := evS q σ) (w0 := w) (T := fun X => Hy N (X ++ H) L C Z q σ) (z := fun d => q d=0) hm hM (fun X hX => GM hX) (fun X hX => Rf hX hp hc) Yj (fun X hX l s r h1 h2 => by
  have e := hX.k0 s r h2
  have g := Vl hX h1
  refine ⟨fun h => g.1 (e.1 h),fun h => ?_⟩
  have hn : ¬ ∀ d ∈ l,q d=0 := fun q' => by
   rw [e.2 (g.2 q')] at h
   cases h
  simpa using hn) k [] Y
def Zw (N : List Nd) (L C : List (List Nat × Nat)) (Z : List Nat) (q : Nat→Rat) (σ : Nat→ByteArray) (cl : List FuncId) (w : World) (M : JP) : Prop := ∀ H K,Xe (sx Tryz.prog N H K L C Z (prC cl)) (evS q σ) w M
theorem XX : Zw N L C Z q σ cl w [] := fun _ _ => OC
theorem UN {H1 : List (Nat × Nat × Nat × Nat)} (Y : Hy N H1 L C Z q σ) (hc : ∀ f ∈ cl,Closed f) (hm : (Tryz.prog).follows .mixedOrders=true) (hp : Zy w) {f : FuncId} {args : List AV} {v : AV} (k : Nat) (hr : Yr (sx Tryz.prog N H1 [] L C Z (prC cl)) cs k ((f,args,v) :: M)=true) (hM : Zw N L C Z q σ cl w M) : Zw N L C Z q σ cl w ((f,args,v) :: M) := fun H K => by
 unfold Yr at hr
 simp only [Bool.and_eq_true] at hr
 obtain ⟨h1,h2,h3⟩ := hr
 split at h1
 ·rename_i u p hu
  have e := XO h1
  cases e
  exact Ts (S := sx Tryz.prog N H K L C Z (prC cl)) (K1 := []) (H1 := H1) (K2 := K) (H2 := H) (YF (K := []) (cs := cs) Y hc hm hp (hM H1 []) k) hu h2 h3 (hM H K)
 ·cases h1
theorem Up {i : Nat} {H1 : List (Nat × Nat × Nat × Nat)} (Y : Hy N H1 L C Z q σ) (hc : ∀ f ∈ cl,Closed f) (hm : (Tryz.prog).follows .mixedOrders=true) (hp : Zy w) {k : Nat} (hr : Yr (sx Tryz.prog N H1 [] L C Z (prC cl)) cs k (M.drop i)=true) (hM : Zw N L C Z q σ cl w (M.drop (i+1))) : Zw N L C Z q σ cl w (M.drop i) := by
 rw [← List.tail_drop] at hM
 generalize M.drop i=D at *
 match D with
 | [] => cases hr
 | (f,args,v) :: D => exact UN Y hc hm hp k hr hM
theorem QN {H1 : List (Nat × Nat × Nat × Nat)} (Y : Hy N H1 L C Z q σ) (hc : ∀ f ∈ cl,Closed f) (hm : (Tryz.prog).follows .mixedOrders=true) (hp : Zy w) {k : Nat} : ∀ (n : Nat) {M : JP},Zj (sx Tryz.prog N H1 [] L C Z (prC cl)) cs k n M=true→Zw N L C Z q σ cl w (M.drop n)→Zw N L C Z q σ cl w M
 | 0,_,_,h => h
 | n+1,M,hr,h => by
  unfold Zj at hr
  rw [Bool.and_eq_true] at hr
  have h1 := QN Y hc hm hp n hr.2 (by rw [List.drop_tail]; exact h)
  exact Up (i := 0) Y hc hm hp hr.1 (by rw [Nat.zero_add,List.drop_one]; exact h1)
theorem On {f : FuncId} {args : List AV} {vs : List Value} (k : Nat) (Y : Hy N H L C Z q σ) (hc : ∀ f ∈ cl,Closed f) (hm : (Tryz.prog).follows .mixedOrders=true) (hp : Zy w) (hM : Zw N L C Z q σ cl w M) (hr : (Zp (sx Tryz.prog N H K L C Z (prC cl)) cs M k [] f args [] 0).map (·.1)=some (kB true))
  (hA : A2 (avOn (cOn (evS q σ) K (fun _ => none) w)) args vs) : Calls Tryz.prog f vs.toArray w fun e w' => Below w.heap.size w w'∧e=.returned (.bool true) := by
 rw [Option.map_eq_some_iff] at hr
 obtain ⟨⟨v,p⟩,h1,h2⟩ := hr
 dsimp only at h2
 subst h2
 refine (YF (cs := cs) Y hc hm hp (hM H K) k f args [] 0 (kB true,p) h1 (fun _ => none) w vs ⟨Below.refl _ _,(fun _ _ h => by cases h)⟩ hA (fun x hx => by cases hx) (fun x hx => by cases hx) (fun _ _ _ => rfl)).mono ?_
 rintro _ w' ⟨r,γ',rfl,hef,hv,_⟩
 exact ⟨hef.wi.bel,by rw [show r=.bool true from (Zk (v := kB true) (c := .inl (.bool true)) rfl hv).1]⟩
end
end Go.Proofs.YtmdfngmjoaigjaaGreatDoor
/- MQK -/
namespace Go.Proofs.YtmdfngmjoaigjaaGreatDoor
open Go.RowKit Cx
def qK_N : List Nd := [(1,[0]),(1,[1]),(1,[2]),(1,[3]),(8,[0,0,1,2,3]),(8,[1,0,1,2,3]),(8,[2,0,1,2,3]),(8,[3,0,1,2,3]),(0,[0,0,1]),(3,[8,5]),(3,[8,6]),(3,[8,7]),(4,[4,4]),(4,[5,5]),(2,[8,13]),(4,[6,6]),(2,[14,15]),(4,[7,7]),(2,[16,17]),(2,[12,18]),(1,[8]),(1,[9]),(1,[10]),(4,[4,8]),(4,[5,20]),(2,[8,24]),(4,[6,21]),(2,[25,26]),(4,[7,22]),(2,[27,28]),(3,[23,29]),(4,[20,4]),(4,[21,4]),(4,[22,4]),(4,[5,8]),(4,[6,8]),(4,[7,8]),(2,[31,34]),(2,[32,35]),(2,[33,36]),(4,[6,22]),(4,[7,21]),(3,[40,41]),(4,[7,20]),(4,[5,22]),(3,[43,44]),(4,[5,21]),(4,[6,20]),(3,[46,47]),(2,[37,42]),(2,[38,45]),(2,[39,48]),(4,[30,4]),(4,[49,9]),(2,[8,53]),(4,[50,10]),(2,[54,55]),(4,[51,11]),(2,[56,57]),(3,[52,58]),(4,[9,30]),(4,[10,30]),(4,[11,30]),(4,[49,4]),(4,[50,4]),(4,[51,4]),(2,[60,63]),(2,[61,64]),(2,[62,65]),(4,[50,11]),(4,[51,10]),(3,[69,70]),(4,[51,9]),(4,[49,11]),(3,[72,73]),(4,[49,10]),(4,[50,9]),(3,[75,76]),(2,[66,71]),(2,[67,74]),(2,[68,77]),(6,[78,19]),(6,[79,19]),(6,[80,19]),(1,[11]),(1,[12]),(1,[13]),(4,[5,84]),(2,[8,87]),(4,[6,85]),(2,[88,89]),(4,[7,86]),(2,[90,91]),(3,[23,92]),(4,[84,4]),(4,[85,4]),(4,[86,4]),(2,[94,34]),(2,[95,35]),(2,[96,36]),(4,[6,86]),(4,[7,85]),(3,[100,101]),(4,[7,84]),(4,[5,86]),(3,[103,104]),(4,[5,85]),(4,[6,84]),(3,[106,107]),(2,[97,102]),(2,[98,105]),(2,[99,108]),(4,[93,4]),(4,[109,9]),(2,[8,113]),(4,[110,10]),(2,[114,115]),(4,[111,11]),(2,[116,117]),(3,[112,118]),(4,[9,93]),(4,[10,93]),(4,[11,93]),(4,[109,4]),(4,[110,4]),(4,[111,4]),(2,[120,123]),(2,[121,124]),(2,[122,125]),(4,[110,11]),(4,[111,10]),(3,[129,130]),(4,[111,9]),(4,[109,11]),(3,[132,133]),(4,[109,10]),(4,[110,9]),(3,[135,136]),(2,[126,131]),(2,[127,134]),(2,[128,137]),(6,[138,19]),(6,[139,19]),(6,[140,19]),(4,[81,141]),(4,[82,142]),(4,[83,143]),(2,[144,145]),(2,[147,146]),(4,[20,84]),(4,[21,85]),(4,[22,86]),(2,[149,150]),(2,[152,151]),(4,[21,86]),(4,[22,85]),(3,[154,155]),(4,[22,84]),(4,[20,86]),(3,[157,158]),(4,[20,85]),(4,[21,84]),(3,[160,161]),(4,[5,156]),(2,[8,163]),(4,[6,159]),(2,[164,165]),(4,[7,162]),(2,[166,167]),(3,[23,168]),(4,[156,4]),(4,[159,4]),(4,[162,4]),(2,[170,34]),(2,[171,35]),(2,[172,36]),(4,[6,162]),(4,[7,159]),(3,[176,177]),(4,[7,156]),(4,[5,162]),(3,[179,180]),(4,[5,159]),(4,[6,156]),(3,[182,183]),(2,[173,178]),(2,[174,181]),(2,[175,184]),(4,[169,4]),(4,[185,9]),(2,[8,189]),(4,[186,10]),(2,[190,191]),(4,[187,11]),(2,[192,193]),(3,[188,194]),(4,[9,169]),(4,[10,169]),(4,[11,169]),(4,[185,4]),(4,[186,4]),(4,[187,4]),(2,[196,199]),(2,[197,200]),(2,[198,201]),(4,[186,11]),(4,[187,10]),(3,[205,206]),(4,[187,9]),(4,[185,11]),(3,[208,209]),(4,[185,10]),(4,[186,9]),(3,[211,212]),(2,[202,207]),(2,[203,210]),(2,[204,213]),(6,[214,19]),(6,[215,19]),(6,[216,19]),(4,[82,143]),(4,[83,142]),(3,[220,221]),(4,[83,141]),(4,[81,143]),(3,[223,224]),(4,[81,142]),(4,[82,141]),(3,[226,227]),(3,[217,222]),(3,[218,225]),(3,[219,228]),(4,[229,229]),(4,[230,230]),(2,[232,233]),(4,[231,231]),(2,[234,235]),(1,[4]),(1,[5]),(1,[6]),(1,[7]),(8,[0,237,238,239,240]),(8,[1,237,238,239,240]),(8,[2,237,238,239,240]),(8,[3,237,238,239,240]),(3,[8,242]),(3,[8,243]),(3,[8,244]),(4,[241,241]),(4,[242,242]),(2,[8,249]),(4,[243,243]),(2,[250,251]),(4,[244,244]),(2,[252,253]),(2,[248,254]),(4,[241,8]),(4,[242,81]),(2,[8,257]),(4,[243,82]),(2,[258,259]),(4,[244,83]),(2,[260,261]),(3,[256,262]),(4,[81,241]),(4,[82,241]),(4,[83,241]),(4,[242,8]),(4,[243,8]),(4,[244,8]),(2,[264,267]),(2,[265,268]),(2,[266,269]),(4,[243,83]),(4,[244,82]),(3,[273,274]),(4,[244,81]),(4,[242,83]),(3,[276,277]),(4,[242,82]),(4,[243,81]),(3,[279,280]),(2,[270,275]),(2,[271,278]),(2,[272,281]),(4,[263,241]),(4,[282,245]),(2,[8,286]),(4,[283,246]),(2,[287,288]),(4,[284,247]),(2,[289,290]),(3,[285,291]),(4,[245,263]),(4,[246,263]),(4,[247,263]),(4,[282,241]),(4,[283,241]),(4,[284,241]),(2,[293,296]),(2,[294,297]),(2,[295,298]),(4,[283,247]),(4,[284,246]),(3,[302,303]),(4,[284,245]),(4,[282,247]),(3,[305,306]),(4,[282,246]),(4,[283,245]),(3,[308,309]),(2,[299,304]),(2,[300,307]),(2,[301,310]),(6,[311,255]),(6,[312,255]),(6,[313,255]),(4,[237,0]),(4,[238,1]),(2,[8,318]),(4,[239,2]),(2,[319,320]),(4,[240,3]),(2,[321,322]),(3,[317,323]),(4,[1,237]),(4,[2,237]),(4,[3,237]),(4,[238,0]),(4,[239,0]),(4,[240,0]),(2,[325,328]),(2,[326,329]),(2,[327,330]),(4,[239,3]),(4,[240,2]),(3,[334,335]),(4,[240,1]),(4,[238,3]),(3,[337,338]),(4,[238,2]),(4,[239,1]),(3,[340,341]),(2,[331,336]),(2,[332,339]),(2,[333,342]),(8,[0,324,343,344,345]),(8,[1,324,343,344,345]),(8,[2,324,343,344,345]),(8,[3,324,343,344,345]),(3,[8,347]),(3,[8,348]),(3,[8,349]),(4,[346,346]),(4,[347,347]),(2,[8,354]),(4,[348,348]),(2,[355,356]),(4,[349,349]),(2,[357,358]),(2,[353,359]),(4,[346,8]),(4,[347,20]),(2,[8,362]),(4,[348,21]),(2,[363,364]),(4,[349,22]),(2,[365,366]),(3,[361,367]),(4,[20,346]),(4,[21,346]),(4,[22,346]),(4,[347,8]),(4,[348,8]),(4,[349,8]),(2,[369,372]),(2,[370,373]),(2,[371,374]),(4,[348,22]),(4,[349,21]),(3,[378,379]),(4,[349,20]),(4,[347,22]),(3,[381,382]),(4,[347,21]),(4,[348,20]),(3,[384,385]),(2,[375,380]),(2,[376,383]),(2,[377,386]),(4,[368,346]),(4,[387,350]),(2,[8,391]),(4,[388,351]),(2,[392,393]),(4,[389,352]),(2,[394,395]),(3,[390,396]),(4,[350,368]),(4,[351,368]),(4,[352,368]),(4,[387,346]),(4,[388,346]),(4,[389,346]),(2,[398,401]),(2,[399,402]),(2,[400,403]),(4,[388,352]),(4,[389,351]),(3,[407,408]),(4,[389,350]),(4,[387,352]),(3,[410,411]),(4,[387,351]),(4,[388,350]),(3,[413,414]),(2,[404,409]),(2,[405,412]),(2,[406,415]),(6,[416,360]),(6,[417,360]),(6,[418,360]),(3,[314,419]),(3,[315,420]),(3,[316,421]),(4,[422,422]),(4,[423,423]),(2,[425,426]),(4,[424,424]),(2,[427,428])]
def Dk : List (List Nat × Nat) := []
def Dl : List (List Nat × Nat) := []
def Dq : List Nat := [3495260,3495260,3495260,3495260,13981037,13981037,13981037,13981037,1,13981039,13981039,13981039,27962074,27962074,27962076,27962074,27962078,27962074,27962080,27962082,3495260,3495260,3495260,13981038,17476296,17476298,17476296,20971559,17476296,24466820,24466822,17476296,17476296,17476296,13981038,13981038,13981038,17476299,17476299,17476299,17476296,17476296,20971557,17476296,17476296,20971557,17476296,17476296,20971557,24466819,24466819,24466819,38447859,38447858,38447860,38447858,38447862,38447858,38447864,38447866,38447861,38447861,38447861,38447856,38447856,38447856,38447863,38447863,38447863,38447858,38447858,38447860,38447858,38447858,38447860,38447858,38447858,38447860,38447865,38447865,38447865,38447866,38447866,38447866,3495260,3495260,3495260,17476296,17476298,17476296,20971559,17476296,24466820,24466822,17476296,17476296,17476296,17476299,17476299,17476299,17476296,17476296,20971557,17476296,17476296,20971557,17476296,17476296,20971557,24466819,24466819,24466819,38447859,38447858,38447860,38447858,38447862,38447858,38447864,38447866,38447861,38447861,38447861,38447856,38447856,38447856,38447863,38447863,38447863,38447858,38447858,38447860,38447858,38447858,38447860,38447858,38447858,38447860,38447865,38447865,38447865,38447866,38447866,38447866,76895732,76895732,76895732,76895734,76895736,6990519,6990519,6990519,13981038,20971558,6990519,6990519,13981038,6990519,6990519,13981038,6990519,6990519,13981038,27962075,27962077,27962075,34952597,27962075,34952599,34952601,27962075,27962075,27962075,27962077,27962077,27962077,27962075,27962075,34952595,27962075,27962075,34952595,27962075,27962075,34952595,34952597,34952597,34952597,48933638,48933636,48933638,48933636,48933640,48933636,48933642,48933644,48933640,48933640,48933640,48933634,48933634,48933634,48933642,48933642,48933642,48933636,48933636,48933638,48933636,48933636,48933638,48933636,48933636,48933638,48933644,48933644,48933644,48933645,48933645,48933645,76895732,76895732,76895734,76895732,76895732,76895734,76895732,76895732,76895734,76895736,76895736,76895736,153791472,153791472,153791474,153791472,153791476,3495260,3495260,3495260,3495260,13981037,13981037,13981037,13981037,13981039,13981039,13981039,27962074,27962074,27962076,27962074,27962078,27962074,27962080,27962082,13981038,52428903,52428905,52428903,52428907,52428903,52428909,52428911,52428903,52428903,52428903,13981038,13981038,13981038,52428905,52428905,52428905,52428903,52428903,52428905,52428903,52428903,52428905,52428903,52428903,52428905,52428907,52428907,52428907,66409948,66409946,66409948,66409946,66409950,66409946,66409952,66409954,66409950,66409950,66409950,66409944,66409944,66409944,66409952,66409952,66409952,66409946,66409946,66409948,66409946,66409946,66409948,66409946,66409946,66409948,66409954,66409954,66409954,66409955,66409955,66409955,6990519,6990519,6990521,6990519,13981041,6990519,20971561,27962081,6990519,6990519,6990519,6990519,6990519,6990519,13981038,13981038,13981038,6990519,6990519,13981038,6990519,6990519,13981038,6990519,6990519,13981038,27962076,27962076,27962076,27962082,27962077,27962077,27962077,27962079,27962079,27962079,55924164,55924154,55924156,55924154,55924158,55924154,55924160,55924166,27962083,31457336,31457338,31457336,34952599,31457336,38447860,38447862,31457341,31457341,31457341,27962078,27962078,27962078,31457343,31457343,31457343,31457336,31457336,34952597,31457336,31457336,34952597,31457336,31457336,34952597,38447863,38447863,38447863,66409944,66409942,66409944,66409942,66409946,66409942,66409948,66409950,66409941,66409941,66409941,66409945,66409945,66409945,66409947,66409947,66409947,66409942,66409942,66409944,66409942,66409942,66409944,66409942,66409942,66409944,66409949,66409949,66409949,66409950,66409950,66409950,122334123,122334123,122334123,244668246,244668246,244668248,244668246,244668250]
def AZ : List Atm := [(0,8),(0,9)]
def Zn : List Atm := [(0,8),(0,9),(0,10)]
def qK_D2 : List Atm := [(0,9),(0,10)]
def qK_D3 : List Atm := [(0,8),(0,10)]
def Zz : List Atm := [(0,8),(0,9),(0,10),(1,19)]
def qK_D5 : List Atm := [(0,11),(0,12)]
def JR : List Atm := [(0,11),(0,12),(0,13)]
def qK_D7 : List Atm := [(0,11),(0,12),(0,13),(1,19)]
def Ws : List Atm := [(0,8),(0,9),(0,10),(0,11),(0,12),(0,13),(1,19),(1,19)]
def FC : List Atm := [(0,8),(0,9),(0,11),(0,12)]
def ZG : List Atm := [(0,8),(0,9),(0,10),(0,11),(0,12),(0,13)]
def Kn : List Atm := [(0,9),(0,10),(0,12),(0,13)]
def Py : List Atm := [(0,8),(0,10),(0,11),(0,13)]
def Hv : List Atm := [(0,8),(0,9),(0,10),(0,11),(0,12),(0,13),(1,19)]
def FT : List Atm := [(0,8),(0,8),(0,9),(0,9),(0,10),(0,10),(0,11),(0,11),(0,12),(0,12),(0,13),(0,13),(1,19),(1,19),(1,19),(1,19)]
def Hn : List Atm := [(0,8),(0,9),(0,10),(1,19),(1,255)]
def qK_D16 : List Atm := [(0,1),(0,5)]
def qK_D17 : List Atm := [(0,1),(0,2),(0,5),(0,6)]
def Mn : List Atm := [(0,0),(0,1),(0,2),(0,3),(0,4),(0,5),(0,6),(0,7)]
def LP : List Atm := [(0,8),(0,9),(0,10),(1,360)]
def LH : List Atm := [(0,8),(0,9),(0,10),(1,19),(1,255),(1,360)]
def FM : List Atm := [(0,8),(0,8),(0,9),(0,9),(0,10),(0,10),(1,19),(1,19),(1,255),(1,255),(1,360),(1,360)]
def qK_E : List (Nat × List Atm) := [(3495259,[(0,0)]),(3495259,[(0,1)]),(3495259,[(0,2)]),(3495259,[(0,3)]),(13981037,[]),(13981037,[]),(13981037,[]),(13981037,[]),(1,[]),(13981039,[]),(13981039,[]),(13981039,[]),(27962074,[]),(27962074,[]),(27962076,[]),(27962074,[]),(27962078,[]),(27962074,[]),(27962080,[]),(27962082,[]),(3495259,[(0,8)]),(3495259,[(0,9)]),(3495259,[(0,10)]),(13981038,[]),(17476296,[(0,8)]),(17476298,[(0,8)]),(17476296,[(0,9)]),(20971559,AZ),(17476296,[(0,10)]),(24466820,Zn),(24466822,Zn),(17476296,[(0,8)]),(17476296,[(0,9)]),(17476296,[(0,10)]),(13981038,[]),(13981038,[]),(13981038,[]),(17476299,[(0,8)]),(17476299,[(0,9)]),(17476299,[(0,10)]),(17476296,[(0,10)]),(17476296,[(0,9)]),(20971557,qK_D2),(17476296,[(0,8)]),(17476296,[(0,10)]),(20971557,qK_D3),(17476296,[(0,9)]),(17476296,[(0,8)]),(20971557,AZ),(24466819,Zn),(24466819,Zn),(24466819,Zn),(38447859,Zn),(38447858,Zn),(38447860,Zn),(38447858,Zn),(38447862,Zn),(38447858,Zn),(38447864,Zn),(38447866,Zn),(38447861,Zn),(38447861,Zn),(38447861,Zn),(38447856,Zn),(38447856,Zn),(38447856,Zn),(38447863,Zn),(38447863,Zn),(38447863,Zn),(38447858,Zn),(38447858,Zn),(38447860,Zn),(38447858,Zn),(38447858,Zn),(38447860,Zn),(38447858,Zn),(38447858,Zn),(38447860,Zn),(38447865,Zn),(38447865,Zn),(38447865,Zn),(38447866,Zz),(38447866,Zz),(38447866,Zz),(3495259,[(0,11)]),(3495259,[(0,12)]),(3495259,[(0,13)]),(17476296,[(0,11)]),(17476298,[(0,11)]),(17476296,[(0,12)]),(20971559,qK_D5),(17476296,[(0,13)]),(24466820,JR),(24466822,JR),(17476296,[(0,11)]),(17476296,[(0,12)]),(17476296,[(0,13)]),(17476299,[(0,11)]),(17476299,[(0,12)]),(17476299,[(0,13)]),(17476296,[(0,13)]),(17476296,[(0,12)]),(20971557,[(0,12),(0,13)]),(17476296,[(0,11)]),(17476296,[(0,13)]),(20971557,[(0,11),(0,13)]),(17476296,[(0,12)]),(17476296,[(0,11)]),(20971557,qK_D5),(24466819,JR),(24466819,JR),(24466819,JR),(38447859,JR),(38447858,JR),(38447860,JR),(38447858,JR),(38447862,JR),(38447858,JR),(38447864,JR),(38447866,JR),(38447861,JR),(38447861,JR),(38447861,JR),(38447856,JR),(38447856,JR),(38447856,JR),(38447863,JR),(38447863,JR),(38447863,JR),(38447858,JR),(38447858,JR),(38447860,JR),(38447858,JR),(38447858,JR),(38447860,JR),(38447858,JR),(38447858,JR),(38447860,JR),(38447865,JR),(38447865,JR),(38447865,JR),(38447866,qK_D7),(38447866,qK_D7),(38447866,qK_D7),(76895732,Ws),(76895732,Ws),(76895732,Ws),(76895734,Ws),(76895736,Ws),(6990518,[(0,8),(0,11)]),(6990518,[(0,9),(0,12)]),(6990518,[(0,10),(0,13)]),(13981038,FC),(20971558,ZG),(6990518,[(0,9),(0,13)]),(6990518,[(0,10),(0,12)]),(13981038,Kn),(6990518,[(0,10),(0,11)]),(6990518,[(0,8),(0,13)]),(13981038,Py),(6990518,[(0,8),(0,12)]),(6990518,[(0,9),(0,11)]),(13981038,FC),(27962075,Kn),(27962077,Kn),(27962075,Py),(34952597,ZG),(27962075,FC),(34952599,ZG),(34952601,ZG),(27962075,Kn),(27962075,Py),(27962075,FC),(27962077,Kn),(27962077,Py),(27962077,FC),(27962075,FC),(27962075,Py),(34952595,ZG),(27962075,Kn),(27962075,FC),(34952595,ZG),(27962075,Py),(27962075,Kn),(34952595,ZG),(34952597,ZG),(34952597,ZG),(34952597,ZG),(48933638,ZG),(48933636,ZG),(48933638,ZG),(48933636,ZG),(48933640,ZG),(48933636,ZG),(48933642,ZG),(48933644,ZG),(48933640,ZG),(48933640,ZG),(48933640,ZG),(48933634,ZG),(48933634,ZG),(48933634,ZG),(48933642,ZG),(48933642,ZG),(48933642,ZG),(48933636,ZG),(48933636,ZG),(48933638,ZG),(48933636,ZG),(48933636,ZG),(48933638,ZG),(48933636,ZG),(48933636,ZG),(48933638,ZG),(48933644,ZG),(48933644,ZG),(48933644,ZG),(48933645,Hv),(48933645,Hv),(48933645,Hv),(76895732,Ws),(76895732,Ws),(76895734,Ws),(76895732,Ws),(76895732,Ws),(76895734,Ws),(76895732,Ws),(76895732,Ws),(76895734,Ws),(76895736,Ws),(76895736,Ws),(76895736,Ws),(153791472,FT),(153791472,FT),(153791474,FT),(153791472,FT),(153791476,FT),(3495259,[(0,4)]),(3495259,[(0,5)]),(3495259,[(0,6)]),(3495259,[(0,7)]),(13981037,[]),(13981037,[]),(13981037,[]),(13981037,[]),(13981039,[]),(13981039,[]),(13981039,[]),(27962074,[]),(27962074,[]),(27962076,[]),(27962074,[]),(27962078,[]),(27962074,[]),(27962080,[]),(27962082,[]),(13981038,[]),(52428903,Zz),(52428905,Zz),(52428903,Zz),(52428907,Zz),(52428903,Zz),(52428909,Zz),(52428911,Zz),(52428903,Zz),(52428903,Zz),(52428903,Zz),(13981038,[]),(13981038,[]),(13981038,[]),(52428905,Zz),(52428905,Zz),(52428905,Zz),(52428903,Zz),(52428903,Zz),(52428905,Zz),(52428903,Zz),(52428903,Zz),(52428905,Zz),(52428903,Zz),(52428903,Zz),(52428905,Zz),(52428907,Zz),(52428907,Zz),(52428907,Zz),(66409948,Zz),(66409946,Zz),(66409948,Zz),(66409946,Zz),(66409950,Zz),(66409946,Zz),(66409952,Zz),(66409954,Zz),(66409950,Zz),(66409950,Zz),(66409950,Zz),(66409944,Zz),(66409944,Zz),(66409944,Zz),(66409952,Zz),(66409952,Zz),(66409952,Zz),(66409946,Zz),(66409946,Zz),(66409948,Zz),(66409946,Zz),(66409946,Zz),(66409948,Zz),(66409946,Zz),(66409946,Zz),(66409948,Zz),(66409954,Zz),(66409954,Zz),(66409954,Zz),(66409955,Hn),(66409955,Hn),(66409955,Hn),(6990518,[(0,0),(0,4)]),(6990518,qK_D16),(6990521,qK_D16),(6990518,[(0,2),(0,6)]),(13981041,qK_D17),(6990518,[(0,3),(0,7)]),(20971561,[(0,1),(0,2),(0,3),(0,5),(0,6),(0,7)]),(27962081,Mn),(6990518,[(0,1),(0,4)]),(6990518,[(0,2),(0,4)]),(6990518,[(0,3),(0,4)]),(6990518,[(0,0),(0,5)]),(6990518,[(0,0),(0,6)]),(6990518,[(0,0),(0,7)]),(13981038,[(0,0),(0,1),(0,4),(0,5)]),(13981038,[(0,0),(0,2),(0,4),(0,6)]),(13981038,[(0,0),(0,3),(0,4),(0,7)]),(6990518,[(0,3),(0,6)]),(6990518,[(0,2),(0,7)]),(13981038,[(0,2),(0,3),(0,6),(0,7)]),(6990518,[(0,1),(0,7)]),(6990518,[(0,3),(0,5)]),(13981038,[(0,1),(0,3),(0,5),(0,7)]),(6990518,[(0,2),(0,5)]),(6990518,[(0,1),(0,6)]),(13981038,qK_D17),(27962076,Mn),(27962076,Mn),(27962076,Mn),(27962082,[]),(27962077,[]),(27962077,[]),(27962077,[]),(27962079,[]),(27962079,[]),(27962079,[]),(55924164,[]),(55924154,[]),(55924156,[]),(55924154,[]),(55924158,[]),(55924154,[]),(55924160,[]),(55924166,[]),(27962083,[]),(31457336,[(0,8)]),(31457338,[(0,8)]),(31457336,[(0,9)]),(34952599,AZ),(31457336,[(0,10)]),(38447860,Zn),(38447862,Zn),(31457341,[(0,8)]),(31457341,[(0,9)]),(31457341,[(0,10)]),(27962078,[]),(27962078,[]),(27962078,[]),(31457343,[(0,8)]),(31457343,[(0,9)]),(31457343,[(0,10)]),(31457336,[(0,10)]),(31457336,[(0,9)]),(34952597,qK_D2),(31457336,[(0,8)]),(31457336,[(0,10)]),(34952597,qK_D3),(31457336,[(0,9)]),(31457336,[(0,8)]),(34952597,AZ),(38447863,Zn),(38447863,Zn),(38447863,Zn),(66409944,Zn),(66409942,Zn),(66409944,Zn),(66409942,Zn),(66409946,Zn),(66409942,Zn),(66409948,Zn),(66409950,Zn),(66409941,Zn),(66409941,Zn),(66409941,Zn),(66409945,Zn),(66409945,Zn),(66409945,Zn),(66409947,Zn),(66409947,Zn),(66409947,Zn),(66409942,Zn),(66409942,Zn),(66409944,Zn),(66409942,Zn),(66409942,Zn),(66409944,Zn),(66409942,Zn),(66409942,Zn),(66409944,Zn),(66409949,Zn),(66409949,Zn),(66409949,Zn),(66409950,LP),(66409950,LP),(66409950,LP),(122334123,LH),(122334123,LH),(122334123,LH),(244668246,FM),(244668246,FM),(244668248,FM),(244668246,FM),(244668250,FM)]
abbrev YT (q : Nat→Rat) (σ : Nat→ByteArray) : Prop := ∀ (a : Nat) nd,qK_N[a]? = some nd→q a=Zr σ q nd
variable {q : Nat→Rat} {σ : Nat→ByteArray}
theorem AK : wfB 0 qK_N=true := by kernel_rfl
theorem qK_sz : saB qK_E 0 qK_N qK_E Dq=true := by kernel_rfl
theorem qK_lt : KZ qK_N Dk=true := by kernel_rfl
theorem qK_cn : Gb qK_N Dl=true := by kernel_rfl
theorem qK_c8 : cst 0 0 1=(0 : Rat) := by decide +kernel
def qK_A : List AV := [(false,[(true,[.inr (2,0,0,0,0),.inr (2,1,0,0,0),.inr (2,2,0,0,0),.inr (2,3,0,0,0)])]),(false,[(true,[.inr (2,4,0,0,0),.inr (2,5,0,0,0),.inr (2,6,0,0,0),.inr (2,7,0,0,0)])]),(false,[(true,[.inr (2,8,0,0,0),.inr (2,9,0,0,0),.inr (2,10,0,0,0)])]),(false,[(true,[.inr (2,11,0,0,0),.inr (2,12,0,0,0),.inr (2,13,0,0,0)])])]
theorem V3s {x y z m1 m2 m3 s t : Rat} (h1 : m1=x*x) (h2 : m2=y*y) (hs : s=m1+m2) (h3 : m3=z*z) (ht : t=s+m3) : t=0 ↔ ((x=0∧y=0)∧z=0) := by
 have a1 := QJ x
 have a2 := QJ y
 have a3 := QJ z
 subst_vars
 constructor
 ·intro h
  refine ⟨⟨a1.2.1 ?_,a2.2.1 ?_⟩,a3.2.1 ?_⟩ <;> grind
 ·rintro ⟨⟨h1,h2⟩,h3⟩
  rw [h1,h2,h3]; grind
theorem Ul {a b c d e f g h i : Rat} (r11 : a*a+b*b+c*c=1) (r22 : d*d+e*e+f*f=1) (r33 : g*g+h*h+i*i=1) (r12 : a*d+b*e+c*f=0) (r13 : a*g+b*h+c*i=0) (r23 : d*g+e*h+f*i=0) (hd : 0 < a*(e*i - f*h)+b*(f*g - d*i)+c*(d*h - e*g)) :
  (e*i - f*h=a∧f*g - d*i=b∧d*h - e*g=c)∧(h*c - i*b=d∧i*a - g*c=e∧g*b - h*a=f)∧(b*f - c*e=g∧c*d - a*f=h∧a*e - b*d=i) := by
 have gram : (a*(e*i - f*h)+b*(f*g - d*i)+c*(d*h - e*g))*(a*(e*i - f*h)+b*(f*g - d*i)+c*(d*h - e*g))=(a*a+b*b+c*c)*((d*d+e*e+f*f)*(g*g+h*h+i*i) - (d*g+e*h+f*i)*(d*g+e*h+f*i)) - (a*d+b*e+c*f)*((a*d+b*e+c*f)*(g*g+h*h+i*i) - (d*g+e*h+f*i)*(a*g+b*h+c*i))+(a*g+b*h+c*i)*((a*d+b*e+c*f)*(d*g+e*h+f*i) - (d*d+e*e+f*f)*(a*g+b*h+c*i)) := by clear r11 r22 r33 r12 r13 r23 hd; grind
 rw [r11,r22,r33,r12,r13,r23] at gram
 generalize hD : a*(e*i - f*h)+b*(f*g - d*i)+c*(d*h - e*g)=D at *
 have one : D=1 := by
  have p : (D - 1)*(D+1)=0 := by grind
  rcases Rat.mul_eq_zero.1 p with q | q <;> grind
 subst one
 have l1 : (e*i - f*h)*(e*i - f*h)+(f*g - d*i)*(f*g - d*i)+(d*h - e*g)*(d*h - e*g)=1 := by
  have : (e*i - f*h)*(e*i - f*h)+(f*g - d*i)*(f*g - d*i)+(d*h - e*g)*(d*h - e*g)=(d*d+e*e+f*f)*(g*g+h*h+i*i) - (d*g+e*h+f*i)*(d*g+e*h+f*i) := by clear r11 r22 r33 r12 r13 r23 hd gram hD; grind
  rw [this,r22,r33,r23]; grind
 have l2 : (h*c - i*b)*(h*c - i*b)+(i*a - g*c)*(i*a - g*c)+(g*b - h*a)*(g*b - h*a)=1 := by
  have : (h*c - i*b)*(h*c - i*b)+(i*a - g*c)*(i*a - g*c)+(g*b - h*a)*(g*b - h*a)=(a*a+b*b+c*c)*(g*g+h*h+i*i) - (a*g+b*h+c*i)*(a*g+b*h+c*i) := by clear r11 r22 r33 r12 r13 r23 hd gram hD l1; grind
  rw [this,r11,r33,r13]; grind
 have l3 : (b*f - c*e)*(b*f - c*e)+(c*d - a*f)*(c*d - a*f)+(a*e - b*d)*(a*e - b*d)=1 := by
  have : (b*f - c*e)*(b*f - c*e)+(c*d - a*f)*(c*d - a*f)+(a*e - b*d)*(a*e - b*d)=(d*d+e*e+f*f)*(a*a+b*b+c*c) - (a*d+b*e+c*f)*(a*d+b*e+c*f) := by clear r11 r22 r33 r12 r13 r23 hd gram hD l1 l2; grind
  rw [this,r11,r22,r12]; grind
 have z : ∀ {x y z u v w : Rat},x*x+y*y+z*z=1→u*u+v*v+w*w=1→u*x+v*y+w*z=1→x=u∧y=v∧z=w := by
  intro x y z u v w p q r
  have s : (x - u)*(x - u)+(y - v)*(y - v)+(z - w)*(z - w)=0 := by grind
  have a1 := QJ (x - u)
  have a2 := QJ (y - v)
  have a3 := QJ (z - w)
  have b1 := a1.2.1 (by grind)
  have b2 := a2.2.1 (by grind)
  have b3 := a3.2.1 (by grind)
  exact ⟨by grind,by grind,by grind⟩
 refine ⟨z l1 r11 hD,z l2 r22 ?_,z l3 r33 ?_⟩
 ·rw [← hD]; clear r11 r22 r33 r12 r13 r23 gram hD l1 l2 l3; grind
 ·rw [← hD]; clear r11 r22 r33 r12 r13 r23 gram hD l1 l2 l3; grind
theorem Qb {k x y : Rat} (h : k ≠ 0) (e : x*k=y*k) : x=y := by
 have : (x - y)*k=0 := by grind
 have := (Rat.mul_eq_zero.1 this).resolve_right h
 grind
theorem TQ {a b c d e f g h i s x y z : Rat} (r11 : a*a+b*b+c*c=1) (r22 : d*d+e*e+f*f=1) (r33 : g*g+h*h+i*i=1) (r12 : a*d+b*e+c*f=0) (r13 : a*g+b*h+c*i=0) (r23 : d*g+e*h+f*i=0) (hd : 0 < a*(e*i - f*h)+b*(f*g - d*i)+c*(d*h - e*g)) (es : s=1+a+e+i) (hs : s ≠ 0) (hx : x*s=h - f) (hy : y*s=c - g) (hz : z*s=d - b) :
  ((1+x*x - y*y - z*z)=a*(1+x*x+y*y+z*z)∧2*(x*y - z)=b*(1+x*x+y*y+z*z)∧2*(x*z+y)=c*(1+x*x+y*y+z*z))∧(2*(x*y+z)=d*(1+x*x+y*y+z*z)∧(1 - x*x+y*y - z*z)=e*(1+x*x+y*y+z*z)∧2*(y*z - x)=f*(1+x*x+y*y+z*z))∧(2*(x*z - y)=g*(1+x*x+y*y+z*z)∧2*(y*z+x)=h*(1+x*x+y*y+z*z)∧(1 - x*x - y*y+z*z)=i*(1+x*x+y*y+z*z)) := by
 obtain ⟨⟨c1,c2,c3⟩,⟨c4,c5,c6⟩,⟨c7,c8,c9⟩⟩ := Ul r11 r22 r33 r12 r13 r23 hd
 clear hd
 have k : s*s ≠ 0 := ZH hs hs
 have xx : x*x*(s*s)=(h - f)*(h - f) := by rw [← hx]; grind
 have yy : y*y*(s*s)=(c - g)*(c - g) := by rw [← hy]; grind
 have zz : z*z*(s*s)=(d - b)*(d - b) := by rw [← hz]; grind
 have xy : x*y*(s*s)=(h - f)*(c - g) := by rw [← hx,← hy]; grind
 have xz : x*z*(s*s)=(h - f)*(d - b) := by rw [← hx,← hz]; grind
 have yz : y*z*(s*s)=(c - g)*(d - b) := by rw [← hy,← hz]; grind
 have sx : x*(s*s)=(h - f)*s := by rw [← hx]; grind
 have sy : y*(s*s)=(c - g)*s := by rw [← hy]; grind
 have sz : z*(s*s)=(d - b)*s := by rw [← hz]; grind
 have n : (1+x*x+y*y+z*z)*(s*s)=4*s := by
  have : (1+x*x+y*y+z*z)*(s*s)=s*s+x*x*(s*s)+y*y*(s*s)+z*z*(s*s) := by grind
  rw [this,xx,yy,zz,es]; clear this xx yy zz xy xz yz sx sy sz hx hy hz k hs; grind
 have N : ∀ t,t*(1+x*x+y*y+z*z)*(s*s)=t*(4*s) := fun t => by rw [← n]; grind
 clear hx hy hz n
 generalize 1+x*x+y*y+z*z=M at *
 refine ⟨⟨?_,?_,?_⟩,⟨?_,?_,?_⟩,⟨?_,?_,?_⟩⟩ <;> refine Qb k ?_ <;> rw [N]
 ·have : (1+x*x - y*y - z*z)*(s*s)=s*s+x*x*(s*s) - y*y*(s*s) - z*z*(s*s) := by grind
  rw [this,xx,yy,zz,es]; clear this xx yy zz xy xz yz sx sy sz N k hs; grind
 ·have : 2*(x*y - z)*(s*s)=2*(x*y*(s*s) - z*(s*s)) := by grind
  rw [this,xy,sz,es]; clear this xx yy zz xy xz yz sx sy sz N k hs; grind
 ·have : 2*(x*z+y)*(s*s)=2*(x*z*(s*s)+y*(s*s)) := by grind
  rw [this,xz,sy,es]; clear this xx yy zz xy xz yz sx sy sz N k hs; grind
 ·have : 2*(x*y+z)*(s*s)=2*(x*y*(s*s)+z*(s*s)) := by grind
  rw [this,xy,sz,es]; clear this xx yy zz xy xz yz sx sy sz N k hs; grind
 ·have : (1 - x*x+y*y - z*z)*(s*s)=s*s - x*x*(s*s)+y*y*(s*s) - z*z*(s*s) := by grind
  rw [this,xx,yy,zz,es]; clear this xx yy zz xy xz yz sx sy sz N k hs; grind
 ·have : 2*(y*z - x)*(s*s)=2*(y*z*(s*s) - x*(s*s)) := by grind
  rw [this,yz,sx,es]; clear this xx yy zz xy xz yz sx sy sz N k hs; grind
 ·have : 2*(x*z - y)*(s*s)=2*(x*z*(s*s) - y*(s*s)) := by grind
  rw [this,xz,sy,es]; clear this xx yy zz xy xz yz sx sy sz N k hs; grind
 ·have : 2*(y*z+x)*(s*s)=2*(y*z*(s*s)+x*(s*s)) := by grind
  rw [this,yz,sx,es]; clear this xx yy zz xy xz yz sx sy sz N k hs; grind
 ·have : (1 - x*x - y*y+z*z)*(s*s)=s*s - x*x*(s*s) - y*y*(s*s)+z*z*(s*s) := by grind
  rw [this,xx,yy,zz,es]; clear this xx yy zz xy xz yz sx sy sz N k hs; grind
theorem Oe {a b c d e f g h i : Rat} (r11 : a*a+b*b+c*c=1) (r22 : d*d+e*e+f*f=1) (r33 : g*g+h*h+i*i=1) (r12 : a*d+b*e+c*f=0) (r13 : a*g+b*h+c*i=0) (r23 : d*g+e*h+f*i=0) (hd : 0 < a*(e*i - f*h)+b*(f*g - d*i)+c*(d*h - e*g)) (hs : 1+a+e+i=0) :
  (d=b∧g=c∧h=f)∧(b*b=(a+1)*(e+1)∧c*c=(a+1)*(i+1)∧f*f=(e+1)*(i+1))∧(b*c=(a+1)*f∧b*f=(e+1)*c∧c*f=(i+1)*b) := by
 obtain ⟨⟨c1,c2,c3⟩,⟨c4,c5,c6⟩,⟨c7,c8,c9⟩⟩ := Ul r11 r22 r33 r12 r13 r23 hd
 clear hd
 have s : (h - f)*(h - f)+(c - g)*(c - g)+(d - b)*(d - b)=0 := by
  have : (h - f)*(h - f)+(c - g)*(c - g)+(d - b)*(d - b)=(1+a+e+i)*(3 - a - e - i) := by grind
  rw [this,hs,Rat.zero_mul]
 have a1 := QJ (h - f)
 have a2 := QJ (c - g)
 have a3 := QJ (d - b)
 have b1 := a1.2.1 (by grind)
 have b2 := a2.2.1 (by grind)
 have b3 := a3.2.1 (by grind)
 have e1 : h=f := by grind
 have e2 : g=c := by grind
 have e3 : d=b := by grind
 clear a1 a2 a3 b1 b2 b3 s
 subst e1 e2 e3
 refine ⟨⟨rfl,rfl,rfl⟩,⟨?_,?_,?_⟩,⟨?_,?_,?_⟩⟩ <;> grind
theorem Iq {a b c e f i p y z : Rat} (hb : b*b=(a+1)*(e+1)) (hc : c*c=(a+1)*(i+1)) (hbc : b*c=(a+1)*f) (hs : 1+a+e+i=0) (ep : p=a+1) (hp : p ≠ 0) (hy : y*p=b) (hz : z*p=c) :
  (1 - y*y - z*z=a*(1+y*y+z*z)∧2*y=b*(1+y*y+z*z)∧2*z=c*(1+y*y+z*z))∧(y*y - 1 - z*z=e*(1+y*y+z*z)∧2*(y*z)=f*(1+y*y+z*z))∧(z*z - 1 - y*y=i*(1+y*y+z*z)) := by
 have yy : y*y*p=e+1 := Qb hp (by
  have : y*y*p*p=(y*p)*(y*p) := by grind
  rw [this,hy,hb,ep]; grind)
 have zz : z*z*p=i+1 := Qb hp (by
  have : z*z*p*p=(z*p)*(z*p) := by grind
  rw [this,hz,hc,ep]; grind)
 have yz : y*z*p=f := Qb hp (by
  have : y*z*p*p=(y*p)*(z*p) := by grind
  rw [this,hy,hz,hbc,ep]; grind)
 refine ⟨⟨?_,?_,?_⟩,⟨?_,?_⟩,?_⟩ <;> refine Qb hp ?_ <;> grind
structure QTab (w x y z n a b c d e f g h i : Rat) : Prop where
 hn : n ≠ 0
 en : n=w*w+x*x+y*y+z*z
 ha : a*n=w*w+x*x - y*y - z*z
 hb : b*n=2*(x*y - w*z)
 hc : c*n=2*(x*z+w*y)
 hd : d*n=2*(x*y+w*z)
 he : e*n=w*w - x*x+y*y - z*z
 hf : f*n=2*(y*z - w*x)
 hg : g*n=2*(x*z - w*y)
 hh : h*n=2*(y*z+w*x)
 hi : i*n=w*w - x*x - y*y+z*z
theorem QTab.rows {w x y z n a b c d e f g h i : Rat} (Q : QTab w x y z n a b c d e f g h i) : (a*a+b*b+c*c=1∧d*d+e*e+f*f=1∧g*g+h*h+i*i=1)∧(a*d+b*e+c*f=0∧a*g+b*h+c*i=0∧d*g+e*h+f*i=0) := by
 obtain ⟨hn,en,ha,hb,hc,hd,he,hf,hg,hh,hi⟩ := Q
 have k : n*n ≠ 0 := ZH hn hn
 have p : ∀ {p q r s t u m : Rat},(p*n)*(s*n)+(q*n)*(t*n)+(r*n)*(u*n)=m*(n*n)→p*s+q*t+r*u=m := fun {p q r s t u m} j => Qb k (by rw [← j]; grind)
 refine ⟨⟨p ?_,p ?_,p ?_⟩,⟨p ?_,p ?_,p ?_⟩⟩
 ·rw [ha,hb,hc,en]; clear ha hb hc hd he hf hg hh hi k hn p; grind
 ·rw [hd,he,hf,en]; clear ha hb hc hd he hf hg hh hi k hn p; grind
 ·rw [hg,hh,hi,en]; clear ha hb hc hd he hf hg hh hi k hn p; grind
 ·rw [ha,hb,hc,hd,he,hf]; clear ha hb hc hd he hf hg hh hi k hn p en; grind
 ·rw [ha,hb,hc,hg,hh,hi]; clear ha hb hc hd he hf hg hh hi k hn p en; grind
 ·rw [hd,he,hf,hg,hh,hi]; clear ha hb hc hd he hf hg hh hi k hn p en; grind
theorem QTab.cols {w x y z n a b c d e f g h i : Rat} (Q : QTab w x y z n a b c d e f g h i) : (a*a+d*d+g*g=1∧b*b+e*e+h*h=1∧c*c+f*f+i*i=1)∧(a*b+d*e+g*h=0∧a*c+d*f+g*i=0∧b*c+e*f+h*i=0) := by
 obtain ⟨hn,en,ha,hb,hc,hd,he,hf,hg,hh,hi⟩ := Q
 have Q' : QTab (-w) x y z n a d g b e h c f i := ⟨hn,by rw [en]; grind,by rw [ha]; grind,by rw [hd]; grind,by rw [hg]; grind,by rw [hb]; grind,by rw [he]; grind,by rw [hh]; grind,by rw [hc]; grind,by rw [hf]; grind,by rw [hi]; grind⟩
 exact Q'.rows
theorem QTab.cof {w x y z n a b c d e f g h i : Rat} (Q : QTab w x y z n a b c d e f g h i) : (e*i - f*h=a∧f*g - d*i=b∧d*h - e*g=c)∧(h*c - i*b=d∧i*a - g*c=e∧g*b - h*a=f)∧(b*f - c*e=g∧c*d - a*f=h∧a*e - b*d=i) := by
 obtain ⟨hn,en,ha,hb,hc,hd,he,hf,hg,hh,hi⟩ := Q
 have k : n*n ≠ 0 := ZH hn hn
 have p : ∀ {p q r s m : Rat},(p*n)*(q*n) - (r*n)*(s*n)=(m*n)*n→p*q - r*s=m := fun {p q r s m} j => Qb k (by
  have : m*(n*n)=m*n*n := by grind
  rw [this,← j]; grind)
 refine ⟨⟨p ?_,p ?_,p ?_⟩,⟨p ?_,p ?_,p ?_⟩,⟨p ?_,p ?_,p ?_⟩⟩
 ·rw [he,hi,hf,hh,ha,en]; clear ha hb hc hd he hf hg hh hi k hn p; grind
 ·rw [hf,hg,hd,hi,hb,en]; clear ha hb hc hd he hf hg hh hi k hn p; grind
 ·rw [hd,hh,he,hg,hc,en]; clear ha hb hc hd he hf hg hh hi k hn p; grind
 ·rw [hh,hc,hi,hb,hd,en]; clear ha hb hc hd he hf hg hh hi k hn p; grind
 ·rw [hi,ha,hg,hc,he,en]; clear ha hb hc hd he hf hg hh hi k hn p; grind
 ·rw [hg,hb,hh,ha,hf,en]; clear ha hb hc hd he hf hg hh hi k hn p; grind
 ·rw [hb,hf,hc,he,hg,en]; clear ha hb hc hd he hf hg hh hi k hn p; grind
 ·rw [hc,hd,ha,hf,hh,en]; clear ha hb hc hd he hf hg hh hi k hn p; grind
 ·rw [ha,he,hb,hd,hi,en]; clear ha hb hc hd he hf hg hh hi k hn p; grind
theorem QTab.comp {w x y z n a b c d e f g h i W X Y Z N A B C D E F G H I p q r s m a' b' c' d' e' f' g' h' i' : Rat} (Q : QTab w x y z n a b c d e f g h i) (R : QTab W X Y Z N A B C D E F G H I) (S : QTab p q r s m a' b' c' d' e' f' g' h' i') (ep : p=W*w - X*x - Y*y - Z*z) (eq : q=W*x+X*w+Y*z - Z*y) (er : r=W*y - X*z+Y*w+Z*x) (es : s=W*z+X*y - Y*x+Z*w) :
  (A*a+B*d+C*g=a'∧A*b+B*e+C*h=b'∧A*c+B*f+C*i=c')∧(D*a+E*d+F*g=d'∧D*b+E*e+F*h=e'∧D*c+E*f+F*i=f')∧(G*a+H*d+I*g=g'∧G*b+H*e+I*h=h'∧G*c+H*f+I*i=i') := by
 obtain ⟨hn,en,ha,hb,hc,hd,he,hf,hg,hh,hi⟩ := Q
 obtain ⟨hN,eN,hA,hB,hC,hD,hE,hF,hG,hH,hI⟩ := R
 obtain ⟨hm,em,ka,kb,kc,kd,ke,kf,kg,kh,ki⟩ := S
 have eM : m=N*n := by rw [em,ep,eq,er,es,eN,en]; clear hn en ha hb hc hd he hf hg hh hi hN eN hA hB hC hD hE hF hG hH hI hm em ka kb kc kd ke kf kg kh ki ep eq er es; grind
 have k : N*n ≠ 0 := ZH hN hn
 have t : ∀ {p1 p2 p3 q1 q2 q3 M : Rat},(p1*N)*(q1*n)+(p2*N)*(q2*n)+(p3*N)*(q3*n)=M*m→p1*q1+p2*q2+p3*q3=M := fun {p1 p2 p3 q1 q2 q3 M} j => Qb k (by rw [← eM,← j,eM]; grind)
 clear em hm hn hN k eM
 refine ⟨⟨t ?_,t ?_,t ?_⟩,⟨t ?_,t ?_,t ?_⟩,⟨t ?_,t ?_,t ?_⟩⟩ <;> clear t
 ·rw [hA,hB,hC,ha,hd,hg,ka,ep,eq,er,es]; clear en ha hb hc hd he hf hg hh hi eN hA hB hC hD hE hF hG hH hI ka kb kc kd ke kf kg kh ki ep eq er es; grind
 ·rw [hA,hB,hC,hb,he,hh,kb,ep,eq,er,es]; clear en ha hb hc hd he hf hg hh hi eN hA hB hC hD hE hF hG hH hI ka kb kc kd ke kf kg kh ki ep eq er es; grind
 ·rw [hA,hB,hC,hc,hf,hi,kc,ep,eq,er,es]; clear en ha hb hc hd he hf hg hh hi eN hA hB hC hD hE hF hG hH hI ka kb kc kd ke kf kg kh ki ep eq er es; grind
 ·rw [hD,hE,hF,ha,hd,hg,kd,ep,eq,er,es]; clear en ha hb hc hd he hf hg hh hi eN hA hB hC hD hE hF hG hH hI ka kb kc kd ke kf kg kh ki ep eq er es; grind
 ·rw [hD,hE,hF,hb,he,hh,ke,ep,eq,er,es]; clear en ha hb hc hd he hf hg hh hi eN hA hB hC hD hE hF hG hH hI ka kb kc kd ke kf kg kh ki ep eq er es; grind
 ·rw [hD,hE,hF,hc,hf,hi,kf,ep,eq,er,es]; clear en ha hb hc hd he hf hg hh hi eN hA hB hC hD hE hF hG hH hI ka kb kc kd ke kf kg kh ki ep eq er es; grind
 ·rw [hG,hH,hI,ha,hd,hg,kg,ep,eq,er,es]; clear en ha hb hc hd he hf hg hh hi eN hA hB hC hD hE hF hG hH hI ka kb kc kd ke kf kg kh ki ep eq er es; grind
 ·rw [hG,hH,hI,hb,he,hh,kh,ep,eq,er,es]; clear en ha hb hc hd he hf hg hh hi eN hA hB hC hD hE hF hG hH hI ka kb kc kd ke kf kg kh ki ep eq er es; grind
 ·rw [hG,hH,hI,hc,hf,hi,ki,ep,eq,er,es]; clear en ha hb hc hd he hf hg hh hi eN hA hB hC hD hE hF hG hH hI ka kb kc kd ke kf kg kh ki ep eq er es; grind
def dm4 (a b c d e f g h i j k l m n o p : Rat) : Rat := a*(f*(k*p - l*o) - g*(j*p - l*n)+h*(j*o - k*n)) - b*(e*(k*p - l*o) - g*(i*p - l*m)+h*(i*o - k*m))+c*(e*(j*p - l*n) - f*(i*p - l*m)+h*(i*n - j*m)) - d*(e*(j*o - k*n) - f*(i*o - k*m)+g*(i*n - j*m))
theorem Fz (a b c d e f g h i j k l m n o p s t u v : Rat) : dm4 (a*s) (b*s) (c*s) (d*s) (e*t) (f*t) (g*t) (h*t) (i*u) (j*u) (k*u) (l*u) (m*v) (n*v) (o*v) (p*v)=dm4 a b c d e f g h i j k l m n o p*(s*t*(u*v)) := by simp only [dm4]; grind
theorem Ch (x0 y0 r0 x1 y1 r1 x2 y2 r2 x3 y3 r3 : Rat) : dm4 (2*x0) (2*y0) (r0 - 1) (r0+1) (2*x1) (2*y1) (r1 - 1) (r1+1) (2*x2) (2*y2) (r2 - 1) (r2+1) (2*x3) (2*y3) (r3 - 1) (r3+1)=8*dm4 r0 x0 y0 1 r1 x1 y1 1 r2 x2 y2 1 r3 x3 y3 1 := by simp only [dm4]; grind
theorem CQ (X0 Y0 Z0 X1 Y1 Z1 X2 Y2 Z2 X3 Y3 Z3 : Rat) : dm4 X0 Y0 Z0 1 X1 Y1 Z1 1 X2 Y2 Z2 1 X3 Y3 Z3 1=-((X1 - X0)*((Y2 - Y0)*(Z3 - Z0) - (Z2 - Z0)*(Y3 - Y0)) - (Y1 - Y0)*((X2 - X0)*(Z3 - Z0) - (Z2 - Z0)*(X3 - X0))+(Z1 - Z0)*((X2 - X0)*(Y3 - Y0) - (Y2 - Y0)*(X3 - X0))) := by simp only [dm4]; grind
theorem Fv {x0 y0 r0 n0 X0 Y0 Z0 x1 y1 r1 n1 X1 Y1 Z1 x2 y2 r2 n2 X2 Y2 Z2 x3 y3 r3 n3 X3 Y3 Z3 : Rat} (e0 : n0=r0+1) (k0 : n0 ≠ 0) (a0 : X0*n0=2*x0) (b0 : Y0*n0=2*y0) (c0 : Z0*n0=r0 - 1) (e1 : n1=r1+1) (k1 : n1 ≠ 0) (a1 : X1*n1=2*x1) (b1 : Y1*n1=2*y1) (c1 : Z1*n1=r1 - 1) (e2 : n2=r2+1) (k2 : n2 ≠ 0) (a2 : X2*n2=2*x2) (b2 : Y2*n2=2*y2) (c2 : Z2*n2=r2 - 1) (e3 : n3=r3+1) (k3 : n3 ≠ 0) (a3 : X3*n3=2*x3) (b3 : Y3*n3=2*y3) (c3 : Z3*n3=r3 - 1) : (X1 - X0)*((Y2 - Y0)*(Z3 - Z0) - (Z2 - Z0)*(Y3 - Y0)) - (Y1 - Y0)*((X2 - X0)*(Z3 - Z0) - (Z2 - Z0)*(X3 - X0))+(Z1 - Z0)*((X2 - X0)*(Y3 - Y0) - (Y2 - Y0)*(X3 - X0))=0 ↔ dm4 r0 x0 y0 1 r1 x1 y1 1 r2 x2 y2 1 r3 x3 y3 1=0 := by
 have h := Fz X0 Y0 Z0 1 X1 Y1 Z1 1 X2 Y2 Z2 1 X3 Y3 Z3 1 n0 n1 n2 n3
 rw [CQ,a0,b0,c0,a1,b1,c1,a2,b2,c2,a3,b3,c3,Rat.one_mul,Rat.one_mul,Rat.one_mul,Rat.one_mul] at h
 have hn : n0*n1*(n2*n3) ≠ 0 := ZH (ZH k0 k1) (ZH k2 k3)
 rw [show dm4 (2*x0) (2*y0) (r0 - 1) n0 (2*x1) (2*y1) (r1 - 1) n1 (2*x2) (2*y2) (r2 - 1) n2 (2*x3) (2*y3) (r3 - 1) n3=dm4 (2*x0) (2*y0) (r0 - 1) (r0+1) (2*x1) (2*y1) (r1 - 1) (r1+1) (2*x2) (2*y2) (r2 - 1) (r2+1) (2*x3) (2*y3) (r3 - 1) (r3+1) by rw [← e0,← e1,← e2,← e3],Ch] at h
 generalize (X1 - X0)*((Y2 - Y0)*(Z3 - Z0) - (Z2 - Z0)*(Y3 - Y0)) - (Y1 - Y0)*((X2 - X0)*(Z3 - Z0) - (Z2 - Z0)*(X3 - X0))+(Z1 - Z0)*((X2 - X0)*(Y3 - Y0) - (Y2 - Y0)*(X3 - X0))=A at *
 generalize dm4 r0 x0 y0 1 r1 x1 y1 1 r2 x2 y2 1 r3 x3 y3 1=B at *
 generalize n0*n1*(n2*n3)=m at *
 clear e0 e1 e2 e3 a0 a1 a2 a3 b0 b1 b2 b3 c0 c1 c2 c3 k0 k1 k2 k3
 constructor
 ·intro k
  rw [k] at h; grind
 ·intro k
  rw [k] at h
  have : A*m=0 := by grind
  exact (Rat.mul_eq_zero.1 this).resolve_right hn
structure QAct (w x y z n u1 u2 u3 x1 x2 x3 : Rat) : Prop where
 hn : n ≠ 0
 en : n=w*w+x*x+y*y+z*z
 e1 : x1*n=(w*w+x*x - y*y - z*z)*u1+2*(x*y - w*z)*u2+2*(x*z+w*y)*u3
 e2 : x2*n=2*(x*y+w*z)*u1+(w*w - x*x+y*y - z*z)*u2+2*(y*z - w*x)*u3
 e3 : x3*n=2*(x*z - w*y)*u1+2*(y*z+w*x)*u2+(w*w - x*x - y*y+z*z)*u3
theorem QTab.ex {w x y z n : Rat} (hn : n ≠ 0) (en : n=w*w+x*x+y*y+z*z) : ∃ a b c d e f g h i,QTab w x y z n a b c d e f g h i := by
 have k : ∀ t : Rat,t / n*n=t := fun t => Rat.div_mul_cancel hn
 exact ⟨_,_,_,_,_,_,_,_,_,hn,en,k _,k _,k _,k _,k _,k _,k _,k _,k _⟩
theorem QAct.tab {w x y z n u1 u2 u3 x1 x2 x3 a b c d e f g h i : Rat} (A : QAct w x y z n u1 u2 u3 x1 x2 x3) (Q : QTab w x y z n a b c d e f g h i) : x1=a*u1+b*u2+c*u3∧x2=d*u1+e*u2+f*u3∧x3=g*u1+h*u2+i*u3 := by
 obtain ⟨hn,_,e1,e2,e3⟩ := A
 obtain ⟨_,_,ha,hb,hc,hd,he,hf,hg,hh,hi⟩ := Q
 refine ⟨Qb hn ?_,Qb hn ?_,Qb hn ?_⟩
 ·rw [e1,← ha,← hb,← hc]; grind
 ·rw [e2,← hd,← he,← hf]; grind
 ·rw [e3,← hg,← hh,← hi]; grind
theorem QAct.dot {w x y z n u1 u2 u3 x1 x2 x3 v1 v2 v3 y1 y2 y3 : Rat} (A : QAct w x y z n u1 u2 u3 x1 x2 x3) (B : QAct w x y z n v1 v2 v3 y1 y2 y3) : x1*y1+x2*y2+x3*y3=u1*v1+u2*v2+u3*v3 := by
 obtain ⟨a,b,c,d,e,f,g,h,i,Q⟩ := QTab.ex A.hn A.en
 obtain ⟨p1,p2,p3⟩ := A.tab Q
 obtain ⟨q1,q2,q3⟩ := B.tab Q
 obtain ⟨⟨c1,c2,c3⟩,⟨c4,c5,c6⟩⟩ := Q.cols
 clear A B Q
 subst p1 p2 p3 q1 q2 q3
 have : (a*u1+b*u2+c*u3)*(a*v1+b*v2+c*v3)+(d*u1+e*u2+f*u3)*(d*v1+e*v2+f*v3)+(g*u1+h*u2+i*u3)*(g*v1+h*v2+i*v3)=(a*a+d*d+g*g)*(u1*v1)+(b*b+e*e+h*h)*(u2*v2)+(c*c+f*f+i*i)*(u3*v3)+(a*b+d*e+g*h)*(u1*v2+u2*v1)+(a*c+d*f+g*i)*(u1*v3+u3*v1)+(b*c+e*f+h*i)*(u2*v3+u3*v2) := by clear c1 c2 c3 c4 c5 c6; grind
 rw [this,c1,c2,c3,c4,c5,c6]; clear this c1 c2 c3 c4 c5 c6; grind
theorem QAct.cross {w x y z n u1 u2 u3 x1 x2 x3 v1 v2 v3 y1 y2 y3 k1 k2 k3 z1 z2 z3 : Rat} (A : QAct w x y z n u1 u2 u3 x1 x2 x3) (B : QAct w x y z n v1 v2 v3 y1 y2 y3) (C : QAct w x y z n k1 k2 k3 z1 z2 z3) (h1 : k1=u2*v3 - u3*v2) (h2 : k2=u3*v1 - u1*v3) (h3 : k3=u1*v2 - u2*v1) : z1=x2*y3 - x3*y2∧z2=x3*y1 - x1*y3∧z3=x1*y2 - x2*y1 := by
 obtain ⟨a,b,c,d,e,f,g,h,i,Q⟩ := QTab.ex A.hn A.en
 obtain ⟨p1,p2,p3⟩ := A.tab Q
 obtain ⟨q1,q2,q3⟩ := B.tab Q
 obtain ⟨r1,r2,r3⟩ := C.tab Q
 obtain ⟨⟨c1,c2,c3⟩,⟨c4,c5,c6⟩,⟨c7,c8,c9⟩⟩ := Q.cof
 clear A B C Q
 subst p1 p2 p3 q1 q2 q3 r1 r2 r3 h1 h2 h3
 refine ⟨?_,?_,?_⟩
 ·have : (d*u1+e*u2+f*u3)*(g*v1+h*v2+i*v3) - (g*u1+h*u2+i*u3)*(d*v1+e*v2+f*v3)=(e*i - f*h)*(u2*v3 - u3*v2)+(f*g - d*i)*(u3*v1 - u1*v3)+(d*h - e*g)*(u1*v2 - u2*v1) := by clear c1 c2 c3 c4 c5 c6 c7 c8 c9; grind
  rw [this,c1,c2,c3]
 ·have : (g*u1+h*u2+i*u3)*(a*v1+b*v2+c*v3) - (a*u1+b*u2+c*u3)*(g*v1+h*v2+i*v3)=(h*c - i*b)*(u2*v3 - u3*v2)+(i*a - g*c)*(u3*v1 - u1*v3)+(g*b - h*a)*(u1*v2 - u2*v1) := by clear c1 c2 c3 c4 c5 c6 c7 c8 c9; grind
  rw [this,c4,c5,c6]
 ·have : (a*u1+b*u2+c*u3)*(d*v1+e*v2+f*v3) - (d*u1+e*u2+f*u3)*(a*v1+b*v2+c*v3)=(b*f - c*e)*(u2*v3 - u3*v2)+(c*d - a*f)*(u3*v1 - u1*v3)+(a*e - b*d)*(u1*v2 - u2*v1) := by clear c1 c2 c3 c4 c5 c6 c7 c8 c9; grind
  rw [this,c7,c8,c9]
theorem QAct.comp {w x y z n u1 u2 u3 x1 x2 x3 W X Y Z N y1 y2 y3 p q r s m t1 t2 t3 : Rat} (A : QAct w x y z n u1 u2 u3 x1 x2 x3) (B : QAct W X Y Z N x1 x2 x3 y1 y2 y3) (C : QAct p q r s m u1 u2 u3 t1 t2 t3) (ep : p=W*w - X*x - Y*y - Z*z) (eq : q=W*x+X*w+Y*z - Z*y) (er : r=W*y - X*z+Y*w+Z*x) (es : s=W*z+X*y - Y*x+Z*w) : y1=t1∧y2=t2∧y3=t3 := by
 obtain ⟨a,b,c,d,e,f,g,h,i,Q⟩ := QTab.ex A.hn A.en
 obtain ⟨a1,b1,c1,d1,e1,f1,g1,h1,i1,R⟩ := QTab.ex B.hn B.en
 obtain ⟨a2,b2,c2,d2,e2,f2,g2,h2,i2,S⟩ := QTab.ex C.hn C.en
 obtain ⟨⟨k1,k2,k3⟩,⟨k4,k5,k6⟩,⟨k7,k8,k9⟩⟩ := QTab.comp Q R S ep eq er es
 obtain ⟨p1,p2,p3⟩ := A.tab Q
 obtain ⟨q1,q2,q3⟩ := B.tab R
 obtain ⟨r1,r2,r3⟩ := C.tab S
 clear A B C Q R S ep eq er es
 subst k1 k2 k3 k4 k5 k6 k7 k8 k9 q1 q2 q3 r1 r2 r3 p1 p2 p3
 refine ⟨?_,?_,?_⟩ <;> grind
theorem Is {w x y z W X Y Z p q r s : Rat} (ep : p=W*w - X*x - Y*y - Z*z) (eq : q=W*x+X*w+Y*z - Z*y) (er : r=W*y - X*z+Y*w+Z*x) (es : s=W*z+X*y - Y*x+Z*w) : p*p+q*q+r*r+s*s=(W*W+X*X+Y*Y+Z*Z)*(w*w+x*x+y*y+z*z) := by
 subst ep eq er es; grind
theorem QTab.own {w x y z n a b c d e f g h i : Rat} (Q : QTab w x y z n a b c d e f g h i) : a*x+b*y+c*z=x∧d*x+e*y+f*z=y∧g*x+h*y+i*z=z := by
 obtain ⟨hn,en,ha,hb,hc,hd,he,hf,hg,hh,hi⟩ := Q
 refine ⟨Qb hn ?_,Qb hn ?_,Qb hn ?_⟩
 ·have : (a*x+b*y+c*z)*n=(a*n)*x+(b*n)*y+(c*n)*z := by grind
  rw [this,ha,hb,hc,en]; clear this ha hb hc hd he hf hg hh hi hn en; grind
 ·have : (d*x+e*y+f*z)*n=(d*n)*x+(e*n)*y+(f*n)*z := by grind
  rw [this,hd,he,hf,en]; clear this ha hb hc hd he hf hg hh hi hn en; grind
 ·have : (g*x+h*y+i*z)*n=(g*n)*x+(h*n)*y+(i*n)*z := by grind
  rw [this,hg,hh,hi,en]; clear this ha hb hc hd he hf hg hh hi hn en; grind
theorem QTab.det {w x y z n a b c d e f g h i : Rat} (Q : QTab w x y z n a b c d e f g h i) : 0 < a*(e*i - f*h)+b*(f*g - d*i)+c*(d*h - e*g) := by
 obtain ⟨⟨c1,c2,c3⟩,_⟩ := Q.cof
 obtain ⟨⟨r,_⟩,_⟩ := Q.rows
 rw [c1,c2,c3,r]; decide
theorem Ji (x y : Rat) : 0 < x*x+y*y+1 := by
 have a := QJ x
 have b := QJ y
 grind
theorem Jz {x y r n X Y Z : Rat} (er : r=x*x+y*y) (en : n=r+1) (a : X*n=2*x) (b : Y*n=2*y) (c : Z*n=r - 1) : n ≠ 0∧X*X+Y*Y+Z*Z=1∧1 - Z ≠ 0∧X=x*(1 - Z)∧Y=y*(1 - Z) := by
 have hn : n ≠ 0 := by
  have := Ji x y
  rw [en,er]; grind
 have k : (1 - Z)*n=2 := by
  have : (1 - Z)*n=n - Z*n := by grind
  rw [this,c,en]; grind
 refine ⟨hn,Qb (ZH hn hn) ?_,?_,Qb hn ?_,Qb hn ?_⟩
 ·have : (X*X+Y*Y+Z*Z)*(n*n)=(X*n)*(X*n)+(Y*n)*(Y*n)+(Z*n)*(Z*n) := by grind
  rw [this,a,b,c,en,er]; clear this a b c en er k hn; grind
 ·intro h
  rw [h,Rat.zero_mul] at k; exact absurd k (by decide)
 ·have : x*(1 - Z)*n=x*((1 - Z)*n) := by grind
  rw [this,k,a]; grind
 ·have : y*(1 - Z)*n=y*((1 - Z)*n) := by grind
  rw [this,k,b]; grind
theorem QTab.scale {w x y z n a b c d e f g h i k W X Y Z N : Rat} (Q : QTab w x y z n a b c d e f g h i) (hk : k ≠ 0) (ew : W=w*k) (ex : X=x*k) (ey : Y=y*k) (ez : Z=z*k) (eN : N=W*W+X*X+Y*Y+Z*Z) : QTab W X Y Z N a b c d e f g h i := by
 obtain ⟨hn,en,ha,hb,hc,hd,he,hf,hg,hh,hi⟩ := Q
 have eM : N=n*(k*k) := by rw [eN,ew,ex,ey,ez,en]; clear hn en ha hb hc hd he hf hg hh hi hk eN ew ex ey ez; grind
 have t : ∀ {p r : Rat},p*n=r→p*N=r*(k*k) := fun {p r} j => by rw [eM,← j]; grind
 refine ⟨by rw [eM]; exact ZH hn (ZH hk hk),eN,(t ha).trans ?_,(t hb).trans ?_,(t hc).trans ?_,(t hd).trans ?_,(t he).trans ?_,(t hf).trans ?_,(t hg).trans ?_,(t hh).trans ?_,(t hi).trans ?_⟩ <;> (rw [ew,ex,ey,ez]; clear t eM hn en ha hb hc hd he hf hg hh hi hk eN ew ex ey ez; grind)
theorem QTab.plain {F0 F1 F2 F3 m a b c d e f g h i r q0 q1 q2 q3 k P0 P1 P2 P3 N : Rat} (Q : QTab F0 F1 F2 F3 m a b c d e f g h i) (hr : r ≠ 0) (hk : k ≠ 0) (x0 : q0=F0 / r) (x1 : q1=F1 / r) (x2 : q2=F2 / r) (x3 : q3=F3 / r) (p0 : P0=q0*k) (p1 : P1=q1*k) (p2 : P2=q2*k) (p3 : P3=q3*k) (eN : N=P0*P0+P1*P1+P2*P2+P3*P3) : QTab P0 P1 P2 P3 N a b c d e f g h i := by
 have hkr : k / r ≠ 0 := fun j => hk (by rw [← Rat.div_mul_cancel hr (a := k),j,Rat.zero_mul])
 have t : ∀ F : Rat,F / r*k=F*(k / r) := fun F => by rw [Rat.div_def,Rat.div_def]; grind
 exact Q.scale hkr (by rw [p0,x0,t]) (by rw [p1,x1,t]) (by rw [p2,x2,t]) (by rw [p3,x3,t]) eN
theorem Gt {x y z a b c d e f g h i : Rat} (r : ((1+x*x - y*y - z*z)=a*(1+x*x+y*y+z*z)∧2*(x*y - z)=b*(1+x*x+y*y+z*z)∧2*(x*z+y)=c*(1+x*x+y*y+z*z))∧(2*(x*y+z)=d*(1+x*x+y*y+z*z)∧(1 - x*x+y*y - z*z)=e*(1+x*x+y*y+z*z)∧2*(y*z - x)=f*(1+x*x+y*y+z*z))∧(2*(x*z - y)=g*(1+x*x+y*y+z*z)∧2*(y*z+x)=h*(1+x*x+y*y+z*z)∧(1 - x*x - y*y+z*z)=i*(1+x*x+y*y+z*z))) : QTab 1 x y z (1+x*x+y*y+z*z) a b c d e f g h i := by
 obtain ⟨⟨r1,r2,r3⟩,⟨r4,r5,r6⟩,⟨r7,r8,r9⟩⟩ := r
 have p := QJ x
 have q := QJ y
 have s := QJ z
 refine ⟨?_,?_,?_,?_,?_,?_,?_,?_,?_,?_,?_⟩
 ·intro j; clear r1 r2 r3 r4 r5 r6 r7 r8 r9; grind
 ·clear r1 r2 r3 r4 r5 r6 r7 r8 r9 p q s; grind
 ·rw [← r1]; clear r1 r2 r3 r4 r5 r6 r7 r8 r9 p q s; grind
 ·rw [← r2]; clear r1 r2 r3 r4 r5 r6 r7 r8 r9 p q s; grind
 ·rw [← r3]; clear r1 r2 r3 r4 r5 r6 r7 r8 r9 p q s; grind
 ·rw [← r4]; clear r1 r2 r3 r4 r5 r6 r7 r8 r9 p q s; grind
 ·rw [← r5]; clear r1 r2 r3 r4 r5 r6 r7 r8 r9 p q s; grind
 ·rw [← r6]; clear r1 r2 r3 r4 r5 r6 r7 r8 r9 p q s; grind
 ·rw [← r7]; clear r1 r2 r3 r4 r5 r6 r7 r8 r9 p q s; grind
 ·rw [← r8]; clear r1 r2 r3 r4 r5 r6 r7 r8 r9 p q s; grind
 ·rw [← r9]; clear r1 r2 r3 r4 r5 r6 r7 r8 r9 p q s; grind
theorem Cv {a b c d e f g h i F0 F1 F2 F3 : Rat} (r11 : a*a+b*b+c*c=1) (r22 : d*d+e*e+f*f=1) (r33 : g*g+h*h+i*i=1) (r12 : a*d+b*e+c*f=0) (r13 : a*g+b*h+c*i=0) (r23 : d*g+e*h+f*i=0) (hd : 0 < a*(e*i - f*h)+b*(f*g - d*i)+c*(d*h - e*g)) (e0 : F0=1+a+e+i) (hs : F0 ≠ 0) (e1 : F1=h - f) (e2 : F2=c - g) (e3 : F3=d - b) : QTab F0 F1 F2 F3 (F0*F0+F1*F1+F2*F2+F3*F3) a b c d e f g h i := by
 have k : ∀ t : Rat,t / F0*F0=t := fun t => Rat.div_mul_cancel hs
 exact (Gt (TQ r11 r22 r33 r12 r13 r23 hd e0 hs ((k F1).trans e1) ((k F2).trans e2) ((k F3).trans e3))).scale hs (Rat.one_mul _).symm (k F1).symm (k F2).symm (k F3).symm rfl
theorem RZ {y z a b c e f i : Rat} (r : (1 - y*y - z*z=a*(1+y*y+z*z)∧2*y=b*(1+y*y+z*z)∧2*z=c*(1+y*y+z*z))∧(y*y - 1 - z*z=e*(1+y*y+z*z)∧2*(y*z)=f*(1+y*y+z*z))∧(z*z - 1 - y*y=i*(1+y*y+z*z))) : QTab 0 1 y z (1+y*y+z*z) a b c b e f c f i := by
 obtain ⟨⟨r1,r2,r3⟩,⟨r4,r5⟩,r6⟩ := r
 have q := QJ y
 have s := QJ z
 refine ⟨?_,?_,?_,?_,?_,?_,?_,?_,?_,?_,?_⟩
 ·intro j; clear r1 r2 r3 r4 r5 r6; grind
 ·clear r1 r2 r3 r4 r5 r6 q s; grind
 ·rw [← r1]; clear r1 r2 r3 r4 r5 r6 q s; grind
 ·rw [← r2]; clear r1 r2 r3 r4 r5 r6 q s; grind
 ·rw [← r3]; clear r1 r2 r3 r4 r5 r6 q s; grind
 ·rw [← r2]; clear r1 r2 r3 r4 r5 r6 q s; grind
 ·rw [← r4]; clear r1 r2 r3 r4 r5 r6 q s; grind
 ·rw [← r5]; clear r1 r2 r3 r4 r5 r6 q s; grind
 ·rw [← r3]; clear r1 r2 r3 r4 r5 r6 q s; grind
 ·rw [← r5]; clear r1 r2 r3 r4 r5 r6 q s; grind
 ·rw [← r6]; clear r1 r2 r3 r4 r5 r6 q s; grind
theorem QTab.axes {x y z n a b c d e f g h i : Rat} (Q : QTab 0 x y z n a b c d e f g h i) : QTab 0 y x z n e d f b a c h g i∧QTab 0 y z x n e f d h i g b c a := by
 obtain ⟨hn,en,ha,hb,hc,hd,he,hf,hg,hh,hi⟩ := Q
 refine ⟨⟨hn,?_,?_,?_,?_,?_,?_,?_,?_,?_,?_⟩,⟨hn,?_,?_,?_,?_,?_,?_,?_,?_,?_,?_⟩⟩ <;> (clear hn; grind)
theorem Ia {a b c d e f g h i F0 F1 F2 F3 : Rat} (r11 : a*a+b*b+c*c=1) (r22 : d*d+e*e+f*f=1) (r33 : g*g+h*h+i*i=1) (r12 : a*d+b*e+c*f=0) (r13 : a*g+b*h+c*i=0) (r23 : d*g+e*h+f*i=0) (hd : 0 < a*(e*i - f*h)+b*(f*g - d*i)+c*(d*h - e*g)) (hs : 1+a+e+i=0) (e0 : F0=0) (e1 : F1=1+a - e - i) (e2 : F2=b+d) (e3 : F3=c+g) (hp : F1 ≠ 0) : QTab F0 F1 F2 F3 (F0*F0+F1*F1+F2*F2+F3*F3) a b c d e f g h i := by
 obtain ⟨⟨y1,y2,y3⟩,⟨y4,y5,y6⟩,⟨y7,y8,y9⟩⟩ := Oe r11 r22 r33 r12 r13 r23 hd hs
 have e4 : F1=2*(a+1) := by rw [e1]; clear y1 y2 y3 y4 y5 y6 y7 y8 y9 r11 r22 r33 r12 r13 r23 hd; grind
 have hq : a+1 ≠ 0 := fun j => hp (by rw [e4,j,Rat.mul_zero])
 clear r11 r22 r33 r12 r13 r23 hd
 subst y1 y2 y3
 have k : ∀ t : Rat,t / (a+1)*(a+1)=t := fun t => Rat.div_mul_cancel hq
 have H := RZ (Iq y4 y5 y7 hs rfl hq (k d) (k g))
 refine H.scale (k := 2*(a+1)) (by rw [← e4]; exact hp) (by rw [e0,Rat.zero_mul]) (by rw [e4,Rat.one_mul]) ?_ ?_ rfl
 ·rw [e2]; have := k d; clear y4 y5 y6 y7 y8 y9 e0 e1 e2 e3 e4 hp hq hs H; grind
 ·rw [e3]; have := k g; clear y4 y5 y6 y7 y8 y9 e0 e1 e2 e3 e4 hp hq hs H; grind
theorem CS {a b c d e f g h i F0 F1 F2 F3 : Rat} (r11 : a*a+b*b+c*c=1) (r22 : d*d+e*e+f*f=1) (r33 : g*g+h*h+i*i=1) (r12 : a*d+b*e+c*f=0) (r13 : a*g+b*h+c*i=0) (r23 : d*g+e*h+f*i=0) (hd : 0 < a*(e*i - f*h)+b*(f*g - d*i)+c*(d*h - e*g)) (hs : 1+a+e+i=0) (e0 : F0=0) (e1 : F1=b+d) (e2 : F2=1 - a+e - i) (e3 : F3=f+h) (hp : F2 ≠ 0) : QTab F0 F1 F2 F3 (F0*F0+F1*F1+F2*F2+F3*F3) a b c d e f g h i := by
 have Q := Ia (a := e) (b := d) (c := f) (d := b) (e := a) (f := c) (g := h) (h := g) (i := i) (F0 := 0) (F1 := F2) (F2 := F1) (F3 := F3) (by grind) (by grind) (by grind) (by grind) (by grind) (by grind) (by clear r11 r22 r33 r12 r13 r23; grind) (by grind) rfl (by grind) (by grind) (by grind) hp
 rw [e0]; have R := Q.axes.1
 rwa [show 0*0+F2*F2+F1*F1+F3*F3=0*0+F1*F1+F2*F2+F3*F3 by grind] at R
theorem CH {a b c d e f g h i F0 F1 F2 F3 : Rat} (r11 : a*a+b*b+c*c=1) (r22 : d*d+e*e+f*f=1) (r33 : g*g+h*h+i*i=1) (r12 : a*d+b*e+c*f=0) (r13 : a*g+b*h+c*i=0) (r23 : d*g+e*h+f*i=0) (hd : 0 < a*(e*i - f*h)+b*(f*g - d*i)+c*(d*h - e*g)) (hs : 1+a+e+i=0) (e0 : F0=0) (e1 : F1=c+g) (e2 : F2=f+h) (e3 : F3=1 - a - e+i) (hp : F3 ≠ 0) : QTab F0 F1 F2 F3 (F0*F0+F1*F1+F2*F2+F3*F3) a b c d e f g h i := by
 have Q := Ia (a := i) (b := g) (c := h) (d := c) (e := a) (f := b) (g := f) (h := d) (i := e) (F0 := 0) (F1 := F3) (F2 := F1) (F3 := F2) (by grind) (by grind) (by grind) (by grind) (by grind) (by grind) (by clear r11 r22 r33 r12 r13 r23; grind) (by grind) rfl (by grind) (by grind) (by grind) hp
 rw [e0]; have R := Q.axes.2
 rwa [show 0*0+F3*F3+F1*F1+F2*F2=0*0+F1*F1+F2*F2+F3*F3 by grind] at R
theorem QH {a b c d e f g h i : Rat} (r11 : a*a+b*b+c*c=1) (r22 : d*d+e*e+f*f=1) (r33 : g*g+h*h+i*i=1) (r12 : a*d+b*e+c*f=0) (r13 : a*g+b*h+c*i=0) (r23 : d*g+e*h+f*i=0) (hd : 0 < a*(e*i - f*h)+b*(f*g - d*i)+c*(d*h - e*g)) (hs : 1+a+e+i=0) : (h - f=0∧c - g=0∧d - b=0)∧(1+a - e - i=0→b+d=0∧c+g=0)∧(1 - a+e - i=0→b+d=0∧f+h=0) := by
 obtain ⟨⟨y1,y2,y3⟩,⟨y4,y5,y6⟩,_⟩ := Oe r11 r22 r33 r12 r13 r23 hd hs
 clear r11 r22 r33 r12 r13 r23 hd
 subst y1 y2 y3
 refine ⟨⟨by grind,by grind,by grind⟩,fun j => ?_,fun j => ?_⟩
 ·have k : a+1=0 := by clear y4 y5 y6; grind
  rw [k,Rat.zero_mul] at y4 y5
  have p := (QJ d).2.1 y4
  have q := (QJ g).2.1 y5
  rw [p,q]; exact ⟨Rat.add_zero 0,Rat.add_zero 0⟩
 ·have k : e+1=0 := by clear y4 y5 y6; grind
  rw [k,Rat.mul_zero] at y4
  rw [k,Rat.zero_mul] at y6
  have p := (QJ d).2.1 y4
  have q := (QJ h).2.1 y6
  rw [p,q]; exact ⟨Rat.add_zero 0,Rat.add_zero 0⟩
theorem QAct.scale {w x y z n u1 u2 u3 x1 x2 x3 k W X Y Z N : Rat} (A : QAct W X Y Z N u1 u2 u3 x1 x2 x3) (ew : W=w*k) (ex : X=x*k) (ey : Y=y*k) (ez : Z=z*k) (en : n=w*w+x*x+y*y+z*z) : QAct w x y z n u1 u2 u3 x1 x2 x3 := by
 obtain ⟨hN,eN,a1,a2,a3⟩ := A
 have eM : N=n*(k*k) := by rw [eN,ew,ex,ey,ez,en]; clear hN eN a1 a2 a3 ew ex ey ez en; grind
 have hn : n ≠ 0 := fun j => hN (by rw [eM,j,Rat.zero_mul])
 have hk : k*k ≠ 0 := fun j => hN (by rw [eM,j,Rat.mul_zero])
 refine ⟨hn,en,Qb hk ?_,Qb hk ?_,Qb hk ?_⟩
 ·have : x1*n*(k*k)=x1*N := by rw [eM]; grind
  rw [this,a1,ew,ex,ey,ez]; clear this hN eN a1 a2 a3 ew ex ey ez en eM hn hk; grind
 ·have : x2*n*(k*k)=x2*N := by rw [eM]; grind
  rw [this,a2,ew,ex,ey,ez]; clear this hN eN a1 a2 a3 ew ex ey ez en eM hn hk; grind
 ·have : x3*n*(k*k)=x3*N := by rw [eM]; grind
  rw [this,a3,ew,ex,ey,ez]; clear this hN eN a1 a2 a3 ew ex ey ez en eM hn hk; grind
theorem QAct.mul {w x y z n u1 u2 u3 x1 x2 x3 : Rat} (A : QAct w x y z n u1 u2 u3 x1 x2 x3) : (x1*x+x2*y+x3*z=x*u1+y*u2+z*u3)∧(x1*w+(x2*z - x3*y)=w*u1+(y*u3 - z*u2))∧(x2*w+(x3*x - x1*z)=w*u2+(z*u1 - x*u3))∧(x3*w+(x1*y - x2*x)=w*u3+(x*u2 - y*u1)) := by
 obtain ⟨hn,en,a1,a2,a3⟩ := A
 refine ⟨Qb hn ?_,Qb hn ?_,Qb hn ?_,Qb hn ?_⟩
 ·have : (x1*x+x2*y+x3*z)*n=(x1*n)*x+(x2*n)*y+(x3*n)*z := by grind
  rw [this,a1,a2,a3,en]; clear this hn en a1 a2 a3; grind
 ·have : (x1*w+(x2*z - x3*y))*n=(x1*n)*w+((x2*n)*z - (x3*n)*y) := by grind
  rw [this,a1,a2,a3,en]; clear this hn en a1 a2 a3; grind
 ·have : (x2*w+(x3*x - x1*z))*n=(x2*n)*w+((x3*n)*x - (x1*n)*z) := by grind
  rw [this,a1,a2,a3,en]; clear this hn en a1 a2 a3; grind
 ·have : (x3*w+(x1*y - x2*x))*n=(x3*n)*w+((x1*n)*y - (x2*n)*x) := by grind
  rw [this,a1,a2,a3,en]; clear this hn en a1 a2 a3; grind
theorem Wg {w x y z n k W X Y Z N : Rat} (ew : W=w*k) (ex : X=x*k) (ey : Y=y*k) (ez : Z=z*k) (en : n=w*w+x*x+y*y+z*z) (eN : N=W*W+X*X+Y*Y+Z*Z) (h0 : k=0→n=0) : N=0 ↔ n=0 := by
 have eM : N=n*(k*k) := by rw [eN,ew,ex,ey,ez,en]; clear eN ew ex ey ez en h0; grind
 constructor
 ·intro j
  rw [eM] at j
  rcases Rat.mul_eq_zero.1 j with l | l
  ·exact l
  ·exact h0 (by rcases Rat.mul_eq_zero.1 l with m | m <;> exact m)
 ·intro j
  rw [eM,j,Rat.zero_mul]
theorem QAct.own {w x y z n x1 x2 x3 : Rat} (A : QAct w x y z n x y z x1 x2 x3) : x1=x∧x2=y∧x3=z := by
 obtain ⟨hn,en,a1,a2,a3⟩ := A
 refine ⟨Qb hn ?_,Qb hn ?_,Qb hn ?_⟩
 ·rw [a1,en]; clear hn en a1 a2 a3; grind
 ·rw [a2,en]; clear hn en a1 a2 a3; grind
 ·rw [a3,en]; clear hn en a1 a2 a3; grind
theorem LR (H : YT q σ) : (¬ (q 19=0))→(QAct (q 4) (q 5) (q 6) (q 7) (q 19) (q 20) (q 21) (q 22) (q 81) (q 82) (q 83)) :=
 fun h => ⟨h,pol H [] 6 19 (.A (.A (.A (.M (.v 4) (.v 4)) (.M (.v 5) (.v 5))) (.M (.v 6) (.v 6))) (.M (.v 7) (.v 7))) (by kernel_rfl),Zo H [19] 11 81 19 (.A (.A (.M (.S (.S (.A (.M (.v 4) (.v 4)) (.M (.v 5) (.v 5))) (.M (.v 6) (.v 6))) (.M (.v 7) (.v 7))) (.v 20)) (.M (.M .t (.S (.M (.v 5) (.v 6)) (.M (.v 4) (.v 7)))) (.v 21))) (.M (.M .t (.A (.M (.v 5) (.v 7)) (.M (.v 4) (.v 6)))) (.v 22))) h (by kernel_rfl),Zo H [19] 11 82 19 (.A (.A (.M (.M .t (.A (.M (.v 5) (.v 6)) (.M (.v 4) (.v 7)))) (.v 20)) (.M (.S (.A (.S (.M (.v 4) (.v 4)) (.M (.v 5) (.v 5))) (.M (.v 6) (.v 6))) (.M (.v 7) (.v 7))) (.v 21))) (.M (.M .t (.S (.M (.v 6) (.v 7)) (.M (.v 4) (.v 5)))) (.v 22))) h (by kernel_rfl),Zo H [19] 11 83 19 (.A (.A (.M (.M .t (.S (.M (.v 5) (.v 7)) (.M (.v 4) (.v 6)))) (.v 20)) (.M (.M .t (.A (.M (.v 6) (.v 7)) (.M (.v 4) (.v 5)))) (.v 21))) (.M (.A (.S (.S (.M (.v 4) (.v 4)) (.M (.v 5) (.v 5))) (.M (.v 6) (.v 6))) (.M (.v 7) (.v 7))) (.v 22))) h (by kernel_rfl)⟩
theorem qK_pAv (H : YT q σ) : (¬ (q 19=0))→(QAct (q 4) (q 5) (q 6) (q 7) (q 19) (q 84) (q 85) (q 86) (q 141) (q 142) (q 143)) :=
 fun h => ⟨h,pol H [] 6 19 (.A (.A (.A (.M (.v 4) (.v 4)) (.M (.v 5) (.v 5))) (.M (.v 6) (.v 6))) (.M (.v 7) (.v 7))) (by kernel_rfl),Zo H [19] 11 141 19 (.A (.A (.M (.S (.S (.A (.M (.v 4) (.v 4)) (.M (.v 5) (.v 5))) (.M (.v 6) (.v 6))) (.M (.v 7) (.v 7))) (.v 84)) (.M (.M .t (.S (.M (.v 5) (.v 6)) (.M (.v 4) (.v 7)))) (.v 85))) (.M (.M .t (.A (.M (.v 5) (.v 7)) (.M (.v 4) (.v 6)))) (.v 86))) h (by kernel_rfl),Zo H [19] 11 142 19 (.A (.A (.M (.M .t (.A (.M (.v 5) (.v 6)) (.M (.v 4) (.v 7)))) (.v 84)) (.M (.S (.A (.S (.M (.v 4) (.v 4)) (.M (.v 5) (.v 5))) (.M (.v 6) (.v 6))) (.M (.v 7) (.v 7))) (.v 85))) (.M (.M .t (.S (.M (.v 6) (.v 7)) (.M (.v 4) (.v 5)))) (.v 86))) h (by kernel_rfl),Zo H [19] 11 143 19 (.A (.A (.M (.M .t (.S (.M (.v 5) (.v 7)) (.M (.v 4) (.v 6)))) (.v 84)) (.M (.M .t (.A (.M (.v 6) (.v 7)) (.M (.v 4) (.v 5)))) (.v 85))) (.M (.A (.S (.S (.M (.v 4) (.v 4)) (.M (.v 5) (.v 5))) (.M (.v 6) (.v 6))) (.M (.v 7) (.v 7))) (.v 86))) h (by kernel_rfl)⟩
theorem qK_pAk (H : YT q σ) : (¬ (q 19=0))→(QAct (q 4) (q 5) (q 6) (q 7) (q 19) (q 156) (q 159) (q 162) (q 217) (q 218) (q 219)) :=
 fun h => ⟨h,pol H [] 6 19 (.A (.A (.A (.M (.v 4) (.v 4)) (.M (.v 5) (.v 5))) (.M (.v 6) (.v 6))) (.M (.v 7) (.v 7))) (by kernel_rfl),Zo H [19,156,159,162] 11 217 19 (.A (.A (.M (.S (.S (.A (.M (.v 4) (.v 4)) (.M (.v 5) (.v 5))) (.M (.v 6) (.v 6))) (.M (.v 7) (.v 7))) (.v 156)) (.M (.M .t (.S (.M (.v 5) (.v 6)) (.M (.v 4) (.v 7)))) (.v 159))) (.M (.M .t (.A (.M (.v 5) (.v 7)) (.M (.v 4) (.v 6)))) (.v 162))) h (by kernel_rfl),Zo H [19,156,159,162] 11 218 19 (.A (.A (.M (.M .t (.A (.M (.v 5) (.v 6)) (.M (.v 4) (.v 7)))) (.v 156)) (.M (.S (.A (.S (.M (.v 4) (.v 4)) (.M (.v 5) (.v 5))) (.M (.v 6) (.v 6))) (.M (.v 7) (.v 7))) (.v 159))) (.M (.M .t (.S (.M (.v 6) (.v 7)) (.M (.v 4) (.v 5)))) (.v 162))) h (by kernel_rfl),Zo H [19,156,159,162] 11 219 19 (.A (.A (.M (.M .t (.S (.M (.v 5) (.v 7)) (.M (.v 4) (.v 6)))) (.v 156)) (.M (.M .t (.A (.M (.v 6) (.v 7)) (.M (.v 4) (.v 5)))) (.v 159))) (.M (.A (.S (.S (.M (.v 4) (.v 4)) (.M (.v 5) (.v 5))) (.M (.v 6) (.v 6))) (.M (.v 7) (.v 7))) (.v 162))) h (by kernel_rfl)⟩
theorem qK_pBx (H : YT q σ) : (¬ (q 255=0))→(QAct (q 241) (q 242) (q 243) (q 244) (q 255) (q 81) (q 82) (q 83) (q 314) (q 315) (q 316)) :=
 fun h => ⟨h,pol H [] 6 255 (.A (.A (.A (.M (.v 241) (.v 241)) (.M (.v 242) (.v 242))) (.M (.v 243) (.v 243))) (.M (.v 244) (.v 244))) (by kernel_rfl),Zo H [255] 11 314 255 (.A (.A (.M (.S (.S (.A (.M (.v 241) (.v 241)) (.M (.v 242) (.v 242))) (.M (.v 243) (.v 243))) (.M (.v 244) (.v 244))) (.v 81)) (.M (.M .t (.S (.M (.v 242) (.v 243)) (.M (.v 241) (.v 244)))) (.v 82))) (.M (.M .t (.A (.M (.v 242) (.v 244)) (.M (.v 241) (.v 243)))) (.v 83))) h (by kernel_rfl),Zo H [255] 11 315 255 (.A (.A (.M (.M .t (.A (.M (.v 242) (.v 243)) (.M (.v 241) (.v 244)))) (.v 81)) (.M (.S (.A (.S (.M (.v 241) (.v 241)) (.M (.v 242) (.v 242))) (.M (.v 243) (.v 243))) (.M (.v 244) (.v 244))) (.v 82))) (.M (.M .t (.S (.M (.v 243) (.v 244)) (.M (.v 241) (.v 242)))) (.v 83))) h (by kernel_rfl),Zo H [255] 11 316 255 (.A (.A (.M (.M .t (.S (.M (.v 242) (.v 244)) (.M (.v 241) (.v 243)))) (.v 81)) (.M (.M .t (.A (.M (.v 243) (.v 244)) (.M (.v 241) (.v 242)))) (.v 82))) (.M (.A (.S (.S (.M (.v 241) (.v 241)) (.M (.v 242) (.v 242))) (.M (.v 243) (.v 243))) (.M (.v 244) (.v 244))) (.v 83))) h (by kernel_rfl)⟩
theorem qK_pPu (H : YT q σ) : (¬ (q 360=0))→(QAct (q 346) (q 347) (q 348) (q 349) (q 360) (q 20) (q 21) (q 22) (q 419) (q 420) (q 421)) :=
 fun h => ⟨h,pol H [] 6 360 (.A (.A (.A (.M (.v 346) (.v 346)) (.M (.v 347) (.v 347))) (.M (.v 348) (.v 348))) (.M (.v 349) (.v 349))) (by kernel_rfl),Zo H [360] 11 419 360 (.A (.A (.M (.S (.S (.A (.M (.v 346) (.v 346)) (.M (.v 347) (.v 347))) (.M (.v 348) (.v 348))) (.M (.v 349) (.v 349))) (.v 20)) (.M (.M .t (.S (.M (.v 347) (.v 348)) (.M (.v 346) (.v 349)))) (.v 21))) (.M (.M .t (.A (.M (.v 347) (.v 349)) (.M (.v 346) (.v 348)))) (.v 22))) h (by kernel_rfl),Zo H [360] 11 420 360 (.A (.A (.M (.M .t (.A (.M (.v 347) (.v 348)) (.M (.v 346) (.v 349)))) (.v 20)) (.M (.S (.A (.S (.M (.v 346) (.v 346)) (.M (.v 347) (.v 347))) (.M (.v 348) (.v 348))) (.M (.v 349) (.v 349))) (.v 21))) (.M (.M .t (.S (.M (.v 348) (.v 349)) (.M (.v 346) (.v 347)))) (.v 22))) h (by kernel_rfl),Zo H [360] 11 421 360 (.A (.A (.M (.M .t (.S (.M (.v 347) (.v 349)) (.M (.v 346) (.v 348)))) (.v 20)) (.M (.M .t (.A (.M (.v 348) (.v 349)) (.M (.v 346) (.v 347)))) (.v 21))) (.M (.A (.S (.S (.M (.v 346) (.v 346)) (.M (.v 347) (.v 347))) (.M (.v 348) (.v 348))) (.M (.v 349) (.v 349))) (.v 22))) h (by kernel_rfl)⟩
theorem Cu (H : YT q σ) : (q 324=q 237*q 0-q 238*q 1-q 239*q 2-q 240*q 3) :=
 pol H [] 6 324 (.S (.S (.S (.M (.v 237) (.v 0)) (.M (.v 238) (.v 1))) (.M (.v 239) (.v 2))) (.M (.v 240) (.v 3))) (by kernel_rfl)
theorem MD (H : YT q σ) : (q 343=q 237*q 1+q 238*q 0+q 239*q 3-q 240*q 2) :=
 pol H [] 4 343 (.S (.A (.A (.M (.v 237) (.v 1)) (.M (.v 238) (.v 0))) (.M (.v 239) (.v 3))) (.M (.v 240) (.v 2))) (by kernel_rfl)
theorem MR (H : YT q σ) : (q 344=q 237*q 2-q 238*q 3+q 239*q 0+q 240*q 1) :=
 pol H [] 4 344 (.A (.A (.S (.M (.v 237) (.v 2)) (.M (.v 238) (.v 3))) (.M (.v 239) (.v 0))) (.M (.v 240) (.v 1))) (by kernel_rfl)
theorem Mb (H : YT q σ) : (q 345=q 237*q 3+q 238*q 2-q 239*q 1+q 240*q 0) :=
 pol H [] 4 345 (.A (.S (.A (.M (.v 237) (.v 3)) (.M (.v 238) (.v 2))) (.M (.v 239) (.v 1))) (.M (.v 240) (.v 0))) (by kernel_rfl)
theorem MS (H : YT q σ) : (q 4=q 0*fac [q 0,q 1,q 2,q 3]) := by
 have e4:q 4=q 0*fac [q 0,q 1,q 2,q 3]:=H 4 _ rfl
 clear H
 exact e4
theorem MT (H : YT q σ) : (q 5=q 1*fac [q 0,q 1,q 2,q 3]) := by
 have e5:q 5=q 1*fac [q 0,q 1,q 2,q 3]:=H 5 _ rfl
 clear H
 exact e5
theorem CO (H : YT q σ) : (q 6=q 2*fac [q 0,q 1,q 2,q 3]) := by
 have e6:q 6=q 2*fac [q 0,q 1,q 2,q 3]:=H 6 _ rfl
 clear H
 exact e6
theorem Mc (H : YT q σ) : (q 7=q 3*fac [q 0,q 1,q 2,q 3]) := by
 have e7:q 7=q 3*fac [q 0,q 1,q 2,q 3]:=H 7 _ rfl
 clear H
 exact e7
theorem qK_pAN (H : YT q σ) : (q 19=q 4*q 4+q 5*q 5+q 6*q 6+q 7*q 7) :=
 pol H [] 6 19 (.A (.A (.A (.M (.v 4) (.v 4)) (.M (.v 5) (.v 5))) (.M (.v 6) (.v 6))) (.M (.v 7) (.v 7))) (by kernel_rfl)
theorem qK_pAz (_H : YT q σ) : (fac [q 0,q 1,q 2,q 3]=0→q 0*q 0+q 1*q 1+q 2*q 2+q 3*q 3=0) := by
 intro k
 have a0 := ZX (x := q 0) (by simp) k
 have a1 := ZX (x := q 1) (by simp) k
 have a2 := ZX (x := q 2) (by simp) k
 have a3 := ZX (x := q 3) (by simp) k
 rw [a0,a1,a2,a3]; simp only [Rat.mul_zero,Rat.add_zero]
theorem DL (H : YT q σ) : (q 241=q 237*fac [q 237,q 238,q 239,q 240]) := by
 have e241:q 241=q 237*fac [q 237,q 238,q 239,q 240]:=H 241 _ rfl
 clear H
 exact e241
theorem DN (H : YT q σ) : (q 242=q 238*fac [q 237,q 238,q 239,q 240]) := by
 have e242:q 242=q 238*fac [q 237,q 238,q 239,q 240]:=H 242 _ rfl
 clear H
 exact e242
theorem Dx (H : YT q σ) : (q 243=q 239*fac [q 237,q 238,q 239,q 240]) := by
 have e243:q 243=q 239*fac [q 237,q 238,q 239,q 240]:=H 243 _ rfl
 clear H
 exact e243
theorem DO (H : YT q σ) : (q 244=q 240*fac [q 237,q 238,q 239,q 240]) := by
 have e244:q 244=q 240*fac [q 237,q 238,q 239,q 240]:=H 244 _ rfl
 clear H
 exact e244
theorem Hr (H : YT q σ) : (q 255=q 241*q 241+q 242*q 242+q 243*q 243+q 244*q 244) :=
 pol H [] 6 255 (.A (.A (.A (.M (.v 241) (.v 241)) (.M (.v 242) (.v 242))) (.M (.v 243) (.v 243))) (.M (.v 244) (.v 244))) (by kernel_rfl)
theorem Ac (_H : YT q σ) : (fac [q 237,q 238,q 239,q 240]=0→q 237*q 237+q 238*q 238+q 239*q 239+q 240*q 240=0) := by
 intro k
 have a0 := ZX (x := q 237) (by simp) k
 have a1 := ZX (x := q 238) (by simp) k
 have a2 := ZX (x := q 239) (by simp) k
 have a3 := ZX (x := q 240) (by simp) k
 rw [a0,a1,a2,a3]; simp only [Rat.mul_zero,Rat.add_zero]
theorem DK (H : YT q σ) : (q 346=q 324*fac [q 324,q 343,q 344,q 345]) := by
 have e346:q 346=q 324*fac [q 324,q 343,q 344,q 345]:=H 346 _ rfl
 clear H
 exact e346
theorem DF (H : YT q σ) : (q 347=q 343*fac [q 324,q 343,q 344,q 345]) := by
 have e347:q 347=q 343*fac [q 324,q 343,q 344,q 345]:=H 347 _ rfl
 clear H
 exact e347
theorem Dz (H : YT q σ) : (q 348=q 344*fac [q 324,q 343,q 344,q 345]) := by
 have e348:q 348=q 344*fac [q 324,q 343,q 344,q 345]:=H 348 _ rfl
 clear H
 exact e348
theorem DE (H : YT q σ) : (q 349=q 345*fac [q 324,q 343,q 344,q 345]) := by
 have e349:q 349=q 345*fac [q 324,q 343,q 344,q 345]:=H 349 _ rfl
 clear H
 exact e349
theorem LU (H : YT q σ) : (q 360=q 346*q 346+q 347*q 347+q 348*q 348+q 349*q 349) :=
 pol H [] 6 360 (.A (.A (.A (.M (.v 346) (.v 346)) (.M (.v 347) (.v 347))) (.M (.v 348) (.v 348))) (.M (.v 349) (.v 349))) (by kernel_rfl)
theorem LI (_H : YT q σ) : (fac [q 324,q 343,q 344,q 345]=0→q 324*q 324+q 343*q 343+q 344*q 344+q 345*q 345=0) := by
 intro k
 have a0 := ZX (x := q 324) (by simp) k
 have a1 := ZX (x := q 343) (by simp) k
 have a2 := ZX (x := q 344) (by simp) k
 have a3 := ZX (x := q 345) (by simp) k
 rw [a0,a1,a2,a3]; simp only [Rat.mul_zero,Rat.add_zero]
theorem qK_pD (H : YT q σ) : (q 81*q 141+q 82*q 142+q 83*q 143=q 20*q 84+q 21*q 85+q 22*q 86)→(q 148=q 153) := by
 have e144:q 144=q 81*q 141:=H 144 _ rfl;have e145:q 145=q 82*q 142:=H 145 _ rfl;have e146:q 146=q 83*q 143:=H 146 _ rfl;have e147:q 147=q 144+q 145:=H 147 _ rfl;have e148:q 148=q 147+q 146:=H 148 _ rfl;have e149:q 149=q 20*q 84:=H 149 _ rfl;have e150:q 150=q 21*q 85:=H 150 _ rfl;have e151:q 151=q 22*q 86:=H 151 _ rfl;have e152:q 152=q 149+q 150:=H 152 _ rfl;have e153:q 153=q 152+q 151:=H 153 _ rfl
 clear H
 intro h
 subst_vars; grind
theorem qK_pk0 (H : YT q σ) : (q 156=q 21*q 86-q 22*q 85) := by
 have e154:q 154=q 21*q 86:=H 154 _ rfl;have e155:q 155=q 22*q 85:=H 155 _ rfl;have e156:q 156=q 154-q 155:=H 156 _ rfl
 clear H
 subst_vars; grind
theorem qK_pk1 (H : YT q σ) : (q 159=q 22*q 84-q 20*q 86) := by
 have e157:q 157=q 22*q 84:=H 157 _ rfl;have e158:q 158=q 20*q 86:=H 158 _ rfl;have e159:q 159=q 157-q 158:=H 159 _ rfl
 clear H
 subst_vars; grind
theorem qK_pk2 (H : YT q σ) : (q 162=q 20*q 85-q 21*q 84) := by
 have e160:q 160=q 20*q 85:=H 160 _ rfl;have e161:q 161=q 21*q 84:=H 161 _ rfl;have e162:q 162=q 160-q 161:=H 162 _ rfl
 clear H
 subst_vars; grind
theorem qK_pX (H : YT q σ) : (q 217=q 82*q 143-q 83*q 142∧q 218=q 83*q 141-q 81*q 143∧q 219=q 81*q 142-q 82*q 141)→(q 236=0) := by
 have e220:q 220=q 82*q 143:=H 220 _ rfl;have e221:q 221=q 83*q 142:=H 221 _ rfl;have e222:q 222=q 220-q 221:=H 222 _ rfl;have e223:q 223=q 83*q 141:=H 223 _ rfl;have e224:q 224=q 81*q 143:=H 224 _ rfl;have e225:q 225=q 223-q 224:=H 225 _ rfl;have e226:q 226=q 81*q 142:=H 226 _ rfl;have e227:q 227=q 82*q 141:=H 227 _ rfl;have e228:q 228=q 226-q 227:=H 228 _ rfl;have e229:q 229=q 217-q 222:=H 229 _ rfl;have e230:q 230=q 218-q 225:=H 230 _ rfl;have e231:q 231=q 219-q 228:=H 231 _ rfl;have e232:q 232=q 229*q 229:=H 232 _ rfl;have e233:q 233=q 230*q 230:=H 233 _ rfl;have e234:q 234=q 232+q 233:=H 234 _ rfl;have e235:q 235=q 231*q 231:=H 235 _ rfl;have e236:q 236=q 234+q 235:=H 236 _ rfl
 clear H
 intro h
 obtain ⟨h0,h1,h2⟩ := h
 refine ((V3s e232 e233 e234 e235 e236).2 ⟨⟨?_,?_⟩,?_⟩) <;> (clear e232 e233 e234 e235 e236; subst_vars; grind)
theorem qK_pF (H : YT q σ) : (q 314=q 419∧q 315=q 420∧q 316=q 421)→(q 429=0) := by
 have e422:q 422=q 314-q 419:=H 422 _ rfl;have e423:q 423=q 315-q 420:=H 423 _ rfl;have e424:q 424=q 316-q 421:=H 424 _ rfl;have e425:q 425=q 422*q 422:=H 425 _ rfl;have e426:q 426=q 423*q 423:=H 426 _ rfl;have e427:q 427=q 425+q 426:=H 427 _ rfl;have e428:q 428=q 424*q 424:=H 428 _ rfl;have e429:q 429=q 427+q 428:=H 429 _ rfl
 clear H
 intro h
 obtain ⟨h0,h1,h2⟩ := h
 refine ((V3s e425 e426 e427 e428 e429).2 ⟨⟨?_,?_⟩,?_⟩) <;> (clear e425 e426 e427 e428 e429; subst_vars; grind)
def Dh : List (FuncId × Nat) := [(37,66),(17,65)]
def qK_G : JP := [(104,[qA [346,347,348,349]],qA [360]),(100,[qA [346,347,348,349]],qA [346,350,351,352]),(35,[pA [4,5,6,7],pA [0,1,2,3]],tA [324,343,344,345]),(104,[qA [241,242,243,244]],qA [255]),(100,[qA [241,242,243,244]],qA [241,245,246,247]),(18,[rA [81,82,83],rA [141,142,143]],rA [222,225,228]),(84,[qA [214,215,216],qA [19]],qA [217,218,219]),(71,[qA [169,185,186,187],qA [4,9,10,11]],qA [195,214,215,216]),(71,[qA [4,5,6,7],(false,[(true,[.inl (.bool false),.inl (.slice none 0 0),.inl (.slice none 0 0),.inr (0,1,156,0,0),.inr (0,2,156,0,0),.inr (0,3,156,0,0),.inr (0,1,159,0,0),.inr (0,2,159,0,0),.inr (0,3,159,0,0),.inr (0,1,162,0,0),.inr (0,2,162,0,0),.inr (0,3,162,0,0)])])],qA [169,185,186,187]),(18,[rA [20,21,22],rA [84,85,86]],rA [156,159,162]),(84,[qA [138,139,140],qA [19]],qA [141,142,143]),(71,[qA [93,109,110,111],qA [4,9,10,11]],qA [119,138,139,140]),(71,[qA [4,5,6,7],(false,[(true,[.inl (.bool false),.inl (.slice none 0 0),.inl (.slice none 0 0),.inr (0,1,84,0,0),.inr (0,2,84,0,0),.inr (0,3,84,0,0),.inr (0,1,85,0,0),.inr (0,2,85,0,0),.inr (0,3,85,0,0),.inr (0,1,86,0,0),.inr (0,2,86,0,0),.inr (0,3,86,0,0)])])],qA [93,109,110,111]),(84,[qA [78,79,80],qA [19]],qA [81,82,83]),(71,[qA [30,49,50,51],qA [4,9,10,11]],qA [59,78,79,80]),(71,[qA [4,5,6,7],(false,[(true,[.inl (.bool false),.inl (.slice none 0 0),.inl (.slice none 0 0),.inr (0,1,20,0,0),.inr (0,2,20,0,0),.inr (0,3,20,0,0),.inr (0,1,21,0,0),.inr (0,2,21,0,0),.inr (0,3,21,0,0),.inr (0,1,22,0,0),.inr (0,2,22,0,0),.inr (0,3,22,0,0)])])],qA [30,49,50,51]),(129,[qA [5,6,7],(false,[(true,[.inl (.bool false),.inl (.slice none 0 0),.inl (.slice none 0 0)])])],qA [34,35,36]),(104,[qA [4,5,6,7]],qA [19]),(100,[qA [4,5,6,7]],qA [4,9,10,11])]
theorem qK_g0 : Zj (sx Tryz.prog qK_N [] [] Dk Dl Dq (prC [11])) Dh 6 9 (qK_G.drop 0)=true := by kernel_rfl
theorem qK_g1 : Zj (sx Tryz.prog qK_N [] [] Dk Dl Dq (prC [11])) Dh 6 7 (qK_G.drop 9)=true := by kernel_rfl
theorem qK_g2 : Zj (sx Tryz.prog qK_N [] [] Dk Dl Dq (prC [11])) Dh 6 3 (qK_G.drop 16)=true := by kernel_rfl
theorem FK {q : Nat→Rat} {σ : Nat→ByteArray} {w : World} (hσ : ∀ j,(σ j).size≤1048576) (hq : ∀ (a : Nat) nd,qK_N[a]? = some nd→q a=Zr σ q nd) (h0 : ∀ a,qK_N.length≤a→q a=0) (hp : Zy w) : Zw qK_N Dk Dl Dq q σ [11] w qK_G := by
 have Y : Hy qK_N [] Dk Dl Dq q σ := Vt hσ AK qK_sz qK_lt qK_cn hq h0 trivial
 have hc : ∀ f ∈ ([11] : List FuncId),Closed f := by simp [ZK]
 have hm : (Tryz.prog).follows .mixedOrders=true := by kernel_rfl
 exact (QN (M := qK_G.drop 0) Y hc hm hp 9 qK_g0 (QN (M := qK_G.drop 9) Y hc hm hp 7 qK_g1 (QN (M := qK_G.drop 16) Y hc hm hp 3 qK_g2 XX)))
def qK_H0 : List (Nat × Nat × Nat × Nat) := [(0,19,0,1)]
def qK_H1 : List (Nat × Nat × Nat × Nat) := [(0,19,0,0),(3,148,153,1),(0,236,0,1),(0,255,0,1),(0,360,0,1)]
def qK_H2 : List (Nat × Nat × Nat × Nat) := [(0,19,0,0),(3,148,153,1),(0,236,0,1),(0,255,0,0),(0,360,0,0),(0,429,0,1)]
theorem qK_r0 : (Zp (sx Tryz.prog qK_N qK_H0 [] Dk Dl Dq (prC [11])) Dh qK_G 5 [] 5 qK_A [] 0).map (·.1)=some (kB true) := by kernel_rfl
theorem qK_r1 : (Zp (sx Tryz.prog qK_N qK_H1 [(105,[.inr (3,9,0,0,0),.inr (3,13,0,0,0),.inr (3,14,0,0,0)]),(105,[.inr (3,32,0,0,0),.inr (3,36,0,0,0),.inr (3,37,0,0,0)]),(105,[.inr (3,81,0,0,0),.inr (3,85,0,0,0),.inr (3,86,0,0,0)])] Dk Dl Dq (prC [11])) Dh qK_G 5 [] 5 qK_A [] 0).map (·.1)=some (kB true) := by kernel_rfl
theorem qK_r2 : (Zp (sx Tryz.prog qK_N qK_H2 [(105,[.inr (3,9,0,0,0),.inr (3,13,0,0,0),.inr (3,14,0,0,0)]),(105,[.inr (3,32,0,0,0),.inr (3,36,0,0,0),.inr (3,37,0,0,0)]),(105,[.inr (3,81,0,0,0),.inr (3,85,0,0,0),.inr (3,86,0,0,0)]),(105,[.inr (3,116,0,0,0),.inr (3,120,0,0,0),.inr (3,121,0,0,0)]),(105,[.inr (3,206,0,0,0),.inr (3,210,0,0,0),.inr (3,211,0,0,0)])] Dk Dl Dq (prC [11])) Dh qK_G 6 [] 5 qK_A [] 0).map (·.1)=some (kB true) := by kernel_rfl
theorem RJ {a b : Prop} (x : a) (y : b) : a∧b := ⟨x,y⟩
theorem Mk {M : JP} {H : List (Nat × Nat × Nat × Nat)} {K : List (FuncId × List AC)} {k : Nat} {q : Nat→Rat} {σ : Nat→ByteArray} {args : List AV} {vs : List Value} {w : World} (hr : (Zp (sx Tryz.prog qK_N H K Dk Dl Dq (prC [11])) Dh M k [] 5 args [] 0).map (·.1)=some (kB true)) (hσ : ∀ j,(σ j).size≤1048576) (hq : ∀ (a : Nat) nd,qK_N[a]? = some nd→q a=Zr σ q nd) (h0 : ∀ a,qK_N.length≤a→q a=0) (hH : Xs q H) (hp : Zy w) (hM : Zw qK_N Dk Dl Dq q σ [11] w M) (hA : ∀ K,A2 (avOn (cOn (evS q σ) K (fun _ => none) w)) args vs) : Calls Tryz.prog 5 vs.toArray w fun e w' => Below w.heap.size w w'∧e=.returned (.bool true) :=
 On k (Vt hσ AK qK_sz qK_lt qK_cn hq h0 hH) (by simp [ZK]) (by kernel_rfl) hp hM hr (hA K)
theorem qK_leafC {H : List (Nat × Nat × Nat × Nat)} {K : List (FuncId × List AC)} {k : Nat} {q : Nat→Rat} {σ : Nat→ByteArray} {args : List AV} {vs : List Value} {w : World} (hr : (ZC (sx Tryz.prog qK_N H K Dk Dl Dq (prC [11])) Dh k [] 5 args [] 0).map (·.1)=some (kB true)) (hσ : ∀ j,(σ j).size≤1048576) (hq : ∀ (a : Nat) nd,qK_N[a]? = some nd→q a=Zr σ q nd) (h0 : ∀ a,qK_N.length≤a→q a=0) (hH : Xs q H) (hp : Zy w) (hA : ∀ K,A2 (avOn (cOn (evS q σ) K (fun _ => none) w)) args vs) : Calls Tryz.prog 5 vs.toArray w fun e w' => Below w.heap.size w w'∧e=.returned (.bool true) :=
 Vs k (Vt hσ AK qK_sz qK_lt qK_cn hq h0 hH) (by simp [ZK]) (by kernel_rfl) hr hp (hA K)
theorem qK_walk {w : World} {gw gx gy gz hw hx hy hz kx ky kz lx ly lz : ByteArray}  (sgw : gw.size≤1048576) (sgx : gx.size≤1048576) (sgy : gy.size≤1048576) (sgz : gz.size≤1048576) (shw : hw.size≤1048576) (shx : hx.size≤1048576) (shy : hy.size≤1048576) (shz : hz.size≤1048576) (skx : kx.size≤1048576) (sky : ky.size≤1048576) (skz : kz.size≤1048576) (slx : lx.size≤1048576) (sly : ly.size≤1048576) (slz : lz.size≤1048576) (tab : Tab w) (mx : MaxL w) :
  Calls Tryz.prog 5 #[.agg #[.string gw,.string gx,.string gy,.string gz],.agg #[.string hw,.string hx,.string hy,.string hz],.agg #[.string kx,.string ky,.string kz],.agg #[.string lx,.string ly,.string lz]] w fun e w' => Below w.heap.size w w'∧e=.returned (.bool true) := by
 have hσ : ∀ j,(RY [gw,gx,gy,gz,hw,hx,hy,hz,kx,ky,kz,lx,ly,lz] j).size≤1048576 := IF (by simp [sgw,sgx,sgy,sgz,shw,shx,shy,shz,skx,sky,skz,slx,sly,slz])
 obtain ⟨q,hq,h0⟩ := Wo (RY [gw,gx,gy,gz,hw,hx,hy,hz,kx,ky,kz,lx,ly,lz]) qK_N AK
 have hA : ∀ K,A2 (avOn (cOn (evS q (RY [gw,gx,gy,gz,hw,hx,hy,hz,kx,ky,kz,lx,ly,lz])) K (fun _ => none) w)) [(false,[(true,[.inr (2,0,0,0,0),.inr (2,1,0,0,0),.inr (2,2,0,0,0),.inr (2,3,0,0,0)])]),(false,[(true,[.inr (2,4,0,0,0),.inr (2,5,0,0,0),.inr (2,6,0,0,0),.inr (2,7,0,0,0)])]),(false,[(true,[.inr (2,8,0,0,0),.inr (2,9,0,0,0),.inr (2,10,0,0,0)])]),(false,[(true,[.inr (2,11,0,0,0),.inr (2,12,0,0,0),.inr (2,13,0,0,0)])])] [.agg #[.string gw,.string gx,.string gy,.string gz],.agg #[.string hw,.string hx,.string hy,.string hz],.agg #[.string kx,.string ky,.string kz],.agg #[.string lx,.string ly,.string lz]] := fun K => ⟨⟨⟨[.string gw,.string gx,.string gy,.string gz],rfl,rfl,rfl,rfl,rfl,trivial⟩,trivial⟩,⟨⟨[.string hw,.string hx,.string hy,.string hz],rfl,rfl,rfl,rfl,rfl,trivial⟩,trivial⟩,⟨⟨[.string kx,.string ky,.string kz],rfl,rfl,rfl,rfl,trivial⟩,trivial⟩,⟨⟨[.string lx,.string ly,.string lz],rfl,rfl,rfl,rfl,trivial⟩,trivial⟩,trivial⟩
 by_cases b19 : q 19=0
 ·
  have hH : Xs q qK_H0 := (RJ (hT b19) trivial)
  exact Mk qK_r0 hσ hq h0 hH ⟨tab,mx⟩ (FK hσ hq h0 ⟨tab,mx⟩) hA
 ·
  have gD := qK_pD hq (QAct.dot (LR hq b19) (qK_pAv hq b19))
  have a_3_148_153 : q 148=q 153 := gD
  have gX := qK_pX hq (QAct.cross (LR hq b19) (qK_pAv hq b19) (qK_pAk hq b19) (qK_pk0 hq) (qK_pk1 hq) (qK_pk2 hq))
  have b236 : q 236=0 := gX
  by_cases b255 : q 255=0
  ·
   have gP1 := (Wg (DK hq) (DF hq) (Dz hq) (DE hq) rfl (LU hq) (LI hq)).2 ((Is (Cu hq) (MD hq) (MR hq) (Mb hq)).trans (by rw [(Wg (DL hq) (DN hq) (Dx hq) (DO hq) rfl (Hr hq) (Ac hq)).1 b255,Rat.zero_mul]))
   have b360 : q 360=0 := gP1
   have hH : Xs q qK_H1 := (RJ (hF b19) (RJ (hT a_3_148_153) (RJ (hT b236) (RJ (hT b255) (RJ (hT b360) trivial)))))
   exact Mk qK_r1 hσ hq h0 hH ⟨tab,mx⟩ (FK hσ hq h0 ⟨tab,mx⟩) hA
  ·
   have gP0 := fun h => ZH (fun j => b255 ((Wg (DL hq) (DN hq) (Dx hq) (DO hq) rfl (Hr hq) (Ac hq)).2 j)) (fun j => b19 ((Wg (MS hq) (MT hq) (CO hq) (Mc hq) rfl (qK_pAN hq) (qK_pAz hq)).2 j)) ((Is (Cu hq) (MD hq) (MR hq) (Mb hq)).symm.trans ((Wg (DK hq) (DF hq) (Dz hq) (DE hq) rfl (LU hq) (LI hq)).1 h))
   have b360 : ¬ (q 360=0) := gP0
   have gF := qK_pF hq (QAct.comp (QAct.scale (LR hq b19) (MS hq) (MT hq) (CO hq) (Mc hq) rfl) (QAct.scale (qK_pBx hq b255) (DL hq) (DN hq) (Dx hq) (DO hq) rfl) (QAct.scale (qK_pPu hq (fun h => ZH (fun j => b255 ((Wg (DL hq) (DN hq) (Dx hq) (DO hq) rfl (Hr hq) (Ac hq)).2 j)) (fun j => b19 ((Wg (MS hq) (MT hq) (CO hq) (Mc hq) rfl (qK_pAN hq) (qK_pAz hq)).2 j)) ((Is (Cu hq) (MD hq) (MR hq) (Mb hq)).symm.trans ((Wg (DK hq) (DF hq) (Dz hq) (DE hq) rfl (LU hq) (LI hq)).1 h)))) (DK hq) (DF hq) (Dz hq) (DE hq) rfl) (Cu hq) (MD hq) (MR hq) (Mb hq))
   have b429 : q 429=0 := gF
   have hH : Xs q qK_H2 := (RJ (hF b19) (RJ (hT a_3_148_153) (RJ (hT b236) (RJ (hF b255) (RJ (hF b360) (RJ (hT b429) trivial))))))
   exact Mk qK_r2 hσ hq h0 hH ⟨tab,mx⟩ (FK hσ hq h0 ⟨tab,mx⟩) hA
end Go.Proofs.YtmdfngmjoaigjaaGreatDoor
