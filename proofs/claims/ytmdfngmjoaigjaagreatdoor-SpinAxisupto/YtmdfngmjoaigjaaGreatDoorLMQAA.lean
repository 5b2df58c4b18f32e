/- Part 13 of the walks and of the mathematics under them: VP VPC VY VSZ VSA CFspun PLY VPD VPE MQARA MQAR1 MQAR2 MQA. -/
import Derived.Test.YtmdfngmjoaigjaaGreatDoorA2
import Derived.Test.YtmdfngmjoaigjaaGreatDoorA12
import Derived.Test.YtmdfngmjoaigjaaGreatDoorA11
set_option maxHeartbeats 16000000
set_option maxRecDepth 100000
/- VP -/
namespace Cx
open Go Go.RowKit
abbrev Hs := List (Nat × Nat × Nat × Nat)
def Sx.plus (S : Sx) (X : Hs) : Sx := { S with H := X ++ S.H }
abbrev Ask := Nat × Nat × Nat × Nat
def XB (a : Nat) : Ask := (0,a,0,a)
def JL (S : Sx) : Ask→Bool
 | (k,a,b,d) => (Nat.beq k 0 && (Nat.beq b 0 && Nat.beq d a)) || (Nat.beq k 3 && (match S.N[d]? with
  | some (op,ar) => Nat.beq op 3 && Rq ar [a,b]
  | none => false))
def Yt (S : Sx) (a b : Nat) : List Nat→List Nat→Option (List Ask)
 | c :: l,d :: m => (S.nd 4 [a,d]).bind fun x => (S.nd 4 [c,b]).bind fun y => (S.nd 3 [x,y]).bind fun z => (Yt S a b l m).map fun r => (3,x,y,z) :: r
 | _,_ => some []
def UI (S : Sx) : List Nat→List Nat→List Nat→List Nat→Option (List Ask)
 | pl,pm,a :: l,b :: m => (Yt S a b pl pm).bind fun r => (UI S (pl ++ [a]) (pm ++ [b]) l m).map fun t => r ++ t
 | _,_,_,_ => some []
def OL (S : Sx) : List Nat→List Nat→Option (List Ask)
 | a :: l,b :: m => (S.nd 3 [a,b]).bind fun d => (OL S l m).map fun r => (3,a,b,d) :: r
 | _,_ => some []
def asks (S : Sx) (h : List HB) (code : Nat) (args : List AV) : Option (List Ask) :=
 match code with
 | 60 => arg1 (fun x => (asA x).bind fun cs => (WY S cs).map fun l => l.map XB) args
 | 61 => arg1 (fun x => (YW h 1 x).bind fun p => (Zi (acX 0) p.2).map fun l => l.map XB) args
 | 62 => Ua (fun x y => (YW h 1 x).bind fun p => (Zi (acX 0) p.2).bind fun l => (YW h 1 y).bind fun p' => (Zi (acX 0) p'.2).bind fun m => UI S [] [] l m) args
 | 63 => arg1 (fun x => (asA x).bind fun cs => (Zi Jx cs).bind fun l => (Rp S l).map fun xs => xs.map XB) args
 | 69 => arg1 (fun x => (asA x).bind fun cs => (Zi (UQ S) cs).map fun l => l.map XB) args
 | 67 => arg1 (fun x => (asA x).bind fun cs => (Zi (UQ S) (cs.take 3)).map fun l => l.map XB) args
 | 65 => arg1 (fun x => (asA x).bind fun cs => (Zi (acX 0) cs).map fun l => l.map XB) args
 | 66 => Ua (fun x y => (asA x).bind fun cs => (asA y).bind fun ds => (Zi (acX 0) cs).bind fun l => (Zi (acX 0) ds).bind fun m => OL S l m) args
 | 64 => arg1 (fun x => (asA x).bind fun cs => (WY S cs).map fun l => (l.take 5).map XB) args
 | 68 => Ua (fun x _ => (asA x).bind fun cs => (WY S cs).map fun l => (l.take 5).map XB) args
 | _ => none
def Jd : List Ask→Hs→List Hs
 | [],_ => []
 | (k,a,b,_) :: l,X => ((k,a,b,0) :: X) :: Jd l ((k,a,b,1) :: X)
def Ub : List Ask→Hs→Hs
 | [],X => X
 | (k,a,b,_) :: l,X => Ub l ((k,a,b,1) :: X)
def Zv (S : Sx) (call : ZN) : ZN := fun f args h nx => S.P.funcs[f]?.bind fun fn => fn.body.bind fun c => ifO (Nat.ble args.length fn.ntmps) ((OH S call fn.ntmps c { tm := Ki 0 args,h := h,nx := nx }).bind fun r =>
   ifO (Nat.ble r.1 1) ((Zi (Dv S.P r.2) fn.results.toList).map fun xs => (Mw xs,r.2.h,r.2.nx)))
abbrev XV := Option (AV × List HB × Nat)
def acZ : AC→Option Nat
 | .inr (k,j,a,x,y) => ifO (Nat.beq k 0 && (Nat.beq j 7 && (Nat.beq x 0 && Nat.beq y 0))) (some a)
 | _ => none
def UA (S : Sx) (v : AV) : AV := match (asC v).bind (acX 4) with
 | some n => (match S.N[n]? with
  | some (_,[a,b]) => (match S.nd 4 [a,b],S.kn 0 a 0 with
   | some m,some r => bif Nat.beq m n && !Nat.beq 1 r then v1 (.inr (0,7,b,0,0)) else v
   | _,_ => v)
  | _ => v)
 | none => v
def JH (S : Sx) (r : XV) : XV := r.map fun p => (UA S p.1,p.2)
def Oa (v : AV) : Option (Bool ⊕ Nat) := match asB v with
 | some b => some (.inl b)
 | none => ((asC v).bind acZ).map .inr
def Rt : Bool ⊕ Nat→AV
 | .inl b => kB b
 | .inr a => v1 (.inr (0,7,a,0,0))
def UP : Bool ⊕ Nat→Bool ⊕ Nat→Bool
 | .inl b,.inl c => b == c
 | .inr a,.inr b => Nat.beq a b
 | _,_ => false
def Uu (h : List HB) (b : Bool ⊕ Nat) (hi : Nat) : XV→Bool
 | some (v,h',nx') => (match Oa v with
  | some c => UP b c
  | none => false) && (Nat.ble nx' hi && h.all fun x => h'.any fun y => Nat.beq y.1 x.1 && Iu x.2 y.2)
 | none => false
def WZ : Nat→List XV→Nat
 | m,[] => m
 | m,some p :: rs => WZ (bif Nat.ble m p.2.2 then p.2.2 else m) rs
 | m,none :: rs => WZ m rs
def XK (h : List HB) (nx : Nat) (rs : List XV) : XV :=
 match rs with
 | some p :: _ => (Oa p.1).bind fun b => ifO (rs.all (Uu h b (WZ nx rs))) (some (Rt b,h,WZ nx rs))
 | _ => none
def YR (S : Sx) (X : Hs) (h : List HB) (c : Nat) (args : List AV) : Option (List Ask × Nat) :=
 (asks (S.plus X) h c args).bind fun l => ifO (l.all (JL S)) ((sqN S (l.map (·.2.2.2))).bind fun s => ((S.plus X).kn 0 s 0).map fun r => (l,r))
theorem JZ {S : Sx} {X : Hs} {h : List HB} {c : Nat} {args : List AV} {l : List Ask} {r : Nat} (e : YR S X h c args=some (l,r)) : (∀ a ∈ l,JL S a=true)∧∃ s,sqN S (l.map (·.2.2.2))=some s∧(S.plus X).kn 0 s 0=some r := by
 unfold YR at e
 simp only [Option.bind_eq_some_iff,ifO_some,Option.map_eq_some_iff,List.all_eq_true,Prod.mk.injEq] at e
 obtain ⟨l',_,h1,s,h2,r',h3,rfl,rfl⟩ := e
 exact ⟨h1,s,h2,h3⟩
def ZC (S : Sx) (cs : List (FuncId × Nat)) : Nat→Hs→ZN
 | 0,_,_,_,_,_ => none
 | n+1,X,f,args,h,nx => match Wp f cs with
  | none => Zv (S.plus X) (ZC S cs n X) f args h nx
  | some c => match YR S X h c args with
   | none => Zv (S.plus X) (ZC S cs n X) f args h nx
   | some (l,r) => bif Nat.beq 1 r then Zv (S.plus (Ub l X)) (ZC S cs n (Ub l X)) f args h nx
    else XK h nx ((Jd l X).map fun X' => JH (S.plus X') (Zv (S.plus X') (ZC S cs n X') f args h nx))
section
variable {S : Sx} {E : Ev S.nb} {w0 : World}
theorem Yi {call : ZN} (hm : S.P.follows .mixedOrders=true) (N : Knows S E) (hP : JI S E w0) (hC : Zl S E w0 call) : Zl S E w0 (Zv S call) := fun f args h nx p hp γ w vs hi hA hb hlt hf => by
 unfold Zv at hp
 simp only [Option.bind_eq_some_iff,ifO_some,Option.map_eq_some_iff,Nat.ble_eq] at hp
 obtain ⟨fn,h1,c,h2,h3,⟨e,s'⟩,h4,h5,xs,h6,rfl⟩ := hp
 dsimp only at h5 h6
 rcases (show e=0 ∨ e=1 by omega) with rfl | rfl
 all_goals
  obtain ⟨_,_,r⟩ := Xr hm N hP hC c _ _ _ h4
  refine calls_of_wp h1 h2 (r γ _ w _ ⟨hi,fun t v q => ?_,hb,hlt,?_,rfl⟩ hf fun a' w' γ' hef hs => ?_)
  ·obtain ⟨_,q2⟩ := Vu q
   rw [Nat.sub_zero] at q2
   obtain ⟨u,hu,hv⟩ := hA.get q2
   have hlt : t < vs.length := (List.getElem?_eq_some_iff.1 hu).1
   have : (vs.toArray ++ Array.replicate (fn.ntmps - vs.toArray.size) undef).getD t undef=u := by
    rw [Array.getD_eq_getD_getElem?,Array.getElem?_append_left (by simpa using hlt)]
    simp [hu]
   show avOn _ v ((vs.toArray ++ Array.replicate (fn.ntmps - vs.toArray.size) undef).getD t undef)
   rw [this]
   exact hv
  ·have := hA.len
   simp
   omega
  ·obtain ⟨v,hv,hx⟩ := YE hs h6
   exact ⟨hs.df,v,hv,v,γ',rfl,hef,hx,hs.bx⟩
theorem Ru {v : AV} {b : Bool} (h : asB v=some b) : v=kB b := by
 unfold asB at h
 rw [Option.bind_eq_some_iff] at h
 obtain ⟨c,h1,h2⟩ := h
 unfold asC at h1
 split at h1
 ·cases h1
  unfold acB at h2
  split at h2
  ·cases h2
   rfl
  ·cases h2
 ·cases h1
theorem WW {v : AV} {k : Bool ⊕ Nat} (h : Oa v=some k) : v=Rt k := by
 unfold Oa at h
 split at h
 ·rename_i b hb
  cases h
  exact Ru hb
 ·rw [Option.map_eq_some_iff] at h
  obtain ⟨a,h,rfl⟩ := h
  rw [Option.bind_eq_some_iff] at h
  obtain ⟨c,h1,h2⟩ := h
  unfold asC at h1
  split at h1
  ·cases h1
   unfold acZ at h2
   split at h2
   ·rw [ifO_some,Bool.and_eq_true,Bool.and_eq_true,Bool.and_eq_true,Nat.beq_eq,Nat.beq_eq,Nat.beq_eq,Nat.beq_eq] at h2
    obtain ⟨⟨rfl,rfl,rfl,rfl⟩,h3⟩ := h2
    cases h3
    rfl
   ·cases h2
  ·cases h1
theorem UC {a b : Bool ⊕ Nat} (h : UP a b=true) : a=b := by
 unfold UP at h
 split at h
 ·rename_i x y
  have : x=y := by simpa using h
  rw [this]
 ·rw [Nat.beq_eq] at h
  rw [h]
 ·cases h
theorem YJ (q : Rat) : Xa q=0 ↔ q=0 := by
 unfold Xa
 split
 ·rename_i hlt
  constructor
  ·intro q; cases q
  ·intro q; rw [q] at hlt; exact absurd hlt (by decide)
 ·split <;> simp_all
theorem UB (N : Knows S E) {γ : Nat→Option Nat} {w : World} {v : AV} {r : Value} (h : avOn (cOn E S.K γ w) v r) : avOn (cOn E S.K γ w) (UA S v) r := by
 unfold UA
 split
 ·rename_i n hn
  rw [Option.bind_eq_some_iff] at hn
  obtain ⟨c,h1,h2⟩ := hn
  split
  ·split
   ·rename_i a b _ _ _ m r' hm hr
    cases e : (Nat.beq m n && !Nat.beq 1 r') with
    | true =>
     rw [Bool.and_eq_true,Nat.beq_eq,Bool.not_eq_true'] at e
     obtain ⟨rfl,e2⟩ := e
     have ez := (N.x4 _ _ _).1 (YU h2 (Zk h1 h))
     refine ZE ((N.x7 _ _ _).2 ⟨_,ez,?_⟩)
     have hz : ¬ E.q a=0 := fun q => by rw [(N.k0 a r' hr).2 q] at e2; cases e2
     rw [YJ,N.k7 _ _ _ hm]
     constructor
     ·exact fun q => (Rat.mul_eq_zero.1 q).resolve_left hz
     ·intro q
      rw [q,Rat.mul_zero]
    | false => exact h
   ·exact h
  ·exact h
 ·exact h
theorem Vq {X : Hs} {call : ZN} (N : Knows (S.plus X) E) (hC : Zl S E w0 call) : Zl S E w0 (fun f args h nx => JH (S.plus X) (call f args h nx)) := fun f args h nx p hp => by
 replace hp : JH (S.plus X) (call f args h nx)=some p := hp
 unfold JH at hp
 rw [Option.map_eq_some_iff] at hp
 obtain ⟨p0,hp0,rfl⟩ := hp
 intro γ w vs hi hA hb hlt hf
 refine (hC f args h nx p0 hp0 γ w vs hi hA hb hlt hf).mono ?_
 rintro _ w' ⟨r',γ',rfl,hef,hv,hx⟩
 exact ⟨r',γ',rfl,hef,UB (S := S.plus X) N hv,hx⟩
theorem JX {h : List HB} {b : Bool ⊕ Nat} {hi : Nat} {r : XV} (hr : Uu h b hi r=true) : ∃ h' nx',r=some (Rt b,h',nx')∧nx'≤hi∧∀ x ∈ h,x ∈ h' := by
 unfold Uu at hr
 split at hr
 ·rename_i v h' nx'
  rw [Bool.and_eq_true,Bool.and_eq_true,Nat.ble_eq,List.all_eq_true] at hr
  obtain ⟨h1,h2,h3⟩ := hr
  refine ⟨h',nx',?_,h2,fun x hx => ?_⟩
  ·split at h1
   ·rename_i c hc
    rw [WW hc,UC h1]
   ·cases h1
  ·have := h3 x hx
   rw [List.any_eq_true] at this
   obtain ⟨y,hy,e⟩ := this
   rw [Bool.and_eq_true,Nat.beq_eq] at e
   have : x=y := Prod.ext e.1.symm (XZ e.2)
   rw [this]
   exact hy
 ·cases hr
variable {T : Hs→Prop} {z : Nat→Prop}
def ZF (S : Sx) (T : Hs→Prop) (z : Nat→Prop) : Prop := ∀ X,T X→∀ a,JL S a=true→(z a.2.2.2→T ((a.1,a.2.1,a.2.2.1,1) :: X))∧(¬ z a.2.2.2→T ((a.1,a.2.1,a.2.2.1,0) :: X))
theorem ZV (hk : ZF S T z) : ∀ {l : List Ask} {X : Hs},T X→(∀ a ∈ l,JL S a=true)→(∀ a ∈ l,z a.2.2.2)→T (Ub l X)
 | [],_,h,_,_ => h
 | (k,a,b,d) :: l,X,h,ho,hz => ZV (l := l) hk ((hk X h (k,a,b,d) (ho _ List.mem_cons_self)).1 (hz _ List.mem_cons_self)) (fun a ha => ho a (List.mem_cons_of_mem _ ha)) (fun a ha => hz a (List.mem_cons_of_mem _ ha))
theorem ZD (hk : ZF S T z) : ∀ {l : List Ask} {X : Hs},T X→(∀ a ∈ l,JL S a=true)→(∃ a ∈ l,¬ z a.2.2.2)→∃ X' ∈ Jd l X,T X'
 | [],_,_,_,⟨_,h,_⟩ => by cases h
 | (k,a,b,d) :: l,X,h,ho,hz => by
  by_cases e : z d
  ·obtain ⟨X',h1,h2⟩ := ZD (l := l) hk ((hk X h (k,a,b,d) (ho _ List.mem_cons_self)).1 e) (fun a ha => ho a (List.mem_cons_of_mem _ ha)) (by
    obtain ⟨c,hc,hn⟩ := hz
    rcases List.mem_cons.1 hc with rfl | hc
    ·exact (hn e).elim
    ·exact ⟨c,hc,hn⟩)
   exact ⟨X',List.mem_cons_of_mem _ h1,h2⟩
  ·exact ⟨_,List.mem_cons_self,(hk X h (k,a,b,d) (ho _ List.mem_cons_self)).2 e⟩
theorem YB {cs : List (FuncId × Nat)} (hm : S.P.follows .mixedOrders=true) (hN : ∀ X,T X→Knows (S.plus X) E) (hP : ∀ X,T X→JI (S.plus X) E w0) (hk : ZF S T z)
  (hs : ∀ X,T X→∀ l s r,sqN S l=some s→(S.plus X).kn 0 s 0=some r→(Nat.beq 1 r=true→∀ d ∈ l,z d)∧(Nat.beq 1 r=false→∃ d ∈ l,¬ z d)) : ∀ n X,T X→Zl S E w0 (ZC S cs n X)
 | 0,_,_ => fun _ _ _ _ _ h => by cases h
 | n+1,X,hX => fun f args h nx p hp => by
  have body : ∀ Y,T Y→Zl S E w0 (Zv (S.plus Y) (ZC S cs n Y)) := fun Y hY => Yi (S := S.plus Y) hm (hN Y hY) (hP Y hY) (YB hm hN hP hk hs n Y hY)
  unfold ZC at hp
  split at hp
  ·exact body X hX f args h nx p hp
  ·split at hp
   ·exact body X hX f args h nx p hp
   rename_i l r hk'
   obtain ⟨hl,s,h1,h2⟩ := JZ hk'
   have h3 := hp
   obtain ⟨a1,a0⟩ := hs X hX _ s r h1 h2
   cases e : Nat.beq 1 r with
   | true =>
    rw [e] at h3
    exact body _ (ZV hk hX hl fun a ha => a1 e _ (List.mem_map_of_mem ha)) f args h nx p h3
   | false =>
    rw [e] at h3
    obtain ⟨d,hd,hz⟩ := a0 e
    obtain ⟨a,ha,rfl⟩ := List.mem_map.1 hd
    obtain ⟨X',m1,m2⟩ := ZD hk hX hl ⟨a,ha,hz⟩
    replace h3 : XK h nx ((Jd l X).map fun X' => JH (S.plus X') (Zv (S.plus X') (ZC S cs n X') f args h nx))=some p := h3
    unfold XK at h3
    split at h3
    ·rename_i p0 rs hrs
     rw [Option.bind_eq_some_iff] at h3
     obtain ⟨b,hb,h4⟩ := h3
     rw [ifO_some,List.all_eq_true] at h4
     obtain ⟨h5,h6⟩ := h4
     cases h6
     obtain ⟨h',nx',q1,q2,q3⟩ := JX (h5 _ (List.mem_map_of_mem m1))
     intro γ w vs hi hA hb hlt hf
     refine (Vq (hN X' m2) (body X' m2) f args h nx _ q1 γ w vs hi hA hb hlt fun b g1 g2 => hf b g1 (Nat.lt_of_lt_of_le g2 q2)).mono ?_
     rintro _ w' ⟨r',γ',rfl,hef,hv,hx⟩
     exact ⟨r',γ',rfl,hef.wide (Nat.le_refl _) q2,hv,fun x hh => hx x (q3 x hh)⟩
    ·cases h3
end
end Cx
/- VPC -/
namespace Go.Proofs.YtmdfngmjoaigjaaGreatDoor
open Cx Go Go.RowKit
section
variable {N : List Nd} {H : List (Nat × Nat × Nat × Nat)} {K : List (FuncId × List AC)} {L C : List (List Nat × Nat)} {Z : List Nat} {q : Nat→Rat} {σ : Nat→ByteArray} {w0 : World} {cl : List FuncId} {cs pr : List (FuncId × Nat)}
theorem QK {k a b k' a' b' r' : Nat} {r : Nat} (h : JG k a b ((k',a',b',r') :: H)=some r) : (k=k'∧a=a'∧b=b'∧r=r') ∨ JG k a b H=some r := by
 unfold JG at h
 cases e : (Nat.beq k k' && (Nat.beq a a' && Nat.beq b b')) with
 | true =>
  rw [e] at h
  simp only [Bool.and_eq_true,Nat.beq_eq] at e
  exact Or.inl ⟨e.1,e.2.1,e.2.2,(Option.some.inj h).symm⟩
 | false =>
  rw [e] at h
  exact Or.inr h
theorem Hy.add0 (Y : Hy N H L C Z q σ) {a r : Nat} (h : Nat.beq 1 r=true ↔ q a=0) : Hy N ((0,a,0,r) :: H) L C Z q σ where
 nat := Y.nat
 qs := Y.qs
 zs := Y.zs
 par := Y.par
 lit := Y.lit
 k0 := fun a' r' g => by
  rcases QK g with ⟨_,e1,_,e2⟩ | g
  ·rw [e1,e2]
   exact h
  ·exact Y.k0 a' r' g
 k1 := fun a' r' g => by
  rcases QK g with ⟨e,_⟩ | g
  ·cases e
  ·exact Y.k1 a' r' g
 k2 := fun a' r' g => by
  rcases QK g with ⟨e,_⟩ | g
  ·cases e
  ·exact Y.k2 a' r' g
 k4 := fun l a' b' r' g1 g => by
  rcases QK g with ⟨e,_⟩ | g
  ·cases e
  ·exact Y.k4 l a' b' r' g1 g
 k3 := fun a' b' r' g => by
  rcases QK g with ⟨e,_⟩ | g
  ·cases e
  ·exact Y.k3 a' b' r' g
 k6 := fun a' b' r' g => by
  rcases QK g with ⟨e,_⟩ | g
  ·cases e
  ·exact Y.k6 a' b' r' g
 k5 := fun a' r' g => by
  rcases QK g with ⟨e,_⟩ | g
  ·cases e
  ·exact Y.k5 a' r' g
theorem Hy.add3 (Y : Hy N H L C Z q σ) {a b r : Nat} (h : Nat.beq 1 r=true ↔ q a=q b) : Hy N ((3,a,b,r) :: H) L C Z q σ where
 nat := Y.nat
 qs := Y.qs
 zs := Y.zs
 par := Y.par
 lit := Y.lit
 k0 := fun a' r' g => by
  rcases QK g with ⟨e,_⟩ | g
  ·cases e
  ·exact Y.k0 a' r' g
 k1 := fun a' r' g => by
  rcases QK g with ⟨e,_⟩ | g
  ·cases e
  ·exact Y.k1 a' r' g
 k2 := fun a' r' g => by
  rcases QK g with ⟨e,_⟩ | g
  ·cases e
  ·exact Y.k2 a' r' g
 k4 := fun l a' b' r' g1 g => by
  rcases QK g with ⟨e,_⟩ | g
  ·cases e
  ·exact Y.k4 l a' b' r' g1 g
 k3 := fun a' b' r' g => by
  rcases QK g with ⟨_,e1,e2,e3⟩ | g
  ·rw [e1,e2,e3]
   exact h
  ·exact Y.k3 a' b' r' g
 k6 := fun a' b' r' g => by
  rcases QK g with ⟨e,_⟩ | g
  ·cases e
  ·exact Y.k6 a' b' r' g
 k5 := fun a' r' g => by
  rcases QK g with ⟨e,_⟩ | g
  ·cases e
  ·exact Y.k5 a' r' g
theorem Yj : ZF (sx Tryz.prog N H K L C Z pr) (fun X => Hy N (X ++ H) L C Z q σ) (fun d => q d=0) := fun X Y a ha => by
 obtain ⟨k,a,b,d⟩ := a
 have t1 : Nat.beq 1 1=true := rfl
 have t0 : Nat.beq 1 0 ≠ true := fun h => by cases h
 unfold JL at ha
 rw [Bool.or_eq_true] at ha
 rcases ha with ha | ha
 ·simp only [Bool.and_eq_true,Nat.beq_eq] at ha
  obtain ⟨rfl,rfl,rfl⟩ := ha
  exact ⟨fun h => Hy.add0 Y ⟨fun _ => h,fun _ => t1⟩,fun h => Hy.add0 Y ⟨fun g => (t0 g).elim,fun g => (h g).elim⟩⟩
 ·rw [Bool.and_eq_true,Nat.beq_eq] at ha
  obtain ⟨rfl,hb⟩ := ha
  split at hb
  ·rename_i op ar hn
   rw [Bool.and_eq_true,Nat.beq_eq] at hb
   obtain ⟨rfl,hb⟩ := hb
   have e := Ug hb
   subst e
   have hv : q d=q a - q b := Y.nat d _ hn
   have h2 : q d=0 ↔ q a=q b := by
    rw [hv]
    constructor <;> intro h <;> grind
   exact ⟨fun h => Hy.add3 Y ⟨fun _ => h2.1 h,fun _ => t1⟩,fun h => Hy.add3 Y ⟨fun g => (t0 g).elim,fun g => (h (h2.2 g)).elim⟩⟩
  ·cases hb
theorem Vg (y : Rat) : 0≤y*y := by
 by_cases h : y=0
 ·rw [h,Rat.zero_mul]
  exact Rat.le_refl
 ·exact Rat.le_of_lt (Rw h)
theorem Ij {x y : Rat} (hx : 0≤x) : x+y*y=0 ↔ x=0∧y=0 := by
 constructor
 ·intro h
  have h2 := Vg y
  have h3 : x=0 := by grind
  refine ⟨h3,?_⟩
  have : y*y=0 := by grind
  rcases Rat.mul_eq_zero.1 this with g | g <;> exact g
 ·rintro ⟨rfl,rfl⟩
  grind
theorem Yp {H' : List (Nat × Nat × Nat × Nat)} (Y : Hy N H' L C Z q σ) : ∀ {l : List Nat} {s t : Nat},sqF (sx Tryz.prog N H K L C Z pr) s l=some t→0≤q s→0≤q t∧(q t=0 ↔ q s=0∧∀ d ∈ l,q d=0)
 | [],s,t,h,hs => by
  cases h
  exact ⟨hs,fun e => ⟨e,fun d hd => by cases hd⟩,fun e => e.1⟩
 | a :: l,s,t,h,hs => by
  unfold sqF at h
  simp only [Option.bind_eq_some_iff] at h
  obtain ⟨b,h1,c,h2,h3⟩ := h
  have e1 : q b=q a*q a := Hy.nd (H := H') (K := K) (pr := pr) Y h1
  have e2 : q c=q s+q b := Hy.nd (H := H') (K := K) (pr := pr) Y h2
  have n := Vg (q a)
  obtain ⟨g1,g2⟩ := Yp Y h3 (by grind)
  refine ⟨g1,g2.trans ?_⟩
  have e3 := Ij (y := q a) hs
  rw [e2,e1,e3]
  constructor
  ·rintro ⟨⟨x,y⟩,z⟩
   refine ⟨x,fun d hd => ?_⟩
   rcases List.mem_cons.1 hd with rfl | hd
   ·exact y
   ·exact z d hd
  ·rintro ⟨x,y⟩
   exact ⟨⟨x,y a List.mem_cons_self⟩,fun d hd => y d (List.mem_cons_of_mem _ hd)⟩
theorem Vl {H' : List (Nat × Nat × Nat × Nat)} (Y : Hy N H' L C Z q σ) {l : List Nat} {s : Nat} (h : sqN (sx Tryz.prog N H K L C Z pr) l=some s) : q s=0 ↔ ∀ d ∈ l,q d=0 := by
 unfold sqN at h
 split at h
 ·cases h
 ·rename_i a l
  rw [Option.bind_eq_some_iff] at h
  obtain ⟨b,h1,h2⟩ := h
  have e1 : q b=q a*q a := Hy.nd (H := H') (K := K) (pr := pr) Y h1
  have n := Vg (q a)
  obtain ⟨_,g⟩ := Yp Y h2 (by grind)
  rw [g,e1]
  constructor
  ·rintro ⟨x,y⟩ d hd
   rcases List.mem_cons.1 hd with rfl | hd
   ·rcases Rat.mul_eq_zero.1 x with x | x <;> exact x
   ·exact y d hd
  ·intro y
   refine ⟨?_,fun d hd => y d (List.mem_cons_of_mem _ hd)⟩
   rw [y a List.mem_cons_self,Rat.zero_mul]
theorem Wc {f : FuncId} {args : List AV} {vs : List Value} {k : Nat} {p : List HB × Nat} {b : Bool} (Y : Hy N H L C Z q σ) (hm : (Tryz.prog).follows .mixedOrders=true) {w : World} (hP : ∀ H',Hy N H' L C Z q σ→JI (sx Tryz.prog N H' K L C Z pr) (evS q σ) w) (hr : ZC (sx Tryz.prog N H K L C Z pr) cs k [] f args [] 0=some (kB b,p))
  (hA : A2 (avOn (cOn (evS q σ) K (fun _ => none) w)) args vs) : Calls Tryz.prog f vs.toArray w fun e w' => Below w.heap.size w w'∧e=.returned (.bool b) := by
 refine (YB (S := sx Tryz.prog N H K L C Z pr) (E := evS q σ) (w0 := w) (T := fun X => Hy N (X ++ H) L C Z q σ) (z := fun d => q d=0) hm (fun X hX => GM hX) (fun X hX => hP _ hX) Yj ?_ k [] Y f args [] 0 (kB b,p) hr (fun _ => none) w vs ⟨Below.refl _ _,(fun _ _ h => by cases h)⟩ hA (fun x hx => by cases hx) (fun x hx => by cases hx) (fun _ _ _ => rfl)).mono ?_
 ·intro X hX l s r h1 h2
  have e := hX.k0 s r h2
  have g := Vl hX h1
  refine ⟨fun h => g.1 (e.1 h),fun h => ?_⟩
  have hn : ¬ ∀ d ∈ l,q d=0 := fun q' => by
   rw [e.2 (g.2 q')] at h
   cases h
  simpa using hn
 ·rintro _ w' ⟨r,γ',rfl,hef,hv,_⟩
  exact ⟨hef.wi.bel,by rw [show r=.bool b from (Zk (v := kB b) (c := .inl (.bool b)) rfl hv).1]⟩
theorem UZ {f : FuncId} {args : List AV} {vs : List Value} {k : Nat} {p : List HB × Nat} {b : Bool} (Y : Hy N H L C Z q σ) (hc : ∀ f ∈ cl,Closed f) (hm : (Tryz.prog).follows .mixedOrders=true) (hr : ZC (sx Tryz.prog N H K L C Z (prC cl)) cs k [] f args [] 0=some (kB b,p)) {w : World} (hp : Zy w)
  (hA : A2 (avOn (cOn (evS q σ) K (fun _ => none) w)) args vs) : Calls Tryz.prog f vs.toArray w fun e w' => Below w.heap.size w w'∧e=.returned (.bool b) := Wc Y hm (fun _ Y' => Rf Y' hp hc) hr hA
theorem Vs {f : FuncId} {args : List AV} {vs : List Value} (k : Nat) (Y : Hy N H L C Z q σ) (hc : ∀ f ∈ cl,Closed f) (hm : (Tryz.prog).follows .mixedOrders=true) (hr : (ZC (sx Tryz.prog N H K L C Z (prC cl)) cs k [] f args [] 0).map (·.1)=some (kB true)) {w : World} (hp : Zy w)
  (hA : A2 (avOn (cOn (evS q σ) K (fun _ => none) w)) args vs) : Calls Tryz.prog f vs.toArray w fun e w' => Below w.heap.size w w'∧e=.returned (.bool true) := by
 rw [Option.map_eq_some_iff] at hr
 obtain ⟨⟨v,p⟩,h1,h2⟩ := hr
 dsimp only at h2
 subst h2
 exact UZ Y hc hm h1 hp hA
end
end Go.Proofs.YtmdfngmjoaigjaaGreatDoor
/- VY -/
namespace Go.Proofs.YtmdfngmjoaigjaaGreatDoor
open Go.RowKit Cx
theorem Ob (t : Rat) : t*(t.den : Rat)=((t.num : Int) : Rat) := by
 conv => lhs; lhs; rw [← Rat.mkRat_self t]
 have h0 : (t.den : Rat) ≠ 0 := fun h => t.den_nz (by exact_mod_cast h)
 rw [Rat.mkRat_eq_div,Rat.div_mul_cancel h0]
theorem whole {q : Rat} (h : q.den=1) : q=((q.num : Int) : Rat) := by
 have := Ob q
 rw [h] at this
 rw [← this]
 show q=q*((1 : Nat) : Rat)
 exact (Rat.mul_one q).symm
end Go.Proofs.YtmdfngmjoaigjaaGreatDoor
/- VSZ -/
namespace Go.Proofs.YtmdfngmjoaigjaaGreatDoor
open Go.RowKit Cx
structure QW (z : Nat) (x : Rat) : Prop where
 qs : QS z x
 wh : x.den=1
theorem QW.of {z : Nat} {n : Int} (h : n.natAbs < 2 ^ z) (hz : 0 < z) : QW z ((n : Int) : Rat) :=
 ⟨⟨by simpa using h,by
  show ((n : Int) : Rat).den < 2 ^ z
  rw [Rat.den_intCast]
  exact Nat.one_lt_two_pow (by omega)⟩,Rat.den_intCast n⟩
theorem QW.mono {k l : Nat} {x : Rat} (h : QW k x) (hk : k≤l) : QW l x := ⟨h.qs.mono hk,h.wh⟩
theorem Ys {a b x y : Nat} (h1 : a < 2 ^ x) (h2 : b < 2 ^ y) : a+b < 2 ^ (Nat.max x y+1) := by
 have e1 : 2 ^ x≤2 ^ Nat.max x y := Nat.pow_le_pow_right (by decide) (Nat.le_max_left x y)
 have e2 : 2 ^ y≤2 ^ Nat.max x y := Nat.pow_le_pow_right (by decide) (Nat.le_max_right x y)
 rw [Nat.pow_succ]
 omega
theorem QW.add {x y : Nat} {a b : Rat} (h1 : QW x a) (h2 : QW y b) : QW (Nat.max x y+1) (a+b) := by
 rw [whole h1.wh,whole h2.wh,← Rat.intCast_add]
 refine QW.of ?_ (by omega)
 have := Ys h1.qs.num h2.qs.num
 omega
theorem QW.sub {x y : Nat} {a b : Rat} (h1 : QW x a) (h2 : QW y b) : QW (Nat.max x y+1) (a - b) := by
 rw [whole h1.wh,whole h2.wh,← Rat.intCast_sub]
 refine QW.of ?_ (by omega)
 have := Ys h1.qs.num h2.qs.num
 omega
theorem QW.mul {x y : Nat} {a b : Rat} (h1 : QW x a) (h2 : QW y b) : QW (x+y) (a*b) := by
 refine ⟨h1.qs.mul h2.qs,?_⟩
 rw [whole h1.wh,whole h2.wh,← Rat.intCast_mul]
 exact Rat.den_intCast _
theorem QW.neg {x : Nat} {a : Rat} (h1 : QW x a) : QW x (-a) := ⟨h1.qs.neg,h1.wh⟩
theorem JQ : ∀ n : Nat,10 ^ n≤2 ^ ((10*n+2) / 3)
 | 0 => by decide
 | 1 => by decide
 | 2 => by decide
 | n+3 => by
  have h := JQ n
  have e : (10*(n+3)+2) / 3=(10*n+2) / 3+10 := by omega
  rw [e,Nat.pow_add,Nat.pow_add]
  exact Nat.mul_le_mul h (by decide)
theorem QS.rd3 (l : List UInt8) : QS ((10*l.length+2) / 3+5) (Cx.rd l) := by
 have key : ∀ {m : List UInt8},JY m=true→dv m < 2 ^ ((10*m.length+2) / 3) := fun {m} h => Nat.lt_of_lt_of_le (GZ (Xb h)) (JQ _)
 unfold Cx.rd
 split
 ·rename_i h
  rw [Bool.and_eq_true] at h
  have h1 := key h.1
  have h2 := key h.2
  have h3 := Pm (QU l)
  have h4 := TP (QU l)
  have h5 := Ix l
  apply QS.mkr
  ·rw [UD]; exact Nat.lt_of_lt_of_le h1 (Nat.pow_le_pow_right (by decide) (by omega))
  ·exact Nat.lt_of_lt_of_le h2 (Nat.pow_le_pow_right (by decide) (by omega))
 ·exact QS.zero.mono (by omega)
section
variable {N : List Nd} {Z : List Nat} {I : List Bool} {q : Nat→Rat}
end
end Go.Proofs.YtmdfngmjoaigjaaGreatDoor
/- VSA -/
namespace Go.Proofs.YtmdfngmjoaigjaaGreatDoor
open Go.RowKit Cx
def inB : Nat := 3495259
abbrev Atm := Nat × Nat
def XC (x : Atm) : List Atm→Option (List Atm)
 | [] => none
 | y :: l => bif Nat.beq x.1 y.1 && Nat.beq x.2 y.2 then some l else (XC x l).map (y :: ·)
def Ze : List Atm→List Atm→Option (List Atm)
 | l,[] => some l
 | l,x :: r => (XC x l).bind fun l' => Ze l' r
def Xu : List Atm→List Atm→List Atm
 | _,[] => []
 | U,x :: D => match XC x U with
  | some U' => Xu U' D
  | none => x :: Xu U D
def Xv (E : List (Nat × List Atm)) : List Nat→List Atm→List Atm
 | [],U => U
 | a :: l,U => Xv E l (match E[a]? with
  | some p => U ++ Xu U p.2
  | none => U)
def GP (E : List (Nat × List Atm)) (x : Atm) : Nat := match x.1 with
 | 0 => inB
 | 1 => (match E[x.2]? with
  | some p => p.1
  | none => 1)
 | _ => Nat.log2 x.2+1
def Jo (E : List (Nat × List Atm)) : List Atm→Nat
 | [] => 1
 | x :: l => GP E x+Jo E l
def JU (l : Option (List Atm)) : Bool := match l with
 | some [] => true
 | _ => false
def saN (E : List (Nat × List Atm)) (k z : Nat) (D : List Atm) (nd : Nd) : Bool := (Nat.blt 0 z && D.all fun x => !Nat.beq x.1 1 || Nat.blt x.2 k) && match nd.1,nd.2 with
 | 0,[_,n,d] => (Nat.blt n (2 ^ z) && Nat.blt 0 d) && JU (Ze D (bif Nat.beq d 1 then [] else [(2,d)]))
 | 1,[j] => Nat.ble inB z && JU (Ze D [(0,j)])
 | 2,[a,b] => (match E[a]?,E[b]? with
  | some p,some r => (match Ze D p.2,Ze D r.2 with
   | some c,some e => Nat.ble (Nat.max (p.1+Jo E c) (r.1+Jo E e)+1) z
   | _,_ => false)
  | _,_ => false)
 | 3,[a,b] => (match E[a]?,E[b]? with
  | some p,some r => (match Ze D p.2,Ze D r.2 with
   | some c,some e => Nat.ble (Nat.max (p.1+Jo E c) (r.1+Jo E e)+1) z
   | _,_ => false)
  | _,_ => false)
 | 4,[a,b] => (match E[a]?,E[b]? with
  | some p,some r => (match Ze D p.2 with
   | some c => JU (Ze c r.2) && Nat.ble (p.1+r.1) z
   | _ => false)
  | _,_ => false)
 | 5,[a] => (match E[a]? with
  | some p => JU (Ze D p.2) && Nat.ble p.1 z
  | _ => false)
 | 6,[a,b] => (match E[a]?,E[b]?,XC (1,b) D with
  | some p,some r,some D' => (match Ze p.2 D' with
   | some c => (match Ze r.2 c with
    | some e => Nat.ble (p.1+Jo E e) z
    | none => false)
   | none => false)
  | _,_,_ => false)
 | 7,_ => Nat.beq D.length 0
 | 8,i :: xs => Nat.beq D.length 0 && (xs.all (fun a => match E[a]? with
   | some p => (Ze (Xv E xs []) p.2).isSome
   | none => false) && (match xs[i]? with
   | some a => (match E[a]? with
    | some p => (match Ze (Xv E xs []) p.2 with
     | some e => Nat.ble (p.1+Jo E e) z
     | none => false)
    | none => false)
   | none => false))
 | _,_ => false
def saB (E : List (Nat × List Atm)) : Nat→List Nd→List (Nat × List Atm)→List Nat→Bool
 | _,[],[],[] => true
 | k,nd :: ns,p :: ps,z :: zs => (saN E k p.1 p.2 nd && (Nat.ble p.1 z && (Nat.ble (Jo E p.2) z && Nat.ble z 1000000000000))) && saB E (k+1) ns ps zs
 | _,_,_,_ => false
theorem Xj {E : List (Nat × List Atm)} : ∀ {ns : List Nd} {ps : List (Nat × List Atm)} {zs : List Nat} {k i : Nat} {nd : Nd},saB E k ns ps zs=true→ns[i]? = some nd→∃ p z,ps[i]? = some p∧zs[i]? = some z∧saN E (k+i) p.1 p.2 nd=true∧p.1≤z∧Jo E p.2≤z∧z≤1000000000000
 | [],_,_,_,_,_,_,h => by simp at h
 | _ :: _,[],_,_,_,_,h,_ => by cases h
 | _ :: _,_ :: _,[],_,_,_,h,_ => by cases h
 | nd' :: ns,p :: ps,z :: zs,k,0,nd,h,e => by
  have : nd'=nd := by simpa using e
  subst this
  unfold saB at h
  simp only [Bool.and_eq_true,Nat.ble_eq] at h
  exact ⟨p,z,rfl,rfl,h.1.1,h.1.2.1,h.1.2.2.1,h.1.2.2.2⟩
 | nd' :: ns,p :: ps,z :: zs,k,i+1,nd,h,e => by
  unfold saB at h
  rw [Bool.and_eq_true] at h
  obtain ⟨p',z',g1,g2,g3,g4⟩ := Xj (k := k+1) (i := i) h.2 (by simpa using e)
  exact ⟨p',z',by simpa using g1,by simpa using g2,by rw [show k+(i+1)=k+1+i by omega]; exact g3,g4⟩
theorem Yv {E : List (Nat × List Atm)} : ∀ {ns : List Nd} {ps : List (Nat × List Atm)} {zs : List Nat} {k : Nat},saB E k ns ps zs=true→ns.length=ps.length∧ns.length=zs.length
 | [],[],[],_,_ => ⟨rfl,rfl⟩
 | [],[],_ :: _,_,h => by cases h
 | [],_ :: _,_,_,h => by cases h
 | _ :: _,[],_,_,h => by cases h
 | _ :: _,_ :: _,[],_,h => by cases h
 | _ :: _,_ :: _,_ :: _,k,h => by
  unfold saB at h
  rw [Bool.and_eq_true] at h
  have := Yv h.2
  exact ⟨congrArg (· + 1) this.1,congrArg (· + 1) this.2⟩
def Jn (dn : Nat→Nat) (M : Nat→Rat) (x : Atm) : Rat := match x.1 with
 | 0 => ((dn x.2 : Nat) : Rat)
 | 1 => if M x.2=0 then 1 else M x.2
 | _ => if x.2=0 then 1 else ((x.2 : Nat) : Rat)
def Qr (dn : Nat→Nat) (M : Nat→Rat) : List Atm→Rat
 | [] => 1
 | x :: l => Jn dn M x*Qr dn M l
theorem Jj {dn : Nat→Nat} {M : Nat→Rat} {x : Atm} : ∀ {l c : List Atm},XC x l=some c→Qr dn M l=Jn dn M x*Qr dn M c
 | [],_,h => by cases h
 | y :: l,c,h => by
  unfold XC at h
  cases e : (Nat.beq x.1 y.1 && Nat.beq x.2 y.2) with
  | true =>
   rw [e] at h
   cases h
   rw [Bool.and_eq_true,Nat.beq_eq,Nat.beq_eq] at e
   have : x=y := Prod.ext e.1 e.2
   rw [this]
   rfl
  | false =>
   rw [e] at h
   simp only [cond_false,Option.map_eq_some_iff] at h
   obtain ⟨c',h1,rfl⟩ := h
   show Jn dn M y*Qr dn M l=Jn dn M x*(Jn dn M y*Qr dn M c')
   rw [Jj h1]
   grind
theorem Qv {dn : Nat→Nat} {M : Nat→Rat} : ∀ {r l c : List Atm},Ze l r=some c→Qr dn M l=Qr dn M r*Qr dn M c
 | [],l,c,h => by
  have : l=c := by simpa [Ze] using h
  rw [this]
  exact (Rat.one_mul _).symm
 | x :: r,l,c,h => by
  unfold Ze at h
  rw [Option.bind_eq_some_iff] at h
  obtain ⟨l',h1,h2⟩ := h
  rw [Jj h1,Qv h2]
  exact (Rat.mul_assoc _ _ _).symm
theorem Zq {l : Option (List Atm)} (h : JU l=true) : l=some [] := by
 unfold JU at h
 split at h
 ·rfl
 ·cases h
theorem QW.one {z : Nat} (h : 0 < z) : QW z 1 := ⟨⟨by
  show (1 : Int).natAbs < 2 ^ z
  exact Nat.one_lt_two_pow (by omega),by
  show 1 < 2 ^ z
  exact Nat.one_lt_two_pow (by omega)⟩,rfl⟩
theorem QW.zero {z : Nat} (h : 0 < z) : QW z 0 := ⟨⟨by
  show (0 : Int).natAbs < 2 ^ z
  exact Nat.two_pow_pos z,by
  show 1 < 2 ^ z
  exact Nat.one_lt_two_pow (by omega)⟩,rfl⟩
theorem QW.nat {z n : Nat} (h : n < 2 ^ z) (hz : 0 < z) : QW z ((n : Nat) : Rat) := by
 have : ((n : Nat) : Rat)=(((n : Nat) : Int) : Rat) := (Rat.intCast_natCast n).symm
 rw [this]
 exact QW.of (by simpa using h) hz
section
variable {E : List (Nat × List Atm)} {dn : Nat→Nat} {M : Nat→Rat} {k : Nat}
def Uq (E : List (Nat × List Atm)) (dn : Nat→Nat) (M : Nat→Rat) (q : Nat→Rat) (k : Nat) : Prop := ∀ a,a < k→∃ p,E[a]? = some p∧QW p.1 (M a)∧0 < p.1∧(∀ x ∈ p.2,x.1=1→x.2 < a)∧q a*Qr dn M p.2=M a
theorem WX {q : Nat→Rat} (hdn : ∀ j,0 < dn j∧dn j < 2 ^ inB) (hM : Uq E dn M q k) {x : Atm} (hx : x.1=1→x.2 < k) : QW (GP E x) (Jn dn M x)∧Jn dn M x ≠ 0 := by
 obtain ⟨i,j⟩ := x
 match i with
 | 0 =>
  show QW inB ((dn j : Nat) : Rat)∧((dn j : Nat) : Rat) ≠ 0
  refine ⟨QW.nat (hdn j).2 (by unfold inB; omega),fun h => ?_⟩
  have := (hdn j).1
  have h2 : dn j=0 := by exact_mod_cast h
  omega
 | 1 =>
  obtain ⟨p,h1,h2,h3,_⟩ := hM j (hx rfl)
  show QW (match E[j]? with
   | some p => p.1
   | none => 1) (if M j=0 then 1 else M j)∧(if M j=0 then 1 else M j) ≠ 0
  rw [h1]
  by_cases h : M j=0
  ·rw [if_pos h]
   exact ⟨QW.one h3,by decide⟩
  ·rw [if_neg h]
   exact ⟨h2,h⟩
 | i+2 =>
  show QW (Nat.log2 j+1) (if j=0 then 1 else ((j : Nat) : Rat))∧(if j=0 then 1 else ((j : Nat) : Rat)) ≠ 0
  by_cases h : j=0
  ·rw [if_pos h]
   exact ⟨QW.one (by omega),by decide⟩
  ·rw [if_neg h]
   refine ⟨QW.nat Nat.lt_log2_self (by omega),fun h2 => h ?_⟩
   exact_mod_cast h2
theorem Xd {q : Nat→Rat} (hdn : ∀ j,0 < dn j∧dn j < 2 ^ inB) (hM : Uq E dn M q k) : ∀ {l : List Atm},(∀ x ∈ l,x.1=1→x.2 < k)→QW (Jo E l) (Qr dn M l)∧Qr dn M l ≠ 0
 | [],_ => ⟨QW.one (show 0 < 1 by decide),by show (1 : Rat) ≠ 0; decide⟩
 | x :: l,h => by
  have h1 := WX hdn hM (h x List.mem_cons_self)
  have h2 := Xd hdn hM (l := l) fun y hy => h y (List.mem_cons_of_mem _ hy)
  exact ⟨h1.1.mul h2.1,ZH h1.2 h2.2⟩
theorem Jk {M' : Nat→Rat} : ∀ {l : List Atm},(∀ x ∈ l,x.1=1→M x.2=M' x.2)→Qr dn M l=Qr dn M' l
 | [],_ => rfl
 | x :: l,h => by
  show Jn dn M x*Qr dn M l=Jn dn M' x*Qr dn M' l
  rw [Jk (l := l) fun y hy => h y (List.mem_cons_of_mem _ hy)]
  have e : Jn dn M x=Jn dn M' x := by
   obtain ⟨i,j⟩ := x
   match i with
   | 0 => rfl
   | 1 =>
    have := h (1,j) List.mem_cons_self rfl
    show (if M j=0 then 1 else M j)=(if M' j=0 then 1 else M' j)
    rw [this]
   | i+2 => rfl
  rw [e]
theorem XD {x y : Atm} : ∀ {l c : List Atm},XC x l=some c→y ∈ c→y ∈ l
 | [],_,h,_ => by cases h
 | z :: l,c,h,hy => by
  unfold XC at h
  cases e : (Nat.beq x.1 z.1 && Nat.beq x.2 z.2) with
  | true => rw [e] at h; cases h; exact List.mem_cons_of_mem _ hy
  | false =>
   rw [e] at h
   simp only [cond_false,Option.map_eq_some_iff] at h
   obtain ⟨c',h1,rfl⟩ := h
   rcases List.mem_cons.1 hy with rfl | hy
   ·exact List.mem_cons_self
   ·exact List.mem_cons_of_mem _ (XD h1 hy)
theorem QX {y : Atm} : ∀ {r l c : List Atm},Ze l r=some c→y ∈ c→y ∈ l
 | [],l,c,h,hy => by
  have : l=c := by simpa [Ze] using h
  rw [this]; exact hy
 | x :: r,l,c,h,hy => by
  unfold Ze at h
  rw [Option.bind_eq_some_iff] at h
  obtain ⟨l',h1,h2⟩ := h
  exact XD h1 (QX h2 hy)
theorem Uy {n : Nat} (h : n ≠ 0) : ((n : Nat) : Rat) ≠ 0 := fun e => h (by exact_mod_cast e)
theorem Jb (x : Rat) : x*((x.den : Nat) : Rat)=((x.num : Int) : Rat) := by
 have e : x=((x.num : Int) : Rat) / ((x.den : Nat) : Rat) := by
  have := Rat.mkRat_self x
  rw [Rat.mkRat_eq_div] at this
  exact this.symm
 conv => lhs; lhs; rw [e]
 exact Rat.div_mul_cancel (Uy x.den_nz)
theorem YM {qs : List Rat} {m M : Nat} (hm : m ∣ M) (h : ∀ q ∈ qs,q.den ∣ M) : qs.foldl (fun m q => m*(q.den / Nat.gcd m q.den)) m ∣ M := by
 induction qs generalizing m with
 | nil => exact hm
 | cons q qs ih =>
  rw [List.foldl_cons]
  refine ih ?_ fun p hp => h p (List.mem_cons_of_mem _ hp)
  have e : m*(q.den / Nat.gcd m q.den)=Nat.lcm m q.den := by
   unfold Nat.lcm
   exact (Nat.mul_div_assoc _ (Nat.gcd_dvd_right _ _)).symm
  rw [e]
  exact Nat.lcm_dvd hm (h q List.mem_cons_self)
theorem Xf {x : Rat} {m : Int} (h : (x*((m : Int) : Rat)).den=1) : x.den ∣ m.natAbs := by
 have e := whole h
 generalize (x*((m : Int) : Rat)).num=n at e
 have h1 : x*((x.den : Nat) : Rat)=((x.num : Int) : Rat) := Jb x
 have h2 : ((x.num : Int) : Rat)*((m : Int) : Rat)=((n : Int) : Rat)*(((x.den : Nat) : Int) : Rat) := by
  rw [← h1,← e,Rat.intCast_natCast]
  grind
 have h3 : x.num*m=n*(x.den : Int) := by exact_mod_cast h2
 have h4 : (x.den : Int) ∣ x.num*m := ⟨n,by rw [h3,Int.mul_comm]⟩
 have h5 : x.den ∣ x.num.natAbs*m.natAbs := by
  have := Int.natAbs_dvd_natAbs.2 h4
  rwa [Int.natAbs_mul,Int.natAbs_natCast] at this
 exact (Nat.Coprime.symm x.reduced).dvd_of_dvd_mul_left h5
theorem YI {qs : List Rat} {x : Rat} {z : Nat} {m : Int} (hx : x ∈ qs) (hm : m ≠ 0) (hall : ∀ y ∈ qs,(y*((m : Int) : Rat)).den=1) (hz : QW z (x*((m : Int) : Rat))) : QW z (x*fac qs) := by
 have hl : lD qs ∣ m.natAbs := YM (Nat.one_dvd _) fun y hy => Xf (hall y hy)
 have hd := TW hx
 have hpos : 0 < m.natAbs := Int.natAbs_pos.2 hm
 have hle : lD qs≤m.natAbs := Nat.le_of_dvd hpos hl
 have hn : (x*fac qs).num.natAbs≤(x*((m : Int) : Rat)).num.natAbs := by
  rw [TJ hx]
  have e := whole hz.wh
  generalize (x*((m : Int) : Rat)).num=n at e
  have h1 : x*((x.den : Nat) : Rat)=((x.num : Int) : Rat) := Jb x
  have h2 : ((x.num : Int) : Rat)*((m : Int) : Rat)=((n : Int) : Rat)*(((x.den : Nat) : Int) : Rat) := by
   rw [← h1,← e,Rat.intCast_natCast]
   grind
  have h3 : x.num*m=n*(x.den : Int) := by exact_mod_cast h2
  have h4 : x.num.natAbs*m.natAbs=n.natAbs*x.den := by
   have := congrArg Int.natAbs h3
   rwa [Int.natAbs_mul,Int.natAbs_mul,Int.natAbs_natCast] at this
  obtain ⟨c,hc⟩ := Xf (x := x) (m := m) (hall x hx)
  have h5 : n.natAbs=x.num.natAbs*c := by
   rw [hc] at h4
   refine Nat.eq_of_mul_eq_mul_right x.den_pos ?_
   rw [← h4]
   rw [Nat.mul_assoc,Nat.mul_comm c]
  show x.num.natAbs / gN qs*(lD qs / x.den)≤n.natAbs
  rw [h5]
  refine Nat.mul_le_mul (Nat.div_le_self _ _) ?_
  have : lD qs / x.den≤m.natAbs / x.den := Nat.div_le_div_right hle
  rw [hc,Nat.mul_div_cancel_left _ x.den_pos] at this
  exact this
 refine ⟨⟨Nat.lt_of_le_of_lt hn hz.qs.num,?_⟩,hd⟩
 rw [hd]
 have := hz.qs.den
 rw [hz.wh] at this
 exact this
theorem ZR {y : Atm} : ∀ {D U : List Atm},y ∈ Xu U D→y ∈ D
 | [],_,h => by cases h
 | x :: D,U,h => by
  unfold Xu at h
  split at h
  ·exact List.mem_cons_of_mem _ (ZR h)
  ·rcases List.mem_cons.1 h with rfl | h
   ·exact List.mem_cons_self
   ·exact List.mem_cons_of_mem _ (ZR h)
theorem Xz {q : Nat→Rat} (hM : Uq E dn M q k) : ∀ {l : List Nat} {U : List Atm},(∀ c ∈ l,c < k)→(∀ x ∈ U,x.1=1→x.2 < k)→∀ x ∈ Xv E l U,x.1=1→x.2 < k
 | [],_,_,hU => hU
 | a :: l,U,hl,hU => by
  unfold Xv
  refine Xz hM (fun c hc => hl c (List.mem_cons_of_mem _ hc)) ?_
  have ha := hl a List.mem_cons_self
  obtain ⟨p,h1,_,_,h4,_⟩ := hM a ha
  rw [h1]
  intro x hx h
  rcases List.mem_append.1 hx with hx | hx
  ·exact hU x hx h
  ·exact Nat.lt_trans (h4 x (ZR hx) h) ha
theorem Oc {q : Nat→Rat} {σ : Nat→ByteArray} (hσ : ∀ j,(σ j).size≤1048576) (hdn : ∀ j,dn j=(Cx.rd (σ j).data.toList).den) (hM : Uq E dn M q k) {z : Nat} {D : List Atm} {nd : Nd} (hwf : wfN k nd=true) (hs : saN E k z D nd=true) : QW z (Zr σ q nd*Qr dn M D)∧0 < z∧∀ x ∈ D,x.1=1→x.2 < k := by
 have hdn' : ∀ j,0 < dn j∧dn j < 2 ^ inB := fun j => by
  rw [hdn j]
  refine ⟨Rat.den_pos _,Nat.lt_of_lt_of_le (QS.rd3 _).den (Nat.pow_le_pow_right (by decide) ?_)⟩
  have := hσ j
  rw [QP]
  unfold inB
  omega
 obtain ⟨op,xs⟩ := nd
 unfold saN at hs
 rw [Bool.and_eq_true,Bool.and_eq_true] at hs
 obtain ⟨⟨hz0,hD⟩,hs⟩ := hs
 have hz : 0 < z := by simpa [Nat.blt_eq] using hz0
 have hD' : ∀ x ∈ D,x.1=1→x.2 < k := fun x hx h1 => by
  rw [List.all_eq_true] at hD
  have := hD x hx
  rw [h1] at this
  simpa [Nat.blt_eq] using this
 refine ⟨?_,hz,hD'⟩
 have hlow : ∀ {a : Nat} {p : Nat × List Atm},a < k→E[a]? = some p→QW p.1 (M a)∧(∀ x ∈ p.2,x.1=1→x.2 < k)∧q a*Qr dn M p.2=M a := fun {a p} ha hp => by
  obtain ⟨p',h1,h2,_,h4,h5⟩ := hM a ha
  rw [hp] at h1
  cases h1
  exact ⟨h2,fun x hx h => Nat.lt_trans (h4 x hx h) ha,h5⟩
 have hpr : ∀ {l : List Atm},(∀ x ∈ l,x.1=1→x.2 < k)→QW (Jo E l) (Qr dn M l)∧Qr dn M l ≠ 0 := fun h => Xd hdn' hM h
 unfold wfN at hwf
 unfold Zr
 dsimp only at hs hwf ⊢
 split at hs
 ·rename_i s n d
  simp only [Bool.and_eq_true] at hs
  obtain ⟨⟨h1,h2⟩,h3⟩ := hs
  have h1' : n < 2 ^ z := by simpa [Nat.blt_eq] using h1
  have h2' : d ≠ 0 := by
   have : 0 < d := by simpa [Nat.blt_eq] using h2
   omega
  have hp : Qr dn M D=((d : Nat) : Rat) := by
   have := Qv (dn := dn) (M := M) (Zq h3)
   rw [this]
   cases e : Nat.beq d 1 with
   | true =>
    rw [Nat.beq_eq] at e
    rw [e]
    show (1 : Rat)*1=((1 : Nat) : Rat)
    rw [Rat.mul_one]
    exact_mod_cast rfl
   | false =>
    show (if d=0 then (1 : Rat) else ((d : Nat) : Rat))*1*1=_
    rw [if_neg h2',Rat.mul_one,Rat.mul_one]
  show QW z ((if s=0 then mkRat (n : Int) d else mkRat (-(n : Int)) d)*Qr dn M D)
  rw [hp]
  have key : ∀ m : Int,m.natAbs < 2 ^ z→QW z (mkRat m d*((d : Nat) : Rat)) := fun m hm => by
   rw [Rat.mkRat_eq_div,Rat.div_mul_cancel (Uy h2')]
   exact QW.of hm hz
  by_cases hs0 : s=0
  ·rw [if_pos hs0]
   exact key _ (by simpa using h1')
  ·rw [if_neg hs0]
   exact key _ (by simpa using h1')
 ·rename_i j
  simp only [Bool.and_eq_true,Nat.ble_eq] at hs
  have hp : Qr dn M D=(((Cx.rd (σ j).data.toList).den : Nat) : Rat) := by
   rw [Qv (dn := dn) (M := M) (Zq hs.2)]
   show ((dn j : Nat) : Rat)*1*1=_
   rw [Rat.mul_one,Rat.mul_one,hdn j]
  show QW z (Cx.rd (σ j).data.toList*Qr dn M D)
  rw [hp,Jb]
  refine QW.of (Nat.lt_of_lt_of_le (QS.rd3 _).num (Nat.pow_le_pow_right (by decide) ?_)) hz
  have := hσ j
  have := hs.1
  unfold inB at this
  rw [QP]
  omega
 ·simp only [List.all_cons,List.all_nil,Bool.and_true,Bool.and_eq_true] at hwf
  rename_i a b
  have l1 : a < k := by simpa [Nat.blt_eq] using hwf.1
  have l2 : b < k := by simpa [Nat.blt_eq] using hwf.2
  split at hs
  ·rename_i p r hp hr
   split at hs
   ·rename_i c e hc he
    rw [Nat.ble_eq] at hs
    obtain ⟨a1,a2,a3⟩ := hlow l1 hp
    obtain ⟨b1,b2,b3⟩ := hlow l2 hr
    have hc' := hpr (l := c) fun x hx => hD' x (QX hc hx)
    have he' := hpr (l := e) fun x hx => hD' x (QX he hx)
    have e1 : (q a+q b)*Qr dn M D=M a*Qr dn M c+M b*Qr dn M e := by
     rw [Rat.add_mul]
     congr 1
     ·rw [Qv hc,← Rat.mul_assoc,a3]
     ·rw [Qv he,← Rat.mul_assoc,b3]
    show QW z ((q a+q b)*Qr dn M D)
    rw [e1]
    exact ((a1.mul hc'.1).add (b1.mul he'.1)).mono hs
   ·cases hs
  ·cases hs
 ·simp only [List.all_cons,List.all_nil,Bool.and_true,Bool.and_eq_true] at hwf
  rename_i a b
  have l1 : a < k := by simpa [Nat.blt_eq] using hwf.1
  have l2 : b < k := by simpa [Nat.blt_eq] using hwf.2
  split at hs
  ·rename_i p r hp hr
   split at hs
   ·rename_i c e hc he
    rw [Nat.ble_eq] at hs
    obtain ⟨a1,a2,a3⟩ := hlow l1 hp
    obtain ⟨b1,b2,b3⟩ := hlow l2 hr
    have hc' := hpr (l := c) fun x hx => hD' x (QX hc hx)
    have he' := hpr (l := e) fun x hx => hD' x (QX he hx)
    have e1 : (q a - q b)*Qr dn M D=M a*Qr dn M c - M b*Qr dn M e := by
     rw [show (q a - q b)*Qr dn M D=q a*Qr dn M D - q b*Qr dn M D by grind]
     congr 1
     ·rw [Qv hc,← Rat.mul_assoc,a3]
     ·rw [Qv he,← Rat.mul_assoc,b3]
    show QW z ((q a - q b)*Qr dn M D)
    rw [e1]
    exact ((a1.mul hc'.1).sub (b1.mul he'.1)).mono hs
   ·cases hs
  ·cases hs
 ·simp only [List.all_cons,List.all_nil,Bool.and_true,Bool.and_eq_true] at hwf
  rename_i a b
  have l1 : a < k := by simpa [Nat.blt_eq] using hwf.1
  have l2 : b < k := by simpa [Nat.blt_eq] using hwf.2
  split at hs
  ·rename_i p r hp hr
   split at hs
   ·rename_i c hc
    rw [Bool.and_eq_true,Nat.ble_eq] at hs
    obtain ⟨a1,a2,a3⟩ := hlow l1 hp
    obtain ⟨b1,b2,b3⟩ := hlow l2 hr
    have e1 : q a*q b*Qr dn M D=M a*M b := by
     rw [Qv hc,Qv (Zq hs.1),← a3,← b3]
     show q a*q b*(Qr dn M p.2*(Qr dn M r.2*1))=_
     grind
    show QW z (q a*q b*Qr dn M D)
    rw [e1]
    exact (a1.mul b1).mono hs.2
   ·cases hs
  ·cases hs
 ·simp only [List.all_cons,List.all_nil,Bool.and_true] at hwf
  rename_i a
  have l1 : a < k := by simpa [Nat.blt_eq] using hwf
  split at hs
  ·rename_i p hp
   rw [Bool.and_eq_true,Nat.ble_eq] at hs
   obtain ⟨a1,a2,a3⟩ := hlow l1 hp
   have e1 : -q a*Qr dn M D=-M a := by
    rw [Qv (Zq hs.1),← a3]
    show -q a*(Qr dn M p.2*1)=_
    grind
   show QW z (-q a*Qr dn M D)
   rw [e1]
   exact a1.neg.mono hs.2
  ·cases hs
 ·simp only [List.all_cons,List.all_nil,Bool.and_true,Bool.and_eq_true] at hwf
  rename_i a b
  have l1 : a < k := by simpa [Nat.blt_eq] using hwf.1
  have l2 : b < k := by simpa [Nat.blt_eq] using hwf.2
  split at hs
  ·rename_i p r D' hp hr hD1
   split at hs
   ·rename_i c hc
    split at hs
    ·rename_i e he
     rw [Nat.ble_eq] at hs
     obtain ⟨a1,a2,a3⟩ := hlow l1 hp
     obtain ⟨b1,b2,b3⟩ := hlow l2 hr
     have he' := hpr (l := e) fun x hx => b2 x (QX he hx)
     by_cases h0 : M b=0
     ·have hb : q b=0 := by
       rw [h0] at b3
       exact (Rat.mul_eq_zero.1 b3).resolve_right (hpr b2).2
      show QW z (q a / q b*Qr dn M D)
      rw [hb,Rat.div_def,Rat.inv_zero,Rat.mul_zero,Rat.zero_mul]
      exact QW.zero hz
     ·have hb : q b ≠ 0 := fun h => h0 (by rw [← b3,h,Rat.zero_mul])
      have e1 : q a / q b*Qr dn M D=M a*Qr dn M e := by
       have e2 : Qr dn M D=M b*Qr dn M D' := by
        rw [Jj hD1]
        show (if M b=0 then (1 : Rat) else M b)*_=_
        rw [if_neg h0]
       have e3 : q a / q b*q b=q a := Rat.div_mul_cancel hb
       rw [e2,← a3,← b3,Qv hc,Qv he]
       generalize q a / q b=t at e3
       rw [← e3]
       grind
      show QW z (q a / q b*Qr dn M D)
      rw [e1]
      exact (a1.mul he'.1).mono hs
    ·cases hs
   ·cases hs
  ·cases hs
 ·have hD0 : D=[] := by
   rw [Nat.beq_eq] at hs
   exact List.length_eq_zero_iff.1 hs
  rw [hD0]
  have hv : Zr σ q (7,xs)=0 ∨ Zr σ q (7,xs)=1 := by
   unfold Zr
   dsimp only
   split
   all_goals first | (split; exact Or.inl rfl; exact Or.inr rfl) | exact Or.inl rfl | (rename_i h; cases h)
  show QW z (Zr σ q (7,xs)*1)
  rw [Rat.mul_one]
  rcases hv with h | h
  ·rw [h]
   exact QW.zero hz
  ·rw [h]
   exact QW.one hz
 ·rename_i i ys
  rw [Bool.and_eq_true,Bool.and_eq_true,List.all_eq_true] at hs
  obtain ⟨h1,h2,h3⟩ := hs
  have hD0 : D=[] := by
   rw [Nat.beq_eq] at h1
   exact List.length_eq_zero_iff.1 h1
  have hwf' : ys.all (Nat.blt · k)=true := hwf
  rw [List.all_eq_true] at hwf'
  have hlt : ∀ c ∈ ys,c < k := fun c hc => by simpa [Nat.blt_eq] using hwf' c hc
  split at h3
  ·rename_i a ha
   split at h3
   ·rename_i p hp
    split at h3
    ·rename_i e he
     rw [Nat.ble_eq] at h3
     obtain ⟨hi,ha'⟩ := List.getElem?_eq_some_iff.1 ha
     have hmem : a ∈ ys := List.mem_of_getElem? ha
     have hg : (ys.map q).getD i 0=q a := by
      rw [List.getD_eq_getElem?_getD,List.getElem?_map,ha]
      rfl
     show QW z ((ys.map q).getD i 0*fac (ys.map q)*Qr dn M D)
     rw [hg,hD0]
     show QW z (q a*fac (ys.map q)*1)
     rw [Rat.mul_one]
     -- what makes all of them whole
     have hU : ∀ x ∈ Xv E ys [],x.1=1→x.2 < k := Xz hM hlt (fun x hx => by cases hx)
     have hUp := hpr hU
     have hw := whole hUp.1.wh
     generalize hm : (Qr dn M (Xv E ys [])).num=m at hw
     have hm0 : m ≠ 0 := fun h => hUp.2 (by rw [hw,h]; rfl)
     have hall : ∀ y ∈ ys.map q,(y*((m : Int) : Rat)).den=1 := fun y hy => by
      obtain ⟨c,hc,rfl⟩ := List.mem_map.1 hy
      have h4 := h2 c hc
      split at h4
      ·rename_i r hr
       obtain ⟨c1,c2,c3⟩ := hlow (hlt c hc) hr
       cases hs2 : Ze (Xv E ys []) r.2 with
       | none => rw [hs2] at h4; cases h4
       | some f =>
        have hf := hpr (l := f) fun x hx => hU x (QX hs2 hx)
        rw [← hw,Qv hs2,← Rat.mul_assoc,c3]
        exact (c1.mul hf.1).wh
      ·cases h4
     obtain ⟨a1,a2,a3⟩ := hlow (hlt a hmem) hp
     have he' := hpr (l := e) fun x hx => hU x (QX he hx)
     refine YI (List.mem_map_of_mem hmem) hm0 hall ?_
     rw [← hw,Qv he,← Rat.mul_assoc,a3]
     exact (a1.mul he'.1).mono h3
    ·cases h3
   ·cases h3
  ·cases h3
 ·cases hs
end
theorem Og {x m p : Rat} {z y K : Nat} (hm : QW z m) (hp : QW y p) (h0 : p ≠ 0) (e : x*p=m) (hz : z≤K) (hy : y≤K) : QS K x := by
 have hw := whole hp.wh
 generalize p.num=P at hw
 have hP : P ≠ 0 := fun h => h0 (by rw [hw,h]; rfl)
 have hpos : 0 < P.natAbs := Int.natAbs_pos.2 hP
 have hd : x.den ∣ P.natAbs := Xf (x := x) (m := P) (by rw [← hw,e]; exact hm.wh)
 have hdle : x.den≤P.natAbs := Nat.le_of_dvd hpos hd
 have hPlt : P.natAbs < 2 ^ y := by
  have := hp.qs.num
  rw [hw,Rat.num_intCast] at this
  exact this
 have hmw := whole hm.wh
 have hmlt := hm.qs.num
 generalize m.num=n at hmw hmlt
 have h1 : x*((x.den : Nat) : Rat)=((x.num : Int) : Rat) := Jb x
 have h2 : ((x.num : Int) : Rat)*((P : Int) : Rat)=((n : Int) : Rat)*(((x.den : Nat) : Int) : Rat) := by
  rw [← h1,← hw,← hmw,← e,Rat.intCast_natCast]
  grind
 have h3 : x.num*P=n*(x.den : Int) := by exact_mod_cast h2
 have h4 : x.num.natAbs*P.natAbs=n.natAbs*x.den := by
  have := congrArg Int.natAbs h3
  rwa [Int.natAbs_mul,Int.natAbs_mul,Int.natAbs_natCast] at this
 have h5 : x.num.natAbs≤n.natAbs := by
  refine Nat.le_of_mul_le_mul_right (c := P.natAbs) ?_ hpos
  rw [h4]
  exact Nat.mul_le_mul_left _ hdle
 exact ⟨Nat.lt_of_lt_of_le (Nat.lt_of_le_of_lt h5 hmlt) (Nat.pow_le_pow_right (by decide) hz),Nat.lt_of_lt_of_le (Nat.lt_of_le_of_lt hdle hPlt) (Nat.pow_le_pow_right (by decide) hy)⟩
section
variable {N : List Nd} {Z : List Nat} {E : List (Nat × List Atm)} {q : Nat→Rat}
theorem JW {σ : Nat→ByteArray} (hσ : ∀ j,(σ j).size≤1048576) (hw : wfB 0 N=true) (hz : saB E 0 N E Z=true) (hq : ∀ (a : Nat) nd,N[a]? = some nd→q a=Zr σ q nd) (h0 : ∀ a,N.length≤a→q a=0) : (∀ (a : Nat) z,Z[a]? = some z→QS z (q a))∧∀ a,QS 1000000000000 (q a) := by
 have hl := Yv hz
 have key : ∀ k,k≤N.length→∃ M,Uq E (fun j => (Cx.rd (σ j).data.toList).den) M q k := by
  intro k
  induction k with
  | zero => exact fun _ => ⟨fun _ => 0,fun a ha => by omega⟩
  | succ k ih =>
   intro hk
   obtain ⟨M,hM⟩ := ih (by omega)
   have hn : N[k]? = some N[k] := List.getElem?_eq_getElem (by omega)
   obtain ⟨p,z,h1,_,h3,_⟩ := Xj hz hn
   rw [Nat.zero_add] at h3
   have hwf := OI hw hn
   rw [Nat.zero_add] at hwf
   obtain ⟨g1,g2,g3⟩ := Oc hσ (fun _ => rfl) hM hwf h3
   rw [← hq k _ hn] at g1
   refine ⟨fun x => if x=k then q k*Qr (fun j => (Cx.rd (σ j).data.toList).den) M p.2 else M x,fun a ha => ?_⟩
   have same : ∀ {l : List Atm},(∀ x ∈ l,x.1=1→x.2 < k)→Qr (fun j => (Cx.rd (σ j).data.toList).den) (fun x => if x=k then q k*Qr (fun j => (Cx.rd (σ j).data.toList).den) M p.2 else M x) l=Qr (fun j => (Cx.rd (σ j).data.toList).den) M l := fun hl => (Jk fun x hx h => by
    have := hl x hx h
    rw [if_neg (by omega)]).symm
   by_cases e : a=k
   ·subst e
    refine ⟨p,h1,?_,g2,g3,?_⟩
    ·show QW p.1 (if a=a then _ else _)
     rw [if_pos rfl]
     exact g1
    ·rw [same g3]
     show _=(if a=a then _ else _)
     rw [if_pos rfl]
   ·obtain ⟨p',f1,f2,f3,f4,f5⟩ := hM a (by omega)
    refine ⟨p',f1,?_,f3,f4,?_⟩
    ·show QW p'.1 (if a=k then _ else M a)
     rw [if_neg e]
     exact f2
    ·rw [same fun x hx h => by have := f4 x hx h; omega]
     show _=(if a=k then _ else M a)
     rw [if_neg e]
     exact f5
 obtain ⟨M,hM⟩ := key N.length (Nat.le_refl _)
 have hdn : ∀ j,0 < (Cx.rd (σ j).data.toList).den∧(Cx.rd (σ j).data.toList).den < 2 ^ inB := fun j => by
  refine ⟨Rat.den_pos _,Nat.lt_of_lt_of_le (QS.rd3 _).den (Nat.pow_le_pow_right (by decide) ?_)⟩
  have := hσ j
  rw [QP]
  unfold inB
  omega
 have h2 : ∀ (a : Nat) z,Z[a]? = some z→QS z (q a)∧z≤1000000000000 := by
  intro a z ha
  have hlt : a < N.length := by
   have := (List.getElem?_eq_some_iff.1 ha).1
   omega
  have hn : N[a]? = some N[a] := List.getElem?_eq_getElem hlt
  obtain ⟨p,z',h1,h2,_,h4,h5,h6⟩ := Xj hz hn
  rw [ha] at h2
  cases h2
  obtain ⟨p',f1,f2,f3,f4,f5⟩ := hM a hlt
  rw [h1] at f1
  cases f1
  have hp := Xd hdn hM (l := p.2) fun x hx h => Nat.lt_trans (f4 x hx h) hlt
  exact ⟨Og f2 hp.1 hp.2 f5 h4 h5,h6⟩
 refine ⟨fun a z h => (h2 a z h).1,fun a => ?_⟩
 by_cases ha : a < Z.length
 ·have := h2 a _ (List.getElem?_eq_getElem ha)
  exact this.1.mono this.2
 ·rw [h0 a (by omega)]
  exact QS.zero.mono (by decide)
theorem Vt {L C : List (List Nat × Nat)} {σ : Nat→ByteArray} {H : List (Nat × Nat × Nat × Nat)} (hσ : ∀ j,(σ j).size≤1048576) (hw : wfB 0 N=true) (hz : saB E 0 N E Z=true) (hl : KZ N L=true) (hcn : Gb N C=true) (hq : ∀ (a : Nat) nd,N[a]? = some nd→q a=Zr σ q nd) (h0 : ∀ a,N.length≤a→q a=0) (hH : Xs q H) : Hy N H L C Z q σ where
 nat := hq
 qs := (JW hσ hw hz hq h0).2
 zs := (JW hσ hw hz hq h0).1
 par := hσ
 lit := fun s b h => Pv hl hq h
 k0 := fun a r h => ZT hH h
 k1 := fun a r h => ZT hH h
 k2 := fun a r h => ZT hH h
 k3 := fun a b r h => ZT hH h
 k4 := fun l a b r h1 h2 => by
  have h3 : Nat.beq 1 r=true ↔ q a=q b := ZT hH h2
  rw [h3,← Pr hcn hq h1]
  exact ⟨fun e => by rw [e],fun e => Wb (YD e)⟩
 k6 := fun a b r h => ZT hH h
 k5 := fun a r h => ZT hH h
end
end Go.Proofs.YtmdfngmjoaigjaaGreatDoor
/- CFspun -/
namespace Go.Proofs.YtmdfngmjoaigjaaGreatDoor
open Go.RowKit Cx
theorem ZK : Closed 11 :=
 Wq (N := [(0,[0,1,1]),(0,[0,0,1]),(8,[0,0,1,1,0]),(8,[1,0,1,1,0]),(8,[2,0,1,1,0]),(8,[3,0,1,1,0]),(3,[1,3]),(3,[1,4]),(3,[1,5]),(4,[2,2]),(4,[3,3]),(2,[1,10]),(4,[4,4]),(2,[11,12]),(4,[5,5]),(2,[13,14]),(2,[9,15]),(4,[2,1]),(4,[3,0]),(2,[1,18]),(4,[4,1]),(2,[19,20]),(4,[5,1]),(2,[21,22]),(3,[17,23]),(4,[0,2]),(4,[1,2]),(4,[3,1]),(2,[25,27]),(2,[26,20]),(2,[26,22]),(3,[20,22]),(4,[5,0]),(3,[32,27]),(4,[4,0]),(3,[27,34]),(2,[28,31]),(2,[29,33]),(2,[30,35]),(4,[24,2]),(4,[36,6]),(2,[1,40]),(4,[37,7]),(2,[41,42]),(4,[38,8]),(2,[43,44]),(3,[39,45]),(4,[6,24]),(4,[7,24]),(4,[8,24]),(4,[36,2]),(4,[37,2]),(4,[38,2]),(2,[47,50]),(2,[48,51]),(2,[49,52]),(4,[37,8]),(4,[38,7]),(3,[56,57]),(4,[38,6]),(4,[36,8]),(3,[59,60]),(4,[36,7]),(4,[37,6]),(3,[62,63]),(2,[53,58]),(2,[54,61]),(2,[55,64]),(6,[65,16]),(6,[66,16]),(6,[67,16]),(4,[0,0]),(2,[1,71]),(4,[1,1]),(2,[72,73]),(2,[74,73]),(3,[75,0]),(3,[0,1]),(6,[0,77]),(6,[1,77]),(4,[0,1]),(2,[1,80]),(4,[1,0]),(2,[81,82]),(2,[83,73]),(3,[73,84]),(2,[73,80]),(2,[80,73]),(2,[73,73]),(3,[73,82]),(3,[73,80]),(3,[71,73]),(2,[86,89]),(2,[87,90]),(2,[88,91])]) (H := [(0,16,0,0),(0,76,0,1),(0,77,0,0),(4,85,1,1),(4,92,1,1),(4,93,1,1),(4,94,0,1),(4,68,1,1),(4,69,0,1),(4,70,1,1),(4,78,0,1),(4,79,1,1)]) (K := [(105,[.inr (3,8,0,0,0),.inr (3,32,0,0,0),.inr (3,33,0,0,0)])]) (L := [([49],0),([48],1)]) (C := [([48],1),([49],0)]) (Z := [2,2,11,11,11,11,14,14,14,22,22,25,22,48,22,71,94,13,13,16,13,30,13,44,58,13,13,13,27,27,27,27,13,27,13,27,55,55,55,69,69,72,69,142,69,212,282,72,72,72,66,66,66,139,139,139,69,69,139,69,69,139,69,69,139,279,279,279,373,373,373,4,7,4,12,17,20,5,7,7,4,7,4,12,17,22,9,9,9,9,9,9,19,19,19]) (cl := []) 7 (fun _ h => by cases h) (by kernel_rfl) (by kernel_rfl) (by kernel_rfl) (by kernel_rfl) (by kernel_rfl) (by kernel_rfl) (by kernel_rfl)
end Go.Proofs.YtmdfngmjoaigjaaGreatDoor
/- PLY -/
namespace Go.Proofs.YtmdfngmjoaigjaaGreatDoor
open Go.RowKit Cx
abbrev Pol := List (Int × List Nat)
def eqM : List Nat→List Nat→Bool
 | [],[] => true
 | a :: m,b :: k => cond (Nat.beq a b) (eqM m k) false
 | _,_ => false
theorem Ow : ∀ {m k : List Nat},eqM m k=true→m=k
 | [],[],_ => rfl
 | a :: m,b :: k,h => by
  unfold eqM at h
  cases e : Nat.beq a b
  ·rw [e] at h; cases h
  ·rw [e] at h; rw [Nat.eq_of_beq_eq_true e,Ow (m := m) (k := k) h]
 | [],_ :: _,h => by cases h
 | _ :: _,[],h => by cases h
def Wa (a : Nat) : List Nat→List Nat
 | [] => [a]
 | b :: m => cond (Nat.ble a b) (a :: b :: m) (b :: Wa a m)
def YL (m k : List Nat) : List Nat := m.foldr Wa k
def isZ : Int→Bool
 | .ofNat n => Nat.beq n 0
 | .negSucc _ => false
theorem Ku {c : Int} (h : isZ c=true) : c=0 := by
 cases c with
 | ofNat n => rw [Nat.eq_of_beq_eq_true (n := n) (m := 0) h]; rfl
 | negSucc n => cases h
def Wd (c : Int) (m : List Nat) : Pol→Pol
 | [] => [(c,m)]
 | (d,k) :: p => cond (eqM m k) (cond (isZ (c+d)) p ((c+d,k) :: p)) ((d,k) :: Wd c m p)
def ZW (p r : Pol) : Pol := p.foldr (fun t s => Wd t.1 t.2 s) r
def JC (p : Pol) : Pol := p.map fun t => (-t.1,t.2)
def Rr (c : Int) (m : List Nat) (p : Pol) : Pol := p.map fun t => (c*t.1,YL m t.2)
def Yo (p r : Pol) : Pol := p.foldr (fun t s => ZW (Rr t.1 t.2 r) s) []
def WU : Pol→Bool
 | [] => true
 | _ => false
section
variable (q : Nat→Rat)
def evM : List Nat→Rat
 | [] => 1
 | a :: m => q a*evM m
def evP : Pol→Rat
 | [] => 0
 | t :: p => (t.1 : Rat)*evM q t.2+evP p
variable {q}
theorem UH (a : Nat) : ∀ m,evM q (Wa a m)=q a*evM q m
 | [] => rfl
 | b :: m => by
  unfold Wa
  cases Nat.ble a b
  ·show q b*evM q (Wa a m)=q a*(q b*evM q m)
   rw [UH a m]; grind
  ·rfl
theorem Yw : ∀ m k,evM q (YL m k)=evM q m*evM q k
 | [],k => (Rat.one_mul _).symm
 | a :: m,k => by
  show evM q (Wa a (YL m k))=q a*evM q m*evM q k
  rw [UH,Yw m k,Rat.mul_assoc]
theorem Uw (c : Int) (m : List Nat) : ∀ p,evP q (Wd c m p)=(c : Rat)*evM q m+evP q p
 | [] => rfl
 | (d,k) :: p => by
  unfold Wd
  cases e : eqM m k
  ·show (d : Rat)*evM q k+evP q (Wd c m p)=(c : Rat)*evM q m+((d : Rat)*evM q k+evP q p)
   rw [Uw c m p]; grind
  ·have e := Ow e
   subst e
   cases f : isZ (c+d)
   ·show ((c+d : Int) : Rat)*evM q m+evP q p=(c : Rat)*evM q m+((d : Rat)*evM q m+evP q p)
    rw [Rat.intCast_add]; grind
   ·show evP q p=(c : Rat)*evM q m+((d : Rat)*evM q m+evP q p)
    have g : (c : Rat)+(d : Rat)=0 := by rw [← Rat.intCast_add,Ku f]; rfl
    have : (c : Rat)*evM q m+((d : Rat)*evM q m+evP q p)=((c : Rat)+(d : Rat))*evM q m+evP q p := by grind
    rw [this,g,Rat.zero_mul,Rat.zero_add]
theorem Zu : ∀ p r,evP q (ZW p r)=evP q p+evP q r
 | [],r => (Rat.zero_add _).symm
 | t :: p,r => by
  show evP q (Wd t.1 t.2 (ZW p r))=(t.1 : Rat)*evM q t.2+evP q p+evP q r
  rw [Uw,Zu p r,Rat.add_assoc]
theorem ZB : ∀ p,evP q (JC p)=-evP q p
 | [] => rfl
 | t :: p => by
  show ((-t.1 : Int) : Rat)*evM q t.2+evP q (JC p)=-((t.1 : Rat)*evM q t.2+evP q p)
  rw [ZB p,Rat.intCast_neg]; grind
theorem Uj (c : Int) (m : List Nat) : ∀ p,evP q (Rr c m p)=(c : Rat)*evM q m*evP q p
 | [] => (Rat.mul_zero _).symm
 | t :: p => by
  show ((c*t.1 : Int) : Rat)*evM q (YL m t.2)+evP q (Rr c m p)=(c : Rat)*evM q m*((t.1 : Rat)*evM q t.2+evP q p)
  rw [Uj c m p,Yw,Rat.intCast_mul]; grind
theorem Jc : ∀ p r,evP q (Yo p r)=evP q p*evP q r
 | [],r => (Rat.zero_mul _).symm
 | t :: p,r => by
  show evP q (ZW (Rr t.1 t.2 r) (Yo p r))=((t.1 : Rat)*evM q t.2+evP q p)*evP q r
  rw [Zu,Uj,Jc p r,Rat.add_mul]
end
def nfN (N : List Nd) (stop : List Nat) : Nat→Nat→Pol
 | 0,a => [(1,[a])]
 | f+1,a => cond (stop.any (Nat.beq a)) [(1,[a])] (match N[a]? with
  | some (0,[0,n,1]) => cond (Nat.beq n 0) [] [((n : Int),[])]
  | some (0,[1,n,1]) => [(-(n : Int),[])]
  | some (2,[x,y]) => ZW (nfN N stop f x) (nfN N stop f y)
  | some (3,[x,y]) => ZW (nfN N stop f x) (JC (nfN N stop f y))
  | some (4,[x,y]) => Yo (nfN N stop f x) (nfN N stop f y)
  | some (5,[x]) => JC (nfN N stop f x)
  | _ => [(1,[a])])
inductive Ex where
 | z | o | t | f
 | v (a : Nat)
 | A (x y : Ex) | S (x y : Ex) | M (x y : Ex) | N (x : Ex)
def Ex.ev (q : Nat→Rat) : Ex→Rat
 | z => 0 | o => 1 | t => 2 | f => 4
 | v a => q a
 | A x y => x.ev q+y.ev q | S x y => x.ev q - y.ev q | M x y => x.ev q*y.ev q | N x => -x.ev q
def Ex.nf : Ex→Pol
 | z => [] | o => [(1,[])] | t => [(2,[])] | f => [(4,[])]
 | v a => [(1,[a])]
 | A x y => ZW x.nf y.nf | S x y => ZW x.nf (JC y.nf) | M x y => Yo x.nf y.nf | N x => JC x.nf
variable {q : Nat→Rat} {σ : Nat→ByteArray}
theorem atP (a : Nat) : evP q [(1,[a])]=q a := by
 show ((1 : Int) : Rat)*(q a*1)+0=q a
 rw [Rat.mul_one,Rat.add_zero]; exact Rat.one_mul _
theorem Ox (c : Int) : evP q [(c,[])]=(c : Rat) := by
 show (c : Rat)*1+0=_
 rw [Rat.mul_one,Rat.add_zero]
theorem Ex.nf_ok : ∀ e : Ex,evP q e.nf=e.ev q
 | z => rfl
 | o => Ox 1 | t => Ox 2 | f => Ox 4
 | v a => atP a
 | A x y => (Zu _ _).trans (by rw [nf_ok x,nf_ok y]; rfl)
 | S x y => (Zu _ _).trans (by rw [ZB,nf_ok x,nf_ok y]; exact (Rat.sub_eq_add_neg _ _).symm)
 | M x y => (Jc _ _).trans (by rw [nf_ok x,nf_ok y]; rfl)
 | N x => (ZB _).trans (by rw [nf_ok x]; rfl)
theorem Zm {N : List Nd} (H : ∀ (a : Nat) nd,N[a]? = some nd→q a=Zr σ q nd) (stop : List Nat) : ∀ f a,evP q (nfN N stop f a)=q a
 | 0,a => atP a
 | f+1,a => by
  unfold nfN
  cases stop.any (Nat.beq a)
  ·show evP q (match N[a]? with | some (0,[0,n,1]) => _ | some (0,[1,n,1]) => _ | some (2,[x,y]) => _ | some (3,[x,y]) => _ | some (4,[x,y]) => _ | some (5,[x]) => _ | _ => _)=q a
   split
   ·rename_i n e
    rw [H a _ e]
    show _=mkRat (n : Int) 1
    cases g : Nat.beq n 0
    ·exact (Ox (n : Int)).trans (Rat.mkRat_one _).symm
    ·rw [Nat.eq_of_beq_eq_true g]; rfl
   ·rename_i n e
    rw [H a _ e]
    exact (Ox (-(n : Int))).trans (Rat.mkRat_one _).symm
   ·rename_i x y e
    rw [H a _ e,Zu,Zm H stop f x,Zm H stop f y]; rfl
   ·rename_i x y e
    rw [H a _ e,Zu,ZB,Zm H stop f x,Zm H stop f y]; exact (Rat.sub_eq_add_neg _ _).symm
   ·rename_i x y e
    rw [H a _ e,Jc,Zm H stop f x,Zm H stop f y]; rfl
   ·rename_i x e
    rw [H a _ e,ZB,Zm H stop f x]; rfl
   ·exact atP a
  ·exact atP a
theorem Vm {p r : Pol} (h : WU (ZW p (JC r))=true) : evP q p=evP q r := by
 have e : evP q (ZW p (JC r))=0 := by
  cases k : ZW p (JC r) with
  | nil => rfl
  | cons t s => rw [k] at h; cases h
 rw [Zu,ZB] at e
 grind
theorem pol {N : List Nd} (H : ∀ (a : Nat) nd,N[a]? = some nd→q a=Zr σ q nd) (stop : List Nat) (f a : Nat) (e : Ex) (h : WU (ZW (nfN N stop f a) (JC e.nf))=true) : q a=e.ev q :=
 (Zm H stop f a).symm.trans ((Vm h).trans e.nf_ok)
def Yz (N : List Nd) (b : Nat) : Nat→Nat→Bool
 | 0,_ => false
 | f+1,a => match N[a]? with
  | some (6,[_,y]) => Nat.beq y b
  | some (2,[x,y]) => cond (Yz N b f x) true (Yz N b f y)
  | some (3,[x,y]) => cond (Yz N b f x) true (Yz N b f y)
  | some (4,[x,y]) => cond (Yz N b f x) true (Yz N b f y)
  | some (5,[x]) => Yz N b f x
  | _ => false
def dvN (N : List Nd) (stop : List Nat) (b : Nat) : Nat→Nat→Pol
 | 0,a => [(1,YL [a] [b])]
 | f+1,a => cond (Yz N b (f+1) a) (match N[a]? with
  | some (6,[x,y]) => cond (Nat.beq y b) (nfN N stop f x) [(1,YL [a] [b])]
  | some (2,[x,y]) => ZW (dvN N stop b f x) (dvN N stop b f y)
  | some (3,[x,y]) => ZW (dvN N stop b f x) (JC (dvN N stop b f y))
  | some (4,[x,y]) => cond (Yz N b f x) (Yo (dvN N stop b f x) (nfN N stop f y)) (Yo (nfN N stop f x) (dvN N stop b f y))
  | some (5,[x]) => JC (dvN N stop b f x)
  | _ => [(1,YL [a] [b])]) (Yo (nfN N stop (f+1) a) [(1,[b])])
theorem abP (a b : Nat) : evP q [(1,YL [a] [b])]=q a*q b := by
 show ((1 : Int) : Rat)*evM q (YL [a] [b])+0=_
 rw [Yw,Rat.add_zero]
 show (1 : Rat)*(q a*1*(q b*1))=_
 rw [Rat.one_mul,Rat.mul_one,Rat.mul_one]
theorem JN {N : List Nd} (H : ∀ (a : Nat) nd,N[a]? = some nd→q a=Zr σ q nd) (stop : List Nat) (b : Nat) (hb : ¬ (q b=0)) : ∀ f a,evP q (dvN N stop b f a)=q a*q b
 | 0,a => abP a b
 | f+1,a => by
  unfold dvN
  cases Yz N b (f+1) a
  ·show evP q (Yo (nfN N stop (f+1) a) [(1,[b])])=_
   rw [Jc,Zm H,atP]
  ·show evP q (match N[a]? with | some (6,[x,y]) => _ | some (2,[x,y]) => _ | some (3,[x,y]) => _ | some (4,[x,y]) => _ | some (5,[x]) => _ | _ => _)=_
   split
   ·rename_i x y e
    cases g : Nat.beq y b
    ·exact abP a b
    ·show evP q (nfN N stop f x)=_
     rw [Zm H,H a _ e,Nat.eq_of_beq_eq_true g]
     exact (Rat.div_mul_cancel hb).symm
   ·rename_i x y e
    rw [H a _ e,Zu,JN H stop b hb f x,JN H stop b hb f y]; exact (Rat.add_mul _ _ _).symm
   ·rename_i x y e
    rw [H a _ e,Zu,ZB,JN H stop b hb f x,JN H stop b hb f y]
    show q x*q b+-(q y*q b)=(q x - q y)*q b
    grind
   ·rename_i x y e
    rw [H a _ e]
    show _=q x*q y*q b
    cases Yz N b f x
    ·show evP q (Yo (nfN N stop f x) (dvN N stop b f y))=_
     rw [Jc,Zm H,JN H stop b hb f y,Rat.mul_assoc]
    ·show evP q (Yo (dvN N stop b f x) (nfN N stop f y))=_
     rw [Jc,Zm H,JN H stop b hb f x]; grind
   ·rename_i x e
    rw [H a _ e,ZB,JN H stop b hb f x]
    show -(q x*q b)=-q x*q b
    grind
   ·exact abP a b
theorem Zo {N : List Nd} (H : ∀ (a : Nat) nd,N[a]? = some nd→q a=Zr σ q nd) (stop : List Nat) (f a b : Nat) (e : Ex) (hb : ¬ (q b=0)) (h : WU (ZW (dvN N stop b f a) (JC e.nf))=true) : q a*q b=e.ev q :=
 (JN H stop b hb f a).symm.trans ((Vm h).trans e.nf_ok)
end Go.Proofs.YtmdfngmjoaigjaaGreatDoor
/- VPD -/
namespace Cx
open Go Go.RowKit
def RH : List A1→List A1→Bool
 | [],[] => true
 | (a,x) :: l,(b,y) :: m => (a == b && Iu x y) && RH l m
 | _,_ => false
theorem Us : ∀ {l m : List A1},RH l m=true→l=m
 | [],[],_ => rfl
 | (a,x) :: l,(b,y) :: m,h => by
  unfold RH at h
  simp only [Bool.and_eq_true,beq_iff_eq] at h
  obtain ⟨⟨h1,h2⟩,h3⟩ := h
  rw [h1,XZ h2,Us h3]
 | [],_ :: _,h => by cases h
 | _ :: _,[],h => by cases h
def UK : List AV→List AV→Bool
 | [],[] => true
 | (a,x) :: l,(b,y) :: m => (a == b && RH x y) && UK l m
 | _,_ => false
theorem XO : ∀ {l m : List AV},UK l m=true→l=m
 | [],[],_ => rfl
 | (a,x) :: l,(b,y) :: m,h => by
  unfold UK at h
  simp only [Bool.and_eq_true,beq_iff_eq] at h
  obtain ⟨⟨h1,h2⟩,h3⟩ := h
  rw [h1,Us h2,XO h3]
 | [],_ :: _,h => by cases h
 | _ :: _,[],h => by cases h
abbrev JP := List (FuncId × List AV × AV)
def Xi (f : FuncId) (args : List AV) : JP→Option AV
 | [] => none
 | (g,bs,v) :: m => bif Nat.beq f g && UK args bs then some v else Xi f args m
theorem JO {f : FuncId} {args : List AV} {v : AV} : ∀ {m : JP},Xi f args m=some v→(f,args,v) ∈ m
 | [],h => by cases h
 | (g,bs,u) :: m,h => by
  unfold Xi at h
  cases e : (Nat.beq f g && UK args bs) with
  | true =>
   rw [e] at h
   rw [Bool.and_eq_true,Nat.beq_eq] at e
   rw [e.1,XO e.2,show u=v from Option.some.inj h]
   exact List.mem_cons_self
  | false =>
   rw [e] at h
   exact List.mem_cons_of_mem _ (JO h)
def Xy : AC→Bool
 | .inl _ => true
 | .inr (k,_) => Nat.ble k 2
def YC (v : AV) : Bool := v.2.all fun x => x.2.all Xy
def Zp (S : Sx) (cs : List (FuncId × Nat)) (M : JP) : Nat→Hs→ZN
 | 0,_,_,_,_,_ => none
 | n+1,X,f,args,h,nx => match Xi f args M with
  | some v => some (v,h,nx)
  | none => match Wp f cs with
   | none => Zv (S.plus X) (Zp S cs M n X) f args h nx
   | some c => match YR S X h c args with
    | none => Zv (S.plus X) (Zp S cs M n X) f args h nx
    | some (l,r) => bif Nat.beq 1 r then Zv (S.plus (Ub l X)) (Zp S cs M n (Ub l X)) f args h nx
     else XK h nx ((Jd l X).map fun X' => JH (S.plus X') (Zv (S.plus X') (Zp S cs M n X') f args h nx))
def Xe (S : Sx) (E : Ev S.nb) (w0 : World) (M : JP) : Prop := ∀ f args v,(f,args,v) ∈ M→∀ (γ : Nat→Option Nat) (w : World) (vs : List Value),WI w0 γ w→A2 (avOn (cOn E S.K γ w)) args vs →
 Calls S.P f vs.toArray w fun e w' => ∃ r,e=.returned r∧(∀ wr nx,(∀ b ∈ wr,Ri γ b)→Ef S.nb w0 wr nx nx γ w γ w')∧avOn (cOn E S.K γ w') v r
section
variable {S : Sx} {E : Ev S.nb} {w0 : World}
theorem Wn {K K' : List (FuncId × List AC)} {γ γ' : Nat→Option Nat} {w : World} {d : Nat} {c : AC} {v : Value} (hc : Xy c=true) (h : QY E K γ w d c v) : QY E K' γ' w d c v := by
 cases c with
 | inl u =>
  unfold QY at h ⊢
  exact h
 | inr t =>
  obtain ⟨k,a,b,n,c⟩ := t
  have hk : k≤2 := by
   unfold Xy at hc
   rw [Nat.ble_eq] at hc
   exact hc
  match k,hk with
  | 0,_ =>
   unfold QY at h ⊢
   exact h
  | 1,_ =>
   unfold QY at h ⊢
   exact h
  | 2,_ =>
   unfold QY at h ⊢
   exact h
theorem XT {α : Type} {R R' : α→Value→Prop} {P : α→Prop} (h : ∀ a v,P a→R a v→R' a v) : ∀ {l : List α} {vs : List Value},(∀ a ∈ l,P a)→A2 R l vs→A2 R' l vs
 | [],[],_,_ => trivial
 | _ :: _,_ :: _,hp,q => ⟨h _ _ (hp _ List.mem_cons_self) q.1,XT h (fun a ha => hp a (List.mem_cons_of_mem _ ha)) q.2⟩
 | [],_ :: _,_,q => q.elim
 | _ :: _,[],_,q => q.elim
theorem Ww {K K' : List (FuncId × List AC)} {γ γ' : Nat→Option Nat} {w : World} {x : AV} {v : Value} (hx : YC x=true) (h : avOn (cOn E K γ w) x v) : avOn (cOn E K' γ' w) x v := by
 unfold YC at hx
 rw [List.all_eq_true] at hx
 have one : ∀ (y : A1) u,(∀ c ∈ y.2,Xy c=true)→a1On (cOn E K γ w) y u→a1On (cOn E K' γ' w) y u := fun y u hy q => by
  obtain ⟨b,cs⟩ := y
  cases b with
  | true =>
   obtain ⟨us,e,q⟩ := q
   exact ⟨us,e,XT (P := fun c => Xy c=true) (fun _ _ hc q => Wn hc q) hy q⟩
  | false => exact XT (P := fun c => Xy c=true) (fun _ _ hc q => Wn hc q) hy q
 have all : ∀ y ∈ x.2,∀ c ∈ y.2,Xy c=true := fun y hy c hc => (List.all_eq_true.1 (hx y hy)) c hc
 obtain ⟨b,ys⟩ := x
 cases b with
 | true =>
  obtain ⟨us,e,q⟩ := h
  exact ⟨us,e,XT (P := fun y : A1 => ∀ c ∈ y.2,Xy c=true) (fun y u hy q => one y u hy q) all q⟩
 | false => exact XT (P := fun y : A1 => ∀ c ∈ y.2,Xy c=true) (fun y u hy q => one y u hy q) all h
variable {T : Hs→Prop} {z : Nat→Prop}
theorem Wt {cs : List (FuncId × Nat)} {M : JP} (hm : S.P.follows .mixedOrders=true) (hM : Xe S E w0 M) (hN : ∀ X,T X→Knows (S.plus X) E) (hP : ∀ X,T X→JI (S.plus X) E w0) (hk : ZF S T z)
  (hs : ∀ X,T X→∀ l s r,sqN S l=some s→(S.plus X).kn 0 s 0=some r→(Nat.beq 1 r=true→∀ d ∈ l,z d)∧(Nat.beq 1 r=false→∃ d ∈ l,¬ z d)) : ∀ n X,T X→Zl S E w0 (Zp S cs M n X)
 | 0,_,_ => fun _ _ _ _ _ h => by cases h
 | n+1,X,hX => fun f args h nx p hp => by
  have body : ∀ Y,T Y→Zl S E w0 (Zv (S.plus Y) (Zp S cs M n Y)) := fun Y hY => Yi (S := S.plus Y) hm (hN Y hY) (hP Y hY) (Wt hm hM hN hP hk hs n Y hY)
  unfold Zp at hp
  split at hp
  ·rename_i v hv
   cases hp
   intro γ w vs hi hA hb hlt hf
   refine (hM f args v (JO hv) γ w vs hi hA).mono ?_
   rintro _ w' ⟨r,rfl,hef,hr⟩
   have live : ∀ b ∈ h.map (·.1),Ri γ b := fun b hb' => by
    obtain ⟨x,hx,rfl⟩ := List.mem_map.1 hb'
    obtain ⟨_,_,_,_,hl,_⟩ := hb x hx
    exact hl
   exact ⟨r,γ,rfl,hef _ _ live,hr,fun x hx => (hef [] nx Yu).box hi (hb x hx) (by simp)⟩
  ·split at hp
   ·exact body X hX f args h nx p hp
   ·split at hp
    ·exact body X hX f args h nx p hp
    rename_i l r hk'
    obtain ⟨hl,s,h1,h2⟩ := JZ hk'
    have h3 := hp
    obtain ⟨a1,a0⟩ := hs X hX _ s r h1 h2
    cases e : Nat.beq 1 r with
    | true =>
     rw [e] at h3
     exact body _ (ZV hk hX hl fun a ha => a1 e _ (List.mem_map_of_mem ha)) f args h nx p h3
    | false =>
     rw [e] at h3
     obtain ⟨d,hd,hz⟩ := a0 e
     obtain ⟨a,ha,rfl⟩ := List.mem_map.1 hd
     obtain ⟨X',m1,m2⟩ := ZD hk hX hl ⟨a,ha,hz⟩
     replace h3 : XK h nx ((Jd l X).map fun X' => JH (S.plus X') (Zv (S.plus X') (Zp S cs M n X') f args h nx))=some p := h3
     unfold XK at h3
     split at h3
     ·rename_i p0 rs hrs
      rw [Option.bind_eq_some_iff] at h3
      obtain ⟨b,hb,h4⟩ := h3
      rw [ifO_some,List.all_eq_true] at h4
      obtain ⟨h5,h6⟩ := h4
      cases h6
      obtain ⟨h',nx',q1,q2,q3⟩ := JX (h5 _ (List.mem_map_of_mem m1))
      intro γ w vs hi hA hb hlt hf
      refine (Vq (hN X' m2) (body X' m2) f args h nx _ q1 γ w vs hi hA hb hlt fun b g1 g2 => hf b g1 (Nat.lt_of_lt_of_le g2 q2)).mono ?_
      rintro _ w' ⟨r',γ',rfl,hef,hv,hx⟩
      exact ⟨r',γ',rfl,hef.wide (Nat.le_refl _) q2,hv,fun x hh => hx x (q3 x hh)⟩
     ·cases h3
theorem Ts {K1 K2 : List (FuncId × List AC)} {H1 H2 : Hs} {M : JP} {f : FuncId} {args : List AV} {v : AV} {p : List HB × Nat} {call : ZN} (hC : Zl { S with H := H1,K := K1 } E w0 call) (hr : call f args [] 0=some (v,p)) (ha : args.all YC=true) (hv : YC v=true) (hM : Xe { S with H := H2,K := K2 } E w0 M) : Xe { S with H := H2,K := K2 } E w0 ((f,args,v) :: M) := fun g bs u hmem => by
 rcases List.mem_cons.1 hmem with e | hmem
 ·cases e
  intro γ w vs hi hA
  rw [List.all_eq_true] at ha
  refine (hC f args [] 0 (v,p) hr (fun _ => none) w vs ⟨hi.bel,(fun _ _ h => by cases h)⟩ (XT (P := fun x => YC x=true) (fun _ _ hx q => Ww hx q) ha hA) (fun x hx => by cases hx) (fun x hx => by cases hx) (fun _ _ _ => rfl)).mono ?_
  rintro _ w' ⟨r,γ',rfl,hef,hr,_⟩
  refine ⟨r,rfl,fun wr nx hl => ⟨leG.refl _,fun _ _ => rfl,fun _ _ h => Or.inl h,⟨hef.wi.bel,fun b G q => ⟨(hi.lo b G q).1,Nat.lt_of_lt_of_le (hi.lo b G q).2 hef.gr.size⟩⟩,hef.gr,fun G hG _ => hef.keep G hG (fun b hb => by cases hb),hl⟩,Ww hv hr⟩
 ·exact hM g bs u hmem
def Yr (S : Sx) (cs : List (FuncId × Nat)) (k : Nat) : JP→Bool
 | (f,args,v) :: M => (match Zp S cs M k [] f args [] 0 with
  | some (u,_) => UK [u] [v]
  | none => false) && (args.all YC && YC v)
 | [] => false
def Zj (S : Sx) (cs : List (FuncId × Nat)) (k : Nat) : Nat→JP→Bool
 | 0,_ => true
 | n+1,M => Yr S cs k M && Zj S cs k n M.tail
def qA (l : List Nat) : AV := (false,[(true,l.flatMap Ry)])
def tA (l : List Nat) : AV := (false,[(true,l.map fun a => .inr (1,a,0,0,0))])
theorem OC : Xe S E w0 [] := fun _ _ _ h => by cases h
end
end Cx
/- VPE -/
namespace Go.Proofs.YtmdfngmjoaigjaaGreatDoor
open Cx Go Go.RowKit
section
variable {N : List Nd} {H : List (Nat × Nat × Nat × Nat)} {K : List (FuncId × List AC)} {L C : List (List Nat × Nat)} {Z : List Nat} {q : Nat→Rat} {σ : Nat→ByteArray} {cl : List FuncId} {cs pr : List (FuncId × Nat)} {M : JP} {w : World}
theorem YF (Y : Hy N H L C Z q σ) (hc : ∀ f ∈ cl,Closed f) (hm : (Tryz.prog).follows .mixedOrders=true) (hp : Zy w) (hM : Xe (sx Tryz.prog N H K L C Z (prC cl)) (evS q σ) w M) (k : Nat) : Zl (sx Tryz.prog N H K L C Z (prC cl)) (evS q σ) w (Zp (sx Tryz.prog N H K L C Z (prC cl)) cs M k []) :=
 Wt (S := sx Tryz.prog N H K L C Z (prC cl)) (E := evS q σ) (w0 := w) (T := fun X => Hy N (X ++ H) L C Z q σ) (z := fun d => q d=0) hm hM (fun X hX => GM hX) (fun X hX => Rf hX hp hc) Yj (fun X hX l s r h1 h2 => by
  have e := hX.k0 s r h2
  have g := Vl hX h1
  refine ⟨fun h => g.1 (e.1 h),fun h => ?_⟩
  have hn : ¬ ∀ d ∈ l,q d=0 := fun q' => by
   rw [e.2 (g.2 q')] at h
   cases h
  simpa using hn) k [] Y
def Zw (N : List Nd) (L C : List (List Nat × Nat)) (Z : List Nat) (q : Nat→Rat) (σ : Nat→ByteArray) (cl : List FuncId) (w : World) (M : JP) : Prop := ∀ H K,Xe (sx Tryz.prog N H K L C Z (prC cl)) (evS q σ) w M
theorem XX : Zw N L C Z q σ cl w [] := fun _ _ => OC
theorem UN {H1 : List (Nat × Nat × Nat × Nat)} (Y : Hy N H1 L C Z q σ) (hc : ∀ f ∈ cl,Closed f) (hm : (Tryz.prog).follows .mixedOrders=true) (hp : Zy w) {f : FuncId} {args : List AV} {v : AV} (k : Nat) (hr : Yr (sx Tryz.prog N H1 [] L C Z (prC cl)) cs k ((f,args,v) :: M)=true) (hM : Zw N L C Z q σ cl w M) : Zw N L C Z q σ cl w ((f,args,v) :: M) := fun H K => by
 unfold Yr at hr
 simp only [Bool.and_eq_true] at hr
 obtain ⟨h1,h2,h3⟩ := hr
 split at h1
 ·rename_i u p hu
  have e := XO h1
  cases e
  exact Ts (S := sx Tryz.prog N H K L C Z (prC cl)) (K1 := []) (H1 := H1) (K2 := K) (H2 := H) (YF (K := []) (cs := cs) Y hc hm hp (hM H1 []) k) hu h2 h3 (hM H K)
 ·cases h1
theorem Up {i : Nat} {H1 : List (Nat × Nat × Nat × Nat)} (Y : Hy N H1 L C Z q σ) (hc : ∀ f ∈ cl,Closed f) (hm : (Tryz.prog).follows .mixedOrders=true) (hp : Zy w) {k : Nat} (hr : Yr (sx Tryz.prog N H1 [] L C Z (prC cl)) cs k (M.drop i)=true) (hM : Zw N L C Z q σ cl w (M.drop (i+1))) : Zw N L C Z q σ cl w (M.drop i) := by
 rw [← List.tail_drop] at hM
 generalize M.drop i=D at *
 match D with
 | [] => cases hr
 | (f,args,v) :: D => exact UN Y hc hm hp k hr hM
theorem QN {H1 : List (Nat × Nat × Nat × Nat)} (Y : Hy N H1 L C Z q σ) (hc : ∀ f ∈ cl,Closed f) (hm : (Tryz.prog).follows .mixedOrders=true) (hp : Zy w) {k : Nat} : ∀ (n : Nat) {M : JP},Zj (sx Tryz.prog N H1 [] L C Z (prC cl)) cs k n M=true→Zw N L C Z q σ cl w (M.drop n)→Zw N L C Z q σ cl w M
 | 0,_,_,h => h
 | n+1,M,hr,h => by
  unfold Zj at hr
  rw [Bool.and_eq_true] at hr
  have h1 := QN Y hc hm hp n hr.2 (by rw [List.drop_tail]; exact h)
  exact Up (i := 0) Y hc hm hp hr.1 (by rw [Nat.zero_add,List.drop_one]; exact h1)
theorem On {f : FuncId} {args : List AV} {vs : List Value} (k : Nat) (Y : Hy N H L C Z q σ) (hc : ∀ f ∈ cl,Closed f) (hm : (Tryz.prog).follows .mixedOrders=true) (hp : Zy w) (hM : Zw N L C Z q σ cl w M) (hr : (Zp (sx Tryz.prog N H K L C Z (prC cl)) cs M k [] f args [] 0).map (·.1)=some (kB true))
  (hA : A2 (avOn (cOn (evS q σ) K (fun _ => none) w)) args vs) : Calls Tryz.prog f vs.toArray w fun e w' => Below w.heap.size w w'∧e=.returned (.bool true) := by
 rw [Option.map_eq_some_iff] at hr
 obtain ⟨⟨v,p⟩,h1,h2⟩ := hr
 dsimp only at h2
 subst h2
 refine (YF (cs := cs) Y hc hm hp (hM H K) k f args [] 0 (kB true,p) h1 (fun _ => none) w vs ⟨Below.refl _ _,(fun _ _ h => by cases h)⟩ hA (fun x hx => by cases hx) (fun x hx => by cases hx) (fun _ _ _ => rfl)).mono ?_
 rintro _ w' ⟨r,γ',rfl,hef,hv,_⟩
 exact ⟨hef.wi.bel,by rw [show r=.bool true from (Zk (v := kB true) (c := .inl (.bool true)) rfl hv).1]⟩
end
end Go.Proofs.YtmdfngmjoaigjaaGreatDoor
/- MQARA -/
namespace Go.Proofs.YtmdfngmjoaigjaaGreatDoor
open Go.RowKit Cx
def qA_N : List Nd := [(1,[0]),(1,[1]),(1,[2]),(1,[3]),(8,[0,0,1,2,3]),(8,[1,0,1,2,3]),(8,[2,0,1,2,3]),(8,[3,0,1,2,3]),(0,[0,0,1]),(3,[8,5]),(3,[8,6]),(3,[8,7]),(4,[4,4]),(4,[5,5]),(2,[8,13]),(4,[6,6]),(2,[14,15]),(4,[7,7]),(2,[16,17]),(2,[12,18]),(0,[0,1,1]),(4,[4,8]),(4,[5,20]),(2,[8,22]),(4,[6,8]),(2,[23,24]),(4,[7,8]),(2,[25,26]),(3,[21,27]),(4,[20,4]),(4,[8,4]),(4,[5,8]),(2,[29,31]),(2,[30,24]),(2,[30,26]),(3,[24,26]),(4,[7,20]),(3,[36,31]),(4,[6,20]),(3,[31,38]),(2,[32,35]),(2,[33,37]),(2,[34,39]),(4,[28,4]),(4,[40,9]),(2,[8,44]),(4,[41,10]),(2,[45,46]),(4,[42,11]),(2,[47,48]),(3,[43,49]),(4,[9,28]),(4,[10,28]),(4,[11,28]),(4,[40,4]),(4,[41,4]),(4,[42,4]),(2,[51,54]),(2,[52,55]),(2,[53,56]),(4,[41,11]),(4,[42,10]),(3,[60,61]),(4,[42,9]),(4,[40,11]),(3,[63,64]),(4,[40,10]),(4,[41,9]),(3,[66,67]),(2,[57,62]),(2,[58,65]),(2,[59,68]),(6,[69,19]),(6,[70,19]),(6,[71,19]),(2,[8,31]),(2,[75,38]),(2,[76,26]),(3,[21,77]),(2,[30,31]),(2,[29,24]),(3,[24,36]),(3,[26,31]),(3,[22,24]),(2,[79,81]),(2,[80,82]),(2,[34,83]),(4,[78,4]),(4,[84,9]),(2,[8,88]),(4,[85,10]),(2,[89,90]),(4,[86,11]),(2,[91,92]),(3,[87,93]),(4,[9,78]),(4,[10,78]),(4,[11,78]),(4,[84,4]),(4,[85,4]),(4,[86,4]),(2,[95,98]),(2,[96,99]),(2,[97,100]),(4,[85,11]),(4,[86,10]),(3,[104,105]),(4,[86,9]),(4,[84,11]),(3,[107,108]),(4,[84,10]),(4,[85,9]),(3,[110,111]),(2,[101,106]),(2,[102,109]),(2,[103,112]),(6,[113,19]),(6,[114,19]),(6,[115,19]),(2,[75,24]),(2,[119,36]),(3,[21,120]),(2,[29,26]),(3,[38,26]),(3,[26,22]),(3,[31,24]),(2,[79,123]),(2,[33,124]),(2,[122,125]),(4,[121,4]),(4,[126,9]),(2,[8,130]),(4,[127,10]),(2,[131,132]),(4,[128,11]),(2,[133,134]),(3,[129,135]),(4,[9,121]),(4,[10,121]),(4,[11,121]),(4,[126,4]),(4,[127,4]),(4,[128,4]),(2,[137,140]),(2,[138,141]),(2,[139,142]),(4,[127,11]),(4,[128,10]),(3,[146,147]),(4,[128,9]),(4,[126,11]),(3,[149,150]),(4,[126,10]),(4,[127,9]),(3,[152,153]),(2,[143,148]),(2,[144,151]),(2,[145,154]),(6,[155,19]),(6,[156,19]),(6,[157,19]),(4,[5,1]),(2,[8,161]),(4,[6,2]),(2,[162,163]),(4,[7,3]),(2,[164,165]),(3,[21,166]),(4,[1,4]),(4,[2,4]),(4,[3,4]),(2,[168,31]),(2,[169,24]),(2,[170,26]),(4,[6,3]),(4,[7,2]),(3,[174,175]),(4,[7,1]),(4,[5,3]),(3,[177,178]),(4,[5,2]),(4,[6,1]),(3,[180,181]),(2,[171,176]),(2,[172,179]),(2,[173,182]),(4,[167,4]),(4,[183,9]),(2,[8,187]),(4,[184,10]),(2,[188,189]),(4,[185,11]),(2,[190,191]),(3,[186,192]),(4,[9,167]),(4,[10,167]),(4,[11,167]),(4,[183,4]),(4,[184,4]),(4,[185,4]),(2,[194,197]),(2,[195,198]),(2,[196,199]),(4,[184,11]),(4,[185,10]),(3,[203,204]),(4,[185,9]),(4,[183,11]),(3,[206,207]),(4,[183,10]),(4,[184,9]),(3,[209,210]),(2,[200,205]),(2,[201,208]),(2,[202,211]),(6,[212,19]),(6,[213,19]),(6,[214,19]),(4,[72,72]),(2,[8,218]),(4,[116,116]),(2,[219,220]),(4,[158,158]),(2,[221,222]),(3,[223,20]),(4,[72,73]),(2,[8,225]),(4,[116,117]),(2,[226,227]),(4,[158,159]),(2,[228,229]),(4,[73,73]),(2,[8,231]),(4,[117,117]),(2,[232,233]),(4,[159,159]),(2,[234,235]),(3,[236,20]),(4,[73,74]),(2,[8,238]),(4,[117,118]),(2,[239,240]),(4,[159,160]),(2,[241,242]),(4,[74,74]),(2,[8,244]),(4,[118,118]),(2,[245,246]),(4,[160,160]),(2,[247,248]),(3,[249,20]),(4,[74,72]),(2,[8,251]),(4,[118,116]),(2,[252,253]),(4,[160,158]),(2,[254,255]),(4,[117,160]),(4,[159,118]),(3,[257,258]),(4,[159,74]),(4,[73,160]),(3,[260,261]),(4,[73,118]),(4,[117,74]),(3,[263,264]),(4,[72,259]),(2,[8,266]),(4,[116,262]),(2,[267,268]),(4,[158,265]),(2,[269,270]),(4,[8,20]),(4,[72,8]),(2,[8,273]),(4,[73,8]),(2,[274,275]),(4,[74,8]),(2,[276,277]),(3,[272,278]),(4,[8,8]),(4,[72,20]),(4,[73,20]),(4,[74,20]),(2,[280,281]),(2,[280,282]),(2,[280,283]),(3,[275,277]),(3,[277,273]),(3,[273,275]),(2,[284,287]),(2,[285,288]),(2,[286,289]),(3,[8,20]),(3,[8,8]),(4,[279,8]),(4,[290,293]),(2,[8,296]),(4,[291,294]),(2,[297,298]),(4,[292,294]),(2,[299,300]),(3,[295,301]),(4,[293,279]),(4,[294,279]),(4,[290,8]),(4,[291,8]),(4,[292,8]),(2,[303,305]),(2,[304,306]),(2,[304,307]),(3,[298,300]),(4,[292,293]),(4,[290,294]),(3,[312,313]),(4,[291,293]),(3,[313,315]),(2,[308,311]),(2,[309,314]),(2,[310,316]),(2,[20,302]),(2,[8,317]),(2,[8,318]),(2,[8,319]),(4,[116,8]),(2,[8,324]),(4,[117,8]),(2,[325,326]),(4,[118,8]),(2,[327,328]),(3,[272,329]),(4,[116,20]),(4,[117,20]),(4,[118,20]),(2,[280,331]),(2,[280,332]),(2,[280,333]),(3,[326,328]),(3,[328,324]),(3,[324,326]),(2,[334,337]),(2,[335,338]),(2,[336,339]),(4,[330,8]),(4,[340,294]),(2,[8,344]),(4,[341,293]),(2,[345,346]),(4,[342,294]),(2,[347,348]),(3,[343,349]),(4,[294,330]),(4,[293,330]),(4,[340,8]),(4,[341,8]),(4,[342,8]),(2,[351,353]),(2,[352,354]),(2,[351,355]),(4,[341,294]),(4,[342,293]),(3,[359,360]),(3,[348,344]),(4,[340,293]),(3,[363,359]),(2,[356,361]),(2,[357,362]),(2,[358,364]),(2,[320,350]),(2,[321,365]),(2,[322,366]),(2,[323,367]),(4,[158,8]),(2,[8,372]),(4,[159,8]),(2,[373,374]),(4,[160,8]),(2,[375,376]),(3,[272,377]),(4,[158,20]),(4,[159,20]),(4,[160,20]),(2,[280,379]),(2,[280,380]),(2,[280,381]),(3,[374,376]),(3,[376,372]),(3,[372,374]),(2,[382,385]),(2,[383,386]),(2,[384,387]),(4,[378,8]),(4,[388,294]),(2,[8,392]),(4,[389,294]),(2,[393,394]),(4,[390,293]),(2,[395,396]),(3,[391,397]),(4,[294,378]),(4,[293,378]),(4,[388,8]),(4,[389,8]),(4,[390,8]),(2,[399,401]),(2,[399,402]),(2,[400,403]),(4,[389,293]),(4,[390,294]),(3,[407,408]),(4,[388,293]),(3,[408,410]),(3,[392,394]),(2,[404,409]),(2,[405,411]),(2,[406,412]),(2,[368,398]),(2,[369,413]),(2,[370,414]),(2,[371,415]),(6,[416,416]),(6,[417,416]),(6,[418,416]),(6,[419,416]),(8,[0,420,421,422,423]),(8,[1,420,421,422,423]),(8,[2,420,421,422,423]),(8,[3,420,421,422,423]),(3,[8,425]),(3,[8,426]),(3,[8,427]),(4,[424,424]),(4,[425,425]),(2,[8,432]),(4,[426,426]),(2,[433,434]),(4,[427,427]),(2,[435,436]),(2,[431,437]),(4,[424,8]),(4,[425,20]),(2,[8,440]),(4,[426,8]),(2,[441,442]),(4,[427,8]),(2,[443,444]),(3,[439,445]),(4,[20,424]),(4,[8,424]),(4,[425,8]),(2,[447,449]),(2,[448,442]),(2,[448,444]),(3,[442,444]),(4,[427,20]),(3,[454,449]),(4,[426,20]),(3,[449,456]),(2,[450,453]),(2,[451,455]),(2,[452,457]),(4,[446,424]),(4,[458,428]),(2,[8,462]),(4,[459,429]),(2,[463,464]),(4,[460,430]),(2,[465,466]),(3,[461,467]),(4,[428,446]),(4,[429,446]),(4,[430,446]),(4,[458,424]),(4,[459,424]),(4,[460,424]),(2,[469,472]),(2,[470,473]),(2,[471,474]),(4,[459,430]),(4,[460,429]),(3,[478,479]),(4,[460,428]),(4,[458,430]),(3,[481,482]),(4,[458,429]),(4,[459,428]),(3,[484,485]),(2,[475,480]),(2,[476,483]),(2,[477,486]),(6,[487,438]),(6,[488,438]),(6,[489,438]),(2,[8,449]),(2,[493,456]),(2,[494,444]),(3,[439,495]),(2,[448,449]),(2,[447,442]),(3,[442,454]),(3,[444,449]),(3,[440,442]),(2,[497,499]),(2,[498,500]),(2,[452,501]),(4,[496,424]),(4,[502,428]),(2,[8,506]),(4,[503,429]),(2,[507,508]),(4,[504,430]),(2,[509,510]),(3,[505,511]),(4,[428,496]),(4,[429,496]),(4,[430,496]),(4,[502,424]),(4,[503,424]),(4,[504,424]),(2,[513,516]),(2,[514,517]),(2,[515,518]),(4,[503,430]),(4,[504,429]),(3,[522,523]),(4,[504,428]),(4,[502,430]),(3,[525,526]),(4,[502,429]),(4,[503,428]),(3,[528,529]),(2,[519,524]),(2,[520,527]),(2,[521,530]),(6,[531,438]),(6,[532,438]),(6,[533,438]),(2,[493,442]),(2,[537,454]),(3,[439,538]),(2,[447,444]),(3,[456,444]),(3,[444,440]),(3,[449,442]),(2,[497,541]),(2,[451,542]),(2,[540,543]),(4,[539,424]),(4,[544,428]),(2,[8,548]),(4,[545,429]),(2,[549,550]),(4,[546,430]),(2,[551,552]),(3,[547,553]),(4,[428,539]),(4,[429,539]),(4,[430,539]),(4,[544,424]),(4,[545,424]),(4,[546,424]),(2,[555,558]),(2,[556,559]),(2,[557,560]),(4,[545,430]),(4,[546,429]),(3,[564,565]),(4,[546,428]),(4,[544,430]),(3,[567,568]),(4,[544,429]),(4,[545,428]),(3,[570,571]),(2,[561,566]),(2,[562,569]),(2,[563,572]),(6,[573,438]),(6,[574,438]),(6,[575,438]),(3,[215,1]),(3,[216,2]),(3,[217,3]),(4,[579,579]),(4,[580,580]),(2,[582,583]),(4,[581,581]),(2,[584,585]),(3,[490,72]),(3,[534,116]),(3,[576,158]),(3,[491,73]),(3,[535,117]),(3,[577,159]),(3,[492,74]),(3,[536,118]),(3,[578,160]),(4,[587,587]),(4,[588,588]),(2,[596,597]),(4,[589,589]),(2,[598,599]),(4,[590,590]),(2,[600,601]),(4,[591,591]),(2,[602,603]),(4,[592,592]),(2,[604,605]),(4,[593,593]),(2,[606,607]),(4,[594,594]),(2,[608,609]),(4,[595,595]),(2,[610,611]),(2,[8,281]),(2,[613,275]),(2,[614,277]),(3,[280,615]),(4,[20,8]),(2,[617,273]),(2,[280,275]),(2,[280,277]),(3,[283,273]),(3,[273,282]),(2,[618,287]),(2,[619,621]),(2,[620,622]),(4,[616,8]),(4,[623,293]),(2,[8,627]),(4,[624,294]),(2,[628,629]),(4,[625,294]),(2,[630,631]),(3,[626,632]),(4,[293,616]),(4,[294,616]),(4,[623,8]),(4,[624,8]),(4,[625,8]),(2,[634,636]),(2,[635,637]),(2,[635,638]),(3,[629,631]),(4,[625,293]),(4,[623,294]),(3,[643,644]),(4,[624,293]),(3,[644,646]),(2,[639,642]),(2,[640,645]),(2,[641,647]),(2,[8,633]),(2,[20,648]),(2,[8,649]),(2,[8,650]),(2,[8,331]),(2,[655,326]),(2,[656,328]),(3,[280,657]),(2,[617,324]),(2,[280,326]),(2,[280,328]),(3,[333,324]),(3,[324,332]),(2,[659,337]),(2,[660,662]),(2,[661,663]),(4,[658,8]),(4,[664,294]),(2,[8,668]),(4,[665,293]),(2,[669,670]),(4,[666,294]),(2,[671,672]),(3,[667,673]),(4,[294,658]),(4,[293,658]),(4,[664,8]),(4,[665,8]),(4,[666,8]),(2,[675,677]),(2,[676,678]),(2,[675,679]),(4,[665,294]),(4,[666,293]),(3,[683,684]),(3,[672,668]),(4,[664,293]),(3,[687,683]),(2,[680,685]),(2,[681,686]),(2,[682,688]),(2,[651,674]),(2,[652,689]),(2,[653,690]),(2,[654,691]),(2,[8,379]),(2,[696,374]),(2,[697,376]),(3,[280,698]),(2,[617,372]),(2,[280,374]),(2,[280,376]),(3,[381,372]),(3,[372,380]),(2,[700,385]),(2,[701,703]),(2,[702,704]),(4,[699,8]),(4,[705,294]),(2,[8,709]),(4,[706,294]),(2,[710,711]),(4,[707,293]),(2,[712,713]),(3,[708,714]),(4,[294,699]),(4,[293,699]),(4,[705,8]),(4,[706,8]),(4,[707,8]),(2,[716,718]),(2,[716,719]),(2,[717,720]),(4,[706,293]),(4,[707,294]),(3,[724,725]),(4,[705,293]),(3,[725,727]),(3,[709,711]),(2,[721,726]),(2,[722,728]),(2,[723,729]),(2,[692,715]),(2,[693,730]),(2,[694,731]),(2,[695,732]),(6,[733,734]),(6,[734,734]),(6,[735,734]),(6,[736,734]),(8,[0,737,738,739,740]),(8,[1,737,738,739,740]),(8,[2,737,738,739,740]),(8,[3,737,738,739,740]),(3,[8,742]),(3,[8,743]),(3,[8,744]),(4,[741,741]),(4,[742,742]),(2,[8,749]),(4,[743,743]),(2,[750,751]),(4,[744,744]),(2,[752,753]),(2,[748,754]),(4,[741,8]),(4,[742,20]),(2,[8,757]),(4,[743,8]),(2,[758,759]),(4,[744,8]),(2,[760,761]),(3,[756,762]),(4,[20,741]),(4,[8,741]),(4,[742,8]),(2,[764,766]),(2,[765,759]),(2,[765,761]),(3,[759,761]),(4,[744,20]),(3,[771,766]),(4,[743,20]),(3,[766,773]),(2,[767,770]),(2,[768,772]),(2,[769,774]),(4,[763,741]),(4,[775,745]),(2,[8,779]),(4,[776,746]),(2,[780,781]),(4,[777,747]),(2,[782,783]),(3,[778,784]),(4,[745,763]),(4,[746,763]),(4,[747,763]),(4,[775,741]),(4,[776,741]),(4,[777,741]),(2,[786,789]),(2,[787,790]),(2,[788,791]),(4,[776,747]),(4,[777,746]),(3,[795,796]),(4,[777,745]),(4,[775,747]),(3,[798,799]),(4,[775,746]),(4,[776,745]),(3,[801,802]),(2,[792,797]),(2,[793,800]),(2,[794,803]),(6,[804,755]),(6,[805,755]),(6,[806,755]),(2,[8,766]),(2,[810,773]),(2,[811,761]),(3,[756,812]),(2,[765,766]),(2,[764,759]),(3,[759,771]),(3,[761,766]),(3,[757,759]),(2,[814,816]),(2,[815,817]),(2,[769,818]),(4,[813,741]),(4,[819,745]),(2,[8,823]),(4,[820,746]),(2,[824,825]),(4,[821,747]),(2,[826,827]),(3,[822,828]),(4,[745,813]),(4,[746,813]),(4,[747,813]),(4,[819,741]),(4,[820,741]),(4,[821,741]),(2,[830,833]),(2,[831,834]),(2,[832,835]),(4,[820,747]),(4,[821,746]),(3,[839,840]),(4,[821,745]),(4,[819,747]),(3,[842,843]),(4,[819,746]),(4,[820,745]),(3,[845,846]),(2,[836,841]),(2,[837,844]),(2,[838,847]),(6,[848,755]),(6,[849,755]),(6,[850,755]),(2,[810,759]),(2,[854,771]),(3,[756,855]),(2,[764,761]),(3,[773,761]),(3,[761,757]),(3,[766,759]),(2,[814,858]),(2,[768,859]),(2,[857,860]),(4,[856,741]),(4,[861,745]),(2,[8,865]),(4,[862,746]),(2,[866,867]),(4,[863,747]),(2,[868,869]),(3,[864,870]),(4,[745,856]),(4,[746,856]),(4,[747,856]),(4,[861,741]),(4,[862,741]),(4,[863,741]),(2,[872,875]),(2,[873,876]),(2,[874,877]),(4,[862,747]),(4,[863,746]),(3,[881,882]),(4,[863,745]),(4,[861,747]),(3,[884,885]),(4,[861,746]),(4,[862,745]),(3,[887,888]),(2,[878,883]),(2,[879,886]),(2,[880,889]),(6,[890,755]),(6,[891,755]),(6,[892,755]),(3,[807,72]),(3,[851,116]),(3,[893,158]),(3,[808,73]),(3,[852,117]),(3,[894,159]),(3,[809,74]),(3,[853,118]),(3,[895,160]),(4,[896,896]),(4,[897,897]),(2,[905,906]),(4,[898,898]),(2,[907,908]),(4,[899,899]),(2,[909,910]),(4,[900,900]),(2,[911,912]),(4,[901,901]),(2,[913,914]),(4,[902,902]),(2,[915,916]),(4,[903,903]),(2,[917,918]),(4,[904,904]),(2,[919,920]),(2,[274,282]),(2,[922,277]),(3,[280,923]),(2,[280,273]),(2,[617,275]),(3,[275,283]),(3,[281,275]),(2,[925,927]),(2,[926,288]),(2,[620,928]),(4,[924,8]),(4,[929,293]),(2,[8,933]),(4,[930,294]),(2,[934,935]),(4,[931,294]),(2,[936,937]),(3,[932,938]),(4,[293,924]),(4,[294,924]),(4,[929,8]),(4,[930,8]),(4,[931,8]),(2,[940,942]),(2,[941,943]),(2,[941,944]),(3,[935,937]),(4,[931,293]),(4,[929,294]),(3,[949,950]),(4,[930,293]),(3,[950,952]),(2,[945,948]),(2,[946,951]),(2,[947,953]),(2,[8,939]),(2,[8,954]),(2,[20,955]),(2,[8,956]),(2,[325,332]),(2,[961,328]),(3,[280,962]),(2,[280,324]),(2,[617,326]),(3,[326,333]),(3,[331,326]),(2,[964,966]),(2,[965,338]),(2,[661,967]),(4,[963,8]),(4,[968,294]),(2,[8,972]),(4,[969,293]),(2,[973,974]),(4,[970,294]),(2,[975,976]),(3,[971,977]),(4,[294,963]),(4,[293,963]),(4,[968,8]),(4,[969,8]),(4,[970,8]),(2,[979,981]),(2,[980,982]),(2,[979,983]),(4,[969,294]),(4,[970,293]),(3,[987,988]),(3,[976,972]),(4,[968,293]),(3,[991,987]),(2,[984,989]),(2,[985,990]),(2,[986,992]),(2,[957,978]),(2,[958,993]),(2,[959,994]),(2,[960,995]),(2,[373,380]),(2,[1000,376]),(3,[280,1001]),(2,[280,372]),(2,[617,374]),(3,[374,381]),(3,[379,374]),(2,[1003,1005]),(2,[1004,386]),(2,[702,1006]),(4,[1002,8]),(4,[1007,294]),(2,[8,1011]),(4,[1008,294]),(2,[1012,1013]),(4,[1009,293]),(2,[1014,1015]),(3,[1010,1016]),(4,[294,1002]),(4,[293,1002]),(4,[1007,8]),(4,[1008,8]),(4,[1009,8]),(2,[1018,1020]),(2,[1018,1021]),(2,[1019,1022]),(4,[1008,293]),(4,[1009,294]),(3,[1026,1027]),(4,[1007,293]),(3,[1027,1029]),(3,[1011,1013]),(2,[1023,1028]),(2,[1024,1030]),(2,[1025,1031]),(2,[996,1017]),(2,[997,1032]),(2,[998,1033]),(2,[999,1034]),(6,[1035,1037]),(6,[1036,1037]),(6,[1037,1037]),(6,[1038,1037]),(8,[0,1039,1040,1041,1042]),(8,[1,1039,1040,1041,1042]),(8,[2,1039,1040,1041,1042]),(8,[3,1039,1040,1041,1042]),(3,[8,1044]),(3,[8,1045]),(3,[8,1046]),(4,[1043,1043]),(4,[1044,1044]),(2,[8,1051]),(4,[1045,1045]),(2,[1052,1053]),(4,[1046,1046]),(2,[1054,1055]),(2,[1050,1056]),(4,[1043,8]),(4,[1044,20]),(2,[8,1059]),(4,[1045,8]),(2,[1060,1061]),(4,[1046,8]),(2,[1062,1063]),(3,[1058,1064]),(4,[20,1043]),(4,[8,1043]),(4,[1044,8]),(2,[1066,1068]),(2,[1067,1061]),(2,[1067,1063]),(3,[1061,1063]),(4,[1046,20]),(3,[1073,1068]),(4,[1045,20]),(3,[1068,1075]),(2,[1069,1072]),(2,[1070,1074]),(2,[1071,1076]),(4,[1065,1043]),(4,[1077,1047]),(2,[8,1081]),(4,[1078,1048]),(2,[1082,1083]),(4,[1079,1049]),(2,[1084,1085]),(3,[1080,1086]),(4,[1047,1065]),(4,[1048,1065]),(4,[1049,1065]),(4,[1077,1043]),(4,[1078,1043]),(4,[1079,1043]),(2,[1088,1091]),(2,[1089,1092]),(2,[1090,1093]),(4,[1078,1049]),(4,[1079,1048]),(3,[1097,1098]),(4,[1079,1047]),(4,[1077,1049]),(3,[1100,1101]),(4,[1077,1048]),(4,[1078,1047]),(3,[1103,1104]),(2,[1094,1099]),(2,[1095,1102]),(2,[1096,1105]),(6,[1106,1057]),(6,[1107,1057]),(6,[1108,1057]),(2,[8,1068]),(2,[1112,1075]),(2,[1113,1063]),(3,[1058,1114]),(2,[1067,1068]),(2,[1066,1061]),(3,[1061,1073]),(3,[1063,1068]),(3,[1059,1061]),(2,[1116,1118]),(2,[1117,1119]),(2,[1071,1120]),(4,[1115,1043]),(4,[1121,1047]),(2,[8,1125]),(4,[1122,1048]),(2,[1126,1127]),(4,[1123,1049]),(2,[1128,1129]),(3,[1124,1130]),(4,[1047,1115]),(4,[1048,1115]),(4,[1049,1115]),(4,[1121,1043]),(4,[1122,1043]),(4,[1123,1043]),(2,[1132,1135]),(2,[1133,1136]),(2,[1134,1137]),(4,[1122,1049]),(4,[1123,1048]),(3,[1141,1142]),(4,[1123,1047]),(4,[1121,1049]),(3,[1144,1145]),(4,[1121,1048]),(4,[1122,1047]),(3,[1147,1148]),(2,[1138,1143]),(2,[1139,1146]),(2,[1140,1149]),(6,[1150,1057]),(6,[1151,1057]),(6,[1152,1057]),(2,[1112,1061]),(2,[1156,1073]),(3,[1058,1157]),(2,[1066,1063]),(3,[1075,1063]),(3,[1063,1059]),(3,[1068,1061]),(2,[1116,1160]),(2,[1070,1161]),(2,[1159,1162]),(4,[1158,1043]),(4,[1163,1047]),(2,[8,1167]),(4,[1164,1048]),(2,[1168,1169]),(4,[1165,1049]),(2,[1170,1171]),(3,[1166,1172]),(4,[1047,1158]),(4,[1048,1158]),(4,[1049,1158]),(4,[1163,1043]),(4,[1164,1043]),(4,[1165,1043]),(2,[1174,1177]),(2,[1175,1178]),(2,[1176,1179]),(4,[1164,1049]),(4,[1165,1048]),(3,[1183,1184]),(4,[1165,1047]),(4,[1163,1049]),(3,[1186,1187]),(4,[1163,1048]),(4,[1164,1047]),(3,[1189,1190]),(2,[1180,1185]),(2,[1181,1188]),(2,[1182,1191]),(6,[1192,1057]),(6,[1193,1057]),(6,[1194,1057]),(3,[1109,72]),(3,[1153,116]),(3,[1195,158]),(3,[1110,73]),(3,[1154,117]),(3,[1196,159]),(3,[1111,74]),(3,[1155,118]),(3,[1197,160]),(4,[1198,1198]),(4,[1199,1199]),(2,[1207,1208]),(4,[1200,1200]),(2,[1209,1210]),(4,[1201,1201]),(2,[1211,1212]),(4,[1202,1202]),(2,[1213,1214]),(4,[1203,1203]),(2,[1215,1216]),(4,[1204,1204]),(2,[1217,1218]),(4,[1205,1205]),(2,[1219,1220]),(4,[1206,1206]),(2,[1221,1222]),(2,[276,283]),(3,[280,1224]),(2,[617,277]),(3,[282,277]),(3,[277,281]),(2,[925,1227]),(2,[619,1228]),(2,[1226,289]),(4,[1225,8]),(4,[1229,293]),(2,[8,1233]),(4,[1230,294]),(2,[1234,1235]),(4,[1231,294]),(2,[1236,1237]),(3,[1232,1238]),(4,[293,1225]),(4,[294,1225]),(4,[1229,8]),(4,[1230,8]),(4,[1231,8]),(2,[1240,1242]),(2,[1241,1243]),(2,[1241,1244]),(3,[1235,1237]),(4,[1231,293]),(4,[1229,294]),(3,[1249,1250]),(4,[1230,293]),(3,[1250,1252]),(2,[1245,1248]),(2,[1246,1251]),(2,[1247,1253]),(2,[8,1239]),(2,[8,1254]),(2,[8,1255]),(2,[20,1256]),(2,[327,333]),(3,[280,1261]),(2,[617,328]),(3,[332,328]),(3,[328,331]),(2,[964,1264]),(2,[660,1265]),(2,[1263,339]),(4,[1262,8]),(4,[1266,294]),(2,[8,1270]),(4,[1267,293]),(2,[1271,1272]),(4,[1268,294]),(2,[1273,1274]),(3,[1269,1275]),(4,[294,1262]),(4,[293,1262]),(4,[1266,8]),(4,[1267,8]),(4,[1268,8]),(2,[1277,1279]),(2,[1278,1280]),(2,[1277,1281]),(4,[1267,294]),(4,[1268,293]),(3,[1285,1286]),(3,[1274,1270]),(4,[1266,293]),(3,[1289,1285]),(2,[1282,1287]),(2,[1283,1288]),(2,[1284,1290]),(2,[1257,1276]),(2,[1258,1291]),(2,[1259,1292]),(2,[1260,1293]),(2,[375,381]),(3,[280,1298]),(2,[617,376]),(3,[380,376]),(3,[376,379]),(2,[1003,1301]),(2,[701,1302]),(2,[1300,387]),(4,[1299,8]),(4,[1303,294]),(2,[8,1307]),(4,[1304,294]),(2,[1308,1309]),(4,[1305,293]),(2,[1310,1311]),(3,[1306,1312]),(4,[294,1299]),(4,[293,1299]),(4,[1303,8]),(4,[1304,8]),(4,[1305,8]),(2,[1314,1316]),(2,[1314,1317]),(2,[1315,1318]),(4,[1304,293]),(4,[1305,294]),(3,[1322,1323]),(4,[1303,293]),(3,[1323,1325]),(3,[1307,1309]),(2,[1319,1324]),(2,[1320,1326]),(2,[1321,1327]),(2,[1294,1313]),(2,[1295,1328]),(2,[1296,1329]),(2,[1297,1330]),(6,[1331,1334]),(6,[1332,1334]),(6,[1333,1334]),(6,[1334,1334]),(8,[0,1335,1336,1337,1338]),(8,[1,1335,1336,1337,1338]),(8,[2,1335,1336,1337,1338]),(8,[3,1335,1336,1337,1338]),(3,[8,1340]),(3,[8,1341]),(3,[8,1342]),(4,[1339,1339]),(4,[1340,1340]),(2,[8,1347]),(4,[1341,1341]),(2,[1348,1349]),(4,[1342,1342]),(2,[1350,1351]),(2,[1346,1352]),(4,[1339,8]),(4,[1340,20]),(2,[8,1355]),(4,[1341,8]),(2,[1356,1357]),(4,[1342,8]),(2,[1358,1359]),(3,[1354,1360]),(4,[20,1339]),(4,[8,1339]),(4,[1340,8]),(2,[1362,1364]),(2,[1363,1357]),(2,[1363,1359]),(3,[1357,1359]),(4,[1342,20]),(3,[1369,1364]),(4,[1341,20]),(3,[1364,1371]),(2,[1365,1368]),(2,[1366,1370]),(2,[1367,1372]),(4,[1361,1339]),(4,[1373,1343]),(2,[8,1377]),(4,[1374,1344]),(2,[1378,1379]),(4,[1375,1345]),(2,[1380,1381]),(3,[1376,1382]),(4,[1343,1361]),(4,[1344,1361]),(4,[1345,1361]),(4,[1373,1339]),(4,[1374,1339]),(4,[1375,1339]),(2,[1384,1387]),(2,[1385,1388]),(2,[1386,1389]),(4,[1374,1345]),(4,[1375,1344]),(3,[1393,1394]),(4,[1375,1343]),(4,[1373,1345]),(3,[1396,1397]),(4,[1373,1344]),(4,[1374,1343]),(3,[1399,1400]),(2,[1390,1395]),(2,[1391,1398]),(2,[1392,1401]),(6,[1402,1353]),(6,[1403,1353]),(6,[1404,1353]),(2,[8,1364]),(2,[1408,1371]),(2,[1409,1359]),(3,[1354,1410]),(2,[1363,1364]),(2,[1362,1357]),(3,[1357,1369]),(3,[1359,1364]),(3,[1355,1357]),(2,[1412,1414]),(2,[1413,1415]),(2,[1367,1416]),(4,[1411,1339]),(4,[1417,1343]),(2,[8,1421]),(4,[1418,1344]),(2,[1422,1423]),(4,[1419,1345]),(2,[1424,1425]),(3,[1420,1426]),(4,[1343,1411]),(4,[1344,1411]),(4,[1345,1411]),(4,[1417,1339]),(4,[1418,1339]),(4,[1419,1339]),(2,[1428,1431]),(2,[1429,1432]),(2,[1430,1433]),(4,[1418,1345]),(4,[1419,1344]),(3,[1437,1438]),(4,[1419,1343]),(4,[1417,1345]),(3,[1440,1441]),(4,[1417,1344]),(4,[1418,1343]),(3,[1443,1444]),(2,[1434,1439]),(2,[1435,1442]),(2,[1436,1445]),(6,[1446,1353]),(6,[1447,1353]),(6,[1448,1353]),(2,[1408,1357]),(2,[1452,1369]),(3,[1354,1453]),(2,[1362,1359]),(3,[1371,1359]),(3,[1359,1355]),(3,[1364,1357]),(2,[1412,1456]),(2,[1366,1457]),(2,[1455,1458]),(4,[1454,1339]),(4,[1459,1343]),(2,[8,1463]),(4,[1460,1344]),(2,[1464,1465]),(4,[1461,1345]),(2,[1466,1467]),(3,[1462,1468]),(4,[1343,1454]),(4,[1344,1454]),(4,[1345,1454]),(4,[1459,1339]),(4,[1460,1339]),(4,[1461,1339]),(2,[1470,1473]),(2,[1471,1474]),(2,[1472,1475]),(4,[1460,1345]),(4,[1461,1344]),(3,[1479,1480]),(4,[1461,1343]),(4,[1459,1345]),(3,[1482,1483]),(4,[1459,1344]),(4,[1460,1343]),(3,[1485,1486]),(2,[1476,1481]),(2,[1477,1484]),(2,[1478,1487]),(6,[1488,1353]),(6,[1489,1353]),(6,[1490,1353]),(3,[1405,72]),(3,[1449,116]),(3,[1491,158]),(3,[1406,73]),(3,[1450,117]),(3,[1492,159]),(3,[1407,74]),(3,[1451,118]),(3,[1493,160]),(4,[1494,1494]),(4,[1495,1495]),(2,[1503,1504]),(4,[1496,1496]),(2,[1505,1506]),(4,[1497,1497]),(2,[1507,1508]),(4,[1498,1498]),(2,[1509,1510]),(4,[1499,1499]),(2,[1511,1512]),(4,[1500,1500]),(2,[1513,1514]),(4,[1501,1501]),(2,[1515,1516]),(4,[1502,1502]),(2,[1517,1518])]
def Wu : List (List Nat × Nat) := []
def Wx : List (List Nat × Nat) := []
def Wz : List Nat := [3495260,3495260,3495260,3495260,13981037,13981037,13981037,13981037,1,13981039,13981039,13981039,27962074,27962074,27962076,27962074,27962078,27962074,27962080,27962082,1,13981038,13981038,13981040,13981038,13981042,13981038,13981044,13981046,13981038,13981038,13981038,13981040,13981040,13981040,13981040,13981038,13981040,13981038,13981040,13981042,13981042,13981042,27962083,27962081,27962083,27962081,27962085,27962081,27962087,27962089,27962085,27962085,27962085,27962079,27962079,27962079,27962087,27962087,27962087,27962081,27962081,27962083,27962081,27962081,27962083,27962081,27962081,27962083,27962089,27962089,27962089,27962090,27962090,27962090,13981040,13981042,13981044,13981046,13981040,13981040,13981040,13981040,13981040,13981042,13981042,13981042,27962083,27962081,27962083,27962081,27962085,27962081,27962087,27962089,27962085,27962085,27962085,27962079,27962079,27962079,27962087,27962087,27962087,27962081,27962081,27962083,27962081,27962081,27962083,27962081,27962081,27962083,27962089,27962089,27962089,27962090,27962090,27962090,13981042,13981044,13981046,13981040,13981040,13981040,13981040,13981042,13981042,13981042,27962083,27962081,27962083,27962081,27962085,27962081,27962087,27962089,27962085,27962085,27962085,27962079,27962079,27962079,27962087,27962087,27962087,27962081,27962081,27962083,27962081,27962081,27962083,27962081,27962081,27962083,27962089,27962089,27962089,27962090,27962090,27962090,17476296,17476298,17476296,20971559,17476296,24466820,24466822,17476296,17476296,17476296,17476299,17476299,17476299,17476296,17476296,20971557,17476296,17476296,20971557,17476296,17476296,20971557,24466819,24466819,24466819,38447859,38447858,38447860,38447858,38447862,38447858,38447864,38447866,38447861,38447861,38447861,38447856,38447856,38447856,38447863,38447863,38447863,38447858,38447858,38447860,38447858,38447858,38447860,38447858,38447858,38447860,38447865,38447865,38447865,38447866,38447866,38447866,55924180,55924182,55924180,55924184,55924180,55924186,55924188,55924180,55924182,55924180,55924184,55924180,55924186,55924180,55924182,55924180,55924184,55924180,55924186,55924188,55924180,55924182,55924180,55924184,55924180,55924186,55924180,55924182,55924180,55924184,55924180,55924186,55924188,55924180,55924182,55924180,55924184,55924180,55924186,55924180,55924180,55924182,55924180,55924180,55924182,55924180,55924180,55924182,83886272,83886274,83886272,83886276,83886272,83886278,2,27962091,27962093,27962091,27962095,27962091,27962097,27962099,2,27962091,27962091,27962091,27962093,27962093,27962093,27962093,27962093,27962093,27962095,27962095,27962095,3,3,27962100,27962098,27962100,27962098,27962102,27962098,27962104,27962106,27962102,27962102,27962096,27962096,27962096,27962104,27962104,27962104,27962100,27962098,27962098,27962100,27962098,27962100,27962106,27962106,27962106,27962108,27962108,27962108,27962108,27962091,27962093,27962091,27962095,27962091,27962097,27962099,27962091,27962091,27962091,27962093,27962093,27962093,27962093,27962093,27962093,27962095,27962095,27962095,27962100,27962098,27962100,27962098,27962102,27962098,27962104,27962106,27962102,27962102,27962096,27962096,27962096,27962104,27962104,27962104,27962098,27962098,27962100,27962100,27962098,27962100,27962106,27962106,27962106,27962110,27962110,27962110,27962110,27962091,27962093,27962091,27962095,27962091,27962097,27962099,27962091,27962091,27962091,27962093,27962093,27962093,27962093,27962093,27962093,27962095,27962095,27962095,27962100,27962098,27962100,27962098,27962102,27962098,27962104,27962106,27962102,27962102,27962096,27962096,27962096,27962104,27962104,27962104,27962098,27962098,27962100,27962098,27962100,27962100,27962106,27962106,27962106,27962112,27962112,27962112,27962112,27962113,27962113,27962113,27962113,27962114,27962114,27962114,27962114,27962116,27962116,27962116,55924228,55924228,55924230,55924228,55924232,55924228,55924234,55924236,27962115,27962115,27962117,27962115,27962119,27962115,27962121,27962123,27962115,27962115,27962115,27962117,27962117,27962117,27962117,27962115,27962117,27962115,27962117,27962119,27962119,27962119,55924237,55924235,55924237,55924235,55924239,55924235,55924241,55924243,55924239,55924239,55924239,55924233,55924233,55924233,55924241,55924241,55924241,55924235,55924235,55924237,55924235,55924235,55924237,55924235,55924235,55924237,55924243,55924243,55924243,55924244,55924244,55924244,27962117,27962119,27962121,27962123,27962117,27962117,27962117,27962117,27962117,27962119,27962119,27962119,55924237,55924235,55924237,55924235,55924239,55924235,55924241,55924243,55924239,55924239,55924239,55924233,55924233,55924233,55924241,55924241,55924241,55924235,55924235,55924237,55924235,55924235,55924237,55924235,55924235,55924237,55924243,55924243,55924243,55924244,55924244,55924244,27962119,27962121,27962123,27962117,27962117,27962117,27962117,27962119,27962119,27962119,55924237,55924235,55924237,55924235,55924239,55924235,55924241,55924243,55924239,55924239,55924239,55924233,55924233,55924233,55924241,55924241,55924241,55924235,55924235,55924237,55924235,55924235,55924237,55924235,55924235,55924237,55924243,55924243,55924243,55924244,55924244,55924244,38447868,38447868,38447868,76895736,76895736,76895738,76895736,76895740,83886328,83886328,83886328,83886328,83886328,83886328,83886328,83886328,83886328,167772656,167772656,167772658,167772656,167772660,167772656,167772662,167772656,167772664,167772656,167772666,167772656,167772668,167772656,167772670,167772656,167772672,27962093,27962095,27962097,27962099,2,27962093,27962093,27962093,27962093,27962093,27962095,27962095,27962095,27962100,27962098,27962100,27962098,27962102,27962098,27962104,27962106,27962102,27962102,27962096,27962096,27962096,27962104,27962104,27962104,27962100,27962098,27962098,27962100,27962098,27962100,27962106,27962106,27962106,27962108,27962108,27962108,27962108,27962093,27962095,27962097,27962099,27962093,27962093,27962093,27962093,27962093,27962095,27962095,27962095,27962100,27962098,27962100,27962098,27962102,27962098,27962104,27962106,27962102,27962102,27962096,27962096,27962096,27962104,27962104,27962104,27962098,27962098,27962100,27962100,27962098,27962100,27962106,27962106,27962106,27962110,27962110,27962110,27962110,27962093,27962095,27962097,27962099,27962093,27962093,27962093,27962093,27962093,27962095,27962095,27962095,27962100,27962098,27962100,27962098,27962102,27962098,27962104,27962106,27962102,27962102,27962096,27962096,27962096,27962104,27962104,27962104,27962098,27962098,27962100,27962098,27962100,27962100,27962106,27962106,27962106,27962112,27962112,27962112,27962112,27962113,27962113,27962113,27962113,27962114,27962114,27962114,27962114,27962116,27962116,27962116,55924228,55924228,55924230,55924228,55924232,55924228,55924234,55924236,27962115,27962115,27962117,27962115,27962119,27962115,27962121,27962123,27962115,27962115,27962115,27962117,27962117,27962117,27962117,27962115,27962117,27962115,27962117,27962119,27962119,27962119,55924237,55924235,55924237,55924235,55924239,55924235,55924241,55924243,55924239,55924239,55924239,55924233,55924233,55924233,55924241,55924241,55924241,55924235,55924235,55924237,55924235,55924235,55924237,55924235,55924235,55924237,55924243,55924243,55924243,55924244,55924244,55924244,27962117,27962119,27962121,27962123,27962117,27962117,27962117,27962117,27962117,27962119,27962119,27962119,55924237,55924235,55924237,55924235,55924239,55924235,55924241,55924243,55924239,55924239,55924239,55924233,55924233,55924233,55924241,55924241,55924241,55924235,55924235,55924237,55924235,55924235,55924237,55924235,55924235,55924237,55924243,55924243,55924243,55924244,55924244,55924244,27962119,27962121,27962123,27962117,27962117,27962117,27962117,27962119,27962119,27962119,55924237,55924235,55924237,55924235,55924239,55924235,55924241,55924243,55924239,55924239,55924239,55924233,55924233,55924233,55924241,55924241,55924241,55924235,55924235,55924237,55924235,55924235,55924237,55924235,55924235,55924237,55924243,55924243,55924243,55924244,55924244,55924244,83886328,83886328,83886328,83886328,83886328,83886328,83886328,83886328,83886328,167772656,167772656,167772658,167772656,167772660,167772656,167772662,167772656,167772664,167772656,167772666,167772656,167772668,167772656,167772670,167772656,167772672,27962095,27962097,27962099,27962093,27962093,27962093,27962093,27962095,27962095,27962095,27962100,27962098,27962100,27962098,27962102,27962098,27962104,27962106,27962102,27962102,27962096,27962096,27962096,27962104,27962104,27962104,27962100,27962098,27962098,27962100,27962098,27962100,27962106,27962106,27962106,27962108,27962108,27962108,27962108,27962095,27962097,27962099,27962093,27962093,27962093,27962093,27962095,27962095,27962095,27962100,27962098,27962100,27962098,27962102,27962098,27962104,27962106,27962102,27962102,27962096,27962096,27962096,27962104,27962104,27962104,27962098,27962098,27962100,27962100,27962098,27962100,27962106,27962106,27962106,27962110,27962110,27962110,27962110,27962095,27962097,27962099,27962093,27962093,27962093,27962093,27962095,27962095,27962095,27962100,27962098,27962100,27962098,27962102,27962098,27962104,27962106,27962102,27962102,27962096,27962096,27962096,27962104,27962104,27962104,27962098,27962098,27962100,27962098,27962100,27962100,27962106,27962106,27962106,27962112,27962112,27962112,27962112,27962113,27962113,27962113,27962113,27962114,27962114,27962114,27962114,27962116,27962116,27962116,55924228,55924228,55924230,55924228,55924232,55924228,55924234,55924236,27962115,27962115,27962117,27962115,27962119,27962115,27962121,27962123,27962115,27962115,27962115,27962117,27962117,27962117,27962117,27962115,27962117,27962115,27962117,27962119,27962119,27962119,55924237,55924235,55924237,55924235,55924239,55924235,55924241,55924243,55924239,55924239,55924239,55924233,55924233,55924233,55924241,55924241,55924241,55924235,55924235,55924237,55924235,55924235,55924237,55924235,55924235,55924237,55924243,55924243,55924243,55924244,55924244,55924244,27962117,27962119,27962121,27962123,27962117,27962117,27962117,27962117,27962117,27962119,27962119,27962119,55924237,55924235,55924237,55924235,55924239,55924235,55924241,55924243,55924239,55924239,55924239,55924233,55924233,55924233,55924241,55924241,55924241,55924235,55924235,55924237,55924235,55924235,55924237,55924235,55924235,55924237,55924243,55924243,55924243,55924244,55924244,55924244,27962119,27962121,27962123,27962117,27962117,27962117,27962117,27962119,27962119,27962119,55924237,55924235,55924237,55924235,55924239,55924235,55924241,55924243,55924239,55924239,55924239,55924233,55924233,55924233,55924241,55924241,55924241,55924235,55924235,55924237,55924235,55924235,55924237,55924235,55924235,55924237,55924243,55924243,55924243,55924244,55924244,55924244,83886328,83886328,83886328,83886328,83886328,83886328,83886328,83886328,83886328,167772656,167772656,167772658,167772656,167772660,167772656,167772662,167772656,167772664,167772656,167772666,167772656,167772668,167772656,167772670,167772656,167772672,27962097,27962099,27962093,27962093,27962093,27962095,27962095,27962095,27962100,27962098,27962100,27962098,27962102,27962098,27962104,27962106,27962102,27962102,27962096,27962096,27962096,27962104,27962104,27962104,27962100,27962098,27962098,27962100,27962098,27962100,27962106,27962106,27962106,27962108,27962108,27962108,27962108,27962097,27962099,27962093,27962093,27962093,27962095,27962095,27962095,27962100,27962098,27962100,27962098,27962102,27962098,27962104,27962106,27962102,27962102,27962096,27962096,27962096,27962104,27962104,27962104,27962098,27962098,27962100,27962100,27962098,27962100,27962106,27962106,27962106,27962110,27962110,27962110,27962110,27962097,27962099,27962093,27962093,27962093,27962095,27962095,27962095,27962100,27962098,27962100,27962098,27962102,27962098,27962104,27962106,27962102,27962102,27962096,27962096,27962096,27962104,27962104,27962104,27962098,27962098,27962100,27962098,27962100,27962100,27962106,27962106,27962106,27962112,27962112,27962112,27962112,27962113,27962113,27962113,27962113,27962114,27962114,27962114,27962114,27962116,27962116,27962116,55924228,55924228,55924230,55924228,55924232,55924228,55924234,55924236,27962115,27962115,27962117,27962115,27962119,27962115,27962121,27962123,27962115,27962115,27962115,27962117,27962117,27962117,27962117,27962115,27962117,27962115,27962117,27962119,27962119,27962119,55924237,55924235,55924237,55924235,55924239,55924235,55924241,55924243,55924239,55924239,55924239,55924233,55924233,55924233,55924241,55924241,55924241,55924235,55924235,55924237,55924235,55924235,55924237,55924235,55924235,55924237,55924243,55924243,55924243,55924244,55924244,55924244,27962117,27962119,27962121,27962123,27962117,27962117,27962117,27962117,27962117,27962119,27962119,27962119,55924237,55924235,55924237,55924235,55924239,55924235,55924241,55924243,55924239,55924239,55924239,55924233,55924233,55924233,55924241,55924241,55924241,55924235,55924235,55924237,55924235,55924235,55924237,55924235,55924235,55924237,55924243,55924243,55924243,55924244,55924244,55924244,27962119,27962121,27962123,27962117,27962117,27962117,27962117,27962119,27962119,27962119,55924237,55924235,55924237,55924235,55924239,55924235,55924241,55924243,55924239,55924239,55924239,55924233,55924233,55924233,55924241,55924241,55924241,55924235,55924235,55924237,55924235,55924235,55924237,55924235,55924235,55924237,55924243,55924243,55924243,55924244,55924244,55924244,83886328,83886328,83886328,83886328,83886328,83886328,83886328,83886328,83886328,167772656,167772656,167772658,167772656,167772660,167772656,167772662,167772656,167772664,167772656,167772666,167772656,167772668,167772656,167772670,167772656,167772672]
def qA_D0 : List Atm := [(0,1),(0,2)]
def JV : List Atm := [(0,1),(0,2),(0,3)]
def SH : List Atm := [(0,1),(0,2),(0,3),(1,19)]
def ZI : List Atm := [(1,19),(1,19)]
def Sm : List Atm := [(1,19),(1,19),(1,19)]
def Ed : List Atm := [(0,1),(0,1),(0,2),(0,2),(0,3),(0,3),(1,19),(1,19)]
def Gp : List Atm := [(1,19),(1,438)]
def Wv : List Atm := [(1,19),(1,19),(1,438),(1,438)]
def GK : List Atm := [(1,19),(1,755)]
def WB : List Atm := [(1,19),(1,19),(1,755),(1,755)]
def Re : List Atm := [(1,19),(1,1057)]
def Yy : List Atm := [(1,19),(1,19),(1,1057),(1,1057)]
def Rj : List Atm := [(1,19),(1,1353)]
def YA : List Atm := [(1,19),(1,19),(1,1353),(1,1353)]
def qA_E : List (Nat × List Atm) := [(3495259,[(0,0)]),(3495259,[(0,1)]),(3495259,[(0,2)]),(3495259,[(0,3)]),(13981037,[]),(13981037,[]),(13981037,[]),(13981037,[]),(1,[]),(13981039,[]),(13981039,[]),(13981039,[]),(27962074,[]),(27962074,[]),(27962076,[]),(27962074,[]),(27962078,[]),(27962074,[]),(27962080,[]),(27962082,[]),(1,[]),(13981038,[]),(13981038,[]),(13981040,[]),(13981038,[]),(13981042,[]),(13981038,[]),(13981044,[]),(13981046,[]),(13981038,[]),(13981038,[]),(13981038,[]),(13981040,[]),(13981040,[]),(13981040,[]),(13981040,[]),(13981038,[]),(13981040,[]),(13981038,[]),(13981040,[]),(13981042,[]),(13981042,[]),(13981042,[]),(27962083,[]),(27962081,[]),(27962083,[]),(27962081,[]),(27962085,[]),(27962081,[]),(27962087,[]),(27962089,[]),(27962085,[]),(27962085,[]),(27962085,[]),(27962079,[]),(27962079,[]),(27962079,[]),(27962087,[]),(27962087,[]),(27962087,[]),(27962081,[]),(27962081,[]),(27962083,[]),(27962081,[]),(27962081,[]),(27962083,[]),(27962081,[]),(27962081,[]),(27962083,[]),(27962089,[]),(27962089,[]),(27962089,[]),(27962090,[(1,19)]),(27962090,[(1,19)]),(27962090,[(1,19)]),(13981040,[]),(13981042,[]),(13981044,[]),(13981046,[]),(13981040,[]),(13981040,[]),(13981040,[]),(13981040,[]),(13981040,[]),(13981042,[]),(13981042,[]),(13981042,[]),(27962083,[]),(27962081,[]),(27962083,[]),(27962081,[]),(27962085,[]),(27962081,[]),(27962087,[]),(27962089,[]),(27962085,[]),(27962085,[]),(27962085,[]),(27962079,[]),(27962079,[]),(27962079,[]),(27962087,[]),(27962087,[]),(27962087,[]),(27962081,[]),(27962081,[]),(27962083,[]),(27962081,[]),(27962081,[]),(27962083,[]),(27962081,[]),(27962081,[]),(27962083,[]),(27962089,[]),(27962089,[]),(27962089,[]),(27962090,[(1,19)]),(27962090,[(1,19)]),(27962090,[(1,19)]),(13981042,[]),(13981044,[]),(13981046,[]),(13981040,[]),(13981040,[]),(13981040,[]),(13981040,[]),(13981042,[]),(13981042,[]),(13981042,[]),(27962083,[]),(27962081,[]),(27962083,[]),(27962081,[]),(27962085,[]),(27962081,[]),(27962087,[]),(27962089,[]),(27962085,[]),(27962085,[]),(27962085,[]),(27962079,[]),(27962079,[]),(27962079,[]),(27962087,[]),(27962087,[]),(27962087,[]),(27962081,[]),(27962081,[]),(27962083,[]),(27962081,[]),(27962081,[]),(27962083,[]),(27962081,[]),(27962081,[]),(27962083,[]),(27962089,[]),(27962089,[]),(27962089,[]),(27962090,[(1,19)]),(27962090,[(1,19)]),(27962090,[(1,19)]),(17476296,[(0,1)]),(17476298,[(0,1)]),(17476296,[(0,2)]),(20971559,qA_D0),(17476296,[(0,3)]),(24466820,JV),(24466822,JV),(17476296,[(0,1)]),(17476296,[(0,2)]),(17476296,[(0,3)]),(17476299,[(0,1)]),(17476299,[(0,2)]),(17476299,[(0,3)]),(17476296,[(0,3)]),(17476296,[(0,2)]),(20971557,[(0,2),(0,3)]),(17476296,[(0,1)]),(17476296,[(0,3)]),(20971557,[(0,1),(0,3)]),(17476296,[(0,2)]),(17476296,[(0,1)]),(20971557,qA_D0),(24466819,JV),(24466819,JV),(24466819,JV),(38447859,JV),(38447858,JV),(38447860,JV),(38447858,JV),(38447862,JV),(38447858,JV),(38447864,JV),(38447866,JV),(38447861,JV),(38447861,JV),(38447861,JV),(38447856,JV),(38447856,JV),(38447856,JV),(38447863,JV),(38447863,JV),(38447863,JV),(38447858,JV),(38447858,JV),(38447860,JV),(38447858,JV),(38447858,JV),(38447860,JV),(38447858,JV),(38447858,JV),(38447860,JV),(38447865,JV),(38447865,JV),(38447865,JV),(38447866,SH),(38447866,SH),(38447866,SH),(55924180,ZI),(55924182,ZI),(55924180,ZI),(55924184,ZI),(55924180,ZI),(55924186,ZI),(55924188,ZI),(55924180,ZI),(55924182,ZI),(55924180,ZI),(55924184,ZI),(55924180,ZI),(55924186,ZI),(55924180,ZI),(55924182,ZI),(55924180,ZI),(55924184,ZI),(55924180,ZI),(55924186,ZI),(55924188,ZI),(55924180,ZI),(55924182,ZI),(55924180,ZI),(55924184,ZI),(55924180,ZI),(55924186,ZI),(55924180,ZI),(55924182,ZI),(55924180,ZI),(55924184,ZI),(55924180,ZI),(55924186,ZI),(55924188,ZI),(55924180,ZI),(55924182,ZI),(55924180,ZI),(55924184,ZI),(55924180,ZI),(55924186,ZI),(55924180,ZI),(55924180,ZI),(55924182,ZI),(55924180,ZI),(55924180,ZI),(55924182,ZI),(55924180,ZI),(55924180,ZI),(55924182,ZI),(83886272,Sm),(83886274,Sm),(83886272,Sm),(83886276,Sm),(83886272,Sm),(83886278,Sm),(2,[]),(27962091,[(1,19)]),(27962093,[(1,19)]),(27962091,[(1,19)]),(27962095,[(1,19)]),(27962091,[(1,19)]),(27962097,[(1,19)]),(27962099,[(1,19)]),(2,[]),(27962091,[(1,19)]),(27962091,[(1,19)]),(27962091,[(1,19)]),(27962093,[(1,19)]),(27962093,[(1,19)]),(27962093,[(1,19)]),(27962093,[(1,19)]),(27962093,[(1,19)]),(27962093,[(1,19)]),(27962095,[(1,19)]),(27962095,[(1,19)]),(27962095,[(1,19)]),(3,[]),(3,[]),(27962100,[(1,19)]),(27962098,[(1,19)]),(27962100,[(1,19)]),(27962098,[(1,19)]),(27962102,[(1,19)]),(27962098,[(1,19)]),(27962104,[(1,19)]),(27962106,[(1,19)]),(27962102,[(1,19)]),(27962102,[(1,19)]),(27962096,[(1,19)]),(27962096,[(1,19)]),(27962096,[(1,19)]),(27962104,[(1,19)]),(27962104,[(1,19)]),(27962104,[(1,19)]),(27962100,[(1,19)]),(27962098,[(1,19)]),(27962098,[(1,19)]),(27962100,[(1,19)]),(27962098,[(1,19)]),(27962100,[(1,19)]),(27962106,[(1,19)]),(27962106,[(1,19)]),(27962106,[(1,19)]),(27962108,[(1,19)]),(27962108,[(1,19)]),(27962108,[(1,19)]),(27962108,[(1,19)]),(27962091,[(1,19)]),(27962093,[(1,19)]),(27962091,[(1,19)]),(27962095,[(1,19)]),(27962091,[(1,19)]),(27962097,[(1,19)]),(27962099,[(1,19)]),(27962091,[(1,19)]),(27962091,[(1,19)]),(27962091,[(1,19)]),(27962093,[(1,19)]),(27962093,[(1,19)]),(27962093,[(1,19)]),(27962093,[(1,19)]),(27962093,[(1,19)]),(27962093,[(1,19)]),(27962095,[(1,19)]),(27962095,[(1,19)]),(27962095,[(1,19)]),(27962100,[(1,19)]),(27962098,[(1,19)]),(27962100,[(1,19)]),(27962098,[(1,19)]),(27962102,[(1,19)]),(27962098,[(1,19)]),(27962104,[(1,19)]),(27962106,[(1,19)]),(27962102,[(1,19)]),(27962102,[(1,19)]),(27962096,[(1,19)]),(27962096,[(1,19)]),(27962096,[(1,19)]),(27962104,[(1,19)]),(27962104,[(1,19)]),(27962104,[(1,19)]),(27962098,[(1,19)]),(27962098,[(1,19)]),(27962100,[(1,19)]),(27962100,[(1,19)]),(27962098,[(1,19)]),(27962100,[(1,19)]),(27962106,[(1,19)]),(27962106,[(1,19)]),(27962106,[(1,19)]),(27962110,[(1,19)]),(27962110,[(1,19)]),(27962110,[(1,19)]),(27962110,[(1,19)]),(27962091,[(1,19)]),(27962093,[(1,19)]),(27962091,[(1,19)]),(27962095,[(1,19)]),(27962091,[(1,19)]),(27962097,[(1,19)]),(27962099,[(1,19)]),(27962091,[(1,19)]),(27962091,[(1,19)]),(27962091,[(1,19)]),(27962093,[(1,19)]),(27962093,[(1,19)]),(27962093,[(1,19)]),(27962093,[(1,19)]),(27962093,[(1,19)]),(27962093,[(1,19)]),(27962095,[(1,19)]),(27962095,[(1,19)]),(27962095,[(1,19)]),(27962100,[(1,19)]),(27962098,[(1,19)]),(27962100,[(1,19)]),(27962098,[(1,19)]),(27962102,[(1,19)]),(27962098,[(1,19)]),(27962104,[(1,19)]),(27962106,[(1,19)]),(27962102,[(1,19)]),(27962102,[(1,19)]),(27962096,[(1,19)]),(27962096,[(1,19)]),(27962096,[(1,19)]),(27962104,[(1,19)]),(27962104,[(1,19)]),(27962104,[(1,19)]),(27962098,[(1,19)]),(27962098,[(1,19)]),(27962100,[(1,19)]),(27962098,[(1,19)]),(27962100,[(1,19)]),(27962100,[(1,19)]),(27962106,[(1,19)]),(27962106,[(1,19)]),(27962106,[(1,19)]),(27962112,[(1,19)]),(27962112,[(1,19)]),(27962112,[(1,19)]),(27962112,[(1,19)]),(27962113,[(1,416)]),(27962113,[(1,416)]),(27962113,[(1,416)]),(27962113,[(1,416)]),(27962114,[]),(27962114,[]),(27962114,[]),(27962114,[]),(27962116,[]),(27962116,[]),(27962116,[]),(55924228,[]),(55924228,[]),(55924230,[]),(55924228,[]),(55924232,[]),(55924228,[]),(55924234,[]),(55924236,[]),(27962115,[]),(27962115,[]),(27962117,[]),(27962115,[]),(27962119,[]),(27962115,[]),(27962121,[]),(27962123,[]),(27962115,[]),(27962115,[]),(27962115,[]),(27962117,[]),(27962117,[]),(27962117,[]),(27962117,[]),(27962115,[]),(27962117,[]),(27962115,[]),(27962117,[]),(27962119,[]),(27962119,[]),(27962119,[]),(55924237,[]),(55924235,[]),(55924237,[]),(55924235,[]),(55924239,[]),(55924235,[]),(55924241,[]),(55924243,[]),(55924239,[]),(55924239,[]),(55924239,[]),(55924233,[]),(55924233,[]),(55924233,[]),(55924241,[]),(55924241,[]),(55924241,[]),(55924235,[]),(55924235,[]),(55924237,[]),(55924235,[]),(55924235,[]),(55924237,[]),(55924235,[]),(55924235,[]),(55924237,[]),(55924243,[]),(55924243,[]),(55924243,[]),(55924244,[(1,438)]),(55924244,[(1,438)]),(55924244,[(1,438)]),(27962117,[]),(27962119,[]),(27962121,[]),(27962123,[]),(27962117,[]),(27962117,[]),(27962117,[]),(27962117,[]),(27962117,[]),(27962119,[]),(27962119,[]),(27962119,[]),(55924237,[]),(55924235,[]),(55924237,[]),(55924235,[]),(55924239,[]),(55924235,[]),(55924241,[]),(55924243,[]),(55924239,[]),(55924239,[]),(55924239,[]),(55924233,[]),(55924233,[]),(55924233,[]),(55924241,[]),(55924241,[]),(55924241,[]),(55924235,[]),(55924235,[]),(55924237,[]),(55924235,[]),(55924235,[]),(55924237,[]),(55924235,[]),(55924235,[]),(55924237,[]),(55924243,[]),(55924243,[]),(55924243,[]),(55924244,[(1,438)]),(55924244,[(1,438)]),(55924244,[(1,438)]),(27962119,[]),(27962121,[]),(27962123,[]),(27962117,[]),(27962117,[]),(27962117,[]),(27962117,[]),(27962119,[]),(27962119,[]),(27962119,[]),(55924237,[]),(55924235,[]),(55924237,[]),(55924235,[]),(55924239,[]),(55924235,[]),(55924241,[]),(55924243,[]),(55924239,[]),(55924239,[]),(55924239,[]),(55924233,[]),(55924233,[]),(55924233,[]),(55924241,[]),(55924241,[]),(55924241,[]),(55924235,[]),(55924235,[]),(55924237,[]),(55924235,[]),(55924235,[]),(55924237,[]),(55924235,[]),(55924235,[]),(55924237,[]),(55924243,[]),(55924243,[]),(55924243,[]),(55924244,[(1,438)]),(55924244,[(1,438)]),(55924244,[(1,438)]),(38447868,SH),(38447868,SH),(38447868,SH),(76895736,Ed),(76895736,Ed),(76895738,Ed),(76895736,Ed),(76895740,Ed),(83886328,Gp),(83886328,Gp),(83886328,Gp),(83886328,Gp),(83886328,Gp),(83886328,Gp),(83886328,Gp),(83886328,Gp),(83886328,Gp),(167772656,Wv),(167772656,Wv),(167772658,Wv),(167772656,Wv),(167772660,Wv),(167772656,Wv),(167772662,Wv),(167772656,Wv),(167772664,Wv),(167772656,Wv),(167772666,Wv),(167772656,Wv),(167772668,Wv),(167772656,Wv),(167772670,Wv),(167772656,Wv),(167772672,Wv),(27962093,[(1,19)]),(27962095,[(1,19)]),(27962097,[(1,19)]),(27962099,[(1,19)]),(2,[]),(27962093,[(1,19)]),(27962093,[(1,19)]),(27962093,[(1,19)]),(27962093,[(1,19)]),(27962093,[(1,19)]),(27962095,[(1,19)]),(27962095,[(1,19)]),(27962095,[(1,19)]),(27962100,[(1,19)]),(27962098,[(1,19)]),(27962100,[(1,19)]),(27962098,[(1,19)]),(27962102,[(1,19)]),(27962098,[(1,19)]),(27962104,[(1,19)]),(27962106,[(1,19)]),(27962102,[(1,19)]),(27962102,[(1,19)]),(27962096,[(1,19)]),(27962096,[(1,19)]),(27962096,[(1,19)]),(27962104,[(1,19)]),(27962104,[(1,19)]),(27962104,[(1,19)]),(27962100,[(1,19)]),(27962098,[(1,19)]),(27962098,[(1,19)]),(27962100,[(1,19)]),(27962098,[(1,19)]),(27962100,[(1,19)]),(27962106,[(1,19)]),(27962106,[(1,19)]),(27962106,[(1,19)]),(27962108,[(1,19)]),(27962108,[(1,19)]),(27962108,[(1,19)]),(27962108,[(1,19)]),(27962093,[(1,19)]),(27962095,[(1,19)]),(27962097,[(1,19)]),(27962099,[(1,19)]),(27962093,[(1,19)]),(27962093,[(1,19)]),(27962093,[(1,19)]),(27962093,[(1,19)]),(27962093,[(1,19)]),(27962095,[(1,19)]),(27962095,[(1,19)]),(27962095,[(1,19)]),(27962100,[(1,19)]),(27962098,[(1,19)]),(27962100,[(1,19)]),(27962098,[(1,19)]),(27962102,[(1,19)]),(27962098,[(1,19)]),(27962104,[(1,19)]),(27962106,[(1,19)]),(27962102,[(1,19)]),(27962102,[(1,19)]),(27962096,[(1,19)]),(27962096,[(1,19)]),(27962096,[(1,19)]),(27962104,[(1,19)]),(27962104,[(1,19)]),(27962104,[(1,19)]),(27962098,[(1,19)]),(27962098,[(1,19)]),(27962100,[(1,19)]),(27962100,[(1,19)]),(27962098,[(1,19)]),(27962100,[(1,19)]),(27962106,[(1,19)]),(27962106,[(1,19)]),(27962106,[(1,19)]),(27962110,[(1,19)]),(27962110,[(1,19)]),(27962110,[(1,19)]),(27962110,[(1,19)]),(27962093,[(1,19)]),(27962095,[(1,19)]),(27962097,[(1,19)]),(27962099,[(1,19)]),(27962093,[(1,19)]),(27962093,[(1,19)]),(27962093,[(1,19)]),(27962093,[(1,19)]),(27962093,[(1,19)]),(27962095,[(1,19)]),(27962095,[(1,19)]),(27962095,[(1,19)]),(27962100,[(1,19)]),(27962098,[(1,19)]),(27962100,[(1,19)]),(27962098,[(1,19)]),(27962102,[(1,19)]),(27962098,[(1,19)]),(27962104,[(1,19)]),(27962106,[(1,19)]),(27962102,[(1,19)]),(27962102,[(1,19)]),(27962096,[(1,19)]),(27962096,[(1,19)]),(27962096,[(1,19)]),(27962104,[(1,19)]),(27962104,[(1,19)]),(27962104,[(1,19)]),(27962098,[(1,19)]),(27962098,[(1,19)]),(27962100,[(1,19)]),(27962098,[(1,19)]),(27962100,[(1,19)]),(27962100,[(1,19)]),(27962106,[(1,19)]),(27962106,[(1,19)]),(27962106,[(1,19)]),(27962112,[(1,19)]),(27962112,[(1,19)]),(27962112,[(1,19)]),(27962112,[(1,19)]),(27962113,[(1,734)]),(27962113,[(1,734)]),(27962113,[(1,734)]),(27962113,[(1,734)]),(27962114,[]),(27962114,[]),(27962114,[]),(27962114,[]),(27962116,[]),(27962116,[]),(27962116,[]),(55924228,[]),(55924228,[]),(55924230,[]),(55924228,[]),(55924232,[]),(55924228,[]),(55924234,[]),(55924236,[]),(27962115,[]),(27962115,[]),(27962117,[]),(27962115,[]),(27962119,[]),(27962115,[]),(27962121,[]),(27962123,[]),(27962115,[]),(27962115,[]),(27962115,[]),(27962117,[]),(27962117,[]),(27962117,[]),(27962117,[]),(27962115,[]),(27962117,[]),(27962115,[]),(27962117,[]),(27962119,[]),(27962119,[]),(27962119,[]),(55924237,[]),(55924235,[]),(55924237,[]),(55924235,[]),(55924239,[]),(55924235,[]),(55924241,[]),(55924243,[]),(55924239,[]),(55924239,[]),(55924239,[]),(55924233,[]),(55924233,[]),(55924233,[]),(55924241,[]),(55924241,[]),(55924241,[]),(55924235,[]),(55924235,[]),(55924237,[]),(55924235,[]),(55924235,[]),(55924237,[]),(55924235,[]),(55924235,[]),(55924237,[]),(55924243,[]),(55924243,[]),(55924243,[]),(55924244,[(1,755)]),(55924244,[(1,755)]),(55924244,[(1,755)]),(27962117,[]),(27962119,[]),(27962121,[]),(27962123,[]),(27962117,[]),(27962117,[]),(27962117,[]),(27962117,[]),(27962117,[]),(27962119,[]),(27962119,[]),(27962119,[]),(55924237,[]),(55924235,[]),(55924237,[]),(55924235,[]),(55924239,[]),(55924235,[]),(55924241,[]),(55924243,[]),(55924239,[]),(55924239,[]),(55924239,[]),(55924233,[]),(55924233,[]),(55924233,[]),(55924241,[]),(55924241,[]),(55924241,[]),(55924235,[]),(55924235,[]),(55924237,[]),(55924235,[]),(55924235,[]),(55924237,[]),(55924235,[]),(55924235,[]),(55924237,[]),(55924243,[]),(55924243,[]),(55924243,[]),(55924244,[(1,755)]),(55924244,[(1,755)]),(55924244,[(1,755)]),(27962119,[]),(27962121,[]),(27962123,[]),(27962117,[]),(27962117,[]),(27962117,[]),(27962117,[]),(27962119,[]),(27962119,[]),(27962119,[]),(55924237,[]),(55924235,[]),(55924237,[]),(55924235,[]),(55924239,[]),(55924235,[]),(55924241,[]),(55924243,[]),(55924239,[]),(55924239,[]),(55924239,[]),(55924233,[]),(55924233,[]),(55924233,[]),(55924241,[]),(55924241,[]),(55924241,[]),(55924235,[]),(55924235,[]),(55924237,[]),(55924235,[]),(55924235,[]),(55924237,[]),(55924235,[]),(55924235,[]),(55924237,[]),(55924243,[]),(55924243,[]),(55924243,[]),(55924244,[(1,755)]),(55924244,[(1,755)]),(55924244,[(1,755)]),(83886328,GK),(83886328,GK),(83886328,GK),(83886328,GK),(83886328,GK),(83886328,GK),(83886328,GK),(83886328,GK),(83886328,GK),(167772656,WB),(167772656,WB),(167772658,WB),(167772656,WB),(167772660,WB),(167772656,WB),(167772662,WB),(167772656,WB),(167772664,WB),(167772656,WB),(167772666,WB),(167772656,WB),(167772668,WB),(167772656,WB),(167772670,WB),(167772656,WB),(167772672,WB),(27962095,[(1,19)]),(27962097,[(1,19)]),(27962099,[(1,19)]),(27962093,[(1,19)]),(27962093,[(1,19)]),(27962093,[(1,19)]),(27962093,[(1,19)]),(27962095,[(1,19)]),(27962095,[(1,19)]),(27962095,[(1,19)]),(27962100,[(1,19)]),(27962098,[(1,19)]),(27962100,[(1,19)]),(27962098,[(1,19)]),(27962102,[(1,19)]),(27962098,[(1,19)]),(27962104,[(1,19)]),(27962106,[(1,19)]),(27962102,[(1,19)]),(27962102,[(1,19)]),(27962096,[(1,19)]),(27962096,[(1,19)]),(27962096,[(1,19)]),(27962104,[(1,19)]),(27962104,[(1,19)]),(27962104,[(1,19)]),(27962100,[(1,19)]),(27962098,[(1,19)]),(27962098,[(1,19)]),(27962100,[(1,19)]),(27962098,[(1,19)]),(27962100,[(1,19)]),(27962106,[(1,19)]),(27962106,[(1,19)]),(27962106,[(1,19)]),(27962108,[(1,19)]),(27962108,[(1,19)]),(27962108,[(1,19)]),(27962108,[(1,19)]),(27962095,[(1,19)]),(27962097,[(1,19)]),(27962099,[(1,19)]),(27962093,[(1,19)]),(27962093,[(1,19)]),(27962093,[(1,19)]),(27962093,[(1,19)]),(27962095,[(1,19)]),(27962095,[(1,19)]),(27962095,[(1,19)]),(27962100,[(1,19)]),(27962098,[(1,19)]),(27962100,[(1,19)]),(27962098,[(1,19)]),(27962102,[(1,19)]),(27962098,[(1,19)]),(27962104,[(1,19)]),(27962106,[(1,19)]),(27962102,[(1,19)]),(27962102,[(1,19)]),(27962096,[(1,19)]),(27962096,[(1,19)]),(27962096,[(1,19)]),(27962104,[(1,19)]),(27962104,[(1,19)]),(27962104,[(1,19)]),(27962098,[(1,19)]),(27962098,[(1,19)]),(27962100,[(1,19)]),(27962100,[(1,19)]),(27962098,[(1,19)]),(27962100,[(1,19)]),(27962106,[(1,19)]),(27962106,[(1,19)]),(27962106,[(1,19)]),(27962110,[(1,19)]),(27962110,[(1,19)]),(27962110,[(1,19)]),(27962110,[(1,19)]),(27962095,[(1,19)]),(27962097,[(1,19)]),(27962099,[(1,19)]),(27962093,[(1,19)]),(27962093,[(1,19)]),(27962093,[(1,19)]),(27962093,[(1,19)]),(27962095,[(1,19)]),(27962095,[(1,19)]),(27962095,[(1,19)]),(27962100,[(1,19)]),(27962098,[(1,19)]),(27962100,[(1,19)]),(27962098,[(1,19)]),(27962102,[(1,19)]),(27962098,[(1,19)]),(27962104,[(1,19)]),(27962106,[(1,19)]),(27962102,[(1,19)]),(27962102,[(1,19)]),(27962096,[(1,19)]),(27962096,[(1,19)]),(27962096,[(1,19)]),(27962104,[(1,19)]),(27962104,[(1,19)]),(27962104,[(1,19)]),(27962098,[(1,19)]),(27962098,[(1,19)]),(27962100,[(1,19)]),(27962098,[(1,19)]),(27962100,[(1,19)]),(27962100,[(1,19)]),(27962106,[(1,19)]),(27962106,[(1,19)]),(27962106,[(1,19)]),(27962112,[(1,19)]),(27962112,[(1,19)]),(27962112,[(1,19)]),(27962112,[(1,19)]),(27962113,[(1,1037)]),(27962113,[(1,1037)]),(27962113,[(1,1037)]),(27962113,[(1,1037)]),(27962114,[]),(27962114,[]),(27962114,[]),(27962114,[]),(27962116,[]),(27962116,[]),(27962116,[]),(55924228,[]),(55924228,[]),(55924230,[]),(55924228,[]),(55924232,[]),(55924228,[]),(55924234,[]),(55924236,[]),(27962115,[]),(27962115,[]),(27962117,[]),(27962115,[]),(27962119,[]),(27962115,[]),(27962121,[]),(27962123,[]),(27962115,[]),(27962115,[]),(27962115,[]),(27962117,[]),(27962117,[]),(27962117,[]),(27962117,[]),(27962115,[]),(27962117,[]),(27962115,[]),(27962117,[]),(27962119,[]),(27962119,[]),(27962119,[]),(55924237,[]),(55924235,[]),(55924237,[]),(55924235,[]),(55924239,[]),(55924235,[]),(55924241,[]),(55924243,[]),(55924239,[]),(55924239,[]),(55924239,[]),(55924233,[]),(55924233,[]),(55924233,[]),(55924241,[]),(55924241,[]),(55924241,[]),(55924235,[]),(55924235,[]),(55924237,[]),(55924235,[]),(55924235,[]),(55924237,[]),(55924235,[]),(55924235,[]),(55924237,[]),(55924243,[]),(55924243,[]),(55924243,[]),(55924244,[(1,1057)]),(55924244,[(1,1057)]),(55924244,[(1,1057)]),(27962117,[]),(27962119,[]),(27962121,[]),(27962123,[]),(27962117,[]),(27962117,[]),(27962117,[]),(27962117,[]),(27962117,[]),(27962119,[]),(27962119,[]),(27962119,[]),(55924237,[]),(55924235,[]),(55924237,[]),(55924235,[]),(55924239,[]),(55924235,[]),(55924241,[]),(55924243,[]),(55924239,[]),(55924239,[]),(55924239,[]),(55924233,[]),(55924233,[]),(55924233,[]),(55924241,[]),(55924241,[]),(55924241,[]),(55924235,[]),(55924235,[]),(55924237,[]),(55924235,[]),(55924235,[]),(55924237,[]),(55924235,[]),(55924235,[]),(55924237,[]),(55924243,[]),(55924243,[]),(55924243,[]),(55924244,[(1,1057)]),(55924244,[(1,1057)]),(55924244,[(1,1057)]),(27962119,[]),(27962121,[]),(27962123,[]),(27962117,[]),(27962117,[]),(27962117,[]),(27962117,[]),(27962119,[]),(27962119,[]),(27962119,[]),(55924237,[]),(55924235,[]),(55924237,[]),(55924235,[]),(55924239,[]),(55924235,[]),(55924241,[]),(55924243,[]),(55924239,[]),(55924239,[]),(55924239,[]),(55924233,[]),(55924233,[]),(55924233,[]),(55924241,[]),(55924241,[]),(55924241,[]),(55924235,[]),(55924235,[]),(55924237,[]),(55924235,[]),(55924235,[]),(55924237,[]),(55924235,[]),(55924235,[]),(55924237,[]),(55924243,[]),(55924243,[]),(55924243,[]),(55924244,[(1,1057)]),(55924244,[(1,1057)]),(55924244,[(1,1057)]),(83886328,Re),(83886328,Re),(83886328,Re),(83886328,Re),(83886328,Re),(83886328,Re),(83886328,Re),(83886328,Re),(83886328,Re),(167772656,Yy),(167772656,Yy),(167772658,Yy),(167772656,Yy),(167772660,Yy),(167772656,Yy),(167772662,Yy),(167772656,Yy),(167772664,Yy),(167772656,Yy),(167772666,Yy),(167772656,Yy),(167772668,Yy),(167772656,Yy),(167772670,Yy),(167772656,Yy),(167772672,Yy),(27962097,[(1,19)]),(27962099,[(1,19)]),(27962093,[(1,19)]),(27962093,[(1,19)]),(27962093,[(1,19)]),(27962095,[(1,19)]),(27962095,[(1,19)]),(27962095,[(1,19)]),(27962100,[(1,19)]),(27962098,[(1,19)]),(27962100,[(1,19)]),(27962098,[(1,19)]),(27962102,[(1,19)]),(27962098,[(1,19)]),(27962104,[(1,19)]),(27962106,[(1,19)]),(27962102,[(1,19)]),(27962102,[(1,19)]),(27962096,[(1,19)]),(27962096,[(1,19)]),(27962096,[(1,19)]),(27962104,[(1,19)]),(27962104,[(1,19)]),(27962104,[(1,19)]),(27962100,[(1,19)]),(27962098,[(1,19)]),(27962098,[(1,19)]),(27962100,[(1,19)]),(27962098,[(1,19)]),(27962100,[(1,19)]),(27962106,[(1,19)]),(27962106,[(1,19)]),(27962106,[(1,19)]),(27962108,[(1,19)]),(27962108,[(1,19)]),(27962108,[(1,19)]),(27962108,[(1,19)]),(27962097,[(1,19)]),(27962099,[(1,19)]),(27962093,[(1,19)]),(27962093,[(1,19)]),(27962093,[(1,19)]),(27962095,[(1,19)]),(27962095,[(1,19)]),(27962095,[(1,19)]),(27962100,[(1,19)]),(27962098,[(1,19)]),(27962100,[(1,19)]),(27962098,[(1,19)]),(27962102,[(1,19)]),(27962098,[(1,19)]),(27962104,[(1,19)]),(27962106,[(1,19)]),(27962102,[(1,19)]),(27962102,[(1,19)]),(27962096,[(1,19)]),(27962096,[(1,19)]),(27962096,[(1,19)]),(27962104,[(1,19)]),(27962104,[(1,19)]),(27962104,[(1,19)]),(27962098,[(1,19)]),(27962098,[(1,19)]),(27962100,[(1,19)]),(27962100,[(1,19)]),(27962098,[(1,19)]),(27962100,[(1,19)]),(27962106,[(1,19)]),(27962106,[(1,19)]),(27962106,[(1,19)]),(27962110,[(1,19)]),(27962110,[(1,19)]),(27962110,[(1,19)]),(27962110,[(1,19)]),(27962097,[(1,19)]),(27962099,[(1,19)]),(27962093,[(1,19)]),(27962093,[(1,19)]),(27962093,[(1,19)]),(27962095,[(1,19)]),(27962095,[(1,19)]),(27962095,[(1,19)]),(27962100,[(1,19)]),(27962098,[(1,19)]),(27962100,[(1,19)]),(27962098,[(1,19)]),(27962102,[(1,19)]),(27962098,[(1,19)]),(27962104,[(1,19)]),(27962106,[(1,19)]),(27962102,[(1,19)]),(27962102,[(1,19)]),(27962096,[(1,19)]),(27962096,[(1,19)]),(27962096,[(1,19)]),(27962104,[(1,19)]),(27962104,[(1,19)]),(27962104,[(1,19)]),(27962098,[(1,19)]),(27962098,[(1,19)]),(27962100,[(1,19)]),(27962098,[(1,19)]),(27962100,[(1,19)]),(27962100,[(1,19)]),(27962106,[(1,19)]),(27962106,[(1,19)]),(27962106,[(1,19)]),(27962112,[(1,19)]),(27962112,[(1,19)]),(27962112,[(1,19)]),(27962112,[(1,19)]),(27962113,[(1,1334)]),(27962113,[(1,1334)]),(27962113,[(1,1334)]),(27962113,[(1,1334)]),(27962114,[]),(27962114,[]),(27962114,[]),(27962114,[]),(27962116,[]),(27962116,[]),(27962116,[]),(55924228,[]),(55924228,[]),(55924230,[]),(55924228,[]),(55924232,[]),(55924228,[]),(55924234,[]),(55924236,[]),(27962115,[]),(27962115,[]),(27962117,[]),(27962115,[]),(27962119,[]),(27962115,[]),(27962121,[]),(27962123,[]),(27962115,[]),(27962115,[]),(27962115,[]),(27962117,[]),(27962117,[]),(27962117,[]),(27962117,[]),(27962115,[]),(27962117,[]),(27962115,[]),(27962117,[]),(27962119,[]),(27962119,[]),(27962119,[]),(55924237,[]),(55924235,[]),(55924237,[]),(55924235,[]),(55924239,[]),(55924235,[]),(55924241,[]),(55924243,[]),(55924239,[]),(55924239,[]),(55924239,[]),(55924233,[]),(55924233,[]),(55924233,[]),(55924241,[]),(55924241,[]),(55924241,[]),(55924235,[]),(55924235,[]),(55924237,[]),(55924235,[]),(55924235,[]),(55924237,[]),(55924235,[]),(55924235,[]),(55924237,[]),(55924243,[]),(55924243,[]),(55924243,[]),(55924244,[(1,1353)]),(55924244,[(1,1353)]),(55924244,[(1,1353)]),(27962117,[]),(27962119,[]),(27962121,[]),(27962123,[]),(27962117,[]),(27962117,[]),(27962117,[]),(27962117,[]),(27962117,[]),(27962119,[]),(27962119,[]),(27962119,[]),(55924237,[]),(55924235,[]),(55924237,[]),(55924235,[]),(55924239,[]),(55924235,[]),(55924241,[]),(55924243,[]),(55924239,[]),(55924239,[]),(55924239,[]),(55924233,[]),(55924233,[]),(55924233,[]),(55924241,[]),(55924241,[]),(55924241,[]),(55924235,[]),(55924235,[]),(55924237,[]),(55924235,[]),(55924235,[]),(55924237,[]),(55924235,[]),(55924235,[]),(55924237,[]),(55924243,[]),(55924243,[]),(55924243,[]),(55924244,[(1,1353)]),(55924244,[(1,1353)]),(55924244,[(1,1353)]),(27962119,[]),(27962121,[]),(27962123,[]),(27962117,[]),(27962117,[]),(27962117,[]),(27962117,[]),(27962119,[]),(27962119,[]),(27962119,[]),(55924237,[]),(55924235,[]),(55924237,[]),(55924235,[]),(55924239,[]),(55924235,[]),(55924241,[]),(55924243,[]),(55924239,[]),(55924239,[]),(55924239,[]),(55924233,[]),(55924233,[]),(55924233,[]),(55924241,[]),(55924241,[]),(55924241,[]),(55924235,[]),(55924235,[]),(55924237,[]),(55924235,[]),(55924235,[]),(55924237,[]),(55924235,[]),(55924235,[]),(55924237,[]),(55924243,[]),(55924243,[]),(55924243,[]),(55924244,[(1,1353)]),(55924244,[(1,1353)]),(55924244,[(1,1353)]),(83886328,Rj),(83886328,Rj),(83886328,Rj),(83886328,Rj),(83886328,Rj),(83886328,Rj),(83886328,Rj),(83886328,Rj),(83886328,Rj),(167772656,YA),(167772656,YA),(167772658,YA),(167772656,YA),(167772660,YA),(167772656,YA),(167772662,YA),(167772656,YA),(167772664,YA),(167772656,YA),(167772666,YA),(167772656,YA),(167772668,YA),(167772656,YA),(167772670,YA),(167772656,YA),(167772672,YA)]
abbrev Zs (q : Nat→Rat) (σ : Nat→ByteArray) : Prop := ∀ (a : Nat) nd,qA_N[a]? = some nd→q a=Zr σ q nd
variable {q : Nat→Rat} {σ : Nat→ByteArray}
theorem Ar : wfB 0 qA_N=true := by kernel_rfl
theorem qA_app {E : List (Nat × List Atm)} : ∀ (n k : Nat) (ns : List Nd) (ps : List (Nat × List Atm)) (zs : List Nat),saB E k (ns.take n) (ps.take n) (zs.take n)=true→saB E (k+n) (ns.drop n) (ps.drop n) (zs.drop n)=true→saB E k ns ps zs=true
 | 0,_,_,_,_,_,h => h
 | _+1,_,[],[],[],_,_ => rfl
 | _+1,_,[],[],_ :: _,h,_ => by cases h
 | _+1,_,[],_ :: _,_,h,_ => by cases h
 | _+1,_,_ :: _,[],_,h,_ => by cases h
 | _+1,_,_ :: _,_ :: _,[],h,_ => by cases h
 | n+1,k,nd :: ns,p :: ps,z :: zs,h,g => by
  rw [List.take_succ_cons,List.take_succ_cons,List.take_succ_cons] at h
  unfold saB at h ⊢
  rw [Bool.and_eq_true] at h ⊢
  exact ⟨h.1,qA_app n (k+1) ns ps zs h.2 (by rw [show k+1+n=k+(n+1) by omega]; exact g)⟩
theorem qA_sz0 : saB qA_E 0 (qA_N.take 400) (qA_E.take 400) (Wz.take 400)=true := by kernel_rfl
theorem qA_sz1 : saB qA_E 400 ((qA_N.drop 400).take 400) ((qA_E.drop 400).take 400) ((Wz.drop 400).take 400)=true := by kernel_rfl
theorem qA_sz2 : saB qA_E 800 ((qA_N.drop 800).take 400) ((qA_E.drop 800).take 400) ((Wz.drop 800).take 400)=true := by kernel_rfl
theorem qA_sz3 : saB qA_E 1200 (qA_N.drop 1200) (qA_E.drop 1200) (Wz.drop 1200)=true := by kernel_rfl
theorem qA_dd {α : Type} (l : List α) (a b c : Nat) (h : a+b=c) : (l.drop a).drop b=l.drop c := by rw [List.drop_drop,h]
theorem qA_sz : saB qA_E 0 qA_N qA_E Wz=true := (qA_app 400 0 _ _ _ qA_sz0 ((qA_app 400 400 _ _ _ qA_sz1 (by rw [qA_dd _ 400 400 800 rfl,qA_dd _ 400 400 800 rfl,qA_dd _ 400 400 800 rfl]; exact (qA_app 400 800 _ _ _ qA_sz2 (by rw [qA_dd _ 800 400 1200 rfl,qA_dd _ 800 400 1200 rfl,qA_dd _ 800 400 1200 rfl]; exact qA_sz3))))))
theorem qA_lt : KZ qA_N Wu=true := by kernel_rfl
theorem qA_cn : Gb qA_N Wx=true := by kernel_rfl
theorem Dc : cst 0 0 1=(0 : Rat) := by decide +kernel
theorem Lf : cst 0 1 1=(1 : Rat) := by decide +kernel
def qA_A : List AV := [(false,[(true,[.inr (2,0,0,0,0),.inr (2,1,0,0,0),.inr (2,2,0,0,0),.inr (2,3,0,0,0)])])]
theorem V3s {x y z m1 m2 m3 s t : Rat} (h1 : m1=x*x) (h2 : m2=y*y) (hs : s=m1+m2) (h3 : m3=z*z) (ht : t=s+m3) : t=0 ↔ ((x=0∧y=0)∧z=0) := by
 have a1 := QJ x
 have a2 := QJ y
 have a3 := QJ z
 subst_vars
 constructor
 ·intro h
  refine ⟨⟨a1.2.1 ?_,a2.2.1 ?_⟩,a3.2.1 ?_⟩ <;> grind
 ·rintro ⟨⟨h1,h2⟩,h3⟩
  rw [h1,h2,h3]; grind
theorem Ul {a b c d e f g h i : Rat} (r11 : a*a+b*b+c*c=1) (r22 : d*d+e*e+f*f=1) (r33 : g*g+h*h+i*i=1) (r12 : a*d+b*e+c*f=0) (r13 : a*g+b*h+c*i=0) (r23 : d*g+e*h+f*i=0) (hd : 0 < a*(e*i - f*h)+b*(f*g - d*i)+c*(d*h - e*g)) :
  (e*i - f*h=a∧f*g - d*i=b∧d*h - e*g=c)∧(h*c - i*b=d∧i*a - g*c=e∧g*b - h*a=f)∧(b*f - c*e=g∧c*d - a*f=h∧a*e - b*d=i) := by
 have gram : (a*(e*i - f*h)+b*(f*g - d*i)+c*(d*h - e*g))*(a*(e*i - f*h)+b*(f*g - d*i)+c*(d*h - e*g))=(a*a+b*b+c*c)*((d*d+e*e+f*f)*(g*g+h*h+i*i) - (d*g+e*h+f*i)*(d*g+e*h+f*i)) - (a*d+b*e+c*f)*((a*d+b*e+c*f)*(g*g+h*h+i*i) - (d*g+e*h+f*i)*(a*g+b*h+c*i))+(a*g+b*h+c*i)*((a*d+b*e+c*f)*(d*g+e*h+f*i) - (d*d+e*e+f*f)*(a*g+b*h+c*i)) := by clear r11 r22 r33 r12 r13 r23 hd; grind
 rw [r11,r22,r33,r12,r13,r23] at gram
 generalize hD : a*(e*i - f*h)+b*(f*g - d*i)+c*(d*h - e*g)=D at *
 have one : D=1 := by
  have p : (D - 1)*(D+1)=0 := by grind
  rcases Rat.mul_eq_zero.1 p with q | q <;> grind
 subst one
 have l1 : (e*i - f*h)*(e*i - f*h)+(f*g - d*i)*(f*g - d*i)+(d*h - e*g)*(d*h - e*g)=1 := by
  have : (e*i - f*h)*(e*i - f*h)+(f*g - d*i)*(f*g - d*i)+(d*h - e*g)*(d*h - e*g)=(d*d+e*e+f*f)*(g*g+h*h+i*i) - (d*g+e*h+f*i)*(d*g+e*h+f*i) := by clear r11 r22 r33 r12 r13 r23 hd gram hD; grind
  rw [this,r22,r33,r23]; grind
 have l2 : (h*c - i*b)*(h*c - i*b)+(i*a - g*c)*(i*a - g*c)+(g*b - h*a)*(g*b - h*a)=1 := by
  have : (h*c - i*b)*(h*c - i*b)+(i*a - g*c)*(i*a - g*c)+(g*b - h*a)*(g*b - h*a)=(a*a+b*b+c*c)*(g*g+h*h+i*i) - (a*g+b*h+c*i)*(a*g+b*h+c*i) := by clear r11 r22 r33 r12 r13 r23 hd gram hD l1; grind
  rw [this,r11,r33,r13]; grind
 have l3 : (b*f - c*e)*(b*f - c*e)+(c*d - a*f)*(c*d - a*f)+(a*e - b*d)*(a*e - b*d)=1 := by
  have : (b*f - c*e)*(b*f - c*e)+(c*d - a*f)*(c*d - a*f)+(a*e - b*d)*(a*e - b*d)=(d*d+e*e+f*f)*(a*a+b*b+c*c) - (a*d+b*e+c*f)*(a*d+b*e+c*f) := by clear r11 r22 r33 r12 r13 r23 hd gram hD l1 l2; grind
  rw [this,r11,r22,r12]; grind
 have z : ∀ {x y z u v w : Rat},x*x+y*y+z*z=1→u*u+v*v+w*w=1→u*x+v*y+w*z=1→x=u∧y=v∧z=w := by
  intro x y z u v w p q r
  have s : (x - u)*(x - u)+(y - v)*(y - v)+(z - w)*(z - w)=0 := by grind
  have a1 := QJ (x - u)
  have a2 := QJ (y - v)
  have a3 := QJ (z - w)
  have b1 := a1.2.1 (by grind)
  have b2 := a2.2.1 (by grind)
  have b3 := a3.2.1 (by grind)
  exact ⟨by grind,by grind,by grind⟩
 refine ⟨z l1 r11 hD,z l2 r22 ?_,z l3 r33 ?_⟩
 ·rw [← hD]; clear r11 r22 r33 r12 r13 r23 gram hD l1 l2 l3; grind
 ·rw [← hD]; clear r11 r22 r33 r12 r13 r23 gram hD l1 l2 l3; grind
theorem Qb {k x y : Rat} (h : k ≠ 0) (e : x*k=y*k) : x=y := by
 have : (x - y)*k=0 := by grind
 have := (Rat.mul_eq_zero.1 this).resolve_right h
 grind
theorem TQ {a b c d e f g h i s x y z : Rat} (r11 : a*a+b*b+c*c=1) (r22 : d*d+e*e+f*f=1) (r33 : g*g+h*h+i*i=1) (r12 : a*d+b*e+c*f=0) (r13 : a*g+b*h+c*i=0) (r23 : d*g+e*h+f*i=0) (hd : 0 < a*(e*i - f*h)+b*(f*g - d*i)+c*(d*h - e*g)) (es : s=1+a+e+i) (hs : s ≠ 0) (hx : x*s=h - f) (hy : y*s=c - g) (hz : z*s=d - b) :
  ((1+x*x - y*y - z*z)=a*(1+x*x+y*y+z*z)∧2*(x*y - z)=b*(1+x*x+y*y+z*z)∧2*(x*z+y)=c*(1+x*x+y*y+z*z))∧(2*(x*y+z)=d*(1+x*x+y*y+z*z)∧(1 - x*x+y*y - z*z)=e*(1+x*x+y*y+z*z)∧2*(y*z - x)=f*(1+x*x+y*y+z*z))∧(2*(x*z - y)=g*(1+x*x+y*y+z*z)∧2*(y*z+x)=h*(1+x*x+y*y+z*z)∧(1 - x*x - y*y+z*z)=i*(1+x*x+y*y+z*z)) := by
 obtain ⟨⟨c1,c2,c3⟩,⟨c4,c5,c6⟩,⟨c7,c8,c9⟩⟩ := Ul r11 r22 r33 r12 r13 r23 hd
 clear hd
 have k : s*s ≠ 0 := ZH hs hs
 have xx : x*x*(s*s)=(h - f)*(h - f) := by rw [← hx]; grind
 have yy : y*y*(s*s)=(c - g)*(c - g) := by rw [← hy]; grind
 have zz : z*z*(s*s)=(d - b)*(d - b) := by rw [← hz]; grind
 have xy : x*y*(s*s)=(h - f)*(c - g) := by rw [← hx,← hy]; grind
 have xz : x*z*(s*s)=(h - f)*(d - b) := by rw [← hx,← hz]; grind
 have yz : y*z*(s*s)=(c - g)*(d - b) := by rw [← hy,← hz]; grind
 have sx : x*(s*s)=(h - f)*s := by rw [← hx]; grind
 have sy : y*(s*s)=(c - g)*s := by rw [← hy]; grind
 have sz : z*(s*s)=(d - b)*s := by rw [← hz]; grind
 have n : (1+x*x+y*y+z*z)*(s*s)=4*s := by
  have : (1+x*x+y*y+z*z)*(s*s)=s*s+x*x*(s*s)+y*y*(s*s)+z*z*(s*s) := by grind
  rw [this,xx,yy,zz,es]; clear this xx yy zz xy xz yz sx sy sz hx hy hz k hs; grind
 have N : ∀ t,t*(1+x*x+y*y+z*z)*(s*s)=t*(4*s) := fun t => by rw [← n]; grind
 clear hx hy hz n
 generalize 1+x*x+y*y+z*z=M at *
 refine ⟨⟨?_,?_,?_⟩,⟨?_,?_,?_⟩,⟨?_,?_,?_⟩⟩ <;> refine Qb k ?_ <;> rw [N]
 ·have : (1+x*x - y*y - z*z)*(s*s)=s*s+x*x*(s*s) - y*y*(s*s) - z*z*(s*s) := by grind
  rw [this,xx,yy,zz,es]; clear this xx yy zz xy xz yz sx sy sz N k hs; grind
 ·have : 2*(x*y - z)*(s*s)=2*(x*y*(s*s) - z*(s*s)) := by grind
  rw [this,xy,sz,es]; clear this xx yy zz xy xz yz sx sy sz N k hs; grind
 ·have : 2*(x*z+y)*(s*s)=2*(x*z*(s*s)+y*(s*s)) := by grind
  rw [this,xz,sy,es]; clear this xx yy zz xy xz yz sx sy sz N k hs; grind
 ·have : 2*(x*y+z)*(s*s)=2*(x*y*(s*s)+z*(s*s)) := by grind
  rw [this,xy,sz,es]; clear this xx yy zz xy xz yz sx sy sz N k hs; grind
 ·have : (1 - x*x+y*y - z*z)*(s*s)=s*s - x*x*(s*s)+y*y*(s*s) - z*z*(s*s) := by grind
  rw [this,xx,yy,zz,es]; clear this xx yy zz xy xz yz sx sy sz N k hs; grind
 ·have : 2*(y*z - x)*(s*s)=2*(y*z*(s*s) - x*(s*s)) := by grind
  rw [this,yz,sx,es]; clear this xx yy zz xy xz yz sx sy sz N k hs; grind
 ·have : 2*(x*z - y)*(s*s)=2*(x*z*(s*s) - y*(s*s)) := by grind
  rw [this,xz,sy,es]; clear this xx yy zz xy xz yz sx sy sz N k hs; grind
 ·have : 2*(y*z+x)*(s*s)=2*(y*z*(s*s)+x*(s*s)) := by grind
  rw [this,yz,sx,es]; clear this xx yy zz xy xz yz sx sy sz N k hs; grind
 ·have : (1 - x*x - y*y+z*z)*(s*s)=s*s - x*x*(s*s) - y*y*(s*s)+z*z*(s*s) := by grind
  rw [this,xx,yy,zz,es]; clear this xx yy zz xy xz yz sx sy sz N k hs; grind
theorem Oe {a b c d e f g h i : Rat} (r11 : a*a+b*b+c*c=1) (r22 : d*d+e*e+f*f=1) (r33 : g*g+h*h+i*i=1) (r12 : a*d+b*e+c*f=0) (r13 : a*g+b*h+c*i=0) (r23 : d*g+e*h+f*i=0) (hd : 0 < a*(e*i - f*h)+b*(f*g - d*i)+c*(d*h - e*g)) (hs : 1+a+e+i=0) :
  (d=b∧g=c∧h=f)∧(b*b=(a+1)*(e+1)∧c*c=(a+1)*(i+1)∧f*f=(e+1)*(i+1))∧(b*c=(a+1)*f∧b*f=(e+1)*c∧c*f=(i+1)*b) := by
 obtain ⟨⟨c1,c2,c3⟩,⟨c4,c5,c6⟩,⟨c7,c8,c9⟩⟩ := Ul r11 r22 r33 r12 r13 r23 hd
 clear hd
 have s : (h - f)*(h - f)+(c - g)*(c - g)+(d - b)*(d - b)=0 := by
  have : (h - f)*(h - f)+(c - g)*(c - g)+(d - b)*(d - b)=(1+a+e+i)*(3 - a - e - i) := by grind
  rw [this,hs,Rat.zero_mul]
 have a1 := QJ (h - f)
 have a2 := QJ (c - g)
 have a3 := QJ (d - b)
 have b1 := a1.2.1 (by grind)
 have b2 := a2.2.1 (by grind)
 have b3 := a3.2.1 (by grind)
 have e1 : h=f := by grind
 have e2 : g=c := by grind
 have e3 : d=b := by grind
 clear a1 a2 a3 b1 b2 b3 s
 subst e1 e2 e3
 refine ⟨⟨rfl,rfl,rfl⟩,⟨?_,?_,?_⟩,⟨?_,?_,?_⟩⟩ <;> grind
theorem Iq {a b c e f i p y z : Rat} (hb : b*b=(a+1)*(e+1)) (hc : c*c=(a+1)*(i+1)) (hbc : b*c=(a+1)*f) (hs : 1+a+e+i=0) (ep : p=a+1) (hp : p ≠ 0) (hy : y*p=b) (hz : z*p=c) :
  (1 - y*y - z*z=a*(1+y*y+z*z)∧2*y=b*(1+y*y+z*z)∧2*z=c*(1+y*y+z*z))∧(y*y - 1 - z*z=e*(1+y*y+z*z)∧2*(y*z)=f*(1+y*y+z*z))∧(z*z - 1 - y*y=i*(1+y*y+z*z)) := by
 have yy : y*y*p=e+1 := Qb hp (by
  have : y*y*p*p=(y*p)*(y*p) := by grind
  rw [this,hy,hb,ep]; grind)
 have zz : z*z*p=i+1 := Qb hp (by
  have : z*z*p*p=(z*p)*(z*p) := by grind
  rw [this,hz,hc,ep]; grind)
 have yz : y*z*p=f := Qb hp (by
  have : y*z*p*p=(y*p)*(z*p) := by grind
  rw [this,hy,hz,hbc,ep]; grind)
 refine ⟨⟨?_,?_,?_⟩,⟨?_,?_⟩,?_⟩ <;> refine Qb hp ?_ <;> grind
structure QTab (w x y z n a b c d e f g h i : Rat) : Prop where
 hn : n ≠ 0
 en : n=w*w+x*x+y*y+z*z
 ha : a*n=w*w+x*x - y*y - z*z
 hb : b*n=2*(x*y - w*z)
 hc : c*n=2*(x*z+w*y)
 hd : d*n=2*(x*y+w*z)
 he : e*n=w*w - x*x+y*y - z*z
 hf : f*n=2*(y*z - w*x)
 hg : g*n=2*(x*z - w*y)
 hh : h*n=2*(y*z+w*x)
 hi : i*n=w*w - x*x - y*y+z*z
theorem QTab.rows {w x y z n a b c d e f g h i : Rat} (Q : QTab w x y z n a b c d e f g h i) : (a*a+b*b+c*c=1∧d*d+e*e+f*f=1∧g*g+h*h+i*i=1)∧(a*d+b*e+c*f=0∧a*g+b*h+c*i=0∧d*g+e*h+f*i=0) := by
 obtain ⟨hn,en,ha,hb,hc,hd,he,hf,hg,hh,hi⟩ := Q
 have k : n*n ≠ 0 := ZH hn hn
 have p : ∀ {p q r s t u m : Rat},(p*n)*(s*n)+(q*n)*(t*n)+(r*n)*(u*n)=m*(n*n)→p*s+q*t+r*u=m := fun {p q r s t u m} j => Qb k (by rw [← j]; grind)
 refine ⟨⟨p ?_,p ?_,p ?_⟩,⟨p ?_,p ?_,p ?_⟩⟩
 ·rw [ha,hb,hc,en]; clear ha hb hc hd he hf hg hh hi k hn p; grind
 ·rw [hd,he,hf,en]; clear ha hb hc hd he hf hg hh hi k hn p; grind
 ·rw [hg,hh,hi,en]; clear ha hb hc hd he hf hg hh hi k hn p; grind
 ·rw [ha,hb,hc,hd,he,hf]; clear ha hb hc hd he hf hg hh hi k hn p en; grind
 ·rw [ha,hb,hc,hg,hh,hi]; clear ha hb hc hd he hf hg hh hi k hn p en; grind
 ·rw [hd,he,hf,hg,hh,hi]; clear ha hb hc hd he hf hg hh hi k hn p en; grind
theorem QTab.cof {w x y z n a b c d e f g h i : Rat} (Q : QTab w x y z n a b c d e f g h i) : (e*i - f*h=a∧f*g - d*i=b∧d*h - e*g=c)∧(h*c - i*b=d∧i*a - g*c=e∧g*b - h*a=f)∧(b*f - c*e=g∧c*d - a*f=h∧a*e - b*d=i) := by
 obtain ⟨hn,en,ha,hb,hc,hd,he,hf,hg,hh,hi⟩ := Q
 have k : n*n ≠ 0 := ZH hn hn
 have p : ∀ {p q r s m : Rat},(p*n)*(q*n) - (r*n)*(s*n)=(m*n)*n→p*q - r*s=m := fun {p q r s m} j => Qb k (by
  have : m*(n*n)=m*n*n := by grind
  rw [this,← j]; grind)
 refine ⟨⟨p ?_,p ?_,p ?_⟩,⟨p ?_,p ?_,p ?_⟩,⟨p ?_,p ?_,p ?_⟩⟩
 ·rw [he,hi,hf,hh,ha,en]; clear ha hb hc hd he hf hg hh hi k hn p; grind
 ·rw [hf,hg,hd,hi,hb,en]; clear ha hb hc hd he hf hg hh hi k hn p; grind
 ·rw [hd,hh,he,hg,hc,en]; clear ha hb hc hd he hf hg hh hi k hn p; grind
 ·rw [hh,hc,hi,hb,hd,en]; clear ha hb hc hd he hf hg hh hi k hn p; grind
 ·rw [hi,ha,hg,hc,he,en]; clear ha hb hc hd he hf hg hh hi k hn p; grind
 ·rw [hg,hb,hh,ha,hf,en]; clear ha hb hc hd he hf hg hh hi k hn p; grind
 ·rw [hb,hf,hc,he,hg,en]; clear ha hb hc hd he hf hg hh hi k hn p; grind
 ·rw [hc,hd,ha,hf,hh,en]; clear ha hb hc hd he hf hg hh hi k hn p; grind
 ·rw [ha,he,hb,hd,hi,en]; clear ha hb hc hd he hf hg hh hi k hn p; grind
structure QAct (w x y z n u1 u2 u3 x1 x2 x3 : Rat) : Prop where
 hn : n ≠ 0
 en : n=w*w+x*x+y*y+z*z
 e1 : x1*n=(w*w+x*x - y*y - z*z)*u1+2*(x*y - w*z)*u2+2*(x*z+w*y)*u3
 e2 : x2*n=2*(x*y+w*z)*u1+(w*w - x*x+y*y - z*z)*u2+2*(y*z - w*x)*u3
 e3 : x3*n=2*(x*z - w*y)*u1+2*(y*z+w*x)*u2+(w*w - x*x - y*y+z*z)*u3
theorem QTab.det {w x y z n a b c d e f g h i : Rat} (Q : QTab w x y z n a b c d e f g h i) : 0 < a*(e*i - f*h)+b*(f*g - d*i)+c*(d*h - e*g) := by
 obtain ⟨⟨c1,c2,c3⟩,_⟩ := Q.cof
 obtain ⟨⟨r,_⟩,_⟩ := Q.rows
 rw [c1,c2,c3,r]; decide
theorem QTab.scale {w x y z n a b c d e f g h i k W X Y Z N : Rat} (Q : QTab w x y z n a b c d e f g h i) (hk : k ≠ 0) (ew : W=w*k) (ex : X=x*k) (ey : Y=y*k) (ez : Z=z*k) (eN : N=W*W+X*X+Y*Y+Z*Z) : QTab W X Y Z N a b c d e f g h i := by
 obtain ⟨hn,en,ha,hb,hc,hd,he,hf,hg,hh,hi⟩ := Q
 have eM : N=n*(k*k) := by rw [eN,ew,ex,ey,ez,en]; clear hn en ha hb hc hd he hf hg hh hi hk eN ew ex ey ez; grind
 have t : ∀ {p r : Rat},p*n=r→p*N=r*(k*k) := fun {p r} j => by rw [eM,← j]; grind
 refine ⟨by rw [eM]; exact ZH hn (ZH hk hk),eN,(t ha).trans ?_,(t hb).trans ?_,(t hc).trans ?_,(t hd).trans ?_,(t he).trans ?_,(t hf).trans ?_,(t hg).trans ?_,(t hh).trans ?_,(t hi).trans ?_⟩ <;> (rw [ew,ex,ey,ez]; clear t eM hn en ha hb hc hd he hf hg hh hi hk eN ew ex ey ez; grind)
theorem QTab.plain {F0 F1 F2 F3 m a b c d e f g h i r q0 q1 q2 q3 k P0 P1 P2 P3 N : Rat} (Q : QTab F0 F1 F2 F3 m a b c d e f g h i) (hr : r ≠ 0) (hk : k ≠ 0) (x0 : q0=F0 / r) (x1 : q1=F1 / r) (x2 : q2=F2 / r) (x3 : q3=F3 / r) (p0 : P0=q0*k) (p1 : P1=q1*k) (p2 : P2=q2*k) (p3 : P3=q3*k) (eN : N=P0*P0+P1*P1+P2*P2+P3*P3) : QTab P0 P1 P2 P3 N a b c d e f g h i := by
 have hkr : k / r ≠ 0 := fun j => hk (by rw [← Rat.div_mul_cancel hr (a := k),j,Rat.zero_mul])
 have t : ∀ F : Rat,F / r*k=F*(k / r) := fun F => by rw [Rat.div_def,Rat.div_def]; grind
 exact Q.scale hkr (by rw [p0,x0,t]) (by rw [p1,x1,t]) (by rw [p2,x2,t]) (by rw [p3,x3,t]) eN
theorem Gt {x y z a b c d e f g h i : Rat} (r : ((1+x*x - y*y - z*z)=a*(1+x*x+y*y+z*z)∧2*(x*y - z)=b*(1+x*x+y*y+z*z)∧2*(x*z+y)=c*(1+x*x+y*y+z*z))∧(2*(x*y+z)=d*(1+x*x+y*y+z*z)∧(1 - x*x+y*y - z*z)=e*(1+x*x+y*y+z*z)∧2*(y*z - x)=f*(1+x*x+y*y+z*z))∧(2*(x*z - y)=g*(1+x*x+y*y+z*z)∧2*(y*z+x)=h*(1+x*x+y*y+z*z)∧(1 - x*x - y*y+z*z)=i*(1+x*x+y*y+z*z))) : QTab 1 x y z (1+x*x+y*y+z*z) a b c d e f g h i := by
 obtain ⟨⟨r1,r2,r3⟩,⟨r4,r5,r6⟩,⟨r7,r8,r9⟩⟩ := r
 have p := QJ x
 have q := QJ y
 have s := QJ z
 refine ⟨?_,?_,?_,?_,?_,?_,?_,?_,?_,?_,?_⟩
 ·intro j; clear r1 r2 r3 r4 r5 r6 r7 r8 r9; grind
 ·clear r1 r2 r3 r4 r5 r6 r7 r8 r9 p q s; grind
 ·rw [← r1]; clear r1 r2 r3 r4 r5 r6 r7 r8 r9 p q s; grind
 ·rw [← r2]; clear r1 r2 r3 r4 r5 r6 r7 r8 r9 p q s; grind
 ·rw [← r3]; clear r1 r2 r3 r4 r5 r6 r7 r8 r9 p q s; grind
 ·rw [← r4]; clear r1 r2 r3 r4 r5 r6 r7 r8 r9 p q s; grind
 ·rw [← r5]; clear r1 r2 r3 r4 r5 r6 r7 r8 r9 p q s; grind
 ·rw [← r6]; clear r1 r2 r3 r4 r5 r6 r7 r8 r9 p q s; grind
 ·rw [← r7]; clear r1 r2 r3 r4 r5 r6 r7 r8 r9 p q s; grind
 ·rw [← r8]; clear r1 r2 r3 r4 r5 r6 r7 r8 r9 p q s; grind
 ·rw [← r9]; clear r1 r2 r3 r4 r5 r6 r7 r8 r9 p q s; grind
theorem Cv {a b c d e f g h i F0 F1 F2 F3 : Rat} (r11 : a*a+b*b+c*c=1) (r22 : d*d+e*e+f*f=1) (r33 : g*g+h*h+i*i=1) (r12 : a*d+b*e+c*f=0) (r13 : a*g+b*h+c*i=0) (r23 : d*g+e*h+f*i=0) (hd : 0 < a*(e*i - f*h)+b*(f*g - d*i)+c*(d*h - e*g)) (e0 : F0=1+a+e+i) (hs : F0 ≠ 0) (e1 : F1=h - f) (e2 : F2=c - g) (e3 : F3=d - b) : QTab F0 F1 F2 F3 (F0*F0+F1*F1+F2*F2+F3*F3) a b c d e f g h i := by
 have k : ∀ t : Rat,t / F0*F0=t := fun t => Rat.div_mul_cancel hs
 exact (Gt (TQ r11 r22 r33 r12 r13 r23 hd e0 hs ((k F1).trans e1) ((k F2).trans e2) ((k F3).trans e3))).scale hs (Rat.one_mul _).symm (k F1).symm (k F2).symm (k F3).symm rfl
theorem RZ {y z a b c e f i : Rat} (r : (1 - y*y - z*z=a*(1+y*y+z*z)∧2*y=b*(1+y*y+z*z)∧2*z=c*(1+y*y+z*z))∧(y*y - 1 - z*z=e*(1+y*y+z*z)∧2*(y*z)=f*(1+y*y+z*z))∧(z*z - 1 - y*y=i*(1+y*y+z*z))) : QTab 0 1 y z (1+y*y+z*z) a b c b e f c f i := by
 obtain ⟨⟨r1,r2,r3⟩,⟨r4,r5⟩,r6⟩ := r
 have q := QJ y
 have s := QJ z
 refine ⟨?_,?_,?_,?_,?_,?_,?_,?_,?_,?_,?_⟩
 ·intro j; clear r1 r2 r3 r4 r5 r6; grind
 ·clear r1 r2 r3 r4 r5 r6 q s; grind
 ·rw [← r1]; clear r1 r2 r3 r4 r5 r6 q s; grind
 ·rw [← r2]; clear r1 r2 r3 r4 r5 r6 q s; grind
 ·rw [← r3]; clear r1 r2 r3 r4 r5 r6 q s; grind
 ·rw [← r2]; clear r1 r2 r3 r4 r5 r6 q s; grind
 ·rw [← r4]; clear r1 r2 r3 r4 r5 r6 q s; grind
 ·rw [← r5]; clear r1 r2 r3 r4 r5 r6 q s; grind
 ·rw [← r3]; clear r1 r2 r3 r4 r5 r6 q s; grind
 ·rw [← r5]; clear r1 r2 r3 r4 r5 r6 q s; grind
 ·rw [← r6]; clear r1 r2 r3 r4 r5 r6 q s; grind
theorem QTab.axes {x y z n a b c d e f g h i : Rat} (Q : QTab 0 x y z n a b c d e f g h i) : QTab 0 y x z n e d f b a c h g i∧QTab 0 y z x n e f d h i g b c a := by
 obtain ⟨hn,en,ha,hb,hc,hd,he,hf,hg,hh,hi⟩ := Q
 refine ⟨⟨hn,?_,?_,?_,?_,?_,?_,?_,?_,?_,?_⟩,⟨hn,?_,?_,?_,?_,?_,?_,?_,?_,?_,?_⟩⟩ <;> (clear hn; grind)
theorem Ia {a b c d e f g h i F0 F1 F2 F3 : Rat} (r11 : a*a+b*b+c*c=1) (r22 : d*d+e*e+f*f=1) (r33 : g*g+h*h+i*i=1) (r12 : a*d+b*e+c*f=0) (r13 : a*g+b*h+c*i=0) (r23 : d*g+e*h+f*i=0) (hd : 0 < a*(e*i - f*h)+b*(f*g - d*i)+c*(d*h - e*g)) (hs : 1+a+e+i=0) (e0 : F0=0) (e1 : F1=1+a - e - i) (e2 : F2=b+d) (e3 : F3=c+g) (hp : F1 ≠ 0) : QTab F0 F1 F2 F3 (F0*F0+F1*F1+F2*F2+F3*F3) a b c d e f g h i := by
 obtain ⟨⟨y1,y2,y3⟩,⟨y4,y5,y6⟩,⟨y7,y8,y9⟩⟩ := Oe r11 r22 r33 r12 r13 r23 hd hs
 have e4 : F1=2*(a+1) := by rw [e1]; clear y1 y2 y3 y4 y5 y6 y7 y8 y9 r11 r22 r33 r12 r13 r23 hd; grind
 have hq : a+1 ≠ 0 := fun j => hp (by rw [e4,j,Rat.mul_zero])
 clear r11 r22 r33 r12 r13 r23 hd
 subst y1 y2 y3
 have k : ∀ t : Rat,t / (a+1)*(a+1)=t := fun t => Rat.div_mul_cancel hq
 have H := RZ (Iq y4 y5 y7 hs rfl hq (k d) (k g))
 refine H.scale (k := 2*(a+1)) (by rw [← e4]; exact hp) (by rw [e0,Rat.zero_mul]) (by rw [e4,Rat.one_mul]) ?_ ?_ rfl
 ·rw [e2]; have := k d; clear y4 y5 y6 y7 y8 y9 e0 e1 e2 e3 e4 hp hq hs H; grind
 ·rw [e3]; have := k g; clear y4 y5 y6 y7 y8 y9 e0 e1 e2 e3 e4 hp hq hs H; grind
theorem CS {a b c d e f g h i F0 F1 F2 F3 : Rat} (r11 : a*a+b*b+c*c=1) (r22 : d*d+e*e+f*f=1) (r33 : g*g+h*h+i*i=1) (r12 : a*d+b*e+c*f=0) (r13 : a*g+b*h+c*i=0) (r23 : d*g+e*h+f*i=0) (hd : 0 < a*(e*i - f*h)+b*(f*g - d*i)+c*(d*h - e*g)) (hs : 1+a+e+i=0) (e0 : F0=0) (e1 : F1=b+d) (e2 : F2=1 - a+e - i) (e3 : F3=f+h) (hp : F2 ≠ 0) : QTab F0 F1 F2 F3 (F0*F0+F1*F1+F2*F2+F3*F3) a b c d e f g h i := by
 have Q := Ia (a := e) (b := d) (c := f) (d := b) (e := a) (f := c) (g := h) (h := g) (i := i) (F0 := 0) (F1 := F2) (F2 := F1) (F3 := F3) (by grind) (by grind) (by grind) (by grind) (by grind) (by grind) (by clear r11 r22 r33 r12 r13 r23; grind) (by grind) rfl (by grind) (by grind) (by grind) hp
 rw [e0]; have R := Q.axes.1
 rwa [show 0*0+F2*F2+F1*F1+F3*F3=0*0+F1*F1+F2*F2+F3*F3 by grind] at R
theorem CH {a b c d e f g h i F0 F1 F2 F3 : Rat} (r11 : a*a+b*b+c*c=1) (r22 : d*d+e*e+f*f=1) (r33 : g*g+h*h+i*i=1) (r12 : a*d+b*e+c*f=0) (r13 : a*g+b*h+c*i=0) (r23 : d*g+e*h+f*i=0) (hd : 0 < a*(e*i - f*h)+b*(f*g - d*i)+c*(d*h - e*g)) (hs : 1+a+e+i=0) (e0 : F0=0) (e1 : F1=c+g) (e2 : F2=f+h) (e3 : F3=1 - a - e+i) (hp : F3 ≠ 0) : QTab F0 F1 F2 F3 (F0*F0+F1*F1+F2*F2+F3*F3) a b c d e f g h i := by
 have Q := Ia (a := i) (b := g) (c := h) (d := c) (e := a) (f := b) (g := f) (h := d) (i := e) (F0 := 0) (F1 := F3) (F2 := F1) (F3 := F2) (by grind) (by grind) (by grind) (by grind) (by grind) (by grind) (by clear r11 r22 r33 r12 r13 r23; grind) (by grind) rfl (by grind) (by grind) (by grind) hp
 rw [e0]; have R := Q.axes.2
 rwa [show 0*0+F3*F3+F1*F1+F2*F2=0*0+F1*F1+F2*F2+F3*F3 by grind] at R
theorem QH {a b c d e f g h i : Rat} (r11 : a*a+b*b+c*c=1) (r22 : d*d+e*e+f*f=1) (r33 : g*g+h*h+i*i=1) (r12 : a*d+b*e+c*f=0) (r13 : a*g+b*h+c*i=0) (r23 : d*g+e*h+f*i=0) (hd : 0 < a*(e*i - f*h)+b*(f*g - d*i)+c*(d*h - e*g)) (hs : 1+a+e+i=0) : (h - f=0∧c - g=0∧d - b=0)∧(1+a - e - i=0→b+d=0∧c+g=0)∧(1 - a+e - i=0→b+d=0∧f+h=0) := by
 obtain ⟨⟨y1,y2,y3⟩,⟨y4,y5,y6⟩,_⟩ := Oe r11 r22 r33 r12 r13 r23 hd hs
 clear r11 r22 r33 r12 r13 r23 hd
 subst y1 y2 y3
 refine ⟨⟨by grind,by grind,by grind⟩,fun j => ?_,fun j => ?_⟩
 ·have k : a+1=0 := by clear y4 y5 y6; grind
  rw [k,Rat.zero_mul] at y4 y5
  have p := (QJ d).2.1 y4
  have q := (QJ g).2.1 y5
  rw [p,q]; exact ⟨Rat.add_zero 0,Rat.add_zero 0⟩
 ·have k : e+1=0 := by clear y4 y5 y6; grind
  rw [k,Rat.mul_zero] at y4
  rw [k,Rat.zero_mul] at y6
  have p := (QJ d).2.1 y4
  have q := (QJ h).2.1 y6
  rw [p,q]; exact ⟨Rat.add_zero 0,Rat.add_zero 0⟩
theorem QAct.scale {w x y z n u1 u2 u3 x1 x2 x3 k W X Y Z N : Rat} (A : QAct W X Y Z N u1 u2 u3 x1 x2 x3) (ew : W=w*k) (ex : X=x*k) (ey : Y=y*k) (ez : Z=z*k) (en : n=w*w+x*x+y*y+z*z) : QAct w x y z n u1 u2 u3 x1 x2 x3 := by
 obtain ⟨hN,eN,a1,a2,a3⟩ := A
 have eM : N=n*(k*k) := by rw [eN,ew,ex,ey,ez,en]; clear hN eN a1 a2 a3 ew ex ey ez en; grind
 have hn : n ≠ 0 := fun j => hN (by rw [eM,j,Rat.zero_mul])
 have hk : k*k ≠ 0 := fun j => hN (by rw [eM,j,Rat.mul_zero])
 refine ⟨hn,en,Qb hk ?_,Qb hk ?_,Qb hk ?_⟩
 ·have : x1*n*(k*k)=x1*N := by rw [eM]; grind
  rw [this,a1,ew,ex,ey,ez]; clear this hN eN a1 a2 a3 ew ex ey ez en eM hn hk; grind
 ·have : x2*n*(k*k)=x2*N := by rw [eM]; grind
  rw [this,a2,ew,ex,ey,ez]; clear this hN eN a1 a2 a3 ew ex ey ez en eM hn hk; grind
 ·have : x3*n*(k*k)=x3*N := by rw [eM]; grind
  rw [this,a3,ew,ex,ey,ez]; clear this hN eN a1 a2 a3 ew ex ey ez en eM hn hk; grind
theorem QAct.own {w x y z n x1 x2 x3 : Rat} (A : QAct w x y z n x y z x1 x2 x3) : x1=x∧x2=y∧x3=z := by
 obtain ⟨hn,en,a1,a2,a3⟩ := A
 refine ⟨Qb hn ?_,Qb hn ?_,Qb hn ?_⟩
 ·rw [a1,en]; clear hn en a1 a2 a3; grind
 ·rw [a2,en]; clear hn en a1 a2 a3; grind
 ·rw [a3,en]; clear hn en a1 a2 a3; grind
theorem Ql (H : Zs q σ) : (q 19=q 4*q 4+q 5*q 5+q 6*q 6+q 7*q 7) :=
 pol H [] 6 19 (.A (.A (.A (.M (.v 4) (.v 4)) (.M (.v 5) (.v 5))) (.M (.v 6) (.v 6))) (.M (.v 7) (.v 7))) (by kernel_rfl)
theorem Qo (H : Zs q σ) : (¬ (q 19=0))→(q 72*q 19=q 4*q 4+q 5*q 5-q 6*q 6-q 7*q 7) :=
 fun h => Zo H [19] 12 72 19 (.S (.S (.A (.M (.v 4) (.v 4)) (.M (.v 5) (.v 5))) (.M (.v 6) (.v 6))) (.M (.v 7) (.v 7))) h (by kernel_rfl)
theorem Qg (H : Zs q σ) : (¬ (q 19=0))→(q 116*q 19=2*(q 5*q 6-q 4*q 7)) :=
 fun h => Zo H [19] 12 116 19 (.M .t (.S (.M (.v 5) (.v 6)) (.M (.v 4) (.v 7)))) h (by kernel_rfl)
theorem Qm (H : Zs q σ) : (¬ (q 19=0))→(q 158*q 19=2*(q 5*q 7+q 4*q 6)) :=
 fun h => Zo H [19] 12 158 19 (.M .t (.A (.M (.v 5) (.v 7)) (.M (.v 4) (.v 6)))) h (by kernel_rfl)
theorem Qk (H : Zs q σ) : (¬ (q 19=0))→(q 73*q 19=2*(q 5*q 6+q 4*q 7)) :=
 fun h => Zo H [19] 12 73 19 (.M .t (.A (.M (.v 5) (.v 6)) (.M (.v 4) (.v 7)))) h (by kernel_rfl)
theorem Qn (H : Zs q σ) : (¬ (q 19=0))→(q 117*q 19=q 4*q 4-q 5*q 5+q 6*q 6-q 7*q 7) :=
 fun h => Zo H [19] 12 117 19 (.S (.A (.S (.M (.v 4) (.v 4)) (.M (.v 5) (.v 5))) (.M (.v 6) (.v 6))) (.M (.v 7) (.v 7))) h (by kernel_rfl)
theorem Qj (H : Zs q σ) : (¬ (q 19=0))→(q 159*q 19=2*(q 6*q 7-q 4*q 5)) :=
 fun h => Zo H [19] 12 159 19 (.M .t (.S (.M (.v 6) (.v 7)) (.M (.v 4) (.v 5)))) h (by kernel_rfl)
theorem Qi (H : Zs q σ) : (¬ (q 19=0))→(q 74*q 19=2*(q 5*q 7-q 4*q 6)) :=
 fun h => Zo H [19] 12 74 19 (.M .t (.S (.M (.v 5) (.v 7)) (.M (.v 4) (.v 6)))) h (by kernel_rfl)
theorem Qh (H : Zs q σ) : (¬ (q 19=0))→(q 118*q 19=2*(q 6*q 7+q 4*q 5)) :=
 fun h => Zo H [19] 12 118 19 (.M .t (.A (.M (.v 6) (.v 7)) (.M (.v 4) (.v 5)))) h (by kernel_rfl)
theorem Qf (H : Zs q σ) : (¬ (q 19=0))→(q 160*q 19=q 4*q 4-q 5*q 5-q 6*q 6+q 7*q 7) :=
 fun h => Zo H [19] 12 160 19 (.A (.S (.S (.M (.v 4) (.v 4)) (.M (.v 5) (.v 5))) (.M (.v 6) (.v 6))) (.M (.v 7) (.v 7))) h (by kernel_rfl)
theorem qA_pr0 (H : Zs q σ) : (q 72*q 72+q 116*q 116+q 158*q 158=1)→(q 224=0) := by
 have e8:q 8=0:=(H 8 _ rfl).trans Dc;have e20:q 20=1:=(H 20 _ rfl).trans Lf;have e218:q 218=q 72*q 72:=H 218 _ rfl;have e219:q 219=q 8+q 218:=H 219 _ rfl;have e220:q 220=q 116*q 116:=H 220 _ rfl;have e221:q 221=q 219+q 220:=H 221 _ rfl;have e222:q 222=q 158*q 158:=H 222 _ rfl;have e223:q 223=q 221+q 222:=H 223 _ rfl;have e224:q 224=q 223-q 20:=H 224 _ rfl
 clear H
 intro h
 subst_vars; grind
theorem qA_pr3 (H : Zs q σ) : (q 72*q 73+q 116*q 117+q 158*q 159=0)→(q 230=0) := by
 have e8:q 8=0:=(H 8 _ rfl).trans Dc;have e225:q 225=q 72*q 73:=H 225 _ rfl;have e226:q 226=q 8+q 225:=H 226 _ rfl;have e227:q 227=q 116*q 117:=H 227 _ rfl;have e228:q 228=q 226+q 227:=H 228 _ rfl;have e229:q 229=q 158*q 159:=H 229 _ rfl;have e230:q 230=q 228+q 229:=H 230 _ rfl
 clear H
 intro h
 subst_vars; grind
theorem qA_pr1 (H : Zs q σ) : (q 73*q 73+q 117*q 117+q 159*q 159=1)→(q 237=0) := by
 have e8:q 8=0:=(H 8 _ rfl).trans Dc;have e20:q 20=1:=(H 20 _ rfl).trans Lf;have e231:q 231=q 73*q 73:=H 231 _ rfl;have e232:q 232=q 8+q 231:=H 232 _ rfl;have e233:q 233=q 117*q 117:=H 233 _ rfl;have e234:q 234=q 232+q 233:=H 234 _ rfl;have e235:q 235=q 159*q 159:=H 235 _ rfl;have e236:q 236=q 234+q 235:=H 236 _ rfl;have e237:q 237=q 236-q 20:=H 237 _ rfl
 clear H
 intro h
 subst_vars; grind
theorem qA_pr5 (H : Zs q σ) : (q 73*q 74+q 117*q 118+q 159*q 160=0)→(q 243=0) := by
 have e8:q 8=0:=(H 8 _ rfl).trans Dc;have e238:q 238=q 73*q 74:=H 238 _ rfl;have e239:q 239=q 8+q 238:=H 239 _ rfl;have e240:q 240=q 117*q 118:=H 240 _ rfl;have e241:q 241=q 239+q 240:=H 241 _ rfl;have e242:q 242=q 159*q 160:=H 242 _ rfl;have e243:q 243=q 241+q 242:=H 243 _ rfl
 clear H
 intro h
 subst_vars; grind
theorem qA_pr2 (H : Zs q σ) : (q 74*q 74+q 118*q 118+q 160*q 160=1)→(q 250=0) := by
 have e8:q 8=0:=(H 8 _ rfl).trans Dc;have e20:q 20=1:=(H 20 _ rfl).trans Lf;have e244:q 244=q 74*q 74:=H 244 _ rfl;have e245:q 245=q 8+q 244:=H 245 _ rfl;have e246:q 246=q 118*q 118:=H 246 _ rfl;have e247:q 247=q 245+q 246:=H 247 _ rfl;have e248:q 248=q 160*q 160:=H 248 _ rfl;have e249:q 249=q 247+q 248:=H 249 _ rfl;have e250:q 250=q 249-q 20:=H 250 _ rfl
 clear H
 intro h
 subst_vars; grind
theorem qA_pr4 (H : Zs q σ) : (q 72*q 74+q 116*q 118+q 158*q 160=0)→(q 256=0) := by
 have e8:q 8=0:=(H 8 _ rfl).trans Dc;have e251:q 251=q 74*q 72:=H 251 _ rfl;have e252:q 252=q 8+q 251:=H 252 _ rfl;have e253:q 253=q 118*q 116:=H 253 _ rfl;have e254:q 254=q 252+q 253:=H 254 _ rfl;have e255:q 255=q 160*q 158:=H 255 _ rfl;have e256:q 256=q 254+q 255:=H 256 _ rfl
 clear H
 intro h
 subst_vars; grind
theorem qA_pdt (H : Zs q σ) : (0 < q 72*(q 117*q 160-q 159*q 118)+q 116*(q 159*q 74-q 73*q 160)+q 158*(q 73*q 118-q 117*q 74))→(0 < q 271) := by
 have e8:q 8=0:=(H 8 _ rfl).trans Dc;have e257:q 257=q 117*q 160:=H 257 _ rfl;have e258:q 258=q 159*q 118:=H 258 _ rfl;have e259:q 259=q 257-q 258:=H 259 _ rfl;have e260:q 260=q 159*q 74:=H 260 _ rfl;have e261:q 261=q 73*q 160:=H 261 _ rfl;have e262:q 262=q 260-q 261:=H 262 _ rfl;have e263:q 263=q 73*q 118:=H 263 _ rfl;have e264:q 264=q 117*q 74:=H 264 _ rfl;have e265:q 265=q 263-q 264:=H 265 _ rfl;have e266:q 266=q 72*q 259:=H 266 _ rfl;have e267:q 267=q 8+q 266:=H 267 _ rfl;have e268:q 268=q 116*q 262:=H 268 _ rfl;have e269:q 269=q 267+q 268:=H 269 _ rfl;have e270:q 270=q 158*q 265:=H 270 _ rfl;have e271:q 271=q 269+q 270:=H 271 _ rfl
 clear H
 intro h
 have k : q 271=q 72*(q 117*q 160 - q 159*q 118)+q 116*(q 159*q 74 - q 73*q 160)+q 158*(q 73*q 118 - q 117*q 74) := by clear h; subst_vars; grind
 rw [k]; exact h
theorem ZQ (H : Zs q σ) : (q 416=1+q 72+q 117+q 160) :=
 pol H [] 13 416 (.A (.A (.A .o (.v 72)) (.v 117)) (.v 160)) (by kernel_rfl)
theorem Cn (H : Zs q σ) : (q 417=q 118-q 159) :=
 pol H [] 13 417 (.S (.v 118) (.v 159)) (by kernel_rfl)
theorem MV (H : Zs q σ) : (q 418=q 158-q 74) :=
 pol H [] 13 418 (.S (.v 158) (.v 74)) (by kernel_rfl)
theorem Eb (H : Zs q σ) : (q 419=q 73-q 116) :=
 pol H [] 13 419 (.S (.v 73) (.v 116)) (by kernel_rfl)
theorem qA_pc8 (H : Zs q σ) : (q 8=0) := by
 have e8:q 8=0:=(H 8 _ rfl).trans Dc
 clear H
 exact e8
theorem CM (H : Zs q σ) : (q 733=q 118-q 159) :=
 pol H [] 13 733 (.S (.v 118) (.v 159)) (by kernel_rfl)
theorem Rc (H : Zs q σ) : (q 734=1+q 72-q 117-q 160) :=
 pol H [] 13 734 (.S (.S (.A .o (.v 72)) (.v 117)) (.v 160)) (by kernel_rfl)
theorem CE (H : Zs q σ) : (q 735=q 116+q 73) :=
 pol H [] 13 735 (.A (.v 116) (.v 73)) (by kernel_rfl)
theorem Cq (H : Zs q σ) : (q 736=q 158+q 74) :=
 pol H [] 13 736 (.A (.v 158) (.v 74)) (by kernel_rfl)
theorem CP (H : Zs q σ) : (q 1035=q 158-q 74) :=
 pol H [] 13 1035 (.S (.v 158) (.v 74)) (by kernel_rfl)
theorem MN (H : Zs q σ) : (q 1036=q 116+q 73) :=
 pol H [] 13 1036 (.A (.v 116) (.v 73)) (by kernel_rfl)
theorem Ge (H : Zs q σ) : (q 1037=1-q 72+q 117-q 160) :=
 pol H [] 13 1037 (.S (.A (.S .o (.v 72)) (.v 117)) (.v 160)) (by kernel_rfl)
theorem CX (H : Zs q σ) : (q 1038=q 159+q 118) :=
 pol H [] 13 1038 (.A (.v 159) (.v 118)) (by kernel_rfl)
theorem Me (H : Zs q σ) : (q 1331=q 73-q 116) :=
 pol H [] 13 1331 (.S (.v 73) (.v 116)) (by kernel_rfl)
theorem CT (H : Zs q σ) : (q 1332=q 158+q 74) :=
 pol H [] 13 1332 (.A (.v 158) (.v 74)) (by kernel_rfl)
theorem Mz (H : Zs q σ) : (q 1333=q 159+q 118) :=
 pol H [] 13 1333 (.A (.v 159) (.v 118)) (by kernel_rfl)
theorem qA_pw2 (_H : Zs q σ) : (q 1334=1-q 72-q 117+q 160)→(1+q 72+q 117+q 160=0)→(1+q 72-q 117-q 160=0)→(1-q 72+q 117-q 160=0)→(¬ (q 1334=0)) := by
 intro e h h0 h1
 intro k
 rw [e] at k; grind
theorem Mt (H : Zs q σ) : (q 1334=1-q 72-q 117+q 160) :=
 pol H [] 13 1334 (.A (.S (.S .o (.v 72)) (.v 117)) (.v 160)) (by kernel_rfl)
theorem qA_pN3 (H : Zs q σ) : (q 1353=q 1339*q 1339+q 1340*q 1340+q 1341*q 1341+q 1342*q 1342) :=
 pol H [] 6 1353 (.A (.A (.A (.M (.v 1339) (.v 1339)) (.M (.v 1340) (.v 1340))) (.M (.v 1341) (.v 1341))) (.M (.v 1342) (.v 1342))) (by kernel_rfl)
theorem qA_pu3 (H : Zs q σ) : (¬ (q 1334=0))→(q 1338=1) := by
 have e1338:q 1338=q 1334/q 1334:=H 1338 _ rfl
 clear H
 intro h
 rw [e1338]; exact Qb h ((Rat.div_mul_cancel h).trans (Rat.one_mul _).symm)
theorem qA_ph3 (_H : Zs q σ) : (q 1338=1)→(¬ (fac [q 1335,q 1336,q 1337,q 1338]=0)) := by
 intro u
 intro k
 have j := ZX (x := q 1338) (by simp) k
 rw [u] at j; exact absurd j (by decide)
theorem qA_pK3 (H : Zs q σ) : (q 72*q 72+q 116*q 116+q 158*q 158=1)→(q 73*q 73+q 117*q 117+q 159*q 159=1)→(q 74*q 74+q 118*q 118+q 160*q 160=1)→(q 72*q 73+q 116*q 117+q 158*q 159=0)→(q 72*q 74+q 116*q 118+q 158*q 160=0)→(q 73*q 74+q 117*q 118+q 159*q 160=0)→(0 < q 72*(q 117*q 160-q 159*q 118)+q 116*(q 159*q 74-q 73*q 160)+q 158*(q 73*q 118-q 117*q 74))→(1+q 72+q 117+q 160=0)→(q 1331=0)→(q 1332=q 158+q 74)→(q 1333=q 159+q 118)→(q 1334=1-q 72-q 117+q 160)→(¬ (q 1334=0))→(¬ (fac [q 1335,q 1336,q 1337,q 1338]=0))→(q 1353=q 1339*q 1339+q 1340*q 1340+q 1341*q 1341+q 1342*q 1342)→(QTab (q 1339) (q 1340) (q 1341) (q 1342) (q 1353) (q 72) (q 116) (q 158) (q 73) (q 117) (q 159) (q 74) (q 118) (q 160)) := by
 have e1335:q 1335=q 1331/q 1334:=H 1335 _ rfl;have e1336:q 1336=q 1332/q 1334:=H 1336 _ rfl;have e1337:q 1337=q 1333/q 1334:=H 1337 _ rfl;have e1338:q 1338=q 1334/q 1334:=H 1338 _ rfl;have e1339:q 1339=q 1335*fac [q 1335,q 1336,q 1337,q 1338]:=H 1339 _ rfl;have e1340:q 1340=q 1336*fac [q 1335,q 1336,q 1337,q 1338]:=H 1340 _ rfl;have e1341:q 1341=q 1337*fac [q 1335,q 1336,q 1337,q 1338]:=H 1341 _ rfl;have e1342:q 1342=q 1338*fac [q 1335,q 1336,q 1337,q 1338]:=H 1342 _ rfl
 clear H
 intro r00 r11 r22 r01 r02 r12 hd ht f0 f1 f2 f3 hs hk n
 have Q := CH r00 r11 r22 r01 r02 r12 hd ht f0 f1 f2 f3 hs
 exact QTab.plain Q hs hk e1335 e1336 e1337 e1338 e1339 e1340 e1341 e1342 n
theorem Cy (H : Zs q σ) : (¬ (q 19=0))→(QAct (q 4) (q 5) (q 6) (q 7) (q 19) (q 1) (q 2) (q 3) (q 215) (q 216) (q 217)) :=
 fun h => ⟨h,pol H [] 6 19 (.A (.A (.A (.M (.v 4) (.v 4)) (.M (.v 5) (.v 5))) (.M (.v 6) (.v 6))) (.M (.v 7) (.v 7))) (by kernel_rfl),Zo H [19] 11 215 19 (.A (.A (.M (.S (.S (.A (.M (.v 4) (.v 4)) (.M (.v 5) (.v 5))) (.M (.v 6) (.v 6))) (.M (.v 7) (.v 7))) (.v 1)) (.M (.M .t (.S (.M (.v 5) (.v 6)) (.M (.v 4) (.v 7)))) (.v 2))) (.M (.M .t (.A (.M (.v 5) (.v 7)) (.M (.v 4) (.v 6)))) (.v 3))) h (by kernel_rfl),Zo H [19] 11 216 19 (.A (.A (.M (.M .t (.A (.M (.v 5) (.v 6)) (.M (.v 4) (.v 7)))) (.v 1)) (.M (.S (.A (.S (.M (.v 4) (.v 4)) (.M (.v 5) (.v 5))) (.M (.v 6) (.v 6))) (.M (.v 7) (.v 7))) (.v 2))) (.M (.M .t (.S (.M (.v 6) (.v 7)) (.M (.v 4) (.v 5)))) (.v 3))) h (by kernel_rfl),Zo H [19] 11 217 19 (.A (.A (.M (.M .t (.S (.M (.v 5) (.v 7)) (.M (.v 4) (.v 6)))) (.v 1)) (.M (.M .t (.A (.M (.v 6) (.v 7)) (.M (.v 4) (.v 5)))) (.v 2))) (.M (.A (.S (.S (.M (.v 4) (.v 4)) (.M (.v 5) (.v 5))) (.M (.v 6) (.v 6))) (.M (.v 7) (.v 7))) (.v 3))) h (by kernel_rfl)⟩
theorem MO (H : Zs q σ) : (q 4=q 0*fac [q 0,q 1,q 2,q 3]) := by
 have e4:q 4=q 0*fac [q 0,q 1,q 2,q 3]:=H 4 _ rfl
 clear H
 exact e4
theorem Mp (H : Zs q σ) : (q 5=q 1*fac [q 0,q 1,q 2,q 3]) := by
 have e5:q 5=q 1*fac [q 0,q 1,q 2,q 3]:=H 5 _ rfl
 clear H
 exact e5
theorem Cw (H : Zs q σ) : (q 6=q 2*fac [q 0,q 1,q 2,q 3]) := by
 have e6:q 6=q 2*fac [q 0,q 1,q 2,q 3]:=H 6 _ rfl
 clear H
 exact e6
theorem CU (H : Zs q σ) : (q 7=q 3*fac [q 0,q 1,q 2,q 3]) := by
 have e7:q 7=q 3*fac [q 0,q 1,q 2,q 3]:=H 7 _ rfl
 clear H
 exact e7
theorem Ck (H : Zs q σ) : (q 215=q 1∧q 216=q 2∧q 217=q 3)→(q 586=0) := by
 have e579:q 579=q 215-q 1:=H 579 _ rfl;have e580:q 580=q 216-q 2:=H 580 _ rfl;have e581:q 581=q 217-q 3:=H 581 _ rfl;have e582:q 582=q 579*q 579:=H 582 _ rfl;have e583:q 583=q 580*q 580:=H 583 _ rfl;have e584:q 584=q 582+q 583:=H 584 _ rfl;have e585:q 585=q 581*q 581:=H 585 _ rfl;have e586:q 586=q 584+q 585:=H 586 _ rfl
 clear H
 intro h
 obtain ⟨h0,h1,h2⟩ := h
 refine ((V3s e582 e583 e584 e585 e586).2 ⟨⟨?_,?_⟩,?_⟩) <;> (clear e582 e583 e584 e585 e586; subst_vars; grind)
theorem qA_pe1405 (H : Zs q σ) : (QTab (q 1339) (q 1340) (q 1341) (q 1342) (q 1353) (q 72) (q 116) (q 158) (q 73) (q 117) (q 159) (q 74) (q 118) (q 160))→(q 1405=q 72) :=
 fun Q => Qb Q.hn ((Zo H [1353] 12 1405 1353 (.S (.S (.A (.M (.v 1339) (.v 1339)) (.M (.v 1340) (.v 1340))) (.M (.v 1341) (.v 1341))) (.M (.v 1342) (.v 1342))) Q.hn (by kernel_rfl)).trans Q.ha.symm)
theorem qA_pe1449 (H : Zs q σ) : (QTab (q 1339) (q 1340) (q 1341) (q 1342) (q 1353) (q 72) (q 116) (q 158) (q 73) (q 117) (q 159) (q 74) (q 118) (q 160))→(q 1449=q 116) :=
 fun Q => Qb Q.hn ((Zo H [1353] 12 1449 1353 (.M .t (.S (.M (.v 1340) (.v 1341)) (.M (.v 1339) (.v 1342)))) Q.hn (by kernel_rfl)).trans Q.hb.symm)
theorem qA_pe1491 (H : Zs q σ) : (QTab (q 1339) (q 1340) (q 1341) (q 1342) (q 1353) (q 72) (q 116) (q 158) (q 73) (q 117) (q 159) (q 74) (q 118) (q 160))→(q 1491=q 158) :=
 fun Q => Qb Q.hn ((Zo H [1353] 12 1491 1353 (.M .t (.A (.M (.v 1340) (.v 1342)) (.M (.v 1339) (.v 1341)))) Q.hn (by kernel_rfl)).trans Q.hc.symm)
theorem qA_pe1406 (H : Zs q σ) : (QTab (q 1339) (q 1340) (q 1341) (q 1342) (q 1353) (q 72) (q 116) (q 158) (q 73) (q 117) (q 159) (q 74) (q 118) (q 160))→(q 1406=q 73) :=
 fun Q => Qb Q.hn ((Zo H [1353] 12 1406 1353 (.M .t (.A (.M (.v 1340) (.v 1341)) (.M (.v 1339) (.v 1342)))) Q.hn (by kernel_rfl)).trans Q.hd.symm)
theorem qA_pe1450 (H : Zs q σ) : (QTab (q 1339) (q 1340) (q 1341) (q 1342) (q 1353) (q 72) (q 116) (q 158) (q 73) (q 117) (q 159) (q 74) (q 118) (q 160))→(q 1450=q 117) :=
 fun Q => Qb Q.hn ((Zo H [1353] 12 1450 1353 (.S (.A (.S (.M (.v 1339) (.v 1339)) (.M (.v 1340) (.v 1340))) (.M (.v 1341) (.v 1341))) (.M (.v 1342) (.v 1342))) Q.hn (by kernel_rfl)).trans Q.he.symm)
theorem qA_pe1492 (H : Zs q σ) : (QTab (q 1339) (q 1340) (q 1341) (q 1342) (q 1353) (q 72) (q 116) (q 158) (q 73) (q 117) (q 159) (q 74) (q 118) (q 160))→(q 1492=q 159) :=
 fun Q => Qb Q.hn ((Zo H [1353] 12 1492 1353 (.M .t (.S (.M (.v 1341) (.v 1342)) (.M (.v 1339) (.v 1340)))) Q.hn (by kernel_rfl)).trans Q.hf.symm)
theorem qA_pe1407 (H : Zs q σ) : (QTab (q 1339) (q 1340) (q 1341) (q 1342) (q 1353) (q 72) (q 116) (q 158) (q 73) (q 117) (q 159) (q 74) (q 118) (q 160))→(q 1407=q 74) :=
 fun Q => Qb Q.hn ((Zo H [1353] 12 1407 1353 (.M .t (.S (.M (.v 1340) (.v 1342)) (.M (.v 1339) (.v 1341)))) Q.hn (by kernel_rfl)).trans Q.hg.symm)
theorem qA_pe1451 (H : Zs q σ) : (QTab (q 1339) (q 1340) (q 1341) (q 1342) (q 1353) (q 72) (q 116) (q 158) (q 73) (q 117) (q 159) (q 74) (q 118) (q 160))→(q 1451=q 118) :=
 fun Q => Qb Q.hn ((Zo H [1353] 12 1451 1353 (.M .t (.A (.M (.v 1341) (.v 1342)) (.M (.v 1339) (.v 1340)))) Q.hn (by kernel_rfl)).trans Q.hh.symm)
theorem qA_pe1493 (H : Zs q σ) : (QTab (q 1339) (q 1340) (q 1341) (q 1342) (q 1353) (q 72) (q 116) (q 158) (q 73) (q 117) (q 159) (q 74) (q 118) (q 160))→(q 1493=q 160) :=
 fun Q => Qb Q.hn ((Zo H [1353] 12 1493 1353 (.A (.S (.S (.M (.v 1339) (.v 1339)) (.M (.v 1340) (.v 1340))) (.M (.v 1341) (.v 1341))) (.M (.v 1342) (.v 1342))) Q.hn (by kernel_rfl)).trans Q.hi.symm)
theorem qA_pF1519 (H : Zs q σ) : (q 1405=q 72)→(q 1449=q 116)→(q 1491=q 158)→(q 1406=q 73)→(q 1450=q 117)→(q 1492=q 159)→(q 1407=q 74)→(q 1451=q 118)→(q 1493=q 160)→(q 1519=0) := by
 have e1494:q 1494=q 1405-q 72:=H 1494 _ rfl;have e1495:q 1495=q 1449-q 116:=H 1495 _ rfl;have e1496:q 1496=q 1491-q 158:=H 1496 _ rfl;have e1497:q 1497=q 1406-q 73:=H 1497 _ rfl;have e1498:q 1498=q 1450-q 117:=H 1498 _ rfl;have e1499:q 1499=q 1492-q 159:=H 1499 _ rfl;have e1500:q 1500=q 1407-q 74:=H 1500 _ rfl;have e1501:q 1501=q 1451-q 118:=H 1501 _ rfl;have e1502:q 1502=q 1493-q 160:=H 1502 _ rfl;have e1503:q 1503=q 1494*q 1494:=H 1503 _ rfl;have e1504:q 1504=q 1495*q 1495:=H 1504 _ rfl;have e1505:q 1505=q 1503+q 1504:=H 1505 _ rfl;have e1506:q 1506=q 1496*q 1496:=H 1506 _ rfl;have e1507:q 1507=q 1505+q 1506:=H 1507 _ rfl;have e1508:q 1508=q 1497*q 1497:=H 1508 _ rfl;have e1509:q 1509=q 1507+q 1508:=H 1509 _ rfl;have e1510:q 1510=q 1498*q 1498:=H 1510 _ rfl;have e1511:q 1511=q 1509+q 1510:=H 1511 _ rfl;have e1512:q 1512=q 1499*q 1499:=H 1512 _ rfl;have e1513:q 1513=q 1511+q 1512:=H 1513 _ rfl;have e1514:q 1514=q 1500*q 1500:=H 1514 _ rfl;have e1515:q 1515=q 1513+q 1514:=H 1515 _ rfl;have e1516:q 1516=q 1501*q 1501:=H 1516 _ rfl;have e1517:q 1517=q 1515+q 1516:=H 1517 _ rfl;have e1518:q 1518=q 1502*q 1502:=H 1518 _ rfl;have e1519:q 1519=q 1517+q 1518:=H 1519 _ rfl
 clear H
 intro h0 h1 h2 h3 h4 h5 h6 h7 h8
 subst_vars; grind
theorem qA_pN2 (H : Zs q σ) : (q 1057=q 1043*q 1043+q 1044*q 1044+q 1045*q 1045+q 1046*q 1046) :=
 pol H [] 6 1057 (.A (.A (.A (.M (.v 1043) (.v 1043)) (.M (.v 1044) (.v 1044))) (.M (.v 1045) (.v 1045))) (.M (.v 1046) (.v 1046))) (by kernel_rfl)
theorem qA_pu2 (H : Zs q σ) : (¬ (q 1037=0))→(q 1041=1) := by
 have e1041:q 1041=q 1037/q 1037:=H 1041 _ rfl
 clear H
 intro h
 rw [e1041]; exact Qb h ((Rat.div_mul_cancel h).trans (Rat.one_mul _).symm)
theorem qA_ph2 (_H : Zs q σ) : (q 1041=1)→(¬ (fac [q 1039,q 1040,q 1041,q 1042]=0)) := by
 intro u
 intro k
 have j := ZX (x := q 1041) (by simp) k
 rw [u] at j; exact absurd j (by decide)
theorem qA_pK2 (H : Zs q σ) : (q 72*q 72+q 116*q 116+q 158*q 158=1)→(q 73*q 73+q 117*q 117+q 159*q 159=1)→(q 74*q 74+q 118*q 118+q 160*q 160=1)→(q 72*q 73+q 116*q 117+q 158*q 159=0)→(q 72*q 74+q 116*q 118+q 158*q 160=0)→(q 73*q 74+q 117*q 118+q 159*q 160=0)→(0 < q 72*(q 117*q 160-q 159*q 118)+q 116*(q 159*q 74-q 73*q 160)+q 158*(q 73*q 118-q 117*q 74))→(1+q 72+q 117+q 160=0)→(q 1035=0)→(q 1036=q 116+q 73)→(q 1037=1-q 72+q 117-q 160)→(q 1038=q 159+q 118)→(¬ (q 1037=0))→(¬ (fac [q 1039,q 1040,q 1041,q 1042]=0))→(q 1057=q 1043*q 1043+q 1044*q 1044+q 1045*q 1045+q 1046*q 1046)→(QTab (q 1043) (q 1044) (q 1045) (q 1046) (q 1057) (q 72) (q 116) (q 158) (q 73) (q 117) (q 159) (q 74) (q 118) (q 160)) := by
 have e1039:q 1039=q 1035/q 1037:=H 1039 _ rfl;have e1040:q 1040=q 1036/q 1037:=H 1040 _ rfl;have e1041:q 1041=q 1037/q 1037:=H 1041 _ rfl;have e1042:q 1042=q 1038/q 1037:=H 1042 _ rfl;have e1043:q 1043=q 1039*fac [q 1039,q 1040,q 1041,q 1042]:=H 1043 _ rfl;have e1044:q 1044=q 1040*fac [q 1039,q 1040,q 1041,q 1042]:=H 1044 _ rfl;have e1045:q 1045=q 1041*fac [q 1039,q 1040,q 1041,q 1042]:=H 1045 _ rfl;have e1046:q 1046=q 1042*fac [q 1039,q 1040,q 1041,q 1042]:=H 1046 _ rfl
 clear H
 intro r00 r11 r22 r01 r02 r12 hd ht f0 f1 f2 f3 hs hk n
 have Q := CS r00 r11 r22 r01 r02 r12 hd ht f0 f1 f2 f3 hs
 exact QTab.plain Q hs hk e1039 e1040 e1041 e1042 e1043 e1044 e1045 e1046 n
theorem qA_pe1109 (H : Zs q σ) : (QTab (q 1043) (q 1044) (q 1045) (q 1046) (q 1057) (q 72) (q 116) (q 158) (q 73) (q 117) (q 159) (q 74) (q 118) (q 160))→(q 1109=q 72) :=
 fun Q => Qb Q.hn ((Zo H [1057] 12 1109 1057 (.S (.S (.A (.M (.v 1043) (.v 1043)) (.M (.v 1044) (.v 1044))) (.M (.v 1045) (.v 1045))) (.M (.v 1046) (.v 1046))) Q.hn (by kernel_rfl)).trans Q.ha.symm)
theorem qA_pe1153 (H : Zs q σ) : (QTab (q 1043) (q 1044) (q 1045) (q 1046) (q 1057) (q 72) (q 116) (q 158) (q 73) (q 117) (q 159) (q 74) (q 118) (q 160))→(q 1153=q 116) :=
 fun Q => Qb Q.hn ((Zo H [1057] 12 1153 1057 (.M .t (.S (.M (.v 1044) (.v 1045)) (.M (.v 1043) (.v 1046)))) Q.hn (by kernel_rfl)).trans Q.hb.symm)
theorem qA_pe1195 (H : Zs q σ) : (QTab (q 1043) (q 1044) (q 1045) (q 1046) (q 1057) (q 72) (q 116) (q 158) (q 73) (q 117) (q 159) (q 74) (q 118) (q 160))→(q 1195=q 158) :=
 fun Q => Qb Q.hn ((Zo H [1057] 12 1195 1057 (.M .t (.A (.M (.v 1044) (.v 1046)) (.M (.v 1043) (.v 1045)))) Q.hn (by kernel_rfl)).trans Q.hc.symm)
theorem qA_pe1110 (H : Zs q σ) : (QTab (q 1043) (q 1044) (q 1045) (q 1046) (q 1057) (q 72) (q 116) (q 158) (q 73) (q 117) (q 159) (q 74) (q 118) (q 160))→(q 1110=q 73) :=
 fun Q => Qb Q.hn ((Zo H [1057] 12 1110 1057 (.M .t (.A (.M (.v 1044) (.v 1045)) (.M (.v 1043) (.v 1046)))) Q.hn (by kernel_rfl)).trans Q.hd.symm)
theorem qA_pe1154 (H : Zs q σ) : (QTab (q 1043) (q 1044) (q 1045) (q 1046) (q 1057) (q 72) (q 116) (q 158) (q 73) (q 117) (q 159) (q 74) (q 118) (q 160))→(q 1154=q 117) :=
 fun Q => Qb Q.hn ((Zo H [1057] 12 1154 1057 (.S (.A (.S (.M (.v 1043) (.v 1043)) (.M (.v 1044) (.v 1044))) (.M (.v 1045) (.v 1045))) (.M (.v 1046) (.v 1046))) Q.hn (by kernel_rfl)).trans Q.he.symm)
theorem qA_pe1196 (H : Zs q σ) : (QTab (q 1043) (q 1044) (q 1045) (q 1046) (q 1057) (q 72) (q 116) (q 158) (q 73) (q 117) (q 159) (q 74) (q 118) (q 160))→(q 1196=q 159) :=
 fun Q => Qb Q.hn ((Zo H [1057] 12 1196 1057 (.M .t (.S (.M (.v 1045) (.v 1046)) (.M (.v 1043) (.v 1044)))) Q.hn (by kernel_rfl)).trans Q.hf.symm)
theorem qA_pe1111 (H : Zs q σ) : (QTab (q 1043) (q 1044) (q 1045) (q 1046) (q 1057) (q 72) (q 116) (q 158) (q 73) (q 117) (q 159) (q 74) (q 118) (q 160))→(q 1111=q 74) :=
 fun Q => Qb Q.hn ((Zo H [1057] 12 1111 1057 (.M .t (.S (.M (.v 1044) (.v 1046)) (.M (.v 1043) (.v 1045)))) Q.hn (by kernel_rfl)).trans Q.hg.symm)
theorem qA_pe1155 (H : Zs q σ) : (QTab (q 1043) (q 1044) (q 1045) (q 1046) (q 1057) (q 72) (q 116) (q 158) (q 73) (q 117) (q 159) (q 74) (q 118) (q 160))→(q 1155=q 118) :=
 fun Q => Qb Q.hn ((Zo H [1057] 12 1155 1057 (.M .t (.A (.M (.v 1045) (.v 1046)) (.M (.v 1043) (.v 1044)))) Q.hn (by kernel_rfl)).trans Q.hh.symm)
theorem qA_pe1197 (H : Zs q σ) : (QTab (q 1043) (q 1044) (q 1045) (q 1046) (q 1057) (q 72) (q 116) (q 158) (q 73) (q 117) (q 159) (q 74) (q 118) (q 160))→(q 1197=q 160) :=
 fun Q => Qb Q.hn ((Zo H [1057] 12 1197 1057 (.A (.S (.S (.M (.v 1043) (.v 1043)) (.M (.v 1044) (.v 1044))) (.M (.v 1045) (.v 1045))) (.M (.v 1046) (.v 1046))) Q.hn (by kernel_rfl)).trans Q.hi.symm)
theorem qA_pF1223 (H : Zs q σ) : (q 1109=q 72)→(q 1153=q 116)→(q 1195=q 158)→(q 1110=q 73)→(q 1154=q 117)→(q 1196=q 159)→(q 1111=q 74)→(q 1155=q 118)→(q 1197=q 160)→(q 1223=0) := by
 have e1198:q 1198=q 1109-q 72:=H 1198 _ rfl;have e1199:q 1199=q 1153-q 116:=H 1199 _ rfl;have e1200:q 1200=q 1195-q 158:=H 1200 _ rfl;have e1201:q 1201=q 1110-q 73:=H 1201 _ rfl;have e1202:q 1202=q 1154-q 117:=H 1202 _ rfl;have e1203:q 1203=q 1196-q 159:=H 1203 _ rfl;have e1204:q 1204=q 1111-q 74:=H 1204 _ rfl;have e1205:q 1205=q 1155-q 118:=H 1205 _ rfl;have e1206:q 1206=q 1197-q 160:=H 1206 _ rfl;have e1207:q 1207=q 1198*q 1198:=H 1207 _ rfl;have e1208:q 1208=q 1199*q 1199:=H 1208 _ rfl;have e1209:q 1209=q 1207+q 1208:=H 1209 _ rfl;have e1210:q 1210=q 1200*q 1200:=H 1210 _ rfl;have e1211:q 1211=q 1209+q 1210:=H 1211 _ rfl;have e1212:q 1212=q 1201*q 1201:=H 1212 _ rfl;have e1213:q 1213=q 1211+q 1212:=H 1213 _ rfl;have e1214:q 1214=q 1202*q 1202:=H 1214 _ rfl;have e1215:q 1215=q 1213+q 1214:=H 1215 _ rfl;have e1216:q 1216=q 1203*q 1203:=H 1216 _ rfl;have e1217:q 1217=q 1215+q 1216:=H 1217 _ rfl;have e1218:q 1218=q 1204*q 1204:=H 1218 _ rfl;have e1219:q 1219=q 1217+q 1218:=H 1219 _ rfl;have e1220:q 1220=q 1205*q 1205:=H 1220 _ rfl;have e1221:q 1221=q 1219+q 1220:=H 1221 _ rfl;have e1222:q 1222=q 1206*q 1206:=H 1222 _ rfl;have e1223:q 1223=q 1221+q 1222:=H 1223 _ rfl
 clear H
 intro h0 h1 h2 h3 h4 h5 h6 h7 h8
 subst_vars; grind
theorem qA_pN1 (H : Zs q σ) : (q 755=q 741*q 741+q 742*q 742+q 743*q 743+q 744*q 744) :=
 pol H [] 6 755 (.A (.A (.A (.M (.v 741) (.v 741)) (.M (.v 742) (.v 742))) (.M (.v 743) (.v 743))) (.M (.v 744) (.v 744))) (by kernel_rfl)
theorem qA_pu1 (H : Zs q σ) : (¬ (q 734=0))→(q 738=1) := by
 have e738:q 738=q 734/q 734:=H 738 _ rfl
 clear H
 intro h
 rw [e738]; exact Qb h ((Rat.div_mul_cancel h).trans (Rat.one_mul _).symm)
theorem qA_ph1 (_H : Zs q σ) : (q 738=1)→(¬ (fac [q 737,q 738,q 739,q 740]=0)) := by
 intro u
 intro k
 have j := ZX (x := q 738) (by simp) k
 rw [u] at j; exact absurd j (by decide)
theorem qA_pK1 (H : Zs q σ) : (q 72*q 72+q 116*q 116+q 158*q 158=1)→(q 73*q 73+q 117*q 117+q 159*q 159=1)→(q 74*q 74+q 118*q 118+q 160*q 160=1)→(q 72*q 73+q 116*q 117+q 158*q 159=0)→(q 72*q 74+q 116*q 118+q 158*q 160=0)→(q 73*q 74+q 117*q 118+q 159*q 160=0)→(0 < q 72*(q 117*q 160-q 159*q 118)+q 116*(q 159*q 74-q 73*q 160)+q 158*(q 73*q 118-q 117*q 74))→(1+q 72+q 117+q 160=0)→(q 733=0)→(q 734=1+q 72-q 117-q 160)→(q 735=q 116+q 73)→(q 736=q 158+q 74)→(¬ (q 734=0))→(¬ (fac [q 737,q 738,q 739,q 740]=0))→(q 755=q 741*q 741+q 742*q 742+q 743*q 743+q 744*q 744)→(QTab (q 741) (q 742) (q 743) (q 744) (q 755) (q 72) (q 116) (q 158) (q 73) (q 117) (q 159) (q 74) (q 118) (q 160)) := by
 have e737:q 737=q 733/q 734:=H 737 _ rfl;have e738:q 738=q 734/q 734:=H 738 _ rfl;have e739:q 739=q 735/q 734:=H 739 _ rfl;have e740:q 740=q 736/q 734:=H 740 _ rfl;have e741:q 741=q 737*fac [q 737,q 738,q 739,q 740]:=H 741 _ rfl;have e742:q 742=q 738*fac [q 737,q 738,q 739,q 740]:=H 742 _ rfl;have e743:q 743=q 739*fac [q 737,q 738,q 739,q 740]:=H 743 _ rfl;have e744:q 744=q 740*fac [q 737,q 738,q 739,q 740]:=H 744 _ rfl
 clear H
 intro r00 r11 r22 r01 r02 r12 hd ht f0 f1 f2 f3 hs hk n
 have Q := Ia r00 r11 r22 r01 r02 r12 hd ht f0 f1 f2 f3 hs
 exact QTab.plain Q hs hk e737 e738 e739 e740 e741 e742 e743 e744 n
theorem qA_pe807 (H : Zs q σ) : (QTab (q 741) (q 742) (q 743) (q 744) (q 755) (q 72) (q 116) (q 158) (q 73) (q 117) (q 159) (q 74) (q 118) (q 160))→(q 807=q 72) :=
 fun Q => Qb Q.hn ((Zo H [755] 12 807 755 (.S (.S (.A (.M (.v 741) (.v 741)) (.M (.v 742) (.v 742))) (.M (.v 743) (.v 743))) (.M (.v 744) (.v 744))) Q.hn (by kernel_rfl)).trans Q.ha.symm)
theorem qA_pe851 (H : Zs q σ) : (QTab (q 741) (q 742) (q 743) (q 744) (q 755) (q 72) (q 116) (q 158) (q 73) (q 117) (q 159) (q 74) (q 118) (q 160))→(q 851=q 116) :=
 fun Q => Qb Q.hn ((Zo H [755] 12 851 755 (.M .t (.S (.M (.v 742) (.v 743)) (.M (.v 741) (.v 744)))) Q.hn (by kernel_rfl)).trans Q.hb.symm)
theorem qA_pe893 (H : Zs q σ) : (QTab (q 741) (q 742) (q 743) (q 744) (q 755) (q 72) (q 116) (q 158) (q 73) (q 117) (q 159) (q 74) (q 118) (q 160))→(q 893=q 158) :=
 fun Q => Qb Q.hn ((Zo H [755] 12 893 755 (.M .t (.A (.M (.v 742) (.v 744)) (.M (.v 741) (.v 743)))) Q.hn (by kernel_rfl)).trans Q.hc.symm)
theorem qA_pe808 (H : Zs q σ) : (QTab (q 741) (q 742) (q 743) (q 744) (q 755) (q 72) (q 116) (q 158) (q 73) (q 117) (q 159) (q 74) (q 118) (q 160))→(q 808=q 73) :=
 fun Q => Qb Q.hn ((Zo H [755] 12 808 755 (.M .t (.A (.M (.v 742) (.v 743)) (.M (.v 741) (.v 744)))) Q.hn (by kernel_rfl)).trans Q.hd.symm)
theorem qA_pe852 (H : Zs q σ) : (QTab (q 741) (q 742) (q 743) (q 744) (q 755) (q 72) (q 116) (q 158) (q 73) (q 117) (q 159) (q 74) (q 118) (q 160))→(q 852=q 117) :=
 fun Q => Qb Q.hn ((Zo H [755] 12 852 755 (.S (.A (.S (.M (.v 741) (.v 741)) (.M (.v 742) (.v 742))) (.M (.v 743) (.v 743))) (.M (.v 744) (.v 744))) Q.hn (by kernel_rfl)).trans Q.he.symm)
theorem qA_pe894 (H : Zs q σ) : (QTab (q 741) (q 742) (q 743) (q 744) (q 755) (q 72) (q 116) (q 158) (q 73) (q 117) (q 159) (q 74) (q 118) (q 160))→(q 894=q 159) :=
 fun Q => Qb Q.hn ((Zo H [755] 12 894 755 (.M .t (.S (.M (.v 743) (.v 744)) (.M (.v 741) (.v 742)))) Q.hn (by kernel_rfl)).trans Q.hf.symm)
theorem qA_pe809 (H : Zs q σ) : (QTab (q 741) (q 742) (q 743) (q 744) (q 755) (q 72) (q 116) (q 158) (q 73) (q 117) (q 159) (q 74) (q 118) (q 160))→(q 809=q 74) :=
 fun Q => Qb Q.hn ((Zo H [755] 12 809 755 (.M .t (.S (.M (.v 742) (.v 744)) (.M (.v 741) (.v 743)))) Q.hn (by kernel_rfl)).trans Q.hg.symm)
theorem qA_pe853 (H : Zs q σ) : (QTab (q 741) (q 742) (q 743) (q 744) (q 755) (q 72) (q 116) (q 158) (q 73) (q 117) (q 159) (q 74) (q 118) (q 160))→(q 853=q 118) :=
 fun Q => Qb Q.hn ((Zo H [755] 12 853 755 (.M .t (.A (.M (.v 743) (.v 744)) (.M (.v 741) (.v 742)))) Q.hn (by kernel_rfl)).trans Q.hh.symm)
theorem qA_pe895 (H : Zs q σ) : (QTab (q 741) (q 742) (q 743) (q 744) (q 755) (q 72) (q 116) (q 158) (q 73) (q 117) (q 159) (q 74) (q 118) (q 160))→(q 895=q 160) :=
 fun Q => Qb Q.hn ((Zo H [755] 12 895 755 (.A (.S (.S (.M (.v 741) (.v 741)) (.M (.v 742) (.v 742))) (.M (.v 743) (.v 743))) (.M (.v 744) (.v 744))) Q.hn (by kernel_rfl)).trans Q.hi.symm)
theorem qA_pF921 (H : Zs q σ) : (q 807=q 72)→(q 851=q 116)→(q 893=q 158)→(q 808=q 73)→(q 852=q 117)→(q 894=q 159)→(q 809=q 74)→(q 853=q 118)→(q 895=q 160)→(q 921=0) := by
 have e896:q 896=q 807-q 72:=H 896 _ rfl;have e897:q 897=q 851-q 116:=H 897 _ rfl;have e898:q 898=q 893-q 158:=H 898 _ rfl;have e899:q 899=q 808-q 73:=H 899 _ rfl;have e900:q 900=q 852-q 117:=H 900 _ rfl;have e901:q 901=q 894-q 159:=H 901 _ rfl;have e902:q 902=q 809-q 74:=H 902 _ rfl;have e903:q 903=q 853-q 118:=H 903 _ rfl;have e904:q 904=q 895-q 160:=H 904 _ rfl;have e905:q 905=q 896*q 896:=H 905 _ rfl;have e906:q 906=q 897*q 897:=H 906 _ rfl;have e907:q 907=q 905+q 906:=H 907 _ rfl;have e908:q 908=q 898*q 898:=H 908 _ rfl;have e909:q 909=q 907+q 908:=H 909 _ rfl;have e910:q 910=q 899*q 899:=H 910 _ rfl;have e911:q 911=q 909+q 910:=H 911 _ rfl;have e912:q 912=q 900*q 900:=H 912 _ rfl;have e913:q 913=q 911+q 912:=H 913 _ rfl;have e914:q 914=q 901*q 901:=H 914 _ rfl;have e915:q 915=q 913+q 914:=H 915 _ rfl;have e916:q 916=q 902*q 902:=H 916 _ rfl;have e917:q 917=q 915+q 916:=H 917 _ rfl;have e918:q 918=q 903*q 903:=H 918 _ rfl;have e919:q 919=q 917+q 918:=H 919 _ rfl;have e920:q 920=q 904*q 904:=H 920 _ rfl;have e921:q 921=q 919+q 920:=H 921 _ rfl
 clear H
 intro h0 h1 h2 h3 h4 h5 h6 h7 h8
 subst_vars; grind
theorem qA_pN0 (H : Zs q σ) : (q 438=q 424*q 424+q 425*q 425+q 426*q 426+q 427*q 427) :=
 pol H [] 6 438 (.A (.A (.A (.M (.v 424) (.v 424)) (.M (.v 425) (.v 425))) (.M (.v 426) (.v 426))) (.M (.v 427) (.v 427))) (by kernel_rfl)
theorem qA_pu0 (H : Zs q σ) : (¬ (q 416=0))→(q 420=1) := by
 have e420:q 420=q 416/q 416:=H 420 _ rfl
 clear H
 intro h
 rw [e420]; exact Qb h ((Rat.div_mul_cancel h).trans (Rat.one_mul _).symm)
theorem qA_ph0 (_H : Zs q σ) : (q 420=1)→(¬ (fac [q 420,q 421,q 422,q 423]=0)) := by
 intro u
 intro k
 have j := ZX (x := q 420) (by simp) k
 rw [u] at j; exact absurd j (by decide)
theorem qA_pK0 (H : Zs q σ) : (q 72*q 72+q 116*q 116+q 158*q 158=1)→(q 73*q 73+q 117*q 117+q 159*q 159=1)→(q 74*q 74+q 118*q 118+q 160*q 160=1)→(q 72*q 73+q 116*q 117+q 158*q 159=0)→(q 72*q 74+q 116*q 118+q 158*q 160=0)→(q 73*q 74+q 117*q 118+q 159*q 160=0)→(0 < q 72*(q 117*q 160-q 159*q 118)+q 116*(q 159*q 74-q 73*q 160)+q 158*(q 73*q 118-q 117*q 74))→(q 416=1+q 72+q 117+q 160)→(q 417=q 118-q 159)→(q 418=q 158-q 74)→(q 419=q 73-q 116)→(¬ (q 416=0))→(¬ (fac [q 420,q 421,q 422,q 423]=0))→(q 438=q 424*q 424+q 425*q 425+q 426*q 426+q 427*q 427)→(QTab (q 424) (q 425) (q 426) (q 427) (q 438) (q 72) (q 116) (q 158) (q 73) (q 117) (q 159) (q 74) (q 118) (q 160)) := by
 have e420:q 420=q 416/q 416:=H 420 _ rfl;have e421:q 421=q 417/q 416:=H 421 _ rfl;have e422:q 422=q 418/q 416:=H 422 _ rfl;have e423:q 423=q 419/q 416:=H 423 _ rfl;have e424:q 424=q 420*fac [q 420,q 421,q 422,q 423]:=H 424 _ rfl;have e425:q 425=q 421*fac [q 420,q 421,q 422,q 423]:=H 425 _ rfl;have e426:q 426=q 422*fac [q 420,q 421,q 422,q 423]:=H 426 _ rfl;have e427:q 427=q 423*fac [q 420,q 421,q 422,q 423]:=H 427 _ rfl
 clear H
 intro r00 r11 r22 r01 r02 r12 hd f0 f1 f2 f3 hs hk n
 have Q := Cv r00 r11 r22 r01 r02 r12 hd f0 hs f1 f2 f3
 exact QTab.plain Q hs hk e420 e421 e422 e423 e424 e425 e426 e427 n
theorem qA_pe490 (H : Zs q σ) : (QTab (q 424) (q 425) (q 426) (q 427) (q 438) (q 72) (q 116) (q 158) (q 73) (q 117) (q 159) (q 74) (q 118) (q 160))→(q 490=q 72) :=
 fun Q => Qb Q.hn ((Zo H [438] 12 490 438 (.S (.S (.A (.M (.v 424) (.v 424)) (.M (.v 425) (.v 425))) (.M (.v 426) (.v 426))) (.M (.v 427) (.v 427))) Q.hn (by kernel_rfl)).trans Q.ha.symm)
theorem qA_pe534 (H : Zs q σ) : (QTab (q 424) (q 425) (q 426) (q 427) (q 438) (q 72) (q 116) (q 158) (q 73) (q 117) (q 159) (q 74) (q 118) (q 160))→(q 534=q 116) :=
 fun Q => Qb Q.hn ((Zo H [438] 12 534 438 (.M .t (.S (.M (.v 425) (.v 426)) (.M (.v 424) (.v 427)))) Q.hn (by kernel_rfl)).trans Q.hb.symm)
theorem qA_pe576 (H : Zs q σ) : (QTab (q 424) (q 425) (q 426) (q 427) (q 438) (q 72) (q 116) (q 158) (q 73) (q 117) (q 159) (q 74) (q 118) (q 160))→(q 576=q 158) :=
 fun Q => Qb Q.hn ((Zo H [438] 12 576 438 (.M .t (.A (.M (.v 425) (.v 427)) (.M (.v 424) (.v 426)))) Q.hn (by kernel_rfl)).trans Q.hc.symm)
theorem qA_pe491 (H : Zs q σ) : (QTab (q 424) (q 425) (q 426) (q 427) (q 438) (q 72) (q 116) (q 158) (q 73) (q 117) (q 159) (q 74) (q 118) (q 160))→(q 491=q 73) :=
 fun Q => Qb Q.hn ((Zo H [438] 12 491 438 (.M .t (.A (.M (.v 425) (.v 426)) (.M (.v 424) (.v 427)))) Q.hn (by kernel_rfl)).trans Q.hd.symm)
theorem qA_pe535 (H : Zs q σ) : (QTab (q 424) (q 425) (q 426) (q 427) (q 438) (q 72) (q 116) (q 158) (q 73) (q 117) (q 159) (q 74) (q 118) (q 160))→(q 535=q 117) :=
 fun Q => Qb Q.hn ((Zo H [438] 12 535 438 (.S (.A (.S (.M (.v 424) (.v 424)) (.M (.v 425) (.v 425))) (.M (.v 426) (.v 426))) (.M (.v 427) (.v 427))) Q.hn (by kernel_rfl)).trans Q.he.symm)
theorem qA_pe577 (H : Zs q σ) : (QTab (q 424) (q 425) (q 426) (q 427) (q 438) (q 72) (q 116) (q 158) (q 73) (q 117) (q 159) (q 74) (q 118) (q 160))→(q 577=q 159) :=
 fun Q => Qb Q.hn ((Zo H [438] 12 577 438 (.M .t (.S (.M (.v 426) (.v 427)) (.M (.v 424) (.v 425)))) Q.hn (by kernel_rfl)).trans Q.hf.symm)
theorem qA_pe492 (H : Zs q σ) : (QTab (q 424) (q 425) (q 426) (q 427) (q 438) (q 72) (q 116) (q 158) (q 73) (q 117) (q 159) (q 74) (q 118) (q 160))→(q 492=q 74) :=
 fun Q => Qb Q.hn ((Zo H [438] 12 492 438 (.M .t (.S (.M (.v 425) (.v 427)) (.M (.v 424) (.v 426)))) Q.hn (by kernel_rfl)).trans Q.hg.symm)
theorem qA_pe536 (H : Zs q σ) : (QTab (q 424) (q 425) (q 426) (q 427) (q 438) (q 72) (q 116) (q 158) (q 73) (q 117) (q 159) (q 74) (q 118) (q 160))→(q 536=q 118) :=
 fun Q => Qb Q.hn ((Zo H [438] 12 536 438 (.M .t (.A (.M (.v 426) (.v 427)) (.M (.v 424) (.v 425)))) Q.hn (by kernel_rfl)).trans Q.hh.symm)
theorem qA_pe578 (H : Zs q σ) : (QTab (q 424) (q 425) (q 426) (q 427) (q 438) (q 72) (q 116) (q 158) (q 73) (q 117) (q 159) (q 74) (q 118) (q 160))→(q 578=q 160) :=
 fun Q => Qb Q.hn ((Zo H [438] 12 578 438 (.A (.S (.S (.M (.v 424) (.v 424)) (.M (.v 425) (.v 425))) (.M (.v 426) (.v 426))) (.M (.v 427) (.v 427))) Q.hn (by kernel_rfl)).trans Q.hi.symm)
theorem qA_pF612 (H : Zs q σ) : (q 490=q 72)→(q 534=q 116)→(q 576=q 158)→(q 491=q 73)→(q 535=q 117)→(q 577=q 159)→(q 492=q 74)→(q 536=q 118)→(q 578=q 160)→(q 612=0) := by
 have e587:q 587=q 490-q 72:=H 587 _ rfl;have e588:q 588=q 534-q 116:=H 588 _ rfl;have e589:q 589=q 576-q 158:=H 589 _ rfl;have e590:q 590=q 491-q 73:=H 590 _ rfl;have e591:q 591=q 535-q 117:=H 591 _ rfl;have e592:q 592=q 577-q 159:=H 592 _ rfl;have e593:q 593=q 492-q 74:=H 593 _ rfl;have e594:q 594=q 536-q 118:=H 594 _ rfl;have e595:q 595=q 578-q 160:=H 595 _ rfl;have e596:q 596=q 587*q 587:=H 596 _ rfl;have e597:q 597=q 588*q 588:=H 597 _ rfl;have e598:q 598=q 596+q 597:=H 598 _ rfl;have e599:q 599=q 589*q 589:=H 599 _ rfl;have e600:q 600=q 598+q 599:=H 600 _ rfl;have e601:q 601=q 590*q 590:=H 601 _ rfl;have e602:q 602=q 600+q 601:=H 602 _ rfl;have e603:q 603=q 591*q 591:=H 603 _ rfl;have e604:q 604=q 602+q 603:=H 604 _ rfl;have e605:q 605=q 592*q 592:=H 605 _ rfl;have e606:q 606=q 604+q 605:=H 606 _ rfl;have e607:q 607=q 593*q 593:=H 607 _ rfl;have e608:q 608=q 606+q 607:=H 608 _ rfl;have e609:q 609=q 594*q 594:=H 609 _ rfl;have e610:q 610=q 608+q 609:=H 610 _ rfl;have e611:q 611=q 595*q 595:=H 611 _ rfl;have e612:q 612=q 610+q 611:=H 612 _ rfl
 clear H
 intro h0 h1 h2 h3 h4 h5 h6 h7 h8
 subst_vars; grind
def YP : List (FuncId × Nat) := [(37,66),(17,65)]
def qA_G : JP := [(71,[qA [1454,1459,1460,1461],qA [1339,1343,1344,1345]],qA [1469,1488,1489,1490]),(71,[qA [1339,1340,1341,1342],(false,[(true,[.inl (.bool false),.inl (.slice none 0 0),.inl (.slice none 0 0),.inl (.bool false),.inl (.slice none 0 0),.inl (.slice none 0 0),.inl (.bool false),.inl (.slice none 0 0),.inl (.slice none 0 0),.inr (0,1,20,0,0),.inr (0,2,20,0,0),.inr (0,3,20,0,0)])])],qA [1454,1459,1460,1461]),(71,[qA [1411,1417,1418,1419],qA [1339,1343,1344,1345]],qA [1427,1446,1447,1448]),(71,[qA [1339,1340,1341,1342],(false,[(true,[.inl (.bool false),.inl (.slice none 0 0),.inl (.slice none 0 0),.inl (.bool false),.inl (.slice none 0 0),.inl (.slice none 0 0),.inr (0,1,20,0,0),.inr (0,2,20,0,0),.inr (0,3,20,0,0),.inl (.bool false),.inl (.slice none 0 0),.inl (.slice none 0 0)])])],qA [1411,1417,1418,1419]),(71,[qA [1361,1373,1374,1375],qA [1339,1343,1344,1345]],qA [1383,1402,1403,1404]),(71,[qA [1339,1340,1341,1342],(false,[(true,[.inl (.bool false),.inl (.slice none 0 0),.inl (.slice none 0 0),.inr (0,1,20,0,0),.inr (0,2,20,0,0),.inr (0,3,20,0,0),.inl (.bool false),.inl (.slice none 0 0),.inl (.slice none 0 0),.inl (.bool false),.inl (.slice none 0 0),.inl (.slice none 0 0)])])],qA [1361,1373,1374,1375]),(129,[qA [1340,1341,1342],(false,[(true,[.inl (.bool false),.inl (.slice none 0 0),.inl (.slice none 0 0)])])],qA [1364,1357,1359]),(71,[qA [1299,1303,1304,1305],(false,[(true,[.inl (.bool false),.inl (.slice none 0 0),.inl (.slice none 0 0),.inr (0,1,294,0,0),.inr (0,2,294,0,0),.inr (0,3,294,0,0),.inr (0,1,294,0,0),.inr (0,2,294,0,0),.inr (0,3,294,0,0),.inr (0,1,293,0,0),.inr (0,2,293,0,0),.inr (0,3,293,0,0)])])],qA [1313,1328,1329,1330]),(71,[(false,[(true,[.inl (.bool false),.inl (.slice none 0 0),.inl (.slice none 0 0),.inr (0,1,158,0,0),.inr (0,2,158,0,0),.inr (0,3,158,0,0),.inr (0,1,159,0,0),.inr (0,2,159,0,0),.inr (0,3,159,0,0),.inr (0,1,160,0,0),.inr (0,2,160,0,0),.inr (0,3,160,0,0)])]),(false,[(true,[.inl (.bool false),.inl (.slice none 0 0),.inl (.slice none 0 0),.inl (.bool false),.inl (.slice none 0 0),.inl (.slice none 0 0),.inl (.bool false),.inl (.slice none 0 0),.inl (.slice none 0 0),.inr (0,1,20,0,0),.inr (0,2,20,0,0),.inr (0,3,20,0,0)])])],qA [1299,1303,1304,1305]),(71,[qA [1262,1266,1267,1268],(false,[(true,[.inl (.bool false),.inl (.slice none 0 0),.inl (.slice none 0 0),.inr (0,1,294,0,0),.inr (0,2,294,0,0),.inr (0,3,294,0,0),.inr (0,1,293,0,0),.inr (0,2,293,0,0),.inr (0,3,293,0,0),.inr (0,1,294,0,0),.inr (0,2,294,0,0),.inr (0,3,294,0,0)])])],qA [1276,1291,1292,1293]),(71,[(false,[(true,[.inl (.bool false),.inl (.slice none 0 0),.inl (.slice none 0 0),.inr (0,1,116,0,0),.inr (0,2,116,0,0),.inr (0,3,116,0,0),.inr (0,1,117,0,0),.inr (0,2,117,0,0),.inr (0,3,117,0,0),.inr (0,1,118,0,0),.inr (0,2,118,0,0),.inr (0,3,118,0,0)])]),(false,[(true,[.inl (.bool false),.inl (.slice none 0 0),.inl (.slice none 0 0),.inl (.bool false),.inl (.slice none 0 0),.inl (.slice none 0 0),.inl (.bool false),.inl (.slice none 0 0),.inl (.slice none 0 0),.inr (0,1,20,0,0),.inr (0,2,20,0,0),.inr (0,3,20,0,0)])])],qA [1262,1266,1267,1268]),(71,[qA [1225,1229,1230,1231],(false,[(true,[.inl (.bool false),.inl (.slice none 0 0),.inl (.slice none 0 0),.inr (0,1,293,0,0),.inr (0,2,293,0,0),.inr (0,3,293,0,0),.inr (0,1,294,0,0),.inr (0,2,294,0,0),.inr (0,3,294,0,0),.inr (0,1,294,0,0),.inr (0,2,294,0,0),.inr (0,3,294,0,0)])])],qA [1239,1254,1255,1256]),(71,[(false,[(true,[.inl (.bool false),.inl (.slice none 0 0),.inl (.slice none 0 0),.inr (0,1,72,0,0),.inr (0,2,72,0,0),.inr (0,3,72,0,0),.inr (0,1,73,0,0),.inr (0,2,73,0,0),.inr (0,3,73,0,0),.inr (0,1,74,0,0),.inr (0,2,74,0,0),.inr (0,3,74,0,0)])]),(false,[(true,[.inl (.bool false),.inl (.slice none 0 0),.inl (.slice none 0 0),.inl (.bool false),.inl (.slice none 0 0),.inl (.slice none 0 0),.inl (.bool false),.inl (.slice none 0 0),.inl (.slice none 0 0),.inr (0,1,20,0,0),.inr (0,2,20,0,0),.inr (0,3,20,0,0)])])],qA [1225,1229,1230,1231]),(129,[(false,[(true,[.inl (.bool false),.inl (.slice none 0 0),.inl (.slice none 0 0),.inl (.bool false),.inl (.slice none 0 0),.inl (.slice none 0 0),.inr (0,1,20,0,0),.inr (0,2,20,0,0),.inr (0,3,20,0,0)])]),(false,[(true,[.inl (.bool false),.inl (.slice none 0 0),.inl (.slice none 0 0)])])],qA [280,280,617]),(71,[qA [1158,1163,1164,1165],qA [1043,1047,1048,1049]],qA [1173,1192,1193,1194]),(71,[qA [1043,1044,1045,1046],(false,[(true,[.inl (.bool false),.inl (.slice none 0 0),.inl (.slice none 0 0),.inl (.bool false),.inl (.slice none 0 0),.inl (.slice none 0 0),.inl (.bool false),.inl (.slice none 0 0),.inl (.slice none 0 0),.inr (0,1,20,0,0),.inr (0,2,20,0,0),.inr (0,3,20,0,0)])])],qA [1158,1163,1164,1165]),(71,[qA [1115,1121,1122,1123],qA [1043,1047,1048,1049]],qA [1131,1150,1151,1152]),(71,[qA [1043,1044,1045,1046],(false,[(true,[.inl (.bool false),.inl (.slice none 0 0),.inl (.slice none 0 0),.inl (.bool false),.inl (.slice none 0 0),.inl (.slice none 0 0),.inr (0,1,20,0,0),.inr (0,2,20,0,0),.inr (0,3,20,0,0),.inl (.bool false),.inl (.slice none 0 0),.inl (.slice none 0 0)])])],qA [1115,1121,1122,1123]),(71,[qA [1065,1077,1078,1079],qA [1043,1047,1048,1049]],qA [1087,1106,1107,1108]),(71,[qA [1043,1044,1045,1046],(false,[(true,[.inl (.bool false),.inl (.slice none 0 0),.inl (.slice none 0 0),.inr (0,1,20,0,0),.inr (0,2,20,0,0),.inr (0,3,20,0,0),.inl (.bool false),.inl (.slice none 0 0),.inl (.slice none 0 0),.inl (.bool false),.inl (.slice none 0 0),.inl (.slice none 0 0)])])],qA [1065,1077,1078,1079]),(129,[qA [1044,1045,1046],(false,[(true,[.inl (.bool false),.inl (.slice none 0 0),.inl (.slice none 0 0)])])],qA [1068,1061,1063]),(98,[qA [996,997,998,999],qA [1017,1032,1033,1034]],qA [1035,1036,1037,1038]),(71,[qA [1002,1007,1008,1009],(false,[(true,[.inl (.bool false),.inl (.slice none 0 0),.inl (.slice none 0 0),.inr (0,1,294,0,0),.inr (0,2,294,0,0),.inr (0,3,294,0,0),.inr (0,1,294,0,0),.inr (0,2,294,0,0),.inr (0,3,294,0,0),.inr (0,1,293,0,0),.inr (0,2,293,0,0),.inr (0,3,293,0,0)])])],qA [1017,1032,1033,1034]),(71,[(false,[(true,[.inl (.bool false),.inl (.slice none 0 0),.inl (.slice none 0 0),.inr (0,1,158,0,0),.inr (0,2,158,0,0),.inr (0,3,158,0,0),.inr (0,1,159,0,0),.inr (0,2,159,0,0),.inr (0,3,159,0,0),.inr (0,1,160,0,0),.inr (0,2,160,0,0),.inr (0,3,160,0,0)])]),(false,[(true,[.inl (.bool false),.inl (.slice none 0 0),.inl (.slice none 0 0),.inl (.bool false),.inl (.slice none 0 0),.inl (.slice none 0 0),.inr (0,1,20,0,0),.inr (0,2,20,0,0),.inr (0,3,20,0,0),.inl (.bool false),.inl (.slice none 0 0),.inl (.slice none 0 0)])])],qA [1002,1007,1008,1009]),(98,[qA [957,958,959,960],qA [978,993,994,995]],qA [996,997,998,999]),(71,[qA [963,968,969,970],(false,[(true,[.inl (.bool false),.inl (.slice none 0 0),.inl (.slice none 0 0),.inr (0,1,294,0,0),.inr (0,2,294,0,0),.inr (0,3,294,0,0),.inr (0,1,293,0,0),.inr (0,2,293,0,0),.inr (0,3,293,0,0),.inr (0,1,294,0,0),.inr (0,2,294,0,0),.inr (0,3,294,0,0)])])],qA [978,993,994,995]),(71,[(false,[(true,[.inl (.bool false),.inl (.slice none 0 0),.inl (.slice none 0 0),.inr (0,1,116,0,0),.inr (0,2,116,0,0),.inr (0,3,116,0,0),.inr (0,1,117,0,0),.inr (0,2,117,0,0),.inr (0,3,117,0,0),.inr (0,1,118,0,0),.inr (0,2,118,0,0),.inr (0,3,118,0,0)])]),(false,[(true,[.inl (.bool false),.inl (.slice none 0 0),.inl (.slice none 0 0),.inl (.bool false),.inl (.slice none 0 0),.inl (.slice none 0 0),.inr (0,1,20,0,0),.inr (0,2,20,0,0),.inr (0,3,20,0,0),.inl (.bool false),.inl (.slice none 0 0),.inl (.slice none 0 0)])])],qA [963,968,969,970]),(98,[(false,[(true,[.inl (.bool false),.inl (.slice none 0 0),.inl (.slice none 0 0),.inl (.bool false),.inl (.slice none 0 0),.inl (.slice none 0 0),.inr (0,1,20,0,0),.inr (0,2,20,0,0),.inr (0,3,20,0,0),.inl (.bool false),.inl (.slice none 0 0),.inl (.slice none 0 0)])]),qA [939,954,955,956]],qA [957,958,959,960]),(71,[qA [924,929,930,931],(false,[(true,[.inl (.bool false),.inl (.slice none 0 0),.inl (.slice none 0 0),.inr (0,1,293,0,0),.inr (0,2,293,0,0),.inr (0,3,293,0,0),.inr (0,1,294,0,0),.inr (0,2,294,0,0),.inr (0,3,294,0,0),.inr (0,1,294,0,0),.inr (0,2,294,0,0),.inr (0,3,294,0,0)])])],qA [939,954,955,956]),(71,[(false,[(true,[.inl (.bool false),.inl (.slice none 0 0),.inl (.slice none 0 0),.inr (0,1,72,0,0),.inr (0,2,72,0,0),.inr (0,3,72,0,0),.inr (0,1,73,0,0),.inr (0,2,73,0,0),.inr (0,3,73,0,0),.inr (0,1,74,0,0),.inr (0,2,74,0,0),.inr (0,3,74,0,0)])]),(false,[(true,[.inl (.bool false),.inl (.slice none 0 0),.inl (.slice none 0 0),.inl (.bool false),.inl (.slice none 0 0),.inl (.slice none 0 0),.inr (0,1,20,0,0),.inr (0,2,20,0,0),.inr (0,3,20,0,0),.inl (.bool false),.inl (.slice none 0 0),.inl (.slice none 0 0)])])],qA [924,929,930,931]),(129,[(false,[(true,[.inl (.bool false),.inl (.slice none 0 0),.inl (.slice none 0 0),.inr (0,1,20,0,0),.inr (0,2,20,0,0),.inr (0,3,20,0,0),.inl (.bool false),.inl (.slice none 0 0),.inl (.slice none 0 0)])]),(false,[(true,[.inl (.bool false),.inl (.slice none 0 0),.inl (.slice none 0 0)])])],qA [280,617,280]),(71,[qA [856,861,862,863],qA [741,745,746,747]],qA [871,890,891,892]),(71,[qA [741,742,743,744],(false,[(true,[.inl (.bool false),.inl (.slice none 0 0),.inl (.slice none 0 0),.inl (.bool false),.inl (.slice none 0 0),.inl (.slice none 0 0),.inl (.bool false),.inl (.slice none 0 0),.inl (.slice none 0 0),.inr (0,1,20,0,0),.inr (0,2,20,0,0),.inr (0,3,20,0,0)])])],qA [856,861,862,863]),(71,[qA [813,819,820,821],qA [741,745,746,747]],qA [829,848,849,850]),(71,[qA [741,742,743,744],(false,[(true,[.inl (.bool false),.inl (.slice none 0 0),.inl (.slice none 0 0),.inl (.bool false),.inl (.slice none 0 0),.inl (.slice none 0 0),.inr (0,1,20,0,0),.inr (0,2,20,0,0),.inr (0,3,20,0,0),.inl (.bool false),.inl (.slice none 0 0),.inl (.slice none 0 0)])])],qA [813,819,820,821]),(71,[qA [763,775,776,777],qA [741,745,746,747]],qA [785,804,805,806]),(71,[qA [741,742,743,744],(false,[(true,[.inl (.bool false),.inl (.slice none 0 0),.inl (.slice none 0 0),.inr (0,1,20,0,0),.inr (0,2,20,0,0),.inr (0,3,20,0,0),.inl (.bool false),.inl (.slice none 0 0),.inl (.slice none 0 0),.inl (.bool false),.inl (.slice none 0 0),.inl (.slice none 0 0)])])],qA [763,775,776,777]),(129,[qA [742,743,744],(false,[(true,[.inl (.bool false),.inl (.slice none 0 0),.inl (.slice none 0 0)])])],qA [766,759,761]),(98,[qA [692,693,694,695],qA [715,730,731,732]],qA [733,734,735,736]),(71,[qA [699,705,706,707],(false,[(true,[.inl (.bool false),.inl (.slice none 0 0),.inl (.slice none 0 0),.inr (0,1,294,0,0),.inr (0,2,294,0,0),.inr (0,3,294,0,0),.inr (0,1,294,0,0),.inr (0,2,294,0,0),.inr (0,3,294,0,0),.inr (0,1,293,0,0),.inr (0,2,293,0,0),.inr (0,3,293,0,0)])])],qA [715,730,731,732]),(71,[(false,[(true,[.inl (.bool false),.inl (.slice none 0 0),.inl (.slice none 0 0),.inr (0,1,158,0,0),.inr (0,2,158,0,0),.inr (0,3,158,0,0),.inr (0,1,159,0,0),.inr (0,2,159,0,0),.inr (0,3,159,0,0),.inr (0,1,160,0,0),.inr (0,2,160,0,0),.inr (0,3,160,0,0)])]),(false,[(true,[.inl (.bool false),.inl (.slice none 0 0),.inl (.slice none 0 0),.inr (0,1,20,0,0),.inr (0,2,20,0,0),.inr (0,3,20,0,0),.inl (.bool false),.inl (.slice none 0 0),.inl (.slice none 0 0),.inl (.bool false),.inl (.slice none 0 0),.inl (.slice none 0 0)])])],qA [699,705,706,707]),(129,[qA [158,159,160],(false,[(true,[.inl (.bool false),.inl (.slice none 0 0),.inl (.slice none 0 0)])])],qA [372,374,376]),(98,[qA [651,652,653,654],qA [674,689,690,691]],qA [692,693,694,695]),(71,[qA [658,664,665,666],(false,[(true,[.inl (.bool false),.inl (.slice none 0 0),.inl (.slice none 0 0),.inr (0,1,294,0,0),.inr (0,2,294,0,0),.inr (0,3,294,0,0),.inr (0,1,293,0,0),.inr (0,2,293,0,0),.inr (0,3,293,0,0),.inr (0,1,294,0,0),.inr (0,2,294,0,0),.inr (0,3,294,0,0)])])],qA [674,689,690,691]),(71,[(false,[(true,[.inl (.bool false),.inl (.slice none 0 0),.inl (.slice none 0 0),.inr (0,1,116,0,0),.inr (0,2,116,0,0),.inr (0,3,116,0,0),.inr (0,1,117,0,0),.inr (0,2,117,0,0),.inr (0,3,117,0,0),.inr (0,1,118,0,0),.inr (0,2,118,0,0),.inr (0,3,118,0,0)])]),(false,[(true,[.inl (.bool false),.inl (.slice none 0 0),.inl (.slice none 0 0),.inr (0,1,20,0,0),.inr (0,2,20,0,0),.inr (0,3,20,0,0),.inl (.bool false),.inl (.slice none 0 0),.inl (.slice none 0 0),.inl (.bool false),.inl (.slice none 0 0),.inl (.slice none 0 0)])])],qA [658,664,665,666]),(129,[qA [116,117,118],(false,[(true,[.inl (.bool false),.inl (.slice none 0 0),.inl (.slice none 0 0)])])],qA [324,326,328]),(98,[(false,[(true,[.inl (.bool false),.inl (.slice none 0 0),.inl (.slice none 0 0),.inr (0,1,20,0,0),.inr (0,2,20,0,0),.inr (0,3,20,0,0),.inl (.bool false),.inl (.slice none 0 0),.inl (.slice none 0 0),.inl (.bool false),.inl (.slice none 0 0),.inl (.slice none 0 0)])]),qA [633,648,649,650]],qA [651,652,653,654]),(71,[qA [616,623,624,625],(false,[(true,[.inl (.bool false),.inl (.slice none 0 0),.inl (.slice none 0 0),.inr (0,1,293,0,0),.inr (0,2,293,0,0),.inr (0,3,293,0,0),.inr (0,1,294,0,0),.inr (0,2,294,0,0),.inr (0,3,294,0,0),.inr (0,1,294,0,0),.inr (0,2,294,0,0),.inr (0,3,294,0,0)])])],qA [633,648,649,650]),(71,[(false,[(true,[.inl (.bool false),.inl (.slice none 0 0),.inl (.slice none 0 0),.inr (0,1,72,0,0),.inr (0,2,72,0,0),.inr (0,3,72,0,0),.inr (0,1,73,0,0),.inr (0,2,73,0,0),.inr (0,3,73,0,0),.inr (0,1,74,0,0),.inr (0,2,74,0,0),.inr (0,3,74,0,0)])]),(false,[(true,[.inl (.bool false),.inl (.slice none 0 0),.inl (.slice none 0 0),.inr (0,1,20,0,0),.inr (0,2,20,0,0),.inr (0,3,20,0,0),.inl (.bool false),.inl (.slice none 0 0),.inl (.slice none 0 0),.inl (.bool false),.inl (.slice none 0 0),.inl (.slice none 0 0)])])],qA [616,623,624,625]),(129,[qA [72,73,74],(false,[(true,[.inl (.bool false),.inl (.slice none 0 0),.inl (.slice none 0 0)])])],qA [273,275,277]),(129,[(false,[(true,[.inr (0,1,20,0,0),.inr (0,2,20,0,0),.inr (0,3,20,0,0),.inl (.bool false),.inl (.slice none 0 0),.inl (.slice none 0 0),.inl (.bool false),.inl (.slice none 0 0),.inl (.slice none 0 0)])]),(false,[(true,[.inl (.bool false),.inl (.slice none 0 0),.inl (.slice none 0 0)])])],qA [617,280,280]),(71,[qA [539,544,545,546],qA [424,428,429,430]],qA [554,573,574,575]),(71,[qA [424,425,426,427],(false,[(true,[.inl (.bool false),.inl (.slice none 0 0),.inl (.slice none 0 0),.inl (.bool false),.inl (.slice none 0 0),.inl (.slice none 0 0),.inl (.bool false),.inl (.slice none 0 0),.inl (.slice none 0 0),.inr (0,1,20,0,0),.inr (0,2,20,0,0),.inr (0,3,20,0,0)])])],qA [539,544,545,546]),(71,[qA [496,502,503,504],qA [424,428,429,430]],qA [512,531,532,533]),(71,[qA [424,425,426,427],(false,[(true,[.inl (.bool false),.inl (.slice none 0 0),.inl (.slice none 0 0),.inl (.bool false),.inl (.slice none 0 0),.inl (.slice none 0 0),.inr (0,1,20,0,0),.inr (0,2,20,0,0),.inr (0,3,20,0,0),.inl (.bool false),.inl (.slice none 0 0),.inl (.slice none 0 0)])])],qA [496,502,503,504]),(71,[qA [446,458,459,460],qA [424,428,429,430]],qA [468,487,488,489]),(71,[qA [424,425,426,427],(false,[(true,[.inl (.bool false),.inl (.slice none 0 0),.inl (.slice none 0 0),.inr (0,1,20,0,0),.inr (0,2,20,0,0),.inr (0,3,20,0,0),.inl (.bool false),.inl (.slice none 0 0),.inl (.slice none 0 0),.inl (.bool false),.inl (.slice none 0 0),.inl (.slice none 0 0)])])],qA [446,458,459,460]),(129,[qA [425,426,427],(false,[(true,[.inl (.bool false),.inl (.slice none 0 0),.inl (.slice none 0 0)])])],qA [449,442,444]),(98,[qA [368,369,370,371],qA [398,413,414,415]],qA [416,417,418,419]),(71,[qA [378,388,389,390],(false,[(true,[.inl (.bool false),.inl (.slice none 0 0),.inl (.slice none 0 0),.inr (0,1,294,0,0),.inr (0,2,294,0,0),.inr (0,3,294,0,0),.inr (0,1,294,0,0),.inr (0,2,294,0,0),.inr (0,3,294,0,0),.inr (0,1,293,0,0),.inr (0,2,293,0,0),.inr (0,3,293,0,0)])])],qA [398,413,414,415]),(100,[(false,[(true,[.inl (.bool false),.inl (.slice none 0 0),.inl (.slice none 0 0),.inl (.bool false),.inl (.slice none 0 0),.inl (.slice none 0 0),.inl (.bool false),.inl (.slice none 0 0),.inl (.slice none 0 0),.inr (0,1,20,0,0),.inr (0,2,20,0,0),.inr (0,3,20,0,0)])])],(false,[(true,[.inl (.bool false),.inl (.slice none 0 0),.inl (.slice none 0 0),.inr (0,1,294,0,0),.inr (0,2,294,0,0),.inr (0,3,294,0,0),.inr (0,1,294,0,0),.inr (0,2,294,0,0),.inr (0,3,294,0,0),.inr (0,1,293,0,0),.inr (0,2,293,0,0),.inr (0,3,293,0,0)])])),(71,[(false,[(true,[.inl (.bool false),.inl (.slice none 0 0),.inl (.slice none 0 0),.inr (0,1,158,0,0),.inr (0,2,158,0,0),.inr (0,3,158,0,0),.inr (0,1,159,0,0),.inr (0,2,159,0,0),.inr (0,3,159,0,0),.inr (0,1,160,0,0),.inr (0,2,160,0,0),.inr (0,3,160,0,0)])]),(false,[(true,[.inr (0,1,20,0,0),.inr (0,2,20,0,0),.inr (0,3,20,0,0),.inl (.bool false),.inl (.slice none 0 0),.inl (.slice none 0 0),.inl (.bool false),.inl (.slice none 0 0),.inl (.slice none 0 0),.inl (.bool false),.inl (.slice none 0 0),.inl (.slice none 0 0)])])],qA [378,388,389,390]),(98,[qA [320,321,322,323],qA [350,365,366,367]],qA [368,369,370,371]),(71,[qA [330,340,341,342],(false,[(true,[.inl (.bool false),.inl (.slice none 0 0),.inl (.slice none 0 0),.inr (0,1,294,0,0),.inr (0,2,294,0,0),.inr (0,3,294,0,0),.inr (0,1,293,0,0),.inr (0,2,293,0,0),.inr (0,3,293,0,0),.inr (0,1,294,0,0),.inr (0,2,294,0,0),.inr (0,3,294,0,0)])])],qA [350,365,366,367]),(100,[(false,[(true,[.inl (.bool false),.inl (.slice none 0 0),.inl (.slice none 0 0),.inl (.bool false),.inl (.slice none 0 0),.inl (.slice none 0 0),.inr (0,1,20,0,0),.inr (0,2,20,0,0),.inr (0,3,20,0,0),.inl (.bool false),.inl (.slice none 0 0),.inl (.slice none 0 0)])])],(false,[(true,[.inl (.bool false),.inl (.slice none 0 0),.inl (.slice none 0 0),.inr (0,1,294,0,0),.inr (0,2,294,0,0),.inr (0,3,294,0,0),.inr (0,1,293,0,0),.inr (0,2,293,0,0),.inr (0,3,293,0,0),.inr (0,1,294,0,0),.inr (0,2,294,0,0),.inr (0,3,294,0,0)])])),(71,[(false,[(true,[.inl (.bool false),.inl (.slice none 0 0),.inl (.slice none 0 0),.inr (0,1,116,0,0),.inr (0,2,116,0,0),.inr (0,3,116,0,0),.inr (0,1,117,0,0),.inr (0,2,117,0,0),.inr (0,3,117,0,0),.inr (0,1,118,0,0),.inr (0,2,118,0,0),.inr (0,3,118,0,0)])]),(false,[(true,[.inr (0,1,20,0,0),.inr (0,2,20,0,0),.inr (0,3,20,0,0),.inl (.bool false),.inl (.slice none 0 0),.inl (.slice none 0 0),.inl (.bool false),.inl (.slice none 0 0),.inl (.slice none 0 0),.inl (.bool false),.inl (.slice none 0 0),.inl (.slice none 0 0)])])],qA [330,340,341,342]),(98,[(false,[(true,[.inr (0,1,20,0,0),.inr (0,2,20,0,0),.inr (0,3,20,0,0),.inl (.bool false),.inl (.slice none 0 0),.inl (.slice none 0 0),.inl (.bool false),.inl (.slice none 0 0),.inl (.slice none 0 0),.inl (.bool false),.inl (.slice none 0 0),.inl (.slice none 0 0)])]),qA [302,317,318,319]],qA [320,321,322,323]),(71,[qA [279,290,291,292],(false,[(true,[.inl (.bool false),.inl (.slice none 0 0),.inl (.slice none 0 0),.inr (0,1,293,0,0),.inr (0,2,293,0,0),.inr (0,3,293,0,0),.inr (0,1,294,0,0),.inr (0,2,294,0,0),.inr (0,3,294,0,0),.inr (0,1,294,0,0),.inr (0,2,294,0,0),.inr (0,3,294,0,0)])])],qA [302,317,318,319]),(100,[(false,[(true,[.inl (.bool false),.inl (.slice none 0 0),.inl (.slice none 0 0),.inr (0,1,20,0,0),.inr (0,2,20,0,0),.inr (0,3,20,0,0),.inl (.bool false),.inl (.slice none 0 0),.inl (.slice none 0 0),.inl (.bool false),.inl (.slice none 0 0),.inl (.slice none 0 0)])])],(false,[(true,[.inl (.bool false),.inl (.slice none 0 0),.inl (.slice none 0 0),.inr (0,1,293,0,0),.inr (0,2,293,0,0),.inr (0,3,293,0,0),.inr (0,1,294,0,0),.inr (0,2,294,0,0),.inr (0,3,294,0,0),.inr (0,1,294,0,0),.inr (0,2,294,0,0),.inr (0,3,294,0,0)])])),(71,[(false,[(true,[.inl (.bool false),.inl (.slice none 0 0),.inl (.slice none 0 0),.inr (0,1,72,0,0),.inr (0,2,72,0,0),.inr (0,3,72,0,0),.inr (0,1,73,0,0),.inr (0,2,73,0,0),.inr (0,3,73,0,0),.inr (0,1,74,0,0),.inr (0,2,74,0,0),.inr (0,3,74,0,0)])]),(false,[(true,[.inr (0,1,20,0,0),.inr (0,2,20,0,0),.inr (0,3,20,0,0),.inl (.bool false),.inl (.slice none 0 0),.inl (.slice none 0 0),.inl (.bool false),.inl (.slice none 0 0),.inl (.slice none 0 0),.inl (.bool false),.inl (.slice none 0 0),.inl (.slice none 0 0)])])],qA [279,290,291,292]),(129,[(false,[(true,[.inl (.bool false),.inl (.slice none 0 0),.inl (.slice none 0 0),.inl (.bool false),.inl (.slice none 0 0),.inl (.slice none 0 0),.inl (.bool false),.inl (.slice none 0 0),.inl (.slice none 0 0)])]),(false,[(true,[.inl (.bool false),.inl (.slice none 0 0),.inl (.slice none 0 0)])])],qA [280,280,280]),(96,[qA [72,116,158,73,117,159,74,118,160]],qA [72,73,74,116,117,118,158,159,160]),(94,[qA [72,116,158,73,117,159,74,118,160]],qA [271]),(93,[qA [74,118,160],qA [72,116,158]],qA [256]),(76,[qA [74,118,160]],qA [249]),(93,[qA [73,117,159],qA [74,118,160]],qA [243]),(76,[qA [73,117,159]],qA [236]),(93,[qA [72,116,158],qA [73,117,159]],qA [230]),(76,[qA [72,116,158]],qA [223]),(52,[tA [72,116,158,73,117,159,74,118,160]],qA [72,116,158,73,117,159,74,118,160]),(84,[qA [212,213,214],qA [19]],qA [215,216,217]),(71,[qA [167,183,184,185],qA [4,9,10,11]],qA [193,212,213,214]),(71,[qA [4,5,6,7],(false,[(true,[.inl (.bool false),.inl (.slice none 0 0),.inl (.slice none 0 0),.inr (0,1,1,0,0),.inr (0,2,1,0,0),.inr (0,3,1,0,0),.inr (0,1,2,0,0),.inr (0,2,2,0,0),.inr (0,3,2,0,0),.inr (0,1,3,0,0),.inr (0,2,3,0,0),.inr (0,3,3,0,0)])])],qA [167,183,184,185]),(60,[qA [72,116,158,73,117,159,74,118,160]],tA [72,116,158,73,117,159,74,118,160]),(96,[qA [72,73,74,116,117,118,158,159,160]],qA [72,116,158,73,117,159,74,118,160]),(84,[qA [155,156,157],qA [19]],qA [158,159,160]),(71,[qA [121,126,127,128],qA [4,9,10,11]],qA [136,155,156,157]),(71,[qA [4,5,6,7],(false,[(true,[.inl (.bool false),.inl (.slice none 0 0),.inl (.slice none 0 0),.inl (.bool false),.inl (.slice none 0 0),.inl (.slice none 0 0),.inl (.bool false),.inl (.slice none 0 0),.inl (.slice none 0 0),.inr (0,1,20,0,0),.inr (0,2,20,0,0),.inr (0,3,20,0,0)])])],qA [121,126,127,128]),(84,[qA [113,114,115],qA [19]],qA [116,117,118]),(71,[qA [78,84,85,86],qA [4,9,10,11]],qA [94,113,114,115]),(71,[qA [4,5,6,7],(false,[(true,[.inl (.bool false),.inl (.slice none 0 0),.inl (.slice none 0 0),.inl (.bool false),.inl (.slice none 0 0),.inl (.slice none 0 0),.inr (0,1,20,0,0),.inr (0,2,20,0,0),.inr (0,3,20,0,0),.inl (.bool false),.inl (.slice none 0 0),.inl (.slice none 0 0)])])],qA [78,84,85,86]),(84,[qA [69,70,71],qA [19]],qA [72,73,74]),(71,[qA [28,40,41,42],qA [4,9,10,11]],qA [50,69,70,71]),(71,[qA [4,5,6,7],(false,[(true,[.inl (.bool false),.inl (.slice none 0 0),.inl (.slice none 0 0),.inr (0,1,20,0,0),.inr (0,2,20,0,0),.inr (0,3,20,0,0),.inl (.bool false),.inl (.slice none 0 0),.inl (.slice none 0 0),.inl (.bool false),.inl (.slice none 0 0),.inl (.slice none 0 0)])])],qA [28,40,41,42]),(129,[qA [5,6,7],(false,[(true,[.inl (.bool false),.inl (.slice none 0 0),.inl (.slice none 0 0)])])],qA [31,24,26]),(104,[qA [4,5,6,7]],qA [19]),(100,[qA [4,5,6,7]],qA [4,9,10,11])]
theorem qA_g0 : Zj (sx Tryz.prog qA_N [] [] Wu Wx Wz (prC [11])) YP 6 4 (qA_G.drop 0)=true := by kernel_rfl
theorem qA_g1 : Zj (sx Tryz.prog qA_N [] [] Wu Wx Wz (prC [11])) YP 6 5 (qA_G.drop 4)=true := by kernel_rfl
theorem qA_g2 : Zj (sx Tryz.prog qA_N [] [] Wu Wx Wz (prC [11])) YP 6 5 (qA_G.drop 9)=true := by kernel_rfl
theorem qA_g3 : Zj (sx Tryz.prog qA_N [] [] Wu Wx Wz (prC [11])) YP 6 4 (qA_G.drop 14)=true := by kernel_rfl
theorem qA_g4 : Zj (sx Tryz.prog qA_N [] [] Wu Wx Wz (prC [11])) YP 6 6 (qA_G.drop 18)=true := by kernel_rfl
theorem qA_g5 : Zj (sx Tryz.prog qA_N [] [] Wu Wx Wz (prC [11])) YP 6 6 (qA_G.drop 24)=true := by kernel_rfl
theorem qA_g6 : Zj (sx Tryz.prog qA_N [] [] Wu Wx Wz (prC [11])) YP 6 5 (qA_G.drop 30)=true := by kernel_rfl
theorem qA_g7 : Zj (sx Tryz.prog qA_N [] [] Wu Wx Wz (prC [11])) YP 6 6 (qA_G.drop 35)=true := by kernel_rfl
theorem qA_g8 : Zj (sx Tryz.prog qA_N [] [] Wu Wx Wz (prC [11])) YP 6 8 (qA_G.drop 41)=true := by kernel_rfl
theorem qA_g9 : Zj (sx Tryz.prog qA_N [] [] Wu Wx Wz (prC [11])) YP 6 6 (qA_G.drop 49)=true := by kernel_rfl
theorem qA_g10 : Zj (sx Tryz.prog qA_N [] [] Wu Wx Wz (prC [11])) YP 6 7 (qA_G.drop 55)=true := by kernel_rfl
theorem qA_g11 : Zj (sx Tryz.prog qA_N [] [] Wu Wx Wz (prC [11])) YP 6 7 (qA_G.drop 62)=true := by kernel_rfl
theorem qA_g12 : Zj (sx Tryz.prog qA_N [] [] Wu Wx Wz (prC [11])) YP 6 13 (qA_G.drop 69)=true := by kernel_rfl
theorem qA_g13 : Zj (sx Tryz.prog qA_N [] [] Wu Wx Wz (prC [11])) YP 6 8 (qA_G.drop 82)=true := by kernel_rfl
theorem qA_g14 : Zj (sx Tryz.prog qA_N [] [] Wu Wx Wz (prC [11])) YP 6 7 (qA_G.drop 90)=true := by kernel_rfl
theorem Td {q : Nat→Rat} {σ : Nat→ByteArray} {w : World} (hσ : ∀ j,(σ j).size≤1048576) (hq : ∀ (a : Nat) nd,qA_N[a]? = some nd→q a=Zr σ q nd) (h0 : ∀ a,qA_N.length≤a→q a=0) (hp : Zy w) : Zw qA_N Wu Wx Wz q σ [11] w qA_G := by
 have Y : Hy qA_N [] Wu Wx Wz q σ := Vt hσ Ar qA_sz qA_lt qA_cn hq h0 trivial
 have hc : ∀ f ∈ ([11] : List FuncId),Closed f := by simp [ZK]
 have hm : (Tryz.prog).follows .mixedOrders=true := by kernel_rfl
 exact (QN (M := qA_G.drop 0) Y hc hm hp 4 qA_g0 (QN (M := qA_G.drop 4) Y hc hm hp 5 qA_g1 (QN (M := qA_G.drop 9) Y hc hm hp 5 qA_g2 (QN (M := qA_G.drop 14) Y hc hm hp 4 qA_g3 (QN (M := qA_G.drop 18) Y hc hm hp 6 qA_g4 (QN (M := qA_G.drop 24) Y hc hm hp 6 qA_g5 (QN (M := qA_G.drop 30) Y hc hm hp 5 qA_g6 (QN (M := qA_G.drop 35) Y hc hm hp 6 qA_g7 (QN (M := qA_G.drop 41) Y hc hm hp 8 qA_g8 (QN (M := qA_G.drop 49) Y hc hm hp 6 qA_g9 (QN (M := qA_G.drop 55) Y hc hm hp 7 qA_g10 (QN (M := qA_G.drop 62) Y hc hm hp 7 qA_g11 (QN (M := qA_G.drop 69) Y hc hm hp 13 qA_g12 (QN (M := qA_G.drop 82) Y hc hm hp 8 qA_g13 (QN (M := qA_G.drop 90) Y hc hm hp 7 qA_g14 XX)))))))))))))))
def qA_H0 : List (Nat × Nat × Nat × Nat) := [(0,19,0,1)]
def qA_H1 : List (Nat × Nat × Nat × Nat) := [(0,19,0,0),(0,224,0,1),(0,230,0,1),(0,237,0,1),(0,243,0,1),(0,250,0,1),(0,256,0,1),(2,271,0,1),(0,416,0,1),(0,417,0,1),(0,418,0,1),(0,419,0,1),(0,8,0,1),(0,733,0,1),(0,734,0,1),(0,735,0,1),(0,736,0,1),(0,1035,0,1),(0,1036,0,1),(0,1037,0,1),(0,1038,0,1),(0,1331,0,1),(0,1332,0,1),(0,1333,0,1),(0,1334,0,0),(0,1353,0,0),(0,586,0,1),(0,1519,0,1)]
def qA_H2 : List (Nat × Nat × Nat × Nat) := [(0,19,0,0),(0,224,0,1),(0,230,0,1),(0,237,0,1),(0,243,0,1),(0,250,0,1),(0,256,0,1),(2,271,0,1),(0,416,0,1),(0,417,0,1),(0,418,0,1),(0,419,0,1),(0,8,0,1),(0,733,0,1),(0,734,0,1),(0,735,0,1),(0,736,0,1),(0,1035,0,1),(0,1036,0,1),(0,1037,0,0),(0,1057,0,0),(0,586,0,1),(0,1223,0,1)]
def qA_H3 : List (Nat × Nat × Nat × Nat) := [(0,19,0,0),(0,224,0,1),(0,230,0,1),(0,237,0,1),(0,243,0,1),(0,250,0,1),(0,256,0,1),(2,271,0,1),(0,416,0,1),(0,417,0,1),(0,418,0,1),(0,419,0,1),(0,8,0,1),(0,733,0,1),(0,734,0,0),(0,755,0,0),(0,586,0,1),(0,921,0,1)]
def qA_H4 : List (Nat × Nat × Nat × Nat) := [(0,19,0,0),(0,224,0,1),(0,230,0,1),(0,237,0,1),(0,243,0,1),(0,250,0,1),(0,256,0,1),(2,271,0,1),(0,416,0,0),(0,438,0,0),(0,586,0,1),(0,612,0,1)]
end Go.Proofs.YtmdfngmjoaigjaaGreatDoor
