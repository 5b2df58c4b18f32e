/- Part 13 of the walks and of the mathematics under them: VP VPC VY VSZ VSA CFspun MQB. -/
import Derived.Test.YtmdfngmjoaigjaaGreatDoorA2
import Derived.Test.YtmdfngmjoaigjaaGreatDoorA12
set_option maxHeartbeats 16000000
set_option maxRecDepth 100000
/- VP -/
namespace Cx
open Go Go.RowKit
abbrev Hs := List (Nat × Nat × Nat × Nat)
def Sx.plus (S : Sx) (X : Hs) : Sx := { S with H := X ++ S.H }
abbrev Ask := Nat × Nat × Nat × Nat
def XB (a : Nat) : Ask := (0,a,0,a)
def JL (S : Sx) : Ask→Bool
 | (k,a,b,d) => (Nat.beq k 0 && (Nat.beq b 0 && Nat.beq d a)) || (Nat.beq k 3 && (match S.N[d]? with
  | some (op,ar) => Nat.beq op 3 && Rq ar [a,b]
  | none => false))
def Yt (S : Sx) (a b : Nat) : List Nat→List Nat→Option (List Ask)
 | c :: l,d :: m => (S.nd 4 [a,d]).bind fun x => (S.nd 4 [c,b]).bind fun y => (S.nd 3 [x,y]).bind fun z => (Yt S a b l m).map fun r => (3,x,y,z) :: r
 | _,_ => some []
def UI (S : Sx) : List Nat→List Nat→List Nat→List Nat→Option (List Ask)
 | pl,pm,a :: l,b :: m => (Yt S a b pl pm).bind fun r => (UI S (pl ++ [a]) (pm ++ [b]) l m).map fun t => r ++ t
 | _,_,_,_ => some []
def OL (S : Sx) : List Nat→List Nat→Option (List Ask)
 | a :: l,b :: m => (S.nd 3 [a,b]).bind fun d => (OL S l m).map fun r => (3,a,b,d) :: r
 | _,_ => some []
def asks (S : Sx) (h : List HB) (code : Nat) (args : List AV) : Option (List Ask) :=
 match code with
 | 60 => arg1 (fun x => (asA x).bind fun cs => (WY S cs).map fun l => l.map XB) args
 | 61 => arg1 (fun x => (YW h 1 x).bind fun p => (Zi (acX 0) p.2).map fun l => l.map XB) args
 | 62 => Ua (fun x y => (YW h 1 x).bind fun p => (Zi (acX 0) p.2).bind fun l => (YW h 1 y).bind fun p' => (Zi (acX 0) p'.2).bind fun m => UI S [] [] l m) args
 | 63 => arg1 (fun x => (asA x).bind fun cs => (Zi Jx cs).bind fun l => (Rp S l).map fun xs => xs.map XB) args
 | 69 => arg1 (fun x => (asA x).bind fun cs => (Zi (UQ S) cs).map fun l => l.map XB) args
 | 67 => arg1 (fun x => (asA x).bind fun cs => (Zi (UQ S) (cs.take 3)).map fun l => l.map XB) args
 | 65 => arg1 (fun x => (asA x).bind fun cs => (Zi (acX 0) cs).map fun l => l.map XB) args
 | 66 => Ua (fun x y => (asA x).bind fun cs => (asA y).bind fun ds => (Zi (acX 0) cs).bind fun l => (Zi (acX 0) ds).bind fun m => OL S l m) args
 | 64 => arg1 (fun x => (asA x).bind fun cs => (WY S cs).map fun l => (l.take 5).map XB) args
 | 68 => Ua (fun x _ => (asA x).bind fun cs => (WY S cs).map fun l => (l.take 5).map XB) args
 | _ => none
def Jd : List Ask→Hs→List Hs
 | [],_ => []
 | (k,a,b,_) :: l,X => ((k,a,b,0) :: X) :: Jd l ((k,a,b,1) :: X)
def Ub : List Ask→Hs→Hs
 | [],X => X
 | (k,a,b,_) :: l,X => Ub l ((k,a,b,1) :: X)
def Zv (S : Sx) (call : ZN) : ZN := fun f args h nx => S.P.funcs[f]?.bind fun fn => fn.body.bind fun c => ifO (Nat.ble args.length fn.ntmps) ((OH S call fn.ntmps c { tm := Ki 0 args,h := h,nx := nx }).bind fun r =>
   ifO (Nat.ble r.1 1) ((Zi (Dv S.P r.2) fn.results.toList).map fun xs => (Mw xs,r.2.h,r.2.nx)))
abbrev XV := Option (AV × List HB × Nat)
def acZ : AC→Option Nat
 | .inr (k,j,a,x,y) => ifO (Nat.beq k 0 && (Nat.beq j 7 && (Nat.beq x 0 && Nat.beq y 0))) (some a)
 | _ => none
def UA (S : Sx) (v : AV) : AV := match (asC v).bind (acX 4) with
 | some n => (match S.N[n]? with
  | some (_,[a,b]) => (match S.nd 4 [a,b],S.kn 0 a 0 with
   | some m,some r => bif Nat.beq m n && !Nat.beq 1 r then v1 (.inr (0,7,b,0,0)) else v
   | _,_ => v)
  | _ => v)
 | none => v
def JH (S : Sx) (r : XV) : XV := r.map fun p => (UA S p.1,p.2)
def Oa (v : AV) : Option (Bool ⊕ Nat) := match asB v with
 | some b => some (.inl b)
 | none => ((asC v).bind acZ).map .inr
def Rt : Bool ⊕ Nat→AV
 | .inl b => kB b
 | .inr a => v1 (.inr (0,7,a,0,0))
def UP : Bool ⊕ Nat→Bool ⊕ Nat→Bool
 | .inl b,.inl c => b == c
 | .inr a,.inr b => Nat.beq a b
 | _,_ => false
def Uu (h : List HB) (b : Bool ⊕ Nat) (hi : Nat) : XV→Bool
 | some (v,h',nx') => (match Oa v with
  | some c => UP b c
  | none => false) && (Nat.ble nx' hi && h.all fun x => h'.any fun y => Nat.beq y.1 x.1 && Iu x.2 y.2)
 | none => false
def WZ : Nat→List XV→Nat
 | m,[] => m
 | m,some p :: rs => WZ (bif Nat.ble m p.2.2 then p.2.2 else m) rs
 | m,none :: rs => WZ m rs
def XK (h : List HB) (nx : Nat) (rs : List XV) : XV :=
 match rs with
 | some p :: _ => (Oa p.1).bind fun b => ifO (rs.all (Uu h b (WZ nx rs))) (some (Rt b,h,WZ nx rs))
 | _ => none
def YR (S : Sx) (X : Hs) (h : List HB) (c : Nat) (args : List AV) : Option (List Ask × Nat) :=
 (asks (S.plus X) h c args).bind fun l => ifO (l.all (JL S)) ((sqN S (l.map (·.2.2.2))).bind fun s => ((S.plus X).kn 0 s 0).map fun r => (l,r))
theorem JZ {S : Sx} {X : Hs} {h : List HB} {c : Nat} {args : List AV} {l : List Ask} {r : Nat} (e : YR S X h c args=some (l,r)) : (∀ a ∈ l,JL S a=true)∧∃ s,sqN S (l.map (·.2.2.2))=some s∧(S.plus X).kn 0 s 0=some r := by
 unfold YR at e
 simp only [Option.bind_eq_some_iff,ifO_some,Option.map_eq_some_iff,List.all_eq_true,Prod.mk.injEq] at e
 obtain ⟨l',_,h1,s,h2,r',h3,rfl,rfl⟩ := e
 exact ⟨h1,s,h2,h3⟩
def ZC (S : Sx) (cs : List (FuncId × Nat)) : Nat→Hs→ZN
 | 0,_,_,_,_,_ => none
 | n+1,X,f,args,h,nx => match Wp f cs with
  | none => Zv (S.plus X) (ZC S cs n X) f args h nx
  | some c => match YR S X h c args with
   | none => Zv (S.plus X) (ZC S cs n X) f args h nx
   | some (l,r) => bif Nat.beq 1 r then Zv (S.plus (Ub l X)) (ZC S cs n (Ub l X)) f args h nx
    else XK h nx ((Jd l X).map fun X' => JH (S.plus X') (Zv (S.plus X') (ZC S cs n X') f args h nx))
section
variable {S : Sx} {E : Ev S.nb} {w0 : World}
theorem Yi {call : ZN} (hm : S.P.follows .mixedOrders=true) (N : Knows S E) (hP : JI S E w0) (hC : Zl S E w0 call) : Zl S E w0 (Zv S call) := fun f args h nx p hp γ w vs hi hA hb hlt hf => by
 unfold Zv at hp
 simp only [Option.bind_eq_some_iff,ifO_some,Option.map_eq_some_iff,Nat.ble_eq] at hp
 obtain ⟨fn,h1,c,h2,h3,⟨e,s'⟩,h4,h5,xs,h6,rfl⟩ := hp
 dsimp only at h5 h6
 rcases (show e=0 ∨ e=1 by omega) with rfl | rfl
 all_goals
  obtain ⟨_,_,r⟩ := Xr hm N hP hC c _ _ _ h4
  refine calls_of_wp h1 h2 (r γ _ w _ ⟨hi,fun t v q => ?_,hb,hlt,?_,rfl⟩ hf fun a' w' γ' hef hs => ?_)
  ·obtain ⟨_,q2⟩ := Vu q
   rw [Nat.sub_zero] at q2
   obtain ⟨u,hu,hv⟩ := hA.get q2
   have hlt : t < vs.length := (List.getElem?_eq_some_iff.1 hu).1
   have : (vs.toArray ++ Array.replicate (fn.ntmps - vs.toArray.size) undef).getD t undef=u := by
    rw [Array.getD_eq_getD_getElem?,Array.getElem?_append_left (by simpa using hlt)]
    simp [hu]
   show avOn _ v ((vs.toArray ++ Array.replicate (fn.ntmps - vs.toArray.size) undef).getD t undef)
   rw [this]
   exact hv
  ·have := hA.len
   simp
   omega
  ·obtain ⟨v,hv,hx⟩ := YE hs h6
   exact ⟨hs.df,v,hv,v,γ',rfl,hef,hx,hs.bx⟩
theorem Ru {v : AV} {b : Bool} (h : asB v=some b) : v=kB b := by
 unfold asB at h
 rw [Option.bind_eq_some_iff] at h
 obtain ⟨c,h1,h2⟩ := h
 unfold asC at h1
 split at h1
 ·cases h1
  unfold acB at h2
  split at h2
  ·cases h2
   rfl
  ·cases h2
 ·cases h1
theorem WW {v : AV} {k : Bool ⊕ Nat} (h : Oa v=some k) : v=Rt k := by
 unfold Oa at h
 split at h
 ·rename_i b hb
  cases h
  exact Ru hb
 ·rw [Option.map_eq_some_iff] at h
  obtain ⟨a,h,rfl⟩ := h
  rw [Option.bind_eq_some_iff] at h
  obtain ⟨c,h1,h2⟩ := h
  unfold asC at h1
  split at h1
  ·cases h1
   unfold acZ at h2
   split at h2
   ·rw [ifO_some,Bool.and_eq_true,Bool.and_eq_true,Bool.and_eq_true,Nat.beq_eq,Nat.beq_eq,Nat.beq_eq,Nat.beq_eq] at h2
    obtain ⟨⟨rfl,rfl,rfl,rfl⟩,h3⟩ := h2
    cases h3
    rfl
   ·cases h2
  ·cases h1
theorem UC {a b : Bool ⊕ Nat} (h : UP a b=true) : a=b := by
 unfold UP at h
 split at h
 ·rename_i x y
  have : x=y := by simpa using h
  rw [this]
 ·rw [Nat.beq_eq] at h
  rw [h]
 ·cases h
theorem YJ (q : Rat) : Xa q=0 ↔ q=0 := by
 unfold Xa
 split
 ·rename_i hlt
  constructor
  ·intro q; cases q
  ·intro q; rw [q] at hlt; exact absurd hlt (by decide)
 ·split <;> simp_all
theorem UB (N : Knows S E) {γ : Nat→Option Nat} {w : World} {v : AV} {r : Value} (h : avOn (cOn E S.K γ w) v r) : avOn (cOn E S.K γ w) (UA S v) r := by
 unfold UA
 split
 ·rename_i n hn
  rw [Option.bind_eq_some_iff] at hn
  obtain ⟨c,h1,h2⟩ := hn
  split
  ·split
   ·rename_i a b _ _ _ m r' hm hr
    cases e : (Nat.beq m n && !Nat.beq 1 r') with
    | true =>
     rw [Bool.and_eq_true,Nat.beq_eq,Bool.not_eq_true'] at e
     obtain ⟨rfl,e2⟩ := e
     have ez := (N.x4 _ _ _).1 (YU h2 (Zk h1 h))
     refine ZE ((N.x7 _ _ _).2 ⟨_,ez,?_⟩)
     have hz : ¬ E.q a=0 := fun q => by rw [(N.k0 a r' hr).2 q] at e2; cases e2
     rw [YJ,N.k7 _ _ _ hm]
     constructor
     ·exact fun q => (Rat.mul_eq_zero.1 q).resolve_left hz
     ·intro q
      rw [q,Rat.mul_zero]
    | false => exact h
   ·exact h
  ·exact h
 ·exact h
theorem Vq {X : Hs} {call : ZN} (N : Knows (S.plus X) E) (hC : Zl S E w0 call) : Zl S E w0 (fun f args h nx => JH (S.plus X) (call f args h nx)) := fun f args h nx p hp => by
 replace hp : JH (S.plus X) (call f args h nx)=some p := hp
 unfold JH at hp
 rw [Option.map_eq_some_iff] at hp
 obtain ⟨p0,hp0,rfl⟩ := hp
 intro γ w vs hi hA hb hlt hf
 refine (hC f args h nx p0 hp0 γ w vs hi hA hb hlt hf).mono ?_
 rintro _ w' ⟨r',γ',rfl,hef,hv,hx⟩
 exact ⟨r',γ',rfl,hef,UB (S := S.plus X) N hv,hx⟩
theorem JX {h : List HB} {b : Bool ⊕ Nat} {hi : Nat} {r : XV} (hr : Uu h b hi r=true) : ∃ h' nx',r=some (Rt b,h',nx')∧nx'≤hi∧∀ x ∈ h,x ∈ h' := by
 unfold Uu at hr
 split at hr
 ·rename_i v h' nx'
  rw [Bool.and_eq_true,Bool.and_eq_true,Nat.ble_eq,List.all_eq_true] at hr
  obtain ⟨h1,h2,h3⟩ := hr
  refine ⟨h',nx',?_,h2,fun x hx => ?_⟩
  ·split at h1
   ·rename_i c hc
    rw [WW hc,UC h1]
   ·cases h1
  ·have := h3 x hx
   rw [List.any_eq_true] at this
   obtain ⟨y,hy,e⟩ := this
   rw [Bool.and_eq_true,Nat.beq_eq] at e
   have : x=y := Prod.ext e.1.symm (XZ e.2)
   rw [this]
   exact hy
 ·cases hr
variable {T : Hs→Prop} {z : Nat→Prop}
def ZF (S : Sx) (T : Hs→Prop) (z : Nat→Prop) : Prop := ∀ X,T X→∀ a,JL S a=true→(z a.2.2.2→T ((a.1,a.2.1,a.2.2.1,1) :: X))∧(¬ z a.2.2.2→T ((a.1,a.2.1,a.2.2.1,0) :: X))
theorem ZV (hk : ZF S T z) : ∀ {l : List Ask} {X : Hs},T X→(∀ a ∈ l,JL S a=true)→(∀ a ∈ l,z a.2.2.2)→T (Ub l X)
 | [],_,h,_,_ => h
 | (k,a,b,d) :: l,X,h,ho,hz => ZV (l := l) hk ((hk X h (k,a,b,d) (ho _ List.mem_cons_self)).1 (hz _ List.mem_cons_self)) (fun a ha => ho a (List.mem_cons_of_mem _ ha)) (fun a ha => hz a (List.mem_cons_of_mem _ ha))
theorem ZD (hk : ZF S T z) : ∀ {l : List Ask} {X : Hs},T X→(∀ a ∈ l,JL S a=true)→(∃ a ∈ l,¬ z a.2.2.2)→∃ X' ∈ Jd l X,T X'
 | [],_,_,_,⟨_,h,_⟩ => by cases h
 | (k,a,b,d) :: l,X,h,ho,hz => by
  by_cases e : z d
  ·obtain ⟨X',h1,h2⟩ := ZD (l := l) hk ((hk X h (k,a,b,d) (ho _ List.mem_cons_self)).1 e) (fun a ha => ho a (List.mem_cons_of_mem _ ha)) (by
    obtain ⟨c,hc,hn⟩ := hz
    rcases List.mem_cons.1 hc with rfl | hc
    ·exact (hn e).elim
    ·exact ⟨c,hc,hn⟩)
   exact ⟨X',List.mem_cons_of_mem _ h1,h2⟩
  ·exact ⟨_,List.mem_cons_self,(hk X h (k,a,b,d) (ho _ List.mem_cons_self)).2 e⟩
theorem YB {cs : List (FuncId × Nat)} (hm : S.P.follows .mixedOrders=true) (hN : ∀ X,T X→Knows (S.plus X) E) (hP : ∀ X,T X→JI (S.plus X) E w0) (hk : ZF S T z)
  (hs : ∀ X,T X→∀ l s r,sqN S l=some s→(S.plus X).kn 0 s 0=some r→(Nat.beq 1 r=true→∀ d ∈ l,z d)∧(Nat.beq 1 r=false→∃ d ∈ l,¬ z d)) : ∀ n X,T X→Zl S E w0 (ZC S cs n X)
 | 0,_,_ => fun _ _ _ _ _ h => by cases h
 | n+1,X,hX => fun f args h nx p hp => by
  have body : ∀ Y,T Y→Zl S E w0 (Zv (S.plus Y) (ZC S cs n Y)) := fun Y hY => Yi (S := S.plus Y) hm (hN Y hY) (hP Y hY) (YB hm hN hP hk hs n Y hY)
  unfold ZC at hp
  split at hp
  ·exact body X hX f args h nx p hp
  ·split at hp
   ·exact body X hX f args h nx p hp
   rename_i l r hk'
   obtain ⟨hl,s,h1,h2⟩ := JZ hk'
   have h3 := hp
   obtain ⟨a1,a0⟩ := hs X hX _ s r h1 h2
   cases e : Nat.beq 1 r with
   | true =>
    rw [e] at h3
    exact body _ (ZV hk hX hl fun a ha => a1 e _ (List.mem_map_of_mem ha)) f args h nx p h3
   | false =>
    rw [e] at h3
    obtain ⟨d,hd,hz⟩ := a0 e
    obtain ⟨a,ha,rfl⟩ := List.mem_map.1 hd
    obtain ⟨X',m1,m2⟩ := ZD hk hX hl ⟨a,ha,hz⟩
    replace h3 : XK h nx ((Jd l X).map fun X' => JH (S.plus X') (Zv (S.plus X') (ZC S cs n X') f args h nx))=some p := h3
    unfold XK at h3
    split at h3
    ·rename_i p0 rs hrs
     rw [Option.bind_eq_some_iff] at h3
     obtain ⟨b,hb,h4⟩ := h3
     rw [ifO_some,List.all_eq_true] at h4
     obtain ⟨h5,h6⟩ := h4
     cases h6
     obtain ⟨h',nx',q1,q2,q3⟩ := JX (h5 _ (List.mem_map_of_mem m1))
     intro γ w vs hi hA hb hlt hf
     refine (Vq (hN X' m2) (body X' m2) f args h nx _ q1 γ w vs hi hA hb hlt fun b g1 g2 => hf b g1 (Nat.lt_of_lt_of_le g2 q2)).mono ?_
     rintro _ w' ⟨r',γ',rfl,hef,hv,hx⟩
     exact ⟨r',γ',rfl,hef.wide (Nat.le_refl _) q2,hv,fun x hh => hx x (q3 x hh)⟩
    ·cases h3
end
end Cx
/- VPC -/
namespace Go.Proofs.YtmdfngmjoaigjaaGreatDoor
open Cx Go Go.RowKit
section
variable {N : List Nd} {H : List (Nat × Nat × Nat × Nat)} {K : List (FuncId × List AC)} {L C : List (List Nat × Nat)} {Z : List Nat} {q : Nat→Rat} {σ : Nat→ByteArray} {w0 : World} {cl : List FuncId} {cs pr : List (FuncId × Nat)}
theorem QK {k a b k' a' b' r' : Nat} {r : Nat} (h : JG k a b ((k',a',b',r') :: H)=some r) : (k=k'∧a=a'∧b=b'∧r=r') ∨ JG k a b H=some r := by
 unfold JG at h
 cases e : (Nat.beq k k' && (Nat.beq a a' && Nat.beq b b')) with
 | true =>
  rw [e] at h
  simp only [Bool.and_eq_true,Nat.beq_eq] at e
  exact Or.inl ⟨e.1,e.2.1,e.2.2,(Option.some.inj h).symm⟩
 | false =>
  rw [e] at h
  exact Or.inr h
theorem Hy.add0 (Y : Hy N H L C Z q σ) {a r : Nat} (h : Nat.beq 1 r=true ↔ q a=0) : Hy N ((0,a,0,r) :: H) L C Z q σ where
 nat := Y.nat
 qs := Y.qs
 zs := Y.zs
 par := Y.par
 lit := Y.lit
 k0 := fun a' r' g => by
  rcases QK g with ⟨_,e1,_,e2⟩ | g
  ·rw [e1,e2]
   exact h
  ·exact Y.k0 a' r' g
 k1 := fun a' r' g => by
  rcases QK g with ⟨e,_⟩ | g
  ·cases e
  ·exact Y.k1 a' r' g
 k2 := fun a' r' g => by
  rcases QK g with ⟨e,_⟩ | g
  ·cases e
  ·exact Y.k2 a' r' g
 k4 := fun l a' b' r' g1 g => by
  rcases QK g with ⟨e,_⟩ | g
  ·cases e
  ·exact Y.k4 l a' b' r' g1 g
 k3 := fun a' b' r' g => by
  rcases QK g with ⟨e,_⟩ | g
  ·cases e
  ·exact Y.k3 a' b' r' g
 k6 := fun a' b' r' g => by
  rcases QK g with ⟨e,_⟩ | g
  ·cases e
  ·exact Y.k6 a' b' r' g
 k5 := fun a' r' g => by
  rcases QK g with ⟨e,_⟩ | g
  ·cases e
  ·exact Y.k5 a' r' g
theorem Hy.add3 (Y : Hy N H L C Z q σ) {a b r : Nat} (h : Nat.beq 1 r=true ↔ q a=q b) : Hy N ((3,a,b,r) :: H) L C Z q σ where
 nat := Y.nat
 qs := Y.qs
 zs := Y.zs
 par := Y.par
 lit := Y.lit
 k0 := fun a' r' g => by
  rcases QK g with ⟨e,_⟩ | g
  ·cases e
  ·exact Y.k0 a' r' g
 k1 := fun a' r' g => by
  rcases QK g with ⟨e,_⟩ | g
  ·cases e
  ·exact Y.k1 a' r' g
 k2 := fun a' r' g => by
  rcases QK g with ⟨e,_⟩ | g
  ·cases e
  ·exact Y.k2 a' r' g
 k4 := fun l a' b' r' g1 g => by
  rcases QK g with ⟨e,_⟩ | g
  ·cases e
  ·exact Y.k4 l a' b' r' g1 g
 k3 := fun a' b' r' g => by
  rcases QK g with ⟨_,e1,e2,e3⟩ | g
  ·rw [e1,e2,e3]
   exact h
  ·exact Y.k3 a' b' r' g
 k6 := fun a' b' r' g => by
  rcases QK g with ⟨e,_⟩ | g
  ·cases e
  ·exact Y.k6 a' b' r' g
 k5 := fun a' r' g => by
  rcases QK g with ⟨e,_⟩ | g
  ·cases e
  ·exact Y.k5 a' r' g
theorem Yj : ZF (sx Tryz.prog N H K L C Z pr) (fun X => Hy N (X ++ H) L C Z q σ) (fun d => q d=0) := fun X Y a ha => by
 obtain ⟨k,a,b,d⟩ := a
 have t1 : Nat.beq 1 1=true := rfl
 have t0 : Nat.beq 1 0 ≠ true := fun h => by cases h
 unfold JL at ha
 rw [Bool.or_eq_true] at ha
 rcases ha with ha | ha
 ·simp only [Bool.and_eq_true,Nat.beq_eq] at ha
  obtain ⟨rfl,rfl,rfl⟩ := ha
  exact ⟨fun h => Hy.add0 Y ⟨fun _ => h,fun _ => t1⟩,fun h => Hy.add0 Y ⟨fun g => (t0 g).elim,fun g => (h g).elim⟩⟩
 ·rw [Bool.and_eq_true,Nat.beq_eq] at ha
  obtain ⟨rfl,hb⟩ := ha
  split at hb
  ·rename_i op ar hn
   rw [Bool.and_eq_true,Nat.beq_eq] at hb
   obtain ⟨rfl,hb⟩ := hb
   have e := Ug hb
   subst e
   have hv : q d=q a - q b := Y.nat d _ hn
   have h2 : q d=0 ↔ q a=q b := by
    rw [hv]
    constructor <;> intro h <;> grind
   exact ⟨fun h => Hy.add3 Y ⟨fun _ => h2.1 h,fun _ => t1⟩,fun h => Hy.add3 Y ⟨fun g => (t0 g).elim,fun g => (h (h2.2 g)).elim⟩⟩
  ·cases hb
theorem Vg (y : Rat) : 0≤y*y := by
 by_cases h : y=0
 ·rw [h,Rat.zero_mul]
  exact Rat.le_refl
 ·exact Rat.le_of_lt (Rw h)
theorem Ij {x y : Rat} (hx : 0≤x) : x+y*y=0 ↔ x=0∧y=0 := by
 constructor
 ·intro h
  have h2 := Vg y
  have h3 : x=0 := by grind
  refine ⟨h3,?_⟩
  have : y*y=0 := by grind
  rcases Rat.mul_eq_zero.1 this with g | g <;> exact g
 ·rintro ⟨rfl,rfl⟩
  grind
theorem Yp {H' : List (Nat × Nat × Nat × Nat)} (Y : Hy N H' L C Z q σ) : ∀ {l : List Nat} {s t : Nat},sqF (sx Tryz.prog N H K L C Z pr) s l=some t→0≤q s→0≤q t∧(q t=0 ↔ q s=0∧∀ d ∈ l,q d=0)
 | [],s,t,h,hs => by
  cases h
  exact ⟨hs,fun e => ⟨e,fun d hd => by cases hd⟩,fun e => e.1⟩
 | a :: l,s,t,h,hs => by
  unfold sqF at h
  simp only [Option.bind_eq_some_iff] at h
  obtain ⟨b,h1,c,h2,h3⟩ := h
  have e1 : q b=q a*q a := Hy.nd (H := H') (K := K) (pr := pr) Y h1
  have e2 : q c=q s+q b := Hy.nd (H := H') (K := K) (pr := pr) Y h2
  have n := Vg (q a)
  obtain ⟨g1,g2⟩ := Yp Y h3 (by grind)
  refine ⟨g1,g2.trans ?_⟩
  have e3 := Ij (y := q a) hs
  rw [e2,e1,e3]
  constructor
  ·rintro ⟨⟨x,y⟩,z⟩
   refine ⟨x,fun d hd => ?_⟩
   rcases List.mem_cons.1 hd with rfl | hd
   ·exact y
   ·exact z d hd
  ·rintro ⟨x,y⟩
   exact ⟨⟨x,y a List.mem_cons_self⟩,fun d hd => y d (List.mem_cons_of_mem _ hd)⟩
theorem Vl {H' : List (Nat × Nat × Nat × Nat)} (Y : Hy N H' L C Z q σ) {l : List Nat} {s : Nat} (h : sqN (sx Tryz.prog N H K L C Z pr) l=some s) : q s=0 ↔ ∀ d ∈ l,q d=0 := by
 unfold sqN at h
 split at h
 ·cases h
 ·rename_i a l
  rw [Option.bind_eq_some_iff] at h
  obtain ⟨b,h1,h2⟩ := h
  have e1 : q b=q a*q a := Hy.nd (H := H') (K := K) (pr := pr) Y h1
  have n := Vg (q a)
  obtain ⟨_,g⟩ := Yp Y h2 (by grind)
  rw [g,e1]
  constructor
  ·rintro ⟨x,y⟩ d hd
   rcases List.mem_cons.1 hd with rfl | hd
   ·rcases Rat.mul_eq_zero.1 x with x | x <;> exact x
   ·exact y d hd
  ·intro y
   refine ⟨?_,fun d hd => y d (List.mem_cons_of_mem _ hd)⟩
   rw [y a List.mem_cons_self,Rat.zero_mul]
theorem Wc {f : FuncId} {args : List AV} {vs : List Value} {k : Nat} {p : List HB × Nat} {b : Bool} (Y : Hy N H L C Z q σ) (hm : (Tryz.prog).follows .mixedOrders=true) {w : World} (hP : ∀ H',Hy N H' L C Z q σ→JI (sx Tryz.prog N H' K L C Z pr) (evS q σ) w) (hr : ZC (sx Tryz.prog N H K L C Z pr) cs k [] f args [] 0=some (kB b,p))
  (hA : A2 (avOn (cOn (evS q σ) K (fun _ => none) w)) args vs) : Calls Tryz.prog f vs.toArray w fun e w' => Below w.heap.size w w'∧e=.returned (.bool b) := by
 refine (YB (S := sx Tryz.prog N H K L C Z pr) (E := evS q σ) (w0 := w) (T := fun X => Hy N (X ++ H) L C Z q σ) (z := fun d => q d=0) hm (fun X hX => GM hX) (fun X hX => hP _ hX) Yj ?_ k [] Y f args [] 0 (kB b,p) hr (fun _ => none) w vs ⟨Below.refl _ _,(fun _ _ h => by cases h)⟩ hA (fun x hx => by cases hx) (fun x hx => by cases hx) (fun _ _ _ => rfl)).mono ?_
 ·intro X hX l s r h1 h2
  have e := hX.k0 s r h2
  have g := Vl hX h1
  refine ⟨fun h => g.1 (e.1 h),fun h => ?_⟩
  have hn : ¬ ∀ d ∈ l,q d=0 := fun q' => by
   rw [e.2 (g.2 q')] at h
   cases h
  simpa using hn
 ·rintro _ w' ⟨r,γ',rfl,hef,hv,_⟩
  exact ⟨hef.wi.bel,by rw [show r=.bool b from (Zk (v := kB b) (c := .inl (.bool b)) rfl hv).1]⟩
theorem UZ {f : FuncId} {args : List AV} {vs : List Value} {k : Nat} {p : List HB × Nat} {b : Bool} (Y : Hy N H L C Z q σ) (hc : ∀ f ∈ cl,Closed f) (hm : (Tryz.prog).follows .mixedOrders=true) (hr : ZC (sx Tryz.prog N H K L C Z (prC cl)) cs k [] f args [] 0=some (kB b,p)) {w : World} (hp : Zy w)
  (hA : A2 (avOn (cOn (evS q σ) K (fun _ => none) w)) args vs) : Calls Tryz.prog f vs.toArray w fun e w' => Below w.heap.size w w'∧e=.returned (.bool b) := Wc Y hm (fun _ Y' => Rf Y' hp hc) hr hA
theorem Vs {f : FuncId} {args : List AV} {vs : List Value} (k : Nat) (Y : Hy N H L C Z q σ) (hc : ∀ f ∈ cl,Closed f) (hm : (Tryz.prog).follows .mixedOrders=true) (hr : (ZC (sx Tryz.prog N H K L C Z (prC cl)) cs k [] f args [] 0).map (·.1)=some (kB true)) {w : World} (hp : Zy w)
  (hA : A2 (avOn (cOn (evS q σ) K (fun _ => none) w)) args vs) : Calls Tryz.prog f vs.toArray w fun e w' => Below w.heap.size w w'∧e=.returned (.bool true) := by
 rw [Option.map_eq_some_iff] at hr
 obtain ⟨⟨v,p⟩,h1,h2⟩ := hr
 dsimp only at h2
 subst h2
 exact UZ Y hc hm h1 hp hA
theorem Nk {u x : Rat} (h : u=x*x) : 0≤u∧(u=0 ↔ x=0) := by
 rw [h]
 exact ⟨Vg x,fun e => (Rat.mul_eq_zero.1 e).elim id id,fun e => by rw [e,Rat.zero_mul]⟩
theorem DB {p : Prop} {s x v t : Rat} (h : 0≤s∧(s=0 ↔ p)) (hv : v=x*x) (ht : t=s+v) : 0≤t∧(t=0 ↔ (p∧x=0)) := by
 have n := Vg x
 refine ⟨by have := h.1; grind,?_⟩
 rw [ht,hv,Ij h.1,h.2]
end
end Go.Proofs.YtmdfngmjoaigjaaGreatDoor
/- VY -/
namespace Go.Proofs.YtmdfngmjoaigjaaGreatDoor
open Go.RowKit Cx
theorem Ob (t : Rat) : t*(t.den : Rat)=((t.num : Int) : Rat) := by
 conv => lhs; lhs; rw [← Rat.mkRat_self t]
 have h0 : (t.den : Rat) ≠ 0 := fun h => t.den_nz (by exact_mod_cast h)
 rw [Rat.mkRat_eq_div,Rat.div_mul_cancel h0]
theorem whole {q : Rat} (h : q.den=1) : q=((q.num : Int) : Rat) := by
 have := Ob q
 rw [h] at this
 rw [← this]
 show q=q*((1 : Nat) : Rat)
 exact (Rat.mul_one q).symm
end Go.Proofs.YtmdfngmjoaigjaaGreatDoor
/- VSZ -/
namespace Go.Proofs.YtmdfngmjoaigjaaGreatDoor
open Go.RowKit Cx
structure QW (z : Nat) (x : Rat) : Prop where
 qs : QS z x
 wh : x.den=1
theorem QW.of {z : Nat} {n : Int} (h : n.natAbs < 2 ^ z) (hz : 0 < z) : QW z ((n : Int) : Rat) :=
 ⟨⟨by simpa using h,by
  show ((n : Int) : Rat).den < 2 ^ z
  rw [Rat.den_intCast]
  exact Nat.one_lt_two_pow (by omega)⟩,Rat.den_intCast n⟩
theorem QW.mono {k l : Nat} {x : Rat} (h : QW k x) (hk : k≤l) : QW l x := ⟨h.qs.mono hk,h.wh⟩
theorem Ys {a b x y : Nat} (h1 : a < 2 ^ x) (h2 : b < 2 ^ y) : a+b < 2 ^ (Nat.max x y+1) := by
 have e1 : 2 ^ x≤2 ^ Nat.max x y := Nat.pow_le_pow_right (by decide) (Nat.le_max_left x y)
 have e2 : 2 ^ y≤2 ^ Nat.max x y := Nat.pow_le_pow_right (by decide) (Nat.le_max_right x y)
 rw [Nat.pow_succ]
 omega
theorem QW.add {x y : Nat} {a b : Rat} (h1 : QW x a) (h2 : QW y b) : QW (Nat.max x y+1) (a+b) := by
 rw [whole h1.wh,whole h2.wh,← Rat.intCast_add]
 refine QW.of ?_ (by omega)
 have := Ys h1.qs.num h2.qs.num
 omega
theorem QW.sub {x y : Nat} {a b : Rat} (h1 : QW x a) (h2 : QW y b) : QW (Nat.max x y+1) (a - b) := by
 rw [whole h1.wh,whole h2.wh,← Rat.intCast_sub]
 refine QW.of ?_ (by omega)
 have := Ys h1.qs.num h2.qs.num
 omega
theorem QW.mul {x y : Nat} {a b : Rat} (h1 : QW x a) (h2 : QW y b) : QW (x+y) (a*b) := by
 refine ⟨h1.qs.mul h2.qs,?_⟩
 rw [whole h1.wh,whole h2.wh,← Rat.intCast_mul]
 exact Rat.den_intCast _
theorem QW.neg {x : Nat} {a : Rat} (h1 : QW x a) : QW x (-a) := ⟨h1.qs.neg,h1.wh⟩
theorem JQ : ∀ n : Nat,10 ^ n≤2 ^ ((10*n+2) / 3)
 | 0 => by decide
 | 1 => by decide
 | 2 => by decide
 | n+3 => by
  have h := JQ n
  have e : (10*(n+3)+2) / 3=(10*n+2) / 3+10 := by omega
  rw [e,Nat.pow_add,Nat.pow_add]
  exact Nat.mul_le_mul h (by decide)
theorem QS.rd3 (l : List UInt8) : QS ((10*l.length+2) / 3+5) (Cx.rd l) := by
 have key : ∀ {m : List UInt8},JY m=true→dv m < 2 ^ ((10*m.length+2) / 3) := fun {m} h => Nat.lt_of_lt_of_le (GZ (Xb h)) (JQ _)
 unfold Cx.rd
 split
 ·rename_i h
  rw [Bool.and_eq_true] at h
  have h1 := key h.1
  have h2 := key h.2
  have h3 := Pm (QU l)
  have h4 := TP (QU l)
  have h5 := Ix l
  apply QS.mkr
  ·rw [UD]; exact Nat.lt_of_lt_of_le h1 (Nat.pow_le_pow_right (by decide) (by omega))
  ·exact Nat.lt_of_lt_of_le h2 (Nat.pow_le_pow_right (by decide) (by omega))
 ·exact QS.zero.mono (by omega)
section
variable {N : List Nd} {Z : List Nat} {I : List Bool} {q : Nat→Rat}
end
end Go.Proofs.YtmdfngmjoaigjaaGreatDoor
/- VSA -/
namespace Go.Proofs.YtmdfngmjoaigjaaGreatDoor
open Go.RowKit Cx
def inB : Nat := 3495259
abbrev Atm := Nat × Nat
def XC (x : Atm) : List Atm→Option (List Atm)
 | [] => none
 | y :: l => bif Nat.beq x.1 y.1 && Nat.beq x.2 y.2 then some l else (XC x l).map (y :: ·)
def Ze : List Atm→List Atm→Option (List Atm)
 | l,[] => some l
 | l,x :: r => (XC x l).bind fun l' => Ze l' r
def Xu : List Atm→List Atm→List Atm
 | _,[] => []
 | U,x :: D => match XC x U with
  | some U' => Xu U' D
  | none => x :: Xu U D
def Xv (E : List (Nat × List Atm)) : List Nat→List Atm→List Atm
 | [],U => U
 | a :: l,U => Xv E l (match E[a]? with
  | some p => U ++ Xu U p.2
  | none => U)
def GP (E : List (Nat × List Atm)) (x : Atm) : Nat := match x.1 with
 | 0 => inB
 | 1 => (match E[x.2]? with
  | some p => p.1
  | none => 1)
 | _ => Nat.log2 x.2+1
def Jo (E : List (Nat × List Atm)) : List Atm→Nat
 | [] => 1
 | x :: l => GP E x+Jo E l
def JU (l : Option (List Atm)) : Bool := match l with
 | some [] => true
 | _ => false
def saN (E : List (Nat × List Atm)) (k z : Nat) (D : List Atm) (nd : Nd) : Bool := (Nat.blt 0 z && D.all fun x => !Nat.beq x.1 1 || Nat.blt x.2 k) && match nd.1,nd.2 with
 | 0,[_,n,d] => (Nat.blt n (2 ^ z) && Nat.blt 0 d) && JU (Ze D (bif Nat.beq d 1 then [] else [(2,d)]))
 | 1,[j] => Nat.ble inB z && JU (Ze D [(0,j)])
 | 2,[a,b] => (match E[a]?,E[b]? with
  | some p,some r => (match Ze D p.2,Ze D r.2 with
   | some c,some e => Nat.ble (Nat.max (p.1+Jo E c) (r.1+Jo E e)+1) z
   | _,_ => false)
  | _,_ => false)
 | 3,[a,b] => (match E[a]?,E[b]? with
  | some p,some r => (match Ze D p.2,Ze D r.2 with
   | some c,some e => Nat.ble (Nat.max (p.1+Jo E c) (r.1+Jo E e)+1) z
   | _,_ => false)
  | _,_ => false)
 | 4,[a,b] => (match E[a]?,E[b]? with
  | some p,some r => (match Ze D p.2 with
   | some c => JU (Ze c r.2) && Nat.ble (p.1+r.1) z
   | _ => false)
  | _,_ => false)
 | 5,[a] => (match E[a]? with
  | some p => JU (Ze D p.2) && Nat.ble p.1 z
  | _ => false)
 | 6,[a,b] => (match E[a]?,E[b]?,XC (1,b) D with
  | some p,some r,some D' => (match Ze p.2 D' with
   | some c => (match Ze r.2 c with
    | some e => Nat.ble (p.1+Jo E e) z
    | none => false)
   | none => false)
  | _,_,_ => false)
 | 7,_ => Nat.beq D.length 0
 | 8,i :: xs => Nat.beq D.length 0 && (xs.all (fun a => match E[a]? with
   | some p => (Ze (Xv E xs []) p.2).isSome
   | none => false) && (match xs[i]? with
   | some a => (match E[a]? with
    | some p => (match Ze (Xv E xs []) p.2 with
     | some e => Nat.ble (p.1+Jo E e) z
     | none => false)
    | none => false)
   | none => false))
 | _,_ => false
def saB (E : List (Nat × List Atm)) : Nat→List Nd→List (Nat × List Atm)→List Nat→Bool
 | _,[],[],[] => true
 | k,nd :: ns,p :: ps,z :: zs => (saN E k p.1 p.2 nd && (Nat.ble p.1 z && (Nat.ble (Jo E p.2) z && Nat.ble z 1000000000000))) && saB E (k+1) ns ps zs
 | _,_,_,_ => false
theorem Xj {E : List (Nat × List Atm)} : ∀ {ns : List Nd} {ps : List (Nat × List Atm)} {zs : List Nat} {k i : Nat} {nd : Nd},saB E k ns ps zs=true→ns[i]? = some nd→∃ p z,ps[i]? = some p∧zs[i]? = some z∧saN E (k+i) p.1 p.2 nd=true∧p.1≤z∧Jo E p.2≤z∧z≤1000000000000
 | [],_,_,_,_,_,_,h => by simp at h
 | _ :: _,[],_,_,_,_,h,_ => by cases h
 | _ :: _,_ :: _,[],_,_,_,h,_ => by cases h
 | nd' :: ns,p :: ps,z :: zs,k,0,nd,h,e => by
  have : nd'=nd := by simpa using e
  subst this
  unfold saB at h
  simp only [Bool.and_eq_true,Nat.ble_eq] at h
  exact ⟨p,z,rfl,rfl,h.1.1,h.1.2.1,h.1.2.2.1,h.1.2.2.2⟩
 | nd' :: ns,p :: ps,z :: zs,k,i+1,nd,h,e => by
  unfold saB at h
  rw [Bool.and_eq_true] at h
  obtain ⟨p',z',g1,g2,g3,g4⟩ := Xj (k := k+1) (i := i) h.2 (by simpa using e)
  exact ⟨p',z',by simpa using g1,by simpa using g2,by rw [show k+(i+1)=k+1+i by omega]; exact g3,g4⟩
theorem Yv {E : List (Nat × List Atm)} : ∀ {ns : List Nd} {ps : List (Nat × List Atm)} {zs : List Nat} {k : Nat},saB E k ns ps zs=true→ns.length=ps.length∧ns.length=zs.length
 | [],[],[],_,_ => ⟨rfl,rfl⟩
 | [],[],_ :: _,_,h => by cases h
 | [],_ :: _,_,_,h => by cases h
 | _ :: _,[],_,_,h => by cases h
 | _ :: _,_ :: _,[],_,h => by cases h
 | _ :: _,_ :: _,_ :: _,k,h => by
  unfold saB at h
  rw [Bool.and_eq_true] at h
  have := Yv h.2
  exact ⟨congrArg (· + 1) this.1,congrArg (· + 1) this.2⟩
def Jn (dn : Nat→Nat) (M : Nat→Rat) (x : Atm) : Rat := match x.1 with
 | 0 => ((dn x.2 : Nat) : Rat)
 | 1 => if M x.2=0 then 1 else M x.2
 | _ => if x.2=0 then 1 else ((x.2 : Nat) : Rat)
def Qr (dn : Nat→Nat) (M : Nat→Rat) : List Atm→Rat
 | [] => 1
 | x :: l => Jn dn M x*Qr dn M l
theorem Jj {dn : Nat→Nat} {M : Nat→Rat} {x : Atm} : ∀ {l c : List Atm},XC x l=some c→Qr dn M l=Jn dn M x*Qr dn M c
 | [],_,h => by cases h
 | y :: l,c,h => by
  unfold XC at h
  cases e : (Nat.beq x.1 y.1 && Nat.beq x.2 y.2) with
  | true =>
   rw [e] at h
   cases h
   rw [Bool.and_eq_true,Nat.beq_eq,Nat.beq_eq] at e
   have : x=y := Prod.ext e.1 e.2
   rw [this]
   rfl
  | false =>
   rw [e] at h
   simp only [cond_false,Option.map_eq_some_iff] at h
   obtain ⟨c',h1,rfl⟩ := h
   show Jn dn M y*Qr dn M l=Jn dn M x*(Jn dn M y*Qr dn M c')
   rw [Jj h1]
   grind
theorem Qv {dn : Nat→Nat} {M : Nat→Rat} : ∀ {r l c : List Atm},Ze l r=some c→Qr dn M l=Qr dn M r*Qr dn M c
 | [],l,c,h => by
  have : l=c := by simpa [Ze] using h
  rw [this]
  exact (Rat.one_mul _).symm
 | x :: r,l,c,h => by
  unfold Ze at h
  rw [Option.bind_eq_some_iff] at h
  obtain ⟨l',h1,h2⟩ := h
  rw [Jj h1,Qv h2]
  exact (Rat.mul_assoc _ _ _).symm
theorem Zq {l : Option (List Atm)} (h : JU l=true) : l=some [] := by
 unfold JU at h
 split at h
 ·rfl
 ·cases h
theorem QW.one {z : Nat} (h : 0 < z) : QW z 1 := ⟨⟨by
  show (1 : Int).natAbs < 2 ^ z
  exact Nat.one_lt_two_pow (by omega),by
  show 1 < 2 ^ z
  exact Nat.one_lt_two_pow (by omega)⟩,rfl⟩
theorem QW.zero {z : Nat} (h : 0 < z) : QW z 0 := ⟨⟨by
  show (0 : Int).natAbs < 2 ^ z
  exact Nat.two_pow_pos z,by
  show 1 < 2 ^ z
  exact Nat.one_lt_two_pow (by omega)⟩,rfl⟩
theorem QW.nat {z n : Nat} (h : n < 2 ^ z) (hz : 0 < z) : QW z ((n : Nat) : Rat) := by
 have : ((n : Nat) : Rat)=(((n : Nat) : Int) : Rat) := (Rat.intCast_natCast n).symm
 rw [this]
 exact QW.of (by simpa using h) hz
section
variable {E : List (Nat × List Atm)} {dn : Nat→Nat} {M : Nat→Rat} {k : Nat}
def Uq (E : List (Nat × List Atm)) (dn : Nat→Nat) (M : Nat→Rat) (q : Nat→Rat) (k : Nat) : Prop := ∀ a,a < k→∃ p,E[a]? = some p∧QW p.1 (M a)∧0 < p.1∧(∀ x ∈ p.2,x.1=1→x.2 < a)∧q a*Qr dn M p.2=M a
theorem WX {q : Nat→Rat} (hdn : ∀ j,0 < dn j∧dn j < 2 ^ inB) (hM : Uq E dn M q k) {x : Atm} (hx : x.1=1→x.2 < k) : QW (GP E x) (Jn dn M x)∧Jn dn M x ≠ 0 := by
 obtain ⟨i,j⟩ := x
 match i with
 | 0 =>
  show QW inB ((dn j : Nat) : Rat)∧((dn j : Nat) : Rat) ≠ 0
  refine ⟨QW.nat (hdn j).2 (by unfold inB; omega),fun h => ?_⟩
  have := (hdn j).1
  have h2 : dn j=0 := by exact_mod_cast h
  omega
 | 1 =>
  obtain ⟨p,h1,h2,h3,_⟩ := hM j (hx rfl)
  show QW (match E[j]? with
   | some p => p.1
   | none => 1) (if M j=0 then 1 else M j)∧(if M j=0 then 1 else M j) ≠ 0
  rw [h1]
  by_cases h : M j=0
  ·rw [if_pos h]
   exact ⟨QW.one h3,by decide⟩
  ·rw [if_neg h]
   exact ⟨h2,h⟩
 | i+2 =>
  show QW (Nat.log2 j+1) (if j=0 then 1 else ((j : Nat) : Rat))∧(if j=0 then 1 else ((j : Nat) : Rat)) ≠ 0
  by_cases h : j=0
  ·rw [if_pos h]
   exact ⟨QW.one (by omega),by decide⟩
  ·rw [if_neg h]
   refine ⟨QW.nat Nat.lt_log2_self (by omega),fun h2 => h ?_⟩
   exact_mod_cast h2
theorem Xd {q : Nat→Rat} (hdn : ∀ j,0 < dn j∧dn j < 2 ^ inB) (hM : Uq E dn M q k) : ∀ {l : List Atm},(∀ x ∈ l,x.1=1→x.2 < k)→QW (Jo E l) (Qr dn M l)∧Qr dn M l ≠ 0
 | [],_ => ⟨QW.one (show 0 < 1 by decide),by show (1 : Rat) ≠ 0; decide⟩
 | x :: l,h => by
  have h1 := WX hdn hM (h x List.mem_cons_self)
  have h2 := Xd hdn hM (l := l) fun y hy => h y (List.mem_cons_of_mem _ hy)
  exact ⟨h1.1.mul h2.1,ZH h1.2 h2.2⟩
theorem Jk {M' : Nat→Rat} : ∀ {l : List Atm},(∀ x ∈ l,x.1=1→M x.2=M' x.2)→Qr dn M l=Qr dn M' l
 | [],_ => rfl
 | x :: l,h => by
  show Jn dn M x*Qr dn M l=Jn dn M' x*Qr dn M' l
  rw [Jk (l := l) fun y hy => h y (List.mem_cons_of_mem _ hy)]
  have e : Jn dn M x=Jn dn M' x := by
   obtain ⟨i,j⟩ := x
   match i with
   | 0 => rfl
   | 1 =>
    have := h (1,j) List.mem_cons_self rfl
    show (if M j=0 then 1 else M j)=(if M' j=0 then 1 else M' j)
    rw [this]
   | i+2 => rfl
  rw [e]
theorem XD {x y : Atm} : ∀ {l c : List Atm},XC x l=some c→y ∈ c→y ∈ l
 | [],_,h,_ => by cases h
 | z :: l,c,h,hy => by
  unfold XC at h
  cases e : (Nat.beq x.1 z.1 && Nat.beq x.2 z.2) with
  | true => rw [e] at h; cases h; exact List.mem_cons_of_mem _ hy
  | false =>
   rw [e] at h
   simp only [cond_false,Option.map_eq_some_iff] at h
   obtain ⟨c',h1,rfl⟩ := h
   rcases List.mem_cons.1 hy with rfl | hy
   ·exact List.mem_cons_self
   ·exact List.mem_cons_of_mem _ (XD h1 hy)
theorem QX {y : Atm} : ∀ {r l c : List Atm},Ze l r=some c→y ∈ c→y ∈ l
 | [],l,c,h,hy => by
  have : l=c := by simpa [Ze] using h
  rw [this]; exact hy
 | x :: r,l,c,h,hy => by
  unfold Ze at h
  rw [Option.bind_eq_some_iff] at h
  obtain ⟨l',h1,h2⟩ := h
  exact XD h1 (QX h2 hy)
theorem Uy {n : Nat} (h : n ≠ 0) : ((n : Nat) : Rat) ≠ 0 := fun e => h (by exact_mod_cast e)
theorem Jb (x : Rat) : x*((x.den : Nat) : Rat)=((x.num : Int) : Rat) := by
 have e : x=((x.num : Int) : Rat) / ((x.den : Nat) : Rat) := by
  have := Rat.mkRat_self x
  rw [Rat.mkRat_eq_div] at this
  exact this.symm
 conv => lhs; lhs; rw [e]
 exact Rat.div_mul_cancel (Uy x.den_nz)
theorem YM {qs : List Rat} {m M : Nat} (hm : m ∣ M) (h : ∀ q ∈ qs,q.den ∣ M) : qs.foldl (fun m q => m*(q.den / Nat.gcd m q.den)) m ∣ M := by
 induction qs generalizing m with
 | nil => exact hm
 | cons q qs ih =>
  rw [List.foldl_cons]
  refine ih ?_ fun p hp => h p (List.mem_cons_of_mem _ hp)
  have e : m*(q.den / Nat.gcd m q.den)=Nat.lcm m q.den := by
   unfold Nat.lcm
   exact (Nat.mul_div_assoc _ (Nat.gcd_dvd_right _ _)).symm
  rw [e]
  exact Nat.lcm_dvd hm (h q List.mem_cons_self)
theorem Xf {x : Rat} {m : Int} (h : (x*((m : Int) : Rat)).den=1) : x.den ∣ m.natAbs := by
 have e := whole h
 generalize (x*((m : Int) : Rat)).num=n at e
 have h1 : x*((x.den : Nat) : Rat)=((x.num : Int) : Rat) := Jb x
 have h2 : ((x.num : Int) : Rat)*((m : Int) : Rat)=((n : Int) : Rat)*(((x.den : Nat) : Int) : Rat) := by
  rw [← h1,← e,Rat.intCast_natCast]
  grind
 have h3 : x.num*m=n*(x.den : Int) := by exact_mod_cast h2
 have h4 : (x.den : Int) ∣ x.num*m := ⟨n,by rw [h3,Int.mul_comm]⟩
 have h5 : x.den ∣ x.num.natAbs*m.natAbs := by
  have := Int.natAbs_dvd_natAbs.2 h4
  rwa [Int.natAbs_mul,Int.natAbs_natCast] at this
 exact (Nat.Coprime.symm x.reduced).dvd_of_dvd_mul_left h5
theorem YI {qs : List Rat} {x : Rat} {z : Nat} {m : Int} (hx : x ∈ qs) (hm : m ≠ 0) (hall : ∀ y ∈ qs,(y*((m : Int) : Rat)).den=1) (hz : QW z (x*((m : Int) : Rat))) : QW z (x*fac qs) := by
 have hl : lD qs ∣ m.natAbs := YM (Nat.one_dvd _) fun y hy => Xf (hall y hy)
 have hd := TW hx
 have hpos : 0 < m.natAbs := Int.natAbs_pos.2 hm
 have hle : lD qs≤m.natAbs := Nat.le_of_dvd hpos hl
 have hn : (x*fac qs).num.natAbs≤(x*((m : Int) : Rat)).num.natAbs := by
  rw [TJ hx]
  have e := whole hz.wh
  generalize (x*((m : Int) : Rat)).num=n at e
  have h1 : x*((x.den : Nat) : Rat)=((x.num : Int) : Rat) := Jb x
  have h2 : ((x.num : Int) : Rat)*((m : Int) : Rat)=((n : Int) : Rat)*(((x.den : Nat) : Int) : Rat) := by
   rw [← h1,← e,Rat.intCast_natCast]
   grind
  have h3 : x.num*m=n*(x.den : Int) := by exact_mod_cast h2
  have h4 : x.num.natAbs*m.natAbs=n.natAbs*x.den := by
   have := congrArg Int.natAbs h3
   rwa [Int.natAbs_mul,Int.natAbs_mul,Int.natAbs_natCast] at this
  obtain ⟨c,hc⟩ := Xf (x := x) (m := m) (hall x hx)
  have h5 : n.natAbs=x.num.natAbs*c := by
   rw [hc] at h4
   refine Nat.eq_of_mul_eq_mul_right x.den_pos ?_
   rw [← h4]
   rw [Nat.mul_assoc,Nat.mul_comm c]
  show x.num.natAbs / gN qs*(lD qs / x.den)≤n.natAbs
  rw [h5]
  refine Nat.mul_le_mul (Nat.div_le_self _ _) ?_
  have : lD qs / x.den≤m.natAbs / x.den := Nat.div_le_div_right hle
  rw [hc,Nat.mul_div_cancel_left _ x.den_pos] at this
  exact this
 refine ⟨⟨Nat.lt_of_le_of_lt hn hz.qs.num,?_⟩,hd⟩
 rw [hd]
 have := hz.qs.den
 rw [hz.wh] at this
 exact this
theorem ZR {y : Atm} : ∀ {D U : List Atm},y ∈ Xu U D→y ∈ D
 | [],_,h => by cases h
 | x :: D,U,h => by
  unfold Xu at h
  split at h
  ·exact List.mem_cons_of_mem _ (ZR h)
  ·rcases List.mem_cons.1 h with rfl | h
   ·exact List.mem_cons_self
   ·exact List.mem_cons_of_mem _ (ZR h)
theorem Xz {q : Nat→Rat} (hM : Uq E dn M q k) : ∀ {l : List Nat} {U : List Atm},(∀ c ∈ l,c < k)→(∀ x ∈ U,x.1=1→x.2 < k)→∀ x ∈ Xv E l U,x.1=1→x.2 < k
 | [],_,_,hU => hU
 | a :: l,U,hl,hU => by
  unfold Xv
  refine Xz hM (fun c hc => hl c (List.mem_cons_of_mem _ hc)) ?_
  have ha := hl a List.mem_cons_self
  obtain ⟨p,h1,_,_,h4,_⟩ := hM a ha
  rw [h1]
  intro x hx h
  rcases List.mem_append.1 hx with hx | hx
  ·exact hU x hx h
  ·exact Nat.lt_trans (h4 x (ZR hx) h) ha
theorem Oc {q : Nat→Rat} {σ : Nat→ByteArray} (hσ : ∀ j,(σ j).size≤1048576) (hdn : ∀ j,dn j=(Cx.rd (σ j).data.toList).den) (hM : Uq E dn M q k) {z : Nat} {D : List Atm} {nd : Nd} (hwf : wfN k nd=true) (hs : saN E k z D nd=true) : QW z (Zr σ q nd*Qr dn M D)∧0 < z∧∀ x ∈ D,x.1=1→x.2 < k := by
 have hdn' : ∀ j,0 < dn j∧dn j < 2 ^ inB := fun j => by
  rw [hdn j]
  refine ⟨Rat.den_pos _,Nat.lt_of_lt_of_le (QS.rd3 _).den (Nat.pow_le_pow_right (by decide) ?_)⟩
  have := hσ j
  rw [QP]
  unfold inB
  omega
 obtain ⟨op,xs⟩ := nd
 unfold saN at hs
 rw [Bool.and_eq_true,Bool.and_eq_true] at hs
 obtain ⟨⟨hz0,hD⟩,hs⟩ := hs
 have hz : 0 < z := by simpa [Nat.blt_eq] using hz0
 have hD' : ∀ x ∈ D,x.1=1→x.2 < k := fun x hx h1 => by
  rw [List.all_eq_true] at hD
  have := hD x hx
  rw [h1] at this
  simpa [Nat.blt_eq] using this
 refine ⟨?_,hz,hD'⟩
 have hlow : ∀ {a : Nat} {p : Nat × List Atm},a < k→E[a]? = some p→QW p.1 (M a)∧(∀ x ∈ p.2,x.1=1→x.2 < k)∧q a*Qr dn M p.2=M a := fun {a p} ha hp => by
  obtain ⟨p',h1,h2,_,h4,h5⟩ := hM a ha
  rw [hp] at h1
  cases h1
  exact ⟨h2,fun x hx h => Nat.lt_trans (h4 x hx h) ha,h5⟩
 have hpr : ∀ {l : List Atm},(∀ x ∈ l,x.1=1→x.2 < k)→QW (Jo E l) (Qr dn M l)∧Qr dn M l ≠ 0 := fun h => Xd hdn' hM h
 unfold wfN at hwf
 unfold Zr
 dsimp only at hs hwf ⊢
 split at hs
 ·rename_i s n d
  simp only [Bool.and_eq_true] at hs
  obtain ⟨⟨h1,h2⟩,h3⟩ := hs
  have h1' : n < 2 ^ z := by simpa [Nat.blt_eq] using h1
  have h2' : d ≠ 0 := by
   have : 0 < d := by simpa [Nat.blt_eq] using h2
   omega
  have hp : Qr dn M D=((d : Nat) : Rat) := by
   have := Qv (dn := dn) (M := M) (Zq h3)
   rw [this]
   cases e : Nat.beq d 1 with
   | true =>
    rw [Nat.beq_eq] at e
    rw [e]
    show (1 : Rat)*1=((1 : Nat) : Rat)
    rw [Rat.mul_one]
    exact_mod_cast rfl
   | false =>
    show (if d=0 then (1 : Rat) else ((d : Nat) : Rat))*1*1=_
    rw [if_neg h2',Rat.mul_one,Rat.mul_one]
  show QW z ((if s=0 then mkRat (n : Int) d else mkRat (-(n : Int)) d)*Qr dn M D)
  rw [hp]
  have key : ∀ m : Int,m.natAbs < 2 ^ z→QW z (mkRat m d*((d : Nat) : Rat)) := fun m hm => by
   rw [Rat.mkRat_eq_div,Rat.div_mul_cancel (Uy h2')]
   exact QW.of hm hz
  by_cases hs0 : s=0
  ·rw [if_pos hs0]
   exact key _ (by simpa using h1')
  ·rw [if_neg hs0]
   exact key _ (by simpa using h1')
 ·rename_i j
  simp only [Bool.and_eq_true,Nat.ble_eq] at hs
  have hp : Qr dn M D=(((Cx.rd (σ j).data.toList).den : Nat) : Rat) := by
   rw [Qv (dn := dn) (M := M) (Zq hs.2)]
   show ((dn j : Nat) : Rat)*1*1=_
   rw [Rat.mul_one,Rat.mul_one,hdn j]
  show QW z (Cx.rd (σ j).data.toList*Qr dn M D)
  rw [hp,Jb]
  refine QW.of (Nat.lt_of_lt_of_le (QS.rd3 _).num (Nat.pow_le_pow_right (by decide) ?_)) hz
  have := hσ j
  have := hs.1
  unfold inB at this
  rw [QP]
  omega
 ·simp only [List.all_cons,List.all_nil,Bool.and_true,Bool.and_eq_true] at hwf
  rename_i a b
  have l1 : a < k := by simpa [Nat.blt_eq] using hwf.1
  have l2 : b < k := by simpa [Nat.blt_eq] using hwf.2
  split at hs
  ·rename_i p r hp hr
   split at hs
   ·rename_i c e hc he
    rw [Nat.ble_eq] at hs
    obtain ⟨a1,a2,a3⟩ := hlow l1 hp
    obtain ⟨b1,b2,b3⟩ := hlow l2 hr
    have hc' := hpr (l := c) fun x hx => hD' x (QX hc hx)
    have he' := hpr (l := e) fun x hx => hD' x (QX he hx)
    have e1 : (q a+q b)*Qr dn M D=M a*Qr dn M c+M b*Qr dn M e := by
     rw [Rat.add_mul]
     congr 1
     ·rw [Qv hc,← Rat.mul_assoc,a3]
     ·rw [Qv he,← Rat.mul_assoc,b3]
    show QW z ((q a+q b)*Qr dn M D)
    rw [e1]
    exact ((a1.mul hc'.1).add (b1.mul he'.1)).mono hs
   ·cases hs
  ·cases hs
 ·simp only [List.all_cons,List.all_nil,Bool.and_true,Bool.and_eq_true] at hwf
  rename_i a b
  have l1 : a < k := by simpa [Nat.blt_eq] using hwf.1
  have l2 : b < k := by simpa [Nat.blt_eq] using hwf.2
  split at hs
  ·rename_i p r hp hr
   split at hs
   ·rename_i c e hc he
    rw [Nat.ble_eq] at hs
    obtain ⟨a1,a2,a3⟩ := hlow l1 hp
    obtain ⟨b1,b2,b3⟩ := hlow l2 hr
    have hc' := hpr (l := c) fun x hx => hD' x (QX hc hx)
    have he' := hpr (l := e) fun x hx => hD' x (QX he hx)
    have e1 : (q a - q b)*Qr dn M D=M a*Qr dn M c - M b*Qr dn M e := by
     rw [show (q a - q b)*Qr dn M D=q a*Qr dn M D - q b*Qr dn M D by grind]
     congr 1
     ·rw [Qv hc,← Rat.mul_assoc,a3]
     ·rw [Qv he,← Rat.mul_assoc,b3]
    show QW z ((q a - q b)*Qr dn M D)
    rw [e1]
    exact ((a1.mul hc'.1).sub (b1.mul he'.1)).mono hs
   ·cases hs
  ·cases hs
 ·simp only [List.all_cons,List.all_nil,Bool.and_true,Bool.and_eq_true] at hwf
  rename_i a b
  have l1 : a < k := by simpa [Nat.blt_eq] using hwf.1
  have l2 : b < k := by simpa [Nat.blt_eq] using hwf.2
  split at hs
  ·rename_i p r hp hr
   split at hs
   ·rename_i c hc
    rw [Bool.and_eq_true,Nat.ble_eq] at hs
    obtain ⟨a1,a2,a3⟩ := hlow l1 hp
    obtain ⟨b1,b2,b3⟩ := hlow l2 hr
    have e1 : q a*q b*Qr dn M D=M a*M b := by
     rw [Qv hc,Qv (Zq hs.1),← a3,← b3]
     show q a*q b*(Qr dn M p.2*(Qr dn M r.2*1))=_
     grind
    show QW z (q a*q b*Qr dn M D)
    rw [e1]
    exact (a1.mul b1).mono hs.2
   ·cases hs
  ·cases hs
 ·simp only [List.all_cons,List.all_nil,Bool.and_true] at hwf
  rename_i a
  have l1 : a < k := by simpa [Nat.blt_eq] using hwf
  split at hs
  ·rename_i p hp
   rw [Bool.and_eq_true,Nat.ble_eq] at hs
   obtain ⟨a1,a2,a3⟩ := hlow l1 hp
   have e1 : -q a*Qr dn M D=-M a := by
    rw [Qv (Zq hs.1),← a3]
    show -q a*(Qr dn M p.2*1)=_
    grind
   show QW z (-q a*Qr dn M D)
   rw [e1]
   exact a1.neg.mono hs.2
  ·cases hs
 ·simp only [List.all_cons,List.all_nil,Bool.and_true,Bool.and_eq_true] at hwf
  rename_i a b
  have l1 : a < k := by simpa [Nat.blt_eq] using hwf.1
  have l2 : b < k := by simpa [Nat.blt_eq] using hwf.2
  split at hs
  ·rename_i p r D' hp hr hD1
   split at hs
   ·rename_i c hc
    split at hs
    ·rename_i e he
     rw [Nat.ble_eq] at hs
     obtain ⟨a1,a2,a3⟩ := hlow l1 hp
     obtain ⟨b1,b2,b3⟩ := hlow l2 hr
     have he' := hpr (l := e) fun x hx => b2 x (QX he hx)
     by_cases h0 : M b=0
     ·have hb : q b=0 := by
       rw [h0] at b3
       exact (Rat.mul_eq_zero.1 b3).resolve_right (hpr b2).2
      show QW z (q a / q b*Qr dn M D)
      rw [hb,Rat.div_def,Rat.inv_zero,Rat.mul_zero,Rat.zero_mul]
      exact QW.zero hz
     ·have hb : q b ≠ 0 := fun h => h0 (by rw [← b3,h,Rat.zero_mul])
      have e1 : q a / q b*Qr dn M D=M a*Qr dn M e := by
       have e2 : Qr dn M D=M b*Qr dn M D' := by
        rw [Jj hD1]
        show (if M b=0 then (1 : Rat) else M b)*_=_
        rw [if_neg h0]
       have e3 : q a / q b*q b=q a := Rat.div_mul_cancel hb
       rw [e2,← a3,← b3,Qv hc,Qv he]
       generalize q a / q b=t at e3
       rw [← e3]
       grind
      show QW z (q a / q b*Qr dn M D)
      rw [e1]
      exact (a1.mul he'.1).mono hs
    ·cases hs
   ·cases hs
  ·cases hs
 ·have hD0 : D=[] := by
   rw [Nat.beq_eq] at hs
   exact List.length_eq_zero_iff.1 hs
  rw [hD0]
  have hv : Zr σ q (7,xs)=0 ∨ Zr σ q (7,xs)=1 := by
   unfold Zr
   dsimp only
   split
   all_goals first | (split; exact Or.inl rfl; exact Or.inr rfl) | exact Or.inl rfl | (rename_i h; cases h)
  show QW z (Zr σ q (7,xs)*1)
  rw [Rat.mul_one]
  rcases hv with h | h
  ·rw [h]
   exact QW.zero hz
  ·rw [h]
   exact QW.one hz
 ·rename_i i ys
  rw [Bool.and_eq_true,Bool.and_eq_true,List.all_eq_true] at hs
  obtain ⟨h1,h2,h3⟩ := hs
  have hD0 : D=[] := by
   rw [Nat.beq_eq] at h1
   exact List.length_eq_zero_iff.1 h1
  have hwf' : ys.all (Nat.blt · k)=true := hwf
  rw [List.all_eq_true] at hwf'
  have hlt : ∀ c ∈ ys,c < k := fun c hc => by simpa [Nat.blt_eq] using hwf' c hc
  split at h3
  ·rename_i a ha
   split at h3
   ·rename_i p hp
    split at h3
    ·rename_i e he
     rw [Nat.ble_eq] at h3
     obtain ⟨hi,ha'⟩ := List.getElem?_eq_some_iff.1 ha
     have hmem : a ∈ ys := List.mem_of_getElem? ha
     have hg : (ys.map q).getD i 0=q a := by
      rw [List.getD_eq_getElem?_getD,List.getElem?_map,ha]
      rfl
     show QW z ((ys.map q).getD i 0*fac (ys.map q)*Qr dn M D)
     rw [hg,hD0]
     show QW z (q a*fac (ys.map q)*1)
     rw [Rat.mul_one]
     -- what makes all of them whole
     have hU : ∀ x ∈ Xv E ys [],x.1=1→x.2 < k := Xz hM hlt (fun x hx => by cases hx)
     have hUp := hpr hU
     have hw := whole hUp.1.wh
     generalize hm : (Qr dn M (Xv E ys [])).num=m at hw
     have hm0 : m ≠ 0 := fun h => hUp.2 (by rw [hw,h]; rfl)
     have hall : ∀ y ∈ ys.map q,(y*((m : Int) : Rat)).den=1 := fun y hy => by
      obtain ⟨c,hc,rfl⟩ := List.mem_map.1 hy
      have h4 := h2 c hc
      split at h4
      ·rename_i r hr
       obtain ⟨c1,c2,c3⟩ := hlow (hlt c hc) hr
       cases hs2 : Ze (Xv E ys []) r.2 with
       | none => rw [hs2] at h4; cases h4
       | some f =>
        have hf := hpr (l := f) fun x hx => hU x (QX hs2 hx)
        rw [← hw,Qv hs2,← Rat.mul_assoc,c3]
        exact (c1.mul hf.1).wh
      ·cases h4
     obtain ⟨a1,a2,a3⟩ := hlow (hlt a hmem) hp
     have he' := hpr (l := e) fun x hx => hU x (QX he hx)
     refine YI (List.mem_map_of_mem hmem) hm0 hall ?_
     rw [← hw,Qv he,← Rat.mul_assoc,a3]
     exact (a1.mul he'.1).mono h3
    ·cases h3
   ·cases h3
  ·cases h3
 ·cases hs
end
theorem Og {x m p : Rat} {z y K : Nat} (hm : QW z m) (hp : QW y p) (h0 : p ≠ 0) (e : x*p=m) (hz : z≤K) (hy : y≤K) : QS K x := by
 have hw := whole hp.wh
 generalize p.num=P at hw
 have hP : P ≠ 0 := fun h => h0 (by rw [hw,h]; rfl)
 have hpos : 0 < P.natAbs := Int.natAbs_pos.2 hP
 have hd : x.den ∣ P.natAbs := Xf (x := x) (m := P) (by rw [← hw,e]; exact hm.wh)
 have hdle : x.den≤P.natAbs := Nat.le_of_dvd hpos hd
 have hPlt : P.natAbs < 2 ^ y := by
  have := hp.qs.num
  rw [hw,Rat.num_intCast] at this
  exact this
 have hmw := whole hm.wh
 have hmlt := hm.qs.num
 generalize m.num=n at hmw hmlt
 have h1 : x*((x.den : Nat) : Rat)=((x.num : Int) : Rat) := Jb x
 have h2 : ((x.num : Int) : Rat)*((P : Int) : Rat)=((n : Int) : Rat)*(((x.den : Nat) : Int) : Rat) := by
  rw [← h1,← hw,← hmw,← e,Rat.intCast_natCast]
  grind
 have h3 : x.num*P=n*(x.den : Int) := by exact_mod_cast h2
 have h4 : x.num.natAbs*P.natAbs=n.natAbs*x.den := by
  have := congrArg Int.natAbs h3
  rwa [Int.natAbs_mul,Int.natAbs_mul,Int.natAbs_natCast] at this
 have h5 : x.num.natAbs≤n.natAbs := by
  refine Nat.le_of_mul_le_mul_right (c := P.natAbs) ?_ hpos
  rw [h4]
  exact Nat.mul_le_mul_left _ hdle
 exact ⟨Nat.lt_of_lt_of_le (Nat.lt_of_le_of_lt h5 hmlt) (Nat.pow_le_pow_right (by decide) hz),Nat.lt_of_lt_of_le (Nat.lt_of_le_of_lt hdle hPlt) (Nat.pow_le_pow_right (by decide) hy)⟩
section
variable {N : List Nd} {Z : List Nat} {E : List (Nat × List Atm)} {q : Nat→Rat}
theorem JW {σ : Nat→ByteArray} (hσ : ∀ j,(σ j).size≤1048576) (hw : wfB 0 N=true) (hz : saB E 0 N E Z=true) (hq : ∀ (a : Nat) nd,N[a]? = some nd→q a=Zr σ q nd) (h0 : ∀ a,N.length≤a→q a=0) : (∀ (a : Nat) z,Z[a]? = some z→QS z (q a))∧∀ a,QS 1000000000000 (q a) := by
 have hl := Yv hz
 have key : ∀ k,k≤N.length→∃ M,Uq E (fun j => (Cx.rd (σ j).data.toList).den) M q k := by
  intro k
  induction k with
  | zero => exact fun _ => ⟨fun _ => 0,fun a ha => by omega⟩
  | succ k ih =>
   intro hk
   obtain ⟨M,hM⟩ := ih (by omega)
   have hn : N[k]? = some N[k] := List.getElem?_eq_getElem (by omega)
   obtain ⟨p,z,h1,_,h3,_⟩ := Xj hz hn
   rw [Nat.zero_add] at h3
   have hwf := OI hw hn
   rw [Nat.zero_add] at hwf
   obtain ⟨g1,g2,g3⟩ := Oc hσ (fun _ => rfl) hM hwf h3
   rw [← hq k _ hn] at g1
   refine ⟨fun x => if x=k then q k*Qr (fun j => (Cx.rd (σ j).data.toList).den) M p.2 else M x,fun a ha => ?_⟩
   have same : ∀ {l : List Atm},(∀ x ∈ l,x.1=1→x.2 < k)→Qr (fun j => (Cx.rd (σ j).data.toList).den) (fun x => if x=k then q k*Qr (fun j => (Cx.rd (σ j).data.toList).den) M p.2 else M x) l=Qr (fun j => (Cx.rd (σ j).data.toList).den) M l := fun hl => (Jk fun x hx h => by
    have := hl x hx h
    rw [if_neg (by omega)]).symm
   by_cases e : a=k
   ·subst e
    refine ⟨p,h1,?_,g2,g3,?_⟩
    ·show QW p.1 (if a=a then _ else _)
     rw [if_pos rfl]
     exact g1
    ·rw [same g3]
     show _=(if a=a then _ else _)
     rw [if_pos rfl]
   ·obtain ⟨p',f1,f2,f3,f4,f5⟩ := hM a (by omega)
    refine ⟨p',f1,?_,f3,f4,?_⟩
    ·show QW p'.1 (if a=k then _ else M a)
     rw [if_neg e]
     exact f2
    ·rw [same fun x hx h => by have := f4 x hx h; omega]
     show _=(if a=k then _ else M a)
     rw [if_neg e]
     exact f5
 obtain ⟨M,hM⟩ := key N.length (Nat.le_refl _)
 have hdn : ∀ j,0 < (Cx.rd (σ j).data.toList).den∧(Cx.rd (σ j).data.toList).den < 2 ^ inB := fun j => by
  refine ⟨Rat.den_pos _,Nat.lt_of_lt_of_le (QS.rd3 _).den (Nat.pow_le_pow_right (by decide) ?_)⟩
  have := hσ j
  rw [QP]
  unfold inB
  omega
 have h2 : ∀ (a : Nat) z,Z[a]? = some z→QS z (q a)∧z≤1000000000000 := by
  intro a z ha
  have hlt : a < N.length := by
   have := (List.getElem?_eq_some_iff.1 ha).1
   omega
  have hn : N[a]? = some N[a] := List.getElem?_eq_getElem hlt
  obtain ⟨p,z',h1,h2,_,h4,h5,h6⟩ := Xj hz hn
  rw [ha] at h2
  cases h2
  obtain ⟨p',f1,f2,f3,f4,f5⟩ := hM a hlt
  rw [h1] at f1
  cases f1
  have hp := Xd hdn hM (l := p.2) fun x hx h => Nat.lt_trans (f4 x hx h) hlt
  exact ⟨Og f2 hp.1 hp.2 f5 h4 h5,h6⟩
 refine ⟨fun a z h => (h2 a z h).1,fun a => ?_⟩
 by_cases ha : a < Z.length
 ·have := h2 a _ (List.getElem?_eq_getElem ha)
  exact this.1.mono this.2
 ·rw [h0 a (by omega)]
  exact QS.zero.mono (by decide)
theorem Vt {L C : List (List Nat × Nat)} {σ : Nat→ByteArray} {H : List (Nat × Nat × Nat × Nat)} (hσ : ∀ j,(σ j).size≤1048576) (hw : wfB 0 N=true) (hz : saB E 0 N E Z=true) (hl : KZ N L=true) (hcn : Gb N C=true) (hq : ∀ (a : Nat) nd,N[a]? = some nd→q a=Zr σ q nd) (h0 : ∀ a,N.length≤a→q a=0) (hH : Xs q H) : Hy N H L C Z q σ where
 nat := hq
 qs := (JW hσ hw hz hq h0).2
 zs := (JW hσ hw hz hq h0).1
 par := hσ
 lit := fun s b h => Pv hl hq h
 k0 := fun a r h => ZT hH h
 k1 := fun a r h => ZT hH h
 k2 := fun a r h => ZT hH h
 k3 := fun a b r h => ZT hH h
 k4 := fun l a b r h1 h2 => by
  have h3 : Nat.beq 1 r=true ↔ q a=q b := ZT hH h2
  rw [h3,← Pr hcn hq h1]
  exact ⟨fun e => by rw [e],fun e => Wb (YD e)⟩
 k6 := fun a b r h => ZT hH h
 k5 := fun a r h => ZT hH h
end
end Go.Proofs.YtmdfngmjoaigjaaGreatDoor
/- CFspun -/
namespace Go.Proofs.YtmdfngmjoaigjaaGreatDoor
open Go.RowKit Cx
theorem ZK : Closed 11 :=
 Wq (N := [(0,[0,1,1]),(0,[0,0,1]),(8,[0,0,1,1,0]),(8,[1,0,1,1,0]),(8,[2,0,1,1,0]),(8,[3,0,1,1,0]),(3,[1,3]),(3,[1,4]),(3,[1,5]),(4,[2,2]),(4,[3,3]),(2,[1,10]),(4,[4,4]),(2,[11,12]),(4,[5,5]),(2,[13,14]),(2,[9,15]),(4,[2,1]),(4,[3,0]),(2,[1,18]),(4,[4,1]),(2,[19,20]),(4,[5,1]),(2,[21,22]),(3,[17,23]),(4,[0,2]),(4,[1,2]),(4,[3,1]),(2,[25,27]),(2,[26,20]),(2,[26,22]),(3,[20,22]),(4,[5,0]),(3,[32,27]),(4,[4,0]),(3,[27,34]),(2,[28,31]),(2,[29,33]),(2,[30,35]),(4,[24,2]),(4,[36,6]),(2,[1,40]),(4,[37,7]),(2,[41,42]),(4,[38,8]),(2,[43,44]),(3,[39,45]),(4,[6,24]),(4,[7,24]),(4,[8,24]),(4,[36,2]),(4,[37,2]),(4,[38,2]),(2,[47,50]),(2,[48,51]),(2,[49,52]),(4,[37,8]),(4,[38,7]),(3,[56,57]),(4,[38,6]),(4,[36,8]),(3,[59,60]),(4,[36,7]),(4,[37,6]),(3,[62,63]),(2,[53,58]),(2,[54,61]),(2,[55,64]),(6,[65,16]),(6,[66,16]),(6,[67,16]),(4,[0,0]),(2,[1,71]),(4,[1,1]),(2,[72,73]),(2,[74,73]),(3,[75,0]),(3,[0,1]),(6,[0,77]),(6,[1,77]),(4,[0,1]),(2,[1,80]),(4,[1,0]),(2,[81,82]),(2,[83,73]),(3,[73,84]),(2,[73,80]),(2,[80,73]),(2,[73,73]),(3,[73,82]),(3,[73,80]),(3,[71,73]),(2,[86,89]),(2,[87,90]),(2,[88,91])]) (H := [(0,16,0,0),(0,76,0,1),(0,77,0,0),(4,85,1,1),(4,92,1,1),(4,93,1,1),(4,94,0,1),(4,68,1,1),(4,69,0,1),(4,70,1,1),(4,78,0,1),(4,79,1,1)]) (K := [(105,[.inr (3,8,0,0,0),.inr (3,32,0,0,0),.inr (3,33,0,0,0)])]) (L := [([49],0),([48],1)]) (C := [([48],1),([49],0)]) (Z := [2,2,11,11,11,11,14,14,14,22,22,25,22,48,22,71,94,13,13,16,13,30,13,44,58,13,13,13,27,27,27,27,13,27,13,27,55,55,55,69,69,72,69,142,69,212,282,72,72,72,66,66,66,139,139,139,69,69,139,69,69,139,69,69,139,279,279,279,373,373,373,4,7,4,12,17,20,5,7,7,4,7,4,12,17,22,9,9,9,9,9,9,19,19,19]) (cl := []) 7 (fun _ h => by cases h) (by kernel_rfl) (by kernel_rfl) (by kernel_rfl) (by kernel_rfl) (by kernel_rfl) (by kernel_rfl) (by kernel_rfl)
end Go.Proofs.YtmdfngmjoaigjaaGreatDoor
/- MQB -/
namespace Go.Proofs.YtmdfngmjoaigjaaGreatDoor
open Go.RowKit Cx
def qB_N : List Nd := [(1,[0]),(1,[1]),(1,[2]),(4,[0,0]),(0,[0,0,1]),(2,[4,3]),(4,[1,1]),(2,[5,6]),(4,[2,2]),(2,[7,8]),(0,[0,1,1]),(3,[9,10]),(3,[10,2]),(1,[3]),(1,[4]),(0,[0,2,1]),(4,[13,13]),(4,[14,14]),(2,[16,17]),(4,[13,15]),(4,[14,15]),(3,[18,10]),(2,[18,10]),(6,[19,22]),(6,[20,22]),(6,[21,22]),(4,[23,23]),(4,[24,24]),(4,[25,25]),(2,[26,27]),(2,[29,28]),(3,[23,4]),(3,[24,4]),(3,[25,10]),(3,[13,4]),(3,[14,4]),(3,[4,10]),(4,[32,36]),(4,[33,35]),(3,[37,38]),(4,[33,34]),(4,[31,36]),(3,[40,41]),(4,[31,35]),(4,[32,34]),(3,[43,44]),(4,[39,39]),(4,[42,42]),(2,[46,47]),(4,[45,45]),(2,[48,49]),(2,[3,6]),(2,[51,8]),(6,[0,12]),(6,[1,12]),(3,[0,4]),(3,[1,4]),(3,[2,10]),(3,[53,4]),(3,[54,4]),(4,[56,36]),(4,[57,59]),(3,[60,61]),(4,[57,58]),(4,[55,36]),(3,[63,64]),(4,[55,59]),(4,[56,58]),(3,[66,67]),(4,[62,62]),(4,[65,65]),(2,[69,70]),(4,[68,68]),(2,[71,72])]
def qB_L : List (List Nat × Nat) := []
def qB_C : List (List Nat × Nat) := []
def qB_Z : List Nat := [3495260,3495260,3495260,6990519,1,6990521,6990519,13981041,6990519,20971561,1,20971563,3495262,3495260,3495260,2,6990519,6990519,13981038,3495261,3495261,13981040,13981040,13981041,13981041,13981041,27962081,27962081,27962082,27962081,27962084,13981043,13981043,13981043,3495262,3495262,3,13981046,17476305,17476307,17476305,13981046,17476307,17476305,17476305,20971566,34952614,34952614,41943134,41943132,41943136,13981038,20971558,6990522,6990522,3495262,3495262,3495262,6990524,6990524,3495265,10485786,10485788,10485786,3495265,10485788,10485786,10485786,10485788,20971576,20971576,27962096,20971576,27962098]
def qB_D0 : List Atm := [(0,0),(0,0)]
def qB_D1 : List Atm := [(0,0),(0,0),(0,1),(0,1)]
def qB_D2 : List Atm := [(0,0),(0,0),(0,1),(0,1),(0,2),(0,2)]
def qB_D3 : List Atm := [(0,3),(0,3),(0,4),(0,4)]
def EG : List Atm := [(1,22),(1,22)]
def qB_D5 : List Atm := [(0,4),(1,22)]
def qB_D6 : List Atm := [(0,3),(1,22)]
def qB_D7 : List Atm := [(0,3),(0,3),(0,4),(0,4),(1,22),(1,22)]
def qB_D8 : List Atm := [(0,0),(1,12)]
def qB_D9 : List Atm := [(0,1),(1,12)]
def qB_D10 : List Atm := [(0,1),(0,2),(1,12)]
def qB_D11 : List Atm := [(0,0),(0,2),(1,12)]
def Lk : List Atm := [(0,0),(0,1),(1,12)]
def qB_D13 : List Atm := [(0,0),(0,0),(0,1),(0,1),(0,2),(0,2),(1,12),(1,12)]
def qB_E : List (Nat × List Atm) := [(3495259,[(0,0)]),(3495259,[(0,1)]),(3495259,[(0,2)]),(6990518,qB_D0),(1,[]),(6990521,qB_D0),(6990518,[(0,1),(0,1)]),(13981041,qB_D1),(6990518,[(0,2),(0,2)]),(20971561,qB_D2),(1,[]),(20971563,qB_D2),(3495262,[(0,2)]),(3495259,[(0,3)]),(3495259,[(0,4)]),(2,[]),(6990518,[(0,3),(0,3)]),(6990518,[(0,4),(0,4)]),(13981038,qB_D3),(3495261,[(0,3)]),(3495261,[(0,4)]),(13981040,qB_D3),(13981040,qB_D3),(13981039,[(1,22)]),(13981039,[(1,22)]),(13981041,[(1,22)]),(27962078,EG),(27962078,EG),(27962082,EG),(27962080,EG),(27962084,EG),(13981043,[(1,22)]),(13981043,[(1,22)]),(13981043,[(1,22)]),(3495262,[(0,3)]),(3495262,[(0,4)]),(3,[]),(13981046,[(1,22)]),(17476305,qB_D5),(17476307,qB_D5),(17476305,qB_D6),(13981046,[(1,22)]),(17476307,qB_D6),(17476305,qB_D5),(17476305,qB_D6),(20971566,[(0,3),(0,4),(1,22)]),(34952614,[(0,4),(0,4),(1,22),(1,22)]),(34952614,[(0,3),(0,3),(1,22),(1,22)]),(41943134,qB_D7),(41943132,qB_D7),(41943136,qB_D7),(13981038,qB_D1),(20971558,qB_D2),(6990519,qB_D8),(6990519,qB_D9),(3495262,[(0,0)]),(3495262,[(0,1)]),(3495262,[(0,2)]),(6990524,qB_D8),(6990524,qB_D9),(3495265,[(0,1)]),(10485786,qB_D10),(10485788,qB_D10),(10485786,qB_D11),(3495265,[(0,0)]),(10485788,qB_D11),(10485786,Lk),(10485786,Lk),(10485788,Lk),(20971576,[(0,1),(0,1),(0,2),(0,2),(1,12),(1,12)]),(20971576,[(0,0),(0,0),(0,2),(0,2),(1,12),(1,12)]),(27962096,qB_D13),(20971576,[(0,0),(0,0),(0,1),(0,1),(1,12),(1,12)]),(27962098,qB_D13)]
theorem qB_wf : wfB 0 qB_N=true := by kernel_rfl
theorem qB_sz : saB qB_E 0 qB_N qB_E qB_Z=true := by kernel_rfl
theorem qB_lt : KZ qB_N qB_L=true := by kernel_rfl
theorem qB_cn : Gb qB_N qB_C=true := by kernel_rfl
theorem qB_c4 : cst 0 0 1=(0 : Rat) := by decide +kernel
theorem qB_c10 : cst 0 1 1=(1 : Rat) := by decide +kernel
theorem qB_c15 : cst 0 2 1=(2 : Rat) := by decide +kernel
def qB_A : List AV := [(false,[(true,[.inr (2,0,0,0,0),.inr (2,1,0,0,0),.inr (2,2,0,0,0)])]),(false,[(true,[.inr (2,3,0,0,0),.inr (2,4,0,0,0)])])]
theorem Ji (x y : Rat) : 0 < x*x+y*y+1 := by
 have a := QJ x
 have b := QJ y
 grind
theorem qB_f1 {z10 z13 z14 z15 z16 z17 z18 z19 z20 z21 z22 z23 z24 z25 z26 z27 z28 z29 z30 : Rat} : z10=1→z15=2→z16=z13*z13→z17=z14*z14→z18=z16+z17→z19=z13*z15→z20=z14*z15→z21=z18-z10→z22=z18+z10→z23=z19/z22→z24=z20/z22→z25=z21/z22→z26=z23*z23→z27=z24*z24→z28=z25*z25→z29=z26+z27→z30=z29+z28→z30=z10 := by
 intro e10 e15 e16 e17 e18 e19 e20 e21 e22 e23 e24 e25 e26 e27 e28 e29 e30
 have n22 : z22 ≠ 0 := by (have hp := Ji z13 z14); grind
 have d23 : z23*z22=z19 := by rw [e23]; exact Rat.div_mul_cancel n22
 clear e23
 have d24 : z24*z22=z20 := by rw [e24]; exact Rat.div_mul_cancel n22
 clear e24
 have d25 : z25*z22=z21 := by rw [e25]; exact Rat.div_mul_cancel n22
 clear e25
 subst_vars; grind
theorem qB_f2 {z10 z13 z14 z16 z17 z18 z21 z22 z25 : Rat} : z10=1→z16=z13*z13→z17=z14*z14→z18=z16+z17→z21=z18-z10→z22=z18+z10→z25=z21/z22→¬ (z25=z10) := by
 intro e10 e16 e17 e18 e21 e22 e25
 have n22 : z22 ≠ 0 := by (have hp := Ji z13 z14); grind
 have d25 : z25*z22=z21 := by rw [e25]; exact Rat.div_mul_cancel n22
 clear e25
 subst_vars; grind
theorem qB_f3 {z4 z10 z13 z14 z15 z16 z17 z18 z20 z21 z22 z24 z25 z32 z33 z35 z36 z37 z38 z39 : Rat} : z4=0→z10=1→z15=2→z16=z13*z13→z17=z14*z14→z18=z16+z17→z20=z14*z15→z21=z18-z10→z22=z18+z10→z24=z20/z22→z25=z21/z22→z32=z24-z4→z33=z25-z10→z35=z14-z4→z36=z4-z10→z37=z32*z36→z38=z33*z35→z39=z37-z38→z39=0 := by
 intro e4 e10 e15 e16 e17 e18 e20 e21 e22 e24 e25 e32 e33 e35 e36 e37 e38 e39
 have n22 : z22 ≠ 0 := by (have hp := Ji z13 z14); grind
 have d24 : z24*z22=z20 := by rw [e24]; exact Rat.div_mul_cancel n22
 clear e24
 have d25 : z25*z22=z21 := by rw [e25]; exact Rat.div_mul_cancel n22
 clear e25
 subst_vars; grind
theorem qB_f4 {z4 z10 z13 z14 z15 z16 z17 z18 z19 z21 z22 z23 z25 z31 z33 z34 z36 z40 z41 z42 : Rat} : z4=0→z10=1→z15=2→z16=z13*z13→z17=z14*z14→z18=z16+z17→z19=z13*z15→z21=z18-z10→z22=z18+z10→z23=z19/z22→z25=z21/z22→z31=z23-z4→z33=z25-z10→z34=z13-z4→z36=z4-z10→z40=z33*z34→z41=z31*z36→z42=z40-z41→z42=0 := by
 intro e4 e10 e15 e16 e17 e18 e19 e21 e22 e23 e25 e31 e33 e34 e36 e40 e41 e42
 have n22 : z22 ≠ 0 := by (have hp := Ji z13 z14); grind
 have d23 : z23*z22=z19 := by rw [e23]; exact Rat.div_mul_cancel n22
 clear e23
 have d25 : z25*z22=z21 := by rw [e25]; exact Rat.div_mul_cancel n22
 clear e25
 subst_vars; grind
theorem qB_f5 {z4 z10 z13 z14 z15 z16 z17 z18 z19 z20 z22 z23 z24 z31 z32 z34 z35 z43 z44 z45 : Rat} : z4=0→z10=1→z15=2→z16=z13*z13→z17=z14*z14→z18=z16+z17→z19=z13*z15→z20=z14*z15→z22=z18+z10→z23=z19/z22→z24=z20/z22→z31=z23-z4→z32=z24-z4→z34=z13-z4→z35=z14-z4→z43=z31*z35→z44=z32*z34→z45=z43-z44→z45=0 := by
 intro e4 e10 e15 e16 e17 e18 e19 e20 e22 e23 e24 e31 e32 e34 e35 e43 e44 e45
 have n22 : z22 ≠ 0 := by (have hp := Ji z13 z14); grind
 have d23 : z23*z22=z19 := by rw [e23]; exact Rat.div_mul_cancel n22
 clear e23
 have d24 : z24*z22=z20 := by rw [e24]; exact Rat.div_mul_cancel n22
 clear e24
 subst_vars; grind
theorem qB_f6 {z0 z1 z2 z3 z4 z5 z6 z7 z8 z9 z10 z11 z51 z52 : Rat} : z3=z0*z0→z4=0→z5=z4+z3→z6=z1*z1→z7=z5+z6→z8=z2*z2→z9=z7+z8→z10=1→z11=z9-z10→z51=z3+z6→z52=z51+z8→(z11=0)→z52=z10 := by
 intro e3 e4 e5 e6 e7 e8 e9 e10 e11 e51 e52 u0
 rw [u0] at e11
 subst_vars; grind
theorem qB_f7 {z2 z10 z12 : Rat} : z10=1→z12=z10-z2→(z12=0)→z2=z10 := by
 intro e10 e12 u1
 rw [u1] at e12
 subst_vars; grind
theorem qB_f8 {z2 z10 z12 z13 z14 z15 z16 z17 z18 z19 z20 z21 z22 z23 z24 z25 z26 z27 z28 z29 z30 : Rat} : z10=1→z12=z10-z2→z15=2→z16=z13*z13→z17=z14*z14→z18=z16+z17→z19=z13*z15→z20=z14*z15→z21=z18-z10→z22=z18+z10→z23=z19/z22→z24=z20/z22→z25=z21/z22→z26=z23*z23→z27=z24*z24→z28=z25*z25→z29=z26+z27→z30=z29+z28→(¬ (z12=0))→z30=z10 := by
 intro e10 e12 e15 e16 e17 e18 e19 e20 e21 e22 e23 e24 e25 e26 e27 e28 e29 e30 u1
 have n22 : z22 ≠ 0 := by (have hp := Ji z13 z14); grind
 have d23 : z23*z22=z19 := by rw [e23]; exact Rat.div_mul_cancel n22
 clear e23
 have d24 : z24*z22=z20 := by rw [e24]; exact Rat.div_mul_cancel n22
 clear e24
 have d25 : z25*z22=z21 := by rw [e25]; exact Rat.div_mul_cancel n22
 clear e25
 subst_vars; grind
theorem qB_f9 {z2 z10 z12 z13 z14 z16 z17 z18 z21 z22 z25 : Rat} : z10=1→z12=z10-z2→z16=z13*z13→z17=z14*z14→z18=z16+z17→z21=z18-z10→z22=z18+z10→z25=z21/z22→(¬ (z12=0))→¬ (z25=z10) := by
 intro e10 e12 e16 e17 e18 e21 e22 e25 u1
 have n22 : z22 ≠ 0 := by (have hp := Ji z13 z14); grind
 have d25 : z25*z22=z21 := by rw [e25]; exact Rat.div_mul_cancel n22
 clear e25
 subst_vars; grind
theorem qB_f10 {z2 z4 z10 z12 z13 z14 z15 z16 z17 z18 z20 z21 z22 z24 z25 z32 z33 z35 z36 z37 z38 z39 : Rat} : z4=0→z10=1→z12=z10-z2→z15=2→z16=z13*z13→z17=z14*z14→z18=z16+z17→z20=z14*z15→z21=z18-z10→z22=z18+z10→z24=z20/z22→z25=z21/z22→z32=z24-z4→z33=z25-z10→z35=z14-z4→z36=z4-z10→z37=z32*z36→z38=z33*z35→z39=z37-z38→(¬ (z12=0))→z39=0 := by
 intro e4 e10 e12 e15 e16 e17 e18 e20 e21 e22 e24 e25 e32 e33 e35 e36 e37 e38 e39 u1
 have n22 : z22 ≠ 0 := by (have hp := Ji z13 z14); grind
 have d24 : z24*z22=z20 := by rw [e24]; exact Rat.div_mul_cancel n22
 clear e24
 have d25 : z25*z22=z21 := by rw [e25]; exact Rat.div_mul_cancel n22
 clear e25
 subst_vars; grind
theorem qB_f11 {z2 z4 z10 z12 z13 z14 z15 z16 z17 z18 z19 z21 z22 z23 z25 z31 z33 z34 z36 z40 z41 z42 : Rat} : z4=0→z10=1→z12=z10-z2→z15=2→z16=z13*z13→z17=z14*z14→z18=z16+z17→z19=z13*z15→z21=z18-z10→z22=z18+z10→z23=z19/z22→z25=z21/z22→z31=z23-z4→z33=z25-z10→z34=z13-z4→z36=z4-z10→z40=z33*z34→z41=z31*z36→z42=z40-z41→(¬ (z12=0))→z42=0 := by
 intro e4 e10 e12 e15 e16 e17 e18 e19 e21 e22 e23 e25 e31 e33 e34 e36 e40 e41 e42 u1
 have n22 : z22 ≠ 0 := by (have hp := Ji z13 z14); grind
 have d23 : z23*z22=z19 := by rw [e23]; exact Rat.div_mul_cancel n22
 clear e23
 have d25 : z25*z22=z21 := by rw [e25]; exact Rat.div_mul_cancel n22
 clear e25
 subst_vars; grind
theorem qB_f12 {z2 z4 z10 z12 z13 z14 z15 z16 z17 z18 z19 z20 z22 z23 z24 z31 z32 z34 z35 z43 z44 z45 : Rat} : z4=0→z10=1→z12=z10-z2→z15=2→z16=z13*z13→z17=z14*z14→z18=z16+z17→z19=z13*z15→z20=z14*z15→z22=z18+z10→z23=z19/z22→z24=z20/z22→z31=z23-z4→z32=z24-z4→z34=z13-z4→z35=z14-z4→z43=z31*z35→z44=z32*z34→z45=z43-z44→(¬ (z12=0))→z45=0 := by
 intro e4 e10 e12 e15 e16 e17 e18 e19 e20 e22 e23 e24 e31 e32 e34 e35 e43 e44 e45 u1
 have n22 : z22 ≠ 0 := by (have hp := Ji z13 z14); grind
 have d23 : z23*z22=z19 := by rw [e23]; exact Rat.div_mul_cancel n22
 clear e23
 have d24 : z24*z22=z20 := by rw [e24]; exact Rat.div_mul_cancel n22
 clear e24
 subst_vars; grind
theorem qB_f13 {z0 z1 z2 z3 z4 z5 z6 z7 z8 z9 z10 z11 z12 z51 z52 : Rat} : z3=z0*z0→z4=0→z5=z4+z3→z6=z1*z1→z7=z5+z6→z8=z2*z2→z9=z7+z8→z10=1→z11=z9-z10→z12=z10-z2→z51=z3+z6→z52=z51+z8→(z11=0)→(¬ (z12=0))→z52=z10 := by
 intro e3 e4 e5 e6 e7 e8 e9 e10 e11 e12 e51 e52 u0 u1
 rw [u0] at e11
 subst_vars; grind
theorem qB_f14 {z2 z10 z12 : Rat} : z10=1→z12=z10-z2→(¬ (z12=0))→¬ (z2=z10) := by
 intro e10 e12 u1
 subst_vars; grind
theorem qB_f15 {z1 z2 z4 z10 z12 z36 z54 z56 z57 z59 z60 z61 z62 : Rat} : z4=0→z10=1→z12=z10-z2→z36=z4-z10→z54=z1/z12→z56=z1-z4→z57=z2-z10→z59=z54-z4→z60=z56*z36→z61=z57*z59→z62=z60-z61→(¬ (z12=0))→z62=0 := by
 intro e4 e10 e12 e36 e54 e56 e57 e59 e60 e61 e62 u1
 have n12 : z12 ≠ 0 := by grind
 have d54 : z54*z12=z1 := by rw [e54]; exact Rat.div_mul_cancel n12
 clear e54
 subst_vars; grind
theorem qB_f16 {z0 z2 z4 z10 z12 z36 z53 z55 z57 z58 z63 z64 z65 : Rat} : z4=0→z10=1→z12=z10-z2→z36=z4-z10→z53=z0/z12→z55=z0-z4→z57=z2-z10→z58=z53-z4→z63=z57*z58→z64=z55*z36→z65=z63-z64→(¬ (z12=0))→z65=0 := by
 intro e4 e10 e12 e36 e53 e55 e57 e58 e63 e64 e65 u1
 have n12 : z12 ≠ 0 := by grind
 have d53 : z53*z12=z0 := by rw [e53]; exact Rat.div_mul_cancel n12
 clear e53
 subst_vars; grind
theorem qB_f17 {z0 z1 z2 z4 z10 z12 z53 z54 z55 z56 z58 z59 z66 z67 z68 : Rat} : z4=0→z10=1→z12=z10-z2→z53=z0/z12→z54=z1/z12→z55=z0-z4→z56=z1-z4→z58=z53-z4→z59=z54-z4→z66=z55*z59→z67=z56*z58→z68=z66-z67→(¬ (z12=0))→z68=0 := by
 intro e4 e10 e12 e53 e54 e55 e56 e58 e59 e66 e67 e68 u1
 have n12 : z12 ≠ 0 := by grind
 have d53 : z53*z12=z0 := by rw [e53]; exact Rat.div_mul_cancel n12
 clear e53
 have d54 : z54*z12=z1 := by rw [e54]; exact Rat.div_mul_cancel n12
 clear e54
 subst_vars; grind
theorem qB_f18 {z0 z1 z2 z3 z4 z5 z6 z7 z8 z9 z10 z11 z13 z14 z15 z16 z17 z18 z19 z20 z21 z22 z23 z24 z25 z26 z27 z28 z29 z30 : Rat} : z3=z0*z0→z4=0→z5=z4+z3→z6=z1*z1→z7=z5+z6→z8=z2*z2→z9=z7+z8→z10=1→z11=z9-z10→z15=2→z16=z13*z13→z17=z14*z14→z18=z16+z17→z19=z13*z15→z20=z14*z15→z21=z18-z10→z22=z18+z10→z23=z19/z22→z24=z20/z22→z25=z21/z22→z26=z23*z23→z27=z24*z24→z28=z25*z25→z29=z26+z27→z30=z29+z28→(¬ (z11=0))→z30=z10 := by
 intro e3 e4 e5 e6 e7 e8 e9 e10 e11 e15 e16 e17 e18 e19 e20 e21 e22 e23 e24 e25 e26 e27 e28 e29 e30 u0
 have n22 : z22 ≠ 0 := by (have hp := Ji z13 z14); grind
 have d23 : z23*z22=z19 := by rw [e23]; exact Rat.div_mul_cancel n22
 clear e23
 have d24 : z24*z22=z20 := by rw [e24]; exact Rat.div_mul_cancel n22
 clear e24
 have d25 : z25*z22=z21 := by rw [e25]; exact Rat.div_mul_cancel n22
 clear e25
 subst_vars; grind
theorem qB_f19 {z0 z1 z2 z3 z4 z5 z6 z7 z8 z9 z10 z11 z13 z14 z16 z17 z18 z21 z22 z25 : Rat} : z3=z0*z0→z4=0→z5=z4+z3→z6=z1*z1→z7=z5+z6→z8=z2*z2→z9=z7+z8→z10=1→z11=z9-z10→z16=z13*z13→z17=z14*z14→z18=z16+z17→z21=z18-z10→z22=z18+z10→z25=z21/z22→(¬ (z11=0))→¬ (z25=z10) := by
 intro e3 e4 e5 e6 e7 e8 e9 e10 e11 e16 e17 e18 e21 e22 e25 u0
 have n22 : z22 ≠ 0 := by (have hp := Ji z13 z14); grind
 have d25 : z25*z22=z21 := by rw [e25]; exact Rat.div_mul_cancel n22
 clear e25
 subst_vars; grind
theorem qB_f20 {z0 z1 z2 z3 z4 z5 z6 z7 z8 z9 z10 z11 z13 z14 z15 z16 z17 z18 z20 z21 z22 z24 z25 z32 z33 z35 z36 z37 z38 z39 : Rat} : z3=z0*z0→z4=0→z5=z4+z3→z6=z1*z1→z7=z5+z6→z8=z2*z2→z9=z7+z8→z10=1→z11=z9-z10→z15=2→z16=z13*z13→z17=z14*z14→z18=z16+z17→z20=z14*z15→z21=z18-z10→z22=z18+z10→z24=z20/z22→z25=z21/z22→z32=z24-z4→z33=z25-z10→z35=z14-z4→z36=z4-z10→z37=z32*z36→z38=z33*z35→z39=z37-z38→(¬ (z11=0))→z39=0 := by
 intro e3 e4 e5 e6 e7 e8 e9 e10 e11 e15 e16 e17 e18 e20 e21 e22 e24 e25 e32 e33 e35 e36 e37 e38 e39 u0
 have n22 : z22 ≠ 0 := by (have hp := Ji z13 z14); grind
 have d24 : z24*z22=z20 := by rw [e24]; exact Rat.div_mul_cancel n22
 clear e24
 have d25 : z25*z22=z21 := by rw [e25]; exact Rat.div_mul_cancel n22
 clear e25
 subst_vars; grind
theorem qB_f21 {z0 z1 z2 z3 z4 z5 z6 z7 z8 z9 z10 z11 z13 z14 z15 z16 z17 z18 z19 z21 z22 z23 z25 z31 z33 z34 z36 z40 z41 z42 : Rat} : z3=z0*z0→z4=0→z5=z4+z3→z6=z1*z1→z7=z5+z6→z8=z2*z2→z9=z7+z8→z10=1→z11=z9-z10→z15=2→z16=z13*z13→z17=z14*z14→z18=z16+z17→z19=z13*z15→z21=z18-z10→z22=z18+z10→z23=z19/z22→z25=z21/z22→z31=z23-z4→z33=z25-z10→z34=z13-z4→z36=z4-z10→z40=z33*z34→z41=z31*z36→z42=z40-z41→(¬ (z11=0))→z42=0 := by
 intro e3 e4 e5 e6 e7 e8 e9 e10 e11 e15 e16 e17 e18 e19 e21 e22 e23 e25 e31 e33 e34 e36 e40 e41 e42 u0
 have n22 : z22 ≠ 0 := by (have hp := Ji z13 z14); grind
 have d23 : z23*z22=z19 := by rw [e23]; exact Rat.div_mul_cancel n22
 clear e23
 have d25 : z25*z22=z21 := by rw [e25]; exact Rat.div_mul_cancel n22
 clear e25
 subst_vars; grind
theorem qB_f22 {z0 z1 z2 z3 z4 z5 z6 z7 z8 z9 z10 z11 z13 z14 z15 z16 z17 z18 z19 z20 z22 z23 z24 z31 z32 z34 z35 z43 z44 z45 : Rat} : z3=z0*z0→z4=0→z5=z4+z3→z6=z1*z1→z7=z5+z6→z8=z2*z2→z9=z7+z8→z10=1→z11=z9-z10→z15=2→z16=z13*z13→z17=z14*z14→z18=z16+z17→z19=z13*z15→z20=z14*z15→z22=z18+z10→z23=z19/z22→z24=z20/z22→z31=z23-z4→z32=z24-z4→z34=z13-z4→z35=z14-z4→z43=z31*z35→z44=z32*z34→z45=z43-z44→(¬ (z11=0))→z45=0 := by
 intro e3 e4 e5 e6 e7 e8 e9 e10 e11 e15 e16 e17 e18 e19 e20 e22 e23 e24 e31 e32 e34 e35 e43 e44 e45 u0
 have n22 : z22 ≠ 0 := by (have hp := Ji z13 z14); grind
 have d23 : z23*z22=z19 := by rw [e23]; exact Rat.div_mul_cancel n22
 clear e23
 have d24 : z24*z22=z20 := by rw [e24]; exact Rat.div_mul_cancel n22
 clear e24
 subst_vars; grind
theorem qB_f23 {z0 z1 z2 z3 z4 z5 z6 z7 z8 z9 z10 z11 z51 z52 : Rat} : z3=z0*z0→z4=0→z5=z4+z3→z6=z1*z1→z7=z5+z6→z8=z2*z2→z9=z7+z8→z10=1→z11=z9-z10→z51=z3+z6→z52=z51+z8→(¬ (z11=0))→¬ (z52=z10) := by
 intro e3 e4 e5 e6 e7 e8 e9 e10 e11 e51 e52 u0
 subst_vars; grind
theorem qB_r0 : (ZC (sx Tryz.prog qB_N [(0,11,0,1),(0,12,0,1),(3,30,10,1),(3,25,10,0),(0,50,0,1),(3,52,10,1),(3,2,10,1)] [] qB_L qB_C qB_Z (prC [11])) [(37,66),(17,65)] 6 [] 3 qB_A [] 0).map (·.1)=some (kB true) := by kernel_rfl
theorem qB_r1 : (ZC (sx Tryz.prog qB_N [(0,11,0,1),(0,12,0,0),(3,30,10,1),(3,25,10,0),(0,50,0,1),(3,52,10,1),(3,2,10,0),(0,73,0,1)] [] qB_L qB_C qB_Z (prC [11])) [(37,66),(17,65)] 6 [] 3 qB_A [] 0).map (·.1)=some (kB true) := by kernel_rfl
theorem qB_r2 : (ZC (sx Tryz.prog qB_N [(0,11,0,0),(3,30,10,1),(3,25,10,0),(0,50,0,1),(3,52,10,0)] [] qB_L qB_C qB_Z (prC [11])) [(37,66),(17,65)] 6 [] 3 qB_A [] 0).map (·.1)=some (kB true) := by kernel_rfl
theorem Vy {a b : Prop} (x : a) (y : b) : a∧b := ⟨x,y⟩
theorem MB {H : List (Nat × Nat × Nat × Nat)} {K : List (FuncId × List AC)} {k : Nat} {q : Nat→Rat} {σ : Nat→ByteArray} {args : List AV} {vs : List Value} {w : World} (hr : (ZC (sx Tryz.prog qB_N H K qB_L qB_C qB_Z (prC [11])) [(37,66),(17,65)] k [] 3 args [] 0).map (·.1)=some (kB true)) (hσ : ∀ j,(σ j).size≤1048576) (hq : ∀ (a : Nat) nd,qB_N[a]? = some nd→q a=Zr σ q nd) (h0 : ∀ a,qB_N.length≤a→q a=0) (hH : Xs q H) (hp : Zy w) (hA : ∀ K,A2 (avOn (cOn (evS q σ) K (fun _ => none) w)) args vs) : Calls Tryz.prog 3 vs.toArray w fun e w' => Below w.heap.size w w'∧e=.returned (.bool true) :=
 Vs k (Vt hσ qB_wf qB_sz qB_lt qB_cn hq h0 hH) (by simp [ZK]) (by kernel_rfl) hr hp (hA K)
theorem qB_walk {w : World} {gx gy gz hx hz : ByteArray}  (sgx : gx.size≤1048576) (sgy : gy.size≤1048576) (sgz : gz.size≤1048576) (shx : hx.size≤1048576) (shz : hz.size≤1048576) (tab : Tab w) (mx : MaxL w) :
  Calls Tryz.prog 3 #[.agg #[.string gx,.string gy,.string gz],.agg #[.string hx,.string hz]] w fun e w' => Below w.heap.size w w'∧e=.returned (.bool true) := by
 have hσ : ∀ j,(RY [gx,gy,gz,hx,hz] j).size≤1048576 := IF (by simp [sgx,sgy,sgz,shx,shz])
 obtain ⟨q,hq,h0⟩ := Wo (RY [gx,gy,gz,hx,hz]) qB_N qB_wf
 have hA : ∀ K,A2 (avOn (cOn (evS q (RY [gx,gy,gz,hx,hz])) K (fun _ => none) w)) [(false,[(true,[.inr (2,0,0,0,0),.inr (2,1,0,0,0),.inr (2,2,0,0,0)])]),(false,[(true,[.inr (2,3,0,0,0),.inr (2,4,0,0,0)])])] [.agg #[.string gx,.string gy,.string gz],.agg #[.string hx,.string hz]] := fun K => ⟨⟨⟨[.string gx,.string gy,.string gz],rfl,rfl,rfl,rfl,trivial⟩,trivial⟩,⟨⟨[.string hx,.string hz],rfl,rfl,rfl,trivial⟩,trivial⟩,trivial⟩
 have E3 : q 3=q 0*q 0 := hq 3 _ rfl
 have E4 : q 4=0 := (hq 4 _ rfl).trans qB_c4
 have E5 : q 5=q 4+q 3 := hq 5 _ rfl
 have E6 : q 6=q 1*q 1 := hq 6 _ rfl
 have E7 : q 7=q 5+q 6 := hq 7 _ rfl
 have E8 : q 8=q 2*q 2 := hq 8 _ rfl
 have E9 : q 9=q 7+q 8 := hq 9 _ rfl
 have E10 : q 10=1 := (hq 10 _ rfl).trans qB_c10
 have E11 : q 11=q 9 - q 10 := hq 11 _ rfl
 have E12 : q 12=q 10 - q 2 := hq 12 _ rfl
 have E15 : q 15=2 := (hq 15 _ rfl).trans qB_c15
 have E16 : q 16=q 13*q 13 := hq 16 _ rfl
 have E17 : q 17=q 14*q 14 := hq 17 _ rfl
 have E18 : q 18=q 16+q 17 := hq 18 _ rfl
 have E19 : q 19=q 13*q 15 := hq 19 _ rfl
 have E20 : q 20=q 14*q 15 := hq 20 _ rfl
 have E21 : q 21=q 18 - q 10 := hq 21 _ rfl
 have E22 : q 22=q 18+q 10 := hq 22 _ rfl
 have E23 : q 23=q 19 / q 22 := hq 23 _ rfl
 have E24 : q 24=q 20 / q 22 := hq 24 _ rfl
 have E25 : q 25=q 21 / q 22 := hq 25 _ rfl
 have E26 : q 26=q 23*q 23 := hq 26 _ rfl
 have E27 : q 27=q 24*q 24 := hq 27 _ rfl
 have E28 : q 28=q 25*q 25 := hq 28 _ rfl
 have E29 : q 29=q 26+q 27 := hq 29 _ rfl
 have E30 : q 30=q 29+q 28 := hq 30 _ rfl
 have E31 : q 31=q 23 - q 4 := hq 31 _ rfl
 have E32 : q 32=q 24 - q 4 := hq 32 _ rfl
 have E33 : q 33=q 25 - q 10 := hq 33 _ rfl
 have E34 : q 34=q 13 - q 4 := hq 34 _ rfl
 have E35 : q 35=q 14 - q 4 := hq 35 _ rfl
 have E36 : q 36=q 4 - q 10 := hq 36 _ rfl
 have E37 : q 37=q 32*q 36 := hq 37 _ rfl
 have E38 : q 38=q 33*q 35 := hq 38 _ rfl
 have E39 : q 39=q 37 - q 38 := hq 39 _ rfl
 have E40 : q 40=q 33*q 34 := hq 40 _ rfl
 have E41 : q 41=q 31*q 36 := hq 41 _ rfl
 have E42 : q 42=q 40 - q 41 := hq 42 _ rfl
 have E43 : q 43=q 31*q 35 := hq 43 _ rfl
 have E44 : q 44=q 32*q 34 := hq 44 _ rfl
 have E45 : q 45=q 43 - q 44 := hq 45 _ rfl
 have E51 : q 51=q 3+q 6 := hq 51 _ rfl
 have E52 : q 52=q 51+q 8 := hq 52 _ rfl
 have E53 : q 53=q 0 / q 12 := hq 53 _ rfl
 have E54 : q 54=q 1 / q 12 := hq 54 _ rfl
 have E55 : q 55=q 0 - q 4 := hq 55 _ rfl
 have E56 : q 56=q 1 - q 4 := hq 56 _ rfl
 have E57 : q 57=q 2 - q 10 := hq 57 _ rfl
 have E58 : q 58=q 53 - q 4 := hq 58 _ rfl
 have E59 : q 59=q 54 - q 4 := hq 59 _ rfl
 have E60 : q 60=q 56*q 36 := hq 60 _ rfl
 have E61 : q 61=q 57*q 59 := hq 61 _ rfl
 have E62 : q 62=q 60 - q 61 := hq 62 _ rfl
 have E63 : q 63=q 57*q 58 := hq 63 _ rfl
 have E64 : q 64=q 55*q 36 := hq 64 _ rfl
 have E65 : q 65=q 63 - q 64 := hq 65 _ rfl
 have E66 : q 66=q 55*q 59 := hq 66 _ rfl
 have E67 : q 67=q 56*q 58 := hq 67 _ rfl
 have E68 : q 68=q 66 - q 67 := hq 68 _ rfl
 have Q50 : q 50=0 ↔ ((q 39=0∧q 42=0)∧q 45=0) := (DB (DB (Nk (hq 46 _ rfl)) (hq 47 _ rfl) (hq 48 _ rfl)) (hq 49 _ rfl) (hq 50 _ rfl)).2
 have Q73 : q 73=0 ↔ ((q 62=0∧q 65=0)∧q 68=0) := (DB (DB (Nk (hq 69 _ rfl)) (hq 70 _ rfl) (hq 71 _ rfl)) (hq 72 _ rfl) (hq 73 _ rfl)).2
 by_cases b11 : q 11=0
 ·
  by_cases b12 : q 12=0
  ·
   have a_3_30_10 : q 30=q 10 := qB_f1 E10 E15 E16 E17 E18 E19 E20 E21 E22 E23 E24 E25 E26 E27 E28 E29 E30
   have a_3_25_10 : ¬ (q 25=q 10) := qB_f2 E10 E16 E17 E18 E21 E22 E25
   have b50 : q 50=0 := Q50.2 ⟨⟨qB_f3 E4 E10 E15 E16 E17 E18 E20 E21 E22 E24 E25 E32 E33 E35 E36 E37 E38 E39,qB_f4 E4 E10 E15 E16 E17 E18 E19 E21 E22 E23 E25 E31 E33 E34 E36 E40 E41 E42⟩,qB_f5 E4 E10 E15 E16 E17 E18 E19 E20 E22 E23 E24 E31 E32 E34 E35 E43 E44 E45⟩
   have a_3_52_10 : q 52=q 10 := qB_f6 E3 E4 E5 E6 E7 E8 E9 E10 E11 E51 E52 b11
   have a_3_2_10 : q 2=q 10 := qB_f7 E10 E12 b12
   exact MB qB_r0 hσ hq h0 (Vy (hT b11) (Vy (hT b12) (Vy (hT a_3_30_10) (Vy (hF a_3_25_10) (Vy (hT b50) (Vy (hT a_3_52_10) (Vy (hT a_3_2_10) trivial))))))) ⟨tab,mx⟩ hA
  ·
   have a_3_30_10 : q 30=q 10 := qB_f8 E10 E12 E15 E16 E17 E18 E19 E20 E21 E22 E23 E24 E25 E26 E27 E28 E29 E30 b12
   have a_3_25_10 : ¬ (q 25=q 10) := qB_f9 E10 E12 E16 E17 E18 E21 E22 E25 b12
   have b50 : q 50=0 := Q50.2 ⟨⟨qB_f10 E4 E10 E12 E15 E16 E17 E18 E20 E21 E22 E24 E25 E32 E33 E35 E36 E37 E38 E39 b12,qB_f11 E4 E10 E12 E15 E16 E17 E18 E19 E21 E22 E23 E25 E31 E33 E34 E36 E40 E41 E42 b12⟩,qB_f12 E4 E10 E12 E15 E16 E17 E18 E19 E20 E22 E23 E24 E31 E32 E34 E35 E43 E44 E45 b12⟩
   have a_3_52_10 : q 52=q 10 := qB_f13 E3 E4 E5 E6 E7 E8 E9 E10 E11 E12 E51 E52 b11 b12
   have a_3_2_10 : ¬ (q 2=q 10) := qB_f14 E10 E12 b12
   have b73 : q 73=0 := Q73.2 ⟨⟨qB_f15 E4 E10 E12 E36 E54 E56 E57 E59 E60 E61 E62 b12,qB_f16 E4 E10 E12 E36 E53 E55 E57 E58 E63 E64 E65 b12⟩,qB_f17 E4 E10 E12 E53 E54 E55 E56 E58 E59 E66 E67 E68 b12⟩
   exact MB qB_r1 hσ hq h0 (Vy (hT b11) (Vy (hF b12) (Vy (hT a_3_30_10) (Vy (hF a_3_25_10) (Vy (hT b50) (Vy (hT a_3_52_10) (Vy (hF a_3_2_10) (Vy (hT b73) trivial)))))))) ⟨tab,mx⟩ hA
 ·
  have a_3_30_10 : q 30=q 10 := qB_f18 E3 E4 E5 E6 E7 E8 E9 E10 E11 E15 E16 E17 E18 E19 E20 E21 E22 E23 E24 E25 E26 E27 E28 E29 E30 b11
  have a_3_25_10 : ¬ (q 25=q 10) := qB_f19 E3 E4 E5 E6 E7 E8 E9 E10 E11 E16 E17 E18 E21 E22 E25 b11
  have b50 : q 50=0 := Q50.2 ⟨⟨qB_f20 E3 E4 E5 E6 E7 E8 E9 E10 E11 E15 E16 E17 E18 E20 E21 E22 E24 E25 E32 E33 E35 E36 E37 E38 E39 b11,qB_f21 E3 E4 E5 E6 E7 E8 E9 E10 E11 E15 E16 E17 E18 E19 E21 E22 E23 E25 E31 E33 E34 E36 E40 E41 E42 b11⟩,qB_f22 E3 E4 E5 E6 E7 E8 E9 E10 E11 E15 E16 E17 E18 E19 E20 E22 E23 E24 E31 E32 E34 E35 E43 E44 E45 b11⟩
  have a_3_52_10 : ¬ (q 52=q 10) := qB_f23 E3 E4 E5 E6 E7 E8 E9 E10 E11 E51 E52 b11
  exact MB qB_r2 hσ hq h0 (Vy (hF b11) (Vy (hT a_3_30_10) (Vy (hF a_3_25_10) (Vy (hT b50) (Vy (hF a_3_52_10) trivial))))) ⟨tab,mx⟩ hA
end Go.Proofs.YtmdfngmjoaigjaaGreatDoor
