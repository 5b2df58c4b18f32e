/- Part 13 of the walks and of the mathematics under them: VP VPC VY VSZ VSA VPD VPE CFspaced MQG. -/
import Derived.Test.YthagmklephpnhaaGreatDoorA2
import Derived.Test.YthagmklephpnhaaGreatDoorA12
set_option maxHeartbeats 16000000
set_option maxRecDepth 100000
/- VP -/
namespace Cx
open Go Go.RowKit
abbrev Hs := List (Nat × Nat × Nat × Nat)
def Sx.plus (S : Sx) (X : Hs) : Sx := { S with H := X ++ S.H }
abbrev Ask := Nat × Nat × Nat × Nat
def JK (a : Nat) : Ask := (0,a,0,a)
def Jn (S : Sx) : Ask→Bool
 | (k,a,b,d) => (Nat.beq k 0 && (Nat.beq b 0 && Nat.beq d a)) || (Nat.beq k 3 && (match S.N[d]? with
  | some (op,ar) => Nat.beq op 3 && OB ar [a,b]
  | none => false))
def XP (S : Sx) (a b : Nat) : List Nat→List Nat→Option (List Ask)
 | c :: l,d :: m => (S.nd 4 [a,d]).bind fun x => (S.nd 4 [c,b]).bind fun y => (S.nd 3 [x,y]).bind fun z => (XP S a b l m).map fun r => (3,x,y,z) :: r
 | _,_ => some []
def Vq (S : Sx) : List Nat→List Nat→List Nat→List Nat→Option (List Ask)
 | pl,pm,a :: l,b :: m => (XP S a b pl pm).bind fun r => (Vq S (pl ++ [a]) (pm ++ [b]) l m).map fun t => r ++ t
 | _,_,_,_ => some []
def Wo (S : Sx) : List Nat→List Nat→Option (List Ask)
 | a :: l,b :: m => (S.nd 3 [a,b]).bind fun d => (Wo S l m).map fun r => (3,a,b,d) :: r
 | _,_ => some []
def asks (S : Sx) (h : List HB) (code : Nat) (args : List AV) : Option (List Ask) :=
 match code with
 | 60 => arg1 (fun x => (asA x).bind fun cs => (UO S cs).map fun l => l.map JK) args
 | 61 => arg1 (fun x => (YO h 1 x).bind fun p => (QO (acX 0) p.2).map fun l => l.map JK) args
 | 62 => YN (fun x y => (YO h 1 x).bind fun p => (QO (acX 0) p.2).bind fun l => (YO h 1 y).bind fun p' => (QO (acX 0) p'.2).bind fun m => Vq S [] [] l m) args
 | 63 => arg1 (fun x => (asA x).bind fun cs => (QO ZZ cs).bind fun l => (ON S l).map fun xs => xs.map JK) args
 | 69 => arg1 (fun x => (asA x).bind fun cs => (QO (YZ S) cs).map fun l => l.map JK) args
 | 67 => arg1 (fun x => (asA x).bind fun cs => (QO (YZ S) (cs.take 3)).map fun l => l.map JK) args
 | 65 => arg1 (fun x => (asA x).bind fun cs => (QO (acX 0) cs).map fun l => l.map JK) args
 | 66 => YN (fun x y => (asA x).bind fun cs => (asA y).bind fun ds => (QO (acX 0) cs).bind fun l => (QO (acX 0) ds).bind fun m => Wo S l m) args
 | 64 => arg1 (fun x => (asA x).bind fun cs => (UO S cs).map fun l => (l.take 5).map JK) args
 | 68 => YN (fun x _ => (asA x).bind fun cs => (UO S cs).map fun l => (l.take 5).map JK) args
 | _ => none
def ZK : List Ask→Hs→List Hs
 | [],_ => []
 | (k,a,b,_) :: l,X => ((k,a,b,0) :: X) :: ZK l ((k,a,b,1) :: X)
def YM : List Ask→Hs→Hs
 | [],X => X
 | (k,a,b,_) :: l,X => YM l ((k,a,b,1) :: X)
def Zc (S : Sx) (call : ZG) : ZG := fun f args h nx => S.P.funcs[f]?.bind fun fn => fn.body.bind fun c => ifO (Nat.ble args.length fn.ntmps) ((WU S call fn.ntmps c { tm := Ke 0 args,h := h,nx := nx }).bind fun r =>
   ifO (Nat.ble r.1 1) ((QO (Df S.P r.2) fn.results.toList).map fun xs => (MR xs,r.2.h,r.2.nx)))
abbrev XC := Option (AV × List HB × Nat)
def acZ : AC→Option Nat
 | .inr (k,j,a,x,y) => ifO (Nat.beq k 0 && (Nat.beq j 7 && (Nat.beq x 0 && Nat.beq y 0))) (some a)
 | _ => none
def YY (S : Sx) (v : AV) : AV := match (asC v).bind (acX 4) with
 | some n => (match S.N[n]? with
  | some (_,[a,b]) => (match S.nd 4 [a,b],S.kn 0 a 0 with
   | some m,some r => bif Nat.beq m n && !Nat.beq 1 r then v1 (.inr (0,7,b,0,0)) else v
   | _,_ => v)
  | _ => v)
 | none => v
def Jd (S : Sx) (r : XC) : XC := r.map fun p => (YY S p.1,p.2)
def UG (v : AV) : Option (Bool ⊕ Nat) := match asB v with
 | some b => some (.inl b)
 | none => ((asC v).bind acZ).map .inr
def Ox : Bool ⊕ Nat→AV
 | .inl b => kB b
 | .inr a => v1 (.inr (0,7,a,0,0))
def Vp : Bool ⊕ Nat→Bool ⊕ Nat→Bool
 | .inl b,.inl c => b == c
 | .inr a,.inr b => Nat.beq a b
 | _,_ => false
def Vh (h : List HB) (b : Bool ⊕ Nat) (hi : Nat) : XC→Bool
 | some (v,h',nx') => (match UG v with
  | some c => Vp b c
  | none => false) && (Nat.ble nx' hi && h.all fun x => h'.any fun y => Nat.beq y.1 x.1 && Rf x.2 y.2)
 | none => false
def UF : Nat→List XC→Nat
 | m,[] => m
 | m,some p :: rs => UF (bif Nat.ble m p.2.2 then p.2.2 else m) rs
 | m,none :: rs => UF m rs
def Xe (h : List HB) (nx : Nat) (rs : List XC) : XC :=
 match rs with
 | some p :: _ => (UG p.1).bind fun b => ifO (rs.all (Vh h b (UF nx rs))) (some (Ox b,h,UF nx rs))
 | _ => none
def Yk (S : Sx) (X : Hs) (h : List HB) (c : Nat) (args : List AV) : Option (List Ask × Nat) :=
 (asks (S.plus X) h c args).bind fun l => ifO (l.all (Jn S)) ((sqN S (l.map (·.2.2.2))).bind fun s => ((S.plus X).kn 0 s 0).map fun r => (l,r))
theorem Jp {S : Sx} {X : Hs} {h : List HB} {c : Nat} {args : List AV} {l : List Ask} {r : Nat} (e : Yk S X h c args=some (l,r)) : (∀ a ∈ l,Jn S a=true)∧∃ s,sqN S (l.map (·.2.2.2))=some s∧(S.plus X).kn 0 s 0=some r := by
 unfold Yk at e
 simp only [Option.bind_eq_some_iff,ifO_some,Option.map_eq_some_iff,List.all_eq_true,Prod.mk.injEq] at e
 obtain ⟨l',_,h1,s,h2,r',h3,rfl,rfl⟩ := e
 exact ⟨h1,s,h2,h3⟩
def QR (S : Sx) (cs : List (FuncId × Nat)) : Nat→Hs→ZG
 | 0,_,_,_,_,_ => none
 | n+1,X,f,args,h,nx => match Un f cs with
  | none => Zc (S.plus X) (QR S cs n X) f args h nx
  | some c => match Yk S X h c args with
   | none => Zc (S.plus X) (QR S cs n X) f args h nx
   | some (l,r) => bif Nat.beq 1 r then Zc (S.plus (YM l X)) (QR S cs n (YM l X)) f args h nx
    else Xe h nx ((ZK l X).map fun X' => Jd (S.plus X') (Zc (S.plus X') (QR S cs n X') f args h nx))
section
variable {S : Sx} {E : Ev S.nb} {w0 : World}
theorem XE {call : ZG} (hm : S.P.follows .mixedOrders=true) (N : Knows S E) (hP : Jq S E w0) (hC : QY S E w0 call) : QY S E w0 (Zc S call) := fun f args h nx p hp γ w vs hi hA hb hlt hf => by
 unfold Zc at hp
 simp only [Option.bind_eq_some_iff,ifO_some,Option.map_eq_some_iff,Nat.ble_eq] at hp
 obtain ⟨fn,h1,c,h2,h3,⟨e,s'⟩,h4,h5,xs,h6,rfl⟩ := hp
 dsimp only at h5 h6
 rcases (show e=0 ∨ e=1 by omega) with rfl | rfl
 all_goals
  obtain ⟨_,_,r⟩ := YC hm N hP hC c _ _ _ h4
  refine calls_of_wp h1 h2 (r γ _ w _ ⟨hi,fun t v q => ?_,hb,hlt,?_,rfl⟩ hf fun a' w' γ' hef hs => ?_)
  ·obtain ⟨_,q2⟩ := Ud q
   rw [Nat.sub_zero] at q2
   obtain ⟨u,hu,hv⟩ := hA.get q2
   have hlt : t < vs.length := (List.getElem?_eq_some_iff.1 hu).1
   have : (vs.toArray ++ Array.replicate (fn.ntmps - vs.toArray.size) undef).getD t undef=u := by
    rw [Array.getD_eq_getD_getElem?,Array.getElem?_append_left (by simpa using hlt)]
    simp [hu]
   show avOn _ v ((vs.toArray ++ Array.replicate (fn.ntmps - vs.toArray.size) undef).getD t undef)
   rw [this]
   exact hv
  ·have := hA.len
   simp
   omega
  ·obtain ⟨v,hv,hx⟩ := YH hs h6
   exact ⟨hs.df,v,hv,v,γ',rfl,hef,hx,hs.bx⟩
theorem Ov {v : AV} {b : Bool} (h : asB v=some b) : v=kB b := by
 unfold asB at h
 rw [Option.bind_eq_some_iff] at h
 obtain ⟨c,h1,h2⟩ := h
 unfold asC at h1
 split at h1
 ·cases h1
  unfold acB at h2
  split at h2
  ·cases h2
   rfl
  ·cases h2
 ·cases h1
theorem UI {v : AV} {k : Bool ⊕ Nat} (h : UG v=some k) : v=Ox k := by
 unfold UG at h
 split at h
 ·rename_i b hb
  cases h
  exact Ov hb
 ·rw [Option.map_eq_some_iff] at h
  obtain ⟨a,h,rfl⟩ := h
  rw [Option.bind_eq_some_iff] at h
  obtain ⟨c,h1,h2⟩ := h
  unfold asC at h1
  split at h1
  ·cases h1
   unfold acZ at h2
   split at h2
   ·rw [ifO_some,Bool.and_eq_true,Bool.and_eq_true,Bool.and_eq_true,Nat.beq_eq,Nat.beq_eq,Nat.beq_eq,Nat.beq_eq] at h2
    obtain ⟨⟨rfl,rfl,rfl,rfl⟩,h3⟩ := h2
    cases h3
    rfl
   ·cases h2
  ·cases h1
theorem YV {a b : Bool ⊕ Nat} (h : Vp a b=true) : a=b := by
 unfold Vp at h
 split at h
 ·rename_i x y
  have : x=y := by simpa using h
  rw [this]
 ·rw [Nat.beq_eq] at h
  rw [h]
 ·cases h
theorem Ya (q : Rat) : Js q=0 ↔ q=0 := by
 unfold Js
 split
 ·rename_i hlt
  constructor
  ·intro q; cases q
  ·intro q; rw [q] at hlt; exact absurd hlt (by decide)
 ·split <;> simp_all
theorem Va (N : Knows S E) {γ : Nat→Option Nat} {w : World} {v : AV} {r : Value} (h : avOn (cOn E S.K γ w) v r) : avOn (cOn E S.K γ w) (YY S v) r := by
 unfold YY
 split
 ·rename_i n hn
  rw [Option.bind_eq_some_iff] at hn
  obtain ⟨c,h1,h2⟩ := hn
  split
  ·split
   ·rename_i a b _ _ _ m r' hm hr
    cases e : (Nat.beq m n && !Nat.beq 1 r') with
    | true =>
     rw [Bool.and_eq_true,Nat.beq_eq,Bool.not_eq_true'] at e
     obtain ⟨rfl,e2⟩ := e
     have ez := (N.x4 _ _ _).1 (YG h2 (QU h1 h))
     refine Zn ((N.x7 _ _ _).2 ⟨_,ez,?_⟩)
     have hz : ¬ E.q a=0 := fun q => by rw [(N.k0 a r' hr).2 q] at e2; cases e2
     rw [Ya,N.k7 _ _ _ hm]
     constructor
     ·exact fun q => (Rat.mul_eq_zero.1 q).resolve_left hz
     ·intro q
      rw [q,Rat.mul_zero]
    | false => exact h
   ·exact h
  ·exact h
 ·exact h
theorem Yy {X : Hs} {call : ZG} (N : Knows (S.plus X) E) (hC : QY S E w0 call) : QY S E w0 (fun f args h nx => Jd (S.plus X) (call f args h nx)) := fun f args h nx p hp => by
 replace hp : Jd (S.plus X) (call f args h nx)=some p := hp
 unfold Jd at hp
 rw [Option.map_eq_some_iff] at hp
 obtain ⟨p0,hp0,rfl⟩ := hp
 intro γ w vs hi hA hb hlt hf
 refine (hC f args h nx p0 hp0 γ w vs hi hA hb hlt hf).mono ?_
 rintro _ w' ⟨r',γ',rfl,hef,hv,hx⟩
 exact ⟨r',γ',rfl,hef,Va (S := S.plus X) N hv,hx⟩
theorem Ju {h : List HB} {b : Bool ⊕ Nat} {hi : Nat} {r : XC} (hr : Vh h b hi r=true) : ∃ h' nx',r=some (Ox b,h',nx')∧nx'≤hi∧∀ x ∈ h,x ∈ h' := by
 unfold Vh at hr
 split at hr
 ·rename_i v h' nx'
  rw [Bool.and_eq_true,Bool.and_eq_true,Nat.ble_eq,List.all_eq_true] at hr
  obtain ⟨h1,h2,h3⟩ := hr
  refine ⟨h',nx',?_,h2,fun x hx => ?_⟩
  ·split at h1
   ·rename_i c hc
    rw [UI hc,YV h1]
   ·cases h1
  ·have := h3 x hx
   rw [List.any_eq_true] at this
   obtain ⟨y,hy,e⟩ := this
   rw [Bool.and_eq_true,Nat.beq_eq] at e
   have : x=y := Prod.ext e.1.symm (Yx e.2)
   rw [this]
   exact hy
 ·cases hr
variable {T : Hs→Prop} {z : Nat→Prop}
def Zu (S : Sx) (T : Hs→Prop) (z : Nat→Prop) : Prop := ∀ X,T X→∀ a,Jn S a=true→(z a.2.2.2→T ((a.1,a.2.1,a.2.2.1,1) :: X))∧(¬ z a.2.2.2→T ((a.1,a.2.1,a.2.2.1,0) :: X))
theorem ZE (hk : Zu S T z) : ∀ {l : List Ask} {X : Hs},T X→(∀ a ∈ l,Jn S a=true)→(∀ a ∈ l,z a.2.2.2)→T (YM l X)
 | [],_,h,_,_ => h
 | (k,a,b,d) :: l,X,h,ho,hz => ZE (l := l) hk ((hk X h (k,a,b,d) (ho _ List.mem_cons_self)).1 (hz _ List.mem_cons_self)) (fun a ha => ho a (List.mem_cons_of_mem _ ha)) (fun a ha => hz a (List.mem_cons_of_mem _ ha))
theorem Zm (hk : Zu S T z) : ∀ {l : List Ask} {X : Hs},T X→(∀ a ∈ l,Jn S a=true)→(∃ a ∈ l,¬ z a.2.2.2)→∃ X' ∈ ZK l X,T X'
 | [],_,_,_,⟨_,h,_⟩ => by cases h
 | (k,a,b,d) :: l,X,h,ho,hz => by
  by_cases e : z d
  ·obtain ⟨X',h1,h2⟩ := Zm (l := l) hk ((hk X h (k,a,b,d) (ho _ List.mem_cons_self)).1 e) (fun a ha => ho a (List.mem_cons_of_mem _ ha)) (by
    obtain ⟨c,hc,hn⟩ := hz
    rcases List.mem_cons.1 hc with rfl | hc
    ·exact (hn e).elim
    ·exact ⟨c,hc,hn⟩)
   exact ⟨X',List.mem_cons_of_mem _ h1,h2⟩
  ·exact ⟨_,List.mem_cons_self,(hk X h (k,a,b,d) (ho _ List.mem_cons_self)).2 e⟩
theorem JJ {cs : List (FuncId × Nat)} (hm : S.P.follows .mixedOrders=true) (hN : ∀ X,T X→Knows (S.plus X) E) (hP : ∀ X,T X→Jq (S.plus X) E w0) (hk : Zu S T z)
  (hs : ∀ X,T X→∀ l s r,sqN S l=some s→(S.plus X).kn 0 s 0=some r→(Nat.beq 1 r=true→∀ d ∈ l,z d)∧(Nat.beq 1 r=false→∃ d ∈ l,¬ z d)) : ∀ n X,T X→QY S E w0 (QR S cs n X)
 | 0,_,_ => fun _ _ _ _ _ h => by cases h
 | n+1,X,hX => fun f args h nx p hp => by
  have body : ∀ Y,T Y→QY S E w0 (Zc (S.plus Y) (QR S cs n Y)) := fun Y hY => XE (S := S.plus Y) hm (hN Y hY) (hP Y hY) (JJ hm hN hP hk hs n Y hY)
  unfold QR at hp
  split at hp
  ·exact body X hX f args h nx p hp
  ·split at hp
   ·exact body X hX f args h nx p hp
   rename_i l r hk'
   obtain ⟨hl,s,h1,h2⟩ := Jp hk'
   have h3 := hp
   obtain ⟨a1,a0⟩ := hs X hX _ s r h1 h2
   cases e : Nat.beq 1 r with
   | true =>
    rw [e] at h3
    exact body _ (ZE hk hX hl fun a ha => a1 e _ (List.mem_map_of_mem ha)) f args h nx p h3
   | false =>
    rw [e] at h3
    obtain ⟨d,hd,hz⟩ := a0 e
    obtain ⟨a,ha,rfl⟩ := List.mem_map.1 hd
    obtain ⟨X',m1,m2⟩ := Zm hk hX hl ⟨a,ha,hz⟩
    replace h3 : Xe h nx ((ZK l X).map fun X' => Jd (S.plus X') (Zc (S.plus X') (QR S cs n X') f args h nx))=some p := h3
    unfold Xe at h3
    split at h3
    ·rename_i p0 rs hrs
     rw [Option.bind_eq_some_iff] at h3
     obtain ⟨b,hb,h4⟩ := h3
     rw [ifO_some,List.all_eq_true] at h4
     obtain ⟨h5,h6⟩ := h4
     cases h6
     obtain ⟨h',nx',q1,q2,q3⟩ := Ju (h5 _ (List.mem_map_of_mem m1))
     intro γ w vs hi hA hb hlt hf
     refine (Yy (hN X' m2) (body X' m2) f args h nx _ q1 γ w vs hi hA hb hlt fun b g1 g2 => hf b g1 (Nat.lt_of_lt_of_le g2 q2)).mono ?_
     rintro _ w' ⟨r',γ',rfl,hef,hv,hx⟩
     exact ⟨r',γ',rfl,hef.wide (Nat.le_refl _) q2,hv,fun x hh => hx x (q3 x hh)⟩
    ·cases h3
end
end Cx
/- VPC -/
namespace Go.Proofs.YthagmklephpnhaaGreatDoor
open Cx Go Go.RowKit
section
variable {N : List Nd} {H : List (Nat × Nat × Nat × Nat)} {K : List (FuncId × List AC)} {L C : List (List Nat × Nat)} {Z : List Nat} {q : Nat→Rat} {σ : Nat→ByteArray} {w0 : World} {cl : List FuncId} {cs pr : List (FuncId × Nat)}
theorem Qm {k a b k' a' b' r' : Nat} {r : Nat} (h : Ji k a b ((k',a',b',r') :: H)=some r) : (k=k'∧a=a'∧b=b'∧r=r') ∨ Ji k a b H=some r := by
 unfold Ji at h
 cases e : (Nat.beq k k' && (Nat.beq a a' && Nat.beq b b')) with
 | true =>
  rw [e] at h
  simp only [Bool.and_eq_true,Nat.beq_eq] at e
  exact Or.inl ⟨e.1,e.2.1,e.2.2,(Option.some.inj h).symm⟩
 | false =>
  rw [e] at h
  exact Or.inr h
theorem Hy.add0 (Y : Hy N H L C Z q σ) {a r : Nat} (h : Nat.beq 1 r=true ↔ q a=0) : Hy N ((0,a,0,r) :: H) L C Z q σ where
 nat := Y.nat
 qs := Y.qs
 zs := Y.zs
 par := Y.par
 lit := Y.lit
 k0 := fun a' r' g => by
  rcases Qm g with ⟨_,e1,_,e2⟩ | g
  ·rw [e1,e2]
   exact h
  ·exact Y.k0 a' r' g
 k1 := fun a' r' g => by
  rcases Qm g with ⟨e,_⟩ | g
  ·cases e
  ·exact Y.k1 a' r' g
 k2 := fun a' r' g => by
  rcases Qm g with ⟨e,_⟩ | g
  ·cases e
  ·exact Y.k2 a' r' g
 k4 := fun l a' b' r' g1 g => by
  rcases Qm g with ⟨e,_⟩ | g
  ·cases e
  ·exact Y.k4 l a' b' r' g1 g
 k3 := fun a' b' r' g => by
  rcases Qm g with ⟨e,_⟩ | g
  ·cases e
  ·exact Y.k3 a' b' r' g
 k6 := fun a' b' r' g => by
  rcases Qm g with ⟨e,_⟩ | g
  ·cases e
  ·exact Y.k6 a' b' r' g
 k5 := fun a' r' g => by
  rcases Qm g with ⟨e,_⟩ | g
  ·cases e
  ·exact Y.k5 a' r' g
theorem Hy.add3 (Y : Hy N H L C Z q σ) {a b r : Nat} (h : Nat.beq 1 r=true ↔ q a=q b) : Hy N ((3,a,b,r) :: H) L C Z q σ where
 nat := Y.nat
 qs := Y.qs
 zs := Y.zs
 par := Y.par
 lit := Y.lit
 k0 := fun a' r' g => by
  rcases Qm g with ⟨e,_⟩ | g
  ·cases e
  ·exact Y.k0 a' r' g
 k1 := fun a' r' g => by
  rcases Qm g with ⟨e,_⟩ | g
  ·cases e
  ·exact Y.k1 a' r' g
 k2 := fun a' r' g => by
  rcases Qm g with ⟨e,_⟩ | g
  ·cases e
  ·exact Y.k2 a' r' g
 k4 := fun l a' b' r' g1 g => by
  rcases Qm g with ⟨e,_⟩ | g
  ·cases e
  ·exact Y.k4 l a' b' r' g1 g
 k3 := fun a' b' r' g => by
  rcases Qm g with ⟨_,e1,e2,e3⟩ | g
  ·rw [e1,e2,e3]
   exact h
  ·exact Y.k3 a' b' r' g
 k6 := fun a' b' r' g => by
  rcases Qm g with ⟨e,_⟩ | g
  ·cases e
  ·exact Y.k6 a' b' r' g
 k5 := fun a' r' g => by
  rcases Qm g with ⟨e,_⟩ | g
  ·cases e
  ·exact Y.k5 a' r' g
theorem XF : Zu (sx Tryz.prog N H K L C Z pr) (fun X => Hy N (X ++ H) L C Z q σ) (fun d => q d=0) := fun X Y a ha => by
 obtain ⟨k,a,b,d⟩ := a
 have t1 : Nat.beq 1 1=true := rfl
 have t0 : Nat.beq 1 0 ≠ true := fun h => by cases h
 unfold Jn at ha
 rw [Bool.or_eq_true] at ha
 rcases ha with ha | ha
 ·simp only [Bool.and_eq_true,Nat.beq_eq] at ha
  obtain ⟨rfl,rfl,rfl⟩ := ha
  exact ⟨fun h => Hy.add0 Y ⟨fun _ => h,fun _ => t1⟩,fun h => Hy.add0 Y ⟨fun g => (t0 g).elim,fun g => (h g).elim⟩⟩
 ·rw [Bool.and_eq_true,Nat.beq_eq] at ha
  obtain ⟨rfl,hb⟩ := ha
  split at hb
  ·rename_i op ar hn
   rw [Bool.and_eq_true,Nat.beq_eq] at hb
   obtain ⟨rfl,hb⟩ := hb
   have e := Vc hb
   subst e
   have hv : q d=q a - q b := Y.nat d _ hn
   have h2 : q d=0 ↔ q a=q b := by
    rw [hv]
    constructor <;> intro h <;> grind
   exact ⟨fun h => Hy.add3 Y ⟨fun _ => h2.1 h,fun _ => t1⟩,fun h => Hy.add3 Y ⟨fun g => (t0 g).elim,fun g => (h (h2.2 g)).elim⟩⟩
  ·cases hb
theorem Ve (y : Rat) : 0≤y*y := by
 by_cases h : y=0
 ·rw [h,Rat.zero_mul]
  exact Rat.le_refl
 ·exact Rat.le_of_lt (OG h)
theorem OK {x y : Rat} (hx : 0≤x) : x+y*y=0 ↔ x=0∧y=0 := by
 constructor
 ·intro h
  have h2 := Ve y
  have h3 : x=0 := by grind
  refine ⟨h3,?_⟩
  have : y*y=0 := by grind
  rcases Rat.mul_eq_zero.1 this with g | g <;> exact g
 ·rintro ⟨rfl,rfl⟩
  grind
theorem XL {H' : List (Nat × Nat × Nat × Nat)} (Y : Hy N H' L C Z q σ) : ∀ {l : List Nat} {s t : Nat},sqF (sx Tryz.prog N H K L C Z pr) s l=some t→0≤q s→0≤q t∧(q t=0 ↔ q s=0∧∀ d ∈ l,q d=0)
 | [],s,t,h,hs => by
  cases h
  exact ⟨hs,fun e => ⟨e,fun d hd => by cases hd⟩,fun e => e.1⟩
 | a :: l,s,t,h,hs => by
  unfold sqF at h
  simp only [Option.bind_eq_some_iff] at h
  obtain ⟨b,h1,c,h2,h3⟩ := h
  have e1 : q b=q a*q a := Hy.nd (H := H') (K := K) (pr := pr) Y h1
  have e2 : q c=q s+q b := Hy.nd (H := H') (K := K) (pr := pr) Y h2
  have n := Ve (q a)
  obtain ⟨g1,g2⟩ := XL Y h3 (by grind)
  refine ⟨g1,g2.trans ?_⟩
  have e3 := OK (y := q a) hs
  rw [e2,e1,e3]
  constructor
  ·rintro ⟨⟨x,y⟩,z⟩
   refine ⟨x,fun d hd => ?_⟩
   rcases List.mem_cons.1 hd with rfl | hd
   ·exact y
   ·exact z d hd
  ·rintro ⟨x,y⟩
   exact ⟨⟨x,y a List.mem_cons_self⟩,fun d hd => y d (List.mem_cons_of_mem _ hd)⟩
theorem Yz {H' : List (Nat × Nat × Nat × Nat)} (Y : Hy N H' L C Z q σ) {l : List Nat} {s : Nat} (h : sqN (sx Tryz.prog N H K L C Z pr) l=some s) : q s=0 ↔ ∀ d ∈ l,q d=0 := by
 unfold sqN at h
 split at h
 ·cases h
 ·rename_i a l
  rw [Option.bind_eq_some_iff] at h
  obtain ⟨b,h1,h2⟩ := h
  have e1 : q b=q a*q a := Hy.nd (H := H') (K := K) (pr := pr) Y h1
  have n := Ve (q a)
  obtain ⟨_,g⟩ := XL Y h2 (by grind)
  rw [g,e1]
  constructor
  ·rintro ⟨x,y⟩ d hd
   rcases List.mem_cons.1 hd with rfl | hd
   ·rcases Rat.mul_eq_zero.1 x with x | x <;> exact x
   ·exact y d hd
  ·intro y
   refine ⟨?_,fun d hd => y d (List.mem_cons_of_mem _ hd)⟩
   rw [y a List.mem_cons_self,Rat.zero_mul]
theorem Yg {f : FuncId} {args : List AV} {vs : List Value} {k : Nat} {p : List HB × Nat} {b : Bool} (Y : Hy N H L C Z q σ) (hm : (Tryz.prog).follows .mixedOrders=true) {w : World} (hP : ∀ H',Hy N H' L C Z q σ→Jq (sx Tryz.prog N H' K L C Z pr) (evS q σ) w) (hr : QR (sx Tryz.prog N H K L C Z pr) cs k [] f args [] 0=some (kB b,p))
  (hA : A2 (avOn (cOn (evS q σ) K (fun _ => none) w)) args vs) : Calls Tryz.prog f vs.toArray w fun e w' => Below w.heap.size w w'∧e=.returned (.bool b) := by
 refine (JJ (S := sx Tryz.prog N H K L C Z pr) (E := evS q σ) (w0 := w) (T := fun X => Hy N (X ++ H) L C Z q σ) (z := fun d => q d=0) hm (fun X hX => TJ hX) (fun X hX => hP _ hX) XF ?_ k [] Y f args [] 0 (kB b,p) hr (fun _ => none) w vs ⟨Below.refl _ _,(fun _ _ h => by cases h)⟩ hA (fun x hx => by cases hx) (fun x hx => by cases hx) (fun _ _ _ => rfl)).mono ?_
 ·intro X hX l s r h1 h2
  have e := hX.k0 s r h2
  have g := Yz hX h1
  refine ⟨fun h => g.1 (e.1 h),fun h => ?_⟩
  have hn : ¬ ∀ d ∈ l,q d=0 := fun q' => by
   rw [e.2 (g.2 q')] at h
   cases h
  simpa using hn
 ·rintro _ w' ⟨r,γ',rfl,hef,hv,_⟩
  exact ⟨hef.wi.bel,by rw [show r=.bool b from (QU (v := kB b) (c := .inl (.bool b)) rfl hv).1]⟩
theorem Yc {f : FuncId} {args : List AV} {vs : List Value} {k : Nat} {p : List HB × Nat} {b : Bool} (Y : Hy N H L C Z q σ) (hc : ∀ f ∈ cl,Closed f) (hm : (Tryz.prog).follows .mixedOrders=true) (hr : QR (sx Tryz.prog N H K L C Z (prC cl)) cs k [] f args [] 0=some (kB b,p)) {w : World} (hp : Zf w)
  (hA : A2 (avOn (cOn (evS q σ) K (fun _ => none) w)) args vs) : Calls Tryz.prog f vs.toArray w fun e w' => Below w.heap.size w w'∧e=.returned (.bool b) := Yg Y hm (fun _ Y' => Ou Y' hp hc) hr hA
theorem XB {f : FuncId} {args : List AV} {vs : List Value} (k : Nat) (Y : Hy N H L C Z q σ) (hc : ∀ f ∈ cl,Closed f) (hm : (Tryz.prog).follows .mixedOrders=true) (hr : (QR (sx Tryz.prog N H K L C Z (prC cl)) cs k [] f args [] 0).map (·.1)=some (kB true)) {w : World} (hp : Zf w)
  (hA : A2 (avOn (cOn (evS q σ) K (fun _ => none) w)) args vs) : Calls Tryz.prog f vs.toArray w fun e w' => Below w.heap.size w w'∧e=.returned (.bool true) := by
 rw [Option.map_eq_some_iff] at hr
 obtain ⟨⟨v,p⟩,h1,h2⟩ := hr
 dsimp only at h2
 subst h2
 exact Yc Y hc hm h1 hp hA
end
end Go.Proofs.YthagmklephpnhaaGreatDoor
/- VY -/
namespace Go.Proofs.YthagmklephpnhaaGreatDoor
open Go.RowKit Cx
theorem UK (t : Rat) : t*(t.den : Rat)=((t.num : Int) : Rat) := by
 conv => lhs; lhs; rw [← Rat.mkRat_self t]
 have h0 : (t.den : Rat) ≠ 0 := fun h => t.den_nz (by exact_mod_cast h)
 rw [Rat.mkRat_eq_div,Rat.div_mul_cancel h0]
theorem whole {q : Rat} (h : q.den=1) : q=((q.num : Int) : Rat) := by
 have := UK q
 rw [h] at this
 rw [← this]
 show q=q*((1 : Nat) : Rat)
 exact (Rat.mul_one q).symm
end Go.Proofs.YthagmklephpnhaaGreatDoor
/- VSZ -/
namespace Go.Proofs.YthagmklephpnhaaGreatDoor
open Go.RowKit Cx
structure QW (z : Nat) (x : Rat) : Prop where
 qs : QS z x
 wh : x.den=1
theorem QW.of {z : Nat} {n : Int} (h : n.natAbs < 2 ^ z) (hz : 0 < z) : QW z ((n : Int) : Rat) :=
 ⟨⟨by simpa using h,by
  show ((n : Int) : Rat).den < 2 ^ z
  rw [Rat.den_intCast]
  exact Nat.one_lt_two_pow (by omega)⟩,Rat.den_intCast n⟩
theorem QW.mono {k l : Nat} {x : Rat} (h : QW k x) (hk : k≤l) : QW l x := ⟨h.qs.mono hk,h.wh⟩
theorem XK {a b x y : Nat} (h1 : a < 2 ^ x) (h2 : b < 2 ^ y) : a+b < 2 ^ (Nat.max x y+1) := by
 have e1 : 2 ^ x≤2 ^ Nat.max x y := Nat.pow_le_pow_right (by decide) (Nat.le_max_left x y)
 have e2 : 2 ^ y≤2 ^ Nat.max x y := Nat.pow_le_pow_right (by decide) (Nat.le_max_right x y)
 rw [Nat.pow_succ]
 omega
theorem QW.add {x y : Nat} {a b : Rat} (h1 : QW x a) (h2 : QW y b) : QW (Nat.max x y+1) (a+b) := by
 rw [whole h1.wh,whole h2.wh,← Rat.intCast_add]
 refine QW.of ?_ (by omega)
 have := XK h1.qs.num h2.qs.num
 omega
theorem QW.sub {x y : Nat} {a b : Rat} (h1 : QW x a) (h2 : QW y b) : QW (Nat.max x y+1) (a - b) := by
 rw [whole h1.wh,whole h2.wh,← Rat.intCast_sub]
 refine QW.of ?_ (by omega)
 have := XK h1.qs.num h2.qs.num
 omega
theorem QW.mul {x y : Nat} {a b : Rat} (h1 : QW x a) (h2 : QW y b) : QW (x+y) (a*b) := by
 refine ⟨h1.qs.mul h2.qs,?_⟩
 rw [whole h1.wh,whole h2.wh,← Rat.intCast_mul]
 exact Rat.den_intCast _
theorem QW.neg {x : Nat} {a : Rat} (h1 : QW x a) : QW x (-a) := ⟨h1.qs.neg,h1.wh⟩
theorem Jo : ∀ n : Nat,10 ^ n≤2 ^ ((10*n+2) / 3)
 | 0 => by decide
 | 1 => by decide
 | 2 => by decide
 | n+3 => by
  have h := Jo n
  have e : (10*(n+3)+2) / 3=(10*n+2) / 3+10 := by omega
  rw [e,Nat.pow_add,Nat.pow_add]
  exact Nat.mul_le_mul h (by decide)
theorem QS.rd3 (l : List UInt8) : QS ((10*l.length+2) / 3+5) (Cx.rd l) := by
 have key : ∀ {m : List UInt8},Jt m=true→dv m < 2 ^ ((10*m.length+2) / 3) := fun {m} h => Nat.lt_of_lt_of_le (Tl (Jx h)) (Jo _)
 unfold Cx.rd
 split
 ·rename_i h
  rw [Bool.and_eq_true] at h
  have h1 := key h.1
  have h2 := key h.2
  have h3 := Kq (Qy l)
  have h4 := IP (Qy l)
  have h5 := WJ l
  apply QS.mkr
  ·rw [Vm]; exact Nat.lt_of_lt_of_le h1 (Nat.pow_le_pow_right (by decide) (by omega))
  ·exact Nat.lt_of_lt_of_le h2 (Nat.pow_le_pow_right (by decide) (by omega))
 ·exact QS.zero.mono (by omega)
section
variable {N : List Nd} {Z : List Nat} {I : List Bool} {q : Nat→Rat}
end
end Go.Proofs.YthagmklephpnhaaGreatDoor
/- VSA -/
namespace Go.Proofs.YthagmklephpnhaaGreatDoor
open Go.RowKit Cx
def inB : Nat := 3495259
abbrev Atm := Nat × Nat
def JQ (x : Atm) : List Atm→Option (List Atm)
 | [] => none
 | y :: l => bif Nat.beq x.1 y.1 && Nat.beq x.2 y.2 then some l else (JQ x l).map (y :: ·)
def QK : List Atm→List Atm→Option (List Atm)
 | l,[] => some l
 | l,x :: r => (JQ x l).bind fun l' => QK l' r
def JP : List Atm→List Atm→List Atm
 | _,[] => []
 | U,x :: D => match JQ x U with
  | some U' => JP U' D
  | none => x :: JP U D
def JN (E : List (Nat × List Atm)) : List Nat→List Atm→List Atm
 | [],U => U
 | a :: l,U => JN E l (match E[a]? with
  | some p => U ++ JP U p.2
  | none => U)
def Te (E : List (Nat × List Atm)) (x : Atm) : Nat := match x.1 with
 | 0 => inB
 | 1 => (match E[x.2]? with
  | some p => p.1
  | none => 1)
 | _ => Nat.log2 x.2+1
def ZN (E : List (Nat × List Atm)) : List Atm→Nat
 | [] => 1
 | x :: l => Te E x+ZN E l
def Jk (l : Option (List Atm)) : Bool := match l with
 | some [] => true
 | _ => false
def saN (E : List (Nat × List Atm)) (k z : Nat) (D : List Atm) (nd : Nd) : Bool := (Nat.blt 0 z && D.all fun x => !Nat.beq x.1 1 || Nat.blt x.2 k) && match nd.1,nd.2 with
 | 0,[_,n,d] => (Nat.blt n (2 ^ z) && Nat.blt 0 d) && Jk (QK D (bif Nat.beq d 1 then [] else [(2,d)]))
 | 1,[j] => Nat.ble inB z && Jk (QK D [(0,j)])
 | 2,[a,b] => (match E[a]?,E[b]? with
  | some p,some r => (match QK D p.2,QK D r.2 with
   | some c,some e => Nat.ble (Nat.max (p.1+ZN E c) (r.1+ZN E e)+1) z
   | _,_ => false)
  | _,_ => false)
 | 3,[a,b] => (match E[a]?,E[b]? with
  | some p,some r => (match QK D p.2,QK D r.2 with
   | some c,some e => Nat.ble (Nat.max (p.1+ZN E c) (r.1+ZN E e)+1) z
   | _,_ => false)
  | _,_ => false)
 | 4,[a,b] => (match E[a]?,E[b]? with
  | some p,some r => (match QK D p.2 with
   | some c => Jk (QK c r.2) && Nat.ble (p.1+r.1) z
   | _ => false)
  | _,_ => false)
 | 5,[a] => (match E[a]? with
  | some p => Jk (QK D p.2) && Nat.ble p.1 z
  | _ => false)
 | 6,[a,b] => (match E[a]?,E[b]?,JQ (1,b) D with
  | some p,some r,some D' => (match QK p.2 D' with
   | some c => (match QK r.2 c with
    | some e => Nat.ble (p.1+ZN E e) z
    | none => false)
   | none => false)
  | _,_,_ => false)
 | 7,_ => Nat.beq D.length 0
 | 8,i :: xs => Nat.beq D.length 0 && (xs.all (fun a => match E[a]? with
   | some p => (QK (JN E xs []) p.2).isSome
   | none => false) && (match xs[i]? with
   | some a => (match E[a]? with
    | some p => (match QK (JN E xs []) p.2 with
     | some e => Nat.ble (p.1+ZN E e) z
     | none => false)
    | none => false)
   | none => false))
 | _,_ => false
def saB (E : List (Nat × List Atm)) : Nat→List Nd→List (Nat × List Atm)→List Nat→Bool
 | _,[],[],[] => true
 | k,nd :: ns,p :: ps,z :: zs => (saN E k p.1 p.2 nd && (Nat.ble p.1 z && (Nat.ble (ZN E p.2) z && Nat.ble z 1000000000000))) && saB E (k+1) ns ps zs
 | _,_,_,_ => false
theorem JA {E : List (Nat × List Atm)} : ∀ {ns : List Nd} {ps : List (Nat × List Atm)} {zs : List Nat} {k i : Nat} {nd : Nd},saB E k ns ps zs=true→ns[i]? = some nd→∃ p z,ps[i]? = some p∧zs[i]? = some z∧saN E (k+i) p.1 p.2 nd=true∧p.1≤z∧ZN E p.2≤z∧z≤1000000000000
 | [],_,_,_,_,_,_,h => by simp at h
 | _ :: _,[],_,_,_,_,h,_ => by cases h
 | _ :: _,_ :: _,[],_,_,_,h,_ => by cases h
 | nd' :: ns,p :: ps,z :: zs,k,0,nd,h,e => by
  have : nd'=nd := by simpa using e
  subst this
  unfold saB at h
  simp only [Bool.and_eq_true,Nat.ble_eq] at h
  exact ⟨p,z,rfl,rfl,h.1.1,h.1.2.1,h.1.2.2.1,h.1.2.2.2⟩
 | nd' :: ns,p :: ps,z :: zs,k,i+1,nd,h,e => by
  unfold saB at h
  rw [Bool.and_eq_true] at h
  obtain ⟨p',z',g1,g2,g3,g4⟩ := JA (k := k+1) (i := i) h.2 (by simpa using e)
  exact ⟨p',z',by simpa using g1,by simpa using g2,by rw [show k+(i+1)=k+1+i by omega]; exact g3,g4⟩
theorem XN {E : List (Nat × List Atm)} : ∀ {ns : List Nd} {ps : List (Nat × List Atm)} {zs : List Nat} {k : Nat},saB E k ns ps zs=true→ns.length=ps.length∧ns.length=zs.length
 | [],[],[],_,_ => ⟨rfl,rfl⟩
 | [],[],_ :: _,_,h => by cases h
 | [],_ :: _,_,_,h => by cases h
 | _ :: _,[],_,_,h => by cases h
 | _ :: _,_ :: _,[],_,h => by cases h
 | _ :: _,_ :: _,_ :: _,k,h => by
  unfold saB at h
  rw [Bool.and_eq_true] at h
  have := XN h.2
  exact ⟨congrArg (· + 1) this.1,congrArg (· + 1) this.2⟩
def ZO (dn : Nat→Nat) (M : Nat→Rat) (x : Atm) : Rat := match x.1 with
 | 0 => ((dn x.2 : Nat) : Rat)
 | 1 => if M x.2=0 then 1 else M x.2
 | _ => if x.2=0 then 1 else ((x.2 : Nat) : Rat)
def Qf (dn : Nat→Nat) (M : Nat→Rat) : List Atm→Rat
 | [] => 1
 | x :: l => ZO dn M x*Qf dn M l
theorem ZP {dn : Nat→Nat} {M : Nat→Rat} {x : Atm} : ∀ {l c : List Atm},JQ x l=some c→Qf dn M l=ZO dn M x*Qf dn M c
 | [],_,h => by cases h
 | y :: l,c,h => by
  unfold JQ at h
  cases e : (Nat.beq x.1 y.1 && Nat.beq x.2 y.2) with
  | true =>
   rw [e] at h
   cases h
   rw [Bool.and_eq_true,Nat.beq_eq,Nat.beq_eq] at e
   have : x=y := Prod.ext e.1 e.2
   rw [this]
   rfl
  | false =>
   rw [e] at h
   simp only [cond_false,Option.map_eq_some_iff] at h
   obtain ⟨c',h1,rfl⟩ := h
   show ZO dn M y*Qf dn M l=ZO dn M x*(ZO dn M y*Qf dn M c')
   rw [ZP h1]
   grind
theorem Qi {dn : Nat→Nat} {M : Nat→Rat} : ∀ {r l c : List Atm},QK l r=some c→Qf dn M l=Qf dn M r*Qf dn M c
 | [],l,c,h => by
  have : l=c := by simpa [QK] using h
  rw [this]
  exact (Rat.one_mul _).symm
 | x :: r,l,c,h => by
  unfold QK at h
  rw [Option.bind_eq_some_iff] at h
  obtain ⟨l',h1,h2⟩ := h
  rw [ZP h1,Qi h2]
  exact (Rat.mul_assoc _ _ _).symm
theorem QX {l : Option (List Atm)} (h : Jk l=true) : l=some [] := by
 unfold Jk at h
 split at h
 ·rfl
 ·cases h
theorem QW.one {z : Nat} (h : 0 < z) : QW z 1 := ⟨⟨by
  show (1 : Int).natAbs < 2 ^ z
  exact Nat.one_lt_two_pow (by omega),by
  show 1 < 2 ^ z
  exact Nat.one_lt_two_pow (by omega)⟩,rfl⟩
theorem QW.zero {z : Nat} (h : 0 < z) : QW z 0 := ⟨⟨by
  show (0 : Int).natAbs < 2 ^ z
  exact Nat.two_pow_pos z,by
  show 1 < 2 ^ z
  exact Nat.one_lt_two_pow (by omega)⟩,rfl⟩
theorem QW.nat {z n : Nat} (h : n < 2 ^ z) (hz : 0 < z) : QW z ((n : Nat) : Rat) := by
 have : ((n : Nat) : Rat)=(((n : Nat) : Int) : Rat) := (Rat.intCast_natCast n).symm
 rw [this]
 exact QW.of (by simpa using h) hz
section
variable {E : List (Nat × List Atm)} {dn : Nat→Nat} {M : Nat→Rat} {k : Nat}
def Vd (E : List (Nat × List Atm)) (dn : Nat→Nat) (M : Nat→Rat) (q : Nat→Rat) (k : Nat) : Prop := ∀ a,a < k→∃ p,E[a]? = some p∧QW p.1 (M a)∧0 < p.1∧(∀ x ∈ p.2,x.1=1→x.2 < a)∧q a*Qf dn M p.2=M a
theorem UH {q : Nat→Rat} (hdn : ∀ j,0 < dn j∧dn j < 2 ^ inB) (hM : Vd E dn M q k) {x : Atm} (hx : x.1=1→x.2 < k) : QW (Te E x) (ZO dn M x)∧ZO dn M x ≠ 0 := by
 obtain ⟨i,j⟩ := x
 match i with
 | 0 =>
  show QW inB ((dn j : Nat) : Rat)∧((dn j : Nat) : Rat) ≠ 0
  refine ⟨QW.nat (hdn j).2 (by unfold inB; omega),fun h => ?_⟩
  have := (hdn j).1
  have h2 : dn j=0 := by exact_mod_cast h
  omega
 | 1 =>
  obtain ⟨p,h1,h2,h3,_⟩ := hM j (hx rfl)
  show QW (match E[j]? with
   | some p => p.1
   | none => 1) (if M j=0 then 1 else M j)∧(if M j=0 then 1 else M j) ≠ 0
  rw [h1]
  by_cases h : M j=0
  ·rw [if_pos h]
   exact ⟨QW.one h3,by decide⟩
  ·rw [if_neg h]
   exact ⟨h2,h⟩
 | i+2 =>
  show QW (Nat.log2 j+1) (if j=0 then 1 else ((j : Nat) : Rat))∧(if j=0 then 1 else ((j : Nat) : Rat)) ≠ 0
  by_cases h : j=0
  ·rw [if_pos h]
   exact ⟨QW.one (by omega),by decide⟩
  ·rw [if_neg h]
   refine ⟨QW.nat Nat.lt_log2_self (by omega),fun h2 => h ?_⟩
   exact_mod_cast h2
theorem JE {q : Nat→Rat} (hdn : ∀ j,0 < dn j∧dn j < 2 ^ inB) (hM : Vd E dn M q k) : ∀ {l : List Atm},(∀ x ∈ l,x.1=1→x.2 < k)→QW (ZN E l) (Qf dn M l)∧Qf dn M l ≠ 0
 | [],_ => ⟨QW.one (show 0 < 1 by decide),by show (1 : Rat) ≠ 0; decide⟩
 | x :: l,h => by
  have h1 := UH hdn hM (h x List.mem_cons_self)
  have h2 := JE hdn hM (l := l) fun y hy => h y (List.mem_cons_of_mem _ hy)
  exact ⟨h1.1.mul h2.1,Zp h1.2 h2.2⟩
theorem ZQ {M' : Nat→Rat} : ∀ {l : List Atm},(∀ x ∈ l,x.1=1→M x.2=M' x.2)→Qf dn M l=Qf dn M' l
 | [],_ => rfl
 | x :: l,h => by
  show ZO dn M x*Qf dn M l=ZO dn M' x*Qf dn M' l
  rw [ZQ (l := l) fun y hy => h y (List.mem_cons_of_mem _ hy)]
  have e : ZO dn M x=ZO dn M' x := by
   obtain ⟨i,j⟩ := x
   match i with
   | 0 => rfl
   | 1 =>
    have := h (1,j) List.mem_cons_self rfl
    show (if M j=0 then 1 else M j)=(if M' j=0 then 1 else M' j)
    rw [this]
   | i+2 => rfl
  rw [e]
theorem JX {x y : Atm} : ∀ {l c : List Atm},JQ x l=some c→y ∈ c→y ∈ l
 | [],_,h,_ => by cases h
 | z :: l,c,h,hy => by
  unfold JQ at h
  cases e : (Nat.beq x.1 z.1 && Nat.beq x.2 z.2) with
  | true => rw [e] at h; cases h; exact List.mem_cons_of_mem _ hy
  | false =>
   rw [e] at h
   simp only [cond_false,Option.map_eq_some_iff] at h
   obtain ⟨c',h1,rfl⟩ := h
   rcases List.mem_cons.1 hy with rfl | hy
   ·exact List.mem_cons_self
   ·exact List.mem_cons_of_mem _ (JX h1 hy)
theorem Qz {y : Atm} : ∀ {r l c : List Atm},QK l r=some c→y ∈ c→y ∈ l
 | [],l,c,h,hy => by
  have : l=c := by simpa [QK] using h
  rw [this]; exact hy
 | x :: r,l,c,h,hy => by
  unfold QK at h
  rw [Option.bind_eq_some_iff] at h
  obtain ⟨l',h1,h2⟩ := h
  exact JX h1 (Qz h2 hy)
theorem Vr {n : Nat} (h : n ≠ 0) : ((n : Nat) : Rat) ≠ 0 := fun e => h (by exact_mod_cast e)
theorem ZJ (x : Rat) : x*((x.den : Nat) : Rat)=((x.num : Int) : Rat) := by
 have e : x=((x.num : Int) : Rat) / ((x.den : Nat) : Rat) := by
  have := Rat.mkRat_self x
  rw [Rat.mkRat_eq_div] at this
  exact this.symm
 conv => lhs; lhs; rw [e]
 exact Rat.div_mul_cancel (Vr x.den_nz)
theorem Yb {qs : List Rat} {m M : Nat} (hm : m ∣ M) (h : ∀ q ∈ qs,q.den ∣ M) : qs.foldl (fun m q => m*(q.den / Nat.gcd m q.den)) m ∣ M := by
 induction qs generalizing m with
 | nil => exact hm
 | cons q qs ih =>
  rw [List.foldl_cons]
  refine ih ?_ fun p hp => h p (List.mem_cons_of_mem _ hp)
  have e : m*(q.den / Nat.gcd m q.den)=Nat.lcm m q.den := by
   unfold Nat.lcm
   exact (Nat.mul_div_assoc _ (Nat.gcd_dvd_right _ _)).symm
  rw [e]
  exact Nat.lcm_dvd hm (h q List.mem_cons_self)
theorem JB {x : Rat} {m : Int} (h : (x*((m : Int) : Rat)).den=1) : x.den ∣ m.natAbs := by
 have e := whole h
 generalize (x*((m : Int) : Rat)).num=n at e
 have h1 : x*((x.den : Nat) : Rat)=((x.num : Int) : Rat) := ZJ x
 have h2 : ((x.num : Int) : Rat)*((m : Int) : Rat)=((n : Int) : Rat)*(((x.den : Nat) : Int) : Rat) := by
  rw [← h1,← e,Rat.intCast_natCast]
  grind
 have h3 : x.num*m=n*(x.den : Int) := by exact_mod_cast h2
 have h4 : (x.den : Int) ∣ x.num*m := ⟨n,by rw [h3,Int.mul_comm]⟩
 have h5 : x.den ∣ x.num.natAbs*m.natAbs := by
  have := Int.natAbs_dvd_natAbs.2 h4
  rwa [Int.natAbs_mul,Int.natAbs_natCast] at this
 exact (Nat.Coprime.symm x.reduced).dvd_of_dvd_mul_left h5
theorem Yj {qs : List Rat} {x : Rat} {z : Nat} {m : Int} (hx : x ∈ qs) (hm : m ≠ 0) (hall : ∀ y ∈ qs,(y*((m : Int) : Rat)).den=1) (hz : QW z (x*((m : Int) : Rat))) : QW z (x*fac qs) := by
 have hl : lD qs ∣ m.natAbs := Yb (Nat.one_dvd _) fun y hy => JB (hall y hy)
 have hd := IX hx
 have hpos : 0 < m.natAbs := Int.natAbs_pos.2 hm
 have hle : lD qs≤m.natAbs := Nat.le_of_dvd hpos hl
 have hn : (x*fac qs).num.natAbs≤(x*((m : Int) : Rat)).num.natAbs := by
  rw [IQ hx]
  have e := whole hz.wh
  generalize (x*((m : Int) : Rat)).num=n at e
  have h1 : x*((x.den : Nat) : Rat)=((x.num : Int) : Rat) := ZJ x
  have h2 : ((x.num : Int) : Rat)*((m : Int) : Rat)=((n : Int) : Rat)*(((x.den : Nat) : Int) : Rat) := by
   rw [← h1,← e,Rat.intCast_natCast]
   grind
  have h3 : x.num*m=n*(x.den : Int) := by exact_mod_cast h2
  have h4 : x.num.natAbs*m.natAbs=n.natAbs*x.den := by
   have := congrArg Int.natAbs h3
   rwa [Int.natAbs_mul,Int.natAbs_mul,Int.natAbs_natCast] at this
  obtain ⟨c,hc⟩ := JB (x := x) (m := m) (hall x hx)
  have h5 : n.natAbs=x.num.natAbs*c := by
   rw [hc] at h4
   refine Nat.eq_of_mul_eq_mul_right x.den_pos ?_
   rw [← h4]
   rw [Nat.mul_assoc,Nat.mul_comm c]
  show x.num.natAbs / gN qs*(lD qs / x.den)≤n.natAbs
  rw [h5]
  refine Nat.mul_le_mul (Nat.div_le_self _ _) ?_
  have : lD qs / x.den≤m.natAbs / x.den := Nat.div_le_div_right hle
  rw [hc,Nat.mul_div_cancel_left _ x.den_pos] at this
  exact this
 refine ⟨⟨Nat.lt_of_le_of_lt hn hz.qs.num,?_⟩,hd⟩
 rw [hd]
 have := hz.qs.den
 rw [hz.wh] at this
 exact this
theorem Zw {y : Atm} : ∀ {D U : List Atm},y ∈ JP U D→y ∈ D
 | [],_,h => by cases h
 | x :: D,U,h => by
  unfold JP at h
  split at h
  ·exact List.mem_cons_of_mem _ (Zw h)
  ·rcases List.mem_cons.1 h with rfl | h
   ·exact List.mem_cons_self
   ·exact List.mem_cons_of_mem _ (Zw h)
theorem JU {q : Nat→Rat} (hM : Vd E dn M q k) : ∀ {l : List Nat} {U : List Atm},(∀ c ∈ l,c < k)→(∀ x ∈ U,x.1=1→x.2 < k)→∀ x ∈ JN E l U,x.1=1→x.2 < k
 | [],_,_,hU => hU
 | a :: l,U,hl,hU => by
  unfold JN
  refine JU hM (fun c hc => hl c (List.mem_cons_of_mem _ hc)) ?_
  have ha := hl a List.mem_cons_self
  obtain ⟨p,h1,_,_,h4,_⟩ := hM a ha
  rw [h1]
  intro x hx h
  rcases List.mem_append.1 hx with hx | hx
  ·exact hU x hx h
  ·exact Nat.lt_trans (h4 x (Zw hx) h) ha
theorem UL {q : Nat→Rat} {σ : Nat→ByteArray} (hσ : ∀ j,(σ j).size≤1048576) (hdn : ∀ j,dn j=(Cx.rd (σ j).data.toList).den) (hM : Vd E dn M q k) {z : Nat} {D : List Atm} {nd : Nd} (hwf : wfN k nd=true) (hs : saN E k z D nd=true) : QW z (Zg σ q nd*Qf dn M D)∧0 < z∧∀ x ∈ D,x.1=1→x.2 < k := by
 have hdn' : ∀ j,0 < dn j∧dn j < 2 ^ inB := fun j => by
  rw [hdn j]
  refine ⟨Rat.den_pos _,Nat.lt_of_lt_of_le (QS.rd3 _).den (Nat.pow_le_pow_right (by decide) ?_)⟩
  have := hσ j
  rw [Qr]
  unfold inB
  omega
 obtain ⟨op,xs⟩ := nd
 unfold saN at hs
 rw [Bool.and_eq_true,Bool.and_eq_true] at hs
 obtain ⟨⟨hz0,hD⟩,hs⟩ := hs
 have hz : 0 < z := by simpa [Nat.blt_eq] using hz0
 have hD' : ∀ x ∈ D,x.1=1→x.2 < k := fun x hx h1 => by
  rw [List.all_eq_true] at hD
  have := hD x hx
  rw [h1] at this
  simpa [Nat.blt_eq] using this
 refine ⟨?_,hz,hD'⟩
 have hlow : ∀ {a : Nat} {p : Nat × List Atm},a < k→E[a]? = some p→QW p.1 (M a)∧(∀ x ∈ p.2,x.1=1→x.2 < k)∧q a*Qf dn M p.2=M a := fun {a p} ha hp => by
  obtain ⟨p',h1,h2,_,h4,h5⟩ := hM a ha
  rw [hp] at h1
  cases h1
  exact ⟨h2,fun x hx h => Nat.lt_trans (h4 x hx h) ha,h5⟩
 have hpr : ∀ {l : List Atm},(∀ x ∈ l,x.1=1→x.2 < k)→QW (ZN E l) (Qf dn M l)∧Qf dn M l ≠ 0 := fun h => JE hdn' hM h
 unfold wfN at hwf
 unfold Zg
 dsimp only at hs hwf ⊢
 split at hs
 ·rename_i s n d
  simp only [Bool.and_eq_true] at hs
  obtain ⟨⟨h1,h2⟩,h3⟩ := hs
  have h1' : n < 2 ^ z := by simpa [Nat.blt_eq] using h1
  have h2' : d ≠ 0 := by
   have : 0 < d := by simpa [Nat.blt_eq] using h2
   omega
  have hp : Qf dn M D=((d : Nat) : Rat) := by
   have := Qi (dn := dn) (M := M) (QX h3)
   rw [this]
   cases e : Nat.beq d 1 with
   | true =>
    rw [Nat.beq_eq] at e
    rw [e]
    show (1 : Rat)*1=((1 : Nat) : Rat)
    rw [Rat.mul_one]
    exact_mod_cast rfl
   | false =>
    show (if d=0 then (1 : Rat) else ((d : Nat) : Rat))*1*1=_
    rw [if_neg h2',Rat.mul_one,Rat.mul_one]
  show QW z ((if s=0 then mkRat (n : Int) d else mkRat (-(n : Int)) d)*Qf dn M D)
  rw [hp]
  have key : ∀ m : Int,m.natAbs < 2 ^ z→QW z (mkRat m d*((d : Nat) : Rat)) := fun m hm => by
   rw [Rat.mkRat_eq_div,Rat.div_mul_cancel (Vr h2')]
   exact QW.of hm hz
  by_cases hs0 : s=0
  ·rw [if_pos hs0]
   exact key _ (by simpa using h1')
  ·rw [if_neg hs0]
   exact key _ (by simpa using h1')
 ·rename_i j
  simp only [Bool.and_eq_true,Nat.ble_eq] at hs
  have hp : Qf dn M D=(((Cx.rd (σ j).data.toList).den : Nat) : Rat) := by
   rw [Qi (dn := dn) (M := M) (QX hs.2)]
   show ((dn j : Nat) : Rat)*1*1=_
   rw [Rat.mul_one,Rat.mul_one,hdn j]
  show QW z (Cx.rd (σ j).data.toList*Qf dn M D)
  rw [hp,ZJ]
  refine QW.of (Nat.lt_of_lt_of_le (QS.rd3 _).num (Nat.pow_le_pow_right (by decide) ?_)) hz
  have := hσ j
  have := hs.1
  unfold inB at this
  rw [Qr]
  omega
 ·simp only [List.all_cons,List.all_nil,Bool.and_true,Bool.and_eq_true] at hwf
  rename_i a b
  have l1 : a < k := by simpa [Nat.blt_eq] using hwf.1
  have l2 : b < k := by simpa [Nat.blt_eq] using hwf.2
  split at hs
  ·rename_i p r hp hr
   split at hs
   ·rename_i c e hc he
    rw [Nat.ble_eq] at hs
    obtain ⟨a1,a2,a3⟩ := hlow l1 hp
    obtain ⟨b1,b2,b3⟩ := hlow l2 hr
    have hc' := hpr (l := c) fun x hx => hD' x (Qz hc hx)
    have he' := hpr (l := e) fun x hx => hD' x (Qz he hx)
    have e1 : (q a+q b)*Qf dn M D=M a*Qf dn M c+M b*Qf dn M e := by
     rw [Rat.add_mul]
     congr 1
     ·rw [Qi hc,← Rat.mul_assoc,a3]
     ·rw [Qi he,← Rat.mul_assoc,b3]
    show QW z ((q a+q b)*Qf dn M D)
    rw [e1]
    exact ((a1.mul hc'.1).add (b1.mul he'.1)).mono hs
   ·cases hs
  ·cases hs
 ·simp only [List.all_cons,List.all_nil,Bool.and_true,Bool.and_eq_true] at hwf
  rename_i a b
  have l1 : a < k := by simpa [Nat.blt_eq] using hwf.1
  have l2 : b < k := by simpa [Nat.blt_eq] using hwf.2
  split at hs
  ·rename_i p r hp hr
   split at hs
   ·rename_i c e hc he
    rw [Nat.ble_eq] at hs
    obtain ⟨a1,a2,a3⟩ := hlow l1 hp
    obtain ⟨b1,b2,b3⟩ := hlow l2 hr
    have hc' := hpr (l := c) fun x hx => hD' x (Qz hc hx)
    have he' := hpr (l := e) fun x hx => hD' x (Qz he hx)
    have e1 : (q a - q b)*Qf dn M D=M a*Qf dn M c - M b*Qf dn M e := by
     rw [show (q a - q b)*Qf dn M D=q a*Qf dn M D - q b*Qf dn M D by grind]
     congr 1
     ·rw [Qi hc,← Rat.mul_assoc,a3]
     ·rw [Qi he,← Rat.mul_assoc,b3]
    show QW z ((q a - q b)*Qf dn M D)
    rw [e1]
    exact ((a1.mul hc'.1).sub (b1.mul he'.1)).mono hs
   ·cases hs
  ·cases hs
 ·simp only [List.all_cons,List.all_nil,Bool.and_true,Bool.and_eq_true] at hwf
  rename_i a b
  have l1 : a < k := by simpa [Nat.blt_eq] using hwf.1
  have l2 : b < k := by simpa [Nat.blt_eq] using hwf.2
  split at hs
  ·rename_i p r hp hr
   split at hs
   ·rename_i c hc
    rw [Bool.and_eq_true,Nat.ble_eq] at hs
    obtain ⟨a1,a2,a3⟩ := hlow l1 hp
    obtain ⟨b1,b2,b3⟩ := hlow l2 hr
    have e1 : q a*q b*Qf dn M D=M a*M b := by
     rw [Qi hc,Qi (QX hs.1),← a3,← b3]
     show q a*q b*(Qf dn M p.2*(Qf dn M r.2*1))=_
     grind
    show QW z (q a*q b*Qf dn M D)
    rw [e1]
    exact (a1.mul b1).mono hs.2
   ·cases hs
  ·cases hs
 ·simp only [List.all_cons,List.all_nil,Bool.and_true] at hwf
  rename_i a
  have l1 : a < k := by simpa [Nat.blt_eq] using hwf
  split at hs
  ·rename_i p hp
   rw [Bool.and_eq_true,Nat.ble_eq] at hs
   obtain ⟨a1,a2,a3⟩ := hlow l1 hp
   have e1 : -q a*Qf dn M D=-M a := by
    rw [Qi (QX hs.1),← a3]
    show -q a*(Qf dn M p.2*1)=_
    grind
   show QW z (-q a*Qf dn M D)
   rw [e1]
   exact a1.neg.mono hs.2
  ·cases hs
 ·simp only [List.all_cons,List.all_nil,Bool.and_true,Bool.and_eq_true] at hwf
  rename_i a b
  have l1 : a < k := by simpa [Nat.blt_eq] using hwf.1
  have l2 : b < k := by simpa [Nat.blt_eq] using hwf.2
  split at hs
  ·rename_i p r D' hp hr hD1
   split at hs
   ·rename_i c hc
    split at hs
    ·rename_i e he
     rw [Nat.ble_eq] at hs
     obtain ⟨a1,a2,a3⟩ := hlow l1 hp
     obtain ⟨b1,b2,b3⟩ := hlow l2 hr
     have he' := hpr (l := e) fun x hx => b2 x (Qz he hx)
     by_cases h0 : M b=0
     ·have hb : q b=0 := by
       rw [h0] at b3
       exact (Rat.mul_eq_zero.1 b3).resolve_right (hpr b2).2
      show QW z (q a / q b*Qf dn M D)
      rw [hb,Rat.div_def,Rat.inv_zero,Rat.mul_zero,Rat.zero_mul]
      exact QW.zero hz
     ·have hb : q b ≠ 0 := fun h => h0 (by rw [← b3,h,Rat.zero_mul])
      have e1 : q a / q b*Qf dn M D=M a*Qf dn M e := by
       have e2 : Qf dn M D=M b*Qf dn M D' := by
        rw [ZP hD1]
        show (if M b=0 then (1 : Rat) else M b)*_=_
        rw [if_neg h0]
       have e3 : q a / q b*q b=q a := Rat.div_mul_cancel hb
       rw [e2,← a3,← b3,Qi hc,Qi he]
       generalize q a / q b=t at e3
       rw [← e3]
       grind
      show QW z (q a / q b*Qf dn M D)
      rw [e1]
      exact (a1.mul he'.1).mono hs
    ·cases hs
   ·cases hs
  ·cases hs
 ·have hD0 : D=[] := by
   rw [Nat.beq_eq] at hs
   exact List.length_eq_zero_iff.1 hs
  rw [hD0]
  have hv : Zg σ q (7,xs)=0 ∨ Zg σ q (7,xs)=1 := by
   unfold Zg
   dsimp only
   split
   all_goals first | (split; exact Or.inl rfl; exact Or.inr rfl) | exact Or.inl rfl | (rename_i h; cases h)
  show QW z (Zg σ q (7,xs)*1)
  rw [Rat.mul_one]
  rcases hv with h | h
  ·rw [h]
   exact QW.zero hz
  ·rw [h]
   exact QW.one hz
 ·rename_i i ys
  rw [Bool.and_eq_true,Bool.and_eq_true,List.all_eq_true] at hs
  obtain ⟨h1,h2,h3⟩ := hs
  have hD0 : D=[] := by
   rw [Nat.beq_eq] at h1
   exact List.length_eq_zero_iff.1 h1
  have hwf' : ys.all (Nat.blt · k)=true := hwf
  rw [List.all_eq_true] at hwf'
  have hlt : ∀ c ∈ ys,c < k := fun c hc => by simpa [Nat.blt_eq] using hwf' c hc
  split at h3
  ·rename_i a ha
   split at h3
   ·rename_i p hp
    split at h3
    ·rename_i e he
     rw [Nat.ble_eq] at h3
     obtain ⟨hi,ha'⟩ := List.getElem?_eq_some_iff.1 ha
     have hmem : a ∈ ys := List.mem_of_getElem? ha
     have hg : (ys.map q).getD i 0=q a := by
      rw [List.getD_eq_getElem?_getD,List.getElem?_map,ha]
      rfl
     show QW z ((ys.map q).getD i 0*fac (ys.map q)*Qf dn M D)
     rw [hg,hD0]
     show QW z (q a*fac (ys.map q)*1)
     rw [Rat.mul_one]
     -- what makes all of them whole
     have hU : ∀ x ∈ JN E ys [],x.1=1→x.2 < k := JU hM hlt (fun x hx => by cases hx)
     have hUp := hpr hU
     have hw := whole hUp.1.wh
     generalize hm : (Qf dn M (JN E ys [])).num=m at hw
     have hm0 : m ≠ 0 := fun h => hUp.2 (by rw [hw,h]; rfl)
     have hall : ∀ y ∈ ys.map q,(y*((m : Int) : Rat)).den=1 := fun y hy => by
      obtain ⟨c,hc,rfl⟩ := List.mem_map.1 hy
      have h4 := h2 c hc
      split at h4
      ·rename_i r hr
       obtain ⟨c1,c2,c3⟩ := hlow (hlt c hc) hr
       cases hs2 : QK (JN E ys []) r.2 with
       | none => rw [hs2] at h4; cases h4
       | some f =>
        have hf := hpr (l := f) fun x hx => hU x (Qz hs2 hx)
        rw [← hw,Qi hs2,← Rat.mul_assoc,c3]
        exact (c1.mul hf.1).wh
      ·cases h4
     obtain ⟨a1,a2,a3⟩ := hlow (hlt a hmem) hp
     have he' := hpr (l := e) fun x hx => hU x (Qz he hx)
     refine Yj (List.mem_map_of_mem hmem) hm0 hall ?_
     rw [← hw,Qi he,← Rat.mul_assoc,a3]
     exact (a1.mul he'.1).mono h3
    ·cases h3
   ·cases h3
  ·cases h3
 ·cases hs
end
theorem UJ {x m p : Rat} {z y K : Nat} (hm : QW z m) (hp : QW y p) (h0 : p ≠ 0) (e : x*p=m) (hz : z≤K) (hy : y≤K) : QS K x := by
 have hw := whole hp.wh
 generalize p.num=P at hw
 have hP : P ≠ 0 := fun h => h0 (by rw [hw,h]; rfl)
 have hpos : 0 < P.natAbs := Int.natAbs_pos.2 hP
 have hd : x.den ∣ P.natAbs := JB (x := x) (m := P) (by rw [← hw,e]; exact hm.wh)
 have hdle : x.den≤P.natAbs := Nat.le_of_dvd hpos hd
 have hPlt : P.natAbs < 2 ^ y := by
  have := hp.qs.num
  rw [hw,Rat.num_intCast] at this
  exact this
 have hmw := whole hm.wh
 have hmlt := hm.qs.num
 generalize m.num=n at hmw hmlt
 have h1 : x*((x.den : Nat) : Rat)=((x.num : Int) : Rat) := ZJ x
 have h2 : ((x.num : Int) : Rat)*((P : Int) : Rat)=((n : Int) : Rat)*(((x.den : Nat) : Int) : Rat) := by
  rw [← h1,← hw,← hmw,← e,Rat.intCast_natCast]
  grind
 have h3 : x.num*P=n*(x.den : Int) := by exact_mod_cast h2
 have h4 : x.num.natAbs*P.natAbs=n.natAbs*x.den := by
  have := congrArg Int.natAbs h3
  rwa [Int.natAbs_mul,Int.natAbs_mul,Int.natAbs_natCast] at this
 have h5 : x.num.natAbs≤n.natAbs := by
  refine Nat.le_of_mul_le_mul_right (c := P.natAbs) ?_ hpos
  rw [h4]
  exact Nat.mul_le_mul_left _ hdle
 exact ⟨Nat.lt_of_lt_of_le (Nat.lt_of_le_of_lt h5 hmlt) (Nat.pow_le_pow_right (by decide) hz),Nat.lt_of_lt_of_le (Nat.lt_of_le_of_lt hdle hPlt) (Nat.pow_le_pow_right (by decide) hy)⟩
section
variable {N : List Nd} {Z : List Nat} {E : List (Nat × List Atm)} {q : Nat→Rat}
theorem Jl {σ : Nat→ByteArray} (hσ : ∀ j,(σ j).size≤1048576) (hw : wfB 0 N=true) (hz : saB E 0 N E Z=true) (hq : ∀ (a : Nat) nd,N[a]? = some nd→q a=Zg σ q nd) (h0 : ∀ a,N.length≤a→q a=0) : (∀ (a : Nat) z,Z[a]? = some z→QS z (q a))∧∀ a,QS 1000000000000 (q a) := by
 have hl := XN hz
 have key : ∀ k,k≤N.length→∃ M,Vd E (fun j => (Cx.rd (σ j).data.toList).den) M q k := by
  intro k
  induction k with
  | zero => exact fun _ => ⟨fun _ => 0,fun a ha => by omega⟩
  | succ k ih =>
   intro hk
   obtain ⟨M,hM⟩ := ih (by omega)
   have hn : N[k]? = some N[k] := List.getElem?_eq_getElem (by omega)
   obtain ⟨p,z,h1,_,h3,_⟩ := JA hz hn
   rw [Nat.zero_add] at h3
   have hwf := Wi hw hn
   rw [Nat.zero_add] at hwf
   obtain ⟨g1,g2,g3⟩ := UL hσ (fun _ => rfl) hM hwf h3
   rw [← hq k _ hn] at g1
   refine ⟨fun x => if x=k then q k*Qf (fun j => (Cx.rd (σ j).data.toList).den) M p.2 else M x,fun a ha => ?_⟩
   have same : ∀ {l : List Atm},(∀ x ∈ l,x.1=1→x.2 < k)→Qf (fun j => (Cx.rd (σ j).data.toList).den) (fun x => if x=k then q k*Qf (fun j => (Cx.rd (σ j).data.toList).den) M p.2 else M x) l=Qf (fun j => (Cx.rd (σ j).data.toList).den) M l := fun hl => (ZQ fun x hx h => by
    have := hl x hx h
    rw [if_neg (by omega)]).symm
   by_cases e : a=k
   ·subst e
    refine ⟨p,h1,?_,g2,g3,?_⟩
    ·show QW p.1 (if a=a then _ else _)
     rw [if_pos rfl]
     exact g1
    ·rw [same g3]
     show _=(if a=a then _ else _)
     rw [if_pos rfl]
   ·obtain ⟨p',f1,f2,f3,f4,f5⟩ := hM a (by omega)
    refine ⟨p',f1,?_,f3,f4,?_⟩
    ·show QW p'.1 (if a=k then _ else M a)
     rw [if_neg e]
     exact f2
    ·rw [same fun x hx h => by have := f4 x hx h; omega]
     show _=(if a=k then _ else M a)
     rw [if_neg e]
     exact f5
 obtain ⟨M,hM⟩ := key N.length (Nat.le_refl _)
 have hdn : ∀ j,0 < (Cx.rd (σ j).data.toList).den∧(Cx.rd (σ j).data.toList).den < 2 ^ inB := fun j => by
  refine ⟨Rat.den_pos _,Nat.lt_of_lt_of_le (QS.rd3 _).den (Nat.pow_le_pow_right (by decide) ?_)⟩
  have := hσ j
  rw [Qr]
  unfold inB
  omega
 have h2 : ∀ (a : Nat) z,Z[a]? = some z→QS z (q a)∧z≤1000000000000 := by
  intro a z ha
  have hlt : a < N.length := by
   have := (List.getElem?_eq_some_iff.1 ha).1
   omega
  have hn : N[a]? = some N[a] := List.getElem?_eq_getElem hlt
  obtain ⟨p,z',h1,h2,_,h4,h5,h6⟩ := JA hz hn
  rw [ha] at h2
  cases h2
  obtain ⟨p',f1,f2,f3,f4,f5⟩ := hM a hlt
  rw [h1] at f1
  cases f1
  have hp := JE hdn hM (l := p.2) fun x hx h => Nat.lt_trans (f4 x hx h) hlt
  exact ⟨UJ f2 hp.1 hp.2 f5 h4 h5,h6⟩
 refine ⟨fun a z h => (h2 a z h).1,fun a => ?_⟩
 by_cases ha : a < Z.length
 ·have := h2 a _ (List.getElem?_eq_getElem ha)
  exact this.1.mono this.2
 ·rw [h0 a (by omega)]
  exact QS.zero.mono (by decide)
theorem YD {L C : List (List Nat × Nat)} {σ : Nat→ByteArray} {H : List (Nat × Nat × Nat × Nat)} (hσ : ∀ j,(σ j).size≤1048576) (hw : wfB 0 N=true) (hz : saB E 0 N E Z=true) (hl : TX N L=true) (hcn : Tb N C=true) (hq : ∀ (a : Nat) nd,N[a]? = some nd→q a=Zg σ q nd) (h0 : ∀ a,N.length≤a→q a=0) (hH : Ww q H) : Hy N H L C Z q σ where
 nat := hq
 qs := (Jl hσ hw hz hq h0).2
 zs := (Jl hσ hw hz hq h0).1
 par := hσ
 lit := fun s b h => KC hl hq h
 k0 := fun a r h => ZA hH h
 k1 := fun a r h => ZA hH h
 k2 := fun a r h => ZA hH h
 k3 := fun a b r h => ZA hH h
 k4 := fun l a b r h1 h2 => by
  have h3 : Nat.beq 1 r=true ↔ q a=q b := ZA hH h2
  rw [h3,← Kx hcn hq h1]
  exact ⟨fun e => by rw [e],fun e => VZ (XW e)⟩
 k6 := fun a b r h => ZA hH h
 k5 := fun a r h => ZA hH h
end
end Go.Proofs.YthagmklephpnhaaGreatDoor
/- VPD -/
namespace Cx
open Go Go.RowKit
def TY : List A1→List A1→Bool
 | [],[] => true
 | (a,x) :: l,(b,y) :: m => (a == b && Rf x y) && TY l m
 | _,_ => false
theorem Wn : ∀ {l m : List A1},TY l m=true→l=m
 | [],[],_ => rfl
 | (a,x) :: l,(b,y) :: m,h => by
  unfold TY at h
  simp only [Bool.and_eq_true,beq_iff_eq] at h
  obtain ⟨⟨h1,h2⟩,h3⟩ := h
  rw [h1,Yx h2,Wn h3]
 | [],_ :: _,h => by cases h
 | _ :: _,[],h => by cases h
def WQ : List AV→List AV→Bool
 | [],[] => true
 | (a,x) :: l,(b,y) :: m => (a == b && TY x y) && WQ l m
 | _,_ => false
theorem YS : ∀ {l m : List AV},WQ l m=true→l=m
 | [],[],_ => rfl
 | (a,x) :: l,(b,y) :: m,h => by
  unfold WQ at h
  simp only [Bool.and_eq_true,beq_iff_eq] at h
  obtain ⟨⟨h1,h2⟩,h3⟩ := h
  rw [h1,Wn h2,YS h3]
 | [],_ :: _,h => by cases h
 | _ :: _,[],h => by cases h
abbrev Xu := List (FuncId × List AV × AV)
def XM (f : FuncId) (args : List AV) : Xu→Option AV
 | [] => none
 | (g,bs,v) :: m => bif Nat.beq f g && WQ args bs then some v else XM f args m
theorem Xw {f : FuncId} {args : List AV} {v : AV} : ∀ {m : Xu},XM f args m=some v→(f,args,v) ∈ m
 | [],h => by cases h
 | (g,bs,u) :: m,h => by
  unfold XM at h
  cases e : (Nat.beq f g && WQ args bs) with
  | true =>
   rw [e] at h
   rw [Bool.and_eq_true,Nat.beq_eq] at e
   rw [e.1,YS e.2,show u=v from Option.some.inj h]
   exact List.mem_cons_self
  | false =>
   rw [e] at h
   exact List.mem_cons_of_mem _ (Xw h)
def JL : AC→Bool
 | .inl _ => true
 | .inr (k,_) => Nat.ble k 2
def XT (v : AV) : Bool := v.2.all fun x => x.2.all JL
def Ql (S : Sx) (cs : List (FuncId × Nat)) (M : Xu) : Nat→Hs→ZG
 | 0,_,_,_,_,_ => none
 | n+1,X,f,args,h,nx => match XM f args M with
  | some v => some (v,h,nx)
  | none => match Un f cs with
   | none => Zc (S.plus X) (Ql S cs M n X) f args h nx
   | some c => match Yk S X h c args with
    | none => Zc (S.plus X) (Ql S cs M n X) f args h nx
    | some (l,r) => bif Nat.beq 1 r then Zc (S.plus (YM l X)) (Ql S cs M n (YM l X)) f args h nx
     else Xe h nx ((ZK l X).map fun X' => Jd (S.plus X') (Zc (S.plus X') (Ql S cs M n X') f args h nx))
def Xk (S : Sx) (E : Ev S.nb) (w0 : World) (M : Xu) : Prop := ∀ f args v,(f,args,v) ∈ M→∀ (γ : Nat→Option Nat) (w : World) (vs : List Value),WI w0 γ w→A2 (avOn (cOn E S.K γ w)) args vs →
 Calls S.P f vs.toArray w fun e w' => ∃ r,e=.returned r∧(∀ wr nx,(∀ b ∈ wr,IA γ b)→Ef S.nb w0 wr nx nx γ w γ w')∧avOn (cOn E S.K γ w') v r
section
variable {S : Sx} {E : Ev S.nb} {w0 : World}
theorem Uu {K K' : List (FuncId × List AC)} {γ γ' : Nat→Option Nat} {w : World} {d : Nat} {c : AC} {v : Value} (hc : JL c=true) (h : QE E K γ w d c v) : QE E K' γ' w d c v := by
 cases c with
 | inl u =>
  unfold QE at h ⊢
  exact h
 | inr t =>
  obtain ⟨k,a,b,n,c⟩ := t
  have hk : k≤2 := by
   unfold JL at hc
   rw [Nat.ble_eq] at hc
   exact hc
  match k,hk with
  | 0,_ =>
   unfold QE at h ⊢
   exact h
  | 1,_ =>
   unfold QE at h ⊢
   exact h
  | 2,_ =>
   unfold QE at h ⊢
   exact h
theorem Xq {α : Type} {R R' : α→Value→Prop} {P : α→Prop} (h : ∀ a v,P a→R a v→R' a v) : ∀ {l : List α} {vs : List Value},(∀ a ∈ l,P a)→A2 R l vs→A2 R' l vs
 | [],[],_,_ => trivial
 | _ :: _,_ :: _,hp,q => ⟨h _ _ (hp _ List.mem_cons_self) q.1,Xq h (fun a ha => hp a (List.mem_cons_of_mem _ ha)) q.2⟩
 | [],_ :: _,_,q => q.elim
 | _ :: _,[],_,q => q.elim
theorem Uo {K K' : List (FuncId × List AC)} {γ γ' : Nat→Option Nat} {w : World} {x : AV} {v : Value} (hx : XT x=true) (h : avOn (cOn E K γ w) x v) : avOn (cOn E K' γ' w) x v := by
 unfold XT at hx
 rw [List.all_eq_true] at hx
 have one : ∀ (y : A1) u,(∀ c ∈ y.2,JL c=true)→a1On (cOn E K γ w) y u→a1On (cOn E K' γ' w) y u := fun y u hy q => by
  obtain ⟨b,cs⟩ := y
  cases b with
  | true =>
   obtain ⟨us,e,q⟩ := q
   exact ⟨us,e,Xq (P := fun c => JL c=true) (fun _ _ hc q => Uu hc q) hy q⟩
  | false => exact Xq (P := fun c => JL c=true) (fun _ _ hc q => Uu hc q) hy q
 have all : ∀ y ∈ x.2,∀ c ∈ y.2,JL c=true := fun y hy c hc => (List.all_eq_true.1 (hx y hy)) c hc
 obtain ⟨b,ys⟩ := x
 cases b with
 | true =>
  obtain ⟨us,e,q⟩ := h
  exact ⟨us,e,Xq (P := fun y : A1 => ∀ c ∈ y.2,JL c=true) (fun y u hy q => one y u hy q) all q⟩
 | false => exact Xq (P := fun y : A1 => ∀ c ∈ y.2,JL c=true) (fun y u hy q => one y u hy q) all h
variable {T : Hs→Prop} {z : Nat→Prop}
theorem Ur {cs : List (FuncId × Nat)} {M : Xu} (hm : S.P.follows .mixedOrders=true) (hM : Xk S E w0 M) (hN : ∀ X,T X→Knows (S.plus X) E) (hP : ∀ X,T X→Jq (S.plus X) E w0) (hk : Zu S T z)
  (hs : ∀ X,T X→∀ l s r,sqN S l=some s→(S.plus X).kn 0 s 0=some r→(Nat.beq 1 r=true→∀ d ∈ l,z d)∧(Nat.beq 1 r=false→∃ d ∈ l,¬ z d)) : ∀ n X,T X→QY S E w0 (Ql S cs M n X)
 | 0,_,_ => fun _ _ _ _ _ h => by cases h
 | n+1,X,hX => fun f args h nx p hp => by
  have body : ∀ Y,T Y→QY S E w0 (Zc (S.plus Y) (Ql S cs M n Y)) := fun Y hY => XE (S := S.plus Y) hm (hN Y hY) (hP Y hY) (Ur hm hM hN hP hk hs n Y hY)
  unfold Ql at hp
  split at hp
  ·rename_i v hv
   cases hp
   intro γ w vs hi hA hb hlt hf
   refine (hM f args v (Xw hv) γ w vs hi hA).mono ?_
   rintro _ w' ⟨r,rfl,hef,hr⟩
   have live : ∀ b ∈ h.map (·.1),IA γ b := fun b hb' => by
    obtain ⟨x,hx,rfl⟩ := List.mem_map.1 hb'
    obtain ⟨_,_,_,_,hl,_⟩ := hb x hx
    exact hl
   exact ⟨r,γ,rfl,hef _ _ live,hr,fun x hx => (hef [] nx Yi).box hi (hb x hx) (by simp)⟩
  ·split at hp
   ·exact body X hX f args h nx p hp
   ·split at hp
    ·exact body X hX f args h nx p hp
    rename_i l r hk'
    obtain ⟨hl,s,h1,h2⟩ := Jp hk'
    have h3 := hp
    obtain ⟨a1,a0⟩ := hs X hX _ s r h1 h2
    cases e : Nat.beq 1 r with
    | true =>
     rw [e] at h3
     exact body _ (ZE hk hX hl fun a ha => a1 e _ (List.mem_map_of_mem ha)) f args h nx p h3
    | false =>
     rw [e] at h3
     obtain ⟨d,hd,hz⟩ := a0 e
     obtain ⟨a,ha,rfl⟩ := List.mem_map.1 hd
     obtain ⟨X',m1,m2⟩ := Zm hk hX hl ⟨a,ha,hz⟩
     replace h3 : Xe h nx ((ZK l X).map fun X' => Jd (S.plus X') (Zc (S.plus X') (Ql S cs M n X') f args h nx))=some p := h3
     unfold Xe at h3
     split at h3
     ·rename_i p0 rs hrs
      rw [Option.bind_eq_some_iff] at h3
      obtain ⟨b,hb,h4⟩ := h3
      rw [ifO_some,List.all_eq_true] at h4
      obtain ⟨h5,h6⟩ := h4
      cases h6
      obtain ⟨h',nx',q1,q2,q3⟩ := Ju (h5 _ (List.mem_map_of_mem m1))
      intro γ w vs hi hA hb hlt hf
      refine (Yy (hN X' m2) (body X' m2) f args h nx _ q1 γ w vs hi hA hb hlt fun b g1 g2 => hf b g1 (Nat.lt_of_lt_of_le g2 q2)).mono ?_
      rintro _ w' ⟨r',γ',rfl,hef,hv,hx⟩
      exact ⟨r',γ',rfl,hef.wide (Nat.le_refl _) q2,hv,fun x hh => hx x (q3 x hh)⟩
     ·cases h3
theorem OZ {K1 K2 : List (FuncId × List AC)} {H1 H2 : Hs} {M : Xu} {f : FuncId} {args : List AV} {v : AV} {p : List HB × Nat} {call : ZG} (hC : QY { S with H := H1,K := K1 } E w0 call) (hr : call f args [] 0=some (v,p)) (ha : args.all XT=true) (hv : XT v=true) (hM : Xk { S with H := H2,K := K2 } E w0 M) : Xk { S with H := H2,K := K2 } E w0 ((f,args,v) :: M) := fun g bs u hmem => by
 rcases List.mem_cons.1 hmem with e | hmem
 ·cases e
  intro γ w vs hi hA
  rw [List.all_eq_true] at ha
  refine (hC f args [] 0 (v,p) hr (fun _ => none) w vs ⟨hi.bel,(fun _ _ h => by cases h)⟩ (Xq (P := fun x => XT x=true) (fun _ _ hx q => Uo hx q) ha hA) (fun x hx => by cases hx) (fun x hx => by cases hx) (fun _ _ _ => rfl)).mono ?_
  rintro _ w' ⟨r,γ',rfl,hef,hr,_⟩
  refine ⟨r,rfl,fun wr nx hl => ⟨leG.refl _,fun _ _ => rfl,fun _ _ h => Or.inl h,⟨hef.wi.bel,fun b G q => ⟨(hi.lo b G q).1,Nat.lt_of_lt_of_le (hi.lo b G q).2 hef.gr.size⟩⟩,hef.gr,fun G hG _ => hef.keep G hG (fun b hb => by cases hb),hl⟩,Uo hv hr⟩
 ·exact hM g bs u hmem
def XO (S : Sx) (cs : List (FuncId × Nat)) (k : Nat) : Xu→Bool
 | (f,args,v) :: M => (match Ql S cs M k [] f args [] 0 with
  | some (u,_) => WQ [u] [v]
  | none => false) && (args.all XT && XT v)
 | [] => false
def Xg (S : Sx) (cs : List (FuncId × Nat)) (k : Nat) : Nat→Xu→Bool
 | 0,_ => true
 | n+1,M => XO S cs k M && Xg S cs k n M.tail
def qA (l : List Nat) : AV := (false,[(true,l.flatMap Oo)])
theorem OX : Xk S E w0 [] := fun _ _ _ h => by cases h
end
end Cx
/- VPE -/
namespace Go.Proofs.YthagmklephpnhaaGreatDoor
open Cx Go Go.RowKit
section
variable {N : List Nd} {H : List (Nat × Nat × Nat × Nat)} {K : List (FuncId × List AC)} {L C : List (List Nat × Nat)} {Z : List Nat} {q : Nat→Rat} {σ : Nat→ByteArray} {cl : List FuncId} {cs pr : List (FuncId × Nat)} {M : Xu} {w : World}
theorem XV (Y : Hy N H L C Z q σ) (hc : ∀ f ∈ cl,Closed f) (hm : (Tryz.prog).follows .mixedOrders=true) (hp : Zf w) (hM : Xk (sx Tryz.prog N H K L C Z (prC cl)) (evS q σ) w M) (k : Nat) : QY (sx Tryz.prog N H K L C Z (prC cl)) (evS q σ) w (Ql (sx Tryz.prog N H K L C Z (prC cl)) cs M k []) :=
 Ur (S := sx Tryz.prog N H K L C Z (prC cl)) (E := evS q σ) (w0 := w) (T := fun X => Hy N (X ++ H) L C Z q σ) (z := fun d => q d=0) hm hM (fun X hX => TJ hX) (fun X hX => Ou hX hp hc) XF (fun X hX l s r h1 h2 => by
  have e := hX.k0 s r h2
  have g := Yz hX h1
  refine ⟨fun h => g.1 (e.1 h),fun h => ?_⟩
  have hn : ¬ ∀ d ∈ l,q d=0 := fun q' => by
   rw [e.2 (g.2 q')] at h
   cases h
  simpa using hn) k [] Y
def Zl (N : List Nd) (L C : List (List Nat × Nat)) (Z : List Nat) (q : Nat→Rat) (σ : Nat→ByteArray) (cl : List FuncId) (w : World) (M : Xu) : Prop := ∀ H K,Xk (sx Tryz.prog N H K L C Z (prC cl)) (evS q σ) w M
theorem Uq : Zl N L C Z q σ cl w [] := fun _ _ => OX
theorem YT {H1 : List (Nat × Nat × Nat × Nat)} (Y : Hy N H1 L C Z q σ) (hc : ∀ f ∈ cl,Closed f) (hm : (Tryz.prog).follows .mixedOrders=true) (hp : Zf w) {f : FuncId} {args : List AV} {v : AV} (k : Nat) (hr : XO (sx Tryz.prog N H1 [] L C Z (prC cl)) cs k ((f,args,v) :: M)=true) (hM : Zl N L C Z q σ cl w M) : Zl N L C Z q σ cl w ((f,args,v) :: M) := fun H K => by
 unfold XO at hr
 simp only [Bool.and_eq_true] at hr
 obtain ⟨h1,h2,h3⟩ := hr
 split at h1
 ·rename_i u p hu
  have e := YS h1
  cases e
  exact OZ (S := sx Tryz.prog N H K L C Z (prC cl)) (K1 := []) (H1 := H1) (K2 := K) (H2 := H) (XV (K := []) (cs := cs) Y hc hm hp (hM H1 []) k) hu h2 h3 (hM H K)
 ·cases h1
theorem Vl {i : Nat} {H1 : List (Nat × Nat × Nat × Nat)} (Y : Hy N H1 L C Z q σ) (hc : ∀ f ∈ cl,Closed f) (hm : (Tryz.prog).follows .mixedOrders=true) (hp : Zf w) {k : Nat} (hr : XO (sx Tryz.prog N H1 [] L C Z (prC cl)) cs k (M.drop i)=true) (hM : Zl N L C Z q σ cl w (M.drop (i+1))) : Zl N L C Z q σ cl w (M.drop i) := by
 rw [← List.tail_drop] at hM
 generalize M.drop i=D at *
 match D with
 | [] => cases hr
 | (f,args,v) :: D => exact YT Y hc hm hp k hr hM
theorem JF {H1 : List (Nat × Nat × Nat × Nat)} (Y : Hy N H1 L C Z q σ) (hc : ∀ f ∈ cl,Closed f) (hm : (Tryz.prog).follows .mixedOrders=true) (hp : Zf w) {k : Nat} : ∀ (n : Nat) {M : Xu},Xg (sx Tryz.prog N H1 [] L C Z (prC cl)) cs k n M=true→Zl N L C Z q σ cl w (M.drop n)→Zl N L C Z q σ cl w M
 | 0,_,_,h => h
 | n+1,M,hr,h => by
  unfold Xg at hr
  rw [Bool.and_eq_true] at hr
  have h1 := JF Y hc hm hp n hr.2 (by rw [List.drop_tail]; exact h)
  exact Vl (i := 0) Y hc hm hp hr.1 (by rw [Nat.zero_add,List.drop_one]; exact h1)
theorem Wd {f : FuncId} {args : List AV} {vs : List Value} (k : Nat) (Y : Hy N H L C Z q σ) (hc : ∀ f ∈ cl,Closed f) (hm : (Tryz.prog).follows .mixedOrders=true) (hp : Zf w) (hM : Zl N L C Z q σ cl w M) (hr : (Ql (sx Tryz.prog N H K L C Z (prC cl)) cs M k [] f args [] 0).map (·.1)=some (kB true))
  (hA : A2 (avOn (cOn (evS q σ) K (fun _ => none) w)) args vs) : Calls Tryz.prog f vs.toArray w fun e w' => Below w.heap.size w w'∧e=.returned (.bool true) := by
 rw [Option.map_eq_some_iff] at hr
 obtain ⟨⟨v,p⟩,h1,h2⟩ := hr
 dsimp only at h2
 subst h2
 refine (XV (cs := cs) Y hc hm hp (hM H K) k f args [] 0 (kB true,p) h1 (fun _ => none) w vs ⟨Below.refl _ _,(fun _ _ h => by cases h)⟩ hA (fun x hx => by cases hx) (fun x hx => by cases hx) (fun _ _ _ => rfl)).mono ?_
 rintro _ w' ⟨r,γ',rfl,hef,hv,_⟩
 exact ⟨hef.wi.bel,by rw [show r=.bool true from (QU (v := kB true) (c := .inl (.bool true)) rfl hv).1]⟩
end
end Go.Proofs.YthagmklephpnhaaGreatDoor
/- CFspaced -/
namespace Go.Proofs.YthagmklephpnhaaGreatDoor
open Go.RowKit Cx
theorem Xb : Closed 32 :=
 Ut (N := [(0,[0,1,1]),(0,[0,0,1]),(3,[1,0]),(3,[0,1]),(3,[1,1]),(4,[3,3]),(4,[4,4]),(3,[5,6]),(4,[4,2]),(4,[2,3]),(3,[8,9]),(4,[2,4]),(4,[3,2]),(3,[11,12]),(4,[7,0]),(2,[1,14]),(4,[10,1]),(2,[15,16]),(4,[13,1]),(2,[17,18]),(5,[19]),(8,[0,7,10,13,20]),(8,[1,7,10,13,20]),(8,[2,7,10,13,20]),(8,[3,7,10,13,20]),(2,[1,0]),(2,[1,1]),(0,[0,2,1]),(6,[25,27]),(6,[26,27]),(4,[3,28]),(2,[1,30]),(4,[4,29]),(2,[31,32]),(2,[33,32]),(5,[34]),(8,[0,3,4,4,35]),(8,[1,3,4,4,35]),(8,[2,3,4,4,35]),(8,[3,3,4,4,35]),(2,[1,32]),(2,[40,30]),(2,[41,32]),(5,[42]),(8,[0,4,3,4,43]),(8,[1,4,3,4,43]),(8,[2,4,3,4,43]),(8,[3,4,3,4,43]),(2,[40,32]),(2,[48,30]),(5,[49]),(8,[0,4,4,3,50]),(8,[1,4,4,3,50]),(8,[2,4,4,3,50]),(8,[3,4,4,3,50]),(4,[45,53]),(4,[46,52]),(3,[55,56]),(4,[46,51]),(4,[44,53]),(3,[58,59]),(4,[44,52]),(4,[45,51]),(3,[61,62]),(4,[36,57]),(2,[1,64]),(4,[37,60]),(2,[65,66]),(4,[38,63]),(2,[67,68]),(4,[52,38]),(4,[53,37]),(3,[70,71]),(4,[53,36]),(4,[51,38]),(3,[73,74]),(4,[51,37]),(4,[52,36]),(3,[76,77]),(4,[37,46]),(4,[38,45]),(3,[79,80]),(4,[38,44]),(4,[36,46]),(3,[82,83]),(4,[36,45]),(4,[37,44]),(3,[85,86]),(4,[57,39]),(2,[1,88]),(4,[72,47]),(2,[89,90]),(4,[81,54]),(2,[91,92]),(4,[60,39]),(2,[1,94]),(4,[75,47]),(2,[95,96]),(4,[84,54]),(2,[97,98]),(4,[63,39]),(2,[1,100]),(4,[78,47]),(2,[101,102]),(4,[87,54]),(2,[103,104]),(5,[69]),(6,[93,106]),(6,[99,106]),(6,[105,106]),(3,[1,107]),(3,[1,108]),(3,[1,109]),(4,[110,110]),(2,[1,113]),(4,[111,111]),(2,[114,115]),(4,[112,112]),(2,[116,117]),(0,[1,1,1]),(0,[0,1,2]),(0,[0,3,4]),(4,[4,3]),(3,[6,122]),(4,[3,4]),(3,[6,124]),(4,[3,7]),(2,[1,126]),(4,[4,123]),(2,[127,128]),(4,[4,125]),(2,[129,130]),(4,[2,2]),(2,[1,132]),(2,[133,5]),(2,[134,6])]) (H := [(0,7,0,0),(0,3,0,0),(0,4,0,1),(0,69,0,0),(4,21,0,1),(4,22,0,1),(4,23,0,1),(4,24,119,1),(4,107,120,1),(4,108,120,1),(4,109,120,1),(4,118,121,1),(4,131,0,1),(4,135,27,1)]) (K := []) (L := [([49],0),([48],1),([45,49],119),([49,47,50],120),([51,47,52],121),([50],27)]) (C := [([49],0),([45,49],119),([49,47,50],120),([51,47,52],121),([50],27)]) (Z := [2,2,5,5,5,10,10,21,10,10,21,10,10,21,23,26,23,50,23,74,74,371,371,371,371,5,5,3,8,8,13,16,13,30,44,44,221,221,221,221,16,30,44,44,221,221,221,221,30,44,44,221,221,221,221,442,442,885,442,442,885,442,442,885,1106,1109,1106,2216,1106,3323,442,442,885,442,442,885,442,442,885,442,442,885,442,442,885,442,442,885,1106,1109,1106,2216,1106,3323,1106,1109,1106,2216,1106,3323,1106,1109,1106,2216,1106,3323,3323,6646,6646,6646,6649,6649,6649,13298,13301,13298,26600,13298,39899,2,3,4,10,21,10,21,26,29,26,56,26,83,10,13,24,35]) (cl := []) 8 (fun _ h => by cases h) (by kernel_rfl) (by kernel_rfl) (by kernel_rfl) (by kernel_rfl) (by kernel_rfl) (by kernel_rfl) (by kernel_rfl)
end Go.Proofs.YthagmklephpnhaaGreatDoor
/- MQG -/
namespace Go.Proofs.YthagmklephpnhaaGreatDoor
open Go.RowKit Cx
def qG_N : List Nd := [(1,[3]),(1,[4]),(1,[5]),(1,[6]),(8,[0,0,1,2,3]),(8,[1,0,1,2,3]),(8,[2,0,1,2,3]),(8,[3,0,1,2,3]),(0,[0,0,1]),(3,[8,5]),(3,[8,6]),(3,[8,7]),(4,[4,4]),(4,[5,5]),(2,[8,13]),(4,[6,6]),(2,[14,15]),(4,[7,7]),(2,[16,17]),(2,[12,18]),(0,[0,1,1]),(4,[4,8]),(4,[5,20]),(2,[8,22]),(4,[6,8]),(2,[23,24]),(4,[7,8]),(2,[25,26]),(3,[21,27]),(4,[20,4]),(4,[8,4]),(4,[5,8]),(2,[29,31]),(2,[30,24]),(2,[30,26]),(3,[24,26]),(4,[7,20]),(3,[36,31]),(4,[6,20]),(3,[31,38]),(2,[32,35]),(2,[33,37]),(2,[34,39]),(4,[28,4]),(4,[40,9]),(2,[8,44]),(4,[41,10]),(2,[45,46]),(4,[42,11]),(2,[47,48]),(3,[43,49]),(4,[9,28]),(4,[10,28]),(4,[11,28]),(4,[40,4]),(4,[41,4]),(4,[42,4]),(2,[51,54]),(2,[52,55]),(2,[53,56]),(4,[41,11]),(4,[42,10]),(3,[60,61]),(4,[42,9]),(4,[40,11]),(3,[63,64]),(4,[40,10]),(4,[41,9]),(3,[66,67]),(2,[57,62]),(2,[58,65]),(2,[59,68]),(6,[69,19]),(6,[70,19]),(6,[71,19]),(2,[8,31]),(2,[75,38]),(2,[76,26]),(3,[21,77]),(2,[30,31]),(2,[29,24]),(3,[24,36]),(3,[26,31]),(3,[22,24]),(2,[79,81]),(2,[80,82]),(2,[34,83]),(4,[78,4]),(4,[84,9]),(2,[8,88]),(4,[85,10]),(2,[89,90]),(4,[86,11]),(2,[91,92]),(3,[87,93]),(4,[9,78]),(4,[10,78]),(4,[11,78]),(4,[84,4]),(4,[85,4]),(4,[86,4]),(2,[95,98]),(2,[96,99]),(2,[97,100]),(4,[85,11]),(4,[86,10]),(3,[104,105]),(4,[86,9]),(4,[84,11]),(3,[107,108]),(4,[84,10]),(4,[85,9]),(3,[110,111]),(2,[101,106]),(2,[102,109]),(2,[103,112]),(6,[113,19]),(6,[114,19]),(6,[115,19]),(2,[75,24]),(2,[119,36]),(3,[21,120]),(2,[29,26]),(3,[38,26]),(3,[26,22]),(3,[31,24]),(2,[79,123]),(2,[33,124]),(2,[122,125]),(4,[121,4]),(4,[126,9]),(2,[8,130]),(4,[127,10]),(2,[131,132]),(4,[128,11]),(2,[133,134]),(3,[129,135]),(4,[9,121]),(4,[10,121]),(4,[11,121]),(4,[126,4]),(4,[127,4]),(4,[128,4]),(2,[137,140]),(2,[138,141]),(2,[139,142]),(4,[127,11]),(4,[128,10]),(3,[146,147]),(4,[128,9]),(4,[126,11]),(3,[149,150]),(4,[126,10]),(4,[127,9]),(3,[152,153]),(2,[143,148]),(2,[144,151]),(2,[145,154]),(6,[155,19]),(6,[156,19]),(6,[157,19]),(1,[0]),(1,[1]),(1,[2]),(1,[7]),(4,[164,72]),(2,[161,165]),(4,[164,73]),(2,[162,167]),(4,[164,74]),(2,[163,169]),(1,[8]),(4,[171,116]),(2,[161,172]),(4,[171,117]),(2,[162,174]),(4,[171,118]),(2,[163,176]),(1,[9]),(4,[178,158]),(2,[161,179]),(4,[178,159]),(2,[162,181]),(4,[178,160]),(2,[163,183]),(3,[173,166]),(3,[175,168]),(3,[177,170]),(3,[180,166]),(3,[182,168]),(3,[184,170]),(4,[186,190]),(4,[187,189]),(3,[191,192]),(4,[187,188]),(4,[185,190]),(3,[194,195]),(4,[185,189]),(4,[186,188]),(3,[197,198]),(4,[193,193]),(4,[196,196]),(4,[199,199]),(2,[200,201]),(2,[203,202]),(3,[166,161]),(3,[168,162]),(3,[170,163]),(3,[173,161]),(3,[175,162]),(3,[177,163]),(4,[206,210]),(4,[207,209]),(3,[211,212]),(4,[207,208]),(4,[205,210]),(3,[214,215]),(4,[205,209]),(4,[206,208]),(3,[217,218]),(4,[213,213]),(4,[216,216]),(4,[219,219]),(2,[220,221]),(2,[223,222]),(3,[180,161]),(3,[182,162]),(3,[184,163]),(4,[209,227]),(4,[210,226]),(3,[228,229]),(4,[210,225]),(4,[208,227]),(3,[231,232]),(4,[208,226]),(4,[209,225]),(3,[234,235]),(4,[230,230]),(4,[233,233]),(4,[236,236]),(2,[237,238]),(2,[240,239]),(4,[226,207]),(4,[227,206]),(3,[242,243]),(4,[227,205]),(4,[225,207]),(3,[245,246]),(4,[225,206]),(4,[226,205]),(3,[248,249]),(4,[244,244]),(4,[247,247]),(4,[250,250]),(2,[251,252]),(2,[254,253]),(2,[224,241]),(2,[256,255])]
def Bl : List (List Nat × Nat) := []
def Bs : List (List Nat × Nat) := []
def Be : List Nat := [3495260,3495260,3495260,3495260,13981037,13981037,13981037,13981037,1,13981039,13981039,13981039,27962074,27962074,27962076,27962074,27962078,27962074,27962080,27962082,1,13981038,13981038,13981040,13981038,13981042,13981038,13981044,13981046,13981038,13981038,13981038,13981040,13981040,13981040,13981040,13981038,13981040,13981038,13981040,13981042,13981042,13981042,27962083,27962081,27962083,27962081,27962085,27962081,27962087,27962089,27962085,27962085,27962085,27962079,27962079,27962079,27962087,27962087,27962087,27962081,27962081,27962083,27962081,27962081,27962083,27962081,27962081,27962083,27962089,27962089,27962089,27962090,27962090,27962090,13981040,13981042,13981044,13981046,13981040,13981040,13981040,13981040,13981040,13981042,13981042,13981042,27962083,27962081,27962083,27962081,27962085,27962081,27962087,27962089,27962085,27962085,27962085,27962079,27962079,27962079,27962087,27962087,27962087,27962081,27962081,27962083,27962081,27962081,27962083,27962081,27962081,27962083,27962089,27962089,27962089,27962090,27962090,27962090,13981042,13981044,13981046,13981040,13981040,13981040,13981040,13981042,13981042,13981042,27962083,27962081,27962083,27962081,27962085,27962081,27962087,27962089,27962085,27962085,27962085,27962079,27962079,27962079,27962087,27962087,27962087,27962081,27962081,27962083,27962081,27962081,27962083,27962081,27962081,27962083,27962089,27962089,27962089,27962090,27962090,27962090,3495260,3495260,3495260,3495260,31457349,34952610,31457349,34952610,31457349,34952610,3495260,31457349,34952610,31457349,34952610,31457349,34952610,3495260,31457349,34952610,31457349,34952610,31457349,34952610,38447871,38447871,38447871,38447871,38447871,38447871,76895742,76895742,76895744,76895742,76895742,76895744,76895742,76895742,76895744,153791488,153791488,153791488,160782008,160782010,34952612,34952612,34952612,34952612,34952612,34952612,69905224,69905224,69905226,69905224,69905224,69905226,69905224,69905224,69905226,139810452,139810452,139810452,146800972,146800974,34952612,34952612,34952612,69905224,69905224,69905226,69905224,69905224,69905226,69905224,69905224,69905226,139810452,139810452,139810452,146800972,146800974,69905224,69905224,69905226,69905224,69905224,69905226,69905224,69905224,69905226,139810452,139810452,139810452,146800972,146800974,153791494,153791496]
def qG_D0 : List Atm := [(0,7),(1,19)]
def qG_D1 : List Atm := [(0,0),(0,7),(1,19)]
def qG_D2 : List Atm := [(0,1),(0,7),(1,19)]
def qG_D3 : List Atm := [(0,2),(0,7),(1,19)]
def qG_D4 : List Atm := [(0,8),(1,19)]
def qG_D5 : List Atm := [(0,0),(0,8),(1,19)]
def qG_D6 : List Atm := [(0,1),(0,8),(1,19)]
def qG_D7 : List Atm := [(0,2),(0,8),(1,19)]
def qG_D8 : List Atm := [(0,9),(1,19)]
def qG_D9 : List Atm := [(0,0),(0,9),(1,19)]
def qG_D10 : List Atm := [(0,1),(0,9),(1,19)]
def qG_D11 : List Atm := [(0,2),(0,9),(1,19)]
def EU : List Atm := [(0,1),(0,2),(0,7),(0,7),(0,8),(0,9),(1,19),(1,19)]
def Nz : List Atm := [(0,0),(0,2),(0,7),(0,7),(0,8),(0,9),(1,19),(1,19)]
def ET : List Atm := [(0,0),(0,1),(0,7),(0,7),(0,8),(0,9),(1,19),(1,19)]
def qG_D15 : List Atm := [(0,0),(0,0),(0,1),(0,1),(0,2),(0,2),(0,7),(0,7),(0,7),(0,7),(0,8),(0,8),(0,9),(0,9),(1,19),(1,19),(1,19),(1,19)]
def En : List Atm := [(0,1),(0,2),(0,7),(0,8),(1,19),(1,19)]
def Nx : List Atm := [(0,0),(0,2),(0,7),(0,8),(1,19),(1,19)]
def Nf : List Atm := [(0,0),(0,1),(0,7),(0,8),(1,19),(1,19)]
def qG_D19 : List Atm := [(0,0),(0,0),(0,1),(0,1),(0,2),(0,2),(0,7),(0,7),(0,8),(0,8),(1,19),(1,19),(1,19),(1,19)]
def EO : List Atm := [(0,1),(0,2),(0,8),(0,9),(1,19),(1,19)]
def Ng : List Atm := [(0,0),(0,2),(0,8),(0,9),(1,19),(1,19)]
def Nh : List Atm := [(0,0),(0,1),(0,8),(0,9),(1,19),(1,19)]
def qG_D23 : List Atm := [(0,0),(0,0),(0,1),(0,1),(0,2),(0,2),(0,8),(0,8),(0,9),(0,9),(1,19),(1,19),(1,19),(1,19)]
def Nj : List Atm := [(0,1),(0,2),(0,7),(0,9),(1,19),(1,19)]
def Ei : List Atm := [(0,0),(0,2),(0,7),(0,9),(1,19),(1,19)]
def El : List Atm := [(0,0),(0,1),(0,7),(0,9),(1,19),(1,19)]
def qG_D27 : List Atm := [(0,0),(0,0),(0,1),(0,1),(0,2),(0,2),(0,7),(0,7),(0,9),(0,9),(1,19),(1,19),(1,19),(1,19)]
def qG_D28 : List Atm := [(0,0),(0,0),(0,1),(0,1),(0,2),(0,2),(0,7),(0,7),(0,8),(0,8),(0,9),(0,9),(1,19),(1,19),(1,19),(1,19)]
def qG_E : List (Nat × List Atm) := [(3495259,[(0,3)]),(3495259,[(0,4)]),(3495259,[(0,5)]),(3495259,[(0,6)]),(13981037,[]),(13981037,[]),(13981037,[]),(13981037,[]),(1,[]),(13981039,[]),(13981039,[]),(13981039,[]),(27962074,[]),(27962074,[]),(27962076,[]),(27962074,[]),(27962078,[]),(27962074,[]),(27962080,[]),(27962082,[]),(1,[]),(13981038,[]),(13981038,[]),(13981040,[]),(13981038,[]),(13981042,[]),(13981038,[]),(13981044,[]),(13981046,[]),(13981038,[]),(13981038,[]),(13981038,[]),(13981040,[]),(13981040,[]),(13981040,[]),(13981040,[]),(13981038,[]),(13981040,[]),(13981038,[]),(13981040,[]),(13981042,[]),(13981042,[]),(13981042,[]),(27962083,[]),(27962081,[]),(27962083,[]),(27962081,[]),(27962085,[]),(27962081,[]),(27962087,[]),(27962089,[]),(27962085,[]),(27962085,[]),(27962085,[]),(27962079,[]),(27962079,[]),(27962079,[]),(27962087,[]),(27962087,[]),(27962087,[]),(27962081,[]),(27962081,[]),(27962083,[]),(27962081,[]),(27962081,[]),(27962083,[]),(27962081,[]),(27962081,[]),(27962083,[]),(27962089,[]),(27962089,[]),(27962089,[]),(27962090,[(1,19)]),(27962090,[(1,19)]),(27962090,[(1,19)]),(13981040,[]),(13981042,[]),(13981044,[]),(13981046,[]),(13981040,[]),(13981040,[]),(13981040,[]),(13981040,[]),(13981040,[]),(13981042,[]),(13981042,[]),(13981042,[]),(27962083,[]),(27962081,[]),(27962083,[]),(27962081,[]),(27962085,[]),(27962081,[]),(27962087,[]),(27962089,[]),(27962085,[]),(27962085,[]),(27962085,[]),(27962079,[]),(27962079,[]),(27962079,[]),(27962087,[]),(27962087,[]),(27962087,[]),(27962081,[]),(27962081,[]),(27962083,[]),(27962081,[]),(27962081,[]),(27962083,[]),(27962081,[]),(27962081,[]),(27962083,[]),(27962089,[]),(27962089,[]),(27962089,[]),(27962090,[(1,19)]),(27962090,[(1,19)]),(27962090,[(1,19)]),(13981042,[]),(13981044,[]),(13981046,[]),(13981040,[]),(13981040,[]),(13981040,[]),(13981040,[]),(13981042,[]),(13981042,[]),(13981042,[]),(27962083,[]),(27962081,[]),(27962083,[]),(27962081,[]),(27962085,[]),(27962081,[]),(27962087,[]),(27962089,[]),(27962085,[]),(27962085,[]),(27962085,[]),(27962079,[]),(27962079,[]),(27962079,[]),(27962087,[]),(27962087,[]),(27962087,[]),(27962081,[]),(27962081,[]),(27962083,[]),(27962081,[]),(27962081,[]),(27962083,[]),(27962081,[]),(27962081,[]),(27962083,[]),(27962089,[]),(27962089,[]),(27962089,[]),(27962090,[(1,19)]),(27962090,[(1,19)]),(27962090,[(1,19)]),(3495259,[(0,0)]),(3495259,[(0,1)]),(3495259,[(0,2)]),(3495259,[(0,7)]),(31457349,qG_D0),(34952610,qG_D1),(31457349,qG_D0),(34952610,qG_D2),(31457349,qG_D0),(34952610,qG_D3),(3495259,[(0,8)]),(31457349,qG_D4),(34952610,qG_D5),(31457349,qG_D4),(34952610,qG_D6),(31457349,qG_D4),(34952610,qG_D7),(3495259,[(0,9)]),(31457349,qG_D8),(34952610,qG_D9),(31457349,qG_D8),(34952610,qG_D10),(31457349,qG_D8),(34952610,qG_D11),(38447871,[(0,0),(0,7),(0,8),(1,19)]),(38447871,[(0,1),(0,7),(0,8),(1,19)]),(38447871,[(0,2),(0,7),(0,8),(1,19)]),(38447871,[(0,0),(0,7),(0,9),(1,19)]),(38447871,[(0,1),(0,7),(0,9),(1,19)]),(38447871,[(0,2),(0,7),(0,9),(1,19)]),(76895742,EU),(76895742,EU),(76895744,EU),(76895742,Nz),(76895742,Nz),(76895744,Nz),(76895742,ET),(76895742,ET),(76895744,ET),(153791488,[(0,1),(0,1),(0,2),(0,2),(0,7),(0,7),(0,7),(0,7),(0,8),(0,8),(0,9),(0,9),(1,19),(1,19),(1,19),(1,19)]),(153791488,[(0,0),(0,0),(0,2),(0,2),(0,7),(0,7),(0,7),(0,7),(0,8),(0,8),(0,9),(0,9),(1,19),(1,19),(1,19),(1,19)]),(153791488,[(0,0),(0,0),(0,1),(0,1),(0,7),(0,7),(0,7),(0,7),(0,8),(0,8),(0,9),(0,9),(1,19),(1,19),(1,19),(1,19)]),(160782008,qG_D15),(160782010,qG_D15),(34952612,qG_D1),(34952612,qG_D2),(34952612,qG_D3),(34952612,qG_D5),(34952612,qG_D6),(34952612,qG_D7),(69905224,En),(69905224,En),(69905226,En),(69905224,Nx),(69905224,Nx),(69905226,Nx),(69905224,Nf),(69905224,Nf),(69905226,Nf),(139810452,[(0,1),(0,1),(0,2),(0,2),(0,7),(0,7),(0,8),(0,8),(1,19),(1,19),(1,19),(1,19)]),(139810452,[(0,0),(0,0),(0,2),(0,2),(0,7),(0,7),(0,8),(0,8),(1,19),(1,19),(1,19),(1,19)]),(139810452,[(0,0),(0,0),(0,1),(0,1),(0,7),(0,7),(0,8),(0,8),(1,19),(1,19),(1,19),(1,19)]),(146800972,qG_D19),(146800974,qG_D19),(34952612,qG_D9),(34952612,qG_D10),(34952612,qG_D11),(69905224,EO),(69905224,EO),(69905226,EO),(69905224,Ng),(69905224,Ng),(69905226,Ng),(69905224,Nh),(69905224,Nh),(69905226,Nh),(139810452,[(0,1),(0,1),(0,2),(0,2),(0,8),(0,8),(0,9),(0,9),(1,19),(1,19),(1,19),(1,19)]),(139810452,[(0,0),(0,0),(0,2),(0,2),(0,8),(0,8),(0,9),(0,9),(1,19),(1,19),(1,19),(1,19)]),(139810452,[(0,0),(0,0),(0,1),(0,1),(0,8),(0,8),(0,9),(0,9),(1,19),(1,19),(1,19),(1,19)]),(146800972,qG_D23),(146800974,qG_D23),(69905224,Nj),(69905224,Nj),(69905226,Nj),(69905224,Ei),(69905224,Ei),(69905226,Ei),(69905224,El),(69905224,El),(69905226,El),(139810452,[(0,1),(0,1),(0,2),(0,2),(0,7),(0,7),(0,9),(0,9),(1,19),(1,19),(1,19),(1,19)]),(139810452,[(0,0),(0,0),(0,2),(0,2),(0,7),(0,7),(0,9),(0,9),(1,19),(1,19),(1,19),(1,19)]),(139810452,[(0,0),(0,0),(0,1),(0,1),(0,7),(0,7),(0,9),(0,9),(1,19),(1,19),(1,19),(1,19)]),(146800972,qG_D27),(146800974,qG_D27),(153791494,qG_D28),(153791496,qG_D28)]
theorem Lh : wfB 0 qG_N=true := by kernel_rfl
theorem qG_sz : saB qG_E 0 qG_N qG_E Be=true := by kernel_rfl
theorem qG_lt : TX qG_N Bl=true := by kernel_rfl
theorem qG_cn : Tb qG_N Bs=true := by kernel_rfl
theorem qG_c8 : cst 0 0 1=(0 : Rat) := by decide +kernel
theorem qG_c20 : cst 0 1 1=(1 : Rat) := by decide +kernel
def qG_A : List AV := [(false,[(true,[.inr (2,0,0,0,0),.inr (2,1,0,0,0),.inr (2,2,0,0,0)])]),(false,[(true,[.inr (2,3,0,0,0),.inr (2,4,0,0,0),.inr (2,5,0,0,0),.inr (2,6,0,0,0)])]),(false,[(true,[.inr (2,7,0,0,0),.inr (2,8,0,0,0),.inr (2,9,0,0,0)])])]
theorem qG_f0 {z0 z1 z2 z3 z4 z5 z6 z7 z8 z9 z10 z11 z12 z13 z14 z15 z16 z17 z18 z19 z20 z21 z22 z23 z24 z25 z26 z27 z28 z29 z30 z31 z32 z33 z34 z35 z36 z37 z38 z39 z40 z41 z42 z51 z52 z53 z54 z55 z56 z57 z58 z59 z60 z61 z62 z63 z64 z65 z66 z67 z68 z69 z70 z71 z72 z73 z74 z75 z76 z77 z78 z79 z80 z81 z82 z83 z84 z85 z86 z95 z96 z97 z98 z99 z100 z101 z102 z103 z104 z105 z106 z107 z108 z109 z110 z111 z112 z113 z114 z115 z116 z117 z118 z119 z120 z121 z122 z123 z124 z125 z126 z127 z128 z137 z138 z139 z140 z141 z142 z143 z144 z145 z146 z147 z148 z149 z150 z151 z152 z153 z154 z155 z156 z157 z158 z159 z160 z161 z162 z163 z164 z165 z166 z167 z168 z169 z170 z171 z172 z173 z174 z175 z176 z177 z178 z179 z180 z181 z182 z183 z184 z185 z186 z187 z188 z189 z190 z191 z192 z193 z194 z195 z196 z197 z198 z199 z200 z201 z202 z203 z204 z205 z206 z207 z208 z209 z210 z211 z212 z213 z214 z215 z216 z217 z218 z219 z220 z221 z222 z223 z224 z225 z226 z227 z228 z229 z230 z231 z232 z233 z234 z235 z236 z237 z238 z239 z240 z241 z242 z243 z244 z245 z246 z247 z248 z249 z250 z251 z252 z253 z254 z255 z256 z257 : Rat} : z4=z0*fac [z0,z1,z2,z3]→z5=z1*fac [z0,z1,z2,z3]→z6=z2*fac [z0,z1,z2,z3]→z7=z3*fac [z0,z1,z2,z3]→z8=0→z9=z8-z5→z10=z8-z6→z11=z8-z7→z12=z4*z4→z13=z5*z5→z14=z8+z13→z15=z6*z6→z16=z14+z15→z17=z7*z7→z18=z16+z17→z19=z12+z18→z20=1→z21=z4*z8→z22=z5*z20→z23=z8+z22→z24=z6*z8→z25=z23+z24→z26=z7*z8→z27=z25+z26→z28=z21-z27→z29=z20*z4→z30=z8*z4→z31=z5*z8→z32=z29+z31→z33=z30+z24→z34=z30+z26→z35=z24-z26→z36=z7*z20→z37=z36-z31→z38=z6*z20→z39=z31-z38→z40=z32+z35→z41=z33+z37→z42=z34+z39→z51=z9*z28→z52=z10*z28→z53=z11*z28→z54=z40*z4→z55=z41*z4→z56=z42*z4→z57=z51+z54→z58=z52+z55→z59=z53+z56→z60=z41*z11→z61=z42*z10→z62=z60-z61→z63=z42*z9→z64=z40*z11→z65=z63-z64→z66=z40*z10→z67=z41*z9→z68=z66-z67→z69=z57+z62→z70=z58+z65→z71=z59+z68→z72=z69/z19→z73=z70/z19→z74=z71/z19→z75=z8+z31→z76=z75+z38→z77=z76+z26→z78=z21-z77→z79=z30+z31→z80=z29+z24→z81=z24-z36→z82=z26-z31→z83=z22-z24→z84=z79+z81→z85=z80+z82→z86=z34+z83→z95=z9*z78→z96=z10*z78→z97=z11*z78→z98=z84*z4→z99=z85*z4→z100=z86*z4→z101=z95+z98→z102=z96+z99→z103=z97+z100→z104=z85*z11→z105=z86*z10→z106=z104-z105→z107=z86*z9→z108=z84*z11→z109=z107-z108→z110=z84*z10→z111=z85*z9→z112=z110-z111→z113=z101+z106→z114=z102+z109→z115=z103+z112→z116=z113/z19→z117=z114/z19→z118=z115/z19→z119=z75+z24→z120=z119+z36→z121=z21-z120→z122=z29+z26→z123=z38-z26→z124=z26-z22→z125=z31-z24→z126=z79+z123→z127=z33+z124→z128=z122+z125→z137=z9*z121→z138=z10*z121→z139=z11*z121→z140=z126*z4→z141=z127*z4→z142=z128*z4→z143=z137+z140→z144=z138+z141→z145=z139+z142→z146=z127*z11→z147=z128*z10→z148=z146-z147→z149=z128*z9→z150=z126*z11→z151=z149-z150→z152=z126*z10→z153=z127*z9→z154=z152-z153→z155=z143+z148→z156=z144+z151→z157=z145+z154→z158=z155/z19→z159=z156/z19→z160=z157/z19→z165=z164*z72→z166=z161+z165→z167=z164*z73→z168=z162+z167→z169=z164*z74→z170=z163+z169→z172=z171*z116→z173=z161+z172→z174=z171*z117→z175=z162+z174→z176=z171*z118→z177=z163+z176→z179=z178*z158→z180=z161+z179→z181=z178*z159→z182=z162+z181→z183=z178*z160→z184=z163+z183→z185=z173-z166→z186=z175-z168→z187=z177-z170→z188=z180-z166→z189=z182-z168→z190=z184-z170→z191=z186*z190→z192=z187*z189→z193=z191-z192→z194=z187*z188→z195=z185*z190→z196=z194-z195→z197=z185*z189→z198=z186*z188→z199=z197-z198→z200=z193*z193→z201=z196*z196→z202=z199*z199→z203=z200+z201→z204=z203+z202→z205=z166-z161→z206=z168-z162→z207=z170-z163→z208=z173-z161→z209=z175-z162→z210=z177-z163→z211=z206*z210→z212=z207*z209→z213=z211-z212→z214=z207*z208→z215=z205*z210→z216=z214-z215→z217=z205*z209→z218=z206*z208→z219=z217-z218→z220=z213*z213→z221=z216*z216→z222=z219*z219→z223=z220+z221→z224=z223+z222→z225=z180-z161→z226=z182-z162→z227=z184-z163→z228=z209*z227→z229=z210*z226→z230=z228-z229→z231=z210*z225→z232=z208*z227→z233=z231-z232→z234=z208*z226→z235=z209*z225→z236=z234-z235→z237=z230*z230→z238=z233*z233→z239=z236*z236→z240=z237+z238→z241=z240+z239→z242=z226*z207→z243=z227*z206→z244=z242-z243→z245=z227*z205→z246=z225*z207→z247=z245-z246→z248=z225*z206→z249=z226*z205→z250=z248-z249→z251=z244*z244→z252=z247*z247→z253=z250*z250→z254=z251+z252→z255=z254+z253→z256=z224+z241→z257=z256+z255→(¬ (z19=0))→z204=z257 := by
 intro e4 e5 e6 e7 e8 e9 e10 e11 e12 e13 e14 e15 e16 e17 e18 e19 e20 e21 e22 e23 e24 e25 e26 e27 e28 e29 e30 e31 e32 e33 e34 e35 e36 e37 e38 e39 e40 e41 e42 e51 e52 e53 e54 e55 e56 e57 e58 e59 e60 e61 e62 e63 e64 e65 e66 e67 e68 e69 e70 e71 e72 e73 e74 e75 e76 e77 e78 e79 e80 e81 e82 e83 e84 e85 e86 e95 e96 e97 e98 e99 e100 e101 e102 e103 e104 e105 e106 e107 e108 e109 e110 e111 e112 e113 e114 e115 e116 e117 e118 e119 e120 e121 e122 e123 e124 e125 e126 e127 e128 e137 e138 e139 e140 e141 e142 e143 e144 e145 e146 e147 e148 e149 e150 e151 e152 e153 e154 e155 e156 e157 e158 e159 e160 e165 e166 e167 e168 e169 e170 e172 e173 e174 e175 e176 e177 e179 e180 e181 e182 e183 e184 e185 e186 e187 e188 e189 e190 e191 e192 e193 e194 e195 e196 e197 e198 e199 e200 e201 e202 e203 e204 e205 e206 e207 e208 e209 e210 e211 e212 e213 e214 e215 e216 e217 e218 e219 e220 e221 e222 e223 e224 e225 e226 e227 e228 e229 e230 e231 e232 e233 e234 e235 e236 e237 e238 e239 e240 e241 e242 e243 e244 e245 e246 e247 e248 e249 e250 e251 e252 e253 e254 e255 e256 e257 u0
 have k0_0 : fac [z0,z1,z2,z3]=0→z0=0 := Qp (by simp)
 have k0_1 : fac [z0,z1,z2,z3]=0→z1=0 := Qp (by simp)
 have k0_2 : fac [z0,z1,z2,z3]=0→z2=0 := Qp (by simp)
 have k0_3 : fac [z0,z1,z2,z3]=0→z3=0 := Qp (by simp)
 generalize fac [z0,z1,z2,z3]=g0 at *
 have nx0 : ¬ (((z0=0∧z1=0)∧z2=0)∧z3=0) := by
  rintro ⟨⟨⟨hx0,hx1⟩,hx2⟩,hx3⟩
  first | grind | (subst_vars; grind)
 have iw0 : g0 ≠ 0 := fun hg => nx0 ⟨⟨⟨(k0_0 hg),(k0_1 hg)⟩,(k0_2 hg)⟩,(k0_3 hg)⟩
 obtain ⟨iv0,ih0⟩ : ∃ i,g0*i=1 := ⟨g0⁻¹,Rat.mul_inv_cancel _ iw0⟩
 clear k0_0 k0_1 k0_2 k0_3
 have n19 : z19 ≠ 0 := by grind
 subst_vars; grind
def Mz : List (FuncId × Nat) := [(146,60),(91,61),(82,65)]
def qG_G : Xu := [(108,[qA [5,6,7],(false,[(true,[.inl (.bool false),.inl (.slice none 0 0),.inl (.slice none 0 0)])])],qA [31,24,26]),(50,[qA [4,5,6,7]],qA [19]),(52,[qA [4,5,6,7]],qA [4,9,10,11])]
theorem qG_g0 : Xg (sx Tryz.prog qG_N [] [] Bl Bs Be (prC [32])) Mz 6 3 (qG_G.drop 0)=true := by kernel_rfl
theorem Cr {q : Nat→Rat} {σ : Nat→ByteArray} {w : World} (hσ : ∀ j,(σ j).size≤1048576) (hq : ∀ (a : Nat) nd,qG_N[a]? = some nd→q a=Zg σ q nd) (h0 : ∀ a,qG_N.length≤a→q a=0) (hp : Zf w) : Zl qG_N Bl Bs Be q σ [32] w qG_G := by
 have Y : Hy qG_N [] Bl Bs Be q σ := YD hσ Lh qG_sz qG_lt qG_cn hq h0 trivial
 have hc : ∀ f ∈ ([32] : List FuncId),Closed f := by simp [Xb]
 have hm : (Tryz.prog).follows .mixedOrders=true := by kernel_rfl
 exact (JF (M := qG_G.drop 0) Y hc hm hp 3 qG_g0 Uq)
def qG_H0 : List (Nat × Nat × Nat × Nat) := [(0,19,0,1)]
def qG_H1 : List (Nat × Nat × Nat × Nat) := [(0,19,0,0),(3,204,257,1)]
theorem qG_r0 : (Ql (sx Tryz.prog qG_N qG_H0 [] Bl Bs Be (prC [32])) Mz qG_G 5 [] 6 qG_A [] 0).map (·.1)=some (kB true) := by kernel_rfl
theorem qG_r1 : (Ql (sx Tryz.prog qG_N qG_H1 [(136,[.inr (3,7,0,0,0),.inr (3,11,0,0,0),.inr (3,12,0,0,0)]),(34,[])] Bl Bs Be (prC [32])) Mz qG_G 7 [] 6 qG_A [] 0).map (·.1)=some (kB true) := by kernel_rfl
theorem qG_An {a b : Prop} (x : a) (y : b) : a∧b := ⟨x,y⟩
theorem LI {M : Xu} {H : List (Nat × Nat × Nat × Nat)} {K : List (FuncId × List AC)} {k : Nat} {q : Nat→Rat} {σ : Nat→ByteArray} {args : List AV} {vs : List Value} {w : World} (hr : (Ql (sx Tryz.prog qG_N H K Bl Bs Be (prC [32])) Mz M k [] 6 args [] 0).map (·.1)=some (kB true)) (hσ : ∀ j,(σ j).size≤1048576) (hq : ∀ (a : Nat) nd,qG_N[a]? = some nd→q a=Zg σ q nd) (h0 : ∀ a,qG_N.length≤a→q a=0) (hH : Ww q H) (hp : Zf w) (hM : Zl qG_N Bl Bs Be q σ [32] w M) (hA : ∀ K,A2 (avOn (cOn (evS q σ) K (fun _ => none) w)) args vs) : Calls Tryz.prog 6 vs.toArray w fun e w' => Below w.heap.size w w'∧e=.returned (.bool true) :=
 Wd k (YD hσ Lh qG_sz qG_lt qG_cn hq h0 hH) (by simp [Xb]) (by kernel_rfl) hp hM hr (hA K)
theorem qG_leafC {H : List (Nat × Nat × Nat × Nat)} {K : List (FuncId × List AC)} {k : Nat} {q : Nat→Rat} {σ : Nat→ByteArray} {args : List AV} {vs : List Value} {w : World} (hr : (QR (sx Tryz.prog qG_N H K Bl Bs Be (prC [32])) Mz k [] 6 args [] 0).map (·.1)=some (kB true)) (hσ : ∀ j,(σ j).size≤1048576) (hq : ∀ (a : Nat) nd,qG_N[a]? = some nd→q a=Zg σ q nd) (h0 : ∀ a,qG_N.length≤a→q a=0) (hH : Ww q H) (hp : Zf w) (hA : ∀ K,A2 (avOn (cOn (evS q σ) K (fun _ => none) w)) args vs) : Calls Tryz.prog 6 vs.toArray w fun e w' => Below w.heap.size w w'∧e=.returned (.bool true) :=
 XB k (YD hσ Lh qG_sz qG_lt qG_cn hq h0 hH) (by simp [Xb]) (by kernel_rfl) hr hp (hA K)
theorem qG_walk {w : World} {ox oy oz gw gx gy gz ka kb kc : ByteArray}  (sox : ox.size≤1048576) (soy : oy.size≤1048576) (soz : oz.size≤1048576) (sgw : gw.size≤1048576) (sgx : gx.size≤1048576) (sgy : gy.size≤1048576) (sgz : gz.size≤1048576) (ska : ka.size≤1048576) (skb : kb.size≤1048576) (skc : kc.size≤1048576) (tab : Tab w) (mx : MaxL w) :
  Calls Tryz.prog 6 #[.agg #[.string ox,.string oy,.string oz],.agg #[.string gw,.string gx,.string gy,.string gz],.agg #[.string ka,.string kb,.string kc]] w fun e w' => Below w.heap.size w w'∧e=.returned (.bool true) := by
 have hσ : ∀ j,(Io [ox,oy,oz,gw,gx,gy,gz,ka,kb,kc] j).size≤1048576 := WM (by simp [sox,soy,soz,sgw,sgx,sgy,sgz,ska,skb,skc])
 obtain ⟨q,hq,h0⟩ := Uw (Io [ox,oy,oz,gw,gx,gy,gz,ka,kb,kc]) qG_N Lh
 have hA : ∀ K,A2 (avOn (cOn (evS q (Io [ox,oy,oz,gw,gx,gy,gz,ka,kb,kc])) K (fun _ => none) w)) [(false,[(true,[.inr (2,0,0,0,0),.inr (2,1,0,0,0),.inr (2,2,0,0,0)])]),(false,[(true,[.inr (2,3,0,0,0),.inr (2,4,0,0,0),.inr (2,5,0,0,0),.inr (2,6,0,0,0)])]),(false,[(true,[.inr (2,7,0,0,0),.inr (2,8,0,0,0),.inr (2,9,0,0,0)])])] [.agg #[.string ox,.string oy,.string oz],.agg #[.string gw,.string gx,.string gy,.string gz],.agg #[.string ka,.string kb,.string kc]] := fun K => ⟨⟨⟨[.string ox,.string oy,.string oz],rfl,rfl,rfl,rfl,trivial⟩,trivial⟩,⟨⟨[.string gw,.string gx,.string gy,.string gz],rfl,rfl,rfl,rfl,rfl,trivial⟩,trivial⟩,⟨⟨[.string ka,.string kb,.string kc],rfl,rfl,rfl,rfl,trivial⟩,trivial⟩,trivial⟩
 have E4 : q 4=q 0*fac [q 0,q 1,q 2,q 3] := hq 4 _ rfl
 have E5 : q 5=q 1*fac [q 0,q 1,q 2,q 3] := hq 5 _ rfl
 have E6 : q 6=q 2*fac [q 0,q 1,q 2,q 3] := hq 6 _ rfl
 have E7 : q 7=q 3*fac [q 0,q 1,q 2,q 3] := hq 7 _ rfl
 have E8 : q 8=0 := (hq 8 _ rfl).trans qG_c8
 have E9 : q 9=q 8-q 5 := hq 9 _ rfl
 have E10 : q 10=q 8-q 6 := hq 10 _ rfl
 have E11 : q 11=q 8-q 7 := hq 11 _ rfl
 have E12 : q 12=q 4*q 4 := hq 12 _ rfl
 have E13 : q 13=q 5*q 5 := hq 13 _ rfl
 have E14 : q 14=q 8+q 13 := hq 14 _ rfl
 have E15 : q 15=q 6*q 6 := hq 15 _ rfl
 have E16 : q 16=q 14+q 15 := hq 16 _ rfl
 have E17 : q 17=q 7*q 7 := hq 17 _ rfl
 have E18 : q 18=q 16+q 17 := hq 18 _ rfl
 have E19 : q 19=q 12+q 18 := hq 19 _ rfl
 have E20 : q 20=1 := (hq 20 _ rfl).trans qG_c20
 have E21 : q 21=q 4*q 8 := hq 21 _ rfl
 have E22 : q 22=q 5*q 20 := hq 22 _ rfl
 have E23 : q 23=q 8+q 22 := hq 23 _ rfl
 have E24 : q 24=q 6*q 8 := hq 24 _ rfl
 have E25 : q 25=q 23+q 24 := hq 25 _ rfl
 have E26 : q 26=q 7*q 8 := hq 26 _ rfl
 have E27 : q 27=q 25+q 26 := hq 27 _ rfl
 have E28 : q 28=q 21-q 27 := hq 28 _ rfl
 have E29 : q 29=q 20*q 4 := hq 29 _ rfl
 have E30 : q 30=q 8*q 4 := hq 30 _ rfl
 have E31 : q 31=q 5*q 8 := hq 31 _ rfl
 have E32 : q 32=q 29+q 31 := hq 32 _ rfl
 have E33 : q 33=q 30+q 24 := hq 33 _ rfl
 have E34 : q 34=q 30+q 26 := hq 34 _ rfl
 have E35 : q 35=q 24-q 26 := hq 35 _ rfl
 have E36 : q 36=q 7*q 20 := hq 36 _ rfl
 have E37 : q 37=q 36-q 31 := hq 37 _ rfl
 have E38 : q 38=q 6*q 20 := hq 38 _ rfl
 have E39 : q 39=q 31-q 38 := hq 39 _ rfl
 have E40 : q 40=q 32+q 35 := hq 40 _ rfl
 have E41 : q 41=q 33+q 37 := hq 41 _ rfl
 have E42 : q 42=q 34+q 39 := hq 42 _ rfl
 have E51 : q 51=q 9*q 28 := hq 51 _ rfl
 have E52 : q 52=q 10*q 28 := hq 52 _ rfl
 have E53 : q 53=q 11*q 28 := hq 53 _ rfl
 have E54 : q 54=q 40*q 4 := hq 54 _ rfl
 have E55 : q 55=q 41*q 4 := hq 55 _ rfl
 have E56 : q 56=q 42*q 4 := hq 56 _ rfl
 have E57 : q 57=q 51+q 54 := hq 57 _ rfl
 have E58 : q 58=q 52+q 55 := hq 58 _ rfl
 have E59 : q 59=q 53+q 56 := hq 59 _ rfl
 have E60 : q 60=q 41*q 11 := hq 60 _ rfl
 have E61 : q 61=q 42*q 10 := hq 61 _ rfl
 have E62 : q 62=q 60-q 61 := hq 62 _ rfl
 have E63 : q 63=q 42*q 9 := hq 63 _ rfl
 have E64 : q 64=q 40*q 11 := hq 64 _ rfl
 have E65 : q 65=q 63-q 64 := hq 65 _ rfl
 have E66 : q 66=q 40*q 10 := hq 66 _ rfl
 have E67 : q 67=q 41*q 9 := hq 67 _ rfl
 have E68 : q 68=q 66-q 67 := hq 68 _ rfl
 have E69 : q 69=q 57+q 62 := hq 69 _ rfl
 have E70 : q 70=q 58+q 65 := hq 70 _ rfl
 have E71 : q 71=q 59+q 68 := hq 71 _ rfl
 have E72 : q 72=q 69/q 19 := hq 72 _ rfl
 have E73 : q 73=q 70/q 19 := hq 73 _ rfl
 have E74 : q 74=q 71/q 19 := hq 74 _ rfl
 have E75 : q 75=q 8+q 31 := hq 75 _ rfl
 have E76 : q 76=q 75+q 38 := hq 76 _ rfl
 have E77 : q 77=q 76+q 26 := hq 77 _ rfl
 have E78 : q 78=q 21-q 77 := hq 78 _ rfl
 have E79 : q 79=q 30+q 31 := hq 79 _ rfl
 have E80 : q 80=q 29+q 24 := hq 80 _ rfl
 have E81 : q 81=q 24-q 36 := hq 81 _ rfl
 have E82 : q 82=q 26-q 31 := hq 82 _ rfl
 have E83 : q 83=q 22-q 24 := hq 83 _ rfl
 have E84 : q 84=q 79+q 81 := hq 84 _ rfl
 have E85 : q 85=q 80+q 82 := hq 85 _ rfl
 have E86 : q 86=q 34+q 83 := hq 86 _ rfl
 have E95 : q 95=q 9*q 78 := hq 95 _ rfl
 have E96 : q 96=q 10*q 78 := hq 96 _ rfl
 have E97 : q 97=q 11*q 78 := hq 97 _ rfl
 have E98 : q 98=q 84*q 4 := hq 98 _ rfl
 have E99 : q 99=q 85*q 4 := hq 99 _ rfl
 have E100 : q 100=q 86*q 4 := hq 100 _ rfl
 have E101 : q 101=q 95+q 98 := hq 101 _ rfl
 have E102 : q 102=q 96+q 99 := hq 102 _ rfl
 have E103 : q 103=q 97+q 100 := hq 103 _ rfl
 have E104 : q 104=q 85*q 11 := hq 104 _ rfl
 have E105 : q 105=q 86*q 10 := hq 105 _ rfl
 have E106 : q 106=q 104-q 105 := hq 106 _ rfl
 have E107 : q 107=q 86*q 9 := hq 107 _ rfl
 have E108 : q 108=q 84*q 11 := hq 108 _ rfl
 have E109 : q 109=q 107-q 108 := hq 109 _ rfl
 have E110 : q 110=q 84*q 10 := hq 110 _ rfl
 have E111 : q 111=q 85*q 9 := hq 111 _ rfl
 have E112 : q 112=q 110-q 111 := hq 112 _ rfl
 have E113 : q 113=q 101+q 106 := hq 113 _ rfl
 have E114 : q 114=q 102+q 109 := hq 114 _ rfl
 have E115 : q 115=q 103+q 112 := hq 115 _ rfl
 have E116 : q 116=q 113/q 19 := hq 116 _ rfl
 have E117 : q 117=q 114/q 19 := hq 117 _ rfl
 have E118 : q 118=q 115/q 19 := hq 118 _ rfl
 have E119 : q 119=q 75+q 24 := hq 119 _ rfl
 have E120 : q 120=q 119+q 36 := hq 120 _ rfl
 have E121 : q 121=q 21-q 120 := hq 121 _ rfl
 have E122 : q 122=q 29+q 26 := hq 122 _ rfl
 have E123 : q 123=q 38-q 26 := hq 123 _ rfl
 have E124 : q 124=q 26-q 22 := hq 124 _ rfl
 have E125 : q 125=q 31-q 24 := hq 125 _ rfl
 have E126 : q 126=q 79+q 123 := hq 126 _ rfl
 have E127 : q 127=q 33+q 124 := hq 127 _ rfl
 have E128 : q 128=q 122+q 125 := hq 128 _ rfl
 have E137 : q 137=q 9*q 121 := hq 137 _ rfl
 have E138 : q 138=q 10*q 121 := hq 138 _ rfl
 have E139 : q 139=q 11*q 121 := hq 139 _ rfl
 have E140 : q 140=q 126*q 4 := hq 140 _ rfl
 have E141 : q 141=q 127*q 4 := hq 141 _ rfl
 have E142 : q 142=q 128*q 4 := hq 142 _ rfl
 have E143 : q 143=q 137+q 140 := hq 143 _ rfl
 have E144 : q 144=q 138+q 141 := hq 144 _ rfl
 have E145 : q 145=q 139+q 142 := hq 145 _ rfl
 have E146 : q 146=q 127*q 11 := hq 146 _ rfl
 have E147 : q 147=q 128*q 10 := hq 147 _ rfl
 have E148 : q 148=q 146-q 147 := hq 148 _ rfl
 have E149 : q 149=q 128*q 9 := hq 149 _ rfl
 have E150 : q 150=q 126*q 11 := hq 150 _ rfl
 have E151 : q 151=q 149-q 150 := hq 151 _ rfl
 have E152 : q 152=q 126*q 10 := hq 152 _ rfl
 have E153 : q 153=q 127*q 9 := hq 153 _ rfl
 have E154 : q 154=q 152-q 153 := hq 154 _ rfl
 have E155 : q 155=q 143+q 148 := hq 155 _ rfl
 have E156 : q 156=q 144+q 151 := hq 156 _ rfl
 have E157 : q 157=q 145+q 154 := hq 157 _ rfl
 have E158 : q 158=q 155/q 19 := hq 158 _ rfl
 have E159 : q 159=q 156/q 19 := hq 159 _ rfl
 have E160 : q 160=q 157/q 19 := hq 160 _ rfl
 have E165 : q 165=q 164*q 72 := hq 165 _ rfl
 have E166 : q 166=q 161+q 165 := hq 166 _ rfl
 have E167 : q 167=q 164*q 73 := hq 167 _ rfl
 have E168 : q 168=q 162+q 167 := hq 168 _ rfl
 have E169 : q 169=q 164*q 74 := hq 169 _ rfl
 have E170 : q 170=q 163+q 169 := hq 170 _ rfl
 have E172 : q 172=q 171*q 116 := hq 172 _ rfl
 have E173 : q 173=q 161+q 172 := hq 173 _ rfl
 have E174 : q 174=q 171*q 117 := hq 174 _ rfl
 have E175 : q 175=q 162+q 174 := hq 175 _ rfl
 have E176 : q 176=q 171*q 118 := hq 176 _ rfl
 have E177 : q 177=q 163+q 176 := hq 177 _ rfl
 have E179 : q 179=q 178*q 158 := hq 179 _ rfl
 have E180 : q 180=q 161+q 179 := hq 180 _ rfl
 have E181 : q 181=q 178*q 159 := hq 181 _ rfl
 have E182 : q 182=q 162+q 181 := hq 182 _ rfl
 have E183 : q 183=q 178*q 160 := hq 183 _ rfl
 have E184 : q 184=q 163+q 183 := hq 184 _ rfl
 have E185 : q 185=q 173-q 166 := hq 185 _ rfl
 have E186 : q 186=q 175-q 168 := hq 186 _ rfl
 have E187 : q 187=q 177-q 170 := hq 187 _ rfl
 have E188 : q 188=q 180-q 166 := hq 188 _ rfl
 have E189 : q 189=q 182-q 168 := hq 189 _ rfl
 have E190 : q 190=q 184-q 170 := hq 190 _ rfl
 have E191 : q 191=q 186*q 190 := hq 191 _ rfl
 have E192 : q 192=q 187*q 189 := hq 192 _ rfl
 have E193 : q 193=q 191-q 192 := hq 193 _ rfl
 have E194 : q 194=q 187*q 188 := hq 194 _ rfl
 have E195 : q 195=q 185*q 190 := hq 195 _ rfl
 have E196 : q 196=q 194-q 195 := hq 196 _ rfl
 have E197 : q 197=q 185*q 189 := hq 197 _ rfl
 have E198 : q 198=q 186*q 188 := hq 198 _ rfl
 have E199 : q 199=q 197-q 198 := hq 199 _ rfl
 have E200 : q 200=q 193*q 193 := hq 200 _ rfl
 have E201 : q 201=q 196*q 196 := hq 201 _ rfl
 have E202 : q 202=q 199*q 199 := hq 202 _ rfl
 have E203 : q 203=q 200+q 201 := hq 203 _ rfl
 have E204 : q 204=q 203+q 202 := hq 204 _ rfl
 have E205 : q 205=q 166-q 161 := hq 205 _ rfl
 have E206 : q 206=q 168-q 162 := hq 206 _ rfl
 have E207 : q 207=q 170-q 163 := hq 207 _ rfl
 have E208 : q 208=q 173-q 161 := hq 208 _ rfl
 have E209 : q 209=q 175-q 162 := hq 209 _ rfl
 have E210 : q 210=q 177-q 163 := hq 210 _ rfl
 have E211 : q 211=q 206*q 210 := hq 211 _ rfl
 have E212 : q 212=q 207*q 209 := hq 212 _ rfl
 have E213 : q 213=q 211-q 212 := hq 213 _ rfl
 have E214 : q 214=q 207*q 208 := hq 214 _ rfl
 have E215 : q 215=q 205*q 210 := hq 215 _ rfl
 have E216 : q 216=q 214-q 215 := hq 216 _ rfl
 have E217 : q 217=q 205*q 209 := hq 217 _ rfl
 have E218 : q 218=q 206*q 208 := hq 218 _ rfl
 have E219 : q 219=q 217-q 218 := hq 219 _ rfl
 have E220 : q 220=q 213*q 213 := hq 220 _ rfl
 have E221 : q 221=q 216*q 216 := hq 221 _ rfl
 have E222 : q 222=q 219*q 219 := hq 222 _ rfl
 have E223 : q 223=q 220+q 221 := hq 223 _ rfl
 have E224 : q 224=q 223+q 222 := hq 224 _ rfl
 have E225 : q 225=q 180-q 161 := hq 225 _ rfl
 have E226 : q 226=q 182-q 162 := hq 226 _ rfl
 have E227 : q 227=q 184-q 163 := hq 227 _ rfl
 have E228 : q 228=q 209*q 227 := hq 228 _ rfl
 have E229 : q 229=q 210*q 226 := hq 229 _ rfl
 have E230 : q 230=q 228-q 229 := hq 230 _ rfl
 have E231 : q 231=q 210*q 225 := hq 231 _ rfl
 have E232 : q 232=q 208*q 227 := hq 232 _ rfl
 have E233 : q 233=q 231-q 232 := hq 233 _ rfl
 have E234 : q 234=q 208*q 226 := hq 234 _ rfl
 have E235 : q 235=q 209*q 225 := hq 235 _ rfl
 have E236 : q 236=q 234-q 235 := hq 236 _ rfl
 have E237 : q 237=q 230*q 230 := hq 237 _ rfl
 have E238 : q 238=q 233*q 233 := hq 238 _ rfl
 have E239 : q 239=q 236*q 236 := hq 239 _ rfl
 have E240 : q 240=q 237+q 238 := hq 240 _ rfl
 have E241 : q 241=q 240+q 239 := hq 241 _ rfl
 have E242 : q 242=q 226*q 207 := hq 242 _ rfl
 have E243 : q 243=q 227*q 206 := hq 243 _ rfl
 have E244 : q 244=q 242-q 243 := hq 244 _ rfl
 have E245 : q 245=q 227*q 205 := hq 245 _ rfl
 have E246 : q 246=q 225*q 207 := hq 246 _ rfl
 have E247 : q 247=q 245-q 246 := hq 247 _ rfl
 have E248 : q 248=q 225*q 206 := hq 248 _ rfl
 have E249 : q 249=q 226*q 205 := hq 249 _ rfl
 have E250 : q 250=q 248-q 249 := hq 250 _ rfl
 have E251 : q 251=q 244*q 244 := hq 251 _ rfl
 have E252 : q 252=q 247*q 247 := hq 252 _ rfl
 have E253 : q 253=q 250*q 250 := hq 253 _ rfl
 have E254 : q 254=q 251+q 252 := hq 254 _ rfl
 have E255 : q 255=q 254+q 253 := hq 255 _ rfl
 have E256 : q 256=q 224+q 241 := hq 256 _ rfl
 have E257 : q 257=q 256+q 255 := hq 257 _ rfl
 by_cases b19 : q 19=0
 ·
  have hH : Ww q qG_H0 := (qG_An (hT b19) trivial)
  exact LI qG_r0 hσ hq h0 hH ⟨tab,mx⟩ (Cr hσ hq h0 ⟨tab,mx⟩) hA
 ·
  have a_3_204_257 : q 204=q 257 := qG_f0 E4 E5 E6 E7 E8 E9 E10 E11 E12 E13 E14 E15 E16 E17 E18 E19 E20 E21 E22 E23 E24 E25 E26 E27 E28 E29 E30 E31 E32 E33 E34 E35 E36 E37 E38 E39 E40 E41 E42 E51 E52 E53 E54 E55 E56 E57 E58 E59 E60 E61 E62 E63 E64 E65 E66 E67 E68 E69 E70 E71 E72 E73 E74 E75 E76 E77 E78 E79 E80 E81 E82 E83 E84 E85 E86 E95 E96 E97 E98 E99 E100 E101 E102 E103 E104 E105 E106 E107 E108 E109 E110 E111 E112 E113 E114 E115 E116 E117 E118 E119 E120 E121 E122 E123 E124 E125 E126 E127 E128 E137 E138 E139 E140 E141 E142 E143 E144 E145 E146 E147 E148 E149 E150 E151 E152 E153 E154 E155 E156 E157 E158 E159 E160 E165 E166 E167 E168 E169 E170 E172 E173 E174 E175 E176 E177 E179 E180 E181 E182 E183 E184 E185 E186 E187 E188 E189 E190 E191 E192 E193 E194 E195 E196 E197 E198 E199 E200 E201 E202 E203 E204 E205 E206 E207 E208 E209 E210 E211 E212 E213 E214 E215 E216 E217 E218 E219 E220 E221 E222 E223 E224 E225 E226 E227 E228 E229 E230 E231 E232 E233 E234 E235 E236 E237 E238 E239 E240 E241 E242 E243 E244 E245 E246 E247 E248 E249 E250 E251 E252 E253 E254 E255 E256 E257 b19
  have hH : Ww q qG_H1 := (qG_An (hF b19) (qG_An (hT a_3_204_257) trivial))
  exact LI qG_r1 hσ hq h0 hH ⟨tab,mx⟩ (Cr hσ hq h0 ⟨tab,mx⟩) hA
end Go.Proofs.YthagmklephpnhaaGreatDoor
