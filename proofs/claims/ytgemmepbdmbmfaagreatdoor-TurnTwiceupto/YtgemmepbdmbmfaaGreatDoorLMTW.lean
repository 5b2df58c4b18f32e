/- Part 13 of the walks and of the mathematics under them: VP VPC VPD VPE VPF VY VSZ VSA CFturned MTW. -/
import Derived.Test.YtgemmepbdmbmfaaGreatDoorA2
import Derived.Test.YtgemmepbdmbmfaaGreatDoorA12
set_option maxHeartbeats 16000000
set_option maxRecDepth 100000
/- VP -/
namespace Cx
open Go Go.RowKit
abbrev Hs:=List (Nat × Nat × Nat × Nat)
def Sx.plus (S:Sx) (X:Hs):Sx:={ S with H:=X ++ S.H }
abbrev Ask:=Nat × Nat × Nat × Nat
def askZ (a:Nat):Ask:=(0,a,0,a)
def askOk (S:Sx):Ask→Bool
 | (k,a,b,d) => (Nat.beq k 0 && (Nat.beq b 0 && Nat.beq d a)) || (Nat.beq k 3 && (match S.N[d]? with
  | some (op,ar) => Nat.beq op 3 && beqL ar [a,b]
  | none => false))
def acrossB (S:Sx) (a b:Nat):List Nat→List Nat→Option (List Ask)
 | c :: l,d :: m => (S.nd 4 [a,d]).bind fun x => (S.nd 4 [c,b]).bind fun y => (S.nd 3 [x,y]).bind fun z => (acrossB S a b l m).map fun r => (3,x,y,z) :: r
 | _,_ => some []
def alikeB (S:Sx):List Nat→List Nat→List Nat→List Nat→Option (List Ask)
 | pl,pm,a :: l,b :: m => (acrossB S a b pl pm).bind fun r => (alikeB S (pl ++ [a]) (pm ++ [b]) l m).map fun t => r ++ t
 | _,_,_,_ => some []
def sameA (S:Sx):List Nat→List Nat→Option (List Ask)
 | a :: l,b :: m => (S.nd 3 [a,b]).bind fun d => (sameA S l m).map fun r => (3,a,b,d) :: r
 | _,_ => some []
def asks (S:Sx) (h:List HB) (code:Nat) (args:List AV):Option (List Ask) :=
 match code with
 | 60 => arg1 (fun x => (asA x).bind fun cs => (qRow S cs).map fun l => l.map askZ) args
 | 61 => arg1 (fun x => (rowB h 1 x).bind fun p => (mapO (acX 0) p.2).map fun l => l.map askZ) args
 | 62 => arg2 (fun x y => (rowB h 1 x).bind fun p => (mapO (acX 0) p.2).bind fun l => (rowB h 1 y).bind fun p' => (mapO (acX 0) p'.2).bind fun m => alikeB S [] [] l m) args
 | 63 => arg1 (fun x => (asA x).bind fun cs => (mapO acTold cs).bind fun l => (plainOf S l).map fun xs => xs.map askZ) args
 | 67 => arg1 (fun x => (asA x).bind fun cs => (mapO (txNode S) (cs.take 3)).map fun l => l.map askZ) args
 | 65 => arg1 (fun x => (asA x).bind fun cs => (mapO (acX 0) cs).map fun l => l.map askZ) args
 | 66 => arg2 (fun x y => (asA x).bind fun cs => (asA y).bind fun ds => (mapO (acX 0) cs).bind fun l => (mapO (acX 0) ds).bind fun m => sameA S l m) args
 | 64 => arg1 (fun x => (asA x).bind fun cs => (qRow S cs).map fun l => (l.take 5).map askZ) args
 | _ => none
def splits:List Ask→Hs→List Hs
 | [],_ => []
 | (k,a,b,_) :: l,X => ((k,a,b,0) :: X) :: splits l ((k,a,b,1) :: X)
def allZ:List Ask→Hs→Hs
 | [],X => X
 | (k,a,b,_) :: l,X => allZ l ((k,a,b,1) :: X)
def bodyC (S:Sx) (call:CallF):CallF:=fun f args h nx => S.P.funcs[f]?.bind fun fn => fn.body.bind fun c => ifO (Nat.ble args.length fn.ntmps) ((runB S call fn.ntmps c { tm:=numb1 0 args,h:=h,nx:=nx }).bind fun r =>
   ifO (Nat.ble r.1 1) ((mapO (resB S.P r.2) fn.results.toList).map fun xs => (tupB xs,r.2.h,r.2.nx)))
abbrev CRes:=Option (AV × List HB × Nat)
def agree (h:List HB) (b:Bool) (hi:Nat):CRes→Bool
 | some (v,h',nx') => (match asB v with
  | some c => b == c
  | none => false) && (Nat.ble nx' hi && h.all fun x => h'.any fun y => Nat.beq y.1 x.1 && acsW x.2 y.2)
 | none => false
def topN:Nat→List CRes→Nat
 | m,[] => m
 | m,some p :: rs => topN (bif Nat.ble m p.2.2 then p.2.2 else m) rs
 | m,none :: rs => topN m rs
def joinC (h:List HB) (nx:Nat) (rs:List CRes):CRes :=
 match rs with
 | some p :: _ => (asB p.1).bind fun b => ifO (rs.all (agree h b (topN nx rs))) (some (kB b,h,topN nx rs))
 | _ => none
def askIt (S:Sx) (X:Hs) (h:List HB) (c:Nat) (args:List AV):Option (List Ask × Nat) :=
 (asks (S.plus X) h c args).bind fun l => ifO (l.all (askOk S)) ((sqN S (l.map (·.2.2.2))).bind fun s => ((S.plus X).kn 0 s 0).map fun r => (l,r))
theorem askIt_some {S:Sx} {X:Hs} {h:List HB} {c:Nat} {args:List AV} {l:List Ask} {r:Nat} (e:askIt S X h c args=some (l,r)):(∀ a ∈ l,askOk S a=true)∧∃ s,sqN S (l.map (·.2.2.2))=some s∧(S.plus X).kn 0 s 0=some r:=by
 unfold askIt at e
 simp only [Option.bind_eq_some_iff,ifO_some,Option.map_eq_some_iff,List.all_eq_true,Prod.mk.injEq] at e
 obtain ⟨l',_,h1,s,h2,r',h3,rfl,rfl⟩:=e
 exact ⟨h1,s,h2,h3⟩
def callC (S:Sx) (cs:List (FuncId × Nat)):Nat→Hs→CallF
 | 0,_,_,_,_,_ => none
 | n+1,X,f,args,h,nx => match prGet f cs with
  | none => bodyC (S.plus X) (callC S cs n X) f args h nx
  | some c => match askIt S X h c args with
   | none => bodyC (S.plus X) (callC S cs n X) f args h nx
   | some (l,r) => bif Nat.beq 1 r then bodyC (S.plus (allZ l X)) (callC S cs n (allZ l X)) f args h nx
    else joinC h nx ((splits l X).map fun X' => bodyC (S.plus X') (callC S cs n X') f args h nx)
section
variable {S:Sx} {E:Ev S.nb} {w0:World}
theorem bodyC_ok {call:CallF} (hm:S.P.follows .mixedOrders=true) (N:Knows S E) (hP:PrimOk S E w0) (hC:CallOk S E w0 call):CallOk S E w0 (bodyC S call):=fun f args h nx p hp γ w vs hi hA hb hlt hf => by
 unfold bodyC at hp
 simp only [Option.bind_eq_some_iff,ifO_some,Option.map_eq_some_iff,Nat.ble_eq] at hp
 obtain ⟨fn,h1,c,h2,h3,⟨e,s'⟩,h4,h5,xs,h6,rfl⟩:=hp
 dsimp only at h5 h6
 rcases (show e=0 ∨ e=1 by omega) with rfl | rfl
 all_goals
  obtain ⟨_,_,r⟩:=runB_ok hm N hP hC c _ _ _ h4
  refine calls_of_wp h1 h2 (r γ _ w _ ⟨hi,fun t v q => ?_,hb,hlt,?_,rfl⟩ hf fun a' w' γ' hef hs => ?_)
  ·obtain ⟨_,q2⟩:=numb1_get q
   rw [Nat.sub_zero] at q2
   obtain ⟨u,hu,hv⟩:=hA.get q2
   have hlt:t < vs.length:=(List.getElem?_eq_some_iff.1 hu).1
   have:(vs.toArray ++ Array.replicate (fn.ntmps - vs.toArray.size) undef).getD t undef=u:=by
    rw [Array.getD_eq_getD_getElem?,Array.getElem?_append_left (by simpa using hlt)]
    simp [hu]
   show avOn _ v ((vs.toArray ++ Array.replicate (fn.ntmps - vs.toArray.size) undef).getD t undef)
   rw [this]
   exact hv
  ·have:=hA.len
   simp
   omega
  ·obtain ⟨v,hv,hx⟩:=results_run hs h6
   exact ⟨hs.df,v,hv,v,γ',rfl,hef,hx,hs.bx⟩
theorem asB_kB {v:AV} {b:Bool} (h:asB v=some b):v=kB b:=by
 unfold asB at h
 rw [Option.bind_eq_some_iff] at h
 obtain ⟨c,h1,h2⟩:=h
 unfold asC at h1
 split at h1
 ·cases h1
  unfold acB at h2
  split at h2
  ·cases h2
   rfl
  ·cases h2
 ·cases h1
theorem agree_some {h:List HB} {b:Bool} {hi:Nat} {r:CRes} (hr:agree h b hi r=true):∃ h' nx',r=some (kB b,h',nx')∧nx'≤hi∧∀ x ∈ h,x ∈ h':=by
 unfold agree at hr
 split at hr
 ·rename_i v h' nx'
  rw [Bool.and_eq_true,Bool.and_eq_true,Nat.ble_eq,List.all_eq_true] at hr
  obtain ⟨h1,h2,h3⟩:=hr
  refine ⟨h',nx',?_,h2,fun x hx => ?_⟩
  ·split at h1
   ·rename_i c hc
    rw [asB_kB hc,show c=b from (by simpa using h1:b=c).symm]
   ·cases h1
  ·have:=h3 x hx
   rw [List.any_eq_true] at this
   obtain ⟨y,hy,e⟩:=this
   rw [Bool.and_eq_true,Nat.beq_eq] at e
   have:x=y:=Prod.ext e.1.symm (acsW_eq e.2)
   rw [this]
   exact hy
 ·cases hr
variable {T:Hs→Prop} {z:Nat→Prop}
def AskTrue (S:Sx) (T:Hs→Prop) (z:Nat→Prop):Prop:=∀ X,T X→∀ a,askOk S a=true→(z a.2.2.2→T ((a.1,a.2.1,a.2.2.1,1) :: X))∧(¬ z a.2.2.2→T ((a.1,a.2.1,a.2.2.1,0) :: X))
theorem allZ_true (hk:AskTrue S T z):∀ {l:List Ask} {X:Hs},T X→(∀ a ∈ l,askOk S a=true)→(∀ a ∈ l,z a.2.2.2)→T (allZ l X)
 | [],_,h,_,_ => h
 | (k,a,b,d) :: l,X,h,ho,hz => allZ_true (l:=l) hk ((hk X h (k,a,b,d) (ho _ List.mem_cons_self)).1 (hz _ List.mem_cons_self)) (fun a ha => ho a (List.mem_cons_of_mem _ ha)) (fun a ha => hz a (List.mem_cons_of_mem _ ha))
theorem splits_true (hk:AskTrue S T z):∀ {l:List Ask} {X:Hs},T X→(∀ a ∈ l,askOk S a=true)→(∃ a ∈ l,¬ z a.2.2.2)→∃ X' ∈ splits l X,T X'
 | [],_,_,_,⟨_,h,_⟩ => by cases h
 | (k,a,b,d) :: l,X,h,ho,hz => by
  by_cases e:z d
  ·obtain ⟨X',h1,h2⟩:=splits_true (l:=l) hk ((hk X h (k,a,b,d) (ho _ List.mem_cons_self)).1 e) (fun a ha => ho a (List.mem_cons_of_mem _ ha)) (by
    obtain ⟨c,hc,hn⟩:=hz
    rcases List.mem_cons.1 hc with rfl | hc
    ·exact (hn e).elim
    ·exact ⟨c,hc,hn⟩)
   exact ⟨X',List.mem_cons_of_mem _ h1,h2⟩
  ·exact ⟨_,List.mem_cons_self,(hk X h (k,a,b,d) (ho _ List.mem_cons_self)).2 e⟩
theorem callC_ok {cs:List (FuncId × Nat)} (hm:S.P.follows .mixedOrders=true) (hN:∀ X,T X→Knows (S.plus X) E) (hP:∀ X,T X→PrimOk (S.plus X) E w0) (hk:AskTrue S T z)
  (hs:∀ X,T X→∀ l s r,sqN S l=some s→(S.plus X).kn 0 s 0=some r→(Nat.beq 1 r=true→∀ d ∈ l,z d)∧(Nat.beq 1 r=false→∃ d ∈ l,¬ z d)):∀ n X,T X→CallOk S E w0 (callC S cs n X)
 | 0,_,_ => fun _ _ _ _ _ h => by cases h
 | n+1,X,hX => fun f args h nx p hp => by
  have body:∀ Y,T Y→CallOk S E w0 (bodyC (S.plus Y) (callC S cs n Y)):=fun Y hY => bodyC_ok (S:=S.plus Y) hm (hN Y hY) (hP Y hY) (callC_ok hm hN hP hk hs n Y hY)
  unfold callC at hp
  split at hp
  ·exact body X hX f args h nx p hp
  ·split at hp
   ·exact body X hX f args h nx p hp
   rename_i l r hk'
   obtain ⟨hl,s,h1,h2⟩:=askIt_some hk'
   have h3:=hp
   obtain ⟨a1,a0⟩:=hs X hX _ s r h1 h2
   cases e:Nat.beq 1 r with
   | true =>
    rw [e] at h3
    exact body _ (allZ_true hk hX hl fun a ha => a1 e _ (List.mem_map_of_mem ha)) f args h nx p h3
   | false =>
    rw [e] at h3
    obtain ⟨d,hd,hz⟩:=a0 e
    obtain ⟨a,ha,rfl⟩:=List.mem_map.1 hd
    obtain ⟨X',m1,m2⟩:=splits_true hk hX hl ⟨a,ha,hz⟩
    replace h3:joinC h nx ((splits l X).map fun X' => bodyC (S.plus X') (callC S cs n X') f args h nx)=some p:=h3
    unfold joinC at h3
    split at h3
    ·rename_i p0 rs hrs
     rw [Option.bind_eq_some_iff] at h3
     obtain ⟨b,hb,h4⟩:=h3
     rw [ifO_some,List.all_eq_true] at h4
     obtain ⟨h5,h6⟩:=h4
     cases h6
     obtain ⟨h',nx',q1,q2,q3⟩:=agree_some (h5 _ (List.mem_map_of_mem m1))
     intro γ w vs hi hA hb hlt hf
     refine (body X' m2 f args h nx _ q1 γ w vs hi hA hb hlt fun b g1 g2 => hf b g1 (Nat.lt_of_lt_of_le g2 q2)).mono ?_
     rintro _ w' ⟨r',γ',rfl,hef,hv,hx⟩
     exact ⟨r',γ',rfl,hef.wide (Nat.le_refl _) q2,hv,fun x hh => hx x (q3 x hh)⟩
    ·cases h3
end
end Cx
/- VPC -/
namespace Go.Proofs.YtgemmepbdmbmfaaGreatDoor
open Cx Go Go.RowKit
section
variable {N:List Nd} {H:List (Nat × Nat × Nat × Nat)} {K:List (FuncId × List AC)} {L C:List (List Nat × Nat)} {Z:List Nat} {q:Nat→Rat} {σ:Nat→ByteArray} {w0:World} {cl:List FuncId} {cs pr:List (FuncId × Nat)}
theorem kn_cons {k a b k' a' b' r':Nat} {r:Nat} (h:knFrom k a b ((k',a',b',r') :: H)=some r):(k=k'∧a=a'∧b=b'∧r=r') ∨ knFrom k a b H=some r:=by
 unfold knFrom at h
 cases e:(Nat.beq k k' && (Nat.beq a a' && Nat.beq b b')) with
 | true =>
  rw [e] at h
  simp only [Bool.and_eq_true,Nat.beq_eq] at e
  exact Or.inl ⟨e.1,e.2.1,e.2.2,(Option.some.inj h).symm⟩
 | false =>
  rw [e] at h
  exact Or.inr h
theorem Hy.add0 (Y:Hy N H L C Z q σ) {a r:Nat} (h:Nat.beq 1 r=true ↔ q a=0):Hy N ((0,a,0,r) :: H) L C Z q σ where
 nat:=Y.nat
 qs:=Y.qs
 zs:=Y.zs
 par:=Y.par
 lit:=Y.lit
 k0:=fun a' r' g => by
  rcases kn_cons g with ⟨_,e1,_,e2⟩ | g
  ·rw [e1,e2]
   exact h
  ·exact Y.k0 a' r' g
 k1:=fun a' r' g => by
  rcases kn_cons g with ⟨e,_⟩ | g
  ·cases e
  ·exact Y.k1 a' r' g
 k2:=fun a' r' g => by
  rcases kn_cons g with ⟨e,_⟩ | g
  ·cases e
  ·exact Y.k2 a' r' g
 k4:=fun l a' b' r' g1 g => by
  rcases kn_cons g with ⟨e,_⟩ | g
  ·cases e
  ·exact Y.k4 l a' b' r' g1 g
 k3:=fun a' b' r' g => by
  rcases kn_cons g with ⟨e,_⟩ | g
  ·cases e
  ·exact Y.k3 a' b' r' g
 k6:=fun a' b' r' g => by
  rcases kn_cons g with ⟨e,_⟩ | g
  ·cases e
  ·exact Y.k6 a' b' r' g
 k5:=fun a' r' g => by
  rcases kn_cons g with ⟨e,_⟩ | g
  ·cases e
  ·exact Y.k5 a' r' g
theorem Hy.add3 (Y:Hy N H L C Z q σ) {a b r:Nat} (h:Nat.beq 1 r=true ↔ q a=q b):Hy N ((3,a,b,r) :: H) L C Z q σ where
 nat:=Y.nat
 qs:=Y.qs
 zs:=Y.zs
 par:=Y.par
 lit:=Y.lit
 k0:=fun a' r' g => by
  rcases kn_cons g with ⟨e,_⟩ | g
  ·cases e
  ·exact Y.k0 a' r' g
 k1:=fun a' r' g => by
  rcases kn_cons g with ⟨e,_⟩ | g
  ·cases e
  ·exact Y.k1 a' r' g
 k2:=fun a' r' g => by
  rcases kn_cons g with ⟨e,_⟩ | g
  ·cases e
  ·exact Y.k2 a' r' g
 k4:=fun l a' b' r' g1 g => by
  rcases kn_cons g with ⟨e,_⟩ | g
  ·cases e
  ·exact Y.k4 l a' b' r' g1 g
 k3:=fun a' b' r' g => by
  rcases kn_cons g with ⟨_,e1,e2,e3⟩ | g
  ·rw [e1,e2,e3]
   exact h
  ·exact Y.k3 a' b' r' g
 k6:=fun a' b' r' g => by
  rcases kn_cons g with ⟨e,_⟩ | g
  ·cases e
  ·exact Y.k6 a' b' r' g
 k5:=fun a' r' g => by
  rcases kn_cons g with ⟨e,_⟩ | g
  ·cases e
  ·exact Y.k5 a' r' g
theorem ask_true:AskTrue (sx Tryz.prog N H K L C Z pr) (fun X => Hy N (X ++ H) L C Z q σ) (fun d => q d=0):=fun X Y a ha => by
 obtain ⟨k,a,b,d⟩:=a
 have t1:Nat.beq 1 1=true:=rfl
 have t0:Nat.beq 1 0 ≠ true:=fun h => by cases h
 unfold askOk at ha
 rw [Bool.or_eq_true] at ha
 rcases ha with ha | ha
 ·simp only [Bool.and_eq_true,Nat.beq_eq] at ha
  obtain ⟨rfl,rfl,rfl⟩:=ha
  exact ⟨fun h => Hy.add0 Y ⟨fun _ => h,fun _ => t1⟩,fun h => Hy.add0 Y ⟨fun g => (t0 g).elim,fun g => (h g).elim⟩⟩
 ·rw [Bool.and_eq_true,Nat.beq_eq] at ha
  obtain ⟨rfl,hb⟩:=ha
  split at hb
  ·rename_i op ar hn
   rw [Bool.and_eq_true,Nat.beq_eq] at hb
   obtain ⟨rfl,hb⟩:=hb
   have e:=beqL_eq hb
   subst e
   have hv:q d=q a - q b:=Y.nat d _ hn
   have h2:q d=0 ↔ q a=q b:=by
    rw [hv]
    constructor <;> intro h <;> grind
   exact ⟨fun h => Hy.add3 Y ⟨fun _ => h2.1 h,fun _ => t1⟩,fun h => Hy.add3 Y ⟨fun g => (t0 g).elim,fun g => (h (h2.2 g)).elim⟩⟩
  ·cases hb
theorem sq_nn (y:Rat):0≤y*y:=by
 by_cases h:y=0
 ·rw [h,Rat.zero_mul]
  exact Rat.le_refl
 ·exact Rat.le_of_lt (sq1_pos h)
theorem sq_sum {x y:Rat} (hx:0≤x):x+y*y=0 ↔ x=0∧y=0:=by
 constructor
 ·intro h
  have h2:=sq_nn y
  have h3:x=0:=by grind
  refine ⟨h3,?_⟩
  have:y*y=0:=by grind
  rcases Rat.mul_eq_zero.1 this with g | g <;> exact g
 ·rintro ⟨rfl,rfl⟩
  grind
theorem sqF_val {H':List (Nat × Nat × Nat × Nat)} (Y:Hy N H' L C Z q σ):∀ {l:List Nat} {s t:Nat},sqF (sx Tryz.prog N H K L C Z pr) s l=some t→0≤q s→0≤q t∧(q t=0 ↔ q s=0∧∀ d ∈ l,q d=0)
 | [],s,t,h,hs => by
  cases h
  exact ⟨hs,fun e => ⟨e,fun d hd => by cases hd⟩,fun e => e.1⟩
 | a :: l,s,t,h,hs => by
  unfold sqF at h
  simp only [Option.bind_eq_some_iff] at h
  obtain ⟨b,h1,c,h2,h3⟩:=h
  have e1:q b=q a*q a:=Hy.nd (H:=H') (K:=K) (pr:=pr) Y h1
  have e2:q c=q s+q b:=Hy.nd (H:=H') (K:=K) (pr:=pr) Y h2
  have n:=sq_nn (q a)
  obtain ⟨g1,g2⟩:=sqF_val Y h3 (by grind)
  refine ⟨g1,g2.trans ?_⟩
  have e3:=sq_sum (y:=q a) hs
  rw [e2,e1,e3]
  constructor
  ·rintro ⟨⟨x,y⟩,z⟩
   refine ⟨x,fun d hd => ?_⟩
   rcases List.mem_cons.1 hd with rfl | hd
   ·exact y
   ·exact z d hd
  ·rintro ⟨x,y⟩
   exact ⟨⟨x,y a List.mem_cons_self⟩,fun d hd => y d (List.mem_cons_of_mem _ hd)⟩
theorem sqN_val {H':List (Nat × Nat × Nat × Nat)} (Y:Hy N H' L C Z q σ) {l:List Nat} {s:Nat} (h:sqN (sx Tryz.prog N H K L C Z pr) l=some s):q s=0 ↔ ∀ d ∈ l,q d=0:=by
 unfold sqN at h
 split at h
 ·cases h
 ·rename_i a l
  rw [Option.bind_eq_some_iff] at h
  obtain ⟨b,h1,h2⟩:=h
  have e1:q b=q a*q a:=Hy.nd (H:=H') (K:=K) (pr:=pr) Y h1
  have n:=sq_nn (q a)
  obtain ⟨_,g⟩:=sqF_val Y h2 (by grind)
  rw [g,e1]
  constructor
  ·rintro ⟨x,y⟩ d hd
   rcases List.mem_cons.1 hd with rfl | hd
   ·rcases Rat.mul_eq_zero.1 x with x | x <;> exact x
   ·exact y d hd
  ·intro y
   refine ⟨?_,fun d hd => y d (List.mem_cons_of_mem _ hd)⟩
   rw [y a List.mem_cons_self,Rat.zero_mul]
theorem run_cases {f:FuncId} {args:List AV} {vs:List Value} {k:Nat} {p:List HB × Nat} {b:Bool} (Y:Hy N H L C Z q σ) (hm:(Tryz.prog).follows .mixedOrders=true) {w:World} (hP:∀ H',Hy N H' L C Z q σ→PrimOk (sx Tryz.prog N H' K L C Z pr) (evS q σ) w) (hr:callC (sx Tryz.prog N H K L C Z pr) cs k [] f args [] 0=some (kB b,p))
  (hA:A2 (avOn (cOn (evS q σ) K (fun _ => none) w)) args vs):Calls Tryz.prog f vs.toArray w fun e w' => Below w.heap.size w w'∧e=.returned (.bool b):=by
 refine (callC_ok (S:=sx Tryz.prog N H K L C Z pr) (E:=evS q σ) (w0:=w) (T:=fun X => Hy N (X ++ H) L C Z q σ) (z:=fun d => q d=0) hm (fun X hX => knows hX) (fun X hX => hP _ hX) ask_true ?_ k [] Y f args [] 0 (kB b,p) hr (fun _ => none) w vs ⟨Below.refl _ _,(fun _ _ h => by cases h)⟩ hA (fun x hx => by cases hx) (fun x hx => by cases hx) (fun _ _ _ => rfl)).mono ?_
 ·intro X hX l s r h1 h2
  have e:=hX.k0 s r h2
  have g:=sqN_val hX h1
  refine ⟨fun h => g.1 (e.1 h),fun h => ?_⟩
  have hn:¬ ∀ d ∈ l,q d=0:=fun q' => by
   rw [e.2 (g.2 q')] at h
   cases h
  simpa using hn
 ·rintro _ w' ⟨r,γ',rfl,hef,hv,_⟩
  exact ⟨hef.wi.bel,by rw [show r=.bool b from (asC_on (v:=kB b) (c:=.inl (.bool b)) rfl hv).1]⟩
theorem run_toldC {f:FuncId} {args:List AV} {vs:List Value} {k:Nat} {p:List HB × Nat} {b:Bool} (Y:Hy N H L C Z q σ) (hc:∀ f ∈ cl,Closed f) (hm:(Tryz.prog).follows .mixedOrders=true) (hr:callC (sx Tryz.prog N H K L C Z (prC cl)) cs k [] f args [] 0=some (kB b,p)) {w:World} (hp:PreS w)
  (hA:A2 (avOn (cOn (evS q σ) K (fun _ => none) w)) args vs):Calls Tryz.prog f vs.toArray w fun e w' => Below w.heap.size w w'∧e=.returned (.bool b):=run_cases Y hm (fun _ Y' => primOk Y' hp hc) hr hA
theorem run_toldC' {f:FuncId} {args:List AV} {vs:List Value} (k:Nat) (Y:Hy N H L C Z q σ) (hc:∀ f ∈ cl,Closed f) (hm:(Tryz.prog).follows .mixedOrders=true) (hr:(callC (sx Tryz.prog N H K L C Z (prC cl)) cs k [] f args [] 0).map (·.1)=some (kB true)) {w:World} (hp:PreS w)
  (hA:A2 (avOn (cOn (evS q σ) K (fun _ => none) w)) args vs):Calls Tryz.prog f vs.toArray w fun e w' => Below w.heap.size w w'∧e=.returned (.bool true):=by
 rw [Option.map_eq_some_iff] at hr
 obtain ⟨⟨v,p⟩,h1,h2⟩:=hr
 dsimp only at h2
 subst h2
 exact run_toldC Y hc hm h1 hp hA
end
end Go.Proofs.YtgemmepbdmbmfaaGreatDoor
/- VPD -/
namespace Cx
open Go Go.RowKit
def a1sB:List A1→List A1→Bool
 | [],[] => true
 | (a,x) :: l,(b,y) :: m => (a == b && acsW x y) && a1sB l m
 | _,_ => false
theorem a1sB_eq:∀ {l m:List A1},a1sB l m=true→l=m
 | [],[],_ => rfl
 | (a,x) :: l,(b,y) :: m,h => by
  unfold a1sB at h
  simp only [Bool.and_eq_true,beq_iff_eq] at h
  obtain ⟨⟨h1,h2⟩,h3⟩:=h
  rw [h1,acsW_eq h2,a1sB_eq h3]
 | [],_ :: _,h => by cases h
 | _ :: _,[],h => by cases h
def avsB:List AV→List AV→Bool
 | [],[] => true
 | (a,x) :: l,(b,y) :: m => (a == b && a1sB x y) && avsB l m
 | _,_ => false
theorem avsB_eq:∀ {l m:List AV},avsB l m=true→l=m
 | [],[],_ => rfl
 | (a,x) :: l,(b,y) :: m,h => by
  unfold avsB at h
  simp only [Bool.and_eq_true,beq_iff_eq] at h
  obtain ⟨⟨h1,h2⟩,h3⟩:=h
  rw [h1,a1sB_eq h2,avsB_eq h3]
 | [],_ :: _,h => by cases h
 | _ :: _,[],h => by cases h
abbrev Memo:=List (FuncId × List AV × AV)
def memoGet (f:FuncId) (args:List AV):Memo→Option AV
 | [] => none
 | (g,bs,v) :: m => bif Nat.beq f g && avsB args bs then some v else memoGet f args m
theorem memoGet_mem {f:FuncId} {args:List AV} {v:AV}:∀ {m:Memo},memoGet f args m=some v→(f,args,v) ∈ m
 | [],h => by cases h
 | (g,bs,u) :: m,h => by
  unfold memoGet at h
  cases e:(Nat.beq f g && avsB args bs) with
  | true =>
   rw [e] at h
   rw [Bool.and_eq_true,Nat.beq_eq] at e
   rw [e.1,avsB_eq e.2,show u=v from Option.some.inj h]
   exact List.mem_cons_self
  | false =>
   rw [e] at h
   exact List.mem_cons_of_mem _ (memoGet_mem h)
def bareC:AC→Bool
 | .inl _ => true
 | .inr (k,_) => Nat.ble k 2
def bareV (v:AV):Bool:=v.2.all fun x => x.2.all bareC
def callD (S:Sx) (cs:List (FuncId × Nat)) (M:Memo):Nat→Hs→CallF
 | 0,_,_,_,_,_ => none
 | n+1,X,f,args,h,nx => match memoGet f args M with
  | some v => some (v,h,nx)
  | none => match prGet f cs with
   | none => bodyC (S.plus X) (callD S cs M n X) f args h nx
   | some c => match askIt S X h c args with
    | none => bodyC (S.plus X) (callD S cs M n X) f args h nx
    | some (l,r) => bif Nat.beq 1 r then bodyC (S.plus (allZ l X)) (callD S cs M n (allZ l X)) f args h nx
     else joinC h nx ((splits l X).map fun X' => bodyC (S.plus X') (callD S cs M n X') f args h nx)
def MemoOk (S:Sx) (E:Ev S.nb) (w0:World) (M:Memo):Prop:=∀ f args v,(f,args,v) ∈ M→∀ (γ:Nat→Option Nat) (w:World) (vs:List Value),WI w0 γ w→A2 (avOn (cOn E S.K γ w)) args vs →
 Calls S.P f vs.toArray w fun e w' => ∃ r,e=.returned r∧(∀ wr nx,(∀ b ∈ wr,Live γ b)→Ef S.nb w0 wr nx nx γ w γ w')∧avOn (cOn E S.K γ w') v r
section
variable {S:Sx} {E:Ev S.nb} {w0:World}
theorem bareC_on {K K':List (FuncId × List AC)} {γ γ':Nat→Option Nat} {w:World} {d:Nat} {c:AC} {v:Value} (hc:bareC c=true) (h:cellOn E K γ w d c v):cellOn E K' γ' w d c v:=by
 cases c with
 | inl u =>
  unfold cellOn at h ⊢
  exact h
 | inr t =>
  obtain ⟨k,a,b,n,c⟩:=t
  have hk:k≤2:=by
   unfold bareC at hc
   rw [Nat.ble_eq] at hc
   exact hc
  match k,hk with
  | 0,_ =>
   unfold cellOn at h ⊢
   exact h
  | 1,_ =>
   unfold cellOn at h ⊢
   exact h
  | 2,_ =>
   unfold cellOn at h ⊢
   exact h
theorem A2_imp {α:Type} {R R':α→Value→Prop} {P:α→Prop} (h:∀ a v,P a→R a v→R' a v):∀ {l:List α} {vs:List Value},(∀ a ∈ l,P a)→A2 R l vs→A2 R' l vs
 | [],[],_,_ => trivial
 | _ :: _,_ :: _,hp,q => ⟨h _ _ (hp _ List.mem_cons_self) q.1,A2_imp h (fun a ha => hp a (List.mem_cons_of_mem _ ha)) q.2⟩
 | [],_ :: _,_,q => q.elim
 | _ :: _,[],_,q => q.elim
theorem bareV_on {K K':List (FuncId × List AC)} {γ γ':Nat→Option Nat} {w:World} {x:AV} {v:Value} (hx:bareV x=true) (h:avOn (cOn E K γ w) x v):avOn (cOn E K' γ' w) x v:=by
 unfold bareV at hx
 rw [List.all_eq_true] at hx
 have one:∀ (y:A1) u,(∀ c ∈ y.2,bareC c=true)→a1On (cOn E K γ w) y u→a1On (cOn E K' γ' w) y u:=fun y u hy q => by
  obtain ⟨b,cs⟩:=y
  cases b with
  | true =>
   obtain ⟨us,e,q⟩:=q
   exact ⟨us,e,A2_imp (P:=fun c => bareC c=true) (fun _ _ hc q => bareC_on hc q) hy q⟩
  | false => exact A2_imp (P:=fun c => bareC c=true) (fun _ _ hc q => bareC_on hc q) hy q
 have all:∀ y ∈ x.2,∀ c ∈ y.2,bareC c=true:=fun y hy c hc => (List.all_eq_true.1 (hx y hy)) c hc
 obtain ⟨b,ys⟩:=x
 cases b with
 | true =>
  obtain ⟨us,e,q⟩:=h
  exact ⟨us,e,A2_imp (P:=fun y:A1 => ∀ c ∈ y.2,bareC c=true) (fun y u hy q => one y u hy q) all q⟩
 | false => exact A2_imp (P:=fun y:A1 => ∀ c ∈ y.2,bareC c=true) (fun y u hy q => one y u hy q) all h
variable {T:Hs→Prop} {z:Nat→Prop}
theorem callD_ok {cs:List (FuncId × Nat)} {M:Memo} (hm:S.P.follows .mixedOrders=true) (hM:MemoOk S E w0 M) (hN:∀ X,T X→Knows (S.plus X) E) (hP:∀ X,T X→PrimOk (S.plus X) E w0) (hk:AskTrue S T z)
  (hs:∀ X,T X→∀ l s r,sqN S l=some s→(S.plus X).kn 0 s 0=some r→(Nat.beq 1 r=true→∀ d ∈ l,z d)∧(Nat.beq 1 r=false→∃ d ∈ l,¬ z d)):∀ n X,T X→CallOk S E w0 (callD S cs M n X)
 | 0,_,_ => fun _ _ _ _ _ h => by cases h
 | n+1,X,hX => fun f args h nx p hp => by
  have body:∀ Y,T Y→CallOk S E w0 (bodyC (S.plus Y) (callD S cs M n Y)):=fun Y hY => bodyC_ok (S:=S.plus Y) hm (hN Y hY) (hP Y hY) (callD_ok hm hM hN hP hk hs n Y hY)
  unfold callD at hp
  split at hp
  ·rename_i v hv
   cases hp
   intro γ w vs hi hA hb hlt hf
   refine (hM f args v (memoGet_mem hv) γ w vs hi hA).mono ?_
   rintro _ w' ⟨r,rfl,hef,hr⟩
   have live:∀ b ∈ h.map (·.1),Live γ b:=fun b hb' => by
    obtain ⟨x,hx,rfl⟩:=List.mem_map.1 hb'
    obtain ⟨_,_,_,_,hl,_⟩:=hb x hx
    exact hl
   exact ⟨r,γ,rfl,hef _ _ live,hr,fun x hx => (hef [] nx no_live).box hi (hb x hx) (by simp)⟩
  ·split at hp
   ·exact body X hX f args h nx p hp
   ·split at hp
    ·exact body X hX f args h nx p hp
    rename_i l r hk'
    obtain ⟨hl,s,h1,h2⟩:=askIt_some hk'
    have h3:=hp
    obtain ⟨a1,a0⟩:=hs X hX _ s r h1 h2
    cases e:Nat.beq 1 r with
    | true =>
     rw [e] at h3
     exact body _ (allZ_true hk hX hl fun a ha => a1 e _ (List.mem_map_of_mem ha)) f args h nx p h3
    | false =>
     rw [e] at h3
     obtain ⟨d,hd,hz⟩:=a0 e
     obtain ⟨a,ha,rfl⟩:=List.mem_map.1 hd
     obtain ⟨X',m1,m2⟩:=splits_true hk hX hl ⟨a,ha,hz⟩
     replace h3:joinC h nx ((splits l X).map fun X' => bodyC (S.plus X') (callD S cs M n X') f args h nx)=some p:=h3
     unfold joinC at h3
     split at h3
     ·rename_i p0 rs hrs
      rw [Option.bind_eq_some_iff] at h3
      obtain ⟨b,hb,h4⟩:=h3
      rw [ifO_some,List.all_eq_true] at h4
      obtain ⟨h5,h6⟩:=h4
      cases h6
      obtain ⟨h',nx',q1,q2,q3⟩:=agree_some (h5 _ (List.mem_map_of_mem m1))
      intro γ w vs hi hA hb hlt hf
      refine (body X' m2 f args h nx _ q1 γ w vs hi hA hb hlt fun b g1 g2 => hf b g1 (Nat.lt_of_lt_of_le g2 q2)).mono ?_
      rintro _ w' ⟨r',γ',rfl,hef,hv,hx⟩
      exact ⟨r',γ',rfl,hef.wide (Nat.le_refl _) q2,hv,fun x hh => hx x (q3 x hh)⟩
     ·cases h3
theorem memo_run {K1 K2:List (FuncId × List AC)} {H1 H2:Hs} {M:Memo} {f:FuncId} {args:List AV} {v:AV} {p:List HB × Nat} {call:CallF} (hC:CallOk { S with H:=H1,K:=K1 } E w0 call) (hr:call f args [] 0=some (v,p)) (ha:args.all bareV=true) (hv:bareV v=true) (hM:MemoOk { S with H:=H2,K:=K2 } E w0 M):MemoOk { S with H:=H2,K:=K2 } E w0 ((f,args,v) :: M):=fun g bs u hmem => by
 rcases List.mem_cons.1 hmem with e | hmem
 ·cases e
  intro γ w vs hi hA
  rw [List.all_eq_true] at ha
  refine (hC f args [] 0 (v,p) hr (fun _ => none) w vs ⟨hi.bel,(fun _ _ h => by cases h)⟩ (A2_imp (P:=fun x => bareV x=true) (fun _ _ hx q => bareV_on hx q) ha hA) (fun x hx => by cases hx) (fun x hx => by cases hx) (fun _ _ _ => rfl)).mono ?_
  rintro _ w' ⟨r,γ',rfl,hef,hr,_⟩
  refine ⟨r,rfl,fun wr nx hl => ⟨leG.refl _,fun _ _ => rfl,fun _ _ h => Or.inl h,⟨hef.wi.bel,fun b G q => ⟨(hi.lo b G q).1,Nat.lt_of_lt_of_le (hi.lo b G q).2 hef.gr.size⟩⟩,hef.gr,fun G hG _ => hef.keep G hG (fun b hb => by cases hb),hl⟩,bareV_on hv hr⟩
 ·exact hM g bs u hmem
def memoOne (S:Sx) (cs:List (FuncId × Nat)) (k:Nat):Memo→Bool
 | (f,args,v) :: M => (match callD S cs M k [] f args [] 0 with
  | some (u,_) => avsB [u] [v]
  | none => false) && (args.all bareV && bareV v)
 | [] => false
def memoChk (S:Sx) (cs:List (FuncId × Nat)) (k:Nat):Nat→Memo→Bool
 | 0,_ => true
 | n+1,M => memoOne S cs k M && memoChk S cs k n M.tail
def qA (l:List Nat):AV:=(false,[(true,l.flatMap qCells)])
def tA (l:List Nat):AV:=(false,[(true,l.map fun a => .inr (1,a,0,0,0))])
def pA (l:List Nat):AV:=(false,[(true,l.map fun a => .inr (2,a,0,0,0))])
theorem memo_nil:MemoOk S E w0 []:=fun _ _ _ h => by cases h
end
end Cx
/- VPE -/
namespace Go.Proofs.YtgemmepbdmbmfaaGreatDoor
open Cx Go Go.RowKit
section
variable {N:List Nd} {H:List (Nat × Nat × Nat × Nat)} {K:List (FuncId × List AC)} {L C:List (List Nat × Nat)} {Z:List Nat} {q:Nat→Rat} {σ:Nat→ByteArray} {cl:List FuncId} {cs pr:List (FuncId × Nat)} {M:Memo} {w:World}
theorem callD_told (Y:Hy N H L C Z q σ) (hc:∀ f ∈ cl,Closed f) (hm:(Tryz.prog).follows .mixedOrders=true) (hp:PreS w) (hM:MemoOk (sx Tryz.prog N H K L C Z (prC cl)) (evS q σ) w M) (k:Nat):CallOk (sx Tryz.prog N H K L C Z (prC cl)) (evS q σ) w (callD (sx Tryz.prog N H K L C Z (prC cl)) cs M k []) :=
 callD_ok (S:=sx Tryz.prog N H K L C Z (prC cl)) (E:=evS q σ) (w0:=w) (T:=fun X => Hy N (X ++ H) L C Z q σ) (z:=fun d => q d=0) hm hM (fun X hX => knows hX) (fun X hX => primOk hX hp hc) ask_true (fun X hX l s r h1 h2 => by
  have e:=hX.k0 s r h2
  have g:=sqN_val hX h1
  refine ⟨fun h => g.1 (e.1 h),fun h => ?_⟩
  have hn:¬ ∀ d ∈ l,q d=0:=fun q' => by
   rw [e.2 (g.2 q')] at h
   cases h
  simpa using hn) k [] Y
def MemoAll (N:List Nd) (L C:List (List Nat × Nat)) (Z:List Nat) (q:Nat→Rat) (σ:Nat→ByteArray) (cl:List FuncId) (w:World) (M:Memo):Prop:=∀ H K,MemoOk (sx Tryz.prog N H K L C Z (prC cl)) (evS q σ) w M
theorem memoAll_nil:MemoAll N L C Z q σ cl w []:=fun _ _ => memo_nil
theorem memoAll_cons {H1:List (Nat × Nat × Nat × Nat)} (Y:Hy N H1 L C Z q σ) (hc:∀ f ∈ cl,Closed f) (hm:(Tryz.prog).follows .mixedOrders=true) (hp:PreS w) {f:FuncId} {args:List AV} {v:AV} (k:Nat) (hr:memoOne (sx Tryz.prog N H1 [] L C Z (prC cl)) cs k ((f,args,v) :: M)=true) (hM:MemoAll N L C Z q σ cl w M):MemoAll N L C Z q σ cl w ((f,args,v) :: M):=fun H K => by
 unfold memoOne at hr
 simp only [Bool.and_eq_true] at hr
 obtain ⟨h1,h2,h3⟩:=hr
 split at h1
 ·rename_i u p hu
  have e:=avsB_eq h1
  cases e
  exact memo_run (S:=sx Tryz.prog N H K L C Z (prC cl)) (K1:=[]) (H1:=H1) (K2:=K) (H2:=H) (callD_told (K:=[]) (cs:=cs) Y hc hm hp (hM H1 []) k) hu h2 h3 (hM H K)
 ·cases h1
theorem memoAll_drop {i:Nat} {H1:List (Nat × Nat × Nat × Nat)} (Y:Hy N H1 L C Z q σ) (hc:∀ f ∈ cl,Closed f) (hm:(Tryz.prog).follows .mixedOrders=true) (hp:PreS w) {k:Nat} (hr:memoOne (sx Tryz.prog N H1 [] L C Z (prC cl)) cs k (M.drop i)=true) (hM:MemoAll N L C Z q σ cl w (M.drop (i+1))):MemoAll N L C Z q σ cl w (M.drop i):=by
 rw [← List.tail_drop] at hM
 generalize M.drop i=D at *
 match D with
 | [] => cases hr
 | (f,args,v) :: D => exact memoAll_cons Y hc hm hp k hr hM
theorem memoAll_chk {H1:List (Nat × Nat × Nat × Nat)} (Y:Hy N H1 L C Z q σ) (hc:∀ f ∈ cl,Closed f) (hm:(Tryz.prog).follows .mixedOrders=true) (hp:PreS w) {k:Nat}:∀ (n:Nat) {M:Memo},memoChk (sx Tryz.prog N H1 [] L C Z (prC cl)) cs k n M=true→MemoAll N L C Z q σ cl w (M.drop n)→MemoAll N L C Z q σ cl w M
 | 0,_,_,h => h
 | n+1,M,hr,h => by
  unfold memoChk at hr
  rw [Bool.and_eq_true] at hr
  have h1:=memoAll_chk Y hc hm hp n hr.2 (by rw [List.drop_tail]; exact h)
  exact memoAll_drop (i:=0) Y hc hm hp hr.1 (by rw [Nat.zero_add,List.drop_one]; exact h1)
theorem run_toldD' {f:FuncId} {args:List AV} {vs:List Value} (k:Nat) (Y:Hy N H L C Z q σ) (hc:∀ f ∈ cl,Closed f) (hm:(Tryz.prog).follows .mixedOrders=true) (hp:PreS w) (hM:MemoAll N L C Z q σ cl w M) (hr:(callD (sx Tryz.prog N H K L C Z (prC cl)) cs M k [] f args [] 0).map (·.1)=some (kB true))
  (hA:A2 (avOn (cOn (evS q σ) K (fun _ => none) w)) args vs):Calls Tryz.prog f vs.toArray w fun e w' => Below w.heap.size w w'∧e=.returned (.bool true):=by
 rw [Option.map_eq_some_iff] at hr
 obtain ⟨⟨v,p⟩,h1,h2⟩:=hr
 dsimp only at h2
 subst h2
 refine (callD_told (cs:=cs) Y hc hm hp (hM H K) k f args [] 0 (kB true,p) h1 (fun _ => none) w vs ⟨Below.refl _ _,(fun _ _ h => by cases h)⟩ hA (fun x hx => by cases hx) (fun x hx => by cases hx) (fun _ _ _ => rfl)).mono ?_
 rintro _ w' ⟨r,γ',rfl,hef,hv,_⟩
 exact ⟨hef.wi.bel,by rw [show r=.bool true from (asC_on (v:=kB true) (c:=.inl (.bool true)) rfl hv).1]⟩
end
end Go.Proofs.YtgemmepbdmbmfaaGreatDoor
/- VPF -/
namespace Cx
open Go Go.RowKit
def hbsIn (l m:List HB):Bool:=l.all fun x => m.any fun y => Nat.beq x.1 y.1 && acsW x.2 y.2
theorem hbsIn_mem {l m:List HB} (h:hbsIn l m=true) {x:HB} (hx:x ∈ l):x ∈ m:=by
 unfold hbsIn at h
 rw [List.all_eq_true] at h
 have:=h x hx
 rw [List.any_eq_true] at this
 obtain ⟨y,hy,e⟩:=this
 rw [Bool.and_eq_true,Nat.beq_eq] at e
 rw [show x=y from Prod.ext e.1 (acsW_eq e.2)]
 exact hy
abbrev MemoX:=List (FuncId × List AV × List HB × Nat × AV × List HB × Nat)
def mxGet (f:FuncId) (args:List AV) (h:List HB) (nx:Nat):MemoX→CRes
 | [] => none
 | (g,bs,k,n,p) :: m => bif (Nat.beq f g && Nat.beq nx n) && (avsB args bs && hbsIn k h) then some p else mxGet f args h nx m
section
variable {S:Sx} {E:Ev S.nb} {w0:World}
def CallAt (S:Sx) (E:Ev S.nb) (w0:World) (f:FuncId) (args:List AV) (h:List HB) (nx:Nat) (p:AV × List HB × Nat):Prop:=∀ (γ:Nat→Option Nat) (w:World) (vs:List Value),WI w0 γ w→A2 (avOn (cOn E S.K γ w)) args vs→(∀ x ∈ h,boxOn E S.K γ w x)→(∀ x ∈ h,x.1 < nx)→(∀ b,nx≤b→b < p.2.2→γ b=none) →
 Calls S.P f vs.toArray w fun e w' => ∃ r γ',e=.returned r∧Ef S.nb w0 (h.map (·.1)) nx p.2.2 γ w γ' w'∧avOn (cOn E S.K γ' w') p.1 r∧∀ x ∈ p.2.1,boxOn E S.K γ' w' x
def MemoXOk (S:Sx) (E:Ev S.nb) (w0:World) (B:MemoX):Prop:=∀ f args h nx p,(f,args,h,nx,p) ∈ B→CallAt S E w0 f args h nx p
theorem mxGet_ok:∀ {B:MemoX} {f:FuncId} {args:List AV} {h:List HB} {nx:Nat} {p:AV × List HB × Nat},MemoXOk S E w0 B→mxGet f args h nx B=some p→CallAt S E w0 f args h nx p
 | [],_,_,_,_,_,_,h => by cases h
 | (g,bs,k,n,u) :: m,f,args,h,nx,p,hB,hg => by
  unfold mxGet at hg
  cases e:((Nat.beq f g && Nat.beq nx n) && (avsB args bs && hbsIn k h)) with
  | true =>
   rw [e] at hg
   have hu:u=p:=Option.some.inj hg
   simp only [Bool.and_eq_true,Nat.beq_eq] at e
   obtain ⟨⟨e1,e2⟩,e3,e4⟩:=e
   subst hu e1 e2
   have ea:=avsB_eq e3
   subst ea
   have base:=hB f args k nx u List.mem_cons_self
   intro γ w vs hi hA hb hlt hf
   refine (base γ w vs hi hA (fun x hx => hb x (hbsIn_mem e4 hx)) (fun x hx => hlt x (hbsIn_mem e4 hx)) hf).mono ?_
   rintro _ w' ⟨r,γ',rfl,hef,hr,hx⟩
   refine ⟨r,γ',rfl,hef.more (fun b hb' => ?_) (fun b hb' => ?_),hr,hx⟩
   ·obtain ⟨x,hx',rfl⟩:=List.mem_map.1 hb'
    exact List.mem_map.2 ⟨x,hbsIn_mem e4 hx',rfl⟩
   ·obtain ⟨x,hx',rfl⟩:=List.mem_map.1 hb'
    obtain ⟨_,_,_,_,hl,_⟩:=hb x hx'
    exact hl
  | false =>
   rw [e] at hg
   exact mxGet_ok (fun f' a' h' n' p' hm => hB f' a' h' n' p' (List.mem_cons_of_mem _ hm)) hg
def callE (S:Sx) (cs:List (FuncId × Nat)) (M:Memo) (B:MemoX):Nat→Hs→CallF
 | 0,_,_,_,_,_ => none
 | n+1,X,f,args,h,nx => match memoGet f args M with
  | some v => some (v,h,nx)
  | none => match mxGet f args h nx B with
   | some p => some p
   | none => match prGet f cs with
    | none => bodyC (S.plus X) (callE S cs M B n X) f args h nx
    | some c => match askIt S X h c args with
     | none => bodyC (S.plus X) (callE S cs M B n X) f args h nx
     | some (l,r) => bif Nat.beq 1 r then bodyC (S.plus (allZ l X)) (callE S cs M B n (allZ l X)) f args h nx
      else joinC h nx ((splits l X).map fun X' => bodyC (S.plus X') (callE S cs M B n X') f args h nx)
variable {T:Hs→Prop} {z:Nat→Prop}
theorem callE_ok {cs:List (FuncId × Nat)} {M:Memo} {B:MemoX} (hm:S.P.follows .mixedOrders=true) (hM:MemoOk S E w0 M) (hB:MemoXOk S E w0 B) (hN:∀ X,T X→Knows (S.plus X) E) (hP:∀ X,T X→PrimOk (S.plus X) E w0) (hk:AskTrue S T z)
  (hs:∀ X,T X→∀ l s r,sqN S l=some s→(S.plus X).kn 0 s 0=some r→(Nat.beq 1 r=true→∀ d ∈ l,z d)∧(Nat.beq 1 r=false→∃ d ∈ l,¬ z d)):∀ n X,T X→CallOk S E w0 (callE S cs M B n X)
 | 0,_,_ => fun _ _ _ _ _ h => by cases h
 | n+1,X,hX => fun f args h nx p hp => by
  have body:∀ Y,T Y→CallOk S E w0 (bodyC (S.plus Y) (callE S cs M B n Y)):=fun Y hY => bodyC_ok (S:=S.plus Y) hm (hN Y hY) (hP Y hY) (callE_ok hm hM hB hN hP hk hs n Y hY)
  unfold callE at hp
  split at hp
  ·rename_i v hv
   cases hp
   intro γ w vs hi hA hb hlt hf
   refine (hM f args v (memoGet_mem hv) γ w vs hi hA).mono ?_
   rintro _ w' ⟨r,rfl,hef,hr⟩
   have live:∀ b ∈ h.map (·.1),Live γ b:=fun b hb' => by
    obtain ⟨x,hx,rfl⟩:=List.mem_map.1 hb'
    obtain ⟨_,_,_,_,hl,_⟩:=hb x hx
    exact hl
   exact ⟨r,γ,rfl,hef _ _ live,hr,fun x hx => (hef [] nx no_live).box hi (hb x hx) (by simp)⟩
  ·split at hp
   ·rename_i u hu
    cases hp
    exact mxGet_ok hB hu
   ·split at hp
    ·exact body X hX f args h nx p hp
    ·split at hp
     ·exact body X hX f args h nx p hp
     rename_i l r hk'
     obtain ⟨hl,s,h1,h2⟩:=askIt_some hk'
     have h3:=hp
     obtain ⟨a1,a0⟩:=hs X hX _ s r h1 h2
     cases e:Nat.beq 1 r with
     | true =>
      rw [e] at h3
      exact body _ (allZ_true hk hX hl fun a ha => a1 e _ (List.mem_map_of_mem ha)) f args h nx p h3
     | false =>
      rw [e] at h3
      obtain ⟨d,hd,hz⟩:=a0 e
      obtain ⟨a,ha,rfl⟩:=List.mem_map.1 hd
      obtain ⟨X',m1,m2⟩:=splits_true hk hX hl ⟨a,ha,hz⟩
      replace h3:joinC h nx ((splits l X).map fun X' => bodyC (S.plus X') (callE S cs M B n X') f args h nx)=some p:=h3
      unfold joinC at h3
      split at h3
      ·rename_i p0 rs hrs
       rw [Option.bind_eq_some_iff] at h3
       obtain ⟨b,hb,h4⟩:=h3
       rw [ifO_some,List.all_eq_true] at h4
       obtain ⟨h5,h6⟩:=h4
       cases h6
       obtain ⟨h',nx',q1,q2,q3⟩:=agree_some (h5 _ (List.mem_map_of_mem m1))
       intro γ w vs hi hA hb hlt hf
       refine (body X' m2 f args h nx _ q1 γ w vs hi hA hb hlt fun b g1 g2 => hf b g1 (Nat.lt_of_lt_of_le g2 q2)).mono ?_
       rintro _ w' ⟨r',γ',rfl,hef,hv,hx⟩
       exact ⟨r',γ',rfl,hef.wide (Nat.le_refl _) q2,hv,fun x hh => hx x (q3 x hh)⟩
      ·cases h3
def mxOne (S:Sx) (cs:List (FuncId × Nat)) (M:Memo) (k:Nat):MemoX→Bool
 | (f,args,h,nx,v,h2,n2) :: B => (match callE S cs M B k [] f args h nx with
  | some (u,h3,n3) => avsB [u] [v] && (hbsIn h2 h3 && Nat.beq n3 n2)
  | none => false)
 | [] => false
end
end Cx
namespace Go.Proofs.YtgemmepbdmbmfaaGreatDoor
open Cx Go Go.RowKit
section
variable {N:List Nd} {H:List (Nat × Nat × Nat × Nat)} {K:List (FuncId × List AC)} {L C:List (List Nat × Nat)} {Z:List Nat} {q:Nat→Rat} {σ:Nat→ByteArray} {cl:List FuncId} {cs:List (FuncId × Nat)} {M:Memo} {B:MemoX} {w:World}
theorem callE_told (Y:Hy N H L C Z q σ) (hc:∀ f ∈ cl,Closed f) (hm:(Tryz.prog).follows .mixedOrders=true) (hp:PreS w) (hM:MemoOk (sx Tryz.prog N H K L C Z (prC cl)) (evS q σ) w M) (hB:MemoXOk (sx Tryz.prog N H K L C Z (prC cl)) (evS q σ) w B) (k:Nat):CallOk (sx Tryz.prog N H K L C Z (prC cl)) (evS q σ) w (callE (sx Tryz.prog N H K L C Z (prC cl)) cs M B k []) :=
 callE_ok (S:=sx Tryz.prog N H K L C Z (prC cl)) (E:=evS q σ) (w0:=w) (T:=fun X => Hy N (X ++ H) L C Z q σ) (z:=fun d => q d=0) hm hM hB (fun X hX => knows hX) (fun X hX => primOk hX hp hc) ask_true (fun X hX l s r h1 h2 => by
  have e:=hX.k0 s r h2
  have g:=sqN_val hX h1
  refine ⟨fun h => g.1 (e.1 h),fun h => ?_⟩
  have hn:¬ ∀ d ∈ l,q d=0:=fun q' => by
   rw [e.2 (g.2 q')] at h
   cases h
  simpa using hn) k [] Y
theorem memoX_nil:MemoXOk (sx Tryz.prog N H K L C Z (prC cl)) (evS q σ) w []:=fun _ _ _ _ _ h => by cases h
theorem memoX_drop {i:Nat} (Y:Hy N H L C Z q σ) (hc:∀ f ∈ cl,Closed f) (hm:(Tryz.prog).follows .mixedOrders=true) (hp:PreS w) (hM:MemoAll N L C Z q σ cl w M) {k:Nat} (hr:mxOne (sx Tryz.prog N H K L C Z (prC cl)) cs M k (B.drop i)=true) (hB:MemoXOk (sx Tryz.prog N H K L C Z (prC cl)) (evS q σ) w (B.drop (i+1))):MemoXOk (sx Tryz.prog N H K L C Z (prC cl)) (evS q σ) w (B.drop i):=by
 rw [← List.tail_drop] at hB
 generalize B.drop i=D at *
 match D with
 | [] => cases hr
 | (f,args,h,nx,v,h2,n2) :: D =>
  unfold mxOne at hr
  dsimp only at hr
  split at hr
  ·rename_i u h3 n3 hu
   simp only [Bool.and_eq_true,Nat.beq_eq] at hr
   obtain ⟨g1,g2,g3⟩:=hr
   have e:=avsB_eq g1
   cases e
   subst g3
   have base:=callE_told (cs:=cs) Y hc hm hp (hM H K) hB k f args h nx (v,h3,n3) hu
   intro f' a' h' n' p' hmem
   rcases List.mem_cons.1 hmem with e | hmem
   ·cases e
    intro γ w1 vs hi hA hb hlt hf
    refine (base γ w1 vs hi hA hb hlt hf).mono ?_
    rintro _ w' ⟨r,γ',rfl,hef,hv,hx⟩
    exact ⟨r,γ',rfl,hef,hv,fun x hh => hx x (hbsIn_mem g2 hh)⟩
   ·exact hB f' a' h' n' p' hmem
  ·cases hr
theorem run_toldE' {f:FuncId} {args:List AV} {vs:List Value} (k:Nat) (Y:Hy N H L C Z q σ) (hc:∀ f ∈ cl,Closed f) (hm:(Tryz.prog).follows .mixedOrders=true) (hp:PreS w) (hM:MemoAll N L C Z q σ cl w M) (hB:MemoXOk (sx Tryz.prog N H K L C Z (prC cl)) (evS q σ) w B) (hr:(callE (sx Tryz.prog N H K L C Z (prC cl)) cs M B k [] f args [] 0).map (·.1)=some (kB true))
  (hA:A2 (avOn (cOn (evS q σ) K (fun _ => none) w)) args vs):Calls Tryz.prog f vs.toArray w fun e w' => Below w.heap.size w w'∧e=.returned (.bool true):=by
 rw [Option.map_eq_some_iff] at hr
 obtain ⟨⟨v,p⟩,h1,h2⟩:=hr
 dsimp only at h2
 subst h2
 refine (callE_told (cs:=cs) Y hc hm hp (hM H K) hB k f args [] 0 (kB true,p) h1 (fun _ => none) w vs ⟨Below.refl _ _,(fun _ _ h => by cases h)⟩ hA (fun x hx => by cases hx) (fun x hx => by cases hx) (fun _ _ _ => rfl)).mono ?_
 rintro _ w' ⟨r,γ',rfl,hef,hv,_⟩
 exact ⟨hef.wi.bel,by rw [show r=.bool true from (asC_on (v:=kB true) (c:=.inl (.bool true)) rfl hv).1]⟩
end
end Go.Proofs.YtgemmepbdmbmfaaGreatDoor
/- VY -/
namespace Go.Proofs.YtgemmepbdmbmfaaGreatDoor
open Go.RowKit Cx
theorem den_num (t:Rat):t*(t.den:Rat)=((t.num:Int):Rat):=by
 conv => lhs; lhs; rw [← Rat.mkRat_self t]
 have h0:(t.den:Rat) ≠ 0:=fun h => t.den_nz (by exact_mod_cast h)
 rw [Rat.mkRat_eq_div,Rat.div_mul_cancel h0]
theorem whole {q:Rat} (h:q.den=1):q=((q.num:Int):Rat):=by
 have:=den_num q
 rw [h] at this
 rw [← this]
 show q=q*((1:Nat):Rat)
 exact (Rat.mul_one q).symm
theorem plain_uniq {us:List Rat} {t:Rat} (hU:PlainOk us) (hV:PlainOk (us.map fun u => t*u)):t=1:=by
 have hb:=den_num t
 have key:∀ u ∈ us,(t*u).num*(t.den:Int)=t.num*u.num:=fun u hu => by
  have e1:=whole (hU.den u hu)
  have e2:=whole (hV.den (t*u) (List.mem_map_of_mem (f:=fun u => t*u) hu))
  have e3:(((t*u).num*(t.den:Int):Int):Rat)=((t.num*u.num:Int):Rat):=by
   rw [Rat.intCast_mul,Rat.intCast_mul,← e2,← e1,← hb]
   show t*u*((t.den:Int):Rat)=t*(t.den:Rat)*u
   have:(((t.den:Nat):Int):Rat)=(t.den:Rat):=rfl
   rw [this]
   grind
  exact_mod_cast e3
 have h1:t.den=1:=by
  have:t.den ∣ gN us:=gN_great fun u hu => by
   have hd:(t.den:Int) ∣ t.num*u.num:=⟨(t*u).num,by rw [← key u hu,Int.mul_comm]⟩
   have hd':t.den ∣ t.num.natAbs*u.num.natAbs:=by
    have:=Int.natAbs_dvd_natAbs.2 hd
    rwa [Int.natAbs_natCast,Int.natAbs_mul] at this
   exact Nat.Coprime.dvd_of_dvd_mul_left t.reduced.symm hd'
  rw [hU.gcd] at this
  exact Nat.dvd_one.1 this
 have ht:=whole h1
 have h2:t.num.natAbs=1:=by
  have:t.num.natAbs ∣ gN (us.map fun u => t*u):=gN_great fun v hv => by
   obtain ⟨u,hu,rfl⟩:=List.mem_map.1 hv
   have:=key u hu
   rw [h1] at this
   refine ⟨u.num.natAbs,?_⟩
   rw [← Int.natAbs_mul,← this]
   simp
  rw [hV.gcd] at this
  exact Nat.dvd_one.1 this
 -- the first that is not 0
 have hne:∃ (j:Nat) (hj:j < us.length),us[j] ≠ 0∧∀ (i:Nat) (hi:i < us.length),i < j→us[i]=0:=by
  apply Classical.byContradiction
  intro hn
  have all0:∀ (n j:Nat) (hj:j < us.length),j < n→us[j]=0:=by
   intro n
   induction n with
   | zero => intro j _ h; omega
   | succ n ih =>
    intro j hj hjn
    apply Classical.byContradiction
    intro h
    exact hn ⟨j,hj,h,fun i hi hij => ih i hi (by omega)⟩
  have h0:(0:Nat) ∣ gN us:=gN_great fun u hu => by
   obtain ⟨j,hj,rfl⟩:=List.getElem_of_mem hu
   rw [all0 us.length j hj hj]
   decide
  rw [hU.gcd] at h0
  exact absurd (Nat.zero_dvd.1 h0) (by decide)
 obtain ⟨j,hj,hj1,hj2⟩:=hne
 have p1:=hU.sgn j hj hj2 hj1
 have ht0:t ≠ 0:=fun e => by rw [e] at h2; exact absurd h2 (by decide)
 have p2:=hV.sgn j (by simpa using hj) (fun i hi hij => by
  rw [List.getElem_map,hj2 i (by simpa using hi) hij,Rat.mul_zero]) (by
  rw [List.getElem_map]
  exact fun e => (Rat.mul_eq_zero.1 e).elim ht0 hj1)
 rw [List.getElem_map] at p2
 have hk:=key us[j] (List.getElem_mem hj)
 rw [h1] at hk
 have hk':(t*us[j]).num=t.num*us[j].num:=by simpa using hk
 rw [hk'] at p2
 have ht1:t.num=1:=by
  rcases Int.natAbs_eq t.num with e | e
  ·rw [h2] at e
   exact e
  ·rw [h2] at e
   rw [e] at p2
   omega
 rw [ht,ht1]
 rfl
theorem fac_scale {qs:List Rat} {q0 r:Rat} (h0:q0 ∈ qs) (hz:q0 ≠ 0) (hr:r ≠ 0):r*fac (qs.map fun q => r*q)=fac qs:=by
 have hf:=fac_ne h0 hz
 have hU:=plain_fac h0 hz
 have hV:=plain_fac (qs:=qs.map fun q => r*q) (List.mem_map_of_mem (f:=fun q => r*q) h0) (fun e => (Rat.mul_eq_zero.1 e).elim hr hz)
 have he:(qs.map fun q => r*q).map (fun q => q*fac (qs.map fun q => r*q))=(qs.map (fun q => q*fac qs)).map fun u => (r*fac (qs.map fun q => r*q) / fac qs)*u:=by
  rw [List.map_map,List.map_map]
  apply List.map_congr_left
  intro q _
  show r*q*fac (qs.map fun q => r*q)=r*fac (qs.map fun q => r*q) / fac qs*(q*fac qs)
  generalize fac (qs.map fun q => r*q)=g
  generalize fac qs=f at *
  have:f*f⁻¹=1:=Rat.mul_inv_cancel f hf
  rw [Rat.div_def]
  grind
 rw [he] at hV
 have:=plain_uniq hU hV
 generalize fac (qs.map fun q => r*q)=g at *
 generalize fac qs=f at *
 have h2:r*g / f*f=r*g:=Rat.div_mul_cancel hf
 rw [this] at h2
 grind
end Go.Proofs.YtgemmepbdmbmfaaGreatDoor
/- VSZ -/
namespace Go.Proofs.YtgemmepbdmbmfaaGreatDoor
open Go.RowKit Cx
structure QW (z:Nat) (x:Rat):Prop where
 qs:QS z x
 wh:x.den=1
theorem QW.of {z:Nat} {n:Int} (h:n.natAbs < 2 ^ z) (hz:0 < z):QW z ((n:Int):Rat) :=
 ⟨⟨by simpa using h,by
  show ((n:Int):Rat).den < 2 ^ z
  rw [Rat.den_intCast]
  exact Nat.one_lt_two_pow (by omega)⟩,Rat.den_intCast n⟩
theorem QW.mono {k l:Nat} {x:Rat} (h:QW k x) (hk:k≤l):QW l x:=⟨h.qs.mono hk,h.wh⟩
theorem two_max {a b x y:Nat} (h1:a < 2 ^ x) (h2:b < 2 ^ y):a+b < 2 ^ (Nat.max x y+1):=by
 have e1:2 ^ x≤2 ^ Nat.max x y:=Nat.pow_le_pow_right (by decide) (Nat.le_max_left x y)
 have e2:2 ^ y≤2 ^ Nat.max x y:=Nat.pow_le_pow_right (by decide) (Nat.le_max_right x y)
 rw [Nat.pow_succ]
 omega
theorem QW.add {x y:Nat} {a b:Rat} (h1:QW x a) (h2:QW y b):QW (Nat.max x y+1) (a+b):=by
 rw [whole h1.wh,whole h2.wh,← Rat.intCast_add]
 refine QW.of ?_ (by omega)
 have:=two_max h1.qs.num h2.qs.num
 omega
theorem QW.sub {x y:Nat} {a b:Rat} (h1:QW x a) (h2:QW y b):QW (Nat.max x y+1) (a - b):=by
 rw [whole h1.wh,whole h2.wh,← Rat.intCast_sub]
 refine QW.of ?_ (by omega)
 have:=two_max h1.qs.num h2.qs.num
 omega
theorem QW.mul {x y:Nat} {a b:Rat} (h1:QW x a) (h2:QW y b):QW (x+y) (a*b):=by
 refine ⟨h1.qs.mul h2.qs,?_⟩
 rw [whole h1.wh,whole h2.wh,← Rat.intCast_mul]
 exact Rat.den_intCast _
theorem QW.neg {x:Nat} {a:Rat} (h1:QW x a):QW x (-a):=⟨h1.qs.neg,h1.wh⟩
theorem ten_three:∀ n:Nat,10 ^ n≤2 ^ ((10*n+2) / 3)
 | 0 => by decide
 | 1 => by decide
 | 2 => by decide
 | n+3 => by
  have h:=ten_three n
  have e:(10*(n+3)+2) / 3=(10*n+2) / 3+10:=by omega
  rw [e,Nat.pow_add,Nat.pow_add]
  exact Nat.mul_le_mul h (by decide)
theorem QS.rd3 (l:List UInt8):QS ((10*l.length+2) / 3+5) (Cx.rd l):=by
 have key:∀ {m:List UInt8},digs m=true→dv m < 2 ^ ((10*m.length+2) / 3):=fun {m} h => Nat.lt_of_lt_of_le (dv_lt (digs_all h)) (ten_three _)
 unfold Cx.rd
 split
 ·rename_i h
  rw [Bool.and_eq_true] at h
  have h1:=key h.1
  have h2:=key h.2
  have h3:=up_len (tailOf l)
  have h4:=low_len (tailOf l)
  have h5:=tail_len l
  apply QS.mkr
  ·rw [sg_abs]; exact Nat.lt_of_lt_of_le h1 (Nat.pow_le_pow_right (by decide) (by omega))
  ·exact Nat.lt_of_lt_of_le h2 (Nat.pow_le_pow_right (by decide) (by omega))
 ·exact QS.zero.mono (by omega)
section
variable {N:List Nd} {Z:List Nat} {I:List Bool} {q:Nat→Rat}
end
end Go.Proofs.YtgemmepbdmbmfaaGreatDoor
/- VSA -/
namespace Go.Proofs.YtgemmepbdmbmfaaGreatDoor
open Go.RowKit Cx
def inB:Nat:=3495259
abbrev Atm:=Nat × Nat
def remA (x:Atm):List Atm→Option (List Atm)
 | [] => none
 | y :: l => bif Nat.beq x.1 y.1 && Nat.beq x.2 y.2 then some l else (remA x l).map (y :: ·)
def subA:List Atm→List Atm→Option (List Atm)
 | l,[] => some l
 | l,x :: r => (remA x l).bind fun l' => subA l' r
def leftA:List Atm→List Atm→List Atm
 | _,[] => []
 | U,x :: D => match remA x U with
  | some U' => leftA U' D
  | none => x :: leftA U D
def uniA (E:List (Nat × List Atm)):List Nat→List Atm→List Atm
 | [],U => U
 | a :: l,U => uniA E l (match E[a]? with
  | some p => U ++ leftA U p.2
  | none => U)
def bitA (E:List (Nat × List Atm)) (x:Atm):Nat:=match x.1 with
 | 0 => inB
 | 1 => (match E[x.2]? with
  | some p => p.1
  | none => 1)
 | _ => Nat.log2 x.2+1
def bitL (E:List (Nat × List Atm)):List Atm→Nat
 | [] => 1
 | x :: l => bitA E x+bitL E l
def noneA (l:Option (List Atm)):Bool:=match l with
 | some [] => true
 | _ => false
def saN (E:List (Nat × List Atm)) (k z:Nat) (D:List Atm) (nd:Nd):Bool:=(Nat.blt 0 z && D.all fun x => !Nat.beq x.1 1 || Nat.blt x.2 k) && match nd.1,nd.2 with
 | 0,[_,n,d] => (Nat.blt n (2 ^ z) && Nat.blt 0 d) && noneA (subA D (bif Nat.beq d 1 then [] else [(2,d)]))
 | 1,[j] => Nat.ble inB z && noneA (subA D [(0,j)])
 | 2,[a,b] => (match E[a]?,E[b]? with
  | some p,some r => (match subA D p.2,subA D r.2 with
   | some c,some e => Nat.ble (Nat.max (p.1+bitL E c) (r.1+bitL E e)+1) z
   | _,_ => false)
  | _,_ => false)
 | 3,[a,b] => (match E[a]?,E[b]? with
  | some p,some r => (match subA D p.2,subA D r.2 with
   | some c,some e => Nat.ble (Nat.max (p.1+bitL E c) (r.1+bitL E e)+1) z
   | _,_ => false)
  | _,_ => false)
 | 4,[a,b] => (match E[a]?,E[b]? with
  | some p,some r => (match subA D p.2 with
   | some c => noneA (subA c r.2) && Nat.ble (p.1+r.1) z
   | _ => false)
  | _,_ => false)
 | 5,[a] => (match E[a]? with
  | some p => noneA (subA D p.2) && Nat.ble p.1 z
  | _ => false)
 | 6,[a,b] => (match E[a]?,E[b]?,remA (1,b) D with
  | some p,some r,some D' => (match subA p.2 D' with
   | some c => (match subA r.2 c with
    | some e => Nat.ble (p.1+bitL E e) z
    | none => false)
   | none => false)
  | _,_,_ => false)
 | 8,i :: xs => Nat.beq D.length 0 && (xs.all (fun a => match E[a]? with
   | some p => (subA (uniA E xs []) p.2).isSome
   | none => false) && (match xs[i]? with
   | some a => (match E[a]? with
    | some p => (match subA (uniA E xs []) p.2 with
     | some e => Nat.ble (p.1+bitL E e) z
     | none => false)
    | none => false)
   | none => false))
 | _,_ => false
def saB (E:List (Nat × List Atm)):Nat→List Nd→List (Nat × List Atm)→List Nat→Bool
 | _,[],[],[] => true
 | k,nd :: ns,p :: ps,z :: zs => (saN E k p.1 p.2 nd && (Nat.ble p.1 z && (Nat.ble (bitL E p.2) z && Nat.ble z 1000000000000))) && saB E (k+1) ns ps zs
 | _,_,_,_ => false
theorem saB_get {E:List (Nat × List Atm)}:∀ {ns:List Nd} {ps:List (Nat × List Atm)} {zs:List Nat} {k i:Nat} {nd:Nd},saB E k ns ps zs=true→ns[i]? = some nd→∃ p z,ps[i]? = some p∧zs[i]? = some z∧saN E (k+i) p.1 p.2 nd=true∧p.1≤z∧bitL E p.2≤z∧z≤1000000000000
 | [],_,_,_,_,_,_,h => by simp at h
 | _ :: _,[],_,_,_,_,h,_ => by cases h
 | _ :: _,_ :: _,[],_,_,_,h,_ => by cases h
 | nd' :: ns,p :: ps,z :: zs,k,0,nd,h,e => by
  have:nd'=nd:=by simpa using e
  subst this
  unfold saB at h
  simp only [Bool.and_eq_true,Nat.ble_eq] at h
  exact ⟨p,z,rfl,rfl,h.1.1,h.1.2.1,h.1.2.2.1,h.1.2.2.2⟩
 | nd' :: ns,p :: ps,z :: zs,k,i+1,nd,h,e => by
  unfold saB at h
  rw [Bool.and_eq_true] at h
  obtain ⟨p',z',g1,g2,g3,g4⟩:=saB_get (k:=k+1) (i:=i) h.2 (by simpa using e)
  exact ⟨p',z',by simpa using g1,by simpa using g2,by rw [show k+(i+1)=k+1+i by omega]; exact g3,g4⟩
theorem saB_len {E:List (Nat × List Atm)}:∀ {ns:List Nd} {ps:List (Nat × List Atm)} {zs:List Nat} {k:Nat},saB E k ns ps zs=true→ns.length=ps.length∧ns.length=zs.length
 | [],[],[],_,_ => ⟨rfl,rfl⟩
 | [],[],_ :: _,_,h => by cases h
 | [],_ :: _,_,_,h => by cases h
 | _ :: _,[],_,_,h => by cases h
 | _ :: _,_ :: _,[],_,h => by cases h
 | _ :: _,_ :: _,_ :: _,k,h => by
  unfold saB at h
  rw [Bool.and_eq_true] at h
  have:=saB_len h.2
  exact ⟨congrArg (· + 1) this.1,congrArg (· + 1) this.2⟩
def valA (dn:Nat→Nat) (M:Nat→Rat) (x:Atm):Rat:=match x.1 with
 | 0 => ((dn x.2:Nat):Rat)
 | 1 => if M x.2=0 then 1 else M x.2
 | _ => if x.2=0 then 1 else ((x.2:Nat):Rat)
def proA (dn:Nat→Nat) (M:Nat→Rat):List Atm→Rat
 | [] => 1
 | x :: l => valA dn M x*proA dn M l
theorem remA_pro {dn:Nat→Nat} {M:Nat→Rat} {x:Atm}:∀ {l c:List Atm},remA x l=some c→proA dn M l=valA dn M x*proA dn M c
 | [],_,h => by cases h
 | y :: l,c,h => by
  unfold remA at h
  cases e:(Nat.beq x.1 y.1 && Nat.beq x.2 y.2) with
  | true =>
   rw [e] at h
   cases h
   rw [Bool.and_eq_true,Nat.beq_eq,Nat.beq_eq] at e
   have:x=y:=Prod.ext e.1 e.2
   rw [this]
   rfl
  | false =>
   rw [e] at h
   simp only [cond_false,Option.map_eq_some_iff] at h
   obtain ⟨c',h1,rfl⟩:=h
   show valA dn M y*proA dn M l=valA dn M x*(valA dn M y*proA dn M c')
   rw [remA_pro h1]
   grind
theorem subA_pro {dn:Nat→Nat} {M:Nat→Rat}:∀ {r l c:List Atm},subA l r=some c→proA dn M l=proA dn M r*proA dn M c
 | [],l,c,h => by
  have:l=c:=by simpa [subA] using h
  rw [this]
  exact (Rat.one_mul _).symm
 | x :: r,l,c,h => by
  unfold subA at h
  rw [Option.bind_eq_some_iff] at h
  obtain ⟨l',h1,h2⟩:=h
  rw [remA_pro h1,subA_pro h2]
  exact (Rat.mul_assoc _ _ _).symm
theorem noneA_some {l:Option (List Atm)} (h:noneA l=true):l=some []:=by
 unfold noneA at h
 split at h
 ·rfl
 ·cases h
theorem QW.one {z:Nat} (h:0 < z):QW z 1:=⟨⟨by
  show (1:Int).natAbs < 2 ^ z
  exact Nat.one_lt_two_pow (by omega),by
  show 1 < 2 ^ z
  exact Nat.one_lt_two_pow (by omega)⟩,rfl⟩
theorem QW.zero {z:Nat} (h:0 < z):QW z 0:=⟨⟨by
  show (0:Int).natAbs < 2 ^ z
  exact Nat.two_pow_pos z,by
  show 1 < 2 ^ z
  exact Nat.one_lt_two_pow (by omega)⟩,rfl⟩
theorem QW.nat {z n:Nat} (h:n < 2 ^ z) (hz:0 < z):QW z ((n:Nat):Rat):=by
 have:((n:Nat):Rat)=(((n:Nat):Int):Rat):=(Rat.intCast_natCast n).symm
 rw [this]
 exact QW.of (by simpa using h) hz
section
variable {E:List (Nat × List Atm)} {dn:Nat→Nat} {M:Nat→Rat} {k:Nat}
def BelA (E:List (Nat × List Atm)) (dn:Nat→Nat) (M:Nat→Rat) (q:Nat→Rat) (k:Nat):Prop:=∀ a,a < k→∃ p,E[a]? = some p∧QW p.1 (M a)∧0 < p.1∧(∀ x ∈ p.2,x.1=1→x.2 < a)∧q a*proA dn M p.2=M a
theorem valA_ok {q:Nat→Rat} (hdn:∀ j,0 < dn j∧dn j < 2 ^ inB) (hM:BelA E dn M q k) {x:Atm} (hx:x.1=1→x.2 < k):QW (bitA E x) (valA dn M x)∧valA dn M x ≠ 0:=by
 obtain ⟨i,j⟩:=x
 match i with
 | 0 =>
  show QW inB ((dn j:Nat):Rat)∧((dn j:Nat):Rat) ≠ 0
  refine ⟨QW.nat (hdn j).2 (by unfold inB; omega),fun h => ?_⟩
  have:=(hdn j).1
  have h2:dn j=0:=by exact_mod_cast h
  omega
 | 1 =>
  obtain ⟨p,h1,h2,h3,_⟩:=hM j (hx rfl)
  show QW (match E[j]? with
   | some p => p.1
   | none => 1) (if M j=0 then 1 else M j)∧(if M j=0 then 1 else M j) ≠ 0
  rw [h1]
  by_cases h:M j=0
  ·rw [if_pos h]
   exact ⟨QW.one h3,by decide⟩
  ·rw [if_neg h]
   exact ⟨h2,h⟩
 | i+2 =>
  show QW (Nat.log2 j+1) (if j=0 then 1 else ((j:Nat):Rat))∧(if j=0 then 1 else ((j:Nat):Rat)) ≠ 0
  by_cases h:j=0
  ·rw [if_pos h]
   exact ⟨QW.one (by omega),by decide⟩
  ·rw [if_neg h]
   refine ⟨QW.nat Nat.lt_log2_self (by omega),fun h2 => h ?_⟩
   exact_mod_cast h2
theorem proA_ok {q:Nat→Rat} (hdn:∀ j,0 < dn j∧dn j < 2 ^ inB) (hM:BelA E dn M q k):∀ {l:List Atm},(∀ x ∈ l,x.1=1→x.2 < k)→QW (bitL E l) (proA dn M l)∧proA dn M l ≠ 0
 | [],_ => ⟨QW.one (show 0 < 1 by decide),by show (1:Rat) ≠ 0; decide⟩
 | x :: l,h => by
  have h1:=valA_ok hdn hM (h x List.mem_cons_self)
  have h2:=proA_ok hdn hM (l:=l) fun y hy => h y (List.mem_cons_of_mem _ hy)
  exact ⟨h1.1.mul h2.1,mul_ne h1.2 h2.2⟩
theorem proA_congr {M':Nat→Rat}:∀ {l:List Atm},(∀ x ∈ l,x.1=1→M x.2=M' x.2)→proA dn M l=proA dn M' l
 | [],_ => rfl
 | x :: l,h => by
  show valA dn M x*proA dn M l=valA dn M' x*proA dn M' l
  rw [proA_congr (l:=l) fun y hy => h y (List.mem_cons_of_mem _ hy)]
  have e:valA dn M x=valA dn M' x:=by
   obtain ⟨i,j⟩:=x
   match i with
   | 0 => rfl
   | 1 =>
    have:=h (1,j) List.mem_cons_self rfl
    show (if M j=0 then 1 else M j)=(if M' j=0 then 1 else M' j)
    rw [this]
   | i+2 => rfl
  rw [e]
theorem remA_mem {x y:Atm}:∀ {l c:List Atm},remA x l=some c→y ∈ c→y ∈ l
 | [],_,h,_ => by cases h
 | z :: l,c,h,hy => by
  unfold remA at h
  cases e:(Nat.beq x.1 z.1 && Nat.beq x.2 z.2) with
  | true => rw [e] at h; cases h; exact List.mem_cons_of_mem _ hy
  | false =>
   rw [e] at h
   simp only [cond_false,Option.map_eq_some_iff] at h
   obtain ⟨c',h1,rfl⟩:=h
   rcases List.mem_cons.1 hy with rfl | hy
   ·exact List.mem_cons_self
   ·exact List.mem_cons_of_mem _ (remA_mem h1 hy)
theorem subA_mem {y:Atm}:∀ {r l c:List Atm},subA l r=some c→y ∈ c→y ∈ l
 | [],l,c,h,hy => by
  have:l=c:=by simpa [subA] using h
  rw [this]; exact hy
 | x :: r,l,c,h,hy => by
  unfold subA at h
  rw [Option.bind_eq_some_iff] at h
  obtain ⟨l',h1,h2⟩:=h
  exact remA_mem h1 (subA_mem h2 hy)
theorem nat_ne {n:Nat} (h:n ≠ 0):((n:Nat):Rat) ≠ 0:=fun e => h (by exact_mod_cast e)
theorem mul_low (x:Rat):x*((x.den:Nat):Rat)=((x.num:Int):Rat):=by
 have e:x=((x.num:Int):Rat) / ((x.den:Nat):Rat):=by
  have:=Rat.mkRat_self x
  rw [Rat.mkRat_eq_div] at this
  exact this.symm
 conv => lhs; lhs; rw [e]
 exact Rat.div_mul_cancel (nat_ne x.den_nz)
theorem lD_dvd_of {qs:List Rat} {m M:Nat} (hm:m ∣ M) (h:∀ q ∈ qs,q.den ∣ M):qs.foldl (fun m q => m*(q.den / Nat.gcd m q.den)) m ∣ M:=by
 induction qs generalizing m with
 | nil => exact hm
 | cons q qs ih =>
  rw [List.foldl_cons]
  refine ih ?_ fun p hp => h p (List.mem_cons_of_mem _ hp)
  have e:m*(q.den / Nat.gcd m q.den)=Nat.lcm m q.den:=by
   unfold Nat.lcm
   exact (Nat.mul_div_assoc _ (Nat.gcd_dvd_right _ _)).symm
  rw [e]
  exact Nat.lcm_dvd hm (h q List.mem_cons_self)
theorem den_dvd {x:Rat} {m:Int} (h:(x*((m:Int):Rat)).den=1):x.den ∣ m.natAbs:=by
 have e:=whole h
 generalize (x*((m:Int):Rat)).num=n at e
 have h1:x*((x.den:Nat):Rat)=((x.num:Int):Rat):=mul_low x
 have h2:((x.num:Int):Rat)*((m:Int):Rat)=((n:Int):Rat)*(((x.den:Nat):Int):Rat):=by
  rw [← h1,← e,Rat.intCast_natCast]
  grind
 have h3:x.num*m=n*(x.den:Int):=by exact_mod_cast h2
 have h4:(x.den:Int) ∣ x.num*m:=⟨n,by rw [h3,Int.mul_comm]⟩
 have h5:x.den ∣ x.num.natAbs*m.natAbs:=by
  have:=Int.natAbs_dvd_natAbs.2 h4
  rwa [Int.natAbs_mul,Int.natAbs_natCast] at this
 exact (Nat.Coprime.symm x.reduced).dvd_of_dvd_mul_left h5
theorem fac_whole {qs:List Rat} {x:Rat} {z:Nat} {m:Int} (hx:x ∈ qs) (hm:m ≠ 0) (hall:∀ y ∈ qs,(y*((m:Int):Rat)).den=1) (hz:QW z (x*((m:Int):Rat))):QW z (x*fac qs):=by
 have hl:lD qs ∣ m.natAbs:=lD_dvd_of (Nat.one_dvd _) fun y hy => den_dvd (hall y hy)
 have hd:=fac_den hx
 have hpos:0 < m.natAbs:=Int.natAbs_pos.2 hm
 have hle:lD qs≤m.natAbs:=Nat.le_of_dvd hpos hl
 have hn:(x*fac qs).num.natAbs≤(x*((m:Int):Rat)).num.natAbs:=by
  rw [fac_abs hx]
  have e:=whole hz.wh
  generalize (x*((m:Int):Rat)).num=n at e
  have h1:x*((x.den:Nat):Rat)=((x.num:Int):Rat):=mul_low x
  have h2:((x.num:Int):Rat)*((m:Int):Rat)=((n:Int):Rat)*(((x.den:Nat):Int):Rat):=by
   rw [← h1,← e,Rat.intCast_natCast]
   grind
  have h3:x.num*m=n*(x.den:Int):=by exact_mod_cast h2
  have h4:x.num.natAbs*m.natAbs=n.natAbs*x.den:=by
   have:=congrArg Int.natAbs h3
   rwa [Int.natAbs_mul,Int.natAbs_mul,Int.natAbs_natCast] at this
  obtain ⟨c,hc⟩:=den_dvd (x:=x) (m:=m) (hall x hx)
  have h5:n.natAbs=x.num.natAbs*c:=by
   rw [hc] at h4
   refine Nat.eq_of_mul_eq_mul_right x.den_pos ?_
   rw [← h4]
   rw [Nat.mul_assoc,Nat.mul_comm c]
  show x.num.natAbs / gN qs*(lD qs / x.den)≤n.natAbs
  rw [h5]
  refine Nat.mul_le_mul (Nat.div_le_self _ _) ?_
  have:lD qs / x.den≤m.natAbs / x.den:=Nat.div_le_div_right hle
  rw [hc,Nat.mul_div_cancel_left _ x.den_pos] at this
  exact this
 refine ⟨⟨Nat.lt_of_le_of_lt hn hz.qs.num,?_⟩,hd⟩
 rw [hd]
 have:=hz.qs.den
 rw [hz.wh] at this
 exact this
theorem leftA_mem {y:Atm}:∀ {D U:List Atm},y ∈ leftA U D→y ∈ D
 | [],_,h => by cases h
 | x :: D,U,h => by
  unfold leftA at h
  split at h
  ·exact List.mem_cons_of_mem _ (leftA_mem h)
  ·rcases List.mem_cons.1 h with rfl | h
   ·exact List.mem_cons_self
   ·exact List.mem_cons_of_mem _ (leftA_mem h)
theorem uniA_low {q:Nat→Rat} (hM:BelA E dn M q k):∀ {l:List Nat} {U:List Atm},(∀ c ∈ l,c < k)→(∀ x ∈ U,x.1=1→x.2 < k)→∀ x ∈ uniA E l U,x.1=1→x.2 < k
 | [],_,_,hU => hU
 | a :: l,U,hl,hU => by
  unfold uniA
  refine uniA_low hM (fun c hc => hl c (List.mem_cons_of_mem _ hc)) ?_
  have ha:=hl a List.mem_cons_self
  obtain ⟨p,h1,_,_,h4,_⟩:=hM a ha
  rw [h1]
  intro x hx h
  rcases List.mem_append.1 hx with hx | hx
  ·exact hU x hx h
  ·exact Nat.lt_trans (h4 x (leftA_mem hx) h) ha
theorem node_ok {q:Nat→Rat} {σ:Nat→ByteArray} (hσ:∀ j,(σ j).size≤1048576) (hdn:∀ j,dn j=(Cx.rd (σ j).data.toList).den) (hM:BelA E dn M q k) {z:Nat} {D:List Atm} {nd:Nd} (hwf:wfN k nd=true) (hs:saN E k z D nd=true):QW z (valN σ q nd*proA dn M D)∧0 < z∧∀ x ∈ D,x.1=1→x.2 < k:=by
 have hdn':∀ j,0 < dn j∧dn j < 2 ^ inB:=fun j => by
  rw [hdn j]
  refine ⟨Rat.den_pos _,Nat.lt_of_lt_of_le (QS.rd3 _).den (Nat.pow_le_pow_right (by decide) ?_)⟩
  have:=hσ j
  rw [str_len]
  unfold inB
  omega
 obtain ⟨op,xs⟩:=nd
 unfold saN at hs
 rw [Bool.and_eq_true,Bool.and_eq_true] at hs
 obtain ⟨⟨hz0,hD⟩,hs⟩:=hs
 have hz:0 < z:=by simpa [Nat.blt_eq] using hz0
 have hD':∀ x ∈ D,x.1=1→x.2 < k:=fun x hx h1 => by
  rw [List.all_eq_true] at hD
  have:=hD x hx
  rw [h1] at this
  simpa [Nat.blt_eq] using this
 refine ⟨?_,hz,hD'⟩
 have hlow:∀ {a:Nat} {p:Nat × List Atm},a < k→E[a]? = some p→QW p.1 (M a)∧(∀ x ∈ p.2,x.1=1→x.2 < k)∧q a*proA dn M p.2=M a:=fun {a p} ha hp => by
  obtain ⟨p',h1,h2,_,h4,h5⟩:=hM a ha
  rw [hp] at h1
  cases h1
  exact ⟨h2,fun x hx h => Nat.lt_trans (h4 x hx h) ha,h5⟩
 have hpr:∀ {l:List Atm},(∀ x ∈ l,x.1=1→x.2 < k)→QW (bitL E l) (proA dn M l)∧proA dn M l ≠ 0:=fun h => proA_ok hdn' hM h
 unfold wfN at hwf
 unfold valN
 dsimp only at hs hwf ⊢
 split at hs
 ·rename_i s n d
  simp only [Bool.and_eq_true] at hs
  obtain ⟨⟨h1,h2⟩,h3⟩:=hs
  have h1':n < 2 ^ z:=by simpa [Nat.blt_eq] using h1
  have h2':d ≠ 0:=by
   have:0 < d:=by simpa [Nat.blt_eq] using h2
   omega
  have hp:proA dn M D=((d:Nat):Rat):=by
   have:=subA_pro (dn:=dn) (M:=M) (noneA_some h3)
   rw [this]
   cases e:Nat.beq d 1 with
   | true =>
    rw [Nat.beq_eq] at e
    rw [e]
    show (1:Rat)*1=((1:Nat):Rat)
    rw [Rat.mul_one]
    exact_mod_cast rfl
   | false =>
    show (if d=0 then (1:Rat) else ((d:Nat):Rat))*1*1=_
    rw [if_neg h2',Rat.mul_one,Rat.mul_one]
  show QW z ((if s=0 then mkRat (n:Int) d else mkRat (-(n:Int)) d)*proA dn M D)
  rw [hp]
  have key:∀ m:Int,m.natAbs < 2 ^ z→QW z (mkRat m d*((d:Nat):Rat)):=fun m hm => by
   rw [Rat.mkRat_eq_div,Rat.div_mul_cancel (nat_ne h2')]
   exact QW.of hm hz
  by_cases hs0:s=0
  ·rw [if_pos hs0]
   exact key _ (by simpa using h1')
  ·rw [if_neg hs0]
   exact key _ (by simpa using h1')
 ·rename_i j
  simp only [Bool.and_eq_true,Nat.ble_eq] at hs
  have hp:proA dn M D=(((Cx.rd (σ j).data.toList).den:Nat):Rat):=by
   rw [subA_pro (dn:=dn) (M:=M) (noneA_some hs.2)]
   show ((dn j:Nat):Rat)*1*1=_
   rw [Rat.mul_one,Rat.mul_one,hdn j]
  show QW z (Cx.rd (σ j).data.toList*proA dn M D)
  rw [hp,mul_low]
  refine QW.of (Nat.lt_of_lt_of_le (QS.rd3 _).num (Nat.pow_le_pow_right (by decide) ?_)) hz
  have:=hσ j
  have:=hs.1
  unfold inB at this
  rw [str_len]
  omega
 ·simp only [List.all_cons,List.all_nil,Bool.and_true,Bool.and_eq_true] at hwf
  rename_i a b
  have l1:a < k:=by simpa [Nat.blt_eq] using hwf.1
  have l2:b < k:=by simpa [Nat.blt_eq] using hwf.2
  split at hs
  ·rename_i p r hp hr
   split at hs
   ·rename_i c e hc he
    rw [Nat.ble_eq] at hs
    obtain ⟨a1,a2,a3⟩:=hlow l1 hp
    obtain ⟨b1,b2,b3⟩:=hlow l2 hr
    have hc':=hpr (l:=c) fun x hx => hD' x (subA_mem hc hx)
    have he':=hpr (l:=e) fun x hx => hD' x (subA_mem he hx)
    have e1:(q a+q b)*proA dn M D=M a*proA dn M c+M b*proA dn M e:=by
     rw [Rat.add_mul]
     congr 1
     ·rw [subA_pro hc,← Rat.mul_assoc,a3]
     ·rw [subA_pro he,← Rat.mul_assoc,b3]
    show QW z ((q a+q b)*proA dn M D)
    rw [e1]
    exact ((a1.mul hc'.1).add (b1.mul he'.1)).mono hs
   ·cases hs
  ·cases hs
 ·simp only [List.all_cons,List.all_nil,Bool.and_true,Bool.and_eq_true] at hwf
  rename_i a b
  have l1:a < k:=by simpa [Nat.blt_eq] using hwf.1
  have l2:b < k:=by simpa [Nat.blt_eq] using hwf.2
  split at hs
  ·rename_i p r hp hr
   split at hs
   ·rename_i c e hc he
    rw [Nat.ble_eq] at hs
    obtain ⟨a1,a2,a3⟩:=hlow l1 hp
    obtain ⟨b1,b2,b3⟩:=hlow l2 hr
    have hc':=hpr (l:=c) fun x hx => hD' x (subA_mem hc hx)
    have he':=hpr (l:=e) fun x hx => hD' x (subA_mem he hx)
    have e1:(q a - q b)*proA dn M D=M a*proA dn M c - M b*proA dn M e:=by
     rw [show (q a - q b)*proA dn M D=q a*proA dn M D - q b*proA dn M D by grind]
     congr 1
     ·rw [subA_pro hc,← Rat.mul_assoc,a3]
     ·rw [subA_pro he,← Rat.mul_assoc,b3]
    show QW z ((q a - q b)*proA dn M D)
    rw [e1]
    exact ((a1.mul hc'.1).sub (b1.mul he'.1)).mono hs
   ·cases hs
  ·cases hs
 ·simp only [List.all_cons,List.all_nil,Bool.and_true,Bool.and_eq_true] at hwf
  rename_i a b
  have l1:a < k:=by simpa [Nat.blt_eq] using hwf.1
  have l2:b < k:=by simpa [Nat.blt_eq] using hwf.2
  split at hs
  ·rename_i p r hp hr
   split at hs
   ·rename_i c hc
    rw [Bool.and_eq_true,Nat.ble_eq] at hs
    obtain ⟨a1,a2,a3⟩:=hlow l1 hp
    obtain ⟨b1,b2,b3⟩:=hlow l2 hr
    have e1:q a*q b*proA dn M D=M a*M b:=by
     rw [subA_pro hc,subA_pro (noneA_some hs.1),← a3,← b3]
     show q a*q b*(proA dn M p.2*(proA dn M r.2*1))=_
     grind
    show QW z (q a*q b*proA dn M D)
    rw [e1]
    exact (a1.mul b1).mono hs.2
   ·cases hs
  ·cases hs
 ·simp only [List.all_cons,List.all_nil,Bool.and_true] at hwf
  rename_i a
  have l1:a < k:=by simpa [Nat.blt_eq] using hwf
  split at hs
  ·rename_i p hp
   rw [Bool.and_eq_true,Nat.ble_eq] at hs
   obtain ⟨a1,a2,a3⟩:=hlow l1 hp
   have e1:-q a*proA dn M D=-M a:=by
    rw [subA_pro (noneA_some hs.1),← a3]
    show -q a*(proA dn M p.2*1)=_
    grind
   show QW z (-q a*proA dn M D)
   rw [e1]
   exact a1.neg.mono hs.2
  ·cases hs
 ·simp only [List.all_cons,List.all_nil,Bool.and_true,Bool.and_eq_true] at hwf
  rename_i a b
  have l1:a < k:=by simpa [Nat.blt_eq] using hwf.1
  have l2:b < k:=by simpa [Nat.blt_eq] using hwf.2
  split at hs
  ·rename_i p r D' hp hr hD1
   split at hs
   ·rename_i c hc
    split at hs
    ·rename_i e he
     rw [Nat.ble_eq] at hs
     obtain ⟨a1,a2,a3⟩:=hlow l1 hp
     obtain ⟨b1,b2,b3⟩:=hlow l2 hr
     have he':=hpr (l:=e) fun x hx => b2 x (subA_mem he hx)
     by_cases h0:M b=0
     ·have hb:q b=0:=by
       rw [h0] at b3
       exact (Rat.mul_eq_zero.1 b3).resolve_right (hpr b2).2
      show QW z (q a / q b*proA dn M D)
      rw [hb,Rat.div_def,Rat.inv_zero,Rat.mul_zero,Rat.zero_mul]
      exact QW.zero hz
     ·have hb:q b ≠ 0:=fun h => h0 (by rw [← b3,h,Rat.zero_mul])
      have e1:q a / q b*proA dn M D=M a*proA dn M e:=by
       have e2:proA dn M D=M b*proA dn M D':=by
        rw [remA_pro hD1]
        show (if M b=0 then (1:Rat) else M b)*_=_
        rw [if_neg h0]
       have e3:q a / q b*q b=q a:=Rat.div_mul_cancel hb
       rw [e2,← a3,← b3,subA_pro hc,subA_pro he]
       generalize q a / q b=t at e3
       rw [← e3]
       grind
      show QW z (q a / q b*proA dn M D)
      rw [e1]
      exact (a1.mul he'.1).mono hs
    ·cases hs
   ·cases hs
  ·cases hs
 ·rename_i i ys
  rw [Bool.and_eq_true,Bool.and_eq_true,List.all_eq_true] at hs
  obtain ⟨h1,h2,h3⟩:=hs
  have hD0:D=[]:=by
   rw [Nat.beq_eq] at h1
   exact List.length_eq_zero_iff.1 h1
  have hwf':ys.all (Nat.blt · k)=true:=hwf
  rw [List.all_eq_true] at hwf'
  have hlt:∀ c ∈ ys,c < k:=fun c hc => by simpa [Nat.blt_eq] using hwf' c hc
  split at h3
  ·rename_i a ha
   split at h3
   ·rename_i p hp
    split at h3
    ·rename_i e he
     rw [Nat.ble_eq] at h3
     obtain ⟨hi,ha'⟩:=List.getElem?_eq_some_iff.1 ha
     have hmem:a ∈ ys:=List.mem_of_getElem? ha
     have hg:(ys.map q).getD i 0=q a:=by
      rw [List.getD_eq_getElem?_getD,List.getElem?_map,ha]
      rfl
     show QW z ((ys.map q).getD i 0*fac (ys.map q)*proA dn M D)
     rw [hg,hD0]
     show QW z (q a*fac (ys.map q)*1)
     rw [Rat.mul_one]
     -- what makes all of them whole
     have hU:∀ x ∈ uniA E ys [],x.1=1→x.2 < k:=uniA_low hM hlt (fun x hx => by cases hx)
     have hUp:=hpr hU
     have hw:=whole hUp.1.wh
     generalize hm:(proA dn M (uniA E ys [])).num=m at hw
     have hm0:m ≠ 0:=fun h => hUp.2 (by rw [hw,h]; rfl)
     have hall:∀ y ∈ ys.map q,(y*((m:Int):Rat)).den=1:=fun y hy => by
      obtain ⟨c,hc,rfl⟩:=List.mem_map.1 hy
      have h4:=h2 c hc
      split at h4
      ·rename_i r hr
       obtain ⟨c1,c2,c3⟩:=hlow (hlt c hc) hr
       cases hs2:subA (uniA E ys []) r.2 with
       | none => rw [hs2] at h4; cases h4
       | some f =>
        have hf:=hpr (l:=f) fun x hx => hU x (subA_mem hs2 hx)
        rw [← hw,subA_pro hs2,← Rat.mul_assoc,c3]
        exact (c1.mul hf.1).wh
      ·cases h4
     obtain ⟨a1,a2,a3⟩:=hlow (hlt a hmem) hp
     have he':=hpr (l:=e) fun x hx => hU x (subA_mem he hx)
     refine fac_whole (List.mem_map_of_mem hmem) hm0 hall ?_
     rw [← hw,subA_pro he,← Rat.mul_assoc,a3]
     exact (a1.mul he'.1).mono h3
    ·cases h3
   ·cases h3
  ·cases h3
 ·cases hs
end
theorem QS_over {x m p:Rat} {z y K:Nat} (hm:QW z m) (hp:QW y p) (h0:p ≠ 0) (e:x*p=m) (hz:z≤K) (hy:y≤K):QS K x:=by
 have hw:=whole hp.wh
 generalize p.num=P at hw
 have hP:P ≠ 0:=fun h => h0 (by rw [hw,h]; rfl)
 have hpos:0 < P.natAbs:=Int.natAbs_pos.2 hP
 have hd:x.den ∣ P.natAbs:=den_dvd (x:=x) (m:=P) (by rw [← hw,e]; exact hm.wh)
 have hdle:x.den≤P.natAbs:=Nat.le_of_dvd hpos hd
 have hPlt:P.natAbs < 2 ^ y:=by
  have:=hp.qs.num
  rw [hw,Rat.num_intCast] at this
  exact this
 have hmw:=whole hm.wh
 have hmlt:=hm.qs.num
 generalize m.num=n at hmw hmlt
 have h1:x*((x.den:Nat):Rat)=((x.num:Int):Rat):=mul_low x
 have h2:((x.num:Int):Rat)*((P:Int):Rat)=((n:Int):Rat)*(((x.den:Nat):Int):Rat):=by
  rw [← h1,← hw,← hmw,← e,Rat.intCast_natCast]
  grind
 have h3:x.num*P=n*(x.den:Int):=by exact_mod_cast h2
 have h4:x.num.natAbs*P.natAbs=n.natAbs*x.den:=by
  have:=congrArg Int.natAbs h3
  rwa [Int.natAbs_mul,Int.natAbs_mul,Int.natAbs_natCast] at this
 have h5:x.num.natAbs≤n.natAbs:=by
  refine Nat.le_of_mul_le_mul_right (c:=P.natAbs) ?_ hpos
  rw [h4]
  exact Nat.mul_le_mul_left _ hdle
 exact ⟨Nat.lt_of_lt_of_le (Nat.lt_of_le_of_lt h5 hmlt) (Nat.pow_le_pow_right (by decide) hz),Nat.lt_of_lt_of_le (Nat.lt_of_le_of_lt hdle hPlt) (Nat.pow_le_pow_right (by decide) hy)⟩
section
variable {N:List Nd} {Z:List Nat} {E:List (Nat × List Atm)} {q:Nat→Rat}
theorem sizes_okA {σ:Nat→ByteArray} (hσ:∀ j,(σ j).size≤1048576) (hw:wfB 0 N=true) (hz:saB E 0 N E Z=true) (hq:∀ (a:Nat) nd,N[a]? = some nd→q a=valN σ q nd) (h0:∀ a,N.length≤a→q a=0):(∀ (a:Nat) z,Z[a]? = some z→QS z (q a))∧∀ a,QS 1000000000000 (q a):=by
 have hl:=saB_len hz
 have key:∀ k,k≤N.length→∃ M,BelA E (fun j => (Cx.rd (σ j).data.toList).den) M q k:=by
  intro k
  induction k with
  | zero => exact fun _ => ⟨fun _ => 0,fun a ha => by omega⟩
  | succ k ih =>
   intro hk
   obtain ⟨M,hM⟩:=ih (by omega)
   have hn:N[k]? = some N[k]:=List.getElem?_eq_getElem (by omega)
   obtain ⟨p,z,h1,_,h3,_⟩:=saB_get hz hn
   rw [Nat.zero_add] at h3
   have hwf:=wfB_get hw hn
   rw [Nat.zero_add] at hwf
   obtain ⟨g1,g2,g3⟩:=node_ok hσ (fun _ => rfl) hM hwf h3
   rw [← hq k _ hn] at g1
   refine ⟨fun x => if x=k then q k*proA (fun j => (Cx.rd (σ j).data.toList).den) M p.2 else M x,fun a ha => ?_⟩
   have same:∀ {l:List Atm},(∀ x ∈ l,x.1=1→x.2 < k)→proA (fun j => (Cx.rd (σ j).data.toList).den) (fun x => if x=k then q k*proA (fun j => (Cx.rd (σ j).data.toList).den) M p.2 else M x) l=proA (fun j => (Cx.rd (σ j).data.toList).den) M l:=fun hl => (proA_congr fun x hx h => by
    have:=hl x hx h
    rw [if_neg (by omega)]).symm
   by_cases e:a=k
   ·subst e
    refine ⟨p,h1,?_,g2,g3,?_⟩
    ·show QW p.1 (if a=a then _ else _)
     rw [if_pos rfl]
     exact g1
    ·rw [same g3]
     show _=(if a=a then _ else _)
     rw [if_pos rfl]
   ·obtain ⟨p',f1,f2,f3,f4,f5⟩:=hM a (by omega)
    refine ⟨p',f1,?_,f3,f4,?_⟩
    ·show QW p'.1 (if a=k then _ else M a)
     rw [if_neg e]
     exact f2
    ·rw [same fun x hx h => by have:=f4 x hx h; omega]
     show _=(if a=k then _ else M a)
     rw [if_neg e]
     exact f5
 obtain ⟨M,hM⟩:=key N.length (Nat.le_refl _)
 have hdn:∀ j,0 < (Cx.rd (σ j).data.toList).den∧(Cx.rd (σ j).data.toList).den < 2 ^ inB:=fun j => by
  refine ⟨Rat.den_pos _,Nat.lt_of_lt_of_le (QS.rd3 _).den (Nat.pow_le_pow_right (by decide) ?_)⟩
  have:=hσ j
  rw [str_len]
  unfold inB
  omega
 have h2:∀ (a:Nat) z,Z[a]? = some z→QS z (q a)∧z≤1000000000000:=by
  intro a z ha
  have hlt:a < N.length:=by
   have:=(List.getElem?_eq_some_iff.1 ha).1
   omega
  have hn:N[a]? = some N[a]:=List.getElem?_eq_getElem hlt
  obtain ⟨p,z',h1,h2,_,h4,h5,h6⟩:=saB_get hz hn
  rw [ha] at h2
  cases h2
  obtain ⟨p',f1,f2,f3,f4,f5⟩:=hM a hlt
  rw [h1] at f1
  cases f1
  have hp:=proA_ok hdn hM (l:=p.2) fun x hx h => Nat.lt_trans (f4 x hx h) hlt
  exact ⟨QS_over f2 hp.1 hp.2 f5 h4 h5,h6⟩
 refine ⟨fun a z h => (h2 a z h).1,fun a => ?_⟩
 by_cases ha:a < Z.length
 ·have:=h2 a _ (List.getElem?_eq_getElem ha)
  exact this.1.mono this.2
 ·rw [h0 a (by omega)]
  exact QS.zero.mono (by decide)
theorem hy_ofA {L C:List (List Nat × Nat)} {σ:Nat→ByteArray} {H:List (Nat × Nat × Nat × Nat)} (hσ:∀ j,(σ j).size≤1048576) (hw:wfB 0 N=true) (hz:saB E 0 N E Z=true) (hl:litB N L=true) (hcn:canB N C=true) (hq:∀ (a:Nat) nd,N[a]? = some nd→q a=valN σ q nd) (h0:∀ a,N.length≤a→q a=0) (hH:hAll q H):Hy N H L C Z q σ where
 nat:=hq
 qs:=(sizes_okA hσ hw hz hq h0).2
 zs:=(sizes_okA hσ hw hz hq h0).1
 par:=hσ
 lit:=fun s b h => lit_rd hl hq h
 k0:=fun a r h => kn_at hH h
 k1:=fun a r h => kn_at hH h
 k2:=fun a r h => kn_at hH h
 k3:=fun a b r h => kn_at hH h
 k4:=fun l a b r h1 h2 => by
  have h3:Nat.beq 1 r=true ↔ q a=q b:=kn_at hH h2
  rw [h3,← can_tx hcn hq h1]
  exact ⟨fun e => by rw [e],fun e => tellS_inj (bytesN_inj e)⟩
 k6:=fun a b r h => kn_at hH h
 k5:=fun a r h => kn_at hH h
end
end Go.Proofs.YtgemmepbdmbmfaaGreatDoor
/- CFturned -/
namespace Go.Proofs.YtgemmepbdmbmfaaGreatDoor
open Go.RowKit Cx
theorem closed_turned:Closed 38 :=
 closed_told (N:=[(0,[0,0,1]),(0,[0,1,1]),(0,[0,2,1]),(3,[2,0]),(3,[0,0]),(4,[3,3]),(4,[4,4]),(2,[5,6]),(6,[1,7]),(4,[3,8]),(4,[4,8]),(2,[0,9]),(2,[0,10]),(0,[1,2,1]),(4,[1,1]),(4,[0,0]),(2,[14,15]),(0,[0,4,1]),(4,[17,0]),(4,[18,13]),(3,[16,19]),(5,[0]),(2,[6,6]),(3,[22,1]),(5,[23]),(5,[21]),(5,[24]),(5,[1]),(4,[21,0]),(4,[25,0]),(4,[28,2]),(4,[29,2]),(4,[27,1]),(4,[21,25]),(2,[32,33]),(4,[27,21]),(4,[25,1]),(3,[35,36]),(2,[0,30]),(2,[0,31]),(2,[38,34]),(2,[39,37]),(5,[25]),(5,[42]),(4,[40,21]),(4,[41,43]),(2,[44,45]),(5,[41]),(4,[40,42]),(4,[47,21]),(3,[48,49]),(4,[21,1]),(4,[25,42]),(2,[51,52]),(4,[42,1]),(3,[33,54]),(4,[27,13]),(4,[21,13]),(4,[56,2]),(4,[57,2]),(2,[0,53]),(2,[0,55]),(2,[60,58]),(2,[61,59]),(4,[62,27]),(4,[63,42]),(2,[64,65]),(5,[63]),(4,[62,25]),(4,[67,27]),(3,[68,69]),(2,[46,66]),(2,[50,70]),(4,[26,0]),(4,[73,2]),(4,[0,1]),(4,[0,25]),(2,[75,76]),(4,[0,21]),(3,[78,51]),(2,[0,74]),(2,[80,77]),(2,[38,79]),(4,[81,21]),(4,[82,43]),(2,[83,84]),(5,[82]),(4,[81,42]),(4,[86,21]),(3,[87,88]),(4,[26,1]),(4,[21,42]),(2,[90,91]),(4,[26,25]),(3,[93,36]),(4,[0,13]),(4,[95,2]),(2,[0,92]),(2,[0,94]),(2,[97,96]),(2,[98,96]),(4,[99,27]),(4,[100,42]),(2,[101,102]),(5,[100]),(4,[99,25]),(4,[104,27]),(3,[105,106]),(2,[85,103]),(2,[89,107]),(4,[108,2]),(4,[109,2]),(4,[81,26]),(4,[82,42]),(2,[112,113]),(4,[81,25]),(4,[86,26]),(3,[115,116]),(4,[99,0]),(4,[100,25]),(2,[118,119]),(4,[99,21]),(4,[104,0]),(3,[121,122]),(2,[114,120]),(2,[117,123]),(8,[0,71,110,111,124]),(8,[1,71,110,111,124]),(8,[2,71,110,111,124]),(8,[3,71,110,111,124]),(3,[1,0]),(3,[0,1]),(4,[130,0]),(4,[131,21]),(2,[132,133]),(5,[131]),(4,[135,0]),(3,[132,136]),(5,[134]),(5,[137]),(4,[4,27]),(2,[132,140]),(5,[4]),(4,[130,1]),(4,[142,0]),(3,[143,144]),(5,[141]),(5,[145]),(5,[138]),(5,[139]),(5,[130]),(4,[146,130]),(4,[147,135]),(2,[151,152]),(5,[147]),(4,[146,131]),(4,[154,130]),(3,[155,156]),(4,[148,130]),(4,[149,142]),(2,[158,159]),(5,[149]),(4,[148,4]),(4,[161,130]),(3,[162,163]),(2,[153,160]),(2,[157,164]),(4,[146,138]),(4,[147,149]),(2,[167,168]),(4,[146,139]),(4,[154,138]),(3,[170,171]),(4,[148,146]),(4,[149,154]),(2,[173,174]),(4,[148,147]),(4,[161,146]),(3,[176,177]),(2,[169,175]),(2,[172,178]),(4,[150,130]),(4,[142,135]),(2,[181,182]),(5,[142]),(4,[150,131]),(4,[184,130]),(3,[185,186]),(4,[130,130]),(4,[131,142]),(2,[188,189]),(4,[130,4]),(4,[135,130]),(3,[191,192]),(2,[183,190]),(2,[187,193]),(4,[150,138]),(4,[142,149]),(2,[196,197]),(4,[150,139]),(4,[184,138]),(3,[199,200]),(4,[130,146]),(4,[131,154]),(2,[202,203]),(4,[130,147]),(4,[135,146]),(3,[205,206]),(2,[198,204]),(2,[201,207]),(5,[166]),(5,[210]),(4,[165,165]),(4,[166,211]),(2,[212,213]),(4,[165,210]),(4,[210,165]),(3,[215,216]),(4,[166,166]),(2,[212,218]),(6,[214,219]),(6,[217,219]),(4,[179,165]),(4,[180,211]),(2,[222,223]),(5,[180]),(4,[179,210]),(4,[225,165]),(3,[226,227]),(6,[224,219]),(6,[228,219]),(4,[194,165]),(4,[195,211]),(2,[231,232]),(5,[195]),(4,[194,210]),(4,[234,165]),(3,[235,236]),(6,[233,219]),(6,[237,219]),(4,[208,165]),(4,[209,211]),(2,[240,241]),(5,[209]),(4,[208,210]),(4,[243,165]),(3,[244,245]),(6,[242,219]),(6,[246,219]),(0,[0,1,2]),(0,[1,1,1])]) (H:=[(2,1,0,1),(0,3,0,0),(2,20,0,1),(0,130,0,0),(0,4,0,1),(0,131,0,0),(0,165,0,0),(4,11,249,1),(4,12,0,1),(4,126,2,1),(4,127,250,1),(4,128,0,1),(4,129,0,1),(4,220,1,1),(4,221,0,1),(4,229,0,1),(4,230,0,1),(4,238,0,1),(4,239,0,1),(4,247,1,1),(4,248,0,1)]) (K:=[(232,[.inr (3,76,0,0,0),.inr (3,86,0,0,0)]),(313,[.inr (3,560,0,0,0),.inr (3,561,0,0,0)]),(314,[.inr (3,691,0,0,0),.inr (3,693,0,0,0)])]) (L:=[([48],0),([49],1),([50],2),([45,50],13),([49,47,50],249),([45,49],250)]) (C:=[([49,47,50],249),([48],0),([50],2),([45,49],250),([49],1)]) (Z:=[2,2,3,6,5,12,10,23,25,31,30,34,33,3,4,4,9,4,6,9,19,2,21,24,24,2,24,2,4,4,7,7,4,4,9,4,4,9,10,10,20,20,2,2,22,22,45,20,22,22,45,4,4,9,4,9,5,5,8,8,12,12,21,21,23,23,47,21,23,23,47,93,93,26,29,4,4,9,4,9,32,42,20,44,22,67,20,44,22,67,26,4,31,26,31,5,8,34,34,43,43,45,45,91,43,45,45,91,159,159,162,162,66,22,89,44,44,89,45,45,91,45,45,91,181,181,906,906,906,906,5,5,7,7,15,5,7,15,15,15,7,15,5,7,7,15,15,15,15,15,5,20,20,41,15,20,20,41,20,20,41,15,20,20,41,83,83,30,30,61,30,30,61,30,30,61,30,30,61,123,123,10,10,21,5,10,10,21,10,10,21,10,10,21,43,43,20,20,41,20,20,41,20,20,41,20,20,41,83,83,83,83,166,166,333,166,166,333,166,333,666,666,206,206,413,123,206,206,413,746,746,126,126,253,43,126,126,253,586,586,166,166,333,83,166,166,333,666,666,3,2]) (cl:=[]) 8 (fun _ h => by cases h) (by kernel_rfl) (by kernel_rfl) (by kernel_rfl) (by kernel_rfl) (by kernel_rfl) (by kernel_rfl) (by kernel_rfl)
end Go.Proofs.YtgemmepbdmbmfaaGreatDoor
/- MTW -/
namespace Go.Proofs.YtgemmepbdmbmfaaGreatDoor
open Go.RowKit Cx
def tW_N:List Nd:=[(1,[0]),(1,[1]),(1,[2]),(1,[3]),(1,[4]),(3,[3,0]),(3,[4,1]),(4,[5,5]),(4,[6,6]),(2,[7,8]),(1,[8]),(1,[9]),(1,[10]),(1,[11]),(4,[11,11]),(4,[12,12]),(2,[14,15]),(0,[0,4,1]),(4,[17,10]),(4,[18,13]),(3,[16,19]),(5,[12]),(0,[0,1,1]),(0,[0,0,1]),(3,[23,0]),(3,[23,1]),(4,[24,24]),(4,[25,25]),(2,[26,27]),(3,[28,2]),(5,[29]),(5,[1]),(5,[0]),(5,[31]),(5,[30]),(5,[23]),(5,[22]),(0,[0,2,1]),(4,[32,10]),(4,[33,10]),(4,[38,37]),(4,[39,37]),(5,[21]),(4,[36,11]),(4,[35,42]),(2,[43,44]),(5,[35]),(4,[36,21]),(4,[46,11]),(3,[47,48]),(2,[23,40]),(2,[23,41]),(2,[50,45]),(2,[51,49]),(5,[33]),(5,[54]),(4,[52,32]),(4,[53,55]),(2,[56,57]),(5,[53]),(4,[52,54]),(4,[59,32]),(3,[60,61]),(5,[42]),(4,[32,11]),(4,[33,63]),(2,[64,65]),(4,[32,42]),(4,[54,11]),(3,[67,68]),(4,[36,13]),(4,[35,13]),(4,[70,37]),(4,[71,37]),(2,[23,66]),(2,[23,69]),(2,[74,72]),(2,[75,73]),(5,[46]),(4,[76,36]),(4,[77,78]),(2,[79,80]),(5,[77]),(4,[76,46]),(4,[82,36]),(3,[83,84]),(2,[58,81]),(2,[62,85]),(4,[34,10]),(4,[35,10]),(4,[88,37]),(4,[89,37]),(4,[0,11]),(4,[1,42]),(2,[92,93]),(4,[0,21]),(4,[31,11]),(3,[95,96]),(2,[23,90]),(2,[23,91]),(2,[98,94]),(2,[99,97]),(4,[100,32]),(4,[101,55]),(2,[102,103]),(5,[101]),(4,[100,54]),(4,[105,32]),(3,[106,107]),(4,[34,11]),(4,[35,63]),(2,[109,110]),(4,[34,42]),(3,[112,48]),(4,[0,13]),(4,[1,13]),(4,[114,37]),(4,[115,37]),(2,[23,111]),(2,[23,113]),(2,[118,116]),(2,[119,117]),(4,[120,36]),(4,[121,78]),(2,[122,123]),(5,[121]),(4,[120,46]),(4,[125,36]),(3,[126,127]),(2,[104,124]),(2,[108,128]),(4,[129,37]),(4,[130,37]),(4,[100,34]),(4,[101,78]),(2,[133,134]),(4,[100,46]),(4,[105,34]),(3,[136,137]),(4,[120,0]),(4,[121,33]),(2,[139,140]),(4,[120,31]),(4,[125,0]),(3,[142,143]),(2,[135,141]),(2,[138,144]),(8,[0,86,131,132,145]),(8,[1,86,131,132,145]),(8,[2,86,131,132,145]),(8,[3,86,131,132,145]),(4,[148,148]),(4,[149,149]),(2,[151,152]),(4,[17,147]),(4,[154,150]),(3,[153,155]),(5,[149]),(4,[32,147]),(4,[33,147]),(4,[158,37]),(4,[159,37]),(5,[157]),(4,[36,148]),(4,[35,162]),(2,[163,164]),(4,[36,157]),(4,[46,148]),(3,[166,167]),(2,[23,160]),(2,[23,161]),(2,[169,165]),(2,[170,168]),(4,[171,32]),(4,[172,55]),(2,[173,174]),(5,[172]),(4,[171,54]),(4,[176,32]),(3,[177,178]),(5,[162]),(4,[32,148]),(4,[33,180]),(2,[181,182]),(4,[32,162]),(4,[54,148]),(3,[184,185]),(4,[36,150]),(4,[35,150]),(4,[187,37]),(4,[188,37]),(2,[23,183]),(2,[23,186]),(2,[191,189]),(2,[192,190]),(4,[193,36]),(4,[194,78]),(2,[195,196]),(5,[194]),(4,[193,46]),(4,[198,36]),(3,[199,200]),(2,[175,197]),(2,[179,201]),(4,[34,147]),(4,[35,147]),(4,[204,37]),(4,[205,37]),(4,[0,148]),(4,[1,162]),(2,[208,209]),(4,[0,157]),(4,[31,148]),(3,[211,212]),(2,[23,206]),(2,[23,207]),(2,[214,210]),(2,[215,213]),(4,[216,32]),(4,[217,55]),(2,[218,219]),(5,[217]),(4,[216,54]),(4,[221,32]),(3,[222,223]),(4,[34,148]),(4,[35,180]),(2,[225,226]),(4,[34,162]),(3,[228,167]),(4,[0,150]),(4,[1,150]),(4,[230,37]),(4,[231,37]),(2,[23,227]),(2,[23,229]),(2,[234,232]),(2,[235,233]),(4,[236,36]),(4,[237,78]),(2,[238,239]),(5,[237]),(4,[236,46]),(4,[241,36]),(3,[242,243]),(2,[220,240]),(2,[224,244]),(4,[245,37]),(4,[246,37]),(4,[216,34]),(4,[217,78]),(2,[249,250]),(4,[216,46]),(4,[221,34]),(3,[252,253]),(4,[236,0]),(4,[237,33]),(2,[255,256]),(4,[236,31]),(4,[241,0]),(3,[258,259]),(2,[251,257]),(2,[254,260]),(8,[0,202,247,248,261]),(8,[1,202,247,248,261]),(8,[2,202,247,248,261]),(8,[3,202,247,248,261]),(4,[264,10]),(4,[263,11]),(3,[267,268]),(4,[265,10]),(4,[263,12]),(3,[270,271]),(4,[265,11]),(4,[264,12]),(3,[273,274]),(4,[266,10]),(4,[263,13]),(3,[276,277]),(4,[266,11]),(4,[264,13]),(3,[279,280]),(4,[266,12]),(4,[265,13]),(3,[282,283]),(4,[269,269]),(4,[272,272]),(2,[285,286]),(4,[275,275]),(2,[287,288]),(4,[278,278]),(2,[289,290]),(4,[281,281]),(2,[291,292]),(4,[284,284]),(2,[293,294]),(1,[5]),(1,[6]),(1,[7]),(0,[1,2,1]),(4,[296,299]),(4,[297,299]),(3,[23,296]),(3,[23,297]),(4,[302,302]),(4,[303,303]),(2,[304,305]),(3,[306,298]),(8,[0,22,300,301,307]),(8,[1,22,300,301,307]),(8,[2,22,300,301,307]),(8,[3,22,300,301,307]),(4,[309,309]),(4,[310,310]),(2,[312,313]),(4,[17,308]),(4,[315,311]),(3,[314,316]),(5,[310]),(4,[32,308]),(4,[33,308]),(4,[319,37]),(4,[320,37]),(5,[318]),(4,[36,309]),(4,[35,323]),(2,[324,325]),(4,[36,318]),(4,[46,309]),(3,[327,328]),(2,[23,321]),(2,[23,322]),(2,[330,326]),(2,[331,329]),(4,[332,32]),(4,[333,55]),(2,[334,335]),(5,[333]),(4,[332,54]),(4,[337,32]),(3,[338,339]),(5,[323]),(4,[32,309]),(4,[33,341]),(2,[342,343]),(4,[32,323]),(4,[54,309]),(3,[345,346]),(4,[36,311]),(4,[35,311]),(4,[348,37]),(4,[349,37]),(2,[23,344]),(2,[23,347]),(2,[352,350]),(2,[353,351]),(4,[354,36]),(4,[355,78]),(2,[356,357]),(5,[355]),(4,[354,46]),(4,[359,36]),(3,[360,361]),(2,[336,358]),(2,[340,362]),(4,[34,308]),(4,[35,308]),(4,[365,37]),(4,[366,37]),(4,[0,309]),(4,[1,323]),(2,[369,370]),(4,[0,318]),(4,[31,309]),(3,[372,373]),(2,[23,367]),(2,[23,368]),(2,[375,371]),(2,[376,374]),(4,[377,32]),(4,[378,55]),(2,[379,380]),(5,[378]),(4,[377,54]),(4,[382,32]),(3,[383,384]),(4,[34,309]),(4,[35,341]),(2,[386,387]),(4,[34,323]),(3,[389,328]),(4,[0,311]),(4,[1,311]),(4,[391,37]),(4,[392,37]),(2,[23,388]),(2,[23,390]),(2,[395,393]),(2,[396,394]),(4,[397,36]),(4,[398,78]),(2,[399,400]),(5,[398]),(4,[397,46]),(4,[402,36]),(3,[403,404]),(2,[381,401]),(2,[385,405]),(4,[406,37]),(4,[407,37]),(4,[377,34]),(4,[378,78]),(2,[410,411]),(4,[377,46]),(4,[382,34]),(3,[413,414]),(4,[397,0]),(4,[398,33]),(2,[416,417]),(4,[397,31]),(4,[402,0]),(3,[419,420]),(2,[412,418]),(2,[415,421]),(8,[0,363,408,409,422]),(8,[1,363,408,409,422]),(8,[2,363,408,409,422]),(8,[3,363,408,409,422]),(3,[296,0]),(3,[297,1]),(4,[428,428]),(4,[429,429]),(2,[430,431]),(5,[2]),(5,[298]),(2,[432,433]),(2,[435,434]),(3,[424,308]),(3,[425,309]),(3,[426,310]),(3,[427,311]),(4,[437,437]),(4,[438,438]),(2,[441,442]),(4,[439,439]),(2,[443,444]),(4,[440,440]),(2,[445,446]),(3,[0,296]),(3,[1,297]),(4,[448,448]),(4,[449,449]),(2,[450,451]),(4,[23,23]),(2,[453,453]),(4,[17,23]),(4,[455,23]),(3,[454,456]),(6,[2,9]),(4,[5,458]),(4,[6,458]),(2,[0,459]),(2,[1,460]),(3,[461,0]),(3,[462,1]),(4,[463,463]),(4,[464,464]),(2,[465,466]),(6,[2,467]),(4,[463,468]),(4,[464,468]),(2,[0,469]),(2,[1,470]),(3,[471,3]),(3,[472,4]),(4,[473,473]),(4,[474,474]),(2,[475,476])]
def tW_L:List (List Nat × Nat):=[([],23)]
def tW_C:List (List Nat × Nat):=[]
def tW_Z:List Nat:=[3495260,3495260,3495260,3495260,3495260,6990520,6990520,13981040,13981040,27962078,3495260,3495260,3495260,3495260,6990519,6990519,13981038,3,3495262,6990521,20971559,3495260,1,1,3495262,3495262,6990524,6990524,13981044,17476305,17476305,3495260,3495260,3495260,17476305,1,1,2,6990519,6990519,6990520,6990520,3495260,3495260,3495260,6990521,1,3495260,3495260,6990521,6990522,6990522,13981042,13981042,3495260,3495260,17476301,17476301,24466821,13981042,17476301,17476301,17476303,3495260,6990519,6990519,13981038,6990519,6990519,13981038,3495260,3495260,3495262,3495262,13981040,13981040,17476301,17476301,1,17476302,17476302,17476304,17476301,17476302,17476302,17476304,27962083,20971565,20971564,3495260,20971566,3495262,6990519,6990519,13981038,6990519,6990519,13981038,20971568,3495264,27962088,17476302,31457347,20971561,31457349,17476302,31457347,20971561,31457349,20971564,3495260,24466825,20971564,24466825,6990519,6990519,6990520,6990520,24466827,24466827,27962088,27962088,27962089,27962089,27962091,27962088,27962089,27962089,27962091,34952611,34952611,34952613,34952613,45438393,17476303,45438395,27962089,34952607,34952609,31457347,31457347,34952608,31457347,31457347,34952608,48933656,38447870,48933638,48933650,48933650,48933657,97867300,97867300,97867302,48933641,97867298,97867304,48933650,52428897,52428897,52428899,52428899,48933650,48933651,48933651,48933653,48933651,48933651,48933653,52428901,52428901,52428914,52428914,55924173,55924173,62914693,52428914,55924173,55924173,55924175,48933650,52428909,52428909,55924170,52428909,52428909,55924170,48933658,48933658,48933660,48933660,55924172,55924172,55924180,55924180,55924181,55924181,55924183,55924180,55924181,55924181,55924183,62914703,55924185,66409943,48933639,66409945,48933641,52428909,52428909,55924170,52428909,52428909,55924170,66409947,48933643,66409949,55924172,69905208,59419431,69905210,55924172,69905208,59419431,69905210,66409955,48933651,66409957,66409955,66409957,52428916,52428916,52428918,52428918,66409959,66409959,66409961,66409961,66409962,66409962,66409964,66409961,66409962,66409962,66409964,69905225,69905225,69905227,69905227,83886254,55924173,83886256,66409950,73400477,73400479,69905220,69905220,73400481,69905220,69905220,73400481,83886260,73400483,83886258,83886264,83886264,83886261,87381523,87381517,90876784,87381523,87381517,90876784,87381523,87381523,90876784,87381520,87381517,90876781,87381520,87381523,90876784,87381520,87381523,90876784,181753568,181753568,188744088,181753568,188744090,181753562,195734610,181753568,195734612,181753568,195734614,3495260,3495260,3495260,2,3495261,3495261,3495262,3495262,6990524,6990524,13981044,17476305,17476297,17476298,17476298,17476306,34952596,34952596,34952598,17476300,34952606,34952608,17476298,20971556,20971556,20971558,20971558,17476298,17476299,17476299,17476301,17476299,17476299,17476301,20971560,20971560,20971562,20971562,24466821,24466821,31457341,20971562,24466821,24466821,24466823,17476298,20971557,20971557,24466818,20971557,20971557,24466818,17476307,17476307,17476309,17476309,24466820,24466820,24466829,24466829,24466830,24466830,24466832,24466829,24466830,24466830,24466832,31457352,24466834,34952602,17476298,34952604,17476300,20971557,20971557,24466818,20971557,20971557,24466818,34952606,17476302,34952608,24466822,38447867,27962081,38447869,24466822,38447867,27962081,38447869,34952603,17476299,34952605,34952603,34952605,20971565,20971565,20971567,20971567,34952607,34952607,34952609,34952609,34952610,34952610,34952612,34952609,34952610,34952610,34952612,38447873,38447873,38447875,38447875,52428913,24466823,52428915,34952609,41943127,41943129,38447868,38447868,41943129,38447868,38447868,41943129,52428917,41943131,52428907,52428912,52428912,52428918,6990520,6990520,13981040,13981040,27962078,3495260,3495260,31457339,34952600,52428909,52428914,52428914,52428920,104857818,104857828,104857830,104857828,104857832,104857840,104857842,6990520,6990520,13981040,13981040,27962078,2,4,4,5,7,31457338,38447856,38447856,38447857,38447857,38447859,38447859,76895718,76895718,90876756,90876757,129324612,129324612,129324613,129324613,129324615,129324615,258649230,258649230,272630268]
def tW_D0:List Atm:=[(0,9),(0,9),(0,10),(0,10)]
def tW_D1:List Atm:=[(0,8),(0,11)]
def tW_D2:List Atm:=[(0,0),(0,0)]
def tW_D3:List Atm:=[(0,1),(0,1)]
def tW_D4:List Atm:=[(0,0),(0,0),(0,1),(0,1)]
def tW_D5:List Atm:=[(0,0),(0,0),(0,1),(0,1),(0,2)]
def tW_D6:List Atm:=[(0,0),(0,8)]
def tW_D7:List Atm:=[(0,1),(0,8)]
def tW_D8:List Atm:=[(0,9),(0,10)]
def tW_D9:List Atm:=[(0,1),(0,8),(0,9),(0,10)]
def tW_D10:List Atm:=[(0,0),(0,1),(0,8),(0,9),(0,10)]
def tW_D11:List Atm:=[(0,0),(0,9)]
def tW_D12:List Atm:=[(0,1),(0,10)]
def tW_D13:List Atm:=[(0,0),(0,1),(0,9),(0,10)]
def tW_D14:List Atm:=[(0,0),(0,10)]
def tW_D15:List Atm:=[(0,1),(0,9)]
def tW_D16:List Atm:=[(0,0),(0,1),(0,9),(0,10),(0,11)]
def tW_D17:List Atm:=[(0,0),(0,0),(0,1),(0,1),(0,2),(0,8)]
def tW_D18:List Atm:=[(0,0),(0,0),(0,1),(0,1),(0,2),(0,8),(0,9),(0,10)]
def tW_D19:List Atm:=[(0,0),(0,0),(0,0),(0,1),(0,1),(0,2),(0,8),(0,9),(0,10)]
def tW_D20:List Atm:=[(0,0),(0,0),(0,1),(0,1),(0,1),(0,2),(0,8),(0,9),(0,10)]
def tW_D21:List Atm:=[(0,0),(0,0),(0,1),(0,1),(0,2),(0,9),(0,10)]
def tW_D22:List Atm:=[(0,0),(0,11)]
def tW_D23:List Atm:=[(0,1),(0,11)]
def tW_D24:List Atm:=[(0,0),(0,0),(0,1),(0,1),(0,2),(0,9),(0,10),(0,11)]
def tW_D25:List Atm:=[(0,0),(0,0),(0,0),(0,1),(0,1),(0,2),(0,8),(0,9),(0,10),(0,11)]
def tW_D26:List Atm:=[(0,0),(0,0),(0,1),(0,1),(0,1),(0,2),(0,8),(0,9),(0,10),(0,11)]
def tW_D27:List Atm:=[(0,0),(0,0),(0,0),(0,0),(0,1),(0,1),(0,1),(0,1),(0,2),(0,2),(0,8),(0,9),(0,10)]
def tW_D28:List Atm:=[(0,0),(0,0),(0,0),(0,1),(0,1),(0,1),(0,2),(0,8),(0,9),(0,10)]
def tW_D29:List Atm:=[(0,0),(0,0),(0,0),(0,1),(0,1),(0,2),(0,9),(0,10),(0,11)]
def tW_D30:List Atm:=[(0,0),(0,0),(0,1),(0,1),(0,1),(0,2),(0,9),(0,10),(0,11)]
def tW_D31:List Atm:=[(0,0),(0,0),(0,0),(0,1),(0,1),(0,1),(0,2),(0,9),(0,10),(0,11)]
def tW_D32:List Atm:=[(0,0),(0,1)]
def tW_D33:List Atm:=[(0,0),(0,0),(0,0),(0,1),(0,1),(0,2)]
def tW_D34:List Atm:=[(0,0),(0,1),(0,1)]
def tW_D35:List Atm:=[(0,0),(0,0),(0,1),(0,1),(0,1),(0,2)]
def tW_D36:List Atm:=[(0,0),(0,0),(0,1)]
def tW_D37:List Atm:=[(0,0),(0,0),(0,0),(0,0),(0,1),(0,1),(0,1),(0,1),(0,2),(0,2)]
def tW_D38:List Atm:=[(0,0),(0,0),(0,0),(0,1),(0,1),(0,1),(0,2)]
def tW_D39:List Atm:=[(0,8),(0,8),(0,9),(0,9),(0,10),(0,10)]
def tW_D40:List Atm:=[(0,8),(0,8),(0,9),(0,9),(0,10),(0,10),(0,11),(0,11)]
def tW_D41:List Atm:=[(0,0),(0,5)]
def tW_D42:List Atm:=[(0,1),(0,6)]
def tW_D43:List Atm:=[(0,0),(0,0),(0,5),(0,5)]
def tW_D44:List Atm:=[(0,1),(0,1),(0,6),(0,6)]
def tW_D45:List Atm:=[(0,0),(0,0),(0,1),(0,1),(0,5),(0,5),(0,6),(0,6)]
def tW_D46:List Atm:=[(0,0),(0,2),(0,3),(1,9)]
def tW_D47:List Atm:=[(0,1),(0,2),(0,4),(1,9)]
def tW_D48:List Atm:=[(0,0),(0,2),(0,3),(1,9),(1,467)]
def tW_D49:List Atm:=[(0,1),(0,2),(0,4),(1,9),(1,467)]
def tW_E:List (Nat × List Atm):=[(3495259,[(0,0)]),(3495259,[(0,1)]),(3495259,[(0,2)]),(3495259,[(0,3)]),(3495259,[(0,4)]),(6990520,[(0,0),(0,3)]),(6990520,[(0,1),(0,4)]),(13981040,[(0,0),(0,0),(0,3),(0,3)]),(13981040,[(0,1),(0,1),(0,4),(0,4)]),(27962078,[(0,0),(0,0),(0,1),(0,1),(0,3),(0,3),(0,4),(0,4)]),(3495259,[(0,8)]),(3495259,[(0,9)]),(3495259,[(0,10)]),(3495259,[(0,11)]),(6990518,[(0,9),(0,9)]),(6990518,[(0,10),(0,10)]),(13981038,tW_D0),(3,[]),(3495262,[(0,8)]),(6990521,tW_D1),(20971559,[(0,8),(0,9),(0,9),(0,10),(0,10),(0,11)]),(3495259,[(0,10)]),(1,[]),(1,[]),(3495262,[(0,0)]),(3495262,[(0,1)]),(6990524,tW_D2),(6990524,tW_D3),(13981044,tW_D4),(17476305,tW_D5),(17476305,tW_D5),(3495259,[(0,1)]),(3495259,[(0,0)]),(3495259,[(0,1)]),(17476305,tW_D5),(1,[]),(1,[]),(2,[]),(6990518,tW_D6),(6990518,tW_D7),(6990520,tW_D6),(6990520,tW_D7),(3495259,[(0,10)]),(3495260,[(0,9)]),(3495260,[(0,10)]),(6990521,tW_D8),(1,[]),(3495260,[(0,10)]),(3495260,[(0,9)]),(6990521,tW_D8),(6990522,tW_D6),(6990522,tW_D7),(13981042,[(0,0),(0,8),(0,9),(0,10)]),(13981042,tW_D9),(3495259,[(0,1)]),(3495259,[(0,1)]),(17476301,[(0,0),(0,0),(0,8),(0,9),(0,10)]),(17476301,[(0,1),(0,1),(0,8),(0,9),(0,10)]),(24466821,[(0,0),(0,0),(0,1),(0,1),(0,8),(0,9),(0,10)]),(13981042,tW_D9),(17476301,tW_D10),(17476301,tW_D10),(17476303,tW_D10),(3495259,[(0,10)]),(6990518,tW_D11),(6990518,tW_D12),(13981038,tW_D13),(6990518,tW_D14),(6990518,tW_D15),(13981038,tW_D13),(3495260,[(0,11)]),(3495260,[(0,11)]),(3495262,[(0,11)]),(3495262,[(0,11)]),(13981040,tW_D13),(13981040,tW_D13),(17476301,tW_D16),(17476301,tW_D16),(1,[]),(17476302,tW_D16),(17476302,tW_D16),(17476304,tW_D16),(17476301,tW_D16),(17476302,tW_D16),(17476302,tW_D16),(17476304,tW_D16),(27962083,[(0,0),(0,0),(0,1),(0,1),(0,8),(0,9),(0,10),(0,11)]),(20971565,[(0,0),(0,1),(0,8),(0,9),(0,10),(0,11)]),(20971564,tW_D17),(3495260,[(0,8)]),(20971566,tW_D17),(3495262,[(0,8)]),(6990518,tW_D11),(6990518,tW_D12),(13981038,tW_D13),(6990518,tW_D14),(6990518,tW_D15),(13981038,tW_D13),(20971568,tW_D17),(3495264,[(0,8)]),(27962088,tW_D18),(17476302,tW_D10),(31457347,tW_D19),(20971561,[(0,0),(0,1),(0,1),(0,8),(0,9),(0,10)]),(31457349,tW_D19),(17476302,tW_D10),(31457347,tW_D20),(20971561,[(0,0),(0,0),(0,1),(0,8),(0,9),(0,10)]),(31457349,tW_D20),(20971564,[(0,0),(0,0),(0,1),(0,1),(0,2),(0,9)]),(3495260,[(0,10)]),(24466825,tW_D21),(20971564,[(0,0),(0,0),(0,1),(0,1),(0,2),(0,10)]),(24466825,tW_D21),(6990518,tW_D22),(6990518,tW_D23),(6990520,tW_D22),(6990520,tW_D23),(24466827,tW_D21),(24466827,tW_D21),(27962088,tW_D24),(27962088,tW_D24),(27962089,tW_D24),(27962089,tW_D24),(27962091,tW_D24),(27962088,tW_D24),(27962089,tW_D24),(27962089,tW_D24),(27962091,tW_D24),(34952611,tW_D25),(34952611,tW_D26),(34952613,tW_D25),(34952613,tW_D26),(45438393,tW_D27),(17476303,tW_D10),(45438395,tW_D27),(27962089,tW_D18),(34952607,tW_D28),(34952609,tW_D28),(31457347,tW_D29),(31457347,tW_D30),(34952608,tW_D31),(31457347,tW_D30),(31457347,tW_D29),(34952608,tW_D31),(48933656,[(0,0),(0,0),(0,0),(0,0),(0,1),(0,1),(0,1),(0,1),(0,2),(0,2),(0,8),(0,9),(0,10),(0,11)]),(38447870,[(0,0),(0,0),(0,0),(0,1),(0,1),(0,1),(0,2),(0,8),(0,9),(0,10),(0,11)]),(48933638,[]),(48933650,[]),(48933650,[]),(48933657,[]),(97867300,[]),(97867300,[]),(97867302,[]),(48933641,[]),(97867298,[]),(97867304,[]),(48933650,[]),(52428897,[(0,0)]),(52428897,[(0,1)]),(52428899,[(0,0)]),(52428899,[(0,1)]),(48933650,[]),(48933651,[]),(48933651,[]),(48933653,[]),(48933651,[]),(48933651,[]),(48933653,[]),(52428901,[(0,0)]),(52428901,[(0,1)]),(52428914,[(0,0)]),(52428914,[(0,1)]),(55924173,tW_D2),(55924173,tW_D3),(62914693,tW_D4),(52428914,[(0,1)]),(55924173,tW_D32),(55924173,tW_D32),(55924175,tW_D32),(48933650,[]),(52428909,[(0,0)]),(52428909,[(0,1)]),(55924170,tW_D32),(52428909,[(0,0)]),(52428909,[(0,1)]),(55924170,tW_D32),(48933658,[]),(48933658,[]),(48933660,[]),(48933660,[]),(55924172,tW_D32),(55924172,tW_D32),(55924180,tW_D32),(55924180,tW_D32),(55924181,tW_D32),(55924181,tW_D32),(55924183,tW_D32),(55924180,tW_D32),(55924181,tW_D32),(55924181,tW_D32),(55924183,tW_D32),(62914703,tW_D4),(55924185,tW_D32),(66409943,tW_D5),(48933639,[]),(66409945,tW_D5),(48933641,[]),(52428909,[(0,0)]),(52428909,[(0,1)]),(55924170,tW_D32),(52428909,[(0,0)]),(52428909,[(0,1)]),(55924170,tW_D32),(66409947,tW_D5),(48933643,[]),(66409949,tW_D5),(55924172,tW_D32),(69905208,tW_D33),(59419431,tW_D34),(69905210,tW_D33),(55924172,tW_D32),(69905208,tW_D35),(59419431,tW_D36),(69905210,tW_D35),(66409955,tW_D5),(48933651,[]),(66409957,tW_D5),(66409955,tW_D5),(66409957,tW_D5),(52428916,[(0,0)]),(52428916,[(0,1)]),(52428918,[(0,0)]),(52428918,[(0,1)]),(66409959,tW_D5),(66409959,tW_D5),(66409961,tW_D5),(66409961,tW_D5),(66409962,tW_D5),(66409962,tW_D5),(66409964,tW_D5),(66409961,tW_D5),(66409962,tW_D5),(66409962,tW_D5),(66409964,tW_D5),(69905225,tW_D33),(69905225,tW_D35),(69905227,tW_D33),(69905227,tW_D35),(83886254,tW_D37),(55924173,tW_D32),(83886256,tW_D37),(66409950,tW_D5),(73400477,tW_D38),(73400479,tW_D38),(69905220,tW_D33),(69905220,tW_D35),(73400481,tW_D38),(69905220,tW_D35),(69905220,tW_D33),(73400481,tW_D38),(83886260,tW_D37),(73400483,tW_D38),(83886258,[]),(83886264,[]),(83886264,[]),(83886261,[]),(87381523,[(0,8)]),(87381517,[(0,9)]),(90876784,[(0,8),(0,9)]),(87381523,[(0,8)]),(87381517,[(0,10)]),(90876784,[(0,8),(0,10)]),(87381523,[(0,9)]),(87381523,[(0,10)]),(90876784,tW_D8),(87381520,[(0,8)]),(87381517,[(0,11)]),(90876781,tW_D1),(87381520,[(0,9)]),(87381523,[(0,11)]),(90876784,[(0,9),(0,11)]),(87381520,[(0,10)]),(87381523,[(0,11)]),(90876784,[(0,10),(0,11)]),(181753568,[(0,8),(0,8),(0,9),(0,9)]),(181753568,[(0,8),(0,8),(0,10),(0,10)]),(188744088,tW_D39),(181753568,tW_D0),(188744090,tW_D39),(181753562,[(0,8),(0,8),(0,11),(0,11)]),(195734610,tW_D40),(181753568,[(0,9),(0,9),(0,11),(0,11)]),(195734612,tW_D40),(181753568,[(0,10),(0,10),(0,11),(0,11)]),(195734614,tW_D40),(3495259,[(0,5)]),(3495259,[(0,6)]),(3495259,[(0,7)]),(2,[]),(3495261,[(0,5)]),(3495261,[(0,6)]),(3495262,[(0,5)]),(3495262,[(0,6)]),(6990524,[(0,5),(0,5)]),(6990524,[(0,6),(0,6)]),(13981044,[(0,5),(0,5),(0,6),(0,6)]),(17476305,[(0,5),(0,5),(0,6),(0,6),(0,7)]),(17476297,[]),(17476298,[]),(17476298,[]),(17476306,[]),(34952596,[]),(34952596,[]),(34952598,[]),(17476300,[]),(34952606,[]),(34952608,[]),(17476298,[]),(20971556,[(0,0)]),(20971556,[(0,1)]),(20971558,[(0,0)]),(20971558,[(0,1)]),(17476298,[]),(17476299,[]),(17476299,[]),(17476301,[]),(17476299,[]),(17476299,[]),(17476301,[]),(20971560,[(0,0)]),(20971560,[(0,1)]),(20971562,[(0,0)]),(20971562,[(0,1)]),(24466821,tW_D2),(24466821,tW_D3),(31457341,tW_D4),(20971562,[(0,1)]),(24466821,tW_D32),(24466821,tW_D32),(24466823,tW_D32),(17476298,[]),(20971557,[(0,0)]),(20971557,[(0,1)]),(24466818,tW_D32),(20971557,[(0,0)]),(20971557,[(0,1)]),(24466818,tW_D32),(17476307,[]),(17476307,[]),(17476309,[]),(17476309,[]),(24466820,tW_D32),(24466820,tW_D32),(24466829,tW_D32),(24466829,tW_D32),(24466830,tW_D32),(24466830,tW_D32),(24466832,tW_D32),(24466829,tW_D32),(24466830,tW_D32),(24466830,tW_D32),(24466832,tW_D32),(31457352,tW_D4),(24466834,tW_D32),(34952602,tW_D5),(17476298,[]),(34952604,tW_D5),(17476300,[]),(20971557,[(0,0)]),(20971557,[(0,1)]),(24466818,tW_D32),(20971557,[(0,0)]),(20971557,[(0,1)]),(24466818,tW_D32),(34952606,tW_D5),(17476302,[]),(34952608,tW_D5),(24466822,tW_D32),(38447867,tW_D33),(27962081,tW_D34),(38447869,tW_D33),(24466822,tW_D32),(38447867,tW_D35),(27962081,tW_D36),(38447869,tW_D35),(34952603,tW_D5),(17476299,[]),(34952605,tW_D5),(34952603,tW_D5),(34952605,tW_D5),(20971565,[(0,0)]),(20971565,[(0,1)]),(20971567,[(0,0)]),(20971567,[(0,1)]),(34952607,tW_D5),(34952607,tW_D5),(34952609,tW_D5),(34952609,tW_D5),(34952610,tW_D5),(34952610,tW_D5),(34952612,tW_D5),(34952609,tW_D5),(34952610,tW_D5),(34952610,tW_D5),(34952612,tW_D5),(38447873,tW_D33),(38447873,tW_D35),(38447875,tW_D33),(38447875,tW_D35),(52428913,tW_D37),(24466823,tW_D32),(52428915,tW_D37),(34952609,tW_D5),(41943127,tW_D38),(41943129,tW_D38),(38447868,tW_D33),(38447868,tW_D35),(41943129,tW_D38),(38447868,tW_D35),(38447868,tW_D33),(41943129,tW_D38),(52428917,tW_D37),(41943131,tW_D38),(52428907,[]),(52428912,[]),(52428912,[]),(52428918,[]),(6990520,tW_D41),(6990520,tW_D42),(13981040,tW_D43),(13981040,tW_D44),(27962078,tW_D45),(3495259,[(0,2)]),(3495259,[(0,7)]),(31457339,[(0,0),(0,0),(0,1),(0,1),(0,2),(0,5),(0,5),(0,6),(0,6)]),(34952600,[(0,0),(0,0),(0,1),(0,1),(0,2),(0,5),(0,5),(0,6),(0,6),(0,7)]),(52428909,[]),(52428914,[]),(52428914,[]),(52428920,[]),(104857818,[]),(104857828,[]),(104857830,[]),(104857828,[]),(104857832,[]),(104857840,[]),(104857842,[]),(6990520,tW_D41),(6990520,tW_D42),(13981040,tW_D43),(13981040,tW_D44),(27962078,tW_D45),(2,[]),(4,[]),(4,[]),(5,[]),(7,[]),(31457332,[(0,2),(1,9)]),(38447852,tW_D46),(38447852,tW_D47),(38447857,tW_D46),(38447857,tW_D47),(38447859,tW_D46),(38447859,tW_D47),(76895718,[(0,0),(0,0),(0,2),(0,2),(0,3),(0,3),(1,9),(1,9)]),(76895718,[(0,1),(0,1),(0,2),(0,2),(0,4),(0,4),(1,9),(1,9)]),(90876756,[(0,0),(0,0),(0,1),(0,1),(0,2),(0,2),(0,3),(0,3),(0,4),(0,4),(1,9),(1,9)]),(90876747,[(1,467)]),(129324606,tW_D48),(129324606,tW_D49),(129324613,tW_D48),(129324613,tW_D49),(129324615,tW_D48),(129324615,tW_D49),(258649230,[(0,0),(0,0),(0,2),(0,2),(0,3),(0,3),(1,9),(1,9),(1,467),(1,467)]),(258649230,[(0,1),(0,1),(0,2),(0,2),(0,4),(0,4),(1,9),(1,9),(1,467),(1,467)]),(272630268,[(0,0),(0,0),(0,1),(0,1),(0,2),(0,2),(0,3),(0,3),(0,4),(0,4),(1,9),(1,9),(1,467),(1,467)])]
abbrev tW_Q (q:Nat→Rat) (σ:Nat→ByteArray):Prop:=∀ (a:Nat) nd,tW_N[a]? = some nd→q a=valN σ q nd
variable {q:Nat→Rat} {σ:Nat→ByteArray}
theorem tW_wf:wfB 0 tW_N=true:=by kernel_rfl
theorem tW_sz:saB tW_E 0 tW_N tW_E tW_Z=true:=by kernel_rfl
theorem tW_lt:litB tW_N tW_L=true:=by kernel_rfl
theorem tW_cn:canB tW_N tW_C=true:=by kernel_rfl
theorem tW_c17:cst 0 4 1=(4:Rat):=by decide +kernel
theorem tW_c22:cst 0 1 1=(1:Rat):=by decide +kernel
theorem tW_c23:cst 0 0 1=(0:Rat):=by decide +kernel
theorem tW_c37:cst 0 2 1=(2:Rat):=by decide +kernel
theorem tW_c299:cst 1 2 1=((-2):Rat):=by decide +kernel
def tW_A:List AV:=[(false,[(true,[.inr (2,0,0,0,0),.inr (2,1,0,0,0),.inr (2,2,0,0,0)])]),(false,[(true,[.inr (2,3,0,0,0),.inr (2,4,0,0,0)])]),(false,[(true,[.inr (2,5,0,0,0),.inr (2,6,0,0,0),.inr (2,7,0,0,0)])]),(false,[(true,[.inr (2,8,0,0,0),.inr (2,9,0,0,0),.inr (2,10,0,0,0),.inr (2,11,0,0,0)])])]
theorem sq2 {x y m1 m2 s:Rat} (h1:m1=x*x) (h2:m2=y*y) (hs:s=m1+m2):s=0 ↔ (x=0∧y=0):=by
 have a1:=sq_facts x
 have a2:=sq_facts y
 subst_vars
 constructor
 ·intro h
  refine ⟨a1.2.1 ?_,a2.2.1 ?_⟩ <;> grind
 ·rintro ⟨h1,h2⟩
  rw [h1,h2]; grind
def Rd (a b r A B C D P0 P1 P2 P3:Rat):Prop:=P0=2*(A*(a*a+b*b)+B*a+C*b+D)∧P1=2*(r*(B+2*A*a) - 2*(A*(a*a+b*b)+B*a+C*b+D)*a)∧P2=2*(r*(C+2*A*b) - 2*(A*(a*a+b*b)+B*a+C*b+D)*b)∧P3=2*((A*(a*a+b*b)+B*a+C*b+D)*(a*a+b*b) - r*((B+2*A*a)*a+(C+2*A*b)*b)+A*r*r)
theorem tr_sp {a b r A B C D P0 P1 P2 P3:Rat} (h:Rd a b r A B C D P0 P1 P2 P3):P1*P1+P2*P2 - 4*P0*P3=4*(r*r)*(B*B+C*C - 4*A*D):=by
 obtain ⟨h0,h1,h2,h3⟩:=h
 rw [h0,h1,h2,h3]; clear h0 h1 h2 h3; grind
theorem tr_f {a b r A B C D P0 P1 P2 P3:Rat} (h:Rd a b r A B C D P0 P1 P2 P3) (hr:0 < r) (hs:0 < B*B+C*C - 4*A*D):fac [P0,P1,P2,P3] ≠ 0:=by
 intro e
 have z0:P0=0:=fac_zero (by simp) e
 have z1:P1=0:=fac_zero (by simp) e
 have z2:P2=0:=fac_zero (by simp) e
 have q:=tr_sp h
 rw [z0,z1,z2] at q
 have w:4*(r*r)*(B*B+C*C - 4*A*D)=0:=by rw [← q]; clear q; grind
 have rr:r ≠ 0:=fun e => absurd (e ▸ hr) (by decide)
 have ss:B*B+C*C - 4*A*D ≠ 0:=fun e => absurd (e ▸ hs) (by decide)
 exact mul_ne (mul_ne (by decide) (mul_ne rr rr)) ss w
theorem tr_pos {a b r A B C D P0 P1 P2 P3 f H0 H1 H2 H3:Rat} (h:Rd a b r A B C D P0 P1 P2 P3) (hr:0 < r) (hs:0 < B*B+C*C - 4*A*D) (hf:f ≠ 0) (h0:H0=P0*f) (h1:H1=P1*f) (h2:H2=P2*f) (h3:H3=P3*f):0 < H1*H1+H2*H2 - 4*H0*H3:=by
 have q:H1*H1+H2*H2 - 4*H0*H3=(4*(r*r))*(f*f)*(B*B+C*C - 4*A*D):=by
  have w:H1*H1+H2*H2 - 4*H0*H3=(P1*P1+P2*P2 - 4*P0*P3)*(f*f):=by rw [h0,h1,h2,h3]; clear h h0 h1 h2 h3; grind
  rw [w,tr_sp h]; clear w h h0 h1 h2 h3; grind
 rw [q]
 have rr:r ≠ 0:=fun e => absurd (e ▸ hr) (by decide)
 exact Rat.mul_pos (Rat.mul_pos (Rat.mul_pos (by decide) (sq1_pos rr)) (sq1_pos hf)) hs
theorem tw_rd2 {a b r A B C D P0 P1 P2 P3 f H0 H1 H2 H3 K0 K1 K2 K3:Rat} (h:Rd a b r A B C D P0 P1 P2 P3) (h0:H0=P0*f) (h1:H1=P1*f) (h2:H2=P2*f) (h3:H3=P3*f) (k:Rd a b r H0 H1 H2 H3 K0 K1 K2 K3):K0=4*(r*r)*f*A∧K1=4*(r*r)*f*B∧K2=4*(r*r)*f*C∧K3=4*(r*r)*f*D:=by
 obtain ⟨p0,p1,p2,p3⟩:=h
 obtain ⟨k0,k1,k2,k3⟩:=k
 have m:H0*(a*a+b*b)+H1*a+H2*b+H3=2*A*(r*r)*f:=by
  rw [h0,h1,h2,h3,p0,p1,p2,p3]; clear k0 k1 k2 k3 h0 h1 h2 h3 p0 p1 p2 p3; grind
 have x:H1+2*H0*a=2*r*f*(B+2*A*a):=by
  rw [h0,h1,p0,p1]; clear m k0 k1 k2 k3 h0 h1 h2 h3 p0 p1 p2 p3; grind
 have y:H2+2*H0*b=2*r*f*(C+2*A*b):=by
  rw [h0,h2,p0,p2]; clear m x k0 k1 k2 k3 h0 h1 h2 h3 p0 p1 p2 p3; grind
 have z:H0=2*f*(A*(a*a+b*b)+B*a+C*b+D):=by
  rw [h0,p0]; clear m x y k0 k1 k2 k3 h0 h1 h2 h3 p0 p1 p2 p3; grind
 rw [m] at k0
 rw [m,x] at k1
 rw [m,y] at k2
 rw [m,x,y,z] at k3
 clear m x y z h0 h1 h2 h3 p0 p1 p2 p3
 refine ⟨?_,?_,?_,?_⟩
 ·rw [k0]; clear k0 k1 k2 k3; grind
 ·rw [k1]; clear k0 k1 k2 k3; grind
 ·rw [k2]; clear k0 k1 k2 k3; grind
 ·rw [k3]; clear k0 k1 k2 k3; grind
theorem tw_al {F x y A B g m n d:Rat} (hx:x=F*A*g) (hy:y=F*B*g) (em:m=x*B) (en:n=y*A) (ed:d=m - n):d=0:=by
 rw [ed,em,en,hx,hy]; grind
theorem tw_ml {K F A f k:Rat} (h:K=F*A) (e:k=K*f):k=F*A*f:=by rw [e,h]
theorem tw_pt {a b r p1 p2 u v n1 n2 n k w1 w2 q1 q2 s t m1 m2 m k2 x1 x2 y1 y2 d1 d2:Rat} (hr:0 < r) (hn:¬ (n=0)) (eu:u=p1 - a) (ev:v=p2 - b) (e1:n1=u*u) (e2:n2=v*v) (en:n=n1+n2) (ek:k=r / n) (ew1:w1=u*k) (ew2:w2=v*k) (eq1:q1=a+w1) (eq2:q2=b+w2) (es:s=q1 - a) (et:t=q2 - b) (em1:m1=s*s) (em2:m2=t*t) (em:m=m1+m2) (ek2:k2=r / m) (ex1:x1=s*k2) (ex2:x2=t*k2) (ey1:y1=a+x1) (ey2:y2=b+x2) (ed1:d1=y1 - p1) (ed2:d2=y2 - p2):¬ (m=0)∧d1=0∧d2=0:=by
 have rr:r ≠ 0:=fun e => absurd (e ▸ hr) (by decide)
 have hk:k*n=r:=by rw [ek]; exact Rat.div_mul_cancel hn
 have k0:k ≠ 0:=fun e => rr (by rw [← hk,e,Rat.zero_mul])
 have s':s=u*k:=by rw [es,eq1,ew1]; clear hk; grind
 have t':t=v*k:=by rw [et,eq2,ew2]; clear hk; grind
 have m':m=k*r:=by
  have:m=k*(k*n):=by rw [em,em1,em2,s',t',en,e1,e2]; clear hk; grind
  rw [this,hk]
 have m0:m ≠ 0:=by rw [m']; exact mul_ne k0 rr
 have hk2:k2*m=r:=by rw [ek2]; exact Rat.div_mul_cancel m0
 have kk:k*k2=1:=by
  have:(k*k2 - 1)*r=0:=by
   have q:k2*(k*r)=r:=by rw [← m']; exact hk2
   clear hk hk2; grind
  have:=(Rat.mul_eq_zero.1 this).resolve_right rr
  clear hk hk2; grind
 refine ⟨m0,?_,?_⟩
 ·have:d1=u*(k*k2) - u:=by rw [ed1,ey1,ex1,s',eu]; clear hk hk2 kk; grind
  rw [this,kk]; clear hk hk2 kk; grind
 ·have:d2=v*(k*k2) - v:=by rw [ed2,ey2,ex2,t',ev]; clear hk hk2 kk; grind
  rw [this,kk]; clear hk hk2 kk; grind
theorem tw_cf {x y z:Rat}:fac [1,x,y,z] ≠ 0:=fun e => absurd (fac_zero (qs:=[1,x,y,z]) (x:=1) (by simp) e) (by decide)
theorem tw_cs {f dx dy R A B C D:Rat} (hf:f ≠ 0) (hR:0 < R) (hA:A=1*f) (hB:B=-2*dx*f) (hC:C=-2*dy*f) (hD:D=(dx*dx+dy*dy - R)*f):0 < B*B+C*C - 4*A*D:=by
 have:B*B+C*C - 4*A*D=4*R*(f*f):=by rw [hA,hB,hC,hD]; clear hA hB hC hD; grind
 rw [this]
 exact Rat.mul_pos (Rat.mul_pos (by decide) hR) (sq1_pos hf)
theorem tw_eq {F R0 R1 R2 R3 K0 K1 K2 K3:Rat} (hF:F ≠ 0) (h1:R0 ≠ 0) (e0:K0=F*R0) (e1:K1=F*R1) (e2:K2=F*R2) (e3:K3=F*R3):K0*fac [K0,K1,K2,K3]=R0*fac [R0,R1,R2,R3]∧K1*fac [K0,K1,K2,K3]=R1*fac [R0,R1,R2,R3]∧K2*fac [K0,K1,K2,K3]=R2*fac [R0,R1,R2,R3]∧K3*fac [K0,K1,K2,K3]=R3*fac [R0,R1,R2,R3]:=by
 have k:=fac_scale (qs:=[R0,R1,R2,R3]) (q0:=R0) (by simp) h1 hF
 simp only [List.map] at k
 rw [← e0,← e1,← e2,← e3] at k
 have g:∀ {P T:Rat},P=F*T→P*fac [K0,K1,K2,K3]=T*fac [R0,R1,R2,R3]:=by
  intro P T h
  rw [← k,h]
  generalize fac [K0,K1,K2,K3]=f
  clear k
  grind
 exact ⟨g e0,g e1,g e2,g e3⟩
theorem tw_sq {a b r dx dy R f A B C D K0 K1 K2 K3:Rat} (hA:A=1*f) (hB:B=-2*dx*f) (hC:C=-2*dy*f) (hD:D=(dx*dx+dy*dy - R)*f) (k:Rd a b r A B C D K0 K1 K2 K3) (hs:(dx - a)*(dx - a)+(dy - b)*(dy - b) - r - R=0):K0=2*r*f*1∧K1=2*r*f*(-2*dx)∧K2=2*r*f*(-2*dy)∧K3=2*r*f*(dx*dx+dy*dy - R):=by
 obtain ⟨k0,k1,k2,k3⟩:=k
 have R':R=(dx - a)*(dx - a)+(dy - b)*(dy - b) - r:=by grind
 rw [hA,hB,hC,hD,R'] at k0 k1 k2 k3
 rw [R']
 clear hA hB hC hD hs R'
 refine ⟨?_,?_,?_,?_⟩
 ·rw [k0]; clear k0 k1 k2 k3; grind
 ·rw [k1]; clear k0 k1 k2 k3; grind
 ·rw [k2]; clear k0 k1 k2 k3; grind
 ·rw [k3]; clear k0 k1 k2 k3; grind
theorem tw_same {a b r dx dy R f A B C D K0 K1 K2 K3:Rat} (hA:A=1*f) (hB:B=-2*dx*f) (hC:C=-2*dy*f) (hD:D=(dx*dx+dy*dy - R)*f) (k:Rd a b r A B C D K0 K1 K2 K3) (h1:dx=a) (h2:dy=b) (h3:R=r):K0=-2*r*f*1∧K1=-2*r*f*(-2*dx)∧K2=-2*r*f*(-2*dy)∧K3=-2*r*f*(dx*dx+dy*dy - R):=by
 obtain ⟨k0,k1,k2,k3⟩:=k
 subst h1 h2 h3
 rw [hA,hB,hC,hD] at k0 k1 k2 k3
 clear hA hB hC hD
 refine ⟨?_,?_,?_,?_⟩
 ·rw [k0]; clear k0 k1 k2 k3; grind
 ·rw [k1]; clear k0 k1 k2 k3; grind
 ·rw [k2]; clear k0 k1 k2 k3; grind
 ·rw [k3]; clear k0 k1 k2 k3; grind
theorem tw_conv {a b r dx dy R f g A B C D K0 K1 K2 K3:Rat} (hr:0 < r) (hR:0 < R) (hf:f ≠ 0) (hA:A=1*f) (hB:B=-2*dx*f) (hC:C=-2*dy*f) (hD:D=(dx*dx+dy*dy - R)*f) (k:Rd a b r A B C D K0 K1 K2 K3) (e0:K0*g=A) (e1:K1*g=B) (e2:K2*g=C) (e3:K3*g=D) (hs:¬ ((dx - a)*(dx - a)+(dy - b)*(dy - b) - r - R=0)):a=dx∧b=dy∧r=R:=by
 obtain ⟨k0,k1,k2,k3⟩:=k
 have m:A*(a*a+b*b)+B*a+C*b+D=f*((dx - a)*(dx - a)+(dy - b)*(dy - b) - R):=by
  rw [hA,hB,hC,hD]; clear k0 k1 k2 k3 e0 e1 e2 e3 hA hB hC hD hs; grind
 rw [m] at k0 k1 k2 k3
 generalize hX:(dx - a)*(dx - a)+(dy - b)*(dy - b)=X at *
 have b1:B+2*A*a=-2*f*(dx - a):=by rw [hA,hB]; clear k0 k1 k2 k3 e0 e1 e2 e3 m hs hX; grind
 have c1:C+2*A*b=-2*f*(dy - b):=by rw [hA,hC]; clear k0 k1 k2 k3 e0 e1 e2 e3 m hs hX b1; grind
 rw [b1] at k1 k3
 rw [c1] at k2 k3
 have rr:r ≠ 0:=fun e => absurd (e ▸ hr) (by decide)
 have a0:2*(X - R)*g=1:=by
  have:(2*(X - R)*g - 1)*f=0:=by
   rw [k0,hA] at e0; clear k0 k1 k2 k3 e1 e2 e3 m hs hX b1 c1 hA hB hC hD; grind
  have:=(Rat.mul_eq_zero.1 this).resolve_right hf
  clear k0 k1 k2 k3 e0 e1 e2 e3 m hs hX b1 c1 hA hB hC hD; grind
 have a1:(dx - a)*(2*r*g - 1)=0:=by
  have:(dx - a)*(2*r*g - 1)*f=0:=by
   rw [k1,hB] at e1
   clear k0 k1 k2 k3 e0 e2 e3 m hs hX b1 c1 hA hB hC hD
   grind
  exact (Rat.mul_eq_zero.1 this).resolve_right hf
 have a2:(dy - b)*(2*r*g - 1)=0:=by
  have:(dy - b)*(2*r*g - 1)*f=0:=by
   rw [k2,hC] at e2
   clear k0 k1 k2 k3 e0 e1 e3 m hs hX b1 c1 hA hB hC hD a1
   grind
  exact (Rat.mul_eq_zero.1 this).resolve_right hf
 have ng:2*r*g - 1 ≠ 0:=by
  intro q
  have g0:g ≠ 0:=fun e => by rw [e] at q; exact absurd q (by grind)
  have:(X - r - R)*g=0:=by clear k0 k1 k2 k3 e0 e1 e2 e3 m hs hX b1 c1 hA hB hC hD a1 a2; grind
  exact hs ((Rat.mul_eq_zero.1 this).resolve_right g0)
 have x0:=(Rat.mul_eq_zero.1 a1).resolve_right ng
 have y0:=(Rat.mul_eq_zero.1 a2).resolve_right ng
 have X0:X=0:=by rw [← hX,x0,y0]; grind
 have ea:a=dx:=by clear k0 k1 k2 k3 e0 e1 e2 e3 m hs hX b1 c1 hA hB hC hD a1 a2 ng a0 X0 y0; grind
 have eb:b=dy:=by clear k0 k1 k2 k3 e0 e1 e2 e3 m hs hX b1 c1 hA hB hC hD a1 a2 ng a0 X0 x0; grind
 refine ⟨ea,eb,?_⟩
 rw [X0] at a0
 rw [k3,hD,hA,x0,y0,X0] at e3
 subst ea eb
 have w:(2*(r*r)*g+R)*f=0:=by
  clear k0 k1 k2 k3 e0 e1 e2 m hs hX b1 c1 hA hB hC hD a1 a2 ng X0 x0 y0
  have e4:(2*(-R)*g - 1)*(a*a+b*b)=0:=by grind
  grind
 have w1:=(Rat.mul_eq_zero.1 w).resolve_right hf
 have w2:(r - R)*(r+R)=0:=by
  have q:(r*r - R*R)*g=0:=by clear k0 k1 k2 k3 e0 e1 e2 e3 m hs hX b1 c1 hA hB hC hD a1 a2 ng X0 x0 y0 w; grind
  have g0:g ≠ 0:=fun e => by rw [e] at a0; exact absurd a0 (by grind)
  have:=(Rat.mul_eq_zero.1 q).resolve_right g0
  clear k0 k1 k2 k3 e0 e1 e2 e3 m hs hX b1 c1 hA hB hC hD a1 a2 ng X0 x0 y0 w w1 a0; grind
 have w3:r+R ≠ 0:=by clear k0 k1 k2 k3 e0 e1 e2 e3 m hs hX b1 c1 hA hB hC hD a1 a2 ng X0 x0 y0 w w1 a0 w2; grind
 have:=(Rat.mul_eq_zero.1 w2).resolve_right w3
 clear k0 k1 k2 k3 e0 e1 e2 e3 m hs hX b1 c1 hA hB hC hD a1 a2 ng X0 x0 y0 w w1 a0 w2; grind
theorem tw_s4 {a b c d m1 m2 m3 m4 s t u:Rat} (h1:m1=a*a) (h2:m2=b*b) (hs:s=m1+m2) (h3:m3=c*c) (ht:t=s+m3) (h4:m4=d*d) (hu:u=t+m4):u=0 ↔ (a=0∧b=0∧c=0∧d=0):=by
 have a1:=sq_facts a
 have a2:=sq_facts b
 have a3:=sq_facts c
 have a4:=sq_facts d
 subst_vars
 constructor
 ·intro h
  refine ⟨a1.2.1 ?_,a2.2.1 ?_,a3.2.1 ?_,a4.2.1 ?_⟩ <;> grind
 ·rintro ⟨h1,h2,h3,h4⟩
  rw [h1,h2,h3,h4]; grind
theorem tW_T1 (H:tW_Q q σ):(0 < q 2)→(¬ (q 9=0))→(¬ (q 467=0)∧q 477=0):=by
 have e5:q 5=q 3-q 0:=H 5 _ rfl;have e6:q 6=q 4-q 1:=H 6 _ rfl;have e7:q 7=q 5*q 5:=H 7 _ rfl;have e8:q 8=q 6*q 6:=H 8 _ rfl;have e9:q 9=q 7+q 8:=H 9 _ rfl;have e458:q 458=q 2/q 9:=H 458 _ rfl;have e459:q 459=q 5*q 458:=H 459 _ rfl;have e460:q 460=q 6*q 458:=H 460 _ rfl;have e461:q 461=q 0+q 459:=H 461 _ rfl;have e462:q 462=q 1+q 460:=H 462 _ rfl;have e463:q 463=q 461-q 0:=H 463 _ rfl;have e464:q 464=q 462-q 1:=H 464 _ rfl;have e465:q 465=q 463*q 463:=H 465 _ rfl;have e466:q 466=q 464*q 464:=H 466 _ rfl;have e467:q 467=q 465+q 466:=H 467 _ rfl;have e468:q 468=q 2/q 467:=H 468 _ rfl;have e469:q 469=q 463*q 468:=H 469 _ rfl;have e470:q 470=q 464*q 468:=H 470 _ rfl;have e471:q 471=q 0+q 469:=H 471 _ rfl;have e472:q 472=q 1+q 470:=H 472 _ rfl;have e473:q 473=q 471-q 3:=H 473 _ rfl;have e474:q 474=q 472-q 4:=H 474 _ rfl;have e475:q 475=q 473*q 473:=H 475 _ rfl;have e476:q 476=q 474*q 474:=H 476 _ rfl;have e477:q 477=q 475+q 476:=H 477 _ rfl
 clear H
 intro u0 u1
 have ⟨h1,h2,h3⟩:=tw_pt u0 u1 e5 e6 e7 e8 e9 e458 e459 e460 e461 e462 e463 e464 e465 e466 e467 e468 e469 e470 e471 e472 e473 e474
 exact ⟨h1,(sq2 e475 e476 e477).2 ⟨h2,h3⟩⟩
theorem tW_T2z {z0 z1 z2 z10 z11 z12 z13 z14 z15 z16 z17 z18 z19 z20 z21 z22 z23 z24 z25 z26 z27 z28 z29 z30 z31 z32 z33 z34 z35 z36 z37 z38 z39 z40 z41 z42 z43 z44 z45 z46 z47 z48 z49 z50 z51 z52 z53 z54 z55 z56 z57 z58 z63 z64 z65 z66 z67 z68 z69 z70 z71 z72 z73 z74 z75 z76 z77 z78 z79 z80 z81 z86 z88 z89 z90 z91 z92 z93 z94 z95 z96 z97 z98 z99 z100 z101 z102 z103 z104 z105 z106 z107 z108 z109 z110 z111 z112 z113 z114 z115 z116 z117 z118 z119 z120 z121 z122 z123 z124 z125 z126 z127 z128 z129 z130 z131 z132 z133 z134 z135 z139 z140 z141 z145 z147 z148 z149 z150 z151 z152 z153 z154 z155 z156 z157 z158 z159 z160 z161 z162 z163 z164 z165 z166 z167 z168 z169 z170 z171 z172 z173 z174 z175 z180 z181 z182 z183 z184 z185 z186 z187 z188 z189 z190 z191 z192 z193 z194 z195 z196 z197 z202 z204 z205 z206 z207 z208 z209 z210 z211 z212 z213 z214 z215 z216 z217 z218 z219 z220 z221 z222 z223 z224 z225 z226 z227 z228 z229 z230 z231 z232 z233 z234 z235 z236 z237 z238 z239 z240 z241 z242 z243 z244 z245 z246 z247 z248 z249 z250 z251 z255 z256 z257 z261 z263 z264 z265 z266 z267 z268 z269 z270 z271 z272 z273 z274 z275 z276 z277 z278 z279 z280 z281 z282 z283 z284 z285 z286 z287 z288 z289 z290 z291 z292 z293 z294 z295:Rat}:z14=z11*z11→z15=z12*z12→z16=z14+z15→z17=4→z18=z17*z10→z19=z18*z13→z20=z16-z19→z21=-z12→z22=1→z23=0→z24=z23-z0→z25=z23-z1→z26=z24*z24→z27=z25*z25→z28=z26+z27→z29=z28-z2→z30=-z29→z31=-z1→z32=-z0→z33=-z31→z34=-z30→z35=-z23→z36=-z22→z37=2→z38=z32*z10→z39=z33*z10→z40=z38*z37→z41=z39*z37→z42=-z21→z43=z36*z11→z44=z35*z42→z45=z43+z44→z46=-z35→z47=z36*z21→z48=z46*z11→z49=z47-z48→z50=z23+z40→z51=z23+z41→z52=z50+z45→z53=z51+z49→z54=-z33→z55=-z54→z56=z52*z32→z57=z53*z55→z58=z56+z57→z63=-z42→z64=z32*z11→z65=z33*z63→z66=z64+z65→z67=z32*z42→z68=z54*z11→z69=z67-z68→z70=z36*z13→z71=z35*z13→z72=z70*z37→z73=z71*z37→z74=z23+z66→z75=z23+z69→z76=z74+z72→z77=z75+z73→z78=-z46→z79=z76*z36→z80=z77*z78→z81=z79+z80→z86=z58+z81→z88=z34*z10→z89=z35*z10→z90=z88*z37→z91=z89*z37→z92=z0*z11→z93=z1*z42→z94=z92+z93→z95=z0*z21→z96=z31*z11→z97=z95-z96→z98=z23+z90→z99=z23+z91→z100=z98+z94→z101=z99+z97→z102=z100*z32→z103=z101*z55→z104=z102+z103→z105=-z101→z106=z100*z54→z107=z105*z32→z108=z106-z107→z109=z34*z11→z110=z35*z63→z111=z109+z110→z112=z34*z42→z113=z112-z48→z114=z0*z13→z115=z1*z13→z116=z114*z37→z117=z115*z37→z118=z23+z111→z119=z23+z113→z120=z118+z116→z121=z119+z117→z122=z120*z36→z123=z121*z78→z124=z122+z123→z125=-z121→z126=z120*z46→z127=z125*z36→z128=z126-z127→z129=z104+z124→z130=z108+z128→z131=z129*z37→z132=z130*z37→z133=z100*z34→z134=z101*z78→z135=z133+z134→z139=z120*z0→z140=z121*z33→z141=z139+z140→z145=z135+z141→z147=z86*fac [z86,z131,z132,z145]→z148=z131*fac [z86,z131,z132,z145]→z149=z132*fac [z86,z131,z132,z145]→z150=z145*fac [z86,z131,z132,z145]→z151=z148*z148→z152=z149*z149→z153=z151+z152→z154=z17*z147→z155=z154*z150→z156=z153-z155→z157=-z149→z158=z32*z147→z159=z33*z147→z160=z158*z37→z161=z159*z37→z162=-z157→z163=z36*z148→z164=z35*z162→z165=z163+z164→z166=z36*z157→z167=z46*z148→z168=z166-z167→z169=z23+z160→z170=z23+z161→z171=z169+z165→z172=z170+z168→z173=z171*z32→z174=z172*z55→z175=z173+z174→z180=-z162→z181=z32*z148→z182=z33*z180→z183=z181+z182→z184=z32*z162→z185=z54*z148→z186=z184-z185→z187=z36*z150→z188=z35*z150→z189=z187*z37→z190=z188*z37→z191=z23+z183→z192=z23+z186→z193=z191+z189→z194=z192+z190→z195=z193*z36→z196=z194*z78→z197=z195+z196→z202=z175+z197→z204=z34*z147→z205=z35*z147→z206=z204*z37→z207=z205*z37→z208=z0*z148→z209=z1*z162→z210=z208+z209→z211=z0*z157→z212=z31*z148→z213=z211-z212→z214=z23+z206→z215=z23+z207→z216=z214+z210→z217=z215+z213→z218=z216*z32→z219=z217*z55→z220=z218+z219→z221=-z217→z222=z216*z54→z223=z221*z32→z224=z222-z223→z225=z34*z148→z226=z35*z180→z227=z225+z226→z228=z34*z162→z229=z228-z167→z230=z0*z150→z231=z1*z150→z232=z230*z37→z233=z231*z37→z234=z23+z227→z235=z23+z229→z236=z234+z232→z237=z235+z233→z238=z236*z36→z239=z237*z78→z240=z238+z239→z241=-z237→z242=z236*z46→z243=z241*z36→z244=z242-z243→z245=z220+z240→z246=z224+z244→z247=z245*z37→z248=z246*z37→z249=z216*z34→z250=z217*z78→z251=z249+z250→z255=z236*z0→z256=z237*z33→z257=z255+z256→z261=z251+z257→z263=z202*fac [z202,z247,z248,z261]→z264=z247*fac [z202,z247,z248,z261]→z265=z248*fac [z202,z247,z248,z261]→z266=z261*fac [z202,z247,z248,z261]→z267=z264*z10→z268=z263*z11→z269=z267-z268→z270=z265*z10→z271=z263*z12→z272=z270-z271→z273=z265*z11→z274=z264*z12→z275=z273-z274→z276=z266*z10→z277=z263*z13→z278=z276-z277→z279=z266*z11→z280=z264*z13→z281=z279-z280→z282=z266*z12→z283=z265*z13→z284=z282-z283→z285=z269*z269→z286=z272*z272→z287=z285+z286→z288=z275*z275→z289=z287+z288→z290=z278*z278→z291=z289+z290→z292=z281*z281→z293=z291+z292→z294=z284*z284→z295=z293+z294→(0 < z2)→(0 < z20)→(0 < z156∧z295=0):=by
 intro e14 e15 e16 e17 e18 e19 e20 e21 e22 e23 e24 e25 e26 e27 e28 e29 e30 e31 e32 e33 e34 e35 e36 e37 e38 e39 e40 e41 e42 e43 e44 e45 e46 e47 e48 e49 e50 e51 e52 e53 e54 e55 e56 e57 e58 e63 e64 e65 e66 e67 e68 e69 e70 e71 e72 e73 e74 e75 e76 e77 e78 e79 e80 e81 e86 e88 e89 e90 e91 e92 e93 e94 e95 e96 e97 e98 e99 e100 e101 e102 e103 e104 e105 e106 e107 e108 e109 e110 e111 e112 e113 e114 e115 e116 e117 e118 e119 e120 e121 e122 e123 e124 e125 e126 e127 e128 e129 e130 e131 e132 e133 e134 e135 e139 e140 e141 e145 e147 e148 e149 e150 e151 e152 e153 e154 e155 e156 e157 e158 e159 e160 e161 e162 e163 e164 e165 e166 e167 e168 e169 e170 e171 e172 e173 e174 e175 e180 e181 e182 e183 e184 e185 e186 e187 e188 e189 e190 e191 e192 e193 e194 e195 e196 e197 e202 e204 e205 e206 e207 e208 e209 e210 e211 e212 e213 e214 e215 e216 e217 e218 e219 e220 e221 e222 e223 e224 e225 e226 e227 e228 e229 e230 e231 e232 e233 e234 e235 e236 e237 e238 e239 e240 e241 e242 e243 e244 e245 e246 e247 e248 e249 e250 e251 e255 e256 e257 e261 e263 e264 e265 e266 e267 e268 e269 e270 e271 e272 e273 e274 e275 e276 e277 e278 e279 e280 e281 e282 e283 e284 e285 e286 e287 e288 e289 e290 e291 e292 e293 e294 e295
 intro u0 u1
 have hs:0 < z11*z11+z12*z12 - 4*z10*z13:=by rw [e20,e19,e18,e17,e16,e14,e15] at u1; exact u1
 have p0:z86=2*(z10*(z0*z0+z1*z1)+z11*z0+z12*z1+z13)  := by
  clear hs u0 u1
  rw [e86,e81,e80,e79,e78,e77,e76,e75,e74,e73,e72,e71,e70,e69,e68,e67,e66,e65,e64,e63,e58,e57,e56,e55,e54,e53,e52,e51,e50,e49,e48,e47,e46,e45,e44,e43,e42,e41,e40,e39,e38,e37,e36,e35,e33,e32,e31,e23,e22,e21]
  grind
 have p1:z131=2*(z2*(z11+2*z10*z0) - 2*(z10*(z0*z0+z1*z1)+z11*z0+z12*z1+z13)*z0)  := by
  clear hs u0 u1
  rw [e131,e129,e124,e123,e122,e121,e120,e119,e118,e117,e116,e115,e114,e113,e112,e111,e110,e109,e104,e103,e102,e101,e100,e99,e98,e97,e96,e95,e94,e93,e92,e91,e90,e89,e88,e78,e63,e55,e54,e48,e46,e42,e37,e36,e35,e34,e33,e32,e31,e30,e29,e28,e27,e26,e25,e24,e23,e22,e21]
  grind
 have p2:z132=2*(z2*(z12+2*z10*z1) - 2*(z10*(z0*z0+z1*z1)+z11*z0+z12*z1+z13)*z1)  := by
  clear hs u0 u1
  rw [e132,e130,e128,e127,e126,e125,e121,e120,e119,e118,e117,e116,e115,e114,e113,e112,e111,e110,e109,e108,e107,e106,e105,e101,e100,e99,e98,e97,e96,e95,e94,e93,e92,e91,e90,e89,e88,e63,e54,e48,e46,e42,e37,e36,e35,e34,e33,e32,e31,e30,e29,e28,e27,e26,e25,e24,e23,e22,e21]
  grind
 have p3:z145=2*((z10*(z0*z0+z1*z1)+z11*z0+z12*z1+z13)*(z0*z0+z1*z1) - z2*((z11+2*z10*z0)*z0+(z12+2*z10*z1)*z1)+z10*z2*z2)  := by
  clear hs u0 u1
  rw [e145,e141,e140,e139,e135,e134,e133,e121,e120,e119,e118,e117,e116,e115,e114,e113,e112,e111,e110,e109,e101,e100,e99,e98,e97,e96,e95,e94,e93,e92,e91,e90,e89,e88,e78,e63,e48,e46,e42,e37,e35,e34,e33,e31,e30,e29,e28,e27,e26,e25,e24,e23,e21]
  grind
 have p:Rd z0 z1 z2 z10 z11 z12 z13 z86 z131 z132 z145:=⟨p0,p1,p2,p3⟩
 clear p0 p1 p2 p3
 have k0:z202=2*(z147*(z0*z0+z1*z1)+z148*z0+z149*z1+z150)  := by
  clear hs u0 u1 p
  rw [e202,e197,e196,e195,e194,e193,e192,e191,e190,e189,e188,e187,e186,e185,e184,e183,e182,e181,e180,e175,e174,e173,e172,e171,e170,e169,e168,e167,e166,e165,e164,e163,e162,e161,e160,e159,e158,e157,e78,e55,e54,e46,e37,e36,e35,e33,e32,e31,e23,e22]
  grind
 have k1:z247=2*(z2*(z148+2*z147*z0) - 2*(z147*(z0*z0+z1*z1)+z148*z0+z149*z1+z150)*z0)  := by
  clear hs u0 u1 p
  rw [e247,e245,e240,e239,e238,e237,e236,e235,e234,e233,e232,e231,e230,e229,e228,e227,e226,e225,e220,e219,e218,e217,e216,e215,e214,e213,e212,e211,e210,e209,e208,e207,e206,e205,e204,e180,e167,e162,e157,e78,e55,e54,e46,e37,e36,e35,e34,e33,e32,e31,e30,e29,e28,e27,e26,e25,e24,e23,e22]
  grind
 have k2:z248=2*(z2*(z149+2*z147*z1) - 2*(z147*(z0*z0+z1*z1)+z148*z0+z149*z1+z150)*z1)  := by
  clear hs u0 u1 p
  rw [e248,e246,e244,e243,e242,e241,e237,e236,e235,e234,e233,e232,e231,e230,e229,e228,e227,e226,e225,e224,e223,e222,e221,e217,e216,e215,e214,e213,e212,e211,e210,e209,e208,e207,e206,e205,e204,e180,e167,e162,e157,e54,e46,e37,e36,e35,e34,e33,e32,e31,e30,e29,e28,e27,e26,e25,e24,e23,e22]
  grind
 have k3:z261=2*((z147*(z0*z0+z1*z1)+z148*z0+z149*z1+z150)*(z0*z0+z1*z1) - z2*((z148+2*z147*z0)*z0+(z149+2*z147*z1)*z1)+z147*z2*z2)  := by
  clear hs u0 u1 p
  rw [e261,e257,e256,e255,e251,e250,e249,e237,e236,e235,e234,e233,e232,e231,e230,e229,e228,e227,e226,e225,e217,e216,e215,e214,e213,e212,e211,e210,e209,e208,e207,e206,e205,e204,e180,e167,e162,e157,e78,e46,e37,e35,e34,e33,e31,e30,e29,e28,e27,e26,e25,e24,e23]
  grind
 have k:Rd z0 z1 z2 z147 z148 z149 z150 z202 z247 z248 z261:=⟨k0,k1,k2,k3⟩
 clear k0 k1 k2 k3
 have hf:=tr_f p u0 hs
 have hp:=tr_pos p u0 hs hf e147 e148 e149 e150
 have ⟨t0,t1,t2,t3⟩:=tw_rd2 p e147 e148 e149 e150 k
 have w0:=tw_ml t0 e263
 have w1:=tw_ml t1 e264
 have w2:=tw_ml t2 e265
 have w3:=tw_ml t3 e266
 have d10:=tw_al w1 w0 e267 e268 e269
 have d20:=tw_al w2 w0 e270 e271 e272
 have d21:=tw_al w2 w1 e273 e274 e275
 have d30:=tw_al w3 w0 e276 e277 e278
 have d31:=tw_al w3 w1 e279 e280 e281
 have d32:=tw_al w3 w2 e282 e283 e284
 refine ⟨by rw [e156,e155,e154,e17,e153,e151,e152]; exact hp,?_⟩
 rw [e295,e294,e293,e292,e291,e290,e289,e288,e287,e286,e285,d10,d20,d21,d30,d31,d32]; grind
theorem tW_T2 (H:tW_Q q σ):(0 < q 2)→(0 < q 20)→(0 < q 156∧q 295=0):=by
 have e14:q 14=q 11*q 11:=H 14 _ rfl;have e15:q 15=q 12*q 12:=H 15 _ rfl;have e16:q 16=q 14+q 15:=H 16 _ rfl;have e17:q 17=4:=(H 17 _ rfl).trans tW_c17;have e18:q 18=q 17*q 10:=H 18 _ rfl;have e19:q 19=q 18*q 13:=H 19 _ rfl;have e20:q 20=q 16-q 19:=H 20 _ rfl;have e21:q 21=-q 12:=H 21 _ rfl;have e22:q 22=1:=(H 22 _ rfl).trans tW_c22;have e23:q 23=0:=(H 23 _ rfl).trans tW_c23;have e24:q 24=q 23-q 0:=H 24 _ rfl;have e25:q 25=q 23-q 1:=H 25 _ rfl;have e26:q 26=q 24*q 24:=H 26 _ rfl;have e27:q 27=q 25*q 25:=H 27 _ rfl;have e28:q 28=q 26+q 27:=H 28 _ rfl;have e29:q 29=q 28-q 2:=H 29 _ rfl;have e30:q 30=-q 29:=H 30 _ rfl;have e31:q 31=-q 1:=H 31 _ rfl;have e32:q 32=-q 0:=H 32 _ rfl;have e33:q 33=-q 31:=H 33 _ rfl;have e34:q 34=-q 30:=H 34 _ rfl;have e35:q 35=-q 23:=H 35 _ rfl;have e36:q 36=-q 22:=H 36 _ rfl;have e37:q 37=2:=(H 37 _ rfl).trans tW_c37;have e38:q 38=q 32*q 10:=H 38 _ rfl;have e39:q 39=q 33*q 10:=H 39 _ rfl;have e40:q 40=q 38*q 37:=H 40 _ rfl;have e41:q 41=q 39*q 37:=H 41 _ rfl;have e42:q 42=-q 21:=H 42 _ rfl;have e43:q 43=q 36*q 11:=H 43 _ rfl;have e44:q 44=q 35*q 42:=H 44 _ rfl;have e45:q 45=q 43+q 44:=H 45 _ rfl;have e46:q 46=-q 35:=H 46 _ rfl;have e47:q 47=q 36*q 21:=H 47 _ rfl;have e48:q 48=q 46*q 11:=H 48 _ rfl;have e49:q 49=q 47-q 48:=H 49 _ rfl;have e50:q 50=q 23+q 40:=H 50 _ rfl;have e51:q 51=q 23+q 41:=H 51 _ rfl;have e52:q 52=q 50+q 45:=H 52 _ rfl;have e53:q 53=q 51+q 49:=H 53 _ rfl;have e54:q 54=-q 33:=H 54 _ rfl;have e55:q 55=-q 54:=H 55 _ rfl;have e56:q 56=q 52*q 32:=H 56 _ rfl;have e57:q 57=q 53*q 55:=H 57 _ rfl;have e58:q 58=q 56+q 57:=H 58 _ rfl;have e63:q 63=-q 42:=H 63 _ rfl;have e64:q 64=q 32*q 11:=H 64 _ rfl;have e65:q 65=q 33*q 63:=H 65 _ rfl;have e66:q 66=q 64+q 65:=H 66 _ rfl;have e67:q 67=q 32*q 42:=H 67 _ rfl;have e68:q 68=q 54*q 11:=H 68 _ rfl;have e69:q 69=q 67-q 68:=H 69 _ rfl;have e70:q 70=q 36*q 13:=H 70 _ rfl;have e71:q 71=q 35*q 13:=H 71 _ rfl;have e72:q 72=q 70*q 37:=H 72 _ rfl;have e73:q 73=q 71*q 37:=H 73 _ rfl;have e74:q 74=q 23+q 66:=H 74 _ rfl;have e75:q 75=q 23+q 69:=H 75 _ rfl;have e76:q 76=q 74+q 72:=H 76 _ rfl;have e77:q 77=q 75+q 73:=H 77 _ rfl;have e78:q 78=-q 46:=H 78 _ rfl;have e79:q 79=q 76*q 36:=H 79 _ rfl;have e80:q 80=q 77*q 78:=H 80 _ rfl;have e81:q 81=q 79+q 80:=H 81 _ rfl;have e86:q 86=q 58+q 81:=H 86 _ rfl;have e88:q 88=q 34*q 10:=H 88 _ rfl;have e89:q 89=q 35*q 10:=H 89 _ rfl;have e90:q 90=q 88*q 37:=H 90 _ rfl;have e91:q 91=q 89*q 37:=H 91 _ rfl;have e92:q 92=q 0*q 11:=H 92 _ rfl;have e93:q 93=q 1*q 42:=H 93 _ rfl;have e94:q 94=q 92+q 93:=H 94 _ rfl;have e95:q 95=q 0*q 21:=H 95 _ rfl;have e96:q 96=q 31*q 11:=H 96 _ rfl;have e97:q 97=q 95-q 96:=H 97 _ rfl;have e98:q 98=q 23+q 90:=H 98 _ rfl;have e99:q 99=q 23+q 91:=H 99 _ rfl;have e100:q 100=q 98+q 94:=H 100 _ rfl;have e101:q 101=q 99+q 97:=H 101 _ rfl;have e102:q 102=q 100*q 32:=H 102 _ rfl;have e103:q 103=q 101*q 55:=H 103 _ rfl;have e104:q 104=q 102+q 103:=H 104 _ rfl;have e105:q 105=-q 101:=H 105 _ rfl;have e106:q 106=q 100*q 54:=H 106 _ rfl;have e107:q 107=q 105*q 32:=H 107 _ rfl;have e108:q 108=q 106-q 107:=H 108 _ rfl;have e109:q 109=q 34*q 11:=H 109 _ rfl;have e110:q 110=q 35*q 63:=H 110 _ rfl;have e111:q 111=q 109+q 110:=H 111 _ rfl;have e112:q 112=q 34*q 42:=H 112 _ rfl;have e113:q 113=q 112-q 48:=H 113 _ rfl;have e114:q 114=q 0*q 13:=H 114 _ rfl;have e115:q 115=q 1*q 13:=H 115 _ rfl;have e116:q 116=q 114*q 37:=H 116 _ rfl;have e117:q 117=q 115*q 37:=H 117 _ rfl;have e118:q 118=q 23+q 111:=H 118 _ rfl;have e119:q 119=q 23+q 113:=H 119 _ rfl;have e120:q 120=q 118+q 116:=H 120 _ rfl;have e121:q 121=q 119+q 117:=H 121 _ rfl;have e122:q 122=q 120*q 36:=H 122 _ rfl;have e123:q 123=q 121*q 78:=H 123 _ rfl;have e124:q 124=q 122+q 123:=H 124 _ rfl;have e125:q 125=-q 121:=H 125 _ rfl;have e126:q 126=q 120*q 46:=H 126 _ rfl;have e127:q 127=q 125*q 36:=H 127 _ rfl;have e128:q 128=q 126-q 127:=H 128 _ rfl;have e129:q 129=q 104+q 124:=H 129 _ rfl;have e130:q 130=q 108+q 128:=H 130 _ rfl;have e131:q 131=q 129*q 37:=H 131 _ rfl;have e132:q 132=q 130*q 37:=H 132 _ rfl;have e133:q 133=q 100*q 34:=H 133 _ rfl;have e134:q 134=q 101*q 78:=H 134 _ rfl;have e135:q 135=q 133+q 134:=H 135 _ rfl;have e139:q 139=q 120*q 0:=H 139 _ rfl;have e140:q 140=q 121*q 33:=H 140 _ rfl;have e141:q 141=q 139+q 140:=H 141 _ rfl;have e145:q 145=q 135+q 141:=H 145 _ rfl;have e147:q 147=q 86*fac [q 86,q 131,q 132,q 145]:=H 147 _ rfl;have e148:q 148=q 131*fac [q 86,q 131,q 132,q 145]:=H 148 _ rfl;have e149:q 149=q 132*fac [q 86,q 131,q 132,q 145]:=H 149 _ rfl;have e150:q 150=q 145*fac [q 86,q 131,q 132,q 145]:=H 150 _ rfl;have e151:q 151=q 148*q 148:=H 151 _ rfl;have e152:q 152=q 149*q 149:=H 152 _ rfl;have e153:q 153=q 151+q 152:=H 153 _ rfl;have e154:q 154=q 17*q 147:=H 154 _ rfl;have e155:q 155=q 154*q 150:=H 155 _ rfl;have e156:q 156=q 153-q 155:=H 156 _ rfl;have e157:q 157=-q 149:=H 157 _ rfl;have e158:q 158=q 32*q 147:=H 158 _ rfl;have e159:q 159=q 33*q 147:=H 159 _ rfl;have e160:q 160=q 158*q 37:=H 160 _ rfl;have e161:q 161=q 159*q 37:=H 161 _ rfl;have e162:q 162=-q 157:=H 162 _ rfl;have e163:q 163=q 36*q 148:=H 163 _ rfl;have e164:q 164=q 35*q 162:=H 164 _ rfl;have e165:q 165=q 163+q 164:=H 165 _ rfl;have e166:q 166=q 36*q 157:=H 166 _ rfl;have e167:q 167=q 46*q 148:=H 167 _ rfl;have e168:q 168=q 166-q 167:=H 168 _ rfl;have e169:q 169=q 23+q 160:=H 169 _ rfl;have e170:q 170=q 23+q 161:=H 170 _ rfl;have e171:q 171=q 169+q 165:=H 171 _ rfl;have e172:q 172=q 170+q 168:=H 172 _ rfl;have e173:q 173=q 171*q 32:=H 173 _ rfl;have e174:q 174=q 172*q 55:=H 174 _ rfl;have e175:q 175=q 173+q 174:=H 175 _ rfl;have e180:q 180=-q 162:=H 180 _ rfl;have e181:q 181=q 32*q 148:=H 181 _ rfl;have e182:q 182=q 33*q 180:=H 182 _ rfl;have e183:q 183=q 181+q 182:=H 183 _ rfl;have e184:q 184=q 32*q 162:=H 184 _ rfl;have e185:q 185=q 54*q 148:=H 185 _ rfl;have e186:q 186=q 184-q 185:=H 186 _ rfl;have e187:q 187=q 36*q 150:=H 187 _ rfl;have e188:q 188=q 35*q 150:=H 188 _ rfl;have e189:q 189=q 187*q 37:=H 189 _ rfl;have e190:q 190=q 188*q 37:=H 190 _ rfl;have e191:q 191=q 23+q 183:=H 191 _ rfl;have e192:q 192=q 23+q 186:=H 192 _ rfl;have e193:q 193=q 191+q 189:=H 193 _ rfl;have e194:q 194=q 192+q 190:=H 194 _ rfl;have e195:q 195=q 193*q 36:=H 195 _ rfl;have e196:q 196=q 194*q 78:=H 196 _ rfl;have e197:q 197=q 195+q 196:=H 197 _ rfl;have e202:q 202=q 175+q 197:=H 202 _ rfl;have e204:q 204=q 34*q 147:=H 204 _ rfl;have e205:q 205=q 35*q 147:=H 205 _ rfl;have e206:q 206=q 204*q 37:=H 206 _ rfl;have e207:q 207=q 205*q 37:=H 207 _ rfl;have e208:q 208=q 0*q 148:=H 208 _ rfl;have e209:q 209=q 1*q 162:=H 209 _ rfl;have e210:q 210=q 208+q 209:=H 210 _ rfl;have e211:q 211=q 0*q 157:=H 211 _ rfl;have e212:q 212=q 31*q 148:=H 212 _ rfl;have e213:q 213=q 211-q 212:=H 213 _ rfl;have e214:q 214=q 23+q 206:=H 214 _ rfl;have e215:q 215=q 23+q 207:=H 215 _ rfl;have e216:q 216=q 214+q 210:=H 216 _ rfl;have e217:q 217=q 215+q 213:=H 217 _ rfl;have e218:q 218=q 216*q 32:=H 218 _ rfl;have e219:q 219=q 217*q 55:=H 219 _ rfl;have e220:q 220=q 218+q 219:=H 220 _ rfl;have e221:q 221=-q 217:=H 221 _ rfl;have e222:q 222=q 216*q 54:=H 222 _ rfl;have e223:q 223=q 221*q 32:=H 223 _ rfl;have e224:q 224=q 222-q 223:=H 224 _ rfl;have e225:q 225=q 34*q 148:=H 225 _ rfl;have e226:q 226=q 35*q 180:=H 226 _ rfl;have e227:q 227=q 225+q 226:=H 227 _ rfl;have e228:q 228=q 34*q 162:=H 228 _ rfl;have e229:q 229=q 228-q 167:=H 229 _ rfl;have e230:q 230=q 0*q 150:=H 230 _ rfl;have e231:q 231=q 1*q 150:=H 231 _ rfl;have e232:q 232=q 230*q 37:=H 232 _ rfl;have e233:q 233=q 231*q 37:=H 233 _ rfl;have e234:q 234=q 23+q 227:=H 234 _ rfl;have e235:q 235=q 23+q 229:=H 235 _ rfl;have e236:q 236=q 234+q 232:=H 236 _ rfl;have e237:q 237=q 235+q 233:=H 237 _ rfl;have e238:q 238=q 236*q 36:=H 238 _ rfl;have e239:q 239=q 237*q 78:=H 239 _ rfl;have e240:q 240=q 238+q 239:=H 240 _ rfl;have e241:q 241=-q 237:=H 241 _ rfl;have e242:q 242=q 236*q 46:=H 242 _ rfl;have e243:q 243=q 241*q 36:=H 243 _ rfl;have e244:q 244=q 242-q 243:=H 244 _ rfl;have e245:q 245=q 220+q 240:=H 245 _ rfl;have e246:q 246=q 224+q 244:=H 246 _ rfl;have e247:q 247=q 245*q 37:=H 247 _ rfl;have e248:q 248=q 246*q 37:=H 248 _ rfl;have e249:q 249=q 216*q 34:=H 249 _ rfl;have e250:q 250=q 217*q 78:=H 250 _ rfl;have e251:q 251=q 249+q 250:=H 251 _ rfl;have e255:q 255=q 236*q 0:=H 255 _ rfl;have e256:q 256=q 237*q 33:=H 256 _ rfl;have e257:q 257=q 255+q 256:=H 257 _ rfl;have e261:q 261=q 251+q 257:=H 261 _ rfl;have e263:q 263=q 202*fac [q 202,q 247,q 248,q 261]:=H 263 _ rfl;have e264:q 264=q 247*fac [q 202,q 247,q 248,q 261]:=H 264 _ rfl;have e265:q 265=q 248*fac [q 202,q 247,q 248,q 261]:=H 265 _ rfl;have e266:q 266=q 261*fac [q 202,q 247,q 248,q 261]:=H 266 _ rfl;have e267:q 267=q 264*q 10:=H 267 _ rfl;have e268:q 268=q 263*q 11:=H 268 _ rfl;have e269:q 269=q 267-q 268:=H 269 _ rfl;have e270:q 270=q 265*q 10:=H 270 _ rfl;have e271:q 271=q 263*q 12:=H 271 _ rfl;have e272:q 272=q 270-q 271:=H 272 _ rfl;have e273:q 273=q 265*q 11:=H 273 _ rfl;have e274:q 274=q 264*q 12:=H 274 _ rfl;have e275:q 275=q 273-q 274:=H 275 _ rfl;have e276:q 276=q 266*q 10:=H 276 _ rfl;have e277:q 277=q 263*q 13:=H 277 _ rfl;have e278:q 278=q 276-q 277:=H 278 _ rfl;have e279:q 279=q 266*q 11:=H 279 _ rfl;have e280:q 280=q 264*q 13:=H 280 _ rfl;have e281:q 281=q 279-q 280:=H 281 _ rfl;have e282:q 282=q 266*q 12:=H 282 _ rfl;have e283:q 283=q 265*q 13:=H 283 _ rfl;have e284:q 284=q 282-q 283:=H 284 _ rfl;have e285:q 285=q 269*q 269:=H 285 _ rfl;have e286:q 286=q 272*q 272:=H 286 _ rfl;have e287:q 287=q 285+q 286:=H 287 _ rfl;have e288:q 288=q 275*q 275:=H 288 _ rfl;have e289:q 289=q 287+q 288:=H 289 _ rfl;have e290:q 290=q 278*q 278:=H 290 _ rfl;have e291:q 291=q 289+q 290:=H 291 _ rfl;have e292:q 292=q 281*q 281:=H 292 _ rfl;have e293:q 293=q 291+q 292:=H 293 _ rfl;have e294:q 294=q 284*q 284:=H 294 _ rfl;have e295:q 295=q 293+q 294:=H 295 _ rfl
 exact tW_T2z e14 e15 e16 e17 e18 e19 e20 e21 e22 e23 e24 e25 e26 e27 e28 e29 e30 e31 e32 e33 e34 e35 e36 e37 e38 e39 e40 e41 e42 e43 e44 e45 e46 e47 e48 e49 e50 e51 e52 e53 e54 e55 e56 e57 e58 e63 e64 e65 e66 e67 e68 e69 e70 e71 e72 e73 e74 e75 e76 e77 e78 e79 e80 e81 e86 e88 e89 e90 e91 e92 e93 e94 e95 e96 e97 e98 e99 e100 e101 e102 e103 e104 e105 e106 e107 e108 e109 e110 e111 e112 e113 e114 e115 e116 e117 e118 e119 e120 e121 e122 e123 e124 e125 e126 e127 e128 e129 e130 e131 e132 e133 e134 e135 e139 e140 e141 e145 e147 e148 e149 e150 e151 e152 e153 e154 e155 e156 e157 e158 e159 e160 e161 e162 e163 e164 e165 e166 e167 e168 e169 e170 e171 e172 e173 e174 e175 e180 e181 e182 e183 e184 e185 e186 e187 e188 e189 e190 e191 e192 e193 e194 e195 e196 e197 e202 e204 e205 e206 e207 e208 e209 e210 e211 e212 e213 e214 e215 e216 e217 e218 e219 e220 e221 e222 e223 e224 e225 e226 e227 e228 e229 e230 e231 e232 e233 e234 e235 e236 e237 e238 e239 e240 e241 e242 e243 e244 e245 e246 e247 e248 e249 e250 e251 e255 e256 e257 e261 e263 e264 e265 e266 e267 e268 e269 e270 e271 e272 e273 e274 e275 e276 e277 e278 e279 e280 e281 e282 e283 e284 e285 e286 e287 e288 e289 e290 e291 e292 e293 e294 e295
theorem tW_T3 (H:tW_Q q σ):(0 < q 298)→(0 < q 317):=by
 have e17:q 17=4:=(H 17 _ rfl).trans tW_c17;have e22:q 22=1:=(H 22 _ rfl).trans tW_c22;have e23:q 23=0:=(H 23 _ rfl).trans tW_c23;have e299:q 299=(-2):=(H 299 _ rfl).trans tW_c299;have e300:q 300=q 296*q 299:=H 300 _ rfl;have e301:q 301=q 297*q 299:=H 301 _ rfl;have e302:q 302=q 23-q 296:=H 302 _ rfl;have e303:q 303=q 23-q 297:=H 303 _ rfl;have e304:q 304=q 302*q 302:=H 304 _ rfl;have e305:q 305=q 303*q 303:=H 305 _ rfl;have e306:q 306=q 304+q 305:=H 306 _ rfl;have e307:q 307=q 306-q 298:=H 307 _ rfl;have e308:q 308=q 22*fac [q 22,q 300,q 301,q 307]:=H 308 _ rfl;have e309:q 309=q 300*fac [q 22,q 300,q 301,q 307]:=H 309 _ rfl;have e310:q 310=q 301*fac [q 22,q 300,q 301,q 307]:=H 310 _ rfl;have e311:q 311=q 307*fac [q 22,q 300,q 301,q 307]:=H 311 _ rfl;have e312:q 312=q 309*q 309:=H 312 _ rfl;have e313:q 313=q 310*q 310:=H 313 _ rfl;have e314:q 314=q 312+q 313:=H 314 _ rfl;have e315:q 315=q 17*q 308:=H 315 _ rfl;have e316:q 316=q 315*q 311:=H 316 _ rfl;have e317:q 317=q 314-q 316:=H 317 _ rfl
 clear H
 intro u0
 have r0:q 22=1:=e22
 have r1:q 300=-2*q 296:=by
  rw [e300,e299]
  grind
 have r2:q 301=-2*q 297:=by
  rw [e301,e299]
  grind
 have r3:q 307=q 296*q 296+q 297*q 297 - q 298:=by
  rw [e307,e306,e305,e304,e303,e302,e23]
  grind
 have hf:fac [q 22,q 300,q 301,q 307] ≠ 0:=by rw [r0]; exact tw_cf
 obtain ⟨f,g⟩:∃ f,f=fac [q 22,q 300,q 301,q 307]:=⟨_,rfl⟩
 rw [← g] at hf e308 e309 e310 e311
 have h0:q 308=1*f:=by rw [e308,r0]
 have h1:q 309=-2*q 296*f:=by rw [e309,r1]
 have h2:q 310=-2*q 297*f:=by rw [e310,r2]
 have h3:q 311=(q 296*q 296+q 297*q 297 - q 298)*f:=by rw [e311,r3]
 rw [e317,e316,e315,e17,e314,e312,e313]
 exact tw_cs hf u0 h0 h1 h2 h3
theorem tW_T4z {z0 z1 z2 z22 z23 z24 z25 z26 z27 z28 z29 z30 z31 z32 z33 z34 z35 z36 z37 z46 z54 z55 z78 z296 z297 z298 z299 z300 z301 z302 z303 z304 z305 z306 z307 z308 z309 z310 z311 z318 z319 z320 z321 z322 z323 z324 z325 z326 z327 z328 z329 z330 z331 z332 z333 z334 z335 z336 z341 z342 z343 z344 z345 z346 z347 z348 z349 z350 z351 z352 z353 z354 z355 z356 z357 z358 z363 z365 z366 z367 z368 z369 z370 z371 z372 z373 z374 z375 z376 z377 z378 z379 z380 z381 z382 z383 z384 z385 z386 z387 z388 z389 z390 z391 z392 z393 z394 z395 z396 z397 z398 z399 z400 z401 z402 z403 z404 z405 z406 z407 z408 z409 z410 z411 z412 z416 z417 z418 z422 z424 z425 z426 z427 z428 z429 z430 z431 z432 z433 z434 z435 z436 z437 z438 z439 z440 z441 z442 z443 z444 z445 z446 z447 z448 z449 z450 z451 z452:Rat}:z22=1→z23=0→z24=z23-z0→z25=z23-z1→z26=z24*z24→z27=z25*z25→z28=z26+z27→z29=z28-z2→z30=-z29→z31=-z1→z32=-z0→z33=-z31→z34=-z30→z35=-z23→z36=-z22→z37=2→z46=-z35→z54=-z33→z55=-z54→z78=-z46→z299=(-2)→z300=z296*z299→z301=z297*z299→z302=z23-z296→z303=z23-z297→z304=z302*z302→z305=z303*z303→z306=z304+z305→z307=z306-z298→z308=z22*fac [z22,z300,z301,z307]→z309=z300*fac [z22,z300,z301,z307]→z310=z301*fac [z22,z300,z301,z307]→z311=z307*fac [z22,z300,z301,z307]→z318=-z310→z319=z32*z308→z320=z33*z308→z321=z319*z37→z322=z320*z37→z323=-z318→z324=z36*z309→z325=z35*z323→z326=z324+z325→z327=z36*z318→z328=z46*z309→z329=z327-z328→z330=z23+z321→z331=z23+z322→z332=z330+z326→z333=z331+z329→z334=z332*z32→z335=z333*z55→z336=z334+z335→z341=-z323→z342=z32*z309→z343=z33*z341→z344=z342+z343→z345=z32*z323→z346=z54*z309→z347=z345-z346→z348=z36*z311→z349=z35*z311→z350=z348*z37→z351=z349*z37→z352=z23+z344→z353=z23+z347→z354=z352+z350→z355=z353+z351→z356=z354*z36→z357=z355*z78→z358=z356+z357→z363=z336+z358→z365=z34*z308→z366=z35*z308→z367=z365*z37→z368=z366*z37→z369=z0*z309→z370=z1*z323→z371=z369+z370→z372=z0*z318→z373=z31*z309→z374=z372-z373→z375=z23+z367→z376=z23+z368→z377=z375+z371→z378=z376+z374→z379=z377*z32→z380=z378*z55→z381=z379+z380→z382=-z378→z383=z377*z54→z384=z382*z32→z385=z383-z384→z386=z34*z309→z387=z35*z341→z388=z386+z387→z389=z34*z323→z390=z389-z328→z391=z0*z311→z392=z1*z311→z393=z391*z37→z394=z392*z37→z395=z23+z388→z396=z23+z390→z397=z395+z393→z398=z396+z394→z399=z397*z36→z400=z398*z78→z401=z399+z400→z402=-z398→z403=z397*z46→z404=z402*z36→z405=z403-z404→z406=z381+z401→z407=z385+z405→z408=z406*z37→z409=z407*z37→z410=z377*z34→z411=z378*z78→z412=z410+z411→z416=z397*z0→z417=z398*z33→z418=z416+z417→z422=z412+z418→z424=z363*fac [z363,z408,z409,z422]→z425=z408*fac [z363,z408,z409,z422]→z426=z409*fac [z363,z408,z409,z422]→z427=z422*fac [z363,z408,z409,z422]→z428=z296-z0→z429=z297-z1→z430=z428*z428→z431=z429*z429→z432=z430+z431→z433=-z2→z434=-z298→z435=z432+z433→z436=z435+z434→z437=z424-z308→z438=z425-z309→z439=z426-z310→z440=z427-z311→z441=z437*z437→z442=z438*z438→z443=z441+z442→z444=z439*z439→z445=z443+z444→z446=z440*z440→z447=z445+z446→z448=z0-z296→z449=z1-z297→z450=z448*z448→z451=z449*z449→z452=z450+z451→(0 < z2)→(0 < z298)→((z436=0→z447=0)∧(¬ (z436=0)→z447=0→(z452=0∧z2=z298))∧(¬ (z436=0)→¬ (z447=0)→z452=0→¬ (z2=z298))):=by
 intro e22 e23 e24 e25 e26 e27 e28 e29 e30 e31 e32 e33 e34 e35 e36 e37 e46 e54 e55 e78 e299 e300 e301 e302 e303 e304 e305 e306 e307 e308 e309 e310 e311 e318 e319 e320 e321 e322 e323 e324 e325 e326 e327 e328 e329 e330 e331 e332 e333 e334 e335 e336 e341 e342 e343 e344 e345 e346 e347 e348 e349 e350 e351 e352 e353 e354 e355 e356 e357 e358 e363 e365 e366 e367 e368 e369 e370 e371 e372 e373 e374 e375 e376 e377 e378 e379 e380 e381 e382 e383 e384 e385 e386 e387 e388 e389 e390 e391 e392 e393 e394 e395 e396 e397 e398 e399 e400 e401 e402 e403 e404 e405 e406 e407 e408 e409 e410 e411 e412 e416 e417 e418 e422 e424 e425 e426 e427 e428 e429 e430 e431 e432 e433 e434 e435 e436 e437 e438 e439 e440 e441 e442 e443 e444 e445 e446 e447 e448 e449 e450 e451 e452
 intro u0 u1
 have k0:z363=2*(z308*(z0*z0+z1*z1)+z309*z0+z310*z1+z311)  := by
  clear u0 u1
  rw [e363,e358,e357,e356,e355,e354,e353,e352,e351,e350,e349,e348,e347,e346,e345,e344,e343,e342,e341,e336,e335,e334,e333,e332,e331,e330,e329,e328,e327,e326,e325,e324,e323,e322,e321,e320,e319,e318,e78,e55,e54,e46,e37,e36,e35,e33,e32,e31,e23,e22]
  grind
 have k1:z408=2*(z2*(z309+2*z308*z0) - 2*(z308*(z0*z0+z1*z1)+z309*z0+z310*z1+z311)*z0)  := by
  clear u0 u1
  rw [e408,e406,e401,e400,e399,e398,e397,e396,e395,e394,e393,e392,e391,e390,e389,e388,e387,e386,e381,e380,e379,e378,e377,e376,e375,e374,e373,e372,e371,e370,e369,e368,e367,e366,e365,e341,e328,e323,e318,e78,e55,e54,e46,e37,e36,e35,e34,e33,e32,e31,e30,e29,e28,e27,e26,e25,e24,e23,e22]
  grind
 have k2:z409=2*(z2*(z310+2*z308*z1) - 2*(z308*(z0*z0+z1*z1)+z309*z0+z310*z1+z311)*z1)  := by
  clear u0 u1
  rw [e409,e407,e405,e404,e403,e402,e398,e397,e396,e395,e394,e393,e392,e391,e390,e389,e388,e387,e386,e385,e384,e383,e382,e378,e377,e376,e375,e374,e373,e372,e371,e370,e369,e368,e367,e366,e365,e341,e328,e323,e318,e54,e46,e37,e36,e35,e34,e33,e32,e31,e30,e29,e28,e27,e26,e25,e24,e23,e22]
  grind
 have k3:z422=2*((z308*(z0*z0+z1*z1)+z309*z0+z310*z1+z311)*(z0*z0+z1*z1) - z2*((z309+2*z308*z0)*z0+(z310+2*z308*z1)*z1)+z308*z2*z2)  := by
  clear u0 u1
  rw [e422,e418,e417,e416,e412,e411,e410,e398,e397,e396,e395,e394,e393,e392,e391,e390,e389,e388,e387,e386,e378,e377,e376,e375,e374,e373,e372,e371,e370,e369,e368,e367,e366,e365,e341,e328,e323,e318,e78,e46,e37,e35,e34,e33,e31,e30,e29,e28,e27,e26,e25,e24,e23]
  grind
 have k:Rd z0 z1 z2 z308 z309 z310 z311 z363 z408 z409 z422:=⟨k0,k1,k2,k3⟩
 clear k0 k1 k2 k3
 have r0:z22=1:=e22
 have r1:z300=-2*z296:=by
  rw [e300,e299]
  grind
 have r2:z301=-2*z297:=by
  rw [e301,e299]
  grind
 have r3:z307=z296*z296+z297*z297 - z298:=by
  rw [e307,e306,e305,e304,e303,e302,e23]
  grind
 have hf:fac [z22,z300,z301,z307] ≠ 0:=by rw [r0]; exact tw_cf
 obtain ⟨f,g⟩:∃ f,f=fac [z22,z300,z301,z307]:=⟨_,rfl⟩
 rw [← g] at hf e308 e309 e310 e311
 have h0:z308=1*f:=by rw [e308,r0]
 have h1:z309=-2*z296*f:=by rw [e309,r1]
 have h2:z310=-2*z297*f:=by rw [e310,r2]
 have h3:z311=(z296*z296+z297*z297 - z298)*f:=by rw [e311,r3]
 have hq:z436=(z296 - z0)*(z296 - z0)+(z297 - z1)*(z297 - z1) - z2 - z298:=by
  rw [e436,e435,e432,e430,e431,e428,e429,e433,e434]
  clear u0 u1 k hf g
  grind
 have hE:z447=0 ↔ (z437=0∧z438=0∧z439=0∧z440=0):=tw_s4 e441 e442 e443 e444 e445 e446 e447
 have key:∀ F:Rat,F ≠ 0→z363=F*1→z408=F*(-2*z296)→z409=F*(-2*z297)→z422=F*(z296*z296+z297*z297 - z298)→z447=0:=by
  intro F hF w0 w1 w2 w3
  rw [← r0] at w0
  rw [← r1] at w1
  rw [← r2] at w2
  rw [← r3] at w3
  have ⟨q0,q1,q2,q3⟩:=tw_eq hF (by rw [r0]; decide) w0 w1 w2 w3
  exact hE.2 ⟨by rw [e437,e424,e308,q0,g]; exact Rat.sub_self,by rw [e438,e425,e309,q1,g]; exact Rat.sub_self,by rw [e439,e426,e310,q2,g]; exact Rat.sub_self,by rw [e440,e427,e311,q3,g]; exact Rat.sub_self⟩
 have rr:z2 ≠ 0:=fun e => absurd (e ▸ u0) (by decide)
 refine ⟨fun hs => ?_,fun hs he => ?_,fun _ he hm h7 => ?_⟩
 ·have ⟨w0,w1,w2,w3⟩:=tw_sq h0 h1 h2 h3 k (hq.symm.trans hs)
  exact key _ (mul_ne (mul_ne (by decide) rr) hf) w0 w1 w2 w3
 ·have ⟨q0,q1,q2,q3⟩:=hE.1 he
  have v:∀ {x y d:Rat},d=x - y→d=0→x=y:=by intro x y d h1 h2; rw [h2] at h1; grind
  have ⟨c1,c2,c3⟩:=tw_conv u0 u1 hf h0 h1 h2 h3 k (e424.symm.trans (v e437 q0)) (e425.symm.trans (v e438 q1)) (e426.symm.trans (v e439 q2)) (e427.symm.trans (v e440 q3)) (fun e => hs (hq.trans e))
  refine ⟨(sq2 e450 e451 e452).2 ⟨by rw [e448,c1]; exact Rat.sub_self,by rw [e449,c2]; exact Rat.sub_self⟩,c3⟩
 ·have ⟨m1,m2⟩:=(sq2 e450 e451 e452).1 hm
  have v:∀ {x y d:Rat},d=x - y→d=0→y=x:=by intro x y d h1 h2; rw [h2] at h1; grind
  have ⟨w0,w1,w2,w3⟩:=tw_same h0 h1 h2 h3 k (v e448 m1) (v e449 m2) h7.symm
  exact he (key _ (mul_ne (mul_ne (by decide) rr) hf) w0 w1 w2 w3)
theorem tW_T4 (H:tW_Q q σ):(0 < q 2)→(0 < q 298)→((q 436=0→q 447=0)∧(¬ (q 436=0)→q 447=0→(q 452=0∧q 2=q 298))∧(¬ (q 436=0)→¬ (q 447=0)→q 452=0→¬ (q 2=q 298))):=by
 have e22:q 22=1:=(H 22 _ rfl).trans tW_c22;have e23:q 23=0:=(H 23 _ rfl).trans tW_c23;have e24:q 24=q 23-q 0:=H 24 _ rfl;have e25:q 25=q 23-q 1:=H 25 _ rfl;have e26:q 26=q 24*q 24:=H 26 _ rfl;have e27:q 27=q 25*q 25:=H 27 _ rfl;have e28:q 28=q 26+q 27:=H 28 _ rfl;have e29:q 29=q 28-q 2:=H 29 _ rfl;have e30:q 30=-q 29:=H 30 _ rfl;have e31:q 31=-q 1:=H 31 _ rfl;have e32:q 32=-q 0:=H 32 _ rfl;have e33:q 33=-q 31:=H 33 _ rfl;have e34:q 34=-q 30:=H 34 _ rfl;have e35:q 35=-q 23:=H 35 _ rfl;have e36:q 36=-q 22:=H 36 _ rfl;have e37:q 37=2:=(H 37 _ rfl).trans tW_c37;have e46:q 46=-q 35:=H 46 _ rfl;have e54:q 54=-q 33:=H 54 _ rfl;have e55:q 55=-q 54:=H 55 _ rfl;have e78:q 78=-q 46:=H 78 _ rfl;have e299:q 299=(-2):=(H 299 _ rfl).trans tW_c299;have e300:q 300=q 296*q 299:=H 300 _ rfl;have e301:q 301=q 297*q 299:=H 301 _ rfl;have e302:q 302=q 23-q 296:=H 302 _ rfl;have e303:q 303=q 23-q 297:=H 303 _ rfl;have e304:q 304=q 302*q 302:=H 304 _ rfl;have e305:q 305=q 303*q 303:=H 305 _ rfl;have e306:q 306=q 304+q 305:=H 306 _ rfl;have e307:q 307=q 306-q 298:=H 307 _ rfl;have e308:q 308=q 22*fac [q 22,q 300,q 301,q 307]:=H 308 _ rfl;have e309:q 309=q 300*fac [q 22,q 300,q 301,q 307]:=H 309 _ rfl;have e310:q 310=q 301*fac [q 22,q 300,q 301,q 307]:=H 310 _ rfl;have e311:q 311=q 307*fac [q 22,q 300,q 301,q 307]:=H 311 _ rfl;have e318:q 318=-q 310:=H 318 _ rfl;have e319:q 319=q 32*q 308:=H 319 _ rfl;have e320:q 320=q 33*q 308:=H 320 _ rfl;have e321:q 321=q 319*q 37:=H 321 _ rfl;have e322:q 322=q 320*q 37:=H 322 _ rfl;have e323:q 323=-q 318:=H 323 _ rfl;have e324:q 324=q 36*q 309:=H 324 _ rfl;have e325:q 325=q 35*q 323:=H 325 _ rfl;have e326:q 326=q 324+q 325:=H 326 _ rfl;have e327:q 327=q 36*q 318:=H 327 _ rfl;have e328:q 328=q 46*q 309:=H 328 _ rfl;have e329:q 329=q 327-q 328:=H 329 _ rfl;have e330:q 330=q 23+q 321:=H 330 _ rfl;have e331:q 331=q 23+q 322:=H 331 _ rfl;have e332:q 332=q 330+q 326:=H 332 _ rfl;have e333:q 333=q 331+q 329:=H 333 _ rfl;have e334:q 334=q 332*q 32:=H 334 _ rfl;have e335:q 335=q 333*q 55:=H 335 _ rfl;have e336:q 336=q 334+q 335:=H 336 _ rfl;have e341:q 341=-q 323:=H 341 _ rfl;have e342:q 342=q 32*q 309:=H 342 _ rfl;have e343:q 343=q 33*q 341:=H 343 _ rfl;have e344:q 344=q 342+q 343:=H 344 _ rfl;have e345:q 345=q 32*q 323:=H 345 _ rfl;have e346:q 346=q 54*q 309:=H 346 _ rfl;have e347:q 347=q 345-q 346:=H 347 _ rfl;have e348:q 348=q 36*q 311:=H 348 _ rfl;have e349:q 349=q 35*q 311:=H 349 _ rfl;have e350:q 350=q 348*q 37:=H 350 _ rfl;have e351:q 351=q 349*q 37:=H 351 _ rfl;have e352:q 352=q 23+q 344:=H 352 _ rfl;have e353:q 353=q 23+q 347:=H 353 _ rfl;have e354:q 354=q 352+q 350:=H 354 _ rfl;have e355:q 355=q 353+q 351:=H 355 _ rfl;have e356:q 356=q 354*q 36:=H 356 _ rfl;have e357:q 357=q 355*q 78:=H 357 _ rfl;have e358:q 358=q 356+q 357:=H 358 _ rfl;have e363:q 363=q 336+q 358:=H 363 _ rfl;have e365:q 365=q 34*q 308:=H 365 _ rfl;have e366:q 366=q 35*q 308:=H 366 _ rfl;have e367:q 367=q 365*q 37:=H 367 _ rfl;have e368:q 368=q 366*q 37:=H 368 _ rfl;have e369:q 369=q 0*q 309:=H 369 _ rfl;have e370:q 370=q 1*q 323:=H 370 _ rfl;have e371:q 371=q 369+q 370:=H 371 _ rfl;have e372:q 372=q 0*q 318:=H 372 _ rfl;have e373:q 373=q 31*q 309:=H 373 _ rfl;have e374:q 374=q 372-q 373:=H 374 _ rfl;have e375:q 375=q 23+q 367:=H 375 _ rfl;have e376:q 376=q 23+q 368:=H 376 _ rfl;have e377:q 377=q 375+q 371:=H 377 _ rfl;have e378:q 378=q 376+q 374:=H 378 _ rfl;have e379:q 379=q 377*q 32:=H 379 _ rfl;have e380:q 380=q 378*q 55:=H 380 _ rfl;have e381:q 381=q 379+q 380:=H 381 _ rfl;have e382:q 382=-q 378:=H 382 _ rfl;have e383:q 383=q 377*q 54:=H 383 _ rfl;have e384:q 384=q 382*q 32:=H 384 _ rfl;have e385:q 385=q 383-q 384:=H 385 _ rfl;have e386:q 386=q 34*q 309:=H 386 _ rfl;have e387:q 387=q 35*q 341:=H 387 _ rfl;have e388:q 388=q 386+q 387:=H 388 _ rfl;have e389:q 389=q 34*q 323:=H 389 _ rfl;have e390:q 390=q 389-q 328:=H 390 _ rfl;have e391:q 391=q 0*q 311:=H 391 _ rfl;have e392:q 392=q 1*q 311:=H 392 _ rfl;have e393:q 393=q 391*q 37:=H 393 _ rfl;have e394:q 394=q 392*q 37:=H 394 _ rfl;have e395:q 395=q 23+q 388:=H 395 _ rfl;have e396:q 396=q 23+q 390:=H 396 _ rfl;have e397:q 397=q 395+q 393:=H 397 _ rfl;have e398:q 398=q 396+q 394:=H 398 _ rfl;have e399:q 399=q 397*q 36:=H 399 _ rfl;have e400:q 400=q 398*q 78:=H 400 _ rfl;have e401:q 401=q 399+q 400:=H 401 _ rfl;have e402:q 402=-q 398:=H 402 _ rfl;have e403:q 403=q 397*q 46:=H 403 _ rfl;have e404:q 404=q 402*q 36:=H 404 _ rfl;have e405:q 405=q 403-q 404:=H 405 _ rfl;have e406:q 406=q 381+q 401:=H 406 _ rfl;have e407:q 407=q 385+q 405:=H 407 _ rfl;have e408:q 408=q 406*q 37:=H 408 _ rfl;have e409:q 409=q 407*q 37:=H 409 _ rfl;have e410:q 410=q 377*q 34:=H 410 _ rfl;have e411:q 411=q 378*q 78:=H 411 _ rfl;have e412:q 412=q 410+q 411:=H 412 _ rfl;have e416:q 416=q 397*q 0:=H 416 _ rfl;have e417:q 417=q 398*q 33:=H 417 _ rfl;have e418:q 418=q 416+q 417:=H 418 _ rfl;have e422:q 422=q 412+q 418:=H 422 _ rfl;have e424:q 424=q 363*fac [q 363,q 408,q 409,q 422]:=H 424 _ rfl;have e425:q 425=q 408*fac [q 363,q 408,q 409,q 422]:=H 425 _ rfl;have e426:q 426=q 409*fac [q 363,q 408,q 409,q 422]:=H 426 _ rfl;have e427:q 427=q 422*fac [q 363,q 408,q 409,q 422]:=H 427 _ rfl;have e428:q 428=q 296-q 0:=H 428 _ rfl;have e429:q 429=q 297-q 1:=H 429 _ rfl;have e430:q 430=q 428*q 428:=H 430 _ rfl;have e431:q 431=q 429*q 429:=H 431 _ rfl;have e432:q 432=q 430+q 431:=H 432 _ rfl;have e433:q 433=-q 2:=H 433 _ rfl;have e434:q 434=-q 298:=H 434 _ rfl;have e435:q 435=q 432+q 433:=H 435 _ rfl;have e436:q 436=q 435+q 434:=H 436 _ rfl;have e437:q 437=q 424-q 308:=H 437 _ rfl;have e438:q 438=q 425-q 309:=H 438 _ rfl;have e439:q 439=q 426-q 310:=H 439 _ rfl;have e440:q 440=q 427-q 311:=H 440 _ rfl;have e441:q 441=q 437*q 437:=H 441 _ rfl;have e442:q 442=q 438*q 438:=H 442 _ rfl;have e443:q 443=q 441+q 442:=H 443 _ rfl;have e444:q 444=q 439*q 439:=H 444 _ rfl;have e445:q 445=q 443+q 444:=H 445 _ rfl;have e446:q 446=q 440*q 440:=H 446 _ rfl;have e447:q 447=q 445+q 446:=H 447 _ rfl;have e448:q 448=q 0-q 296:=H 448 _ rfl;have e449:q 449=q 1-q 297:=H 449 _ rfl;have e450:q 450=q 448*q 448:=H 450 _ rfl;have e451:q 451=q 449*q 449:=H 451 _ rfl;have e452:q 452=q 450+q 451:=H 452 _ rfl
 exact tW_T4z e22 e23 e24 e25 e26 e27 e28 e29 e30 e31 e32 e33 e34 e35 e36 e37 e46 e54 e55 e78 e299 e300 e301 e302 e303 e304 e305 e306 e307 e308 e309 e310 e311 e318 e319 e320 e321 e322 e323 e324 e325 e326 e327 e328 e329 e330 e331 e332 e333 e334 e335 e336 e341 e342 e343 e344 e345 e346 e347 e348 e349 e350 e351 e352 e353 e354 e355 e356 e357 e358 e363 e365 e366 e367 e368 e369 e370 e371 e372 e373 e374 e375 e376 e377 e378 e379 e380 e381 e382 e383 e384 e385 e386 e387 e388 e389 e390 e391 e392 e393 e394 e395 e396 e397 e398 e399 e400 e401 e402 e403 e404 e405 e406 e407 e408 e409 e410 e411 e412 e416 e417 e418 e422 e424 e425 e426 e427 e428 e429 e430 e431 e432 e433 e434 e435 e436 e437 e438 e439 e440 e441 e442 e443 e444 e445 e446 e447 e448 e449 e450 e451 e452
theorem tW_T5 (H:tW_Q q σ):(¬ (0 < q 457)):=by
 have e17:q 17=4:=(H 17 _ rfl).trans tW_c17;have e23:q 23=0:=(H 23 _ rfl).trans tW_c23;have e453:q 453=q 23*q 23:=H 453 _ rfl;have e454:q 454=q 453+q 453:=H 454 _ rfl;have e455:q 455=q 17*q 23:=H 455 _ rfl;have e456:q 456=q 455*q 23:=H 456 _ rfl;have e457:q 457=q 454-q 456:=H 457 _ rfl
 clear H
 rw [e457,e456,e455,e17,e454,e453,e23]
 decide +kernel
def tW_cs:List (FuncId × Nat):=[(124,60),(52,61),(53,62),(36,63),(102,63),(272,64),(64,65),(55,66),(156,60)]
def tW_G:Memo:=[(137,[qA [363,408,409,422]],tA [424,425,426,427]),(137,[qA [22,300,301,307]],tA [308,309,310,311]),(137,[qA [202,247,248,261]],tA [263,264,265,266]),(137,[qA [86,131,132,145]],tA [147,148,149,150]),(136,[qA [0,1,2]],(false,[(true,[.inr (0,1,0,0,0),.inr (0,2,0,0,0),.inr (0,3,0,0,0),.inr (0,1,1,0,0),.inr (0,2,1,0,0),.inr (0,3,1,0,0),.inr (0,1,30,0,0),.inr (0,2,30,0,0),.inr (0,3,30,0,0),.inl (.bool false),.inl (.slice none 0 0),.inl (.slice none 0 0),.inr (0,1,22,0,0),.inr (0,2,22,0,0),.inr (0,3,22,0,0),.inl (.bool false),.inl (.slice none 0 0),.inl (.slice none 0 0),.inr (0,1,32,0,0),.inr (0,2,32,0,0),.inr (0,3,32,0,0),.inr (0,1,33,0,0),.inr (0,2,33,0,0),.inr (0,3,33,0,0)])]))]
theorem tW_g0:memoChk (sx Tryz.prog tW_N [] [] tW_L tW_C tW_Z (prC [38])) tW_cs 6 5 (tW_G.drop 0)=true:=by kernel_rfl
theorem tW_memoG {q:Nat→Rat} {σ:Nat→ByteArray} {w:World} (hσ:∀ j,(σ j).size≤1048576) (hq:∀ (a:Nat) nd,tW_N[a]? = some nd→q a=valN σ q nd) (h0:∀ a,tW_N.length≤a→q a=0) (hp:PreS w):MemoAll tW_N tW_L tW_C tW_Z q σ [38] w tW_G:=by
 have Y:Hy tW_N [] tW_L tW_C tW_Z q σ:=hy_ofA hσ tW_wf tW_sz tW_lt tW_cn hq h0 trivial
 have hc:∀ f ∈ ([38]:List FuncId),Closed f:=by simp [closed_turned]
 have hm:(Tryz.prog).follows .mixedOrders=true:=by kernel_rfl
 exact (memoAll_chk (M:=tW_G.drop 0) Y hc hm hp 5 tW_g0 memoAll_nil)
def tW_H0:List (Nat × Nat × Nat × Nat):=[(2,2,0,1),(0,9,0,1),(2,20,0,1),(2,156,0,1),(0,295,0,1),(2,298,0,1),(2,317,0,1),(0,436,0,1),(0,447,0,1)]
def tW_H1:List (Nat × Nat × Nat × Nat):=[(2,2,0,1),(0,9,0,1),(2,20,0,1),(2,156,0,1),(0,295,0,1),(2,298,0,1),(2,317,0,1),(0,436,0,0),(0,447,0,1),(0,452,0,1),(3,2,298,1)]
def tW_H2:List (Nat × Nat × Nat × Nat):=[(2,2,0,1),(0,9,0,1),(2,20,0,1),(2,156,0,1),(0,295,0,1),(2,298,0,1),(2,317,0,1),(0,436,0,0),(0,447,0,0),(0,452,0,1),(3,2,298,0)]
def tW_H3:List (Nat × Nat × Nat × Nat):=[(2,2,0,1),(0,9,0,1),(2,20,0,1),(2,156,0,1),(0,295,0,1),(2,298,0,1),(2,317,0,1),(0,436,0,0),(0,447,0,0),(0,452,0,0)]
def tW_H4:List (Nat × Nat × Nat × Nat):=[(2,2,0,1),(0,9,0,1),(2,20,0,1),(2,156,0,1),(0,295,0,1),(2,298,0,0),(2,457,0,0)]
def tW_H5:List (Nat × Nat × Nat × Nat):=[(2,2,0,1),(0,9,0,1),(2,20,0,0),(2,298,0,1),(2,317,0,1),(0,436,0,1),(0,447,0,1)]
def tW_H6:List (Nat × Nat × Nat × Nat):=[(2,2,0,1),(0,9,0,1),(2,20,0,0),(2,298,0,1),(2,317,0,1),(0,436,0,0),(0,447,0,1),(0,452,0,1),(3,2,298,1)]
def tW_H7:List (Nat × Nat × Nat × Nat):=[(2,2,0,1),(0,9,0,1),(2,20,0,0),(2,298,0,1),(2,317,0,1),(0,436,0,0),(0,447,0,0),(0,452,0,1),(3,2,298,0)]
def tW_H8:List (Nat × Nat × Nat × Nat):=[(2,2,0,1),(0,9,0,1),(2,20,0,0),(2,298,0,1),(2,317,0,1),(0,436,0,0),(0,447,0,0),(0,452,0,0)]
def tW_H9:List (Nat × Nat × Nat × Nat):=[(2,2,0,1),(0,9,0,1),(2,20,0,0),(2,298,0,0),(2,457,0,0)]
def tW_H10:List (Nat × Nat × Nat × Nat):=[(2,2,0,1),(0,9,0,0),(0,467,0,0),(0,477,0,1),(2,20,0,1),(2,156,0,1),(0,295,0,1),(2,298,0,1),(2,317,0,1),(0,436,0,1),(0,447,0,1)]
def tW_H11:List (Nat × Nat × Nat × Nat):=[(2,2,0,1),(0,9,0,0),(0,467,0,0),(0,477,0,1),(2,20,0,1),(2,156,0,1),(0,295,0,1),(2,298,0,1),(2,317,0,1),(0,436,0,0),(0,447,0,1),(0,452,0,1),(3,2,298,1)]
def tW_H12:List (Nat × Nat × Nat × Nat):=[(2,2,0,1),(0,9,0,0),(0,467,0,0),(0,477,0,1),(2,20,0,1),(2,156,0,1),(0,295,0,1),(2,298,0,1),(2,317,0,1),(0,436,0,0),(0,447,0,0),(0,452,0,1),(3,2,298,0)]
def tW_H13:List (Nat × Nat × Nat × Nat):=[(2,2,0,1),(0,9,0,0),(0,467,0,0),(0,477,0,1),(2,20,0,1),(2,156,0,1),(0,295,0,1),(2,298,0,1),(2,317,0,1),(0,436,0,0),(0,447,0,0),(0,452,0,0)]
def tW_H14:List (Nat × Nat × Nat × Nat):=[(2,2,0,1),(0,9,0,0),(0,467,0,0),(0,477,0,1),(2,20,0,1),(2,156,0,1),(0,295,0,1),(2,298,0,0),(2,457,0,0)]
def tW_H15:List (Nat × Nat × Nat × Nat):=[(2,2,0,1),(0,9,0,0),(0,467,0,0),(0,477,0,1),(2,20,0,0),(2,298,0,1),(2,317,0,1),(0,436,0,1),(0,447,0,1)]
def tW_H16:List (Nat × Nat × Nat × Nat):=[(2,2,0,1),(0,9,0,0),(0,467,0,0),(0,477,0,1),(2,20,0,0),(2,298,0,1),(2,317,0,1),(0,436,0,0),(0,447,0,1),(0,452,0,1),(3,2,298,1)]
def tW_H17:List (Nat × Nat × Nat × Nat):=[(2,2,0,1),(0,9,0,0),(0,467,0,0),(0,477,0,1),(2,20,0,0),(2,298,0,1),(2,317,0,1),(0,436,0,0),(0,447,0,0),(0,452,0,1),(3,2,298,0)]
def tW_H18:List (Nat × Nat × Nat × Nat):=[(2,2,0,1),(0,9,0,0),(0,467,0,0),(0,477,0,1),(2,20,0,0),(2,298,0,1),(2,317,0,1),(0,436,0,0),(0,447,0,0),(0,452,0,0)]
def tW_H19:List (Nat × Nat × Nat × Nat):=[(2,2,0,1),(0,9,0,0),(0,467,0,0),(0,477,0,1),(2,20,0,0),(2,298,0,0),(2,457,0,0)]
def tW_H20:List (Nat × Nat × Nat × Nat):=[(2,2,0,0),(2,298,0,1)]
def tW_H21:List (Nat × Nat × Nat × Nat):=[(2,2,0,0),(2,298,0,0)]
def tW_K0:List (FuncId × List AC):=[(232,[.inr (3,46,0,0,0),.inr (3,56,0,0,0)]),(232,[.inr (3,400,0,0,0),.inr (3,410,0,0,0)]),(232,[.inr (3,809,0,0,0),.inr (3,819,0,0,0)])]
def tW_B0:MemoX:=[(37,[pA [0,1,2],tA [308,309,310,311]],[],784,(true,[(true,[.inr (1,424,0,0,0),.inr (1,425,0,0,0),.inr (1,426,0,0,0),.inr (1,427,0,0,0)]),(false,[.inl (.int .i64 (0))])]),[(784,[.inr (2,0,0,0,0),.inr (2,1,0,0,0),.inr (2,2,0,0,0)]),(785,[.inr (1,308,0,0,0),.inr (1,309,0,0,0),.inr (1,310,0,0,0),.inr (1,311,0,0,0)]),(786,[.inr (1,424,0,0,0),.inr (1,425,0,0,0),.inr (1,426,0,0,0),.inr (1,427,0,0,0)]),(792,[.inr (0,1,0,0,0),.inr (0,2,0,0,0),.inr (0,3,0,0,0),.inr (0,1,1,0,0),.inr (0,2,1,0,0),.inr (0,3,1,0,0),.inr (0,1,2,0,0),.inr (0,2,2,0,0),.inr (0,3,2,0,0)]),(804,[.inr (0,1,308,0,0),.inr (0,2,308,0,0),.inr (0,3,308,0,0),.inr (0,1,309,0,0),.inr (0,2,309,0,0),.inr (0,3,309,0,0),.inr (0,1,310,0,0),.inr (0,2,310,0,0),.inr (0,3,310,0,0),.inr (0,1,311,0,0),.inr (0,2,311,0,0),.inr (0,3,311,0,0)])],1137),(37,[pA [0,1,2],tA [147,148,149,150]],[],375,(true,[(true,[.inr (1,263,0,0,0),.inr (1,264,0,0,0),.inr (1,265,0,0,0),.inr (1,266,0,0,0)]),(false,[.inl (.int .i64 (0))])]),[(375,[.inr (2,0,0,0,0),.inr (2,1,0,0,0),.inr (2,2,0,0,0)]),(376,[.inr (1,147,0,0,0),.inr (1,148,0,0,0),.inr (1,149,0,0,0),.inr (1,150,0,0,0)]),(377,[.inr (1,263,0,0,0),.inr (1,264,0,0,0),.inr (1,265,0,0,0),.inr (1,266,0,0,0)]),(383,[.inr (0,1,0,0,0),.inr (0,2,0,0,0),.inr (0,3,0,0,0),.inr (0,1,1,0,0),.inr (0,2,1,0,0),.inr (0,3,1,0,0),.inr (0,1,2,0,0),.inr (0,2,2,0,0),.inr (0,3,2,0,0)]),(395,[.inr (0,1,147,0,0),.inr (0,2,147,0,0),.inr (0,3,147,0,0),.inr (0,1,148,0,0),.inr (0,2,148,0,0),.inr (0,3,148,0,0),.inr (0,1,149,0,0),.inr (0,2,149,0,0),.inr (0,3,149,0,0),.inr (0,1,150,0,0),.inr (0,2,150,0,0),.inr (0,3,150,0,0)])],728),(37,[pA [0,1,2],pA [8,9,10,11]],[],21,(true,[(true,[.inr (1,147,0,0,0),.inr (1,148,0,0,0),.inr (1,149,0,0,0),.inr (1,150,0,0,0)]),(false,[.inl (.int .i64 (0))])]),[(21,[.inr (2,0,0,0,0),.inr (2,1,0,0,0),.inr (2,2,0,0,0)]),(22,[.inr (2,8,0,0,0),.inr (2,9,0,0,0),.inr (2,10,0,0,0),.inr (2,11,0,0,0)]),(23,[.inr (1,147,0,0,0),.inr (1,148,0,0,0),.inr (1,149,0,0,0),.inr (1,150,0,0,0)]),(29,[.inr (0,1,0,0,0),.inr (0,2,0,0,0),.inr (0,3,0,0,0),.inr (0,1,1,0,0),.inr (0,2,1,0,0),.inr (0,3,1,0,0),.inr (0,1,2,0,0),.inr (0,2,2,0,0),.inr (0,3,2,0,0)]),(41,[.inr (0,1,10,0,0),.inr (0,2,10,0,0),.inr (0,3,10,0,0),.inr (0,1,11,0,0),.inr (0,2,11,0,0),.inr (0,3,11,0,0),.inr (0,1,12,0,0),.inr (0,2,12,0,0),.inr (0,3,12,0,0),.inr (0,1,13,0,0),.inr (0,2,13,0,0),.inr (0,3,13,0,0)])],374)]
theorem tW_x0_0:mxOne (sx Tryz.prog tW_N tW_H0 tW_K0 tW_L tW_C tW_Z (prC [38])) tW_cs tW_G 8 (tW_B0.drop 0)=true:=by kernel_rfl
theorem tW_x0_1:mxOne (sx Tryz.prog tW_N tW_H0 tW_K0 tW_L tW_C tW_Z (prC [38])) tW_cs tW_G 8 (tW_B0.drop 1)=true:=by kernel_rfl
theorem tW_x0_2:mxOne (sx Tryz.prog tW_N tW_H0 tW_K0 tW_L tW_C tW_Z (prC [38])) tW_cs tW_G 8 (tW_B0.drop 2)=true:=by kernel_rfl
theorem tW_mx0 {q:Nat→Rat} {σ:Nat→ByteArray} {w:World} (hσ:∀ j,(σ j).size≤1048576) (hq:∀ (a:Nat) nd,tW_N[a]? = some nd→q a=valN σ q nd) (h0:∀ a,tW_N.length≤a→q a=0) (hH:hAll q tW_H0) (hp:PreS w) (hM:MemoAll tW_N tW_L tW_C tW_Z q σ [38] w tW_G):MemoXOk (sx Tryz.prog tW_N tW_H0 tW_K0 tW_L tW_C tW_Z (prC [38])) (evS q σ) w tW_B0:=by
 have Y:Hy tW_N tW_H0 tW_L tW_C tW_Z q σ:=hy_ofA hσ tW_wf tW_sz tW_lt tW_cn hq h0 hH
 have hc:∀ f ∈ ([38]:List FuncId),Closed f:=by simp [closed_turned]
 have hm:(Tryz.prog).follows .mixedOrders=true:=by kernel_rfl
 exact (memoX_drop (B:=tW_B0) Y hc hm hp hM tW_x0_0 (memoX_drop (B:=tW_B0) Y hc hm hp hM tW_x0_1 (memoX_drop (B:=tW_B0) Y hc hm hp hM tW_x0_2 memoX_nil)))
def tW_K1:List (FuncId × List AC):=[(232,[.inr (3,46,0,0,0),.inr (3,56,0,0,0)]),(232,[.inr (3,400,0,0,0),.inr (3,410,0,0,0)]),(232,[.inr (3,809,0,0,0),.inr (3,819,0,0,0)])]
def tW_B1:MemoX:=[(37,[pA [0,1,2],tA [308,309,310,311]],[],784,(true,[(true,[.inr (1,424,0,0,0),.inr (1,425,0,0,0),.inr (1,426,0,0,0),.inr (1,427,0,0,0)]),(false,[.inl (.int .i64 (0))])]),[(784,[.inr (2,0,0,0,0),.inr (2,1,0,0,0),.inr (2,2,0,0,0)]),(785,[.inr (1,308,0,0,0),.inr (1,309,0,0,0),.inr (1,310,0,0,0),.inr (1,311,0,0,0)]),(786,[.inr (1,424,0,0,0),.inr (1,425,0,0,0),.inr (1,426,0,0,0),.inr (1,427,0,0,0)]),(792,[.inr (0,1,0,0,0),.inr (0,2,0,0,0),.inr (0,3,0,0,0),.inr (0,1,1,0,0),.inr (0,2,1,0,0),.inr (0,3,1,0,0),.inr (0,1,2,0,0),.inr (0,2,2,0,0),.inr (0,3,2,0,0)]),(804,[.inr (0,1,308,0,0),.inr (0,2,308,0,0),.inr (0,3,308,0,0),.inr (0,1,309,0,0),.inr (0,2,309,0,0),.inr (0,3,309,0,0),.inr (0,1,310,0,0),.inr (0,2,310,0,0),.inr (0,3,310,0,0),.inr (0,1,311,0,0),.inr (0,2,311,0,0),.inr (0,3,311,0,0)])],1137),(37,[pA [0,1,2],tA [147,148,149,150]],[],375,(true,[(true,[.inr (1,263,0,0,0),.inr (1,264,0,0,0),.inr (1,265,0,0,0),.inr (1,266,0,0,0)]),(false,[.inl (.int .i64 (0))])]),[(375,[.inr (2,0,0,0,0),.inr (2,1,0,0,0),.inr (2,2,0,0,0)]),(376,[.inr (1,147,0,0,0),.inr (1,148,0,0,0),.inr (1,149,0,0,0),.inr (1,150,0,0,0)]),(377,[.inr (1,263,0,0,0),.inr (1,264,0,0,0),.inr (1,265,0,0,0),.inr (1,266,0,0,0)]),(383,[.inr (0,1,0,0,0),.inr (0,2,0,0,0),.inr (0,3,0,0,0),.inr (0,1,1,0,0),.inr (0,2,1,0,0),.inr (0,3,1,0,0),.inr (0,1,2,0,0),.inr (0,2,2,0,0),.inr (0,3,2,0,0)]),(395,[.inr (0,1,147,0,0),.inr (0,2,147,0,0),.inr (0,3,147,0,0),.inr (0,1,148,0,0),.inr (0,2,148,0,0),.inr (0,3,148,0,0),.inr (0,1,149,0,0),.inr (0,2,149,0,0),.inr (0,3,149,0,0),.inr (0,1,150,0,0),.inr (0,2,150,0,0),.inr (0,3,150,0,0)])],728),(37,[pA [0,1,2],pA [8,9,10,11]],[],21,(true,[(true,[.inr (1,147,0,0,0),.inr (1,148,0,0,0),.inr (1,149,0,0,0),.inr (1,150,0,0,0)]),(false,[.inl (.int .i64 (0))])]),[(21,[.inr (2,0,0,0,0),.inr (2,1,0,0,0),.inr (2,2,0,0,0)]),(22,[.inr (2,8,0,0,0),.inr (2,9,0,0,0),.inr (2,10,0,0,0),.inr (2,11,0,0,0)]),(23,[.inr (1,147,0,0,0),.inr (1,148,0,0,0),.inr (1,149,0,0,0),.inr (1,150,0,0,0)]),(29,[.inr (0,1,0,0,0),.inr (0,2,0,0,0),.inr (0,3,0,0,0),.inr (0,1,1,0,0),.inr (0,2,1,0,0),.inr (0,3,1,0,0),.inr (0,1,2,0,0),.inr (0,2,2,0,0),.inr (0,3,2,0,0)]),(41,[.inr (0,1,10,0,0),.inr (0,2,10,0,0),.inr (0,3,10,0,0),.inr (0,1,11,0,0),.inr (0,2,11,0,0),.inr (0,3,11,0,0),.inr (0,1,12,0,0),.inr (0,2,12,0,0),.inr (0,3,12,0,0),.inr (0,1,13,0,0),.inr (0,2,13,0,0),.inr (0,3,13,0,0)])],374)]
theorem tW_x1_0:mxOne (sx Tryz.prog tW_N tW_H1 tW_K1 tW_L tW_C tW_Z (prC [38])) tW_cs tW_G 8 (tW_B1.drop 0)=true:=by kernel_rfl
theorem tW_x1_1:mxOne (sx Tryz.prog tW_N tW_H1 tW_K1 tW_L tW_C tW_Z (prC [38])) tW_cs tW_G 8 (tW_B1.drop 1)=true:=by kernel_rfl
theorem tW_x1_2:mxOne (sx Tryz.prog tW_N tW_H1 tW_K1 tW_L tW_C tW_Z (prC [38])) tW_cs tW_G 8 (tW_B1.drop 2)=true:=by kernel_rfl
theorem tW_mx1 {q:Nat→Rat} {σ:Nat→ByteArray} {w:World} (hσ:∀ j,(σ j).size≤1048576) (hq:∀ (a:Nat) nd,tW_N[a]? = some nd→q a=valN σ q nd) (h0:∀ a,tW_N.length≤a→q a=0) (hH:hAll q tW_H1) (hp:PreS w) (hM:MemoAll tW_N tW_L tW_C tW_Z q σ [38] w tW_G):MemoXOk (sx Tryz.prog tW_N tW_H1 tW_K1 tW_L tW_C tW_Z (prC [38])) (evS q σ) w tW_B1:=by
 have Y:Hy tW_N tW_H1 tW_L tW_C tW_Z q σ:=hy_ofA hσ tW_wf tW_sz tW_lt tW_cn hq h0 hH
 have hc:∀ f ∈ ([38]:List FuncId),Closed f:=by simp [closed_turned]
 have hm:(Tryz.prog).follows .mixedOrders=true:=by kernel_rfl
 exact (memoX_drop (B:=tW_B1) Y hc hm hp hM tW_x1_0 (memoX_drop (B:=tW_B1) Y hc hm hp hM tW_x1_1 (memoX_drop (B:=tW_B1) Y hc hm hp hM tW_x1_2 memoX_nil)))
def tW_K2:List (FuncId × List AC):=[(232,[.inr (3,46,0,0,0),.inr (3,56,0,0,0)]),(232,[.inr (3,400,0,0,0),.inr (3,410,0,0,0)]),(232,[.inr (3,809,0,0,0),.inr (3,819,0,0,0)])]
def tW_B2:MemoX:=[(37,[pA [0,1,2],tA [308,309,310,311]],[],784,(true,[(true,[.inr (1,424,0,0,0),.inr (1,425,0,0,0),.inr (1,426,0,0,0),.inr (1,427,0,0,0)]),(false,[.inl (.int .i64 (0))])]),[(784,[.inr (2,0,0,0,0),.inr (2,1,0,0,0),.inr (2,2,0,0,0)]),(785,[.inr (1,308,0,0,0),.inr (1,309,0,0,0),.inr (1,310,0,0,0),.inr (1,311,0,0,0)]),(786,[.inr (1,424,0,0,0),.inr (1,425,0,0,0),.inr (1,426,0,0,0),.inr (1,427,0,0,0)]),(792,[.inr (0,1,0,0,0),.inr (0,2,0,0,0),.inr (0,3,0,0,0),.inr (0,1,1,0,0),.inr (0,2,1,0,0),.inr (0,3,1,0,0),.inr (0,1,2,0,0),.inr (0,2,2,0,0),.inr (0,3,2,0,0)]),(804,[.inr (0,1,308,0,0),.inr (0,2,308,0,0),.inr (0,3,308,0,0),.inr (0,1,309,0,0),.inr (0,2,309,0,0),.inr (0,3,309,0,0),.inr (0,1,310,0,0),.inr (0,2,310,0,0),.inr (0,3,310,0,0),.inr (0,1,311,0,0),.inr (0,2,311,0,0),.inr (0,3,311,0,0)])],1137),(37,[pA [0,1,2],tA [147,148,149,150]],[],375,(true,[(true,[.inr (1,263,0,0,0),.inr (1,264,0,0,0),.inr (1,265,0,0,0),.inr (1,266,0,0,0)]),(false,[.inl (.int .i64 (0))])]),[(375,[.inr (2,0,0,0,0),.inr (2,1,0,0,0),.inr (2,2,0,0,0)]),(376,[.inr (1,147,0,0,0),.inr (1,148,0,0,0),.inr (1,149,0,0,0),.inr (1,150,0,0,0)]),(377,[.inr (1,263,0,0,0),.inr (1,264,0,0,0),.inr (1,265,0,0,0),.inr (1,266,0,0,0)]),(383,[.inr (0,1,0,0,0),.inr (0,2,0,0,0),.inr (0,3,0,0,0),.inr (0,1,1,0,0),.inr (0,2,1,0,0),.inr (0,3,1,0,0),.inr (0,1,2,0,0),.inr (0,2,2,0,0),.inr (0,3,2,0,0)]),(395,[.inr (0,1,147,0,0),.inr (0,2,147,0,0),.inr (0,3,147,0,0),.inr (0,1,148,0,0),.inr (0,2,148,0,0),.inr (0,3,148,0,0),.inr (0,1,149,0,0),.inr (0,2,149,0,0),.inr (0,3,149,0,0),.inr (0,1,150,0,0),.inr (0,2,150,0,0),.inr (0,3,150,0,0)])],728),(37,[pA [0,1,2],pA [8,9,10,11]],[],21,(true,[(true,[.inr (1,147,0,0,0),.inr (1,148,0,0,0),.inr (1,149,0,0,0),.inr (1,150,0,0,0)]),(false,[.inl (.int .i64 (0))])]),[(21,[.inr (2,0,0,0,0),.inr (2,1,0,0,0),.inr (2,2,0,0,0)]),(22,[.inr (2,8,0,0,0),.inr (2,9,0,0,0),.inr (2,10,0,0,0),.inr (2,11,0,0,0)]),(23,[.inr (1,147,0,0,0),.inr (1,148,0,0,0),.inr (1,149,0,0,0),.inr (1,150,0,0,0)]),(29,[.inr (0,1,0,0,0),.inr (0,2,0,0,0),.inr (0,3,0,0,0),.inr (0,1,1,0,0),.inr (0,2,1,0,0),.inr (0,3,1,0,0),.inr (0,1,2,0,0),.inr (0,2,2,0,0),.inr (0,3,2,0,0)]),(41,[.inr (0,1,10,0,0),.inr (0,2,10,0,0),.inr (0,3,10,0,0),.inr (0,1,11,0,0),.inr (0,2,11,0,0),.inr (0,3,11,0,0),.inr (0,1,12,0,0),.inr (0,2,12,0,0),.inr (0,3,12,0,0),.inr (0,1,13,0,0),.inr (0,2,13,0,0),.inr (0,3,13,0,0)])],374)]
theorem tW_x2_0:mxOne (sx Tryz.prog tW_N tW_H2 tW_K2 tW_L tW_C tW_Z (prC [38])) tW_cs tW_G 8 (tW_B2.drop 0)=true:=by kernel_rfl
theorem tW_x2_1:mxOne (sx Tryz.prog tW_N tW_H2 tW_K2 tW_L tW_C tW_Z (prC [38])) tW_cs tW_G 8 (tW_B2.drop 1)=true:=by kernel_rfl
theorem tW_x2_2:mxOne (sx Tryz.prog tW_N tW_H2 tW_K2 tW_L tW_C tW_Z (prC [38])) tW_cs tW_G 8 (tW_B2.drop 2)=true:=by kernel_rfl
theorem tW_mx2 {q:Nat→Rat} {σ:Nat→ByteArray} {w:World} (hσ:∀ j,(σ j).size≤1048576) (hq:∀ (a:Nat) nd,tW_N[a]? = some nd→q a=valN σ q nd) (h0:∀ a,tW_N.length≤a→q a=0) (hH:hAll q tW_H2) (hp:PreS w) (hM:MemoAll tW_N tW_L tW_C tW_Z q σ [38] w tW_G):MemoXOk (sx Tryz.prog tW_N tW_H2 tW_K2 tW_L tW_C tW_Z (prC [38])) (evS q σ) w tW_B2:=by
 have Y:Hy tW_N tW_H2 tW_L tW_C tW_Z q σ:=hy_ofA hσ tW_wf tW_sz tW_lt tW_cn hq h0 hH
 have hc:∀ f ∈ ([38]:List FuncId),Closed f:=by simp [closed_turned]
 have hm:(Tryz.prog).follows .mixedOrders=true:=by kernel_rfl
 exact (memoX_drop (B:=tW_B2) Y hc hm hp hM tW_x2_0 (memoX_drop (B:=tW_B2) Y hc hm hp hM tW_x2_1 (memoX_drop (B:=tW_B2) Y hc hm hp hM tW_x2_2 memoX_nil)))
def tW_K3:List (FuncId × List AC):=[(232,[.inr (3,46,0,0,0),.inr (3,56,0,0,0)]),(232,[.inr (3,400,0,0,0),.inr (3,410,0,0,0)]),(232,[.inr (3,809,0,0,0),.inr (3,819,0,0,0)])]
def tW_B3:MemoX:=[(37,[pA [0,1,2],tA [308,309,310,311]],[],784,(true,[(true,[.inr (1,424,0,0,0),.inr (1,425,0,0,0),.inr (1,426,0,0,0),.inr (1,427,0,0,0)]),(false,[.inl (.int .i64 (0))])]),[(784,[.inr (2,0,0,0,0),.inr (2,1,0,0,0),.inr (2,2,0,0,0)]),(785,[.inr (1,308,0,0,0),.inr (1,309,0,0,0),.inr (1,310,0,0,0),.inr (1,311,0,0,0)]),(786,[.inr (1,424,0,0,0),.inr (1,425,0,0,0),.inr (1,426,0,0,0),.inr (1,427,0,0,0)]),(792,[.inr (0,1,0,0,0),.inr (0,2,0,0,0),.inr (0,3,0,0,0),.inr (0,1,1,0,0),.inr (0,2,1,0,0),.inr (0,3,1,0,0),.inr (0,1,2,0,0),.inr (0,2,2,0,0),.inr (0,3,2,0,0)]),(804,[.inr (0,1,308,0,0),.inr (0,2,308,0,0),.inr (0,3,308,0,0),.inr (0,1,309,0,0),.inr (0,2,309,0,0),.inr (0,3,309,0,0),.inr (0,1,310,0,0),.inr (0,2,310,0,0),.inr (0,3,310,0,0),.inr (0,1,311,0,0),.inr (0,2,311,0,0),.inr (0,3,311,0,0)])],1137),(37,[pA [0,1,2],tA [147,148,149,150]],[],375,(true,[(true,[.inr (1,263,0,0,0),.inr (1,264,0,0,0),.inr (1,265,0,0,0),.inr (1,266,0,0,0)]),(false,[.inl (.int .i64 (0))])]),[(375,[.inr (2,0,0,0,0),.inr (2,1,0,0,0),.inr (2,2,0,0,0)]),(376,[.inr (1,147,0,0,0),.inr (1,148,0,0,0),.inr (1,149,0,0,0),.inr (1,150,0,0,0)]),(377,[.inr (1,263,0,0,0),.inr (1,264,0,0,0),.inr (1,265,0,0,0),.inr (1,266,0,0,0)]),(383,[.inr (0,1,0,0,0),.inr (0,2,0,0,0),.inr (0,3,0,0,0),.inr (0,1,1,0,0),.inr (0,2,1,0,0),.inr (0,3,1,0,0),.inr (0,1,2,0,0),.inr (0,2,2,0,0),.inr (0,3,2,0,0)]),(395,[.inr (0,1,147,0,0),.inr (0,2,147,0,0),.inr (0,3,147,0,0),.inr (0,1,148,0,0),.inr (0,2,148,0,0),.inr (0,3,148,0,0),.inr (0,1,149,0,0),.inr (0,2,149,0,0),.inr (0,3,149,0,0),.inr (0,1,150,0,0),.inr (0,2,150,0,0),.inr (0,3,150,0,0)])],728),(37,[pA [0,1,2],pA [8,9,10,11]],[],21,(true,[(true,[.inr (1,147,0,0,0),.inr (1,148,0,0,0),.inr (1,149,0,0,0),.inr (1,150,0,0,0)]),(false,[.inl (.int .i64 (0))])]),[(21,[.inr (2,0,0,0,0),.inr (2,1,0,0,0),.inr (2,2,0,0,0)]),(22,[.inr (2,8,0,0,0),.inr (2,9,0,0,0),.inr (2,10,0,0,0),.inr (2,11,0,0,0)]),(23,[.inr (1,147,0,0,0),.inr (1,148,0,0,0),.inr (1,149,0,0,0),.inr (1,150,0,0,0)]),(29,[.inr (0,1,0,0,0),.inr (0,2,0,0,0),.inr (0,3,0,0,0),.inr (0,1,1,0,0),.inr (0,2,1,0,0),.inr (0,3,1,0,0),.inr (0,1,2,0,0),.inr (0,2,2,0,0),.inr (0,3,2,0,0)]),(41,[.inr (0,1,10,0,0),.inr (0,2,10,0,0),.inr (0,3,10,0,0),.inr (0,1,11,0,0),.inr (0,2,11,0,0),.inr (0,3,11,0,0),.inr (0,1,12,0,0),.inr (0,2,12,0,0),.inr (0,3,12,0,0),.inr (0,1,13,0,0),.inr (0,2,13,0,0),.inr (0,3,13,0,0)])],374)]
theorem tW_x3_0:mxOne (sx Tryz.prog tW_N tW_H3 tW_K3 tW_L tW_C tW_Z (prC [38])) tW_cs tW_G 8 (tW_B3.drop 0)=true:=by kernel_rfl
theorem tW_x3_1:mxOne (sx Tryz.prog tW_N tW_H3 tW_K3 tW_L tW_C tW_Z (prC [38])) tW_cs tW_G 8 (tW_B3.drop 1)=true:=by kernel_rfl
theorem tW_x3_2:mxOne (sx Tryz.prog tW_N tW_H3 tW_K3 tW_L tW_C tW_Z (prC [38])) tW_cs tW_G 8 (tW_B3.drop 2)=true:=by kernel_rfl
theorem tW_mx3 {q:Nat→Rat} {σ:Nat→ByteArray} {w:World} (hσ:∀ j,(σ j).size≤1048576) (hq:∀ (a:Nat) nd,tW_N[a]? = some nd→q a=valN σ q nd) (h0:∀ a,tW_N.length≤a→q a=0) (hH:hAll q tW_H3) (hp:PreS w) (hM:MemoAll tW_N tW_L tW_C tW_Z q σ [38] w tW_G):MemoXOk (sx Tryz.prog tW_N tW_H3 tW_K3 tW_L tW_C tW_Z (prC [38])) (evS q σ) w tW_B3:=by
 have Y:Hy tW_N tW_H3 tW_L tW_C tW_Z q σ:=hy_ofA hσ tW_wf tW_sz tW_lt tW_cn hq h0 hH
 have hc:∀ f ∈ ([38]:List FuncId),Closed f:=by simp [closed_turned]
 have hm:(Tryz.prog).follows .mixedOrders=true:=by kernel_rfl
 exact (memoX_drop (B:=tW_B3) Y hc hm hp hM tW_x3_0 (memoX_drop (B:=tW_B3) Y hc hm hp hM tW_x3_1 (memoX_drop (B:=tW_B3) Y hc hm hp hM tW_x3_2 memoX_nil)))
def tW_K10:List (FuncId × List AC):=[(232,[.inr (3,93,0,0,0),.inr (3,103,0,0,0)]),(232,[.inr (3,447,0,0,0),.inr (3,457,0,0,0)]),(232,[.inr (3,856,0,0,0),.inr (3,866,0,0,0)])]
def tW_B10:MemoX:=[(37,[pA [0,1,2],tA [308,309,310,311]],[],831,(true,[(true,[.inr (1,424,0,0,0),.inr (1,425,0,0,0),.inr (1,426,0,0,0),.inr (1,427,0,0,0)]),(false,[.inl (.int .i64 (0))])]),[(831,[.inr (2,0,0,0,0),.inr (2,1,0,0,0),.inr (2,2,0,0,0)]),(832,[.inr (1,308,0,0,0),.inr (1,309,0,0,0),.inr (1,310,0,0,0),.inr (1,311,0,0,0)]),(833,[.inr (1,424,0,0,0),.inr (1,425,0,0,0),.inr (1,426,0,0,0),.inr (1,427,0,0,0)]),(839,[.inr (0,1,0,0,0),.inr (0,2,0,0,0),.inr (0,3,0,0,0),.inr (0,1,1,0,0),.inr (0,2,1,0,0),.inr (0,3,1,0,0),.inr (0,1,2,0,0),.inr (0,2,2,0,0),.inr (0,3,2,0,0)]),(851,[.inr (0,1,308,0,0),.inr (0,2,308,0,0),.inr (0,3,308,0,0),.inr (0,1,309,0,0),.inr (0,2,309,0,0),.inr (0,3,309,0,0),.inr (0,1,310,0,0),.inr (0,2,310,0,0),.inr (0,3,310,0,0),.inr (0,1,311,0,0),.inr (0,2,311,0,0),.inr (0,3,311,0,0)])],1184),(37,[pA [0,1,2],tA [147,148,149,150]],[],422,(true,[(true,[.inr (1,263,0,0,0),.inr (1,264,0,0,0),.inr (1,265,0,0,0),.inr (1,266,0,0,0)]),(false,[.inl (.int .i64 (0))])]),[(422,[.inr (2,0,0,0,0),.inr (2,1,0,0,0),.inr (2,2,0,0,0)]),(423,[.inr (1,147,0,0,0),.inr (1,148,0,0,0),.inr (1,149,0,0,0),.inr (1,150,0,0,0)]),(424,[.inr (1,263,0,0,0),.inr (1,264,0,0,0),.inr (1,265,0,0,0),.inr (1,266,0,0,0)]),(430,[.inr (0,1,0,0,0),.inr (0,2,0,0,0),.inr (0,3,0,0,0),.inr (0,1,1,0,0),.inr (0,2,1,0,0),.inr (0,3,1,0,0),.inr (0,1,2,0,0),.inr (0,2,2,0,0),.inr (0,3,2,0,0)]),(442,[.inr (0,1,147,0,0),.inr (0,2,147,0,0),.inr (0,3,147,0,0),.inr (0,1,148,0,0),.inr (0,2,148,0,0),.inr (0,3,148,0,0),.inr (0,1,149,0,0),.inr (0,2,149,0,0),.inr (0,3,149,0,0),.inr (0,1,150,0,0),.inr (0,2,150,0,0),.inr (0,3,150,0,0)])],775),(37,[pA [0,1,2],pA [8,9,10,11]],[],68,(true,[(true,[.inr (1,147,0,0,0),.inr (1,148,0,0,0),.inr (1,149,0,0,0),.inr (1,150,0,0,0)]),(false,[.inl (.int .i64 (0))])]),[(68,[.inr (2,0,0,0,0),.inr (2,1,0,0,0),.inr (2,2,0,0,0)]),(69,[.inr (2,8,0,0,0),.inr (2,9,0,0,0),.inr (2,10,0,0,0),.inr (2,11,0,0,0)]),(70,[.inr (1,147,0,0,0),.inr (1,148,0,0,0),.inr (1,149,0,0,0),.inr (1,150,0,0,0)]),(76,[.inr (0,1,0,0,0),.inr (0,2,0,0,0),.inr (0,3,0,0,0),.inr (0,1,1,0,0),.inr (0,2,1,0,0),.inr (0,3,1,0,0),.inr (0,1,2,0,0),.inr (0,2,2,0,0),.inr (0,3,2,0,0)]),(88,[.inr (0,1,10,0,0),.inr (0,2,10,0,0),.inr (0,3,10,0,0),.inr (0,1,11,0,0),.inr (0,2,11,0,0),.inr (0,3,11,0,0),.inr (0,1,12,0,0),.inr (0,2,12,0,0),.inr (0,3,12,0,0),.inr (0,1,13,0,0),.inr (0,2,13,0,0),.inr (0,3,13,0,0)])],421)]
theorem tW_x10_0:mxOne (sx Tryz.prog tW_N tW_H10 tW_K10 tW_L tW_C tW_Z (prC [38])) tW_cs tW_G 8 (tW_B10.drop 0)=true:=by kernel_rfl
theorem tW_x10_1:mxOne (sx Tryz.prog tW_N tW_H10 tW_K10 tW_L tW_C tW_Z (prC [38])) tW_cs tW_G 8 (tW_B10.drop 1)=true:=by kernel_rfl
theorem tW_x10_2:mxOne (sx Tryz.prog tW_N tW_H10 tW_K10 tW_L tW_C tW_Z (prC [38])) tW_cs tW_G 8 (tW_B10.drop 2)=true:=by kernel_rfl
theorem tW_mx10 {q:Nat→Rat} {σ:Nat→ByteArray} {w:World} (hσ:∀ j,(σ j).size≤1048576) (hq:∀ (a:Nat) nd,tW_N[a]? = some nd→q a=valN σ q nd) (h0:∀ a,tW_N.length≤a→q a=0) (hH:hAll q tW_H10) (hp:PreS w) (hM:MemoAll tW_N tW_L tW_C tW_Z q σ [38] w tW_G):MemoXOk (sx Tryz.prog tW_N tW_H10 tW_K10 tW_L tW_C tW_Z (prC [38])) (evS q σ) w tW_B10:=by
 have Y:Hy tW_N tW_H10 tW_L tW_C tW_Z q σ:=hy_ofA hσ tW_wf tW_sz tW_lt tW_cn hq h0 hH
 have hc:∀ f ∈ ([38]:List FuncId),Closed f:=by simp [closed_turned]
 have hm:(Tryz.prog).follows .mixedOrders=true:=by kernel_rfl
 exact (memoX_drop (B:=tW_B10) Y hc hm hp hM tW_x10_0 (memoX_drop (B:=tW_B10) Y hc hm hp hM tW_x10_1 (memoX_drop (B:=tW_B10) Y hc hm hp hM tW_x10_2 memoX_nil)))
def tW_K11:List (FuncId × List AC):=[(232,[.inr (3,93,0,0,0),.inr (3,103,0,0,0)]),(232,[.inr (3,447,0,0,0),.inr (3,457,0,0,0)]),(232,[.inr (3,856,0,0,0),.inr (3,866,0,0,0)])]
def tW_B11:MemoX:=[(37,[pA [0,1,2],tA [308,309,310,311]],[],831,(true,[(true,[.inr (1,424,0,0,0),.inr (1,425,0,0,0),.inr (1,426,0,0,0),.inr (1,427,0,0,0)]),(false,[.inl (.int .i64 (0))])]),[(831,[.inr (2,0,0,0,0),.inr (2,1,0,0,0),.inr (2,2,0,0,0)]),(832,[.inr (1,308,0,0,0),.inr (1,309,0,0,0),.inr (1,310,0,0,0),.inr (1,311,0,0,0)]),(833,[.inr (1,424,0,0,0),.inr (1,425,0,0,0),.inr (1,426,0,0,0),.inr (1,427,0,0,0)]),(839,[.inr (0,1,0,0,0),.inr (0,2,0,0,0),.inr (0,3,0,0,0),.inr (0,1,1,0,0),.inr (0,2,1,0,0),.inr (0,3,1,0,0),.inr (0,1,2,0,0),.inr (0,2,2,0,0),.inr (0,3,2,0,0)]),(851,[.inr (0,1,308,0,0),.inr (0,2,308,0,0),.inr (0,3,308,0,0),.inr (0,1,309,0,0),.inr (0,2,309,0,0),.inr (0,3,309,0,0),.inr (0,1,310,0,0),.inr (0,2,310,0,0),.inr (0,3,310,0,0),.inr (0,1,311,0,0),.inr (0,2,311,0,0),.inr (0,3,311,0,0)])],1184),(37,[pA [0,1,2],tA [147,148,149,150]],[],422,(true,[(true,[.inr (1,263,0,0,0),.inr (1,264,0,0,0),.inr (1,265,0,0,0),.inr (1,266,0,0,0)]),(false,[.inl (.int .i64 (0))])]),[(422,[.inr (2,0,0,0,0),.inr (2,1,0,0,0),.inr (2,2,0,0,0)]),(423,[.inr (1,147,0,0,0),.inr (1,148,0,0,0),.inr (1,149,0,0,0),.inr (1,150,0,0,0)]),(424,[.inr (1,263,0,0,0),.inr (1,264,0,0,0),.inr (1,265,0,0,0),.inr (1,266,0,0,0)]),(430,[.inr (0,1,0,0,0),.inr (0,2,0,0,0),.inr (0,3,0,0,0),.inr (0,1,1,0,0),.inr (0,2,1,0,0),.inr (0,3,1,0,0),.inr (0,1,2,0,0),.inr (0,2,2,0,0),.inr (0,3,2,0,0)]),(442,[.inr (0,1,147,0,0),.inr (0,2,147,0,0),.inr (0,3,147,0,0),.inr (0,1,148,0,0),.inr (0,2,148,0,0),.inr (0,3,148,0,0),.inr (0,1,149,0,0),.inr (0,2,149,0,0),.inr (0,3,149,0,0),.inr (0,1,150,0,0),.inr (0,2,150,0,0),.inr (0,3,150,0,0)])],775),(37,[pA [0,1,2],pA [8,9,10,11]],[],68,(true,[(true,[.inr (1,147,0,0,0),.inr (1,148,0,0,0),.inr (1,149,0,0,0),.inr (1,150,0,0,0)]),(false,[.inl (.int .i64 (0))])]),[(68,[.inr (2,0,0,0,0),.inr (2,1,0,0,0),.inr (2,2,0,0,0)]),(69,[.inr (2,8,0,0,0),.inr (2,9,0,0,0),.inr (2,10,0,0,0),.inr (2,11,0,0,0)]),(70,[.inr (1,147,0,0,0),.inr (1,148,0,0,0),.inr (1,149,0,0,0),.inr (1,150,0,0,0)]),(76,[.inr (0,1,0,0,0),.inr (0,2,0,0,0),.inr (0,3,0,0,0),.inr (0,1,1,0,0),.inr (0,2,1,0,0),.inr (0,3,1,0,0),.inr (0,1,2,0,0),.inr (0,2,2,0,0),.inr (0,3,2,0,0)]),(88,[.inr (0,1,10,0,0),.inr (0,2,10,0,0),.inr (0,3,10,0,0),.inr (0,1,11,0,0),.inr (0,2,11,0,0),.inr (0,3,11,0,0),.inr (0,1,12,0,0),.inr (0,2,12,0,0),.inr (0,3,12,0,0),.inr (0,1,13,0,0),.inr (0,2,13,0,0),.inr (0,3,13,0,0)])],421)]
theorem tW_x11_0:mxOne (sx Tryz.prog tW_N tW_H11 tW_K11 tW_L tW_C tW_Z (prC [38])) tW_cs tW_G 8 (tW_B11.drop 0)=true:=by kernel_rfl
theorem tW_x11_1:mxOne (sx Tryz.prog tW_N tW_H11 tW_K11 tW_L tW_C tW_Z (prC [38])) tW_cs tW_G 8 (tW_B11.drop 1)=true:=by kernel_rfl
theorem tW_x11_2:mxOne (sx Tryz.prog tW_N tW_H11 tW_K11 tW_L tW_C tW_Z (prC [38])) tW_cs tW_G 8 (tW_B11.drop 2)=true:=by kernel_rfl
theorem tW_mx11 {q:Nat→Rat} {σ:Nat→ByteArray} {w:World} (hσ:∀ j,(σ j).size≤1048576) (hq:∀ (a:Nat) nd,tW_N[a]? = some nd→q a=valN σ q nd) (h0:∀ a,tW_N.length≤a→q a=0) (hH:hAll q tW_H11) (hp:PreS w) (hM:MemoAll tW_N tW_L tW_C tW_Z q σ [38] w tW_G):MemoXOk (sx Tryz.prog tW_N tW_H11 tW_K11 tW_L tW_C tW_Z (prC [38])) (evS q σ) w tW_B11:=by
 have Y:Hy tW_N tW_H11 tW_L tW_C tW_Z q σ:=hy_ofA hσ tW_wf tW_sz tW_lt tW_cn hq h0 hH
 have hc:∀ f ∈ ([38]:List FuncId),Closed f:=by simp [closed_turned]
 have hm:(Tryz.prog).follows .mixedOrders=true:=by kernel_rfl
 exact (memoX_drop (B:=tW_B11) Y hc hm hp hM tW_x11_0 (memoX_drop (B:=tW_B11) Y hc hm hp hM tW_x11_1 (memoX_drop (B:=tW_B11) Y hc hm hp hM tW_x11_2 memoX_nil)))
def tW_K12:List (FuncId × List AC):=[(232,[.inr (3,93,0,0,0),.inr (3,103,0,0,0)]),(232,[.inr (3,447,0,0,0),.inr (3,457,0,0,0)]),(232,[.inr (3,856,0,0,0),.inr (3,866,0,0,0)])]
def tW_B12:MemoX:=[(37,[pA [0,1,2],tA [308,309,310,311]],[],831,(true,[(true,[.inr (1,424,0,0,0),.inr (1,425,0,0,0),.inr (1,426,0,0,0),.inr (1,427,0,0,0)]),(false,[.inl (.int .i64 (0))])]),[(831,[.inr (2,0,0,0,0),.inr (2,1,0,0,0),.inr (2,2,0,0,0)]),(832,[.inr (1,308,0,0,0),.inr (1,309,0,0,0),.inr (1,310,0,0,0),.inr (1,311,0,0,0)]),(833,[.inr (1,424,0,0,0),.inr (1,425,0,0,0),.inr (1,426,0,0,0),.inr (1,427,0,0,0)]),(839,[.inr (0,1,0,0,0),.inr (0,2,0,0,0),.inr (0,3,0,0,0),.inr (0,1,1,0,0),.inr (0,2,1,0,0),.inr (0,3,1,0,0),.inr (0,1,2,0,0),.inr (0,2,2,0,0),.inr (0,3,2,0,0)]),(851,[.inr (0,1,308,0,0),.inr (0,2,308,0,0),.inr (0,3,308,0,0),.inr (0,1,309,0,0),.inr (0,2,309,0,0),.inr (0,3,309,0,0),.inr (0,1,310,0,0),.inr (0,2,310,0,0),.inr (0,3,310,0,0),.inr (0,1,311,0,0),.inr (0,2,311,0,0),.inr (0,3,311,0,0)])],1184),(37,[pA [0,1,2],tA [147,148,149,150]],[],422,(true,[(true,[.inr (1,263,0,0,0),.inr (1,264,0,0,0),.inr (1,265,0,0,0),.inr (1,266,0,0,0)]),(false,[.inl (.int .i64 (0))])]),[(422,[.inr (2,0,0,0,0),.inr (2,1,0,0,0),.inr (2,2,0,0,0)]),(423,[.inr (1,147,0,0,0),.inr (1,148,0,0,0),.inr (1,149,0,0,0),.inr (1,150,0,0,0)]),(424,[.inr (1,263,0,0,0),.inr (1,264,0,0,0),.inr (1,265,0,0,0),.inr (1,266,0,0,0)]),(430,[.inr (0,1,0,0,0),.inr (0,2,0,0,0),.inr (0,3,0,0,0),.inr (0,1,1,0,0),.inr (0,2,1,0,0),.inr (0,3,1,0,0),.inr (0,1,2,0,0),.inr (0,2,2,0,0),.inr (0,3,2,0,0)]),(442,[.inr (0,1,147,0,0),.inr (0,2,147,0,0),.inr (0,3,147,0,0),.inr (0,1,148,0,0),.inr (0,2,148,0,0),.inr (0,3,148,0,0),.inr (0,1,149,0,0),.inr (0,2,149,0,0),.inr (0,3,149,0,0),.inr (0,1,150,0,0),.inr (0,2,150,0,0),.inr (0,3,150,0,0)])],775),(37,[pA [0,1,2],pA [8,9,10,11]],[],68,(true,[(true,[.inr (1,147,0,0,0),.inr (1,148,0,0,0),.inr (1,149,0,0,0),.inr (1,150,0,0,0)]),(false,[.inl (.int .i64 (0))])]),[(68,[.inr (2,0,0,0,0),.inr (2,1,0,0,0),.inr (2,2,0,0,0)]),(69,[.inr (2,8,0,0,0),.inr (2,9,0,0,0),.inr (2,10,0,0,0),.inr (2,11,0,0,0)]),(70,[.inr (1,147,0,0,0),.inr (1,148,0,0,0),.inr (1,149,0,0,0),.inr (1,150,0,0,0)]),(76,[.inr (0,1,0,0,0),.inr (0,2,0,0,0),.inr (0,3,0,0,0),.inr (0,1,1,0,0),.inr (0,2,1,0,0),.inr (0,3,1,0,0),.inr (0,1,2,0,0),.inr (0,2,2,0,0),.inr (0,3,2,0,0)]),(88,[.inr (0,1,10,0,0),.inr (0,2,10,0,0),.inr (0,3,10,0,0),.inr (0,1,11,0,0),.inr (0,2,11,0,0),.inr (0,3,11,0,0),.inr (0,1,12,0,0),.inr (0,2,12,0,0),.inr (0,3,12,0,0),.inr (0,1,13,0,0),.inr (0,2,13,0,0),.inr (0,3,13,0,0)])],421)]
theorem tW_x12_0:mxOne (sx Tryz.prog tW_N tW_H12 tW_K12 tW_L tW_C tW_Z (prC [38])) tW_cs tW_G 8 (tW_B12.drop 0)=true:=by kernel_rfl
theorem tW_x12_1:mxOne (sx Tryz.prog tW_N tW_H12 tW_K12 tW_L tW_C tW_Z (prC [38])) tW_cs tW_G 8 (tW_B12.drop 1)=true:=by kernel_rfl
theorem tW_x12_2:mxOne (sx Tryz.prog tW_N tW_H12 tW_K12 tW_L tW_C tW_Z (prC [38])) tW_cs tW_G 8 (tW_B12.drop 2)=true:=by kernel_rfl
theorem tW_mx12 {q:Nat→Rat} {σ:Nat→ByteArray} {w:World} (hσ:∀ j,(σ j).size≤1048576) (hq:∀ (a:Nat) nd,tW_N[a]? = some nd→q a=valN σ q nd) (h0:∀ a,tW_N.length≤a→q a=0) (hH:hAll q tW_H12) (hp:PreS w) (hM:MemoAll tW_N tW_L tW_C tW_Z q σ [38] w tW_G):MemoXOk (sx Tryz.prog tW_N tW_H12 tW_K12 tW_L tW_C tW_Z (prC [38])) (evS q σ) w tW_B12:=by
 have Y:Hy tW_N tW_H12 tW_L tW_C tW_Z q σ:=hy_ofA hσ tW_wf tW_sz tW_lt tW_cn hq h0 hH
 have hc:∀ f ∈ ([38]:List FuncId),Closed f:=by simp [closed_turned]
 have hm:(Tryz.prog).follows .mixedOrders=true:=by kernel_rfl
 exact (memoX_drop (B:=tW_B12) Y hc hm hp hM tW_x12_0 (memoX_drop (B:=tW_B12) Y hc hm hp hM tW_x12_1 (memoX_drop (B:=tW_B12) Y hc hm hp hM tW_x12_2 memoX_nil)))
def tW_K13:List (FuncId × List AC):=[(232,[.inr (3,93,0,0,0),.inr (3,103,0,0,0)]),(232,[.inr (3,447,0,0,0),.inr (3,457,0,0,0)]),(232,[.inr (3,856,0,0,0),.inr (3,866,0,0,0)])]
def tW_B13:MemoX:=[(37,[pA [0,1,2],tA [308,309,310,311]],[],831,(true,[(true,[.inr (1,424,0,0,0),.inr (1,425,0,0,0),.inr (1,426,0,0,0),.inr (1,427,0,0,0)]),(false,[.inl (.int .i64 (0))])]),[(831,[.inr (2,0,0,0,0),.inr (2,1,0,0,0),.inr (2,2,0,0,0)]),(832,[.inr (1,308,0,0,0),.inr (1,309,0,0,0),.inr (1,310,0,0,0),.inr (1,311,0,0,0)]),(833,[.inr (1,424,0,0,0),.inr (1,425,0,0,0),.inr (1,426,0,0,0),.inr (1,427,0,0,0)]),(839,[.inr (0,1,0,0,0),.inr (0,2,0,0,0),.inr (0,3,0,0,0),.inr (0,1,1,0,0),.inr (0,2,1,0,0),.inr (0,3,1,0,0),.inr (0,1,2,0,0),.inr (0,2,2,0,0),.inr (0,3,2,0,0)]),(851,[.inr (0,1,308,0,0),.inr (0,2,308,0,0),.inr (0,3,308,0,0),.inr (0,1,309,0,0),.inr (0,2,309,0,0),.inr (0,3,309,0,0),.inr (0,1,310,0,0),.inr (0,2,310,0,0),.inr (0,3,310,0,0),.inr (0,1,311,0,0),.inr (0,2,311,0,0),.inr (0,3,311,0,0)])],1184),(37,[pA [0,1,2],tA [147,148,149,150]],[],422,(true,[(true,[.inr (1,263,0,0,0),.inr (1,264,0,0,0),.inr (1,265,0,0,0),.inr (1,266,0,0,0)]),(false,[.inl (.int .i64 (0))])]),[(422,[.inr (2,0,0,0,0),.inr (2,1,0,0,0),.inr (2,2,0,0,0)]),(423,[.inr (1,147,0,0,0),.inr (1,148,0,0,0),.inr (1,149,0,0,0),.inr (1,150,0,0,0)]),(424,[.inr (1,263,0,0,0),.inr (1,264,0,0,0),.inr (1,265,0,0,0),.inr (1,266,0,0,0)]),(430,[.inr (0,1,0,0,0),.inr (0,2,0,0,0),.inr (0,3,0,0,0),.inr (0,1,1,0,0),.inr (0,2,1,0,0),.inr (0,3,1,0,0),.inr (0,1,2,0,0),.inr (0,2,2,0,0),.inr (0,3,2,0,0)]),(442,[.inr (0,1,147,0,0),.inr (0,2,147,0,0),.inr (0,3,147,0,0),.inr (0,1,148,0,0),.inr (0,2,148,0,0),.inr (0,3,148,0,0),.inr (0,1,149,0,0),.inr (0,2,149,0,0),.inr (0,3,149,0,0),.inr (0,1,150,0,0),.inr (0,2,150,0,0),.inr (0,3,150,0,0)])],775),(37,[pA [0,1,2],pA [8,9,10,11]],[],68,(true,[(true,[.inr (1,147,0,0,0),.inr (1,148,0,0,0),.inr (1,149,0,0,0),.inr (1,150,0,0,0)]),(false,[.inl (.int .i64 (0))])]),[(68,[.inr (2,0,0,0,0),.inr (2,1,0,0,0),.inr (2,2,0,0,0)]),(69,[.inr (2,8,0,0,0),.inr (2,9,0,0,0),.inr (2,10,0,0,0),.inr (2,11,0,0,0)]),(70,[.inr (1,147,0,0,0),.inr (1,148,0,0,0),.inr (1,149,0,0,0),.inr (1,150,0,0,0)]),(76,[.inr (0,1,0,0,0),.inr (0,2,0,0,0),.inr (0,3,0,0,0),.inr (0,1,1,0,0),.inr (0,2,1,0,0),.inr (0,3,1,0,0),.inr (0,1,2,0,0),.inr (0,2,2,0,0),.inr (0,3,2,0,0)]),(88,[.inr (0,1,10,0,0),.inr (0,2,10,0,0),.inr (0,3,10,0,0),.inr (0,1,11,0,0),.inr (0,2,11,0,0),.inr (0,3,11,0,0),.inr (0,1,12,0,0),.inr (0,2,12,0,0),.inr (0,3,12,0,0),.inr (0,1,13,0,0),.inr (0,2,13,0,0),.inr (0,3,13,0,0)])],421)]
theorem tW_x13_0:mxOne (sx Tryz.prog tW_N tW_H13 tW_K13 tW_L tW_C tW_Z (prC [38])) tW_cs tW_G 8 (tW_B13.drop 0)=true:=by kernel_rfl
theorem tW_x13_1:mxOne (sx Tryz.prog tW_N tW_H13 tW_K13 tW_L tW_C tW_Z (prC [38])) tW_cs tW_G 8 (tW_B13.drop 1)=true:=by kernel_rfl
theorem tW_x13_2:mxOne (sx Tryz.prog tW_N tW_H13 tW_K13 tW_L tW_C tW_Z (prC [38])) tW_cs tW_G 8 (tW_B13.drop 2)=true:=by kernel_rfl
theorem tW_mx13 {q:Nat→Rat} {σ:Nat→ByteArray} {w:World} (hσ:∀ j,(σ j).size≤1048576) (hq:∀ (a:Nat) nd,tW_N[a]? = some nd→q a=valN σ q nd) (h0:∀ a,tW_N.length≤a→q a=0) (hH:hAll q tW_H13) (hp:PreS w) (hM:MemoAll tW_N tW_L tW_C tW_Z q σ [38] w tW_G):MemoXOk (sx Tryz.prog tW_N tW_H13 tW_K13 tW_L tW_C tW_Z (prC [38])) (evS q σ) w tW_B13:=by
 have Y:Hy tW_N tW_H13 tW_L tW_C tW_Z q σ:=hy_ofA hσ tW_wf tW_sz tW_lt tW_cn hq h0 hH
 have hc:∀ f ∈ ([38]:List FuncId),Closed f:=by simp [closed_turned]
 have hm:(Tryz.prog).follows .mixedOrders=true:=by kernel_rfl
 exact (memoX_drop (B:=tW_B13) Y hc hm hp hM tW_x13_0 (memoX_drop (B:=tW_B13) Y hc hm hp hM tW_x13_1 (memoX_drop (B:=tW_B13) Y hc hm hp hM tW_x13_2 memoX_nil)))
theorem tW_r0:(callE (sx Tryz.prog tW_N tW_H0 tW_K0 tW_L tW_C tW_Z (prC [38])) tW_cs tW_G tW_B0 7 [] 7 tW_A [] 0).map (·.1)=some (kB true):=by kernel_rfl
theorem tW_r1:(callE (sx Tryz.prog tW_N tW_H1 tW_K1 tW_L tW_C tW_Z (prC [38])) tW_cs tW_G tW_B1 7 [] 7 tW_A [] 0).map (·.1)=some (kB true):=by kernel_rfl
theorem tW_r2:(callE (sx Tryz.prog tW_N tW_H2 tW_K2 tW_L tW_C tW_Z (prC [38])) tW_cs tW_G tW_B2 7 [] 7 tW_A [] 0).map (·.1)=some (kB true):=by kernel_rfl
theorem tW_r3:(callE (sx Tryz.prog tW_N tW_H3 tW_K3 tW_L tW_C tW_Z (prC [38])) tW_cs tW_G tW_B3 7 [] 7 tW_A [] 0).map (·.1)=some (kB true):=by kernel_rfl
theorem tW_r4:(callD (sx Tryz.prog tW_N tW_H4 [(232,[.inr (3,46,0,0,0),.inr (3,56,0,0,0)]),(232,[.inr (3,400,0,0,0),.inr (3,410,0,0,0)])] tW_L tW_C tW_Z (prC [38])) tW_cs tW_G 7 [] 7 tW_A [] 0).map (·.1)=some (kB true):=by kernel_rfl
theorem tW_r5:(callD (sx Tryz.prog tW_N tW_H5 [(232,[.inr (3,93,0,0,0),.inr (3,103,0,0,0)])] tW_L tW_C tW_Z (prC [38])) tW_cs tW_G 7 [] 7 tW_A [] 0).map (·.1)=some (kB true):=by kernel_rfl
theorem tW_r6:(callD (sx Tryz.prog tW_N tW_H6 [(232,[.inr (3,93,0,0,0),.inr (3,103,0,0,0)])] tW_L tW_C tW_Z (prC [38])) tW_cs tW_G 7 [] 7 tW_A [] 0).map (·.1)=some (kB true):=by kernel_rfl
theorem tW_r7:(callD (sx Tryz.prog tW_N tW_H7 [(232,[.inr (3,93,0,0,0),.inr (3,103,0,0,0)])] tW_L tW_C tW_Z (prC [38])) tW_cs tW_G 7 [] 7 tW_A [] 0).map (·.1)=some (kB true):=by kernel_rfl
theorem tW_r8:(callD (sx Tryz.prog tW_N tW_H8 [(232,[.inr (3,93,0,0,0),.inr (3,103,0,0,0)])] tW_L tW_C tW_Z (prC [38])) tW_cs tW_G 7 [] 7 tW_A [] 0).map (·.1)=some (kB true):=by kernel_rfl
theorem tW_r9:(callD (sx Tryz.prog tW_N tW_H9 [] tW_L tW_C tW_Z (prC [38])) tW_cs tW_G 6 [] 7 tW_A [] 0).map (·.1)=some (kB true):=by kernel_rfl
theorem tW_r10:(callE (sx Tryz.prog tW_N tW_H10 tW_K10 tW_L tW_C tW_Z (prC [38])) tW_cs tW_G tW_B10 7 [] 7 tW_A [] 0).map (·.1)=some (kB true):=by kernel_rfl
theorem tW_r11:(callE (sx Tryz.prog tW_N tW_H11 tW_K11 tW_L tW_C tW_Z (prC [38])) tW_cs tW_G tW_B11 7 [] 7 tW_A [] 0).map (·.1)=some (kB true):=by kernel_rfl
theorem tW_r12:(callE (sx Tryz.prog tW_N tW_H12 tW_K12 tW_L tW_C tW_Z (prC [38])) tW_cs tW_G tW_B12 7 [] 7 tW_A [] 0).map (·.1)=some (kB true):=by kernel_rfl
theorem tW_r13:(callE (sx Tryz.prog tW_N tW_H13 tW_K13 tW_L tW_C tW_Z (prC [38])) tW_cs tW_G tW_B13 7 [] 7 tW_A [] 0).map (·.1)=some (kB true):=by kernel_rfl
theorem tW_r14:(callD (sx Tryz.prog tW_N tW_H14 [(232,[.inr (3,93,0,0,0),.inr (3,103,0,0,0)]),(232,[.inr (3,447,0,0,0),.inr (3,457,0,0,0)])] tW_L tW_C tW_Z (prC [38])) tW_cs tW_G 7 [] 7 tW_A [] 0).map (·.1)=some (kB true):=by kernel_rfl
theorem tW_r15:(callD (sx Tryz.prog tW_N tW_H15 [(232,[.inr (3,140,0,0,0),.inr (3,150,0,0,0)])] tW_L tW_C tW_Z (prC [38])) tW_cs tW_G 7 [] 7 tW_A [] 0).map (·.1)=some (kB true):=by kernel_rfl
theorem tW_r16:(callD (sx Tryz.prog tW_N tW_H16 [(232,[.inr (3,140,0,0,0),.inr (3,150,0,0,0)])] tW_L tW_C tW_Z (prC [38])) tW_cs tW_G 7 [] 7 tW_A [] 0).map (·.1)=some (kB true):=by kernel_rfl
theorem tW_r17:(callD (sx Tryz.prog tW_N tW_H17 [(232,[.inr (3,140,0,0,0),.inr (3,150,0,0,0)])] tW_L tW_C tW_Z (prC [38])) tW_cs tW_G 7 [] 7 tW_A [] 0).map (·.1)=some (kB true):=by kernel_rfl
theorem tW_r18:(callD (sx Tryz.prog tW_N tW_H18 [(232,[.inr (3,140,0,0,0),.inr (3,150,0,0,0)])] tW_L tW_C tW_Z (prC [38])) tW_cs tW_G 7 [] 7 tW_A [] 0).map (·.1)=some (kB true):=by kernel_rfl
theorem tW_r19:(callD (sx Tryz.prog tW_N tW_H19 [] tW_L tW_C tW_Z (prC [38])) tW_cs tW_G 6 [] 7 tW_A [] 0).map (·.1)=some (kB true):=by kernel_rfl
theorem tW_r20:(callD (sx Tryz.prog tW_N tW_H20 [] tW_L tW_C tW_Z (prC [38])) tW_cs tW_G 6 [] 7 tW_A [] 0).map (·.1)=some (kB true):=by kernel_rfl
theorem tW_r21:(callD (sx Tryz.prog tW_N tW_H21 [] tW_L tW_C tW_Z (prC [38])) tW_cs tW_G 5 [] 7 tW_A [] 0).map (·.1)=some (kB true):=by kernel_rfl
theorem tW_An {a b:Prop} (x:a) (y:b):a∧b:=⟨x,y⟩
theorem tW_leaf {M:Memo} {H:List (Nat × Nat × Nat × Nat)} {K:List (FuncId × List AC)} {k:Nat} {q:Nat→Rat} {σ:Nat→ByteArray} {args:List AV} {vs:List Value} {w:World} (hr:(callD (sx Tryz.prog tW_N H K tW_L tW_C tW_Z (prC [38])) tW_cs M k [] 7 args [] 0).map (·.1)=some (kB true)) (hσ:∀ j,(σ j).size≤1048576) (hq:∀ (a:Nat) nd,tW_N[a]? = some nd→q a=valN σ q nd) (h0:∀ a,tW_N.length≤a→q a=0) (hH:hAll q H) (hp:PreS w) (hM:MemoAll tW_N tW_L tW_C tW_Z q σ [38] w M) (hA:∀ K,A2 (avOn (cOn (evS q σ) K (fun _ => none) w)) args vs):Calls Tryz.prog 7 vs.toArray w fun e w' => Below w.heap.size w w'∧e=.returned (.bool true) :=
 run_toldD' k (hy_ofA hσ tW_wf tW_sz tW_lt tW_cn hq h0 hH) (by simp [closed_turned]) (by kernel_rfl) hp hM hr (hA K)
theorem tW_leafE {M:Memo} {B:MemoX} {H:List (Nat × Nat × Nat × Nat)} {K:List (FuncId × List AC)} {k:Nat} {q:Nat→Rat} {σ:Nat→ByteArray} {args:List AV} {vs:List Value} {w:World} (hr:(callE (sx Tryz.prog tW_N H K tW_L tW_C tW_Z (prC [38])) tW_cs M B k [] 7 args [] 0).map (·.1)=some (kB true)) (hσ:∀ j,(σ j).size≤1048576) (hq:∀ (a:Nat) nd,tW_N[a]? = some nd→q a=valN σ q nd) (h0:∀ a,tW_N.length≤a→q a=0) (hH:hAll q H) (hp:PreS w) (hM:MemoAll tW_N tW_L tW_C tW_Z q σ [38] w M) (hB:MemoXOk (sx Tryz.prog tW_N H K tW_L tW_C tW_Z (prC [38])) (evS q σ) w B) (hA:∀ K,A2 (avOn (cOn (evS q σ) K (fun _ => none) w)) args vs):Calls Tryz.prog 7 vs.toArray w fun e w' => Below w.heap.size w w'∧e=.returned (.bool true) :=
 run_toldE' k (hy_ofA hσ tW_wf tW_sz tW_lt tW_cn hq h0 hH) (by simp [closed_turned]) (by kernel_rfl) hp hM hB hr (hA K)
theorem tW_leafC {H:List (Nat × Nat × Nat × Nat)} {K:List (FuncId × List AC)} {k:Nat} {q:Nat→Rat} {σ:Nat→ByteArray} {args:List AV} {vs:List Value} {w:World} (hr:(callC (sx Tryz.prog tW_N H K tW_L tW_C tW_Z (prC [38])) tW_cs k [] 7 args [] 0).map (·.1)=some (kB true)) (hσ:∀ j,(σ j).size≤1048576) (hq:∀ (a:Nat) nd,tW_N[a]? = some nd→q a=valN σ q nd) (h0:∀ a,tW_N.length≤a→q a=0) (hH:hAll q H) (hp:PreS w) (hA:∀ K,A2 (avOn (cOn (evS q σ) K (fun _ => none) w)) args vs):Calls Tryz.prog 7 vs.toArray w fun e w' => Below w.heap.size w w'∧e=.returned (.bool true) :=
 run_toldC' k (hy_ofA hσ tW_wf tW_sz tW_lt tW_cn hq h0 hH) (by simp [closed_turned]) (by kernel_rfl) hr hp (hA K)
theorem tW_walk {w:World} {cx cz cr ux uz dx dz dr ga gb gc gd:ByteArray} (scx:cx.size≤1048576) (scz:cz.size≤1048576) (scr:cr.size≤1048576) (sux:ux.size≤1048576) (suz:uz.size≤1048576) (sdx:dx.size≤1048576) (sdz:dz.size≤1048576) (sdr:dr.size≤1048576) (sga:ga.size≤1048576) (sgb:gb.size≤1048576) (sgc:gc.size≤1048576) (sgd:gd.size≤1048576) (tab:Tab w) (mx:MaxL w) :
  Calls Tryz.prog 7 #[.agg #[.string cx,.string cz,.string cr],.agg #[.string ux,.string uz],.agg #[.string dx,.string dz,.string dr],.agg #[.string ga,.string gb,.string gc,.string gd]] w fun e w' => Below w.heap.size w w'∧e=.returned (.bool true):=by
 have hσ:∀ j,(sgOf [cx,cz,cr,ux,uz,dx,dz,dr,ga,gb,gc,gd] j).size≤1048576:=sgOf_size (by simp [scx,scz,scr,sux,suz,sdx,sdz,sdr,sga,sgb,sgc,sgd])
 obtain ⟨q,hq,h0⟩:=nodes_exist (sgOf [cx,cz,cr,ux,uz,dx,dz,dr,ga,gb,gc,gd]) tW_N tW_wf
 have hA:∀ K,A2 (avOn (cOn (evS q (sgOf [cx,cz,cr,ux,uz,dx,dz,dr,ga,gb,gc,gd])) K (fun _ => none) w)) [(false,[(true,[.inr (2,0,0,0,0),.inr (2,1,0,0,0),.inr (2,2,0,0,0)])]),(false,[(true,[.inr (2,3,0,0,0),.inr (2,4,0,0,0)])]),(false,[(true,[.inr (2,5,0,0,0),.inr (2,6,0,0,0),.inr (2,7,0,0,0)])]),(false,[(true,[.inr (2,8,0,0,0),.inr (2,9,0,0,0),.inr (2,10,0,0,0),.inr (2,11,0,0,0)])])] [.agg #[.string cx,.string cz,.string cr],.agg #[.string ux,.string uz],.agg #[.string dx,.string dz,.string dr],.agg #[.string ga,.string gb,.string gc,.string gd]]:=fun K => ⟨⟨⟨[.string cx,.string cz,.string cr],rfl,rfl,rfl,rfl,trivial⟩,trivial⟩,⟨⟨[.string ux,.string uz],rfl,rfl,rfl,trivial⟩,trivial⟩,⟨⟨[.string dx,.string dz,.string dr],rfl,rfl,rfl,rfl,trivial⟩,trivial⟩,⟨⟨[.string ga,.string gb,.string gc,.string gd],rfl,rfl,rfl,rfl,rfl,trivial⟩,trivial⟩,trivial⟩
 by_cases a_2_2_0:0 < q 2
 ·
  by_cases b9:q 9=0
  ·
   by_cases a_2_20_0:0 < q 20
   ·
    have gT2:=tW_T2 hq a_2_2_0 a_2_20_0
    have a_2_156_0:0 < q 156:=gT2.1
    have b295:q 295=0:=gT2.2
    by_cases a_2_298_0:0 < q 298
    ·
     have gT3:=tW_T3 hq a_2_298_0
     have a_2_317_0:0 < q 317:=gT3
     by_cases b436:q 436=0
     ·
      have gT4:=tW_T4 hq a_2_2_0 a_2_298_0
      have b447:q 447=0:=gT4.1 b436
      have hH:hAll q tW_H0:=(tW_An (hT a_2_2_0) (tW_An (hT b9) (tW_An (hT a_2_20_0) (tW_An (hT a_2_156_0) (tW_An (hT b295) (tW_An (hT a_2_298_0) (tW_An (hT a_2_317_0) (tW_An (hT b436) (tW_An (hT b447) trivial)))))))))
      have hM:=tW_memoG hσ hq h0 (w:=w) ⟨tab,mx⟩
      exact tW_leafE tW_r0 hσ hq h0 hH ⟨tab,mx⟩ hM (tW_mx0 hσ hq h0 hH ⟨tab,mx⟩ hM) hA
     ·
      by_cases b447:q 447=0
      ·
       have gT6:=(tW_T4 hq a_2_2_0 a_2_298_0).2.1 b436 b447
       have b452:q 452=0:=gT6.1
       have a_3_2_298:q 2=q 298:=gT6.2
       have hH:hAll q tW_H1:=(tW_An (hT a_2_2_0) (tW_An (hT b9) (tW_An (hT a_2_20_0) (tW_An (hT a_2_156_0) (tW_An (hT b295) (tW_An (hT a_2_298_0) (tW_An (hT a_2_317_0) (tW_An (hF b436) (tW_An (hT b447) (tW_An (hT b452) (tW_An (hT a_3_2_298) trivial)))))))))))
       have hM:=tW_memoG hσ hq h0 (w:=w) ⟨tab,mx⟩
       exact tW_leafE tW_r1 hσ hq h0 hH ⟨tab,mx⟩ hM (tW_mx1 hσ hq h0 hH ⟨tab,mx⟩ hM) hA
      ·
       by_cases b452:q 452=0
       ·
        have gT7:=(tW_T4 hq a_2_2_0 a_2_298_0).2.2 b436 b447 b452
        have a_3_2_298:¬ (q 2=q 298):=gT7
        have hH:hAll q tW_H2:=(tW_An (hT a_2_2_0) (tW_An (hT b9) (tW_An (hT a_2_20_0) (tW_An (hT a_2_156_0) (tW_An (hT b295) (tW_An (hT a_2_298_0) (tW_An (hT a_2_317_0) (tW_An (hF b436) (tW_An (hF b447) (tW_An (hT b452) (tW_An (hF a_3_2_298) trivial)))))))))))
        have hM:=tW_memoG hσ hq h0 (w:=w) ⟨tab,mx⟩
        exact tW_leafE tW_r2 hσ hq h0 hH ⟨tab,mx⟩ hM (tW_mx2 hσ hq h0 hH ⟨tab,mx⟩ hM) hA
       ·
        have hH:hAll q tW_H3:=(tW_An (hT a_2_2_0) (tW_An (hT b9) (tW_An (hT a_2_20_0) (tW_An (hT a_2_156_0) (tW_An (hT b295) (tW_An (hT a_2_298_0) (tW_An (hT a_2_317_0) (tW_An (hF b436) (tW_An (hF b447) (tW_An (hF b452) trivial))))))))))
        have hM:=tW_memoG hσ hq h0 (w:=w) ⟨tab,mx⟩
        exact tW_leafE tW_r3 hσ hq h0 hH ⟨tab,mx⟩ hM (tW_mx3 hσ hq h0 hH ⟨tab,mx⟩ hM) hA
    ·
     have gT5:=tW_T5 hq
     have a_2_457_0:¬ (0 < q 457):=gT5
     have hH:hAll q tW_H4:=(tW_An (hT a_2_2_0) (tW_An (hT b9) (tW_An (hT a_2_20_0) (tW_An (hT a_2_156_0) (tW_An (hT b295) (tW_An (hF a_2_298_0) (tW_An (hF a_2_457_0) trivial)))))))
     exact tW_leaf tW_r4 hσ hq h0 hH ⟨tab,mx⟩ (tW_memoG hσ hq h0 ⟨tab,mx⟩) hA
   ·
    by_cases a_2_298_0:0 < q 298
    ·
     have gT3:=tW_T3 hq a_2_298_0
     have a_2_317_0:0 < q 317:=gT3
     by_cases b436:q 436=0
     ·
      have gT4:=tW_T4 hq a_2_2_0 a_2_298_0
      have b447:q 447=0:=gT4.1 b436
      have hH:hAll q tW_H5:=(tW_An (hT a_2_2_0) (tW_An (hT b9) (tW_An (hF a_2_20_0) (tW_An (hT a_2_298_0) (tW_An (hT a_2_317_0) (tW_An (hT b436) (tW_An (hT b447) trivial)))))))
      exact tW_leaf tW_r5 hσ hq h0 hH ⟨tab,mx⟩ (tW_memoG hσ hq h0 ⟨tab,mx⟩) hA
     ·
      by_cases b447:q 447=0
      ·
       have gT6:=(tW_T4 hq a_2_2_0 a_2_298_0).2.1 b436 b447
       have b452:q 452=0:=gT6.1
       have a_3_2_298:q 2=q 298:=gT6.2
       have hH:hAll q tW_H6:=(tW_An (hT a_2_2_0) (tW_An (hT b9) (tW_An (hF a_2_20_0) (tW_An (hT a_2_298_0) (tW_An (hT a_2_317_0) (tW_An (hF b436) (tW_An (hT b447) (tW_An (hT b452) (tW_An (hT a_3_2_298) trivial)))))))))
       exact tW_leaf tW_r6 hσ hq h0 hH ⟨tab,mx⟩ (tW_memoG hσ hq h0 ⟨tab,mx⟩) hA
      ·
       by_cases b452:q 452=0
       ·
        have gT7:=(tW_T4 hq a_2_2_0 a_2_298_0).2.2 b436 b447 b452
        have a_3_2_298:¬ (q 2=q 298):=gT7
        have hH:hAll q tW_H7:=(tW_An (hT a_2_2_0) (tW_An (hT b9) (tW_An (hF a_2_20_0) (tW_An (hT a_2_298_0) (tW_An (hT a_2_317_0) (tW_An (hF b436) (tW_An (hF b447) (tW_An (hT b452) (tW_An (hF a_3_2_298) trivial)))))))))
        exact tW_leaf tW_r7 hσ hq h0 hH ⟨tab,mx⟩ (tW_memoG hσ hq h0 ⟨tab,mx⟩) hA
       ·
        have hH:hAll q tW_H8:=(tW_An (hT a_2_2_0) (tW_An (hT b9) (tW_An (hF a_2_20_0) (tW_An (hT a_2_298_0) (tW_An (hT a_2_317_0) (tW_An (hF b436) (tW_An (hF b447) (tW_An (hF b452) trivial))))))))
        exact tW_leaf tW_r8 hσ hq h0 hH ⟨tab,mx⟩ (tW_memoG hσ hq h0 ⟨tab,mx⟩) hA
    ·
     have gT5:=tW_T5 hq
     have a_2_457_0:¬ (0 < q 457):=gT5
     have hH:hAll q tW_H9:=(tW_An (hT a_2_2_0) (tW_An (hT b9) (tW_An (hF a_2_20_0) (tW_An (hF a_2_298_0) (tW_An (hF a_2_457_0) trivial)))))
     exact tW_leaf tW_r9 hσ hq h0 hH ⟨tab,mx⟩ (tW_memoG hσ hq h0 ⟨tab,mx⟩) hA
  ·
   have gT1:=tW_T1 hq a_2_2_0 b9
   have b467:¬ (q 467=0):=gT1.1
   have b477:q 477=0:=gT1.2
   by_cases a_2_20_0:0 < q 20
   ·
    have gT2:=tW_T2 hq a_2_2_0 a_2_20_0
    have a_2_156_0:0 < q 156:=gT2.1
    have b295:q 295=0:=gT2.2
    by_cases a_2_298_0:0 < q 298
    ·
     have gT3:=tW_T3 hq a_2_298_0
     have a_2_317_0:0 < q 317:=gT3
     by_cases b436:q 436=0
     ·
      have gT4:=tW_T4 hq a_2_2_0 a_2_298_0
      have b447:q 447=0:=gT4.1 b436
      have hH:hAll q tW_H10:=(tW_An (hT a_2_2_0) (tW_An (hF b9) (tW_An (hF b467) (tW_An (hT b477) (tW_An (hT a_2_20_0) (tW_An (hT a_2_156_0) (tW_An (hT b295) (tW_An (hT a_2_298_0) (tW_An (hT a_2_317_0) (tW_An (hT b436) (tW_An (hT b447) trivial)))))))))))
      have hM:=tW_memoG hσ hq h0 (w:=w) ⟨tab,mx⟩
      exact tW_leafE tW_r10 hσ hq h0 hH ⟨tab,mx⟩ hM (tW_mx10 hσ hq h0 hH ⟨tab,mx⟩ hM) hA
     ·
      by_cases b447:q 447=0
      ·
       have gT6:=(tW_T4 hq a_2_2_0 a_2_298_0).2.1 b436 b447
       have b452:q 452=0:=gT6.1
       have a_3_2_298:q 2=q 298:=gT6.2
       have hH:hAll q tW_H11:=(tW_An (hT a_2_2_0) (tW_An (hF b9) (tW_An (hF b467) (tW_An (hT b477) (tW_An (hT a_2_20_0) (tW_An (hT a_2_156_0) (tW_An (hT b295) (tW_An (hT a_2_298_0) (tW_An (hT a_2_317_0) (tW_An (hF b436) (tW_An (hT b447) (tW_An (hT b452) (tW_An (hT a_3_2_298) trivial)))))))))))))
       have hM:=tW_memoG hσ hq h0 (w:=w) ⟨tab,mx⟩
       exact tW_leafE tW_r11 hσ hq h0 hH ⟨tab,mx⟩ hM (tW_mx11 hσ hq h0 hH ⟨tab,mx⟩ hM) hA
      ·
       by_cases b452:q 452=0
       ·
        have gT7:=(tW_T4 hq a_2_2_0 a_2_298_0).2.2 b436 b447 b452
        have a_3_2_298:¬ (q 2=q 298):=gT7
        have hH:hAll q tW_H12:=(tW_An (hT a_2_2_0) (tW_An (hF b9) (tW_An (hF b467) (tW_An (hT b477) (tW_An (hT a_2_20_0) (tW_An (hT a_2_156_0) (tW_An (hT b295) (tW_An (hT a_2_298_0) (tW_An (hT a_2_317_0) (tW_An (hF b436) (tW_An (hF b447) (tW_An (hT b452) (tW_An (hF a_3_2_298) trivial)))))))))))))
        have hM:=tW_memoG hσ hq h0 (w:=w) ⟨tab,mx⟩
        exact tW_leafE tW_r12 hσ hq h0 hH ⟨tab,mx⟩ hM (tW_mx12 hσ hq h0 hH ⟨tab,mx⟩ hM) hA
       ·
        have hH:hAll q tW_H13:=(tW_An (hT a_2_2_0) (tW_An (hF b9) (tW_An (hF b467) (tW_An (hT b477) (tW_An (hT a_2_20_0) (tW_An (hT a_2_156_0) (tW_An (hT b295) (tW_An (hT a_2_298_0) (tW_An (hT a_2_317_0) (tW_An (hF b436) (tW_An (hF b447) (tW_An (hF b452) trivial))))))))))))
        have hM:=tW_memoG hσ hq h0 (w:=w) ⟨tab,mx⟩
        exact tW_leafE tW_r13 hσ hq h0 hH ⟨tab,mx⟩ hM (tW_mx13 hσ hq h0 hH ⟨tab,mx⟩ hM) hA
    ·
     have gT5:=tW_T5 hq
     have a_2_457_0:¬ (0 < q 457):=gT5
     have hH:hAll q tW_H14:=(tW_An (hT a_2_2_0) (tW_An (hF b9) (tW_An (hF b467) (tW_An (hT b477) (tW_An (hT a_2_20_0) (tW_An (hT a_2_156_0) (tW_An (hT b295) (tW_An (hF a_2_298_0) (tW_An (hF a_2_457_0) trivial)))))))))
     exact tW_leaf tW_r14 hσ hq h0 hH ⟨tab,mx⟩ (tW_memoG hσ hq h0 ⟨tab,mx⟩) hA
   ·
    by_cases a_2_298_0:0 < q 298
    ·
     have gT3:=tW_T3 hq a_2_298_0
     have a_2_317_0:0 < q 317:=gT3
     by_cases b436:q 436=0
     ·
      have gT4:=tW_T4 hq a_2_2_0 a_2_298_0
      have b447:q 447=0:=gT4.1 b436
      have hH:hAll q tW_H15:=(tW_An (hT a_2_2_0) (tW_An (hF b9) (tW_An (hF b467) (tW_An (hT b477) (tW_An (hF a_2_20_0) (tW_An (hT a_2_298_0) (tW_An (hT a_2_317_0) (tW_An (hT b436) (tW_An (hT b447) trivial)))))))))
      exact tW_leaf tW_r15 hσ hq h0 hH ⟨tab,mx⟩ (tW_memoG hσ hq h0 ⟨tab,mx⟩) hA
     ·
      by_cases b447:q 447=0
      ·
       have gT6:=(tW_T4 hq a_2_2_0 a_2_298_0).2.1 b436 b447
       have b452:q 452=0:=gT6.1
       have a_3_2_298:q 2=q 298:=gT6.2
       have hH:hAll q tW_H16:=(tW_An (hT a_2_2_0) (tW_An (hF b9) (tW_An (hF b467) (tW_An (hT b477) (tW_An (hF a_2_20_0) (tW_An (hT a_2_298_0) (tW_An (hT a_2_317_0) (tW_An (hF b436) (tW_An (hT b447) (tW_An (hT b452) (tW_An (hT a_3_2_298) trivial)))))))))))
       exact tW_leaf tW_r16 hσ hq h0 hH ⟨tab,mx⟩ (tW_memoG hσ hq h0 ⟨tab,mx⟩) hA
      ·
       by_cases b452:q 452=0
       ·
        have gT7:=(tW_T4 hq a_2_2_0 a_2_298_0).2.2 b436 b447 b452
        have a_3_2_298:¬ (q 2=q 298):=gT7
        have hH:hAll q tW_H17:=(tW_An (hT a_2_2_0) (tW_An (hF b9) (tW_An (hF b467) (tW_An (hT b477) (tW_An (hF a_2_20_0) (tW_An (hT a_2_298_0) (tW_An (hT a_2_317_0) (tW_An (hF b436) (tW_An (hF b447) (tW_An (hT b452) (tW_An (hF a_3_2_298) trivial)))))))))))
        exact tW_leaf tW_r17 hσ hq h0 hH ⟨tab,mx⟩ (tW_memoG hσ hq h0 ⟨tab,mx⟩) hA
       ·
        have hH:hAll q tW_H18:=(tW_An (hT a_2_2_0) (tW_An (hF b9) (tW_An (hF b467) (tW_An (hT b477) (tW_An (hF a_2_20_0) (tW_An (hT a_2_298_0) (tW_An (hT a_2_317_0) (tW_An (hF b436) (tW_An (hF b447) (tW_An (hF b452) trivial))))))))))
        exact tW_leaf tW_r18 hσ hq h0 hH ⟨tab,mx⟩ (tW_memoG hσ hq h0 ⟨tab,mx⟩) hA
    ·
     have gT5:=tW_T5 hq
     have a_2_457_0:¬ (0 < q 457):=gT5
     have hH:hAll q tW_H19:=(tW_An (hT a_2_2_0) (tW_An (hF b9) (tW_An (hF b467) (tW_An (hT b477) (tW_An (hF a_2_20_0) (tW_An (hF a_2_298_0) (tW_An (hF a_2_457_0) trivial)))))))
     exact tW_leaf tW_r19 hσ hq h0 hH ⟨tab,mx⟩ (tW_memoG hσ hq h0 ⟨tab,mx⟩) hA
 ·
  by_cases a_2_298_0:0 < q 298
  ·
   have hH:hAll q tW_H20:=(tW_An (hF a_2_2_0) (tW_An (hT a_2_298_0) trivial))
   exact tW_leaf tW_r20 hσ hq h0 hH ⟨tab,mx⟩ (tW_memoG hσ hq h0 ⟨tab,mx⟩) hA
  ·
   have hH:hAll q tW_H21:=(tW_An (hF a_2_2_0) (tW_An (hF a_2_298_0) trivial))
   exact tW_leaf tW_r21 hσ hq h0 hH ⟨tab,mx⟩ (tW_memoG hσ hq h0 ⟨tab,mx⟩) hA
end Go.Proofs.YtgemmepbdmbmfaaGreatDoor
