/- Part 13 of the walks and of the mathematics under them: VY VSZ CFturned MTH. -/
import Derived.Test.YtobmjfjkpodhmaaGreatDoorA12
set_option maxHeartbeats 16000000
set_option maxRecDepth 100000
/- VY -/
namespace Go.Proofs.YtobmjfjkpodhmaaGreatDoor
open Go.RowKit Cx
theorem den_num (t : Rat) : t*(t.den : Rat)=((t.num : Int) : Rat) := by
 conv => lhs; lhs; rw [← Rat.mkRat_self t]
 have h0 : (t.den : Rat) ≠ 0 := fun h => t.den_nz (by exact_mod_cast h)
 rw [Rat.mkRat_eq_div,Rat.div_mul_cancel h0]
theorem whole {q : Rat} (h : q.den=1) : q=((q.num : Int) : Rat) := by
 have := den_num q
 rw [h] at this
 rw [← this]
 show q=q*((1 : Nat) : Rat)
 exact (Rat.mul_one q).symm
end Go.Proofs.YtobmjfjkpodhmaaGreatDoor
/- VSZ -/
namespace Go.Proofs.YtobmjfjkpodhmaaGreatDoor
open Go.RowKit Cx
def szW (Z : List Nat) (I : List Bool) (z : Nat) (b : Bool) (nd : Nd) : Bool := match nd.1,nd.2 with
 | 0,[_,n,d] => (Nat.blt n (2 ^ z) && (Nat.blt 0 d && Nat.blt d (2 ^ z))) && (!b || Nat.beq d 1)
 | 1,[_] => Nat.ble 3495259 z && !b
 | 2,[a,c] => (match Z[a]?,Z[c]?,I[a]?,I[c]? with
  | some x,some y,some true,some true => Nat.ble (Nat.max x y+1) z
  | some x,some y,_,_ => Nat.ble (x+y+1) z && !b
  | _,_,_,_ => false)
 | 3,[a,c] => (match Z[a]?,Z[c]?,I[a]?,I[c]? with
  | some x,some y,some true,some true => Nat.ble (Nat.max x y+1) z
  | some x,some y,_,_ => Nat.ble (x+y+1) z && !b
  | _,_,_,_ => false)
 | 4,[a,c] => (match Z[a]?,Z[c]?,I[a]?,I[c]? with
  | some x,some y,some true,some true => Nat.ble (x+y) z
  | some x,some y,_,_ => Nat.ble (x+y) z && !b
  | _,_,_,_ => false)
 | 5,[a] => (match Z[a]?,I[a]? with
  | some x,some true => Nat.ble x z
  | some x,_ => Nat.ble x z && !b
  | _,_ => false)
 | 6,[a,c] => (match Z[a]?,Z[c]? with
  | some x,some y => Nat.ble (x+y) z && !b
  | _,_ => false)
 | 8,i :: xs => (match getsO Z xs with
  | some zs => Nat.blt i xs.length && (Nat.ble ((xs.length+1)*maxL zs+1) z || (xs.all (fun a => match I[a]? with
   | some true => true
   | _ => false) && (match xs[i]? with
   | some a => (match Z[a]? with
    | some x => Nat.ble (x+1) z
    | none => false)
   | none => false)))
  | none => false)
 | _,_ => false
def szC (Z : List Nat) (I : List Bool) : List Nd→List Nat→List Bool→Bool
 | [],[],[] => true
 | nd :: ns,z :: zs,b :: bs => (szW Z I z b nd && Nat.ble z 1000000000000) && szC Z I ns zs bs
 | _,_,_ => false
theorem szC_get {Z : List Nat} {I : List Bool} : ∀ {ns : List Nd} {zs : List Nat} {bs : List Bool} {i z : Nat},szC Z I ns zs bs=true→zs[i]? = some z→∃ nd b,ns[i]? = some nd∧bs[i]? = some b∧szW Z I z b nd=true∧z≤1000000000000
 | [],[],[],_,_,_,h => by simp at h
 | [],[],_ :: _,_,_,h,_ => by cases h
 | [],_ :: _,_,_,_,h,_ => by cases h
 | _ :: _,[],_,_,_,h,_ => by cases h
 | _ :: _,_ :: _,[],_,_,h,_ => by cases h
 | nd :: ns,z' :: zs,b :: bs,0,z,h,e => by
  have : z'=z := by simpa using e
  subst this
  unfold szC at h
  simp only [Bool.and_eq_true,Nat.ble_eq] at h
  exact ⟨nd,b,rfl,rfl,h.1.1,h.1.2⟩
 | nd :: ns,z' :: zs,b :: bs,i+1,z,h,e => by
  unfold szC at h
  rw [Bool.and_eq_true] at h
  obtain ⟨nd2,b2,g1,g2,g3⟩ := szC_get (ns := ns) (zs := zs) (bs := bs) h.2 (show zs[i]? = some z by simpa using e)
  exact ⟨nd2,b2,by simpa using g1,by simpa using g2,g3⟩
theorem szC_len {Z : List Nat} {I : List Bool} : ∀ {ns : List Nd} {zs : List Nat} {bs : List Bool},szC Z I ns zs bs=true→ns.length=zs.length
 | [],[],[],_ => rfl
 | [],[],_ :: _,h => by cases h
 | [],_ :: _,_,h => by cases h
 | _ :: _,[],_,h => by cases h
 | _ :: _,_ :: _,[],h => by cases h
 | _ :: _,_ :: _,_ :: _,h => by
  unfold szC at h
  rw [Bool.and_eq_true] at h
  exact congrArg (· + 1) (szC_len h.2)
structure QW (z : Nat) (x : Rat) : Prop where
 qs : QS z x
 wh : x.den=1
theorem QW.of {z : Nat} {n : Int} (h : n.natAbs < 2 ^ z) (hz : 0 < z) : QW z ((n : Int) : Rat) :=
 ⟨⟨by simpa using h,by
  show ((n : Int) : Rat).den < 2 ^ z
  rw [Rat.den_intCast]
  exact Nat.one_lt_two_pow (by omega)⟩,Rat.den_intCast n⟩
theorem QW.mono {k l : Nat} {x : Rat} (h : QW k x) (hk : k≤l) : QW l x := ⟨h.qs.mono hk,h.wh⟩
theorem two_max {a b x y : Nat} (h1 : a < 2 ^ x) (h2 : b < 2 ^ y) : a+b < 2 ^ (Nat.max x y+1) := by
 have e1 : 2 ^ x≤2 ^ Nat.max x y := Nat.pow_le_pow_right (by decide) (Nat.le_max_left x y)
 have e2 : 2 ^ y≤2 ^ Nat.max x y := Nat.pow_le_pow_right (by decide) (Nat.le_max_right x y)
 rw [Nat.pow_succ]
 omega
theorem QW.add {x y : Nat} {a b : Rat} (h1 : QW x a) (h2 : QW y b) : QW (Nat.max x y+1) (a+b) := by
 rw [whole h1.wh,whole h2.wh,← Rat.intCast_add]
 refine QW.of ?_ (by omega)
 have := two_max h1.qs.num h2.qs.num
 omega
theorem QW.sub {x y : Nat} {a b : Rat} (h1 : QW x a) (h2 : QW y b) : QW (Nat.max x y+1) (a - b) := by
 rw [whole h1.wh,whole h2.wh,← Rat.intCast_sub]
 refine QW.of ?_ (by omega)
 have := two_max h1.qs.num h2.qs.num
 omega
theorem QW.mul {x y : Nat} {a b : Rat} (h1 : QW x a) (h2 : QW y b) : QW (x+y) (a*b) := by
 refine ⟨h1.qs.mul h2.qs,?_⟩
 rw [whole h1.wh,whole h2.wh,← Rat.intCast_mul]
 exact Rat.den_intCast _
theorem QW.neg {x : Nat} {a : Rat} (h1 : QW x a) : QW x (-a) := ⟨h1.qs.neg,h1.wh⟩
theorem lD_one : ∀ {qs : List Rat} {m : Nat},(∀ q ∈ qs,q.den=1)→qs.foldl (fun m q => m*(q.den / Nat.gcd m q.den)) m=m
 | [],_,_ => rfl
 | q :: qs,m,h => by
  rw [List.foldl_cons,h q List.mem_cons_self,Nat.gcd_one_right,Nat.div_self (by decide),Nat.mul_one]
  exact lD_one fun p hp => h p (List.mem_cons_of_mem _ hp)
theorem QW.fac {z : Nat} {qs : List Rat} {x : Rat} (hx : QS z x) (h : x ∈ qs) (hw : ∀ y ∈ qs,y.den=1) : QS (z+1) (x*fac qs) := by
 have hl : lD qs=1 := lD_one hw
 refine ⟨?_,?_⟩
 ·rw [fac_abs h,hl,hw x h,Nat.div_self (by decide),Nat.mul_one]
  exact Nat.lt_of_le_of_lt (Nat.div_le_self _ _) (Nat.lt_of_lt_of_le hx.num (Nat.pow_le_pow_right (by decide) (by omega)))
 ·rw [fac_den h]
  exact Nat.one_lt_two_pow (by omega)
theorem ten_three : ∀ n : Nat,10 ^ n≤2 ^ ((10*n+2) / 3)
 | 0 => by decide
 | 1 => by decide
 | 2 => by decide
 | n+3 => by
  have h := ten_three n
  have e : (10*(n+3)+2) / 3=(10*n+2) / 3+10 := by omega
  rw [e,Nat.pow_add,Nat.pow_add]
  exact Nat.mul_le_mul h (by decide)
theorem QS.rd3 (l : List UInt8) : QS ((10*l.length+2) / 3+5) (Cx.rd l) := by
 have key : ∀ {m : List UInt8},digs m=true→dv m < 2 ^ ((10*m.length+2) / 3) := fun {m} h => Nat.lt_of_lt_of_le (dv_lt (digs_all h)) (ten_three _)
 unfold Cx.rd
 split
 ·rename_i h
  rw [Bool.and_eq_true] at h
  have h1 := key h.1
  have h2 := key h.2
  have h3 := up_len (tailOf l)
  have h4 := low_len (tailOf l)
  have h5 := tail_len l
  apply QS.mkr
  ·rw [sg_abs]; exact Nat.lt_of_lt_of_le h1 (Nat.pow_le_pow_right (by decide) (by omega))
  ·exact Nat.lt_of_lt_of_le h2 (Nat.pow_le_pow_right (by decide) (by omega))
 ·exact QS.zero.mono (by omega)
section
variable {N : List Nd} {Z : List Nat} {I : List Bool} {q : Nat→Rat}
theorem sizes_okW {σ : Nat→ByteArray} (hσ : ∀ j,(σ j).size≤1048576) (hw : wfB 0 N=true) (hz : szC Z I N Z I=true) (hq : ∀ (a : Nat) nd,N[a]? = some nd→q a=valN σ q nd) (h0 : ∀ a,N.length≤a→q a=0) : (∀ (a : Nat) z,Z[a]? = some z→QS z (q a))∧∀ a,QS 1000000000000 (q a) := by
 have h2 : ∀ (a : Nat) z,Z[a]? = some z→QS z (q a)∧(I[a]? = some true→(q a).den=1) := by
  intro a
  induction a using Nat.strongRecOn with
  | ind a ih =>
   intro z hz'
   obtain ⟨nd,b,hn,hb,hs,_⟩ := szC_get hz hz'
   have hwf := wfB_get hw hn
   rw [Nat.zero_add] at hwf
   rw [hq a nd hn,hb]
   obtain ⟨op,xs⟩ := nd
   unfold szW at hs
   unfold valN
   unfold wfN at hwf
   dsimp only at hs hwf ⊢
   have W : ∀ {c x},c < a→Z[c]? = some x→I[c]? = some true→QW x (q c) := fun hc hx hi => ⟨(ih _ hc _ hx).1,(ih _ hc _ hx).2 hi⟩
   have no : ∀ {v : Rat},b=false→(some b=some true→v.den=1) := fun e h => by rw [e] at h; cases h
   split at hs
   ·rename_i s n d
    simp only [Bool.and_eq_true] at hs
    obtain ⟨⟨h1,h2,h3⟩,h4⟩ := hs
    refine ⟨QS.const (by simpa [Nat.blt_eq] using h1) (by simpa [Nat.blt_eq] using h2) (by simpa [Nat.blt_eq] using h3),fun e => ?_⟩
    rw [show b=true from Option.some.inj e] at h4
    have hd : d=1 := by simpa using h4
    subst hd
    show (if s=0 then mkRat (n : Int) 1 else mkRat (-(n : Int)) 1).den=1
    split
    ·rw [Rat.mkRat_one]
     exact Rat.den_intCast _
    ·rw [Rat.mkRat_one]
     exact Rat.den_intCast _
   ·rename_i j
    simp only [Bool.and_eq_true,Nat.ble_eq,Bool.not_eq_true'] at hs
    exact ⟨QS.mono (QS.rd3 _) (by have := hσ j; rw [str_len]; omega),no hs.2⟩
   ·simp only [List.all_cons,List.all_nil,Bool.and_true,Bool.and_eq_true] at hwf
    have l1 := (by simpa [Nat.blt_eq] using hwf.1 : _ < a)
    have l2 := (by simpa [Nat.blt_eq] using hwf.2 : _ < a)
    split at hs
    ·rename_i x y hx hy i1 i2
     rw [Nat.ble_eq] at hs
     have := ((W l1 hx i1).add (W l2 hy i2)).mono hs
     exact ⟨this.qs,fun _ => this.wh⟩
    ·rename_i x y hx hy _
     simp only [Bool.and_eq_true,Nat.ble_eq,Bool.not_eq_true'] at hs
     exact ⟨((ih _ l1 x hx).1.add (ih _ l2 y hy).1).mono hs.1,no hs.2⟩
    ·cases hs
   ·simp only [List.all_cons,List.all_nil,Bool.and_true,Bool.and_eq_true] at hwf
    have l1 := (by simpa [Nat.blt_eq] using hwf.1 : _ < a)
    have l2 := (by simpa [Nat.blt_eq] using hwf.2 : _ < a)
    split at hs
    ·rename_i x y hx hy i1 i2
     rw [Nat.ble_eq] at hs
     have := ((W l1 hx i1).sub (W l2 hy i2)).mono hs
     exact ⟨this.qs,fun _ => this.wh⟩
    ·rename_i x y hx hy _
     simp only [Bool.and_eq_true,Nat.ble_eq,Bool.not_eq_true'] at hs
     exact ⟨((ih _ l1 x hx).1.sub (ih _ l2 y hy).1).mono hs.1,no hs.2⟩
    ·cases hs
   ·simp only [List.all_cons,List.all_nil,Bool.and_true,Bool.and_eq_true] at hwf
    have l1 := (by simpa [Nat.blt_eq] using hwf.1 : _ < a)
    have l2 := (by simpa [Nat.blt_eq] using hwf.2 : _ < a)
    split at hs
    ·rename_i x y hx hy i1 i2
     rw [Nat.ble_eq] at hs
     have := ((W l1 hx i1).mul (W l2 hy i2)).mono hs
     exact ⟨this.qs,fun _ => this.wh⟩
    ·rename_i x y hx hy _
     simp only [Bool.and_eq_true,Nat.ble_eq,Bool.not_eq_true'] at hs
     exact ⟨((ih _ l1 x hx).1.mul (ih _ l2 y hy).1).mono hs.1,no hs.2⟩
    ·cases hs
   ·simp only [List.all_cons,List.all_nil,Bool.and_true] at hwf
    have l1 := (by simpa [Nat.blt_eq] using hwf : _ < a)
    split at hs
    ·rename_i x hx i1
     rw [Nat.ble_eq] at hs
     have := (W l1 hx i1).neg.mono hs
     exact ⟨this.qs,fun _ => this.wh⟩
    ·rename_i x hx _
     simp only [Bool.and_eq_true,Nat.ble_eq,Bool.not_eq_true'] at hs
     exact ⟨((ih _ l1 x hx).1.neg).mono hs.1,no hs.2⟩
    ·cases hs
   ·simp only [List.all_cons,List.all_nil,Bool.and_true,Bool.and_eq_true] at hwf
    split at hs
    ·rename_i x y hx hy
     simp only [Bool.and_eq_true,Nat.ble_eq,Bool.not_eq_true'] at hs
     exact ⟨((ih _ (by simpa [Nat.blt_eq] using hwf.1) x hx).1.div (ih _ (by simpa [Nat.blt_eq] using hwf.2) y hy).1).mono hs.1,no hs.2⟩
    ·cases hs
   ·rename_i i ys
    split at hs
    ·rename_i zs hzs
     rw [Bool.and_eq_true] at hs
     have hi : i < ys.length := by simpa [Nat.blt_eq] using hs.1
     have hwf' : ys.all (Nat.blt · a)=true := hwf
     rw [List.all_eq_true] at hwf'
     have hlt : ∀ c ∈ ys,c < a := fun c hc => by simpa [Nat.blt_eq] using hwf' c hc
     have hm : q ys[i] ∈ ys.map q := List.mem_map_of_mem (List.getElem_mem hi)
     have hg : (ys.map q).getD i 0=q ys[i] := by
      rw [List.getD_eq_getElem?_getD,List.getElem?_map,List.getElem?_eq_getElem hi]
      rfl
     show QS z ((ys.map q).getD i 0*fac (ys.map q))∧(some b=some true→((ys.map q).getD i 0*fac (ys.map q)).den=1)
     rw [hg]
     refine ⟨?_,fun _ => fac_den hm⟩
     rcases Bool.or_eq_true _ _ ▸ hs.2 with h3 | h3
     ·rw [Nat.ble_eq] at h3
      have hall : ∀ y ∈ ys.map q,QS (maxL zs) y := fun y hy => by
       obtain ⟨c,hc,rfl⟩ := List.mem_map.1 hy
       obtain ⟨z',hm',hz2⟩ := getsO_get hzs c hc
       exact (ih c (hlt c hc) z' hz2).1.mono (le_maxL z' hm')
      have := QS.facN hall (x := q ys[i]) hm
      rw [List.length_map] at this
      exact this.mono h3
     ·rw [Bool.and_eq_true,List.all_eq_true] at h3
      obtain ⟨h4,h5⟩ := h3
      have hwh : ∀ y ∈ ys.map q,y.den=1 := fun y hy => by
       obtain ⟨c,hc,rfl⟩ := List.mem_map.1 hy
       obtain ⟨z',_,hz2⟩ := getsO_get hzs c hc
       refine (ih c (hlt c hc) z' hz2).2 ?_
       have := h4 c hc
       split at this
       ·assumption
       ·cases this
      rw [List.getElem?_eq_getElem hi] at h5
      dsimp only at h5
      split at h5
      ·rename_i x hx
       rw [Nat.ble_eq] at h5
       exact (QW.fac (ih _ (hlt _ (List.getElem_mem hi)) x hx).1 hm hwh).mono h5
      ·cases h5
    ·cases hs
   ·cases hs
 refine ⟨fun a z h => (h2 a z h).1,fun a => ?_⟩
 have hl := szC_len hz
 by_cases ha : a < Z.length
 ·obtain ⟨nd,b,_,_,_,hle⟩ := szC_get hz (List.getElem?_eq_getElem ha)
  exact (h2 a _ (List.getElem?_eq_getElem ha)).1.mono hle
 ·rw [h0 a (by omega)]
  exact QS.zero.mono (by decide)
theorem hy_ofW {L C : List (List Nat × Nat)} {σ : Nat→ByteArray} {H : List (Nat × Nat × Nat × Nat)} (hσ : ∀ j,(σ j).size≤1048576) (hw : wfB 0 N=true) (hz : szC Z I N Z I=true) (hl : litB N L=true) (hcn : canB N C=true) (hq : ∀ (a : Nat) nd,N[a]? = some nd→q a=valN σ q nd) (h0 : ∀ a,N.length≤a→q a=0) (hH : hAll q H) : Hy N H L C Z q σ where
 nat := hq
 qs := (sizes_okW hσ hw hz hq h0).2
 zs := (sizes_okW hσ hw hz hq h0).1
 par := hσ
 lit := fun s b h => lit_rd hl hq h
 k0 := fun a r h => kn_at hH h
 k1 := fun a r h => kn_at hH h
 k2 := fun a r h => kn_at hH h
 k3 := fun a b r h => kn_at hH h
 k4 := fun l a b r h1 h2 => by
  have h3 : Nat.beq 1 r=true ↔ q a=q b := kn_at hH h2
  rw [h3,← can_tx hcn hq h1]
  exact ⟨fun e => by rw [e],fun e => tellS_inj (bytesN_inj e)⟩
 k6 := fun a b r h => kn_at hH h
 k5 := fun a r h => kn_at hH h
end
end Go.Proofs.YtobmjfjkpodhmaaGreatDoor
/- CFturned -/
namespace Go.Proofs.YtobmjfjkpodhmaaGreatDoor
open Go.RowKit Cx
theorem closed_turned : Closed 9 :=
 closed_told (N := [(0,[0,0,1]),(0,[0,1,1]),(0,[0,2,1]),(3,[2,0]),(3,[0,0]),(4,[3,3]),(4,[4,4]),(2,[5,6]),(6,[1,7]),(4,[3,8]),(4,[4,8]),(2,[0,9]),(2,[0,10]),(0,[1,2,1]),(4,[1,1]),(4,[0,0]),(2,[14,15]),(0,[0,4,1]),(4,[17,0]),(4,[18,13]),(3,[16,19]),(5,[0]),(2,[6,6]),(3,[22,1]),(5,[23]),(5,[21]),(5,[24]),(5,[1]),(4,[21,0]),(4,[25,0]),(4,[28,2]),(4,[29,2]),(4,[27,1]),(4,[21,25]),(2,[32,33]),(4,[27,21]),(4,[25,1]),(3,[35,36]),(2,[0,30]),(2,[0,31]),(2,[38,34]),(2,[39,37]),(5,[25]),(5,[42]),(4,[40,21]),(4,[41,43]),(2,[44,45]),(5,[41]),(4,[40,42]),(4,[47,21]),(3,[48,49]),(4,[21,1]),(4,[25,42]),(2,[51,52]),(4,[42,1]),(3,[33,54]),(4,[27,13]),(4,[21,13]),(4,[56,2]),(4,[57,2]),(2,[0,53]),(2,[0,55]),(2,[60,58]),(2,[61,59]),(4,[62,27]),(4,[63,42]),(2,[64,65]),(5,[63]),(4,[62,25]),(4,[67,27]),(3,[68,69]),(2,[46,66]),(2,[50,70]),(4,[26,0]),(4,[73,2]),(4,[0,1]),(4,[0,25]),(2,[75,76]),(4,[0,21]),(3,[78,51]),(2,[0,74]),(2,[80,77]),(2,[38,79]),(4,[81,21]),(4,[82,43]),(2,[83,84]),(5,[82]),(4,[81,42]),(4,[86,21]),(3,[87,88]),(4,[26,1]),(4,[21,42]),(2,[90,91]),(4,[26,25]),(3,[93,36]),(4,[0,13]),(4,[95,2]),(2,[0,92]),(2,[0,94]),(2,[97,96]),(2,[98,96]),(4,[99,27]),(4,[100,42]),(2,[101,102]),(5,[100]),(4,[99,25]),(4,[104,27]),(3,[105,106]),(2,[85,103]),(2,[89,107]),(4,[108,2]),(4,[109,2]),(4,[81,26]),(4,[82,42]),(2,[112,113]),(4,[81,25]),(4,[86,26]),(3,[115,116]),(4,[99,0]),(4,[100,25]),(2,[118,119]),(4,[99,21]),(4,[104,0]),(3,[121,122]),(2,[114,120]),(2,[117,123]),(8,[0,71,110,111,124]),(8,[1,71,110,111,124]),(8,[2,71,110,111,124]),(8,[3,71,110,111,124]),(3,[1,0]),(3,[0,1]),(4,[130,0]),(4,[131,21]),(2,[132,133]),(5,[131]),(4,[135,0]),(3,[132,136]),(5,[134]),(5,[137]),(4,[4,27]),(2,[132,140]),(5,[4]),(4,[130,1]),(4,[142,0]),(3,[143,144]),(5,[141]),(5,[145]),(5,[138]),(5,[139]),(5,[130]),(4,[146,130]),(4,[147,135]),(2,[151,152]),(5,[147]),(4,[146,131]),(4,[154,130]),(3,[155,156]),(4,[148,130]),(4,[149,142]),(2,[158,159]),(5,[149]),(4,[148,4]),(4,[161,130]),(3,[162,163]),(2,[153,160]),(2,[157,164]),(4,[146,138]),(4,[147,149]),(2,[167,168]),(4,[146,139]),(4,[154,138]),(3,[170,171]),(4,[148,146]),(4,[149,154]),(2,[173,174]),(4,[148,147]),(4,[161,146]),(3,[176,177]),(2,[169,175]),(2,[172,178]),(4,[150,130]),(4,[142,135]),(2,[181,182]),(5,[142]),(4,[150,131]),(4,[184,130]),(3,[185,186]),(4,[130,130]),(4,[131,142]),(2,[188,189]),(4,[130,4]),(4,[135,130]),(3,[191,192]),(2,[183,190]),(2,[187,193]),(4,[150,138]),(4,[142,149]),(2,[196,197]),(4,[150,139]),(4,[184,138]),(3,[199,200]),(4,[130,146]),(4,[131,154]),(2,[202,203]),(4,[130,147]),(4,[135,146]),(3,[205,206]),(2,[198,204]),(2,[201,207]),(5,[166]),(5,[210]),(4,[165,165]),(4,[166,211]),(2,[212,213]),(4,[165,210]),(4,[210,165]),(3,[215,216]),(4,[166,166]),(2,[212,218]),(6,[214,219]),(6,[217,219]),(4,[179,165]),(4,[180,211]),(2,[222,223]),(5,[180]),(4,[179,210]),(4,[225,165]),(3,[226,227]),(6,[224,219]),(6,[228,219]),(4,[194,165]),(4,[195,211]),(2,[231,232]),(5,[195]),(4,[194,210]),(4,[234,165]),(3,[235,236]),(6,[233,219]),(6,[237,219]),(4,[208,165]),(4,[209,211]),(2,[240,241]),(5,[209]),(4,[208,210]),(4,[243,165]),(3,[244,245]),(6,[242,219]),(6,[246,219]),(0,[0,1,2]),(0,[1,1,1])]) (H := [(2,1,0,1),(0,3,0,0),(2,20,0,1),(0,130,0,0),(0,4,0,1),(0,131,0,0),(0,165,0,0),(4,11,249,1),(4,12,0,1),(4,126,2,1),(4,127,250,1),(4,128,0,1),(4,129,0,1),(4,220,1,1),(4,221,0,1),(4,229,0,1),(4,230,0,1),(4,238,0,1),(4,239,0,1),(4,247,1,1),(4,248,0,1)]) (K := [(138,[.inr (3,76,0,0,0),.inr (3,86,0,0,0)]),(75,[.inr (3,560,0,0,0),.inr (3,561,0,0,0)]),(77,[.inr (3,691,0,0,0),.inr (3,693,0,0,0)])]) (L := [([48],0),([49],1),([50],2),([45,50],13),([49,47,50],249),([45,49],250)]) (C := [([49,47,50],249),([48],0),([50],2),([45,49],250),([49],1)]) (Z := [2,2,3,6,5,12,10,23,25,31,30,34,33,3,4,4,9,4,6,9,19,2,21,24,24,2,24,2,4,4,7,7,4,4,9,4,4,9,10,10,20,20,2,2,22,22,45,20,22,22,45,4,4,9,4,9,5,5,8,8,12,12,21,21,23,23,47,21,23,23,47,93,93,26,29,4,4,9,4,9,32,42,20,44,22,67,20,44,22,67,26,4,31,26,31,5,8,34,34,43,43,45,45,91,43,45,45,91,159,159,162,162,66,22,89,44,44,89,45,45,91,45,45,91,181,181,906,906,906,906,5,5,7,7,15,5,7,15,15,15,7,15,5,7,7,15,15,15,15,15,5,20,20,41,15,20,20,41,20,20,41,15,20,20,41,83,83,30,30,61,30,30,61,30,30,61,30,30,61,123,123,10,10,21,5,10,10,21,10,10,21,10,10,21,43,43,20,20,41,20,20,41,20,20,41,20,20,41,83,83,83,83,166,166,333,166,166,333,166,333,666,666,206,206,413,123,206,206,413,746,746,126,126,253,43,126,126,253,586,586,166,166,333,83,166,166,333,666,666,3,2]) (cl := []) 8 (fun _ h => by cases h) (by kernel_rfl) (by kernel_rfl) (by kernel_rfl) (by kernel_rfl) (by kernel_rfl) (by kernel_rfl) (by kernel_rfl)
end Go.Proofs.YtobmjfjkpodhmaaGreatDoor
/- MTH -/
namespace Go.Proofs.YtobmjfjkpodhmaaGreatDoor
open Go.RowKit Cx
def turnThree_N : List Nd := [(1,[0]),(1,[1]),(1,[2]),(1,[3]),(1,[4]),(1,[5]),(3,[2,0]),(3,[3,1]),(3,[0,2]),(3,[1,3]),(3,[4,0]),(3,[5,1]),(3,[2,4]),(3,[3,5]),(3,[0,4]),(3,[1,5]),(3,[4,2]),(3,[5,3]),(5,[1]),(4,[12,0]),(4,[13,18]),(2,[19,20]),(5,[13]),(4,[12,1]),(4,[22,0]),(3,[23,24]),(5,[21]),(5,[25]),(5,[5]),(4,[6,4]),(4,[7,28]),(2,[29,30]),(5,[7]),(4,[6,5]),(4,[32,4]),(3,[33,34]),(5,[31]),(5,[35]),(1,[6]),(1,[7]),(1,[8]),(1,[9]),(1,[10]),(1,[11]),(3,[40,38]),(3,[41,39]),(3,[38,40]),(3,[39,41]),(3,[42,38]),(3,[43,39]),(3,[40,42]),(3,[41,43]),(3,[38,42]),(3,[39,43]),(3,[42,40]),(3,[43,41]),(5,[39]),(4,[50,38]),(4,[51,56]),(2,[57,58]),(5,[51]),(4,[50,39]),(4,[60,38]),(3,[61,62]),(5,[59]),(5,[63]),(5,[43]),(4,[44,42]),(4,[45,66]),(2,[67,68]),(5,[45]),(4,[44,43]),(4,[70,42]),(3,[71,72]),(5,[69]),(5,[73]),(5,[64]),(5,[65]),(5,[44]),(4,[74,12]),(4,[75,22]),(2,[79,80]),(5,[75]),(4,[74,13]),(4,[82,12]),(3,[83,84]),(4,[76,6]),(4,[77,32]),(2,[86,87]),(5,[77]),(4,[76,7]),(4,[89,6]),(3,[90,91]),(2,[81,88]),(2,[85,92]),(5,[27]),(4,[74,26]),(4,[75,95]),(2,[96,97]),(4,[74,27]),(4,[82,26]),(3,[99,100]),(5,[37]),(4,[76,36]),(4,[77,102]),(2,[103,104]),(4,[76,37]),(4,[89,36]),(3,[106,107]),(2,[98,105]),(2,[101,108]),(4,[78,12]),(4,[70,22]),(2,[111,112]),(5,[70]),(4,[78,13]),(4,[114,12]),(3,[115,116]),(4,[50,6]),(4,[51,32]),(2,[118,119]),(4,[50,7]),(4,[60,6]),(3,[121,122]),(2,[113,120]),(2,[117,123]),(4,[78,26]),(4,[70,95]),(2,[126,127]),(4,[78,27]),(4,[114,26]),(3,[129,130]),(4,[50,36]),(4,[51,102]),(2,[132,133]),(4,[50,37]),(4,[60,36]),(3,[135,136]),(2,[128,134]),(2,[131,137]),(5,[110]),(5,[140]),(4,[93,109]),(4,[94,141]),(2,[142,143]),(5,[94]),(4,[93,140]),(4,[145,109]),(3,[146,147]),(4,[109,109]),(4,[110,110]),(2,[149,150]),(6,[144,151]),(6,[148,151]),(4,[110,141]),(2,[149,154]),(4,[109,140]),(4,[140,109]),(3,[156,157]),(6,[155,151]),(6,[158,151]),(4,[124,109]),(4,[125,141]),(2,[161,162]),(5,[125]),(4,[124,140]),(4,[164,109]),(3,[165,166]),(6,[163,151]),(6,[167,151]),(4,[138,109]),(4,[139,141]),(2,[170,171]),(5,[139]),(4,[138,140]),(4,[173,109]),(3,[174,175]),(6,[172,151]),(6,[176,151]),(4,[152,0]),(4,[153,1]),(3,[179,180]),(4,[152,1]),(4,[153,0]),(2,[182,183]),(2,[181,159]),(2,[184,160]),(4,[168,0]),(4,[169,1]),(3,[187,188]),(4,[168,1]),(4,[169,0]),(2,[190,191]),(2,[189,177]),(2,[192,178]),(4,[193,38]),(4,[194,39]),(3,[195,196]),(4,[193,39]),(4,[194,38]),(2,[198,199]),(3,[185,197]),(3,[186,200]),(4,[152,2]),(4,[153,3]),(3,[203,204]),(4,[152,3]),(4,[153,2]),(2,[206,207]),(2,[205,159]),(2,[208,160]),(4,[168,2]),(4,[169,3]),(3,[211,212]),(4,[168,3]),(4,[169,2]),(2,[214,215]),(2,[213,177]),(2,[216,178]),(4,[217,40]),(4,[218,41]),(3,[219,220]),(4,[217,41]),(4,[218,40]),(2,[222,223]),(3,[209,221]),(3,[210,224]),(4,[152,4]),(4,[153,5]),(3,[227,228]),(4,[152,5]),(4,[153,4]),(2,[230,231]),(2,[229,159]),(2,[232,160]),(4,[168,4]),(4,[169,5]),(3,[235,236]),(4,[168,5]),(4,[169,4]),(2,[238,239]),(2,[237,177]),(2,[240,178]),(4,[241,42]),(4,[242,43]),(3,[243,244]),(4,[241,43]),(4,[242,42]),(2,[246,247]),(3,[233,245]),(3,[234,248]),(4,[152,177]),(4,[153,178]),(3,[251,252]),(4,[152,178]),(4,[153,177]),(2,[254,255]),(4,[159,168]),(4,[160,169]),(3,[257,258]),(4,[159,169]),(4,[160,168]),(2,[260,261]),(3,[253,259]),(3,[256,262]),(0,[0,1,1]),(5,[145]),(4,[93,93]),(4,[94,266]),(2,[267,268]),(4,[93,145]),(4,[145,93]),(3,[270,271]),(4,[94,94]),(2,[267,273]),(6,[269,274]),(6,[272,274]),(4,[109,93]),(4,[110,266]),(2,[277,278]),(4,[109,145]),(4,[140,93]),(3,[280,281]),(6,[279,274]),(6,[282,274]),(4,[124,93]),(4,[125,266]),(2,[285,286]),(4,[124,145]),(4,[164,93]),(3,[288,289]),(6,[287,274]),(6,[290,274]),(4,[138,93]),(4,[139,266]),(2,[293,294]),(4,[138,145]),(4,[173,93]),(3,[296,297]),(6,[295,274]),(6,[298,274]),(4,[275,0]),(4,[276,1]),(3,[301,302]),(4,[275,1]),(4,[276,0]),(2,[304,305]),(2,[303,283]),(2,[306,284]),(4,[291,0]),(4,[292,1]),(3,[309,310]),(4,[291,1]),(4,[292,0]),(2,[312,313]),(2,[311,299]),(2,[314,300]),(4,[315,38]),(4,[316,39]),(3,[317,318]),(4,[315,39]),(4,[316,38]),(2,[320,321]),(3,[307,319]),(3,[308,322]),(4,[275,2]),(4,[276,3]),(3,[325,326]),(4,[275,3]),(4,[276,2]),(2,[328,329]),(2,[327,283]),(2,[330,284]),(4,[291,2]),(4,[292,3]),(3,[333,334]),(4,[291,3]),(4,[292,2]),(2,[336,337]),(2,[335,299]),(2,[338,300]),(4,[339,40]),(4,[340,41]),(3,[341,342]),(4,[339,41]),(4,[340,40]),(2,[344,345]),(3,[331,343]),(3,[332,346]),(4,[275,4]),(4,[276,5]),(3,[349,350]),(4,[275,5]),(4,[276,4]),(2,[352,353]),(2,[351,283]),(2,[354,284]),(4,[291,4]),(4,[292,5]),(3,[357,358]),(4,[291,5]),(4,[292,4]),(2,[360,361]),(2,[359,299]),(2,[362,300]),(4,[363,42]),(4,[364,43]),(3,[365,366]),(4,[363,43]),(4,[364,42]),(2,[368,369]),(3,[355,367]),(3,[356,370]),(4,[275,299]),(4,[276,300]),(3,[373,374]),(4,[275,300]),(4,[276,299]),(2,[376,377]),(4,[283,291]),(4,[284,292]),(3,[379,380]),(4,[283,292]),(4,[284,291]),(2,[382,383]),(3,[375,381]),(3,[378,384])]
def turnThree_L : List (List Nat × Nat) := []
def turnThree_C : List (List Nat × Nat) := []
def turnThree_Z : List Nat := [3495259,3495259,3495259,3495259,3495259,3495259,6990519,6990519,6990519,6990519,6990519,6990519,6990519,6990519,6990519,6990519,6990519,6990519,3495259,10485778,10485778,20971557,6990519,10485778,10485778,20971557,20971557,20971557,3495259,10485778,10485778,20971557,6990519,10485778,10485778,20971557,20971557,20971557,3495259,3495259,3495259,3495259,3495259,3495259,6990519,6990519,6990519,6990519,6990519,6990519,6990519,6990519,6990519,6990519,6990519,6990519,3495259,10485778,10485778,20971557,6990519,10485778,10485778,20971557,20971557,20971557,3495259,10485778,10485778,20971557,6990519,10485778,10485778,20971557,20971557,20971557,20971557,20971557,6990519,27962076,27962076,55924153,20971557,27962076,27962076,55924153,27962076,27962076,55924153,20971557,27962076,27962076,55924153,111848307,111848307,20971557,41943114,41943114,83886229,41943114,41943114,83886229,20971557,41943114,41943114,83886229,41943114,41943114,83886229,167772459,167772459,13981038,13981038,27962077,6990519,13981038,13981038,27962077,13981038,13981038,27962077,13981038,13981038,27962077,55924155,55924155,27962076,27962076,55924153,27962076,27962076,55924153,27962076,27962076,55924153,27962076,27962076,55924153,111848307,111848307,167772459,167772459,279620766,279620766,559241533,111848307,279620766,279620766,559241533,335544918,335544918,671089837,1230331370,1230331370,335544918,671089837,335544918,335544918,671089837,1342179674,1342179674,223696614,223696614,447393229,55924155,223696614,223696614,447393229,1118483066,1118483066,279620766,279620766,559241533,111848307,279620766,279620766,559241533,1230331370,1230331370,1233826629,1233826629,2467653259,1233826629,1233826629,2467653259,3809832934,3809832934,1121978325,1121978325,2243956651,1121978325,1121978325,2243956651,3474288022,3474288022,3477783281,3477783281,6955566563,3477783281,3477783281,6955566563,10765399498,10765399498,1233826629,1233826629,2467653259,1233826629,1233826629,2467653259,3809832934,3809832934,1121978325,1121978325,2243956651,1121978325,1121978325,2243956651,3474288022,3474288022,3477783281,3477783281,6955566563,3477783281,3477783281,6955566563,10765399498,10765399498,1233826629,1233826629,2467653259,1233826629,1233826629,2467653259,3809832934,3809832934,1121978325,1121978325,2243956651,1121978325,1121978325,2243956651,3474288022,3474288022,3477783281,3477783281,6955566563,3477783281,3477783281,6955566563,10765399498,10765399498,2460662740,2460662740,4921325481,2460662740,2460662740,4921325481,2460662740,2460662740,4921325481,2460662740,2460662740,4921325481,9842650963,9842650963,2,111848307,223696614,223696614,447393229,223696614,223696614,447393229,223696614,447393229,894786458,894786458,279620766,279620766,559241533,279620766,279620766,559241533,1006634762,1006634762,167772462,167772462,335544925,167772462,167772462,335544925,782938154,782938154,223696614,223696614,447393229,223696614,223696614,447393229,894786458,894786458,898281717,898281717,1796563435,898281717,898281717,1796563435,2803198198,2803198198,786433413,786433413,1572866827,786433413,786433413,1572866827,2467653286,2467653286,2471148545,2471148545,4942297091,2471148545,2471148545,4942297091,7745495290,7745495290,898281717,898281717,1796563435,898281717,898281717,1796563435,2803198198,2803198198,786433413,786433413,1572866827,786433413,786433413,1572866827,2467653286,2467653286,2471148545,2471148545,4942297091,2471148545,2471148545,4942297091,7745495290,7745495290,898281717,898281717,1796563435,898281717,898281717,1796563435,2803198198,2803198198,786433413,786433413,1572866827,786433413,786433413,1572866827,2467653286,2467653286,2471148545,2471148545,4942297091,2471148545,2471148545,4942297091,7745495290,7745495290,1789572916,1789572916,3579145833,1789572916,1789572916,3579145833,1789572916,1789572916,3579145833,1789572916,1789572916,3579145833,7158291667,7158291667]
abbrev turnThree_Q (q : Nat→Rat) (σ : Nat→ByteArray) : Prop := ∀ (a : Nat) nd,turnThree_N[a]? = some nd→q a=valN σ q nd
variable {q : Nat→Rat} {σ : Nat→ByteArray}
def turnThree_I : List Bool := [false,false,false,false,false,false,false,false,false,false,false,false,false,false,false,false,false,false,false,false,false,false,false,false,false,false,false,false,false,false,false,false,false,false,false,false,false,false,false,false,false,false,false,false,false,false,false,false,false,false,false,false,false,false,false,false,false,false,false,false,false,false,false,false,false,false,false,false,false,false,false,false,false,false,false,false,false,false,false,false,false,false,false,false,false,false,false,false,false,false,false,false,false,false,false,false,false,false,false,false,false,false,false,false,false,false,false,false,false,false,false,false,false,false,false,false,false,false,false,false,false,false,false,false,false,false,false,false,false,false,false,false,false,false,false,false,false,false,false,false,false,false,false,false,false,false,false,false,false,false,false,false,false,false,false,false,false,false,false,false,false,false,false,false,false,false,false,false,false,false,false,false,false,false,false,false,false,false,false,false,false,false,false,false,false,false,false,false,false,false,false,false,false,false,false,false,false,false,false,false,false,false,false,false,false,false,false,false,false,false,false,false,false,false,false,false,false,false,false,false,false,false,false,false,false,false,false,false,false,false,false,false,false,false,false,false,false,false,false,false,false,false,false,false,false,false,false,false,false,false,false,false,false,false,false,false,false,false,false,false,false,false,false,false,false,true,false,false,false,false,false,false,false,false,false,false,false,false,false,false,false,false,false,false,false,false,false,false,false,false,false,false,false,false,false,false,false,false,false,false,false,false,false,false,false,false,false,false,false,false,false,false,false,false,false,false,false,false,false,false,false,false,false,false,false,false,false,false,false,false,false,false,false,false,false,false,false,false,false,false,false,false,false,false,false,false,false,false,false,false,false,false,false,false,false,false,false,false,false,false,false,false,false,false,false,false,false,false,false,false,false,false,false,false,false,false,false,false,false,false,false,false,false,false,false,false,false]
theorem turnThree_wf : wfB 0 turnThree_N=true := by kernel_rfl
theorem turnThree_sz : szC turnThree_Z turnThree_I turnThree_N turnThree_Z turnThree_I=true := by kernel_rfl
theorem turnThree_lt : litB turnThree_N turnThree_L=true := by kernel_rfl
theorem turnThree_cn : canB turnThree_N turnThree_C=true := by kernel_rfl
theorem turnThree_c265 : cst 0 1 1=(1 : Rat) := by decide +kernel
def turnThree_A : List AV := [(false,[(true,[.inr (2,0,0,0,0),.inr (2,1,0,0,0),.inr (2,2,0,0,0),.inr (2,3,0,0,0),.inr (2,4,0,0,0),.inr (2,5,0,0,0)])]),(false,[(true,[.inr (2,6,0,0,0),.inr (2,7,0,0,0),.inr (2,8,0,0,0),.inr (2,9,0,0,0),.inr (2,10,0,0,0),.inr (2,11,0,0,0)])])]
theorem tt_q {a b c d e f g h l m n x y p q A A' B B' C C' D D' : Rat} (hA : A=(a*l+b*m) / n) (hA' : A'=(b*l - a*m) / n) (hB : B=(c*l+d*m) / n) (hB' : B'=(d*l - c*m) / n) (hC : C=(e*l+f*m) / n) (hC' : C'=(f*l - e*m) / n) (hD : D=(g*l+h*m) / n) (hD' : D'=(h*l - g*m) / n)
  (E1 : a*x - b*y+c=(e*x - f*y+g)*p - (e*y+f*x+h)*q) (E2 : a*y+b*x+d=(e*x - f*y+g)*q+(e*y+f*x+h)*p) :
  A*x - A'*y+B - ((C*x - C'*y+D)*p - (C*y+C'*x+D')*q)=0∧A*y+A'*x+B' - ((C*x - C'*y+D)*q+(C*y+C'*x+D')*p)=0 := by
 rw [Rat.div_def] at hA hA' hB hB' hC hC' hD hD'
 generalize n⁻¹=i at *
 have k1 : A*x - A'*y+B - ((C*x - C'*y+D)*p - (C*y+C'*x+D')*q)=i*(l*(a*x - b*y+c - ((e*x - f*y+g)*p - (e*y+f*x+h)*q))+m*(a*y+b*x+d - ((e*x - f*y+g)*q+(e*y+f*x+h)*p))) := by
  subst hA hA' hB hB' hC hC' hD hD'
  clear E1 E2
  grind
 have k2 : A*y+A'*x+B' - ((C*x - C'*y+D)*q+(C*y+C'*x+D')*p)=i*(l*(a*y+b*x+d - ((e*x - f*y+g)*q+(e*y+f*x+h)*p)) - m*(a*x - b*y+c - ((e*x - f*y+g)*p - (e*y+f*x+h)*q))) := by
  subst hA hA' hB hB' hC hC' hD hD'
  clear E1 E2 k1
  grind
 rw [k1,k2,E1,E2]
 clear k1 k2 E1 E2 hA hA' hB hB' hC hC' hD hD'
 constructor <;> grind
theorem tt_u {a b l m n A A' : Rat} (hn : n ≠ 0) (en : n=l*l+m*m) (hA : A=(a*l+b*m) / n) (hA' : A'=(b*l - a*m) / n) : a=A*l - A'*m∧b=A*m+A'*l := by
 have h1 : A*n=a*l+b*m := by rw [hA]; exact Rat.div_mul_cancel hn
 have h2 : A'*n=b*l - a*m := by rw [hA']; exact Rat.div_mul_cancel hn
 have k1 : (a - (A*l - A'*m))*n=0 := by
  have : (a - (A*l - A'*m))*n=a*n - (A*n)*l+(A'*n)*m := by clear h1 h2 hA hA' en; grind
  rw [this,h1,h2,en]; clear h1 h2 hA hA' en hn; grind
 have k2 : (b - (A*m+A'*l))*n=0 := by
  have : (b - (A*m+A'*l))*n=b*n - (A*n)*m - (A'*n)*l := by clear h1 h2 hA hA' en k1; grind
  rw [this,h1,h2,en]; clear h1 h2 hA hA' en hn k1; grind
 have j1 := (Rat.mul_eq_zero.1 k1).resolve_right hn
 have j2 := (Rat.mul_eq_zero.1 k2).resolve_right hn
 clear h1 h2 k1 k2 hA hA' en
 constructor <;> grind
theorem tt_d {a b c d e f g h l m n A A' B B' C C' D D' : Rat} (hn : n ≠ 0) (en : n=l*l+m*m) (hA : A=(a*l+b*m) / n) (hA' : A'=(b*l - a*m) / n) (hB : B=(c*l+d*m) / n) (hB' : B'=(d*l - c*m) / n) (hC : C=(e*l+f*m) / n) (hC' : C'=(f*l - e*m) / n) (hD : D=(g*l+h*m) / n) (hD' : D'=(h*l - g*m) / n)
  (hz : ¬ (a*g - b*h - (c*e - d*f)=0∧a*h+b*g - (c*f+d*e)=0)) : ¬ (A*D - A'*D' - (B*C - B'*C')=0∧A*D'+A'*D - (B*C'+B'*C)=0) := by
 rintro ⟨k1,k2⟩
 have ⟨a1,a2⟩ := tt_u hn en hA hA'
 have ⟨b1,b2⟩ := tt_u hn en hB hB'
 have ⟨c1,c2⟩ := tt_u hn en hC hC'
 have ⟨d1,d2⟩ := tt_u hn en hD hD'
 clear hA hA' hB hB' hC hC' hD hD' en hn
 apply hz
 have j1 : a*g - b*h - (c*e - d*f)=(l*l - m*m)*(A*D - A'*D' - (B*C - B'*C')) - 2*l*m*(A*D'+A'*D - (B*C'+B'*C)) := by
  rw [a1,a2,b1,b2,c1,c2,d1,d2]; clear a1 a2 b1 b2 c1 c2 d1 d2 k1 k2 hz; grind
 have j2 : a*h+b*g - (c*f+d*e)=(l*l - m*m)*(A*D'+A'*D - (B*C'+B'*C))+2*l*m*(A*D - A'*D' - (B*C - B'*C')) := by
  rw [a1,a2,b1,b2,c1,c2,d1,d2]; clear a1 a2 b1 b2 c1 c2 d1 d2 k1 k2 hz j1; grind
 rw [j1,j2,k1,k2]
 clear a1 a2 b1 b2 c1 c2 d1 d2 k1 k2 hz j1 j2
 constructor <;> grind
theorem tt_six {a b c d e f g h i j k l : Rat} (h1 : ¬ (a=0∧b=0)) (h2 : ¬ (c=0∧d=0)) (h3 : ¬ (e=0∧f=0)) (h4 : ¬ (g=0∧h=0)) (h5 : ¬ (i=0∧j=0)) (h6 : ¬ (k=0∧l=0)) {X Y : Rat} (hX : X=((a*c - b*d)*e - (a*d+b*c)*f)*((g*i - h*j)*k - (g*j+h*i)*l) - ((a*c - b*d)*f+(a*d+b*c)*e)*((g*i - h*j)*l+(g*j+h*i)*k)) (hY : Y=((a*c - b*d)*e - (a*d+b*c)*f)*((g*i - h*j)*l+(g*j+h*i)*k)+((a*c - b*d)*f+(a*d+b*c)*e)*((g*i - h*j)*k - (g*j+h*i)*l)) : ¬ (X=0∧Y=0) :=
 cmul_ne (cmul_ne (cmul_ne h1 h2 rfl rfl) h3 rfl rfl) (cmul_ne (cmul_ne h4 h5 rfl rfl) h6 rfl rfl) hX hY
theorem tt_det {a b c d e f g h A B C D E F G H : Rat} : (G*a - H*b - (C*e - D*f))*(-(E*c - F*d)+(A*g - B*h)) - (G*b+H*a - (C*f+D*e))*(-(E*d+F*c)+(A*h+B*g)) - ((G*c - H*d - (C*g - D*h))*(-(E*a - F*b)+(A*e - B*f)) - (G*d+H*c - (C*h+D*g))*(-(E*b+F*a)+(A*f+B*e)))=((a*g - b*h) - (c*e - d*f))*((A*G - B*H) - (C*E - D*F)) - ((a*h+b*g) - (c*f+d*e))*((A*H+B*G) - (C*F+D*E))∧(G*a - H*b - (C*e - D*f))*(-(E*d+F*c)+(A*h+B*g))+(G*b+H*a - (C*f+D*e))*(-(E*c - F*d)+(A*g - B*h)) - ((G*c - H*d - (C*g - D*h))*(-(E*b+F*a)+(A*f+B*e))+(G*d+H*c - (C*h+D*g))*(-(E*a - F*b)+(A*e - B*f)))=((a*g - b*h) - (c*e - d*f))*((A*H+B*G) - (C*F+D*E))+((a*h+b*g) - (c*f+d*e))*((A*G - B*H) - (C*E - D*F)) := by
 constructor <;> grind
theorem tt_n (a b l m : Rat) : a*-m - -b*l=b*l - a*m := by grind
theorem turnThree_D {z0 z1 z2 z3 z4 z5 z6 z7 z10 z11 z12 z13 z16 z17 z18 z19 z20 z21 z22 z23 z24 z25 z26 z27 z28 z29 z30 z31 z32 z33 z34 z35 z36 z37 z38 z39 z40 z41 z42 z43 z44 z45 z48 z49 z50 z51 z54 z55 z56 z57 z58 z59 z60 z61 z62 z63 z64 z65 z66 z67 z68 z69 z70 z71 z72 z73 z74 z75 z76 z77 z78 z79 z80 z81 z82 z83 z84 z85 z86 z87 z88 z89 z90 z91 z92 z93 z94 z95 z96 z97 z98 z99 z100 z101 z102 z103 z104 z105 z106 z107 z108 z109 z110 z111 z112 z113 z114 z115 z116 z117 z118 z119 z120 z121 z122 z123 z124 z125 z126 z127 z128 z129 z130 z131 z132 z133 z134 z135 z136 z137 z138 z139 : Rat} : z6=z2 - z0→z7=z3 - z1→z10=z4 - z0→z11=z5 - z1→z12=z2 - z4→z13=z3 - z5→z16=z4 - z2→z17=z5 - z3→z18=-z1→z19=z12*z0→z20=z13*z18→z21=z19+z20→z22=-z13→z23=z12*z1→z24=z22*z0→z25=z23 - z24→z26=-z21→z27=-z25→z28=-z5→z29=z6*z4→z30=z7*z28→z31=z29+z30→z32=-z7→z33=z6*z5→z34=z32*z4→z35=z33 - z34→z36=-z31→z37=-z35→z44=z40 - z38→z45=z41 - z39→z48=z42 - z38→z49=z43 - z39→z50=z40 - z42→z51=z41 - z43→z54=z42 - z40→z55=z43 - z41→z56=-z39→z57=z50*z38→z58=z51*z56→z59=z57+z58→z60=-z51→z61=z50*z39→z62=z60*z38→z63=z61 - z62→z64=-z59→z65=-z63→z66=-z43→z67=z44*z42→z68=z45*z66→z69=z67+z68→z70=-z45→z71=z44*z43→z72=z70*z42→z73=z71 - z72→z74=-z69→z75=-z73→z76=-z64→z77=-z65→z78=-z44→z79=z74*z12→z80=z75*z22→z81=z79+z80→z82=-z75→z83=z74*z13→z84=z82*z12→z85=z83 - z84→z86=z76*z6→z87=z77*z32→z88=z86+z87→z89=-z77→z90=z76*z7→z91=z89*z6→z92=z90 - z91→z93=z81+z88→z94=z85+z92→z95=-z27→z96=z74*z26→z97=z75*z95→z98=z96+z97→z99=z74*z27→z100=z82*z26→z101=z99 - z100→z102=-z37→z103=z76*z36→z104=z77*z102→z105=z103+z104→z106=z76*z37→z107=z89*z36→z108=z106 - z107→z109=z98+z105→z110=z101+z108→z111=z78*z12→z112=z70*z22→z113=z111+z112→z114=-z70→z115=z78*z13→z116=z114*z12→z117=z115 - z116→z118=z50*z6→z119=z51*z32→z120=z118+z119→z121=z50*z7→z122=z60*z6→z123=z121 - z122→z124=z113+z120→z125=z117+z123→z126=z78*z26→z127=z70*z95→z128=z126+z127→z129=z78*z27→z130=z114*z26→z131=z129 - z130→z132=z50*z36→z133=z51*z102→z134=z132+z133→z135=z50*z37→z136=z60*z36→z137=z135 - z136→z138=z128+z134→z139=z131+z137→¬ (z6=0∧z7=0)→¬ (z10=0∧z11=0)→¬ (z16=0∧z17=0)→¬ (z44=0∧z45=0)→¬ (z48=0∧z49=0)→¬ (z54=0∧z55=0)→(¬ (z93*z138 - z94*z139 - (z109*z124 - z110*z125)=0∧z93*z139+z94*z138 - (z109*z125+z110*z124)=0)) := by
 intro e6 e7 e10 e11 e12 e13 e16 e17 e18 e19 e20 e21 e22 e23 e24 e25 e26 e27 e28 e29 e30 e31 e32 e33 e34 e35 e36 e37 e44 e45 e48 e49 e50 e51 e54 e55 e56 e57 e58 e59 e60 e61 e62 e63 e64 e65 e66 e67 e68 e69 e70 e71 e72 e73 e74 e75 e76 e77 e78 e79 e80 e81 e82 e83 e84 e85 e86 e87 e88 e89 e90 e91 e92 e93 e94 e95 e96 e97 e98 e99 e100 e101 e102 e103 e104 e105 e106 e107 e108 e109 e110 e111 e112 e113 e114 e115 e116 e117 e118 e119 e120 e121 e122 e123 e124 e125 e126 e127 e128 e129 e130 e131 e132 e133 e134 e135 e136 e137 e138 e139 u0 u1 u2 u3 u4 u5
 have m93 : z93=z74*z12 - z75*z13 - (z64*z6 - z65*z7) := by
  rw [e93,e88,e87,e86,e81,e80,e79,e77,e76,e32,e22]
  clear u0 u1 u2 u3 u4 u5 
  grind
 have m94 : z94=z74*z13+z75*z12 - (z64*z7+z65*z6) := by
  rw [e94,e92,e91,e90,e89,e85,e84,e83,e82,e77,e76]
  clear u0 u1 u2 u3 u4 u5 m93
  grind
 have m109 : z109=z74*z26 - z75*z27 - (z64*z36 - z65*z37) := by
  rw [e109,e105,e104,e103,e102,e98,e97,e96,e95,e77,e76]
  clear u0 u1 u2 u3 u4 u5 m93 m94
  grind
 have m110 : z110=z74*z27+z75*z26 - (z64*z37+z65*z36) := by
  rw [e110,e108,e107,e106,e101,e100,e99,e89,e82,e77,e76]
  clear u0 u1 u2 u3 u4 u5 m93 m94 m109
  grind
 have m124 : z124=-(z44*z12 - z45*z13)+(z50*z6 - z51*z7) := by
  rw [e124,e120,e119,e118,e113,e112,e111,e78,e70,e32,e22]
  clear u0 u1 u2 u3 u4 u5 m93 m94 m109 m110
  grind
 have m125 : z125=-(z44*z13+z45*z12)+(z50*z7+z51*z6) := by
  rw [e125,e123,e122,e121,e117,e116,e115,e114,e78,e70,e60]
  clear u0 u1 u2 u3 u4 u5 m93 m94 m109 m110 m124
  grind
 have m138 : z138=-(z44*z26 - z45*z27)+(z50*z36 - z51*z37) := by
  rw [e138,e134,e133,e132,e128,e127,e126,e102,e95,e78,e70]
  clear u0 u1 u2 u3 u4 u5 m93 m94 m109 m110 m124 m125
  grind
 have m139 : z139=-(z44*z27+z45*z26)+(z50*z37+z51*z36) := by
  rw [e139,e137,e136,e135,e131,e130,e129,e114,e78,e70,e60]
  clear u0 u1 u2 u3 u4 u5 m93 m94 m109 m110 m124 m125 m138
  grind
 have hf : ¬ ((z12*z36 - z13*z37) - (z26*z6 - z27*z7)=0∧(z12*z37+z13*z36) - (z26*z7+z27*z6)=0) := cmul_ne (cmul_ne u2 u0 rfl rfl) u1 (by
  clear m93 m94 m109 m110 m124 m125 m138 m139 u0 u1 u2 u3 u4 u5
  rw [e37,e36,e35,e34,e33,e32,e31,e30,e29,e28,e27,e26,e25,e24,e23,e22,e21,e20,e19,e18,e17,e16,e13,e12,e11,e10,e7,e6]
  grind) (by
  clear m93 m94 m109 m110 m124 m125 m138 m139 u0 u1 u2 u3 u4 u5
  rw [e37,e36,e35,e34,e33,e32,e31,e30,e29,e28,e27,e26,e25,e24,e23,e22,e21,e20,e19,e18,e17,e16,e13,e12,e11,e10,e7,e6]
  grind)
 have ht : ¬ ((z50*z74 - z51*z75) - (z64*z44 - z65*z45)=0∧(z50*z75+z51*z74) - (z64*z45+z65*z44)=0) := cmul_ne (cmul_ne u5 u3 rfl rfl) u4 (by
  clear m93 m94 m109 m110 m124 m125 m138 m139 u0 u1 u2 u3 u4 u5 hf
  rw [e75,e74,e73,e72,e71,e70,e69,e68,e67,e66,e65,e64,e63,e62,e61,e60,e59,e58,e57,e56,e55,e54,e51,e50,e49,e48,e45,e44]
  grind) (by
  clear m93 m94 m109 m110 m124 m125 m138 m139 u0 u1 u2 u3 u4 u5 hf
  rw [e75,e74,e73,e72,e71,e70,e69,e68,e67,e66,e65,e64,e63,e62,e61,e60,e59,e58,e57,e56,e55,e54,e51,e50,e49,e48,e45,e44]
  grind)
 have ⟨d1,d2⟩ := tt_det (a := z12) (b := z13) (c := z26) (d := z27) (e := z6) (f := z7) (g := z36) (h := z37) (A := z50) (B := z51) (C := z64) (D := z65) (E := z44) (F := z45) (G := z74) (H := z75)
 rw [← m93,← m94,← m109,← m110,← m124,← m125,← m138,← m139] at d1 d2
 exact cmul_ne hf ht d1 d2
theorem turnThree_E0 {z0 z1 z2 z3 z4 z5 z6 z7 z12 z13 z18 z19 z20 z21 z22 z23 z24 z25 z26 z27 z28 z29 z30 z31 z32 z33 z34 z35 z36 z37 z38 z39 z40 z41 z42 z43 z44 z45 z50 z51 z56 z57 z58 z59 z60 z61 z62 z63 z64 z65 z66 z67 z68 z69 z70 z71 z72 z73 z74 z75 z76 z77 z78 z79 z80 z81 z82 z83 z84 z85 z86 z87 z88 z89 z90 z91 z92 z93 z94 z95 z96 z97 z98 z99 z100 z101 z102 z103 z104 z105 z106 z107 z108 z109 z110 z111 z112 z113 z114 z115 z116 z117 z118 z119 z120 z121 z122 z123 z124 z125 z126 z127 z128 z129 z130 z131 z132 z133 z134 z135 z136 z137 z138 z139 : Rat} : z6=z2 - z0→z7=z3 - z1→z12=z2 - z4→z13=z3 - z5→z18=-z1→z19=z12*z0→z20=z13*z18→z21=z19+z20→z22=-z13→z23=z12*z1→z24=z22*z0→z25=z23 - z24→z26=-z21→z27=-z25→z28=-z5→z29=z6*z4→z30=z7*z28→z31=z29+z30→z32=-z7→z33=z6*z5→z34=z32*z4→z35=z33 - z34→z36=-z31→z37=-z35→z44=z40 - z38→z45=z41 - z39→z50=z40 - z42→z51=z41 - z43→z56=-z39→z57=z50*z38→z58=z51*z56→z59=z57+z58→z60=-z51→z61=z50*z39→z62=z60*z38→z63=z61 - z62→z64=-z59→z65=-z63→z66=-z43→z67=z44*z42→z68=z45*z66→z69=z67+z68→z70=-z45→z71=z44*z43→z72=z70*z42→z73=z71 - z72→z74=-z69→z75=-z73→z76=-z64→z77=-z65→z78=-z44→z79=z74*z12→z80=z75*z22→z81=z79+z80→z82=-z75→z83=z74*z13→z84=z82*z12→z85=z83 - z84→z86=z76*z6→z87=z77*z32→z88=z86+z87→z89=-z77→z90=z76*z7→z91=z89*z6→z92=z90 - z91→z93=z81+z88→z94=z85+z92→z95=-z27→z96=z74*z26→z97=z75*z95→z98=z96+z97→z99=z74*z27→z100=z82*z26→z101=z99 - z100→z102=-z37→z103=z76*z36→z104=z77*z102→z105=z103+z104→z106=z76*z37→z107=z89*z36→z108=z106 - z107→z109=z98+z105→z110=z101+z108→z111=z78*z12→z112=z70*z22→z113=z111+z112→z114=-z70→z115=z78*z13→z116=z114*z12→z117=z115 - z116→z118=z50*z6→z119=z51*z32→z120=z118+z119→z121=z50*z7→z122=z60*z6→z123=z121 - z122→z124=z113+z120→z125=z117+z123→z126=z78*z26→z127=z70*z95→z128=z126+z127→z129=z78*z27→z130=z114*z26→z131=z129 - z130→z132=z50*z36→z133=z51*z102→z134=z132+z133→z135=z50*z37→z136=z60*z36→z137=z135 - z136→z138=z128+z134→z139=z131+z137→(z93*z0 - z94*z1+z109=(z124*z0 - z125*z1+z138)*z38 - (z124*z1+z125*z0+z139)*z39∧z93*z1+z94*z0+z110=(z124*z0 - z125*z1+z138)*z39+(z124*z1+z125*z0+z139)*z38) := by
 intro e6 e7 e12 e13 e18 e19 e20 e21 e22 e23 e24 e25 e26 e27 e28 e29 e30 e31 e32 e33 e34 e35 e36 e37 e44 e45 e50 e51 e56 e57 e58 e59 e60 e61 e62 e63 e64 e65 e66 e67 e68 e69 e70 e71 e72 e73 e74 e75 e76 e77 e78 e79 e80 e81 e82 e83 e84 e85 e86 e87 e88 e89 e90 e91 e92 e93 e94 e95 e96 e97 e98 e99 e100 e101 e102 e103 e104 e105 e106 e107 e108 e109 e110 e111 e112 e113 e114 e115 e116 e117 e118 e119 e120 e121 e122 e123 e124 e125 e126 e127 e128 e129 e130 e131 e132 e133 e134 e135 e136 e137 e138 e139
 subst_vars
 constructor <;> grind
theorem turnThree_E1 {z0 z1 z2 z3 z4 z5 z6 z7 z12 z13 z18 z19 z20 z21 z22 z23 z24 z25 z26 z27 z28 z29 z30 z31 z32 z33 z34 z35 z36 z37 z38 z39 z40 z41 z42 z43 z44 z45 z50 z51 z56 z57 z58 z59 z60 z61 z62 z63 z64 z65 z66 z67 z68 z69 z70 z71 z72 z73 z74 z75 z76 z77 z78 z79 z80 z81 z82 z83 z84 z85 z86 z87 z88 z89 z90 z91 z92 z93 z94 z95 z96 z97 z98 z99 z100 z101 z102 z103 z104 z105 z106 z107 z108 z109 z110 z111 z112 z113 z114 z115 z116 z117 z118 z119 z120 z121 z122 z123 z124 z125 z126 z127 z128 z129 z130 z131 z132 z133 z134 z135 z136 z137 z138 z139 : Rat} : z6=z2 - z0→z7=z3 - z1→z12=z2 - z4→z13=z3 - z5→z18=-z1→z19=z12*z0→z20=z13*z18→z21=z19+z20→z22=-z13→z23=z12*z1→z24=z22*z0→z25=z23 - z24→z26=-z21→z27=-z25→z28=-z5→z29=z6*z4→z30=z7*z28→z31=z29+z30→z32=-z7→z33=z6*z5→z34=z32*z4→z35=z33 - z34→z36=-z31→z37=-z35→z44=z40 - z38→z45=z41 - z39→z50=z40 - z42→z51=z41 - z43→z56=-z39→z57=z50*z38→z58=z51*z56→z59=z57+z58→z60=-z51→z61=z50*z39→z62=z60*z38→z63=z61 - z62→z64=-z59→z65=-z63→z66=-z43→z67=z44*z42→z68=z45*z66→z69=z67+z68→z70=-z45→z71=z44*z43→z72=z70*z42→z73=z71 - z72→z74=-z69→z75=-z73→z76=-z64→z77=-z65→z78=-z44→z79=z74*z12→z80=z75*z22→z81=z79+z80→z82=-z75→z83=z74*z13→z84=z82*z12→z85=z83 - z84→z86=z76*z6→z87=z77*z32→z88=z86+z87→z89=-z77→z90=z76*z7→z91=z89*z6→z92=z90 - z91→z93=z81+z88→z94=z85+z92→z95=-z27→z96=z74*z26→z97=z75*z95→z98=z96+z97→z99=z74*z27→z100=z82*z26→z101=z99 - z100→z102=-z37→z103=z76*z36→z104=z77*z102→z105=z103+z104→z106=z76*z37→z107=z89*z36→z108=z106 - z107→z109=z98+z105→z110=z101+z108→z111=z78*z12→z112=z70*z22→z113=z111+z112→z114=-z70→z115=z78*z13→z116=z114*z12→z117=z115 - z116→z118=z50*z6→z119=z51*z32→z120=z118+z119→z121=z50*z7→z122=z60*z6→z123=z121 - z122→z124=z113+z120→z125=z117+z123→z126=z78*z26→z127=z70*z95→z128=z126+z127→z129=z78*z27→z130=z114*z26→z131=z129 - z130→z132=z50*z36→z133=z51*z102→z134=z132+z133→z135=z50*z37→z136=z60*z36→z137=z135 - z136→z138=z128+z134→z139=z131+z137→(z93*z2 - z94*z3+z109=(z124*z2 - z125*z3+z138)*z40 - (z124*z3+z125*z2+z139)*z41∧z93*z3+z94*z2+z110=(z124*z2 - z125*z3+z138)*z41+(z124*z3+z125*z2+z139)*z40) := by
 intro e6 e7 e12 e13 e18 e19 e20 e21 e22 e23 e24 e25 e26 e27 e28 e29 e30 e31 e32 e33 e34 e35 e36 e37 e44 e45 e50 e51 e56 e57 e58 e59 e60 e61 e62 e63 e64 e65 e66 e67 e68 e69 e70 e71 e72 e73 e74 e75 e76 e77 e78 e79 e80 e81 e82 e83 e84 e85 e86 e87 e88 e89 e90 e91 e92 e93 e94 e95 e96 e97 e98 e99 e100 e101 e102 e103 e104 e105 e106 e107 e108 e109 e110 e111 e112 e113 e114 e115 e116 e117 e118 e119 e120 e121 e122 e123 e124 e125 e126 e127 e128 e129 e130 e131 e132 e133 e134 e135 e136 e137 e138 e139
 subst_vars
 constructor <;> grind
theorem turnThree_E2 {z0 z1 z2 z3 z4 z5 z6 z7 z12 z13 z18 z19 z20 z21 z22 z23 z24 z25 z26 z27 z28 z29 z30 z31 z32 z33 z34 z35 z36 z37 z38 z39 z40 z41 z42 z43 z44 z45 z50 z51 z56 z57 z58 z59 z60 z61 z62 z63 z64 z65 z66 z67 z68 z69 z70 z71 z72 z73 z74 z75 z76 z77 z78 z79 z80 z81 z82 z83 z84 z85 z86 z87 z88 z89 z90 z91 z92 z93 z94 z95 z96 z97 z98 z99 z100 z101 z102 z103 z104 z105 z106 z107 z108 z109 z110 z111 z112 z113 z114 z115 z116 z117 z118 z119 z120 z121 z122 z123 z124 z125 z126 z127 z128 z129 z130 z131 z132 z133 z134 z135 z136 z137 z138 z139 : Rat} : z6=z2 - z0→z7=z3 - z1→z12=z2 - z4→z13=z3 - z5→z18=-z1→z19=z12*z0→z20=z13*z18→z21=z19+z20→z22=-z13→z23=z12*z1→z24=z22*z0→z25=z23 - z24→z26=-z21→z27=-z25→z28=-z5→z29=z6*z4→z30=z7*z28→z31=z29+z30→z32=-z7→z33=z6*z5→z34=z32*z4→z35=z33 - z34→z36=-z31→z37=-z35→z44=z40 - z38→z45=z41 - z39→z50=z40 - z42→z51=z41 - z43→z56=-z39→z57=z50*z38→z58=z51*z56→z59=z57+z58→z60=-z51→z61=z50*z39→z62=z60*z38→z63=z61 - z62→z64=-z59→z65=-z63→z66=-z43→z67=z44*z42→z68=z45*z66→z69=z67+z68→z70=-z45→z71=z44*z43→z72=z70*z42→z73=z71 - z72→z74=-z69→z75=-z73→z76=-z64→z77=-z65→z78=-z44→z79=z74*z12→z80=z75*z22→z81=z79+z80→z82=-z75→z83=z74*z13→z84=z82*z12→z85=z83 - z84→z86=z76*z6→z87=z77*z32→z88=z86+z87→z89=-z77→z90=z76*z7→z91=z89*z6→z92=z90 - z91→z93=z81+z88→z94=z85+z92→z95=-z27→z96=z74*z26→z97=z75*z95→z98=z96+z97→z99=z74*z27→z100=z82*z26→z101=z99 - z100→z102=-z37→z103=z76*z36→z104=z77*z102→z105=z103+z104→z106=z76*z37→z107=z89*z36→z108=z106 - z107→z109=z98+z105→z110=z101+z108→z111=z78*z12→z112=z70*z22→z113=z111+z112→z114=-z70→z115=z78*z13→z116=z114*z12→z117=z115 - z116→z118=z50*z6→z119=z51*z32→z120=z118+z119→z121=z50*z7→z122=z60*z6→z123=z121 - z122→z124=z113+z120→z125=z117+z123→z126=z78*z26→z127=z70*z95→z128=z126+z127→z129=z78*z27→z130=z114*z26→z131=z129 - z130→z132=z50*z36→z133=z51*z102→z134=z132+z133→z135=z50*z37→z136=z60*z36→z137=z135 - z136→z138=z128+z134→z139=z131+z137→(z93*z4 - z94*z5+z109=(z124*z4 - z125*z5+z138)*z42 - (z124*z5+z125*z4+z139)*z43∧z93*z5+z94*z4+z110=(z124*z4 - z125*z5+z138)*z43+(z124*z5+z125*z4+z139)*z42) := by
 intro e6 e7 e12 e13 e18 e19 e20 e21 e22 e23 e24 e25 e26 e27 e28 e29 e30 e31 e32 e33 e34 e35 e36 e37 e44 e45 e50 e51 e56 e57 e58 e59 e60 e61 e62 e63 e64 e65 e66 e67 e68 e69 e70 e71 e72 e73 e74 e75 e76 e77 e78 e79 e80 e81 e82 e83 e84 e85 e86 e87 e88 e89 e90 e91 e92 e93 e94 e95 e96 e97 e98 e99 e100 e101 e102 e103 e104 e105 e106 e107 e108 e109 e110 e111 e112 e113 e114 e115 e116 e117 e118 e119 e120 e121 e122 e123 e124 e125 e126 e127 e128 e129 e130 e131 e132 e133 e134 e135 e136 e137 e138 e139
 subst_vars
 constructor <;> grind
theorem turnThree_f1 {z0 z1 z2 z3 z6 z7 z8 : Rat} : z6=z2-z0→z7=z3-z1→z8=z0-z2→(z6=0∧z7=0)→z8=0 := by
 intro e6 e7 e8 u0
 rw [u0.1] at e6
 rw [u0.2] at e7
 subst_vars; grind
theorem turnThree_f2 {z0 z1 z2 z3 z6 z7 z9 : Rat} : z6=z2-z0→z7=z3-z1→z9=z1-z3→(z6=0∧z7=0)→z9=0 := by
 intro e6 e7 e9 u0
 rw [u0.1] at e6
 rw [u0.2] at e7
 subst_vars; grind
theorem turnThree_f3 {z0 z1 z2 z3 z6 z7 z8 z9 : Rat} : z6=z2-z0→z7=z3-z1→z8=z0-z2→z9=z1-z3→(¬ (z6=0∧z7=0))→¬ (z8=0∧z9=0) := by
 intro e6 e7 e8 e9 u0
 subst_vars; grind
theorem turnThree_f4 {z0 z1 z2 z3 z4 z5 z6 z7 z10 z11 z12 z13 : Rat} : z6=z2-z0→z7=z3-z1→z10=z4-z0→z11=z5-z1→z12=z2-z4→z13=z3-z5→(¬ (z6=0∧z7=0))→(z10=0∧z11=0)→¬ (z12=0∧z13=0) := by
 intro e6 e7 e10 e11 e12 e13 u0 u1
 rw [u1.1] at e10
 rw [u1.2] at e11
 subst_vars; grind
theorem turnThree_f5 {z0 z1 z2 z3 z4 z5 z6 z7 z10 z11 z14 : Rat} : z6=z2-z0→z7=z3-z1→z10=z4-z0→z11=z5-z1→z14=z0-z4→(¬ (z6=0∧z7=0))→(z10=0∧z11=0)→z14=0 := by
 intro e6 e7 e10 e11 e14 u0 u1
 rw [u1.1] at e10
 rw [u1.2] at e11
 subst_vars; grind
theorem turnThree_f6 {z0 z1 z2 z3 z4 z5 z6 z7 z10 z11 z15 : Rat} : z6=z2-z0→z7=z3-z1→z10=z4-z0→z11=z5-z1→z15=z1-z5→(¬ (z6=0∧z7=0))→(z10=0∧z11=0)→z15=0 := by
 intro e6 e7 e10 e11 e15 u0 u1
 rw [u1.1] at e10
 rw [u1.2] at e11
 subst_vars; grind
theorem turnThree_f7 {z0 z1 z2 z3 z4 z5 z6 z7 z8 z9 z10 z11 : Rat} : z6=z2-z0→z7=z3-z1→z8=z0-z2→z9=z1-z3→z10=z4-z0→z11=z5-z1→(¬ (z6=0∧z7=0))→(¬ (z10=0∧z11=0))→¬ (z8=0∧z9=0) := by
 intro e6 e7 e8 e9 e10 e11 u0 u1
 subst_vars; grind
theorem turnThree_f8 {z0 z1 z2 z3 z4 z5 z6 z7 z10 z11 z12 z16 z17 : Rat} : z6=z2-z0→z7=z3-z1→z10=z4-z0→z11=z5-z1→z12=z2-z4→z16=z4-z2→z17=z5-z3→(¬ (z6=0∧z7=0))→(¬ (z10=0∧z11=0))→(z16=0∧z17=0)→z12=0 := by
 intro e6 e7 e10 e11 e12 e16 e17 u0 u1 u2
 rw [u2.1] at e16
 rw [u2.2] at e17
 subst_vars; grind
theorem turnThree_f9 {z0 z1 z2 z3 z4 z5 z6 z7 z10 z11 z13 z16 z17 : Rat} : z6=z2-z0→z7=z3-z1→z10=z4-z0→z11=z5-z1→z13=z3-z5→z16=z4-z2→z17=z5-z3→(¬ (z6=0∧z7=0))→(¬ (z10=0∧z11=0))→(z16=0∧z17=0)→z13=0 := by
 intro e6 e7 e10 e11 e13 e16 e17 u0 u1 u2
 rw [u2.1] at e16
 rw [u2.2] at e17
 subst_vars; grind
theorem turnThree_f10 {z0 z1 z2 z3 z4 z5 z6 z7 z8 z9 z10 z11 z16 z17 : Rat} : z6=z2-z0→z7=z3-z1→z8=z0-z2→z9=z1-z3→z10=z4-z0→z11=z5-z1→z16=z4-z2→z17=z5-z3→(¬ (z6=0∧z7=0))→(¬ (z10=0∧z11=0))→(¬ (z16=0∧z17=0))→¬ (z8=0∧z9=0) := by
 intro e6 e7 e8 e9 e10 e11 e16 e17 u0 u1 u2
 subst_vars; grind
theorem turnThree_f11 {z0 z1 z2 z3 z4 z5 z6 z7 z10 z11 z12 z13 z16 z17 : Rat} : z6=z2-z0→z7=z3-z1→z10=z4-z0→z11=z5-z1→z12=z2-z4→z13=z3-z5→z16=z4-z2→z17=z5-z3→(¬ (z6=0∧z7=0))→(¬ (z10=0∧z11=0))→(¬ (z16=0∧z17=0))→¬ (z12=0∧z13=0) := by
 intro e6 e7 e10 e11 e12 e13 e16 e17 u0 u1 u2
 subst_vars; grind
theorem turnThree_f12 {z0 z1 z2 z3 z4 z5 z6 z7 z10 z11 z14 z15 z16 z17 : Rat} : z6=z2-z0→z7=z3-z1→z10=z4-z0→z11=z5-z1→z14=z0-z4→z15=z1-z5→z16=z4-z2→z17=z5-z3→(¬ (z6=0∧z7=0))→(¬ (z10=0∧z11=0))→(¬ (z16=0∧z17=0))→¬ (z14=0∧z15=0) := by
 intro e6 e7 e10 e11 e14 e15 e16 e17 u0 u1 u2
 subst_vars; grind
theorem turnThree_f13 {z0 z1 z2 z3 z4 z5 z6 z7 z10 z11 z16 z17 z38 z39 z40 z41 z44 z45 z46 : Rat} : z6=z2-z0→z7=z3-z1→z10=z4-z0→z11=z5-z1→z16=z4-z2→z17=z5-z3→z44=z40-z38→z45=z41-z39→z46=z38-z40→(¬ (z6=0∧z7=0))→(¬ (z10=0∧z11=0))→(¬ (z16=0∧z17=0))→(z44=0∧z45=0)→z46=0 := by
 intro e6 e7 e10 e11 e16 e17 e44 e45 e46 u0 u1 u2 u3
 rw [u3.1] at e44
 rw [u3.2] at e45
 subst_vars; grind
theorem turnThree_f14 {z0 z1 z2 z3 z4 z5 z6 z7 z10 z11 z16 z17 z38 z39 z40 z41 z44 z45 z47 : Rat} : z6=z2-z0→z7=z3-z1→z10=z4-z0→z11=z5-z1→z16=z4-z2→z17=z5-z3→z44=z40-z38→z45=z41-z39→z47=z39-z41→(¬ (z6=0∧z7=0))→(¬ (z10=0∧z11=0))→(¬ (z16=0∧z17=0))→(z44=0∧z45=0)→z47=0 := by
 intro e6 e7 e10 e11 e16 e17 e44 e45 e47 u0 u1 u2 u3
 rw [u3.1] at e44
 rw [u3.2] at e45
 subst_vars; grind
theorem turnThree_f15 {z0 z1 z2 z3 z4 z5 z6 z7 z8 z9 z10 z11 z16 z17 z38 z39 z40 z41 z44 z45 : Rat} : z6=z2-z0→z7=z3-z1→z8=z0-z2→z9=z1-z3→z10=z4-z0→z11=z5-z1→z16=z4-z2→z17=z5-z3→z44=z40-z38→z45=z41-z39→(¬ (z6=0∧z7=0))→(¬ (z10=0∧z11=0))→(¬ (z16=0∧z17=0))→(¬ (z44=0∧z45=0))→¬ (z8=0∧z9=0) := by
 intro e6 e7 e8 e9 e10 e11 e16 e17 e44 e45 u0 u1 u2 u3
 subst_vars; grind
theorem turnThree_f16 {z0 z1 z2 z3 z4 z5 z6 z7 z10 z11 z12 z13 z16 z17 z38 z39 z40 z41 z44 z45 : Rat} : z6=z2-z0→z7=z3-z1→z10=z4-z0→z11=z5-z1→z12=z2-z4→z13=z3-z5→z16=z4-z2→z17=z5-z3→z44=z40-z38→z45=z41-z39→(¬ (z6=0∧z7=0))→(¬ (z10=0∧z11=0))→(¬ (z16=0∧z17=0))→(¬ (z44=0∧z45=0))→¬ (z12=0∧z13=0) := by
 intro e6 e7 e10 e11 e12 e13 e16 e17 e44 e45 u0 u1 u2 u3
 subst_vars; grind
theorem turnThree_f17 {z0 z1 z2 z3 z4 z5 z6 z7 z10 z11 z14 z15 z16 z17 z38 z39 z40 z41 z44 z45 : Rat} : z6=z2-z0→z7=z3-z1→z10=z4-z0→z11=z5-z1→z14=z0-z4→z15=z1-z5→z16=z4-z2→z17=z5-z3→z44=z40-z38→z45=z41-z39→(¬ (z6=0∧z7=0))→(¬ (z10=0∧z11=0))→(¬ (z16=0∧z17=0))→(¬ (z44=0∧z45=0))→¬ (z14=0∧z15=0) := by
 intro e6 e7 e10 e11 e14 e15 e16 e17 e44 e45 u0 u1 u2 u3
 subst_vars; grind
theorem turnThree_f18 {z0 z1 z2 z3 z4 z5 z6 z7 z10 z11 z16 z17 z38 z39 z40 z41 z44 z45 z46 z47 : Rat} : z6=z2-z0→z7=z3-z1→z10=z4-z0→z11=z5-z1→z16=z4-z2→z17=z5-z3→z44=z40-z38→z45=z41-z39→z46=z38-z40→z47=z39-z41→(¬ (z6=0∧z7=0))→(¬ (z10=0∧z11=0))→(¬ (z16=0∧z17=0))→(¬ (z44=0∧z45=0))→¬ (z46=0∧z47=0) := by
 intro e6 e7 e10 e11 e16 e17 e44 e45 e46 e47 u0 u1 u2 u3
 subst_vars; grind
theorem turnThree_f19 {z0 z1 z2 z3 z4 z5 z6 z7 z10 z11 z16 z17 z38 z39 z40 z41 z42 z43 z44 z45 z48 z49 z50 z51 : Rat} : z6=z2-z0→z7=z3-z1→z10=z4-z0→z11=z5-z1→z16=z4-z2→z17=z5-z3→z44=z40-z38→z45=z41-z39→z48=z42-z38→z49=z43-z39→z50=z40-z42→z51=z41-z43→(¬ (z6=0∧z7=0))→(¬ (z10=0∧z11=0))→(¬ (z16=0∧z17=0))→(¬ (z44=0∧z45=0))→(z48=0∧z49=0)→¬ (z50=0∧z51=0) := by
 intro e6 e7 e10 e11 e16 e17 e44 e45 e48 e49 e50 e51 u0 u1 u2 u3 u4
 rw [u4.1] at e48
 rw [u4.2] at e49
 subst_vars; grind
theorem turnThree_f20 {z0 z1 z2 z3 z4 z5 z6 z7 z10 z11 z16 z17 z38 z39 z40 z41 z42 z43 z44 z45 z48 z49 z52 : Rat} : z6=z2-z0→z7=z3-z1→z10=z4-z0→z11=z5-z1→z16=z4-z2→z17=z5-z3→z44=z40-z38→z45=z41-z39→z48=z42-z38→z49=z43-z39→z52=z38-z42→(¬ (z6=0∧z7=0))→(¬ (z10=0∧z11=0))→(¬ (z16=0∧z17=0))→(¬ (z44=0∧z45=0))→(z48=0∧z49=0)→z52=0 := by
 intro e6 e7 e10 e11 e16 e17 e44 e45 e48 e49 e52 u0 u1 u2 u3 u4
 rw [u4.1] at e48
 rw [u4.2] at e49
 subst_vars; grind
theorem turnThree_f21 {z0 z1 z2 z3 z4 z5 z6 z7 z10 z11 z16 z17 z38 z39 z40 z41 z42 z43 z44 z45 z48 z49 z53 : Rat} : z6=z2-z0→z7=z3-z1→z10=z4-z0→z11=z5-z1→z16=z4-z2→z17=z5-z3→z44=z40-z38→z45=z41-z39→z48=z42-z38→z49=z43-z39→z53=z39-z43→(¬ (z6=0∧z7=0))→(¬ (z10=0∧z11=0))→(¬ (z16=0∧z17=0))→(¬ (z44=0∧z45=0))→(z48=0∧z49=0)→z53=0 := by
 intro e6 e7 e10 e11 e16 e17 e44 e45 e48 e49 e53 u0 u1 u2 u3 u4
 rw [u4.1] at e48
 rw [u4.2] at e49
 subst_vars; grind
theorem turnThree_f22 {z0 z1 z2 z3 z4 z5 z6 z7 z8 z9 z10 z11 z16 z17 z38 z39 z40 z41 z42 z43 z44 z45 z48 z49 : Rat} : z6=z2-z0→z7=z3-z1→z8=z0-z2→z9=z1-z3→z10=z4-z0→z11=z5-z1→z16=z4-z2→z17=z5-z3→z44=z40-z38→z45=z41-z39→z48=z42-z38→z49=z43-z39→(¬ (z6=0∧z7=0))→(¬ (z10=0∧z11=0))→(¬ (z16=0∧z17=0))→(¬ (z44=0∧z45=0))→(¬ (z48=0∧z49=0))→¬ (z8=0∧z9=0) := by
 intro e6 e7 e8 e9 e10 e11 e16 e17 e44 e45 e48 e49 u0 u1 u2 u3 u4
 subst_vars; grind
theorem turnThree_f23 {z0 z1 z2 z3 z4 z5 z6 z7 z10 z11 z12 z13 z16 z17 z38 z39 z40 z41 z42 z43 z44 z45 z48 z49 : Rat} : z6=z2-z0→z7=z3-z1→z10=z4-z0→z11=z5-z1→z12=z2-z4→z13=z3-z5→z16=z4-z2→z17=z5-z3→z44=z40-z38→z45=z41-z39→z48=z42-z38→z49=z43-z39→(¬ (z6=0∧z7=0))→(¬ (z10=0∧z11=0))→(¬ (z16=0∧z17=0))→(¬ (z44=0∧z45=0))→(¬ (z48=0∧z49=0))→¬ (z12=0∧z13=0) := by
 intro e6 e7 e10 e11 e12 e13 e16 e17 e44 e45 e48 e49 u0 u1 u2 u3 u4
 subst_vars; grind
theorem turnThree_f24 {z0 z1 z2 z3 z4 z5 z6 z7 z10 z11 z14 z15 z16 z17 z38 z39 z40 z41 z42 z43 z44 z45 z48 z49 : Rat} : z6=z2-z0→z7=z3-z1→z10=z4-z0→z11=z5-z1→z14=z0-z4→z15=z1-z5→z16=z4-z2→z17=z5-z3→z44=z40-z38→z45=z41-z39→z48=z42-z38→z49=z43-z39→(¬ (z6=0∧z7=0))→(¬ (z10=0∧z11=0))→(¬ (z16=0∧z17=0))→(¬ (z44=0∧z45=0))→(¬ (z48=0∧z49=0))→¬ (z14=0∧z15=0) := by
 intro e6 e7 e10 e11 e14 e15 e16 e17 e44 e45 e48 e49 u0 u1 u2 u3 u4
 subst_vars; grind
theorem turnThree_f25 {z0 z1 z2 z3 z4 z5 z6 z7 z10 z11 z16 z17 z38 z39 z40 z41 z42 z43 z44 z45 z46 z47 z48 z49 : Rat} : z6=z2-z0→z7=z3-z1→z10=z4-z0→z11=z5-z1→z16=z4-z2→z17=z5-z3→z44=z40-z38→z45=z41-z39→z46=z38-z40→z47=z39-z41→z48=z42-z38→z49=z43-z39→(¬ (z6=0∧z7=0))→(¬ (z10=0∧z11=0))→(¬ (z16=0∧z17=0))→(¬ (z44=0∧z45=0))→(¬ (z48=0∧z49=0))→¬ (z46=0∧z47=0) := by
 intro e6 e7 e10 e11 e16 e17 e44 e45 e46 e47 e48 e49 u0 u1 u2 u3 u4
 subst_vars; grind
theorem turnThree_f26 {z0 z1 z2 z3 z4 z5 z6 z7 z10 z11 z16 z17 z38 z39 z40 z41 z42 z43 z44 z45 z48 z49 z50 z54 z55 : Rat} : z6=z2-z0→z7=z3-z1→z10=z4-z0→z11=z5-z1→z16=z4-z2→z17=z5-z3→z44=z40-z38→z45=z41-z39→z48=z42-z38→z49=z43-z39→z50=z40-z42→z54=z42-z40→z55=z43-z41→(¬ (z6=0∧z7=0))→(¬ (z10=0∧z11=0))→(¬ (z16=0∧z17=0))→(¬ (z44=0∧z45=0))→(¬ (z48=0∧z49=0))→(z54=0∧z55=0)→z50=0 := by
 intro e6 e7 e10 e11 e16 e17 e44 e45 e48 e49 e50 e54 e55 u0 u1 u2 u3 u4 u5
 rw [u5.1] at e54
 rw [u5.2] at e55
 subst_vars; grind
theorem turnThree_f27 {z0 z1 z2 z3 z4 z5 z6 z7 z10 z11 z16 z17 z38 z39 z40 z41 z42 z43 z44 z45 z48 z49 z51 z54 z55 : Rat} : z6=z2-z0→z7=z3-z1→z10=z4-z0→z11=z5-z1→z16=z4-z2→z17=z5-z3→z44=z40-z38→z45=z41-z39→z48=z42-z38→z49=z43-z39→z51=z41-z43→z54=z42-z40→z55=z43-z41→(¬ (z6=0∧z7=0))→(¬ (z10=0∧z11=0))→(¬ (z16=0∧z17=0))→(¬ (z44=0∧z45=0))→(¬ (z48=0∧z49=0))→(z54=0∧z55=0)→z51=0 := by
 intro e6 e7 e10 e11 e16 e17 e44 e45 e48 e49 e51 e54 e55 u0 u1 u2 u3 u4 u5
 rw [u5.1] at e54
 rw [u5.2] at e55
 subst_vars; grind
theorem turnThree_f28 {z0 z1 z2 z3 z4 z5 z6 z7 z10 z11 z16 z17 z38 z39 z40 z41 z42 z43 z44 z45 z48 z49 z54 z55 z93 z94 z109 z110 z124 z125 z138 z139 : Rat} : z6=z2-z0→z7=z3-z1→z10=z4-z0→z11=z5-z1→z16=z4-z2→z17=z5-z3→z44=z40-z38→z45=z41-z39→z48=z42-z38→z49=z43-z39→z54=z42-z40→z55=z43-z41→(¬ (z6=0∧z7=0))→(¬ (z10=0∧z11=0))→(¬ (z16=0∧z17=0))→(¬ (z44=0∧z45=0))→(¬ (z48=0∧z49=0))→(¬ (z54=0∧z55=0))→(z93=0∧z94=0)→(¬ (z93*z138-z94*z139-(z109*z124-z110*z125)=0∧z93*z139+z94*z138-(z109*z125+z110*z124)=0))→¬ (z109=0∧z110=0) := by
 intro e6 e7 e10 e11 e16 e17 e44 e45 e48 e49 e54 e55 u0 u1 u2 u3 u4 u5 u6 F0
 have nl : ¬ (z109=0∧z110=0) := by
  rintro ⟨h1,h2⟩
  refine F0 ⟨?_,?_⟩
  ·rw [u6.1,u6.2,h1,h2]; clear F0; grind
  ·rw [u6.1,u6.2,h1,h2]; clear F0; grind
 exact nl
theorem turnThree_f29 {z0 z1 z2 z3 z4 z5 z6 z7 z8 z9 z10 z11 z16 z17 z38 z39 z40 z41 z42 z43 z44 z45 z48 z49 z54 z55 : Rat} : z6=z2-z0→z7=z3-z1→z8=z0-z2→z9=z1-z3→z10=z4-z0→z11=z5-z1→z16=z4-z2→z17=z5-z3→z44=z40-z38→z45=z41-z39→z48=z42-z38→z49=z43-z39→z54=z42-z40→z55=z43-z41→(¬ (z6=0∧z7=0))→(¬ (z10=0∧z11=0))→(¬ (z16=0∧z17=0))→(¬ (z44=0∧z45=0))→(¬ (z48=0∧z49=0))→(¬ (z54=0∧z55=0))→¬ (z8=0∧z9=0) := by
 intro e6 e7 e8 e9 e10 e11 e16 e17 e44 e45 e48 e49 e54 e55 u0 u1 u2 u3 u4 u5
 subst_vars; grind
theorem turnThree_f30 {z0 z1 z2 z3 z4 z5 z6 z7 z10 z11 z12 z13 z16 z17 z38 z39 z40 z41 z42 z43 z44 z45 z48 z49 z54 z55 : Rat} : z6=z2-z0→z7=z3-z1→z10=z4-z0→z11=z5-z1→z12=z2-z4→z13=z3-z5→z16=z4-z2→z17=z5-z3→z44=z40-z38→z45=z41-z39→z48=z42-z38→z49=z43-z39→z54=z42-z40→z55=z43-z41→(¬ (z6=0∧z7=0))→(¬ (z10=0∧z11=0))→(¬ (z16=0∧z17=0))→(¬ (z44=0∧z45=0))→(¬ (z48=0∧z49=0))→(¬ (z54=0∧z55=0))→¬ (z12=0∧z13=0) := by
 intro e6 e7 e10 e11 e12 e13 e16 e17 e44 e45 e48 e49 e54 e55 u0 u1 u2 u3 u4 u5
 subst_vars; grind
theorem turnThree_f31 {z0 z1 z2 z3 z4 z5 z6 z7 z10 z11 z14 z15 z16 z17 z38 z39 z40 z41 z42 z43 z44 z45 z48 z49 z54 z55 : Rat} : z6=z2-z0→z7=z3-z1→z10=z4-z0→z11=z5-z1→z14=z0-z4→z15=z1-z5→z16=z4-z2→z17=z5-z3→z44=z40-z38→z45=z41-z39→z48=z42-z38→z49=z43-z39→z54=z42-z40→z55=z43-z41→(¬ (z6=0∧z7=0))→(¬ (z10=0∧z11=0))→(¬ (z16=0∧z17=0))→(¬ (z44=0∧z45=0))→(¬ (z48=0∧z49=0))→(¬ (z54=0∧z55=0))→¬ (z14=0∧z15=0) := by
 intro e6 e7 e10 e11 e14 e15 e16 e17 e44 e45 e48 e49 e54 e55 u0 u1 u2 u3 u4 u5
 subst_vars; grind
theorem turnThree_f32 {z0 z1 z2 z3 z4 z5 z6 z7 z10 z11 z16 z17 z38 z39 z40 z41 z42 z43 z44 z45 z46 z47 z48 z49 z54 z55 : Rat} : z6=z2-z0→z7=z3-z1→z10=z4-z0→z11=z5-z1→z16=z4-z2→z17=z5-z3→z44=z40-z38→z45=z41-z39→z46=z38-z40→z47=z39-z41→z48=z42-z38→z49=z43-z39→z54=z42-z40→z55=z43-z41→(¬ (z6=0∧z7=0))→(¬ (z10=0∧z11=0))→(¬ (z16=0∧z17=0))→(¬ (z44=0∧z45=0))→(¬ (z48=0∧z49=0))→(¬ (z54=0∧z55=0))→¬ (z46=0∧z47=0) := by
 intro e6 e7 e10 e11 e16 e17 e44 e45 e46 e47 e48 e49 e54 e55 u0 u1 u2 u3 u4 u5
 subst_vars; grind
theorem turnThree_f33 {z0 z1 z2 z3 z4 z5 z6 z7 z10 z11 z16 z17 z38 z39 z40 z41 z42 z43 z44 z45 z48 z49 z50 z51 z54 z55 : Rat} : z6=z2-z0→z7=z3-z1→z10=z4-z0→z11=z5-z1→z16=z4-z2→z17=z5-z3→z44=z40-z38→z45=z41-z39→z48=z42-z38→z49=z43-z39→z50=z40-z42→z51=z41-z43→z54=z42-z40→z55=z43-z41→(¬ (z6=0∧z7=0))→(¬ (z10=0∧z11=0))→(¬ (z16=0∧z17=0))→(¬ (z44=0∧z45=0))→(¬ (z48=0∧z49=0))→(¬ (z54=0∧z55=0))→¬ (z50=0∧z51=0) := by
 intro e6 e7 e10 e11 e16 e17 e44 e45 e48 e49 e50 e51 e54 e55 u0 u1 u2 u3 u4 u5
 subst_vars; grind
theorem turnThree_f34 {z0 z1 z2 z3 z4 z5 z6 z7 z10 z11 z16 z17 z38 z39 z40 z41 z42 z43 z44 z45 z48 z49 z52 z53 z54 z55 : Rat} : z6=z2-z0→z7=z3-z1→z10=z4-z0→z11=z5-z1→z16=z4-z2→z17=z5-z3→z44=z40-z38→z45=z41-z39→z48=z42-z38→z49=z43-z39→z52=z38-z42→z53=z39-z43→z54=z42-z40→z55=z43-z41→(¬ (z6=0∧z7=0))→(¬ (z10=0∧z11=0))→(¬ (z16=0∧z17=0))→(¬ (z44=0∧z45=0))→(¬ (z48=0∧z49=0))→(¬ (z54=0∧z55=0))→¬ (z52=0∧z53=0) := by
 intro e6 e7 e10 e11 e16 e17 e44 e45 e48 e49 e52 e53 e54 e55 u0 u1 u2 u3 u4 u5
 subst_vars; grind
theorem turnThree_f35 {z0 z1 z2 z3 z4 z5 z6 z7 z10 z11 z16 z17 z38 z39 z40 z41 z42 z43 z44 z45 z48 z49 z54 z55 z93 z94 z109 z110 z124 z125 z138 z139 z140 z141 z142 z143 z144 z145 z146 z147 z148 z149 z150 z151 z152 z153 z154 z155 z159 z161 z162 z163 z164 z165 z166 z167 z168 z169 z170 z171 z172 z173 z174 z175 z176 z177 z178 z179 z180 z181 z185 z187 z188 z189 z190 z191 z192 z193 z194 z195 z196 z197 z201 : Rat} : z6=z2-z0→z7=z3-z1→z10=z4-z0→z11=z5-z1→z16=z4-z2→z17=z5-z3→z44=z40-z38→z45=z41-z39→z48=z42-z38→z49=z43-z39→z54=z42-z40→z55=z43-z41→z140=-z110→z141=-z140→z142=z93*z109→z143=z94*z141→z144=z142+z143→z145=-z94→z146=z93*z140→z147=z145*z109→z148=z146-z147→z149=z109*z109→z150=z110*z110→z151=z149+z150→z152=z144/z151→z153=z148/z151→z154=z110*z141→z155=z149+z154→z159=z155/z151→z161=z124*z109→z162=z125*z141→z163=z161+z162→z164=-z125→z165=z124*z140→z166=z164*z109→z167=z165-z166→z168=z163/z151→z169=z167/z151→z170=z138*z109→z171=z139*z141→z172=z170+z171→z173=-z139→z174=z138*z140→z175=z173*z109→z176=z174-z175→z177=z172/z151→z178=z176/z151→z179=z152*z0→z180=z153*z1→z181=z179-z180→z185=z181+z159→z187=z168*z0→z188=z169*z1→z189=z187-z188→z190=z168*z1→z191=z169*z0→z192=z190+z191→z193=z189+z177→z194=z192+z178→z195=z193*z38→z196=z194*z39→z197=z195-z196→z201=z185-z197→(¬ (z6=0∧z7=0))→(¬ (z10=0∧z11=0))→(¬ (z16=0∧z17=0))→(¬ (z44=0∧z45=0))→(¬ (z48=0∧z49=0))→(¬ (z54=0∧z55=0))→(z93*z0-z94*z1+z109=(z124*z0-z125*z1+z138)*z38-(z124*z1+z125*z0+z139)*z39∧z93*z1+z94*z0+z110=(z124*z0-z125*z1+z138)*z39+(z124*z1+z125*z0+z139)*z38)→z201=0 := by
 intro e6 e7 e10 e11 e16 e17 e44 e45 e48 e49 e54 e55 e140 e141 e142 e143 e144 e145 e146 e147 e148 e149 e150 e151 e152 e153 e154 e155 e159 e161 e162 e163 e164 e165 e166 e167 e168 e169 e170 e171 e172 e173 e174 e175 e176 e177 e178 e179 e180 e181 e185 e187 e188 e189 e190 e191 e192 e193 e194 e195 e196 e197 e201 u0 u1 u2 u3 u4 u5 F0
 have kn : z141=z110 := by rw [e141,e140]; exact Rat.neg_neg _
 have hA : z152=(z93*z109+z94*z110) / z151 := by rw [e152,e144,e142,e143,kn]
 have hAn : z148=z94*z109 - z93*z110 := by rw [e148,e146,e147,e140,e145]; exact tt_n ..
 have hAi : z153=(z94*z109 - z93*z110) / z151 := by rw [e153,hAn]
 have hB : z159=(z109*z109+z110*z110) / z151 := by rw [e159,e155,e149,e154,kn]
 have hBi : (z110*z109 - z109*z110) / z151=(z110*z109 - z109*z110) / z151 := rfl
 have hC : z168=(z124*z109+z125*z110) / z151 := by rw [e168,e163,e161,e162,kn]
 have hCn : z167=z125*z109 - z124*z110 := by rw [e167,e165,e166,e140,e164]; exact tt_n ..
 have hCi : z169=(z125*z109 - z124*z110) / z151 := by rw [e169,hCn]
 have hD : z177=(z138*z109+z139*z110) / z151 := by rw [e177,e172,e170,e171,kn]
 have hDn : z176=z139*z109 - z138*z110 := by rw [e176,e174,e175,e140,e173]; exact tt_n ..
 have hDi : z178=(z139*z109 - z138*z110) / z151 := by rw [e178,hDn]
 rw [e201,e197,e196,e195,e194,e193,e192,e191,e190,e189,e188,e187,e185,e181,e180,e179]
 exact (tt_q hA hAi hB hBi hC hCi hD hDi F0.1 F0.2).1
theorem turnThree_f36 {z0 z1 z2 z3 z4 z5 z6 z7 z10 z11 z16 z17 z38 z39 z40 z41 z42 z43 z44 z45 z48 z49 z54 z55 z93 z94 z109 z110 z124 z125 z138 z139 z140 z141 z142 z143 z144 z145 z146 z147 z148 z149 z150 z151 z152 z153 z156 z157 z158 z160 z161 z162 z163 z164 z165 z166 z167 z168 z169 z170 z171 z172 z173 z174 z175 z176 z177 z178 z182 z183 z184 z186 z187 z188 z189 z190 z191 z192 z193 z194 z198 z199 z200 z202 : Rat} : z6=z2-z0→z7=z3-z1→z10=z4-z0→z11=z5-z1→z16=z4-z2→z17=z5-z3→z44=z40-z38→z45=z41-z39→z48=z42-z38→z49=z43-z39→z54=z42-z40→z55=z43-z41→z140=-z110→z141=-z140→z142=z93*z109→z143=z94*z141→z144=z142+z143→z145=-z94→z146=z93*z140→z147=z145*z109→z148=z146-z147→z149=z109*z109→z150=z110*z110→z151=z149+z150→z152=z144/z151→z153=z148/z151→z156=z109*z140→z157=z140*z109→z158=z156-z157→z160=z158/z151→z161=z124*z109→z162=z125*z141→z163=z161+z162→z164=-z125→z165=z124*z140→z166=z164*z109→z167=z165-z166→z168=z163/z151→z169=z167/z151→z170=z138*z109→z171=z139*z141→z172=z170+z171→z173=-z139→z174=z138*z140→z175=z173*z109→z176=z174-z175→z177=z172/z151→z178=z176/z151→z182=z152*z1→z183=z153*z0→z184=z182+z183→z186=z184+z160→z187=z168*z0→z188=z169*z1→z189=z187-z188→z190=z168*z1→z191=z169*z0→z192=z190+z191→z193=z189+z177→z194=z192+z178→z198=z193*z39→z199=z194*z38→z200=z198+z199→z202=z186-z200→(¬ (z6=0∧z7=0))→(¬ (z10=0∧z11=0))→(¬ (z16=0∧z17=0))→(¬ (z44=0∧z45=0))→(¬ (z48=0∧z49=0))→(¬ (z54=0∧z55=0))→(z93*z0-z94*z1+z109=(z124*z0-z125*z1+z138)*z38-(z124*z1+z125*z0+z139)*z39∧z93*z1+z94*z0+z110=(z124*z0-z125*z1+z138)*z39+(z124*z1+z125*z0+z139)*z38)→z202=0 := by
 intro e6 e7 e10 e11 e16 e17 e44 e45 e48 e49 e54 e55 e140 e141 e142 e143 e144 e145 e146 e147 e148 e149 e150 e151 e152 e153 e156 e157 e158 e160 e161 e162 e163 e164 e165 e166 e167 e168 e169 e170 e171 e172 e173 e174 e175 e176 e177 e178 e182 e183 e184 e186 e187 e188 e189 e190 e191 e192 e193 e194 e198 e199 e200 e202 u0 u1 u2 u3 u4 u5 F0
 have kn : z141=z110 := by rw [e141,e140]; exact Rat.neg_neg _
 have hA : z152=(z93*z109+z94*z110) / z151 := by rw [e152,e144,e142,e143,kn]
 have hAn : z148=z94*z109 - z93*z110 := by rw [e148,e146,e147,e140,e145]; exact tt_n ..
 have hAi : z153=(z94*z109 - z93*z110) / z151 := by rw [e153,hAn]
 have hB : (z109*z109+z110*z110) / z151=(z109*z109+z110*z110) / z151 := rfl
 have hBn : z158=z110*z109 - z109*z110 := by rw [e158,e156,e157,e140]; exact tt_n ..
 have hBi : z160=(z110*z109 - z109*z110) / z151 := by rw [e160,hBn]
 have hC : z168=(z124*z109+z125*z110) / z151 := by rw [e168,e163,e161,e162,kn]
 have hCn : z167=z125*z109 - z124*z110 := by rw [e167,e165,e166,e140,e164]; exact tt_n ..
 have hCi : z169=(z125*z109 - z124*z110) / z151 := by rw [e169,hCn]
 have hD : z177=(z138*z109+z139*z110) / z151 := by rw [e177,e172,e170,e171,kn]
 have hDn : z176=z139*z109 - z138*z110 := by rw [e176,e174,e175,e140,e173]; exact tt_n ..
 have hDi : z178=(z139*z109 - z138*z110) / z151 := by rw [e178,hDn]
 rw [e202,e200,e199,e198,e194,e193,e192,e191,e190,e189,e188,e187,e186,e184,e183,e182]
 exact (tt_q hA hAi hB hBi hC hCi hD hDi F0.1 F0.2).2
theorem turnThree_f37 {z0 z1 z2 z3 z4 z5 z6 z7 z10 z11 z16 z17 z38 z39 z40 z41 z42 z43 z44 z45 z48 z49 z54 z55 z93 z94 z109 z110 z124 z125 z138 z139 z140 z141 z142 z143 z144 z145 z146 z147 z148 z149 z150 z151 z152 z153 z154 z155 z159 z161 z162 z163 z164 z165 z166 z167 z168 z169 z170 z171 z172 z173 z174 z175 z176 z177 z178 z203 z204 z205 z209 z211 z212 z213 z214 z215 z216 z217 z218 z219 z220 z221 z225 : Rat} : z6=z2-z0→z7=z3-z1→z10=z4-z0→z11=z5-z1→z16=z4-z2→z17=z5-z3→z44=z40-z38→z45=z41-z39→z48=z42-z38→z49=z43-z39→z54=z42-z40→z55=z43-z41→z140=-z110→z141=-z140→z142=z93*z109→z143=z94*z141→z144=z142+z143→z145=-z94→z146=z93*z140→z147=z145*z109→z148=z146-z147→z149=z109*z109→z150=z110*z110→z151=z149+z150→z152=z144/z151→z153=z148/z151→z154=z110*z141→z155=z149+z154→z159=z155/z151→z161=z124*z109→z162=z125*z141→z163=z161+z162→z164=-z125→z165=z124*z140→z166=z164*z109→z167=z165-z166→z168=z163/z151→z169=z167/z151→z170=z138*z109→z171=z139*z141→z172=z170+z171→z173=-z139→z174=z138*z140→z175=z173*z109→z176=z174-z175→z177=z172/z151→z178=z176/z151→z203=z152*z2→z204=z153*z3→z205=z203-z204→z209=z205+z159→z211=z168*z2→z212=z169*z3→z213=z211-z212→z214=z168*z3→z215=z169*z2→z216=z214+z215→z217=z213+z177→z218=z216+z178→z219=z217*z40→z220=z218*z41→z221=z219-z220→z225=z209-z221→(¬ (z6=0∧z7=0))→(¬ (z10=0∧z11=0))→(¬ (z16=0∧z17=0))→(¬ (z44=0∧z45=0))→(¬ (z48=0∧z49=0))→(¬ (z54=0∧z55=0))→(z93*z2-z94*z3+z109=(z124*z2-z125*z3+z138)*z40-(z124*z3+z125*z2+z139)*z41∧z93*z3+z94*z2+z110=(z124*z2-z125*z3+z138)*z41+(z124*z3+z125*z2+z139)*z40)→z225=0 := by
 intro e6 e7 e10 e11 e16 e17 e44 e45 e48 e49 e54 e55 e140 e141 e142 e143 e144 e145 e146 e147 e148 e149 e150 e151 e152 e153 e154 e155 e159 e161 e162 e163 e164 e165 e166 e167 e168 e169 e170 e171 e172 e173 e174 e175 e176 e177 e178 e203 e204 e205 e209 e211 e212 e213 e214 e215 e216 e217 e218 e219 e220 e221 e225 u0 u1 u2 u3 u4 u5 F0
 have kn : z141=z110 := by rw [e141,e140]; exact Rat.neg_neg _
 have hA : z152=(z93*z109+z94*z110) / z151 := by rw [e152,e144,e142,e143,kn]
 have hAn : z148=z94*z109 - z93*z110 := by rw [e148,e146,e147,e140,e145]; exact tt_n ..
 have hAi : z153=(z94*z109 - z93*z110) / z151 := by rw [e153,hAn]
 have hB : z159=(z109*z109+z110*z110) / z151 := by rw [e159,e155,e149,e154,kn]
 have hBi : (z110*z109 - z109*z110) / z151=(z110*z109 - z109*z110) / z151 := rfl
 have hC : z168=(z124*z109+z125*z110) / z151 := by rw [e168,e163,e161,e162,kn]
 have hCn : z167=z125*z109 - z124*z110 := by rw [e167,e165,e166,e140,e164]; exact tt_n ..
 have hCi : z169=(z125*z109 - z124*z110) / z151 := by rw [e169,hCn]
 have hD : z177=(z138*z109+z139*z110) / z151 := by rw [e177,e172,e170,e171,kn]
 have hDn : z176=z139*z109 - z138*z110 := by rw [e176,e174,e175,e140,e173]; exact tt_n ..
 have hDi : z178=(z139*z109 - z138*z110) / z151 := by rw [e178,hDn]
 rw [e225,e221,e220,e219,e218,e217,e216,e215,e214,e213,e212,e211,e209,e205,e204,e203]
 exact (tt_q hA hAi hB hBi hC hCi hD hDi F0.1 F0.2).1
theorem turnThree_f38 {z0 z1 z2 z3 z4 z5 z6 z7 z10 z11 z16 z17 z38 z39 z40 z41 z42 z43 z44 z45 z48 z49 z54 z55 z93 z94 z109 z110 z124 z125 z138 z139 z140 z141 z142 z143 z144 z145 z146 z147 z148 z149 z150 z151 z152 z153 z156 z157 z158 z160 z161 z162 z163 z164 z165 z166 z167 z168 z169 z170 z171 z172 z173 z174 z175 z176 z177 z178 z206 z207 z208 z210 z211 z212 z213 z214 z215 z216 z217 z218 z222 z223 z224 z226 : Rat} : z6=z2-z0→z7=z3-z1→z10=z4-z0→z11=z5-z1→z16=z4-z2→z17=z5-z3→z44=z40-z38→z45=z41-z39→z48=z42-z38→z49=z43-z39→z54=z42-z40→z55=z43-z41→z140=-z110→z141=-z140→z142=z93*z109→z143=z94*z141→z144=z142+z143→z145=-z94→z146=z93*z140→z147=z145*z109→z148=z146-z147→z149=z109*z109→z150=z110*z110→z151=z149+z150→z152=z144/z151→z153=z148/z151→z156=z109*z140→z157=z140*z109→z158=z156-z157→z160=z158/z151→z161=z124*z109→z162=z125*z141→z163=z161+z162→z164=-z125→z165=z124*z140→z166=z164*z109→z167=z165-z166→z168=z163/z151→z169=z167/z151→z170=z138*z109→z171=z139*z141→z172=z170+z171→z173=-z139→z174=z138*z140→z175=z173*z109→z176=z174-z175→z177=z172/z151→z178=z176/z151→z206=z152*z3→z207=z153*z2→z208=z206+z207→z210=z208+z160→z211=z168*z2→z212=z169*z3→z213=z211-z212→z214=z168*z3→z215=z169*z2→z216=z214+z215→z217=z213+z177→z218=z216+z178→z222=z217*z41→z223=z218*z40→z224=z222+z223→z226=z210-z224→(¬ (z6=0∧z7=0))→(¬ (z10=0∧z11=0))→(¬ (z16=0∧z17=0))→(¬ (z44=0∧z45=0))→(¬ (z48=0∧z49=0))→(¬ (z54=0∧z55=0))→(z93*z2-z94*z3+z109=(z124*z2-z125*z3+z138)*z40-(z124*z3+z125*z2+z139)*z41∧z93*z3+z94*z2+z110=(z124*z2-z125*z3+z138)*z41+(z124*z3+z125*z2+z139)*z40)→z226=0 := by
 intro e6 e7 e10 e11 e16 e17 e44 e45 e48 e49 e54 e55 e140 e141 e142 e143 e144 e145 e146 e147 e148 e149 e150 e151 e152 e153 e156 e157 e158 e160 e161 e162 e163 e164 e165 e166 e167 e168 e169 e170 e171 e172 e173 e174 e175 e176 e177 e178 e206 e207 e208 e210 e211 e212 e213 e214 e215 e216 e217 e218 e222 e223 e224 e226 u0 u1 u2 u3 u4 u5 F0
 have kn : z141=z110 := by rw [e141,e140]; exact Rat.neg_neg _
 have hA : z152=(z93*z109+z94*z110) / z151 := by rw [e152,e144,e142,e143,kn]
 have hAn : z148=z94*z109 - z93*z110 := by rw [e148,e146,e147,e140,e145]; exact tt_n ..
 have hAi : z153=(z94*z109 - z93*z110) / z151 := by rw [e153,hAn]
 have hB : (z109*z109+z110*z110) / z151=(z109*z109+z110*z110) / z151 := rfl
 have hBn : z158=z110*z109 - z109*z110 := by rw [e158,e156,e157,e140]; exact tt_n ..
 have hBi : z160=(z110*z109 - z109*z110) / z151 := by rw [e160,hBn]
 have hC : z168=(z124*z109+z125*z110) / z151 := by rw [e168,e163,e161,e162,kn]
 have hCn : z167=z125*z109 - z124*z110 := by rw [e167,e165,e166,e140,e164]; exact tt_n ..
 have hCi : z169=(z125*z109 - z124*z110) / z151 := by rw [e169,hCn]
 have hD : z177=(z138*z109+z139*z110) / z151 := by rw [e177,e172,e170,e171,kn]
 have hDn : z176=z139*z109 - z138*z110 := by rw [e176,e174,e175,e140,e173]; exact tt_n ..
 have hDi : z178=(z139*z109 - z138*z110) / z151 := by rw [e178,hDn]
 rw [e226,e224,e223,e222,e218,e217,e216,e215,e214,e213,e212,e211,e210,e208,e207,e206]
 exact (tt_q hA hAi hB hBi hC hCi hD hDi F0.1 F0.2).2
theorem turnThree_f39 {z0 z1 z2 z3 z4 z5 z6 z7 z10 z11 z16 z17 z38 z39 z40 z41 z42 z43 z44 z45 z48 z49 z54 z55 z93 z94 z109 z110 z124 z125 z138 z139 z140 z141 z142 z143 z144 z145 z146 z147 z148 z149 z150 z151 z152 z153 z154 z155 z159 z161 z162 z163 z164 z165 z166 z167 z168 z169 z170 z171 z172 z173 z174 z175 z176 z177 z178 z227 z228 z229 z233 z235 z236 z237 z238 z239 z240 z241 z242 z243 z244 z245 z249 : Rat} : z6=z2-z0→z7=z3-z1→z10=z4-z0→z11=z5-z1→z16=z4-z2→z17=z5-z3→z44=z40-z38→z45=z41-z39→z48=z42-z38→z49=z43-z39→z54=z42-z40→z55=z43-z41→z140=-z110→z141=-z140→z142=z93*z109→z143=z94*z141→z144=z142+z143→z145=-z94→z146=z93*z140→z147=z145*z109→z148=z146-z147→z149=z109*z109→z150=z110*z110→z151=z149+z150→z152=z144/z151→z153=z148/z151→z154=z110*z141→z155=z149+z154→z159=z155/z151→z161=z124*z109→z162=z125*z141→z163=z161+z162→z164=-z125→z165=z124*z140→z166=z164*z109→z167=z165-z166→z168=z163/z151→z169=z167/z151→z170=z138*z109→z171=z139*z141→z172=z170+z171→z173=-z139→z174=z138*z140→z175=z173*z109→z176=z174-z175→z177=z172/z151→z178=z176/z151→z227=z152*z4→z228=z153*z5→z229=z227-z228→z233=z229+z159→z235=z168*z4→z236=z169*z5→z237=z235-z236→z238=z168*z5→z239=z169*z4→z240=z238+z239→z241=z237+z177→z242=z240+z178→z243=z241*z42→z244=z242*z43→z245=z243-z244→z249=z233-z245→(¬ (z6=0∧z7=0))→(¬ (z10=0∧z11=0))→(¬ (z16=0∧z17=0))→(¬ (z44=0∧z45=0))→(¬ (z48=0∧z49=0))→(¬ (z54=0∧z55=0))→(z93*z4-z94*z5+z109=(z124*z4-z125*z5+z138)*z42-(z124*z5+z125*z4+z139)*z43∧z93*z5+z94*z4+z110=(z124*z4-z125*z5+z138)*z43+(z124*z5+z125*z4+z139)*z42)→z249=0 := by
 intro e6 e7 e10 e11 e16 e17 e44 e45 e48 e49 e54 e55 e140 e141 e142 e143 e144 e145 e146 e147 e148 e149 e150 e151 e152 e153 e154 e155 e159 e161 e162 e163 e164 e165 e166 e167 e168 e169 e170 e171 e172 e173 e174 e175 e176 e177 e178 e227 e228 e229 e233 e235 e236 e237 e238 e239 e240 e241 e242 e243 e244 e245 e249 u0 u1 u2 u3 u4 u5 F0
 have kn : z141=z110 := by rw [e141,e140]; exact Rat.neg_neg _
 have hA : z152=(z93*z109+z94*z110) / z151 := by rw [e152,e144,e142,e143,kn]
 have hAn : z148=z94*z109 - z93*z110 := by rw [e148,e146,e147,e140,e145]; exact tt_n ..
 have hAi : z153=(z94*z109 - z93*z110) / z151 := by rw [e153,hAn]
 have hB : z159=(z109*z109+z110*z110) / z151 := by rw [e159,e155,e149,e154,kn]
 have hBi : (z110*z109 - z109*z110) / z151=(z110*z109 - z109*z110) / z151 := rfl
 have hC : z168=(z124*z109+z125*z110) / z151 := by rw [e168,e163,e161,e162,kn]
 have hCn : z167=z125*z109 - z124*z110 := by rw [e167,e165,e166,e140,e164]; exact tt_n ..
 have hCi : z169=(z125*z109 - z124*z110) / z151 := by rw [e169,hCn]
 have hD : z177=(z138*z109+z139*z110) / z151 := by rw [e177,e172,e170,e171,kn]
 have hDn : z176=z139*z109 - z138*z110 := by rw [e176,e174,e175,e140,e173]; exact tt_n ..
 have hDi : z178=(z139*z109 - z138*z110) / z151 := by rw [e178,hDn]
 rw [e249,e245,e244,e243,e242,e241,e240,e239,e238,e237,e236,e235,e233,e229,e228,e227]
 exact (tt_q hA hAi hB hBi hC hCi hD hDi F0.1 F0.2).1
theorem turnThree_f40 {z0 z1 z2 z3 z4 z5 z6 z7 z10 z11 z16 z17 z38 z39 z40 z41 z42 z43 z44 z45 z48 z49 z54 z55 z93 z94 z109 z110 z124 z125 z138 z139 z140 z141 z142 z143 z144 z145 z146 z147 z148 z149 z150 z151 z152 z153 z156 z157 z158 z160 z161 z162 z163 z164 z165 z166 z167 z168 z169 z170 z171 z172 z173 z174 z175 z176 z177 z178 z230 z231 z232 z234 z235 z236 z237 z238 z239 z240 z241 z242 z246 z247 z248 z250 : Rat} : z6=z2-z0→z7=z3-z1→z10=z4-z0→z11=z5-z1→z16=z4-z2→z17=z5-z3→z44=z40-z38→z45=z41-z39→z48=z42-z38→z49=z43-z39→z54=z42-z40→z55=z43-z41→z140=-z110→z141=-z140→z142=z93*z109→z143=z94*z141→z144=z142+z143→z145=-z94→z146=z93*z140→z147=z145*z109→z148=z146-z147→z149=z109*z109→z150=z110*z110→z151=z149+z150→z152=z144/z151→z153=z148/z151→z156=z109*z140→z157=z140*z109→z158=z156-z157→z160=z158/z151→z161=z124*z109→z162=z125*z141→z163=z161+z162→z164=-z125→z165=z124*z140→z166=z164*z109→z167=z165-z166→z168=z163/z151→z169=z167/z151→z170=z138*z109→z171=z139*z141→z172=z170+z171→z173=-z139→z174=z138*z140→z175=z173*z109→z176=z174-z175→z177=z172/z151→z178=z176/z151→z230=z152*z5→z231=z153*z4→z232=z230+z231→z234=z232+z160→z235=z168*z4→z236=z169*z5→z237=z235-z236→z238=z168*z5→z239=z169*z4→z240=z238+z239→z241=z237+z177→z242=z240+z178→z246=z241*z43→z247=z242*z42→z248=z246+z247→z250=z234-z248→(¬ (z6=0∧z7=0))→(¬ (z10=0∧z11=0))→(¬ (z16=0∧z17=0))→(¬ (z44=0∧z45=0))→(¬ (z48=0∧z49=0))→(¬ (z54=0∧z55=0))→(z93*z4-z94*z5+z109=(z124*z4-z125*z5+z138)*z42-(z124*z5+z125*z4+z139)*z43∧z93*z5+z94*z4+z110=(z124*z4-z125*z5+z138)*z43+(z124*z5+z125*z4+z139)*z42)→z250=0 := by
 intro e6 e7 e10 e11 e16 e17 e44 e45 e48 e49 e54 e55 e140 e141 e142 e143 e144 e145 e146 e147 e148 e149 e150 e151 e152 e153 e156 e157 e158 e160 e161 e162 e163 e164 e165 e166 e167 e168 e169 e170 e171 e172 e173 e174 e175 e176 e177 e178 e230 e231 e232 e234 e235 e236 e237 e238 e239 e240 e241 e242 e246 e247 e248 e250 u0 u1 u2 u3 u4 u5 F0
 have kn : z141=z110 := by rw [e141,e140]; exact Rat.neg_neg _
 have hA : z152=(z93*z109+z94*z110) / z151 := by rw [e152,e144,e142,e143,kn]
 have hAn : z148=z94*z109 - z93*z110 := by rw [e148,e146,e147,e140,e145]; exact tt_n ..
 have hAi : z153=(z94*z109 - z93*z110) / z151 := by rw [e153,hAn]
 have hB : (z109*z109+z110*z110) / z151=(z109*z109+z110*z110) / z151 := rfl
 have hBn : z158=z110*z109 - z109*z110 := by rw [e158,e156,e157,e140]; exact tt_n ..
 have hBi : z160=(z110*z109 - z109*z110) / z151 := by rw [e160,hBn]
 have hC : z168=(z124*z109+z125*z110) / z151 := by rw [e168,e163,e161,e162,kn]
 have hCn : z167=z125*z109 - z124*z110 := by rw [e167,e165,e166,e140,e164]; exact tt_n ..
 have hCi : z169=(z125*z109 - z124*z110) / z151 := by rw [e169,hCn]
 have hD : z177=(z138*z109+z139*z110) / z151 := by rw [e177,e172,e170,e171,kn]
 have hDn : z176=z139*z109 - z138*z110 := by rw [e176,e174,e175,e140,e173]; exact tt_n ..
 have hDi : z178=(z139*z109 - z138*z110) / z151 := by rw [e178,hDn]
 rw [e250,e248,e247,e246,e242,e241,e240,e239,e238,e237,e236,e235,e234,e232,e231,e230]
 exact (tt_q hA hAi hB hBi hC hCi hD hDi F0.1 F0.2).2
theorem turnThree_f41 {z0 z1 z2 z3 z4 z5 z6 z7 z10 z11 z16 z17 z38 z39 z40 z41 z42 z43 z44 z45 z48 z49 z54 z55 z93 z94 z109 z110 z140 z141 z142 z143 z144 z149 z150 z151 z152 : Rat} : z6=z2-z0→z7=z3-z1→z10=z4-z0→z11=z5-z1→z16=z4-z2→z17=z5-z3→z44=z40-z38→z45=z41-z39→z48=z42-z38→z49=z43-z39→z54=z42-z40→z55=z43-z41→z140=-z110→z141=-z140→z142=z93*z109→z143=z94*z141→z144=z142+z143→z149=z109*z109→z150=z110*z110→z151=z149+z150→z152=z144/z151→(¬ (z6=0∧z7=0))→(¬ (z10=0∧z11=0))→(¬ (z16=0∧z17=0))→(¬ (z44=0∧z45=0))→(¬ (z48=0∧z49=0))→(¬ (z54=0∧z55=0))→(z93=0∧z94=0)→z152=0 := by
 intro e6 e7 e10 e11 e16 e17 e44 e45 e48 e49 e54 e55 e140 e141 e142 e143 e144 e149 e150 e151 e152 u0 u1 u2 u3 u4 u5 u6
 rw [e152,e144,e142,e143,u6.1,u6.2]
 grind
theorem turnThree_f42 {z0 z1 z2 z3 z4 z5 z6 z7 z10 z11 z16 z17 z38 z39 z40 z41 z42 z43 z44 z45 z48 z49 z54 z55 z93 z94 z109 z110 z140 z145 z146 z147 z148 z149 z150 z151 z153 : Rat} : z6=z2-z0→z7=z3-z1→z10=z4-z0→z11=z5-z1→z16=z4-z2→z17=z5-z3→z44=z40-z38→z45=z41-z39→z48=z42-z38→z49=z43-z39→z54=z42-z40→z55=z43-z41→z140=-z110→z145=-z94→z146=z93*z140→z147=z145*z109→z148=z146-z147→z149=z109*z109→z150=z110*z110→z151=z149+z150→z153=z148/z151→(¬ (z6=0∧z7=0))→(¬ (z10=0∧z11=0))→(¬ (z16=0∧z17=0))→(¬ (z44=0∧z45=0))→(¬ (z48=0∧z49=0))→(¬ (z54=0∧z55=0))→(z93=0∧z94=0)→z153=0 := by
 intro e6 e7 e10 e11 e16 e17 e44 e45 e48 e49 e54 e55 e140 e145 e146 e147 e148 e149 e150 e151 e153 u0 u1 u2 u3 u4 u5 u6
 rw [e153,e148,e146,e147,e145,u6.1,u6.2]
 grind
theorem turnThree_f43 {z0 z1 z2 z3 z4 z5 z6 z7 z10 z11 z16 z17 z38 z39 z40 z41 z42 z43 z44 z45 z48 z49 z54 z55 z93 z94 z109 z110 z124 z125 z138 z139 z140 z141 z149 z150 z151 z154 z155 z159 : Rat} : z6=z2-z0→z7=z3-z1→z10=z4-z0→z11=z5-z1→z16=z4-z2→z17=z5-z3→z44=z40-z38→z45=z41-z39→z48=z42-z38→z49=z43-z39→z54=z42-z40→z55=z43-z41→z140=-z110→z141=-z140→z149=z109*z109→z150=z110*z110→z151=z149+z150→z154=z110*z141→z155=z149+z154→z159=z155/z151→(¬ (z6=0∧z7=0))→(¬ (z10=0∧z11=0))→(¬ (z16=0∧z17=0))→(¬ (z44=0∧z45=0))→(¬ (z48=0∧z49=0))→(¬ (z54=0∧z55=0))→(z93=0∧z94=0)→(¬ (z93*z138-z94*z139-(z109*z124-z110*z125)=0∧z93*z139+z94*z138-(z109*z125+z110*z124)=0))→¬ (z159=0) := by
 intro e6 e7 e10 e11 e16 e17 e44 e45 e48 e49 e54 e55 e140 e141 e149 e150 e151 e154 e155 e159 u0 u1 u2 u3 u4 u5 u6 F0
 have nl : ¬ (z109=0∧z110=0) := by
  rintro ⟨h1,h2⟩
  refine F0 ⟨?_,?_⟩
  ·rw [u6.1,u6.2,h1,h2]; clear F0; grind
  ·rw [u6.1,u6.2,h1,h2]; clear F0; grind
 have en : z151=z109*z109+z110*z110 := by rw [e151,e149,e150]
 have hn : z151 ≠ 0 := by
  have hp := sq_pos nl
  rw [← en] at hp
  intro h
  rw [h] at hp
  exact absurd hp (by decide)
 have kn : z141=z110 := by rw [e141,e140]; exact Rat.neg_neg _
 have h1 : z155=z151 := by rw [e155,e149,e154,kn,en]
 have h2 : z159=1 := by rw [e159,h1,Rat.div_def]; exact Rat.mul_inv_cancel _ hn
 rw [h2]
 decide
theorem turnThree_f44 {z0 z1 z2 z3 z4 z5 z6 z7 z10 z11 z16 z17 z38 z39 z40 z41 z42 z43 z44 z45 z48 z49 z54 z55 z93 z94 z109 z110 z124 z125 z138 z139 z140 z141 z142 z143 z144 z145 z146 z147 z148 z149 z150 z151 z152 z153 z154 z155 z156 z157 z158 z159 z160 z161 z162 z163 z164 z165 z166 z167 z168 z169 z170 z171 z172 z173 z174 z175 z176 z177 z178 z251 z252 z253 z254 z255 z256 z257 z258 z259 z260 z261 z262 z263 z264 : Rat} : z6=z2-z0→z7=z3-z1→z10=z4-z0→z11=z5-z1→z16=z4-z2→z17=z5-z3→z44=z40-z38→z45=z41-z39→z48=z42-z38→z49=z43-z39→z54=z42-z40→z55=z43-z41→z140=-z110→z141=-z140→z142=z93*z109→z143=z94*z141→z144=z142+z143→z145=-z94→z146=z93*z140→z147=z145*z109→z148=z146-z147→z149=z109*z109→z150=z110*z110→z151=z149+z150→z152=z144/z151→z153=z148/z151→z154=z110*z141→z155=z149+z154→z156=z109*z140→z157=z140*z109→z158=z156-z157→z159=z155/z151→z160=z158/z151→z161=z124*z109→z162=z125*z141→z163=z161+z162→z164=-z125→z165=z124*z140→z166=z164*z109→z167=z165-z166→z168=z163/z151→z169=z167/z151→z170=z138*z109→z171=z139*z141→z172=z170+z171→z173=-z139→z174=z138*z140→z175=z173*z109→z176=z174-z175→z177=z172/z151→z178=z176/z151→z251=z152*z177→z252=z153*z178→z253=z251-z252→z254=z152*z178→z255=z153*z177→z256=z254+z255→z257=z159*z168→z258=z160*z169→z259=z257-z258→z260=z159*z169→z261=z160*z168→z262=z260+z261→z263=z253-z259→z264=z256-z262→(¬ (z6=0∧z7=0))→(¬ (z10=0∧z11=0))→(¬ (z16=0∧z17=0))→(¬ (z44=0∧z45=0))→(¬ (z48=0∧z49=0))→(¬ (z54=0∧z55=0))→(z93=0∧z94=0)→(¬ (z93*z138-z94*z139-(z109*z124-z110*z125)=0∧z93*z139+z94*z138-(z109*z125+z110*z124)=0))→¬ (z263=0∧z264=0) := by
 intro e6 e7 e10 e11 e16 e17 e44 e45 e48 e49 e54 e55 e140 e141 e142 e143 e144 e145 e146 e147 e148 e149 e150 e151 e152 e153 e154 e155 e156 e157 e158 e159 e160 e161 e162 e163 e164 e165 e166 e167 e168 e169 e170 e171 e172 e173 e174 e175 e176 e177 e178 e251 e252 e253 e254 e255 e256 e257 e258 e259 e260 e261 e262 e263 e264 u0 u1 u2 u3 u4 u5 u6 F0
 have nl : ¬ (z109=0∧z110=0) := by
  rintro ⟨h1,h2⟩
  refine F0 ⟨?_,?_⟩
  ·rw [u6.1,u6.2,h1,h2]; clear F0; grind
  ·rw [u6.1,u6.2,h1,h2]; clear F0; grind
 have en : z151=z109*z109+z110*z110 := by rw [e151,e149,e150]
 have hn : z151 ≠ 0 := by
  have hp := sq_pos nl
  rw [← en] at hp
  intro h
  rw [h] at hp
  exact absurd hp (by decide)
 have kn : z141=z110 := by rw [e141,e140]; exact Rat.neg_neg _
 have hA : z152=(z93*z109+z94*z110) / z151 := by rw [e152,e144,e142,e143,kn]
 have hAn : z148=z94*z109 - z93*z110 := by rw [e148,e146,e147,e140,e145]; exact tt_n ..
 have hAi : z153=(z94*z109 - z93*z110) / z151 := by rw [e153,hAn]
 have hB : z159=(z109*z109+z110*z110) / z151 := by rw [e159,e155,e149,e154,kn]
 have hBn : z158=z110*z109 - z109*z110 := by rw [e158,e156,e157,e140]; exact tt_n ..
 have hBi : z160=(z110*z109 - z109*z110) / z151 := by rw [e160,hBn]
 have hC : z168=(z124*z109+z125*z110) / z151 := by rw [e168,e163,e161,e162,kn]
 have hCn : z167=z125*z109 - z124*z110 := by rw [e167,e165,e166,e140,e164]; exact tt_n ..
 have hCi : z169=(z125*z109 - z124*z110) / z151 := by rw [e169,hCn]
 have hD : z177=(z138*z109+z139*z110) / z151 := by rw [e177,e172,e170,e171,kn]
 have hDn : z176=z139*z109 - z138*z110 := by rw [e176,e174,e175,e140,e173]; exact tt_n ..
 have hDi : z178=(z139*z109 - z138*z110) / z151 := by rw [e178,hDn]
 rw [e264,e263,e262,e261,e260,e259,e258,e257,e256,e255,e254,e253,e252,e251]
 exact tt_d hn en hA hAi hB hBi hC hCi hD hDi F0
theorem turnThree_f45 {z0 z1 z2 z3 z4 z5 z6 z7 z10 z11 z16 z17 z38 z39 z40 z41 z42 z43 z44 z45 z48 z49 z54 z55 z93 z94 z109 z110 z124 z125 z138 z139 z140 z141 z149 z150 z151 z154 z155 z159 z265 : Rat} : z6=z2-z0→z7=z3-z1→z10=z4-z0→z11=z5-z1→z16=z4-z2→z17=z5-z3→z44=z40-z38→z45=z41-z39→z48=z42-z38→z49=z43-z39→z54=z42-z40→z55=z43-z41→z140=-z110→z141=-z140→z149=z109*z109→z150=z110*z110→z151=z149+z150→z154=z110*z141→z155=z149+z154→z159=z155/z151→z265=1→(¬ (z6=0∧z7=0))→(¬ (z10=0∧z11=0))→(¬ (z16=0∧z17=0))→(¬ (z44=0∧z45=0))→(¬ (z48=0∧z49=0))→(¬ (z54=0∧z55=0))→(z93=0∧z94=0)→(¬ (z93*z138-z94*z139-(z109*z124-z110*z125)=0∧z93*z139+z94*z138-(z109*z125+z110*z124)=0))→z159=z265 := by
 intro e6 e7 e10 e11 e16 e17 e44 e45 e48 e49 e54 e55 e140 e141 e149 e150 e151 e154 e155 e159 e265 u0 u1 u2 u3 u4 u5 u6 F0
 have nl : ¬ (z109=0∧z110=0) := by
  rintro ⟨h1,h2⟩
  refine F0 ⟨?_,?_⟩
  ·rw [u6.1,u6.2,h1,h2]; clear F0; grind
  ·rw [u6.1,u6.2,h1,h2]; clear F0; grind
 have en : z151=z109*z109+z110*z110 := by rw [e151,e149,e150]
 have hn : z151 ≠ 0 := by
  have hp := sq_pos nl
  rw [← en] at hp
  intro h
  rw [h] at hp
  exact absurd hp (by decide)
 have kn : z141=z110 := by rw [e141,e140]; exact Rat.neg_neg _
 have h1 : z155=z151 := by rw [e155,e149,e154,kn,en]
 have h2 : z159=1 := by rw [e159,h1,Rat.div_def]; exact Rat.mul_inv_cancel _ hn
 rw [h2,e265]
theorem turnThree_f46 {z0 z1 z2 z3 z4 z5 z6 z7 z10 z11 z16 z17 z38 z39 z40 z41 z42 z43 z44 z45 z48 z49 z54 z55 z109 z110 z140 z149 z150 z151 z156 z157 z158 z160 : Rat} : z6=z2-z0→z7=z3-z1→z10=z4-z0→z11=z5-z1→z16=z4-z2→z17=z5-z3→z44=z40-z38→z45=z41-z39→z48=z42-z38→z49=z43-z39→z54=z42-z40→z55=z43-z41→z140=-z110→z149=z109*z109→z150=z110*z110→z151=z149+z150→z156=z109*z140→z157=z140*z109→z158=z156-z157→z160=z158/z151→(¬ (z6=0∧z7=0))→(¬ (z10=0∧z11=0))→(¬ (z16=0∧z17=0))→(¬ (z44=0∧z45=0))→(¬ (z48=0∧z49=0))→(¬ (z54=0∧z55=0))→z160=0 := by
 intro e6 e7 e10 e11 e16 e17 e44 e45 e48 e49 e54 e55 e140 e149 e150 e151 e156 e157 e158 e160 u0 u1 u2 u3 u4 u5
 have h1 : z158=0 := by rw [e158,e156,e157]; grind
 rw [e160,h1,Rat.div_def,Rat.zero_mul]
theorem turnThree_f47 {z0 z1 z2 z3 z4 z5 z6 z7 z8 z9 z10 z11 z12 z13 z16 z17 z22 z32 z38 z39 z40 z41 z42 z43 z44 z45 z48 z49 z50 z51 z54 z55 z56 z57 z58 z59 z60 z61 z62 z63 z64 z65 z66 z67 z68 z69 z70 z71 z72 z73 z74 z75 z76 z77 z79 z80 z81 z82 z83 z84 z85 z86 z87 z88 z89 z90 z91 z92 z93 z94 : Rat} : z6=z2-z0→z7=z3-z1→z8=z0-z2→z9=z1-z3→z10=z4-z0→z11=z5-z1→z12=z2-z4→z13=z3-z5→z16=z4-z2→z17=z5-z3→z22=-z13→z32=-z7→z44=z40-z38→z45=z41-z39→z48=z42-z38→z49=z43-z39→z50=z40-z42→z51=z41-z43→z54=z42-z40→z55=z43-z41→z56=-z39→z57=z50*z38→z58=z51*z56→z59=z57+z58→z60=-z51→z61=z50*z39→z62=z60*z38→z63=z61-z62→z64=-z59→z65=-z63→z66=-z43→z67=z44*z42→z68=z45*z66→z69=z67+z68→z70=-z45→z71=z44*z43→z72=z70*z42→z73=z71-z72→z74=-z69→z75=-z73→z76=-z64→z77=-z65→z79=z74*z12→z80=z75*z22→z81=z79+z80→z82=-z75→z83=z74*z13→z84=z82*z12→z85=z83-z84→z86=z76*z6→z87=z77*z32→z88=z86+z87→z89=-z77→z90=z76*z7→z91=z89*z6→z92=z90-z91→z93=z81+z88→z94=z85+z92→(¬ (z6=0∧z7=0))→(¬ (z10=0∧z11=0))→(¬ (z16=0∧z17=0))→(¬ (z44=0∧z45=0))→(¬ (z48=0∧z49=0))→(¬ (z54=0∧z55=0))→(¬ (z93=0∧z94=0))→¬ (z8=0∧z9=0) := by
 intro e6 e7 e8 e9 e10 e11 e12 e13 e16 e17 e22 e32 e44 e45 e48 e49 e50 e51 e54 e55 e56 e57 e58 e59 e60 e61 e62 e63 e64 e65 e66 e67 e68 e69 e70 e71 e72 e73 e74 e75 e76 e77 e79 e80 e81 e82 e83 e84 e85 e86 e87 e88 e89 e90 e91 e92 e93 e94 u0 u1 u2 u3 u4 u5 u6
 subst_vars; grind
theorem turnThree_f48 {z0 z1 z2 z3 z4 z5 z6 z7 z10 z11 z12 z13 z16 z17 z22 z32 z38 z39 z40 z41 z42 z43 z44 z45 z48 z49 z50 z51 z54 z55 z56 z57 z58 z59 z60 z61 z62 z63 z64 z65 z66 z67 z68 z69 z70 z71 z72 z73 z74 z75 z76 z77 z79 z80 z81 z82 z83 z84 z85 z86 z87 z88 z89 z90 z91 z92 z93 z94 : Rat} : z6=z2-z0→z7=z3-z1→z10=z4-z0→z11=z5-z1→z12=z2-z4→z13=z3-z5→z16=z4-z2→z17=z5-z3→z22=-z13→z32=-z7→z44=z40-z38→z45=z41-z39→z48=z42-z38→z49=z43-z39→z50=z40-z42→z51=z41-z43→z54=z42-z40→z55=z43-z41→z56=-z39→z57=z50*z38→z58=z51*z56→z59=z57+z58→z60=-z51→z61=z50*z39→z62=z60*z38→z63=z61-z62→z64=-z59→z65=-z63→z66=-z43→z67=z44*z42→z68=z45*z66→z69=z67+z68→z70=-z45→z71=z44*z43→z72=z70*z42→z73=z71-z72→z74=-z69→z75=-z73→z76=-z64→z77=-z65→z79=z74*z12→z80=z75*z22→z81=z79+z80→z82=-z75→z83=z74*z13→z84=z82*z12→z85=z83-z84→z86=z76*z6→z87=z77*z32→z88=z86+z87→z89=-z77→z90=z76*z7→z91=z89*z6→z92=z90-z91→z93=z81+z88→z94=z85+z92→(¬ (z6=0∧z7=0))→(¬ (z10=0∧z11=0))→(¬ (z16=0∧z17=0))→(¬ (z44=0∧z45=0))→(¬ (z48=0∧z49=0))→(¬ (z54=0∧z55=0))→(¬ (z93=0∧z94=0))→¬ (z12=0∧z13=0) := by
 intro e6 e7 e10 e11 e12 e13 e16 e17 e22 e32 e44 e45 e48 e49 e50 e51 e54 e55 e56 e57 e58 e59 e60 e61 e62 e63 e64 e65 e66 e67 e68 e69 e70 e71 e72 e73 e74 e75 e76 e77 e79 e80 e81 e82 e83 e84 e85 e86 e87 e88 e89 e90 e91 e92 e93 e94 u0 u1 u2 u3 u4 u5 u6
 subst_vars; grind
theorem turnThree_f49 {z0 z1 z2 z3 z4 z5 z6 z7 z10 z11 z12 z13 z14 z15 z16 z17 z22 z32 z38 z39 z40 z41 z42 z43 z44 z45 z48 z49 z50 z51 z54 z55 z56 z57 z58 z59 z60 z61 z62 z63 z64 z65 z66 z67 z68 z69 z70 z71 z72 z73 z74 z75 z76 z77 z79 z80 z81 z82 z83 z84 z85 z86 z87 z88 z89 z90 z91 z92 z93 z94 : Rat} : z6=z2-z0→z7=z3-z1→z10=z4-z0→z11=z5-z1→z12=z2-z4→z13=z3-z5→z14=z0-z4→z15=z1-z5→z16=z4-z2→z17=z5-z3→z22=-z13→z32=-z7→z44=z40-z38→z45=z41-z39→z48=z42-z38→z49=z43-z39→z50=z40-z42→z51=z41-z43→z54=z42-z40→z55=z43-z41→z56=-z39→z57=z50*z38→z58=z51*z56→z59=z57+z58→z60=-z51→z61=z50*z39→z62=z60*z38→z63=z61-z62→z64=-z59→z65=-z63→z66=-z43→z67=z44*z42→z68=z45*z66→z69=z67+z68→z70=-z45→z71=z44*z43→z72=z70*z42→z73=z71-z72→z74=-z69→z75=-z73→z76=-z64→z77=-z65→z79=z74*z12→z80=z75*z22→z81=z79+z80→z82=-z75→z83=z74*z13→z84=z82*z12→z85=z83-z84→z86=z76*z6→z87=z77*z32→z88=z86+z87→z89=-z77→z90=z76*z7→z91=z89*z6→z92=z90-z91→z93=z81+z88→z94=z85+z92→(¬ (z6=0∧z7=0))→(¬ (z10=0∧z11=0))→(¬ (z16=0∧z17=0))→(¬ (z44=0∧z45=0))→(¬ (z48=0∧z49=0))→(¬ (z54=0∧z55=0))→(¬ (z93=0∧z94=0))→¬ (z14=0∧z15=0) := by
 intro e6 e7 e10 e11 e12 e13 e14 e15 e16 e17 e22 e32 e44 e45 e48 e49 e50 e51 e54 e55 e56 e57 e58 e59 e60 e61 e62 e63 e64 e65 e66 e67 e68 e69 e70 e71 e72 e73 e74 e75 e76 e77 e79 e80 e81 e82 e83 e84 e85 e86 e87 e88 e89 e90 e91 e92 e93 e94 u0 u1 u2 u3 u4 u5 u6
 subst_vars; grind
theorem turnThree_f50 {z0 z1 z2 z3 z4 z5 z6 z7 z10 z11 z12 z13 z16 z17 z22 z32 z38 z39 z40 z41 z42 z43 z44 z45 z46 z47 z48 z49 z50 z51 z54 z55 z56 z57 z58 z59 z60 z61 z62 z63 z64 z65 z66 z67 z68 z69 z70 z71 z72 z73 z74 z75 z76 z77 z79 z80 z81 z82 z83 z84 z85 z86 z87 z88 z89 z90 z91 z92 z93 z94 : Rat} : z6=z2-z0→z7=z3-z1→z10=z4-z0→z11=z5-z1→z12=z2-z4→z13=z3-z5→z16=z4-z2→z17=z5-z3→z22=-z13→z32=-z7→z44=z40-z38→z45=z41-z39→z46=z38-z40→z47=z39-z41→z48=z42-z38→z49=z43-z39→z50=z40-z42→z51=z41-z43→z54=z42-z40→z55=z43-z41→z56=-z39→z57=z50*z38→z58=z51*z56→z59=z57+z58→z60=-z51→z61=z50*z39→z62=z60*z38→z63=z61-z62→z64=-z59→z65=-z63→z66=-z43→z67=z44*z42→z68=z45*z66→z69=z67+z68→z70=-z45→z71=z44*z43→z72=z70*z42→z73=z71-z72→z74=-z69→z75=-z73→z76=-z64→z77=-z65→z79=z74*z12→z80=z75*z22→z81=z79+z80→z82=-z75→z83=z74*z13→z84=z82*z12→z85=z83-z84→z86=z76*z6→z87=z77*z32→z88=z86+z87→z89=-z77→z90=z76*z7→z91=z89*z6→z92=z90-z91→z93=z81+z88→z94=z85+z92→(¬ (z6=0∧z7=0))→(¬ (z10=0∧z11=0))→(¬ (z16=0∧z17=0))→(¬ (z44=0∧z45=0))→(¬ (z48=0∧z49=0))→(¬ (z54=0∧z55=0))→(¬ (z93=0∧z94=0))→¬ (z46=0∧z47=0) := by
 intro e6 e7 e10 e11 e12 e13 e16 e17 e22 e32 e44 e45 e46 e47 e48 e49 e50 e51 e54 e55 e56 e57 e58 e59 e60 e61 e62 e63 e64 e65 e66 e67 e68 e69 e70 e71 e72 e73 e74 e75 e76 e77 e79 e80 e81 e82 e83 e84 e85 e86 e87 e88 e89 e90 e91 e92 e93 e94 u0 u1 u2 u3 u4 u5 u6
 subst_vars; grind
theorem turnThree_f51 {z0 z1 z2 z3 z4 z5 z6 z7 z10 z11 z12 z13 z16 z17 z22 z32 z38 z39 z40 z41 z42 z43 z44 z45 z48 z49 z50 z51 z54 z55 z56 z57 z58 z59 z60 z61 z62 z63 z64 z65 z66 z67 z68 z69 z70 z71 z72 z73 z74 z75 z76 z77 z79 z80 z81 z82 z83 z84 z85 z86 z87 z88 z89 z90 z91 z92 z93 z94 : Rat} : z6=z2-z0→z7=z3-z1→z10=z4-z0→z11=z5-z1→z12=z2-z4→z13=z3-z5→z16=z4-z2→z17=z5-z3→z22=-z13→z32=-z7→z44=z40-z38→z45=z41-z39→z48=z42-z38→z49=z43-z39→z50=z40-z42→z51=z41-z43→z54=z42-z40→z55=z43-z41→z56=-z39→z57=z50*z38→z58=z51*z56→z59=z57+z58→z60=-z51→z61=z50*z39→z62=z60*z38→z63=z61-z62→z64=-z59→z65=-z63→z66=-z43→z67=z44*z42→z68=z45*z66→z69=z67+z68→z70=-z45→z71=z44*z43→z72=z70*z42→z73=z71-z72→z74=-z69→z75=-z73→z76=-z64→z77=-z65→z79=z74*z12→z80=z75*z22→z81=z79+z80→z82=-z75→z83=z74*z13→z84=z82*z12→z85=z83-z84→z86=z76*z6→z87=z77*z32→z88=z86+z87→z89=-z77→z90=z76*z7→z91=z89*z6→z92=z90-z91→z93=z81+z88→z94=z85+z92→(¬ (z6=0∧z7=0))→(¬ (z10=0∧z11=0))→(¬ (z16=0∧z17=0))→(¬ (z44=0∧z45=0))→(¬ (z48=0∧z49=0))→(¬ (z54=0∧z55=0))→(¬ (z93=0∧z94=0))→¬ (z50=0∧z51=0) := by
 intro e6 e7 e10 e11 e12 e13 e16 e17 e22 e32 e44 e45 e48 e49 e50 e51 e54 e55 e56 e57 e58 e59 e60 e61 e62 e63 e64 e65 e66 e67 e68 e69 e70 e71 e72 e73 e74 e75 e76 e77 e79 e80 e81 e82 e83 e84 e85 e86 e87 e88 e89 e90 e91 e92 e93 e94 u0 u1 u2 u3 u4 u5 u6
 subst_vars; grind
theorem turnThree_f52 {z0 z1 z2 z3 z4 z5 z6 z7 z10 z11 z12 z13 z16 z17 z22 z32 z38 z39 z40 z41 z42 z43 z44 z45 z48 z49 z50 z51 z52 z53 z54 z55 z56 z57 z58 z59 z60 z61 z62 z63 z64 z65 z66 z67 z68 z69 z70 z71 z72 z73 z74 z75 z76 z77 z79 z80 z81 z82 z83 z84 z85 z86 z87 z88 z89 z90 z91 z92 z93 z94 : Rat} : z6=z2-z0→z7=z3-z1→z10=z4-z0→z11=z5-z1→z12=z2-z4→z13=z3-z5→z16=z4-z2→z17=z5-z3→z22=-z13→z32=-z7→z44=z40-z38→z45=z41-z39→z48=z42-z38→z49=z43-z39→z50=z40-z42→z51=z41-z43→z52=z38-z42→z53=z39-z43→z54=z42-z40→z55=z43-z41→z56=-z39→z57=z50*z38→z58=z51*z56→z59=z57+z58→z60=-z51→z61=z50*z39→z62=z60*z38→z63=z61-z62→z64=-z59→z65=-z63→z66=-z43→z67=z44*z42→z68=z45*z66→z69=z67+z68→z70=-z45→z71=z44*z43→z72=z70*z42→z73=z71-z72→z74=-z69→z75=-z73→z76=-z64→z77=-z65→z79=z74*z12→z80=z75*z22→z81=z79+z80→z82=-z75→z83=z74*z13→z84=z82*z12→z85=z83-z84→z86=z76*z6→z87=z77*z32→z88=z86+z87→z89=-z77→z90=z76*z7→z91=z89*z6→z92=z90-z91→z93=z81+z88→z94=z85+z92→(¬ (z6=0∧z7=0))→(¬ (z10=0∧z11=0))→(¬ (z16=0∧z17=0))→(¬ (z44=0∧z45=0))→(¬ (z48=0∧z49=0))→(¬ (z54=0∧z55=0))→(¬ (z93=0∧z94=0))→¬ (z52=0∧z53=0) := by
 intro e6 e7 e10 e11 e12 e13 e16 e17 e22 e32 e44 e45 e48 e49 e50 e51 e52 e53 e54 e55 e56 e57 e58 e59 e60 e61 e62 e63 e64 e65 e66 e67 e68 e69 e70 e71 e72 e73 e74 e75 e76 e77 e79 e80 e81 e82 e83 e84 e85 e86 e87 e88 e89 e90 e91 e92 e93 e94 u0 u1 u2 u3 u4 u5 u6
 subst_vars; grind
theorem turnThree_f53 {z0 z1 z2 z3 z4 z5 z6 z7 z10 z11 z16 z17 z38 z39 z40 z41 z42 z43 z44 z45 z48 z49 z54 z55 z93 z94 z109 z110 z124 z125 z138 z139 z145 z164 z173 z266 z267 z268 z269 z270 z271 z272 z273 z274 z275 z276 z277 z278 z279 z283 z285 z286 z287 z288 z289 z290 z291 z292 z293 z294 z295 z296 z297 z298 z299 z300 z301 z302 z303 z307 z309 z310 z311 z312 z313 z314 z315 z316 z317 z318 z319 z323 : Rat} : z6=z2-z0→z7=z3-z1→z10=z4-z0→z11=z5-z1→z16=z4-z2→z17=z5-z3→z44=z40-z38→z45=z41-z39→z48=z42-z38→z49=z43-z39→z54=z42-z40→z55=z43-z41→z145=-z94→z164=-z125→z173=-z139→z266=-z145→z267=z93*z93→z268=z94*z266→z269=z267+z268→z270=z93*z145→z271=z145*z93→z272=z270-z271→z273=z94*z94→z274=z267+z273→z275=z269/z274→z276=z272/z274→z277=z109*z93→z278=z110*z266→z279=z277+z278→z283=z279/z274→z285=z124*z93→z286=z125*z266→z287=z285+z286→z288=z124*z145→z289=z164*z93→z290=z288-z289→z291=z287/z274→z292=z290/z274→z293=z138*z93→z294=z139*z266→z295=z293+z294→z296=z138*z145→z297=z173*z93→z298=z296-z297→z299=z295/z274→z300=z298/z274→z301=z275*z0→z302=z276*z1→z303=z301-z302→z307=z303+z283→z309=z291*z0→z310=z292*z1→z311=z309-z310→z312=z291*z1→z313=z292*z0→z314=z312+z313→z315=z311+z299→z316=z314+z300→z317=z315*z38→z318=z316*z39→z319=z317-z318→z323=z307-z319→(¬ (z6=0∧z7=0))→(¬ (z10=0∧z11=0))→(¬ (z16=0∧z17=0))→(¬ (z44=0∧z45=0))→(¬ (z48=0∧z49=0))→(¬ (z54=0∧z55=0))→(¬ (z93=0∧z94=0))→(z93*z0-z94*z1+z109=(z124*z0-z125*z1+z138)*z38-(z124*z1+z125*z0+z139)*z39∧z93*z1+z94*z0+z110=(z124*z0-z125*z1+z138)*z39+(z124*z1+z125*z0+z139)*z38)→z323=0 := by
 intro e6 e7 e10 e11 e16 e17 e44 e45 e48 e49 e54 e55 e145 e164 e173 e266 e267 e268 e269 e270 e271 e272 e273 e274 e275 e276 e277 e278 e279 e283 e285 e286 e287 e288 e289 e290 e291 e292 e293 e294 e295 e296 e297 e298 e299 e300 e301 e302 e303 e307 e309 e310 e311 e312 e313 e314 e315 e316 e317 e318 e319 e323 u0 u1 u2 u3 u4 u5 u6 F0
 have kn : z266=z94 := by rw [e266,e145]; exact Rat.neg_neg _
 have hA : z275=(z93*z93+z94*z94) / z274 := by rw [e275,e269,e267,e268,kn]
 have hAn : z272=z94*z93 - z93*z94 := by rw [e272,e270,e271,e145]; exact tt_n ..
 have hAi : z276=(z94*z93 - z93*z94) / z274 := by rw [e276,hAn]
 have hB : z283=(z109*z93+z110*z94) / z274 := by rw [e283,e279,e277,e278,kn]
 have hBi : (z110*z93 - z109*z94) / z274=(z110*z93 - z109*z94) / z274 := rfl
 have hC : z291=(z124*z93+z125*z94) / z274 := by rw [e291,e287,e285,e286,kn]
 have hCn : z290=z125*z93 - z124*z94 := by rw [e290,e288,e289,e145,e164]; exact tt_n ..
 have hCi : z292=(z125*z93 - z124*z94) / z274 := by rw [e292,hCn]
 have hD : z299=(z138*z93+z139*z94) / z274 := by rw [e299,e295,e293,e294,kn]
 have hDn : z298=z139*z93 - z138*z94 := by rw [e298,e296,e297,e145,e173]; exact tt_n ..
 have hDi : z300=(z139*z93 - z138*z94) / z274 := by rw [e300,hDn]
 rw [e323,e319,e318,e317,e316,e315,e314,e313,e312,e311,e310,e309,e307,e303,e302,e301]
 exact (tt_q hA hAi hB hBi hC hCi hD hDi F0.1 F0.2).1
theorem turnThree_f54 {z0 z1 z2 z3 z4 z5 z6 z7 z10 z11 z16 z17 z38 z39 z40 z41 z42 z43 z44 z45 z48 z49 z54 z55 z93 z94 z109 z110 z124 z125 z138 z139 z140 z145 z164 z173 z266 z267 z268 z269 z270 z271 z272 z273 z274 z275 z276 z280 z281 z282 z284 z285 z286 z287 z288 z289 z290 z291 z292 z293 z294 z295 z296 z297 z298 z299 z300 z304 z305 z306 z308 z309 z310 z311 z312 z313 z314 z315 z316 z320 z321 z322 z324 : Rat} : z6=z2-z0→z7=z3-z1→z10=z4-z0→z11=z5-z1→z16=z4-z2→z17=z5-z3→z44=z40-z38→z45=z41-z39→z48=z42-z38→z49=z43-z39→z54=z42-z40→z55=z43-z41→z140=-z110→z145=-z94→z164=-z125→z173=-z139→z266=-z145→z267=z93*z93→z268=z94*z266→z269=z267+z268→z270=z93*z145→z271=z145*z93→z272=z270-z271→z273=z94*z94→z274=z267+z273→z275=z269/z274→z276=z272/z274→z280=z109*z145→z281=z140*z93→z282=z280-z281→z284=z282/z274→z285=z124*z93→z286=z125*z266→z287=z285+z286→z288=z124*z145→z289=z164*z93→z290=z288-z289→z291=z287/z274→z292=z290/z274→z293=z138*z93→z294=z139*z266→z295=z293+z294→z296=z138*z145→z297=z173*z93→z298=z296-z297→z299=z295/z274→z300=z298/z274→z304=z275*z1→z305=z276*z0→z306=z304+z305→z308=z306+z284→z309=z291*z0→z310=z292*z1→z311=z309-z310→z312=z291*z1→z313=z292*z0→z314=z312+z313→z315=z311+z299→z316=z314+z300→z320=z315*z39→z321=z316*z38→z322=z320+z321→z324=z308-z322→(¬ (z6=0∧z7=0))→(¬ (z10=0∧z11=0))→(¬ (z16=0∧z17=0))→(¬ (z44=0∧z45=0))→(¬ (z48=0∧z49=0))→(¬ (z54=0∧z55=0))→(¬ (z93=0∧z94=0))→(z93*z0-z94*z1+z109=(z124*z0-z125*z1+z138)*z38-(z124*z1+z125*z0+z139)*z39∧z93*z1+z94*z0+z110=(z124*z0-z125*z1+z138)*z39+(z124*z1+z125*z0+z139)*z38)→z324=0 := by
 intro e6 e7 e10 e11 e16 e17 e44 e45 e48 e49 e54 e55 e140 e145 e164 e173 e266 e267 e268 e269 e270 e271 e272 e273 e274 e275 e276 e280 e281 e282 e284 e285 e286 e287 e288 e289 e290 e291 e292 e293 e294 e295 e296 e297 e298 e299 e300 e304 e305 e306 e308 e309 e310 e311 e312 e313 e314 e315 e316 e320 e321 e322 e324 u0 u1 u2 u3 u4 u5 u6 F0
 have kn : z266=z94 := by rw [e266,e145]; exact Rat.neg_neg _
 have hA : z275=(z93*z93+z94*z94) / z274 := by rw [e275,e269,e267,e268,kn]
 have hAn : z272=z94*z93 - z93*z94 := by rw [e272,e270,e271,e145]; exact tt_n ..
 have hAi : z276=(z94*z93 - z93*z94) / z274 := by rw [e276,hAn]
 have hB : (z109*z93+z110*z94) / z274=(z109*z93+z110*z94) / z274 := rfl
 have hBn : z282=z110*z93 - z109*z94 := by rw [e282,e280,e281,e145,e140]; exact tt_n ..
 have hBi : z284=(z110*z93 - z109*z94) / z274 := by rw [e284,hBn]
 have hC : z291=(z124*z93+z125*z94) / z274 := by rw [e291,e287,e285,e286,kn]
 have hCn : z290=z125*z93 - z124*z94 := by rw [e290,e288,e289,e145,e164]; exact tt_n ..
 have hCi : z292=(z125*z93 - z124*z94) / z274 := by rw [e292,hCn]
 have hD : z299=(z138*z93+z139*z94) / z274 := by rw [e299,e295,e293,e294,kn]
 have hDn : z298=z139*z93 - z138*z94 := by rw [e298,e296,e297,e145,e173]; exact tt_n ..
 have hDi : z300=(z139*z93 - z138*z94) / z274 := by rw [e300,hDn]
 rw [e324,e322,e321,e320,e316,e315,e314,e313,e312,e311,e310,e309,e308,e306,e305,e304]
 exact (tt_q hA hAi hB hBi hC hCi hD hDi F0.1 F0.2).2
theorem turnThree_f55 {z0 z1 z2 z3 z4 z5 z6 z7 z10 z11 z16 z17 z38 z39 z40 z41 z42 z43 z44 z45 z48 z49 z54 z55 z93 z94 z109 z110 z124 z125 z138 z139 z145 z164 z173 z266 z267 z268 z269 z270 z271 z272 z273 z274 z275 z276 z277 z278 z279 z283 z285 z286 z287 z288 z289 z290 z291 z292 z293 z294 z295 z296 z297 z298 z299 z300 z325 z326 z327 z331 z333 z334 z335 z336 z337 z338 z339 z340 z341 z342 z343 z347 : Rat} : z6=z2-z0→z7=z3-z1→z10=z4-z0→z11=z5-z1→z16=z4-z2→z17=z5-z3→z44=z40-z38→z45=z41-z39→z48=z42-z38→z49=z43-z39→z54=z42-z40→z55=z43-z41→z145=-z94→z164=-z125→z173=-z139→z266=-z145→z267=z93*z93→z268=z94*z266→z269=z267+z268→z270=z93*z145→z271=z145*z93→z272=z270-z271→z273=z94*z94→z274=z267+z273→z275=z269/z274→z276=z272/z274→z277=z109*z93→z278=z110*z266→z279=z277+z278→z283=z279/z274→z285=z124*z93→z286=z125*z266→z287=z285+z286→z288=z124*z145→z289=z164*z93→z290=z288-z289→z291=z287/z274→z292=z290/z274→z293=z138*z93→z294=z139*z266→z295=z293+z294→z296=z138*z145→z297=z173*z93→z298=z296-z297→z299=z295/z274→z300=z298/z274→z325=z275*z2→z326=z276*z3→z327=z325-z326→z331=z327+z283→z333=z291*z2→z334=z292*z3→z335=z333-z334→z336=z291*z3→z337=z292*z2→z338=z336+z337→z339=z335+z299→z340=z338+z300→z341=z339*z40→z342=z340*z41→z343=z341-z342→z347=z331-z343→(¬ (z6=0∧z7=0))→(¬ (z10=0∧z11=0))→(¬ (z16=0∧z17=0))→(¬ (z44=0∧z45=0))→(¬ (z48=0∧z49=0))→(¬ (z54=0∧z55=0))→(¬ (z93=0∧z94=0))→(z93*z2-z94*z3+z109=(z124*z2-z125*z3+z138)*z40-(z124*z3+z125*z2+z139)*z41∧z93*z3+z94*z2+z110=(z124*z2-z125*z3+z138)*z41+(z124*z3+z125*z2+z139)*z40)→z347=0 := by
 intro e6 e7 e10 e11 e16 e17 e44 e45 e48 e49 e54 e55 e145 e164 e173 e266 e267 e268 e269 e270 e271 e272 e273 e274 e275 e276 e277 e278 e279 e283 e285 e286 e287 e288 e289 e290 e291 e292 e293 e294 e295 e296 e297 e298 e299 e300 e325 e326 e327 e331 e333 e334 e335 e336 e337 e338 e339 e340 e341 e342 e343 e347 u0 u1 u2 u3 u4 u5 u6 F0
 have kn : z266=z94 := by rw [e266,e145]; exact Rat.neg_neg _
 have hA : z275=(z93*z93+z94*z94) / z274 := by rw [e275,e269,e267,e268,kn]
 have hAn : z272=z94*z93 - z93*z94 := by rw [e272,e270,e271,e145]; exact tt_n ..
 have hAi : z276=(z94*z93 - z93*z94) / z274 := by rw [e276,hAn]
 have hB : z283=(z109*z93+z110*z94) / z274 := by rw [e283,e279,e277,e278,kn]
 have hBi : (z110*z93 - z109*z94) / z274=(z110*z93 - z109*z94) / z274 := rfl
 have hC : z291=(z124*z93+z125*z94) / z274 := by rw [e291,e287,e285,e286,kn]
 have hCn : z290=z125*z93 - z124*z94 := by rw [e290,e288,e289,e145,e164]; exact tt_n ..
 have hCi : z292=(z125*z93 - z124*z94) / z274 := by rw [e292,hCn]
 have hD : z299=(z138*z93+z139*z94) / z274 := by rw [e299,e295,e293,e294,kn]
 have hDn : z298=z139*z93 - z138*z94 := by rw [e298,e296,e297,e145,e173]; exact tt_n ..
 have hDi : z300=(z139*z93 - z138*z94) / z274 := by rw [e300,hDn]
 rw [e347,e343,e342,e341,e340,e339,e338,e337,e336,e335,e334,e333,e331,e327,e326,e325]
 exact (tt_q hA hAi hB hBi hC hCi hD hDi F0.1 F0.2).1
theorem turnThree_f56 {z0 z1 z2 z3 z4 z5 z6 z7 z10 z11 z16 z17 z38 z39 z40 z41 z42 z43 z44 z45 z48 z49 z54 z55 z93 z94 z109 z110 z124 z125 z138 z139 z140 z145 z164 z173 z266 z267 z268 z269 z270 z271 z272 z273 z274 z275 z276 z280 z281 z282 z284 z285 z286 z287 z288 z289 z290 z291 z292 z293 z294 z295 z296 z297 z298 z299 z300 z328 z329 z330 z332 z333 z334 z335 z336 z337 z338 z339 z340 z344 z345 z346 z348 : Rat} : z6=z2-z0→z7=z3-z1→z10=z4-z0→z11=z5-z1→z16=z4-z2→z17=z5-z3→z44=z40-z38→z45=z41-z39→z48=z42-z38→z49=z43-z39→z54=z42-z40→z55=z43-z41→z140=-z110→z145=-z94→z164=-z125→z173=-z139→z266=-z145→z267=z93*z93→z268=z94*z266→z269=z267+z268→z270=z93*z145→z271=z145*z93→z272=z270-z271→z273=z94*z94→z274=z267+z273→z275=z269/z274→z276=z272/z274→z280=z109*z145→z281=z140*z93→z282=z280-z281→z284=z282/z274→z285=z124*z93→z286=z125*z266→z287=z285+z286→z288=z124*z145→z289=z164*z93→z290=z288-z289→z291=z287/z274→z292=z290/z274→z293=z138*z93→z294=z139*z266→z295=z293+z294→z296=z138*z145→z297=z173*z93→z298=z296-z297→z299=z295/z274→z300=z298/z274→z328=z275*z3→z329=z276*z2→z330=z328+z329→z332=z330+z284→z333=z291*z2→z334=z292*z3→z335=z333-z334→z336=z291*z3→z337=z292*z2→z338=z336+z337→z339=z335+z299→z340=z338+z300→z344=z339*z41→z345=z340*z40→z346=z344+z345→z348=z332-z346→(¬ (z6=0∧z7=0))→(¬ (z10=0∧z11=0))→(¬ (z16=0∧z17=0))→(¬ (z44=0∧z45=0))→(¬ (z48=0∧z49=0))→(¬ (z54=0∧z55=0))→(¬ (z93=0∧z94=0))→(z93*z2-z94*z3+z109=(z124*z2-z125*z3+z138)*z40-(z124*z3+z125*z2+z139)*z41∧z93*z3+z94*z2+z110=(z124*z2-z125*z3+z138)*z41+(z124*z3+z125*z2+z139)*z40)→z348=0 := by
 intro e6 e7 e10 e11 e16 e17 e44 e45 e48 e49 e54 e55 e140 e145 e164 e173 e266 e267 e268 e269 e270 e271 e272 e273 e274 e275 e276 e280 e281 e282 e284 e285 e286 e287 e288 e289 e290 e291 e292 e293 e294 e295 e296 e297 e298 e299 e300 e328 e329 e330 e332 e333 e334 e335 e336 e337 e338 e339 e340 e344 e345 e346 e348 u0 u1 u2 u3 u4 u5 u6 F0
 have kn : z266=z94 := by rw [e266,e145]; exact Rat.neg_neg _
 have hA : z275=(z93*z93+z94*z94) / z274 := by rw [e275,e269,e267,e268,kn]
 have hAn : z272=z94*z93 - z93*z94 := by rw [e272,e270,e271,e145]; exact tt_n ..
 have hAi : z276=(z94*z93 - z93*z94) / z274 := by rw [e276,hAn]
 have hB : (z109*z93+z110*z94) / z274=(z109*z93+z110*z94) / z274 := rfl
 have hBn : z282=z110*z93 - z109*z94 := by rw [e282,e280,e281,e145,e140]; exact tt_n ..
 have hBi : z284=(z110*z93 - z109*z94) / z274 := by rw [e284,hBn]
 have hC : z291=(z124*z93+z125*z94) / z274 := by rw [e291,e287,e285,e286,kn]
 have hCn : z290=z125*z93 - z124*z94 := by rw [e290,e288,e289,e145,e164]; exact tt_n ..
 have hCi : z292=(z125*z93 - z124*z94) / z274 := by rw [e292,hCn]
 have hD : z299=(z138*z93+z139*z94) / z274 := by rw [e299,e295,e293,e294,kn]
 have hDn : z298=z139*z93 - z138*z94 := by rw [e298,e296,e297,e145,e173]; exact tt_n ..
 have hDi : z300=(z139*z93 - z138*z94) / z274 := by rw [e300,hDn]
 rw [e348,e346,e345,e344,e340,e339,e338,e337,e336,e335,e334,e333,e332,e330,e329,e328]
 exact (tt_q hA hAi hB hBi hC hCi hD hDi F0.1 F0.2).2
theorem turnThree_f57 {z0 z1 z2 z3 z4 z5 z6 z7 z10 z11 z16 z17 z38 z39 z40 z41 z42 z43 z44 z45 z48 z49 z54 z55 z93 z94 z109 z110 z124 z125 z138 z139 z145 z164 z173 z266 z267 z268 z269 z270 z271 z272 z273 z274 z275 z276 z277 z278 z279 z283 z285 z286 z287 z288 z289 z290 z291 z292 z293 z294 z295 z296 z297 z298 z299 z300 z349 z350 z351 z355 z357 z358 z359 z360 z361 z362 z363 z364 z365 z366 z367 z371 : Rat} : z6=z2-z0→z7=z3-z1→z10=z4-z0→z11=z5-z1→z16=z4-z2→z17=z5-z3→z44=z40-z38→z45=z41-z39→z48=z42-z38→z49=z43-z39→z54=z42-z40→z55=z43-z41→z145=-z94→z164=-z125→z173=-z139→z266=-z145→z267=z93*z93→z268=z94*z266→z269=z267+z268→z270=z93*z145→z271=z145*z93→z272=z270-z271→z273=z94*z94→z274=z267+z273→z275=z269/z274→z276=z272/z274→z277=z109*z93→z278=z110*z266→z279=z277+z278→z283=z279/z274→z285=z124*z93→z286=z125*z266→z287=z285+z286→z288=z124*z145→z289=z164*z93→z290=z288-z289→z291=z287/z274→z292=z290/z274→z293=z138*z93→z294=z139*z266→z295=z293+z294→z296=z138*z145→z297=z173*z93→z298=z296-z297→z299=z295/z274→z300=z298/z274→z349=z275*z4→z350=z276*z5→z351=z349-z350→z355=z351+z283→z357=z291*z4→z358=z292*z5→z359=z357-z358→z360=z291*z5→z361=z292*z4→z362=z360+z361→z363=z359+z299→z364=z362+z300→z365=z363*z42→z366=z364*z43→z367=z365-z366→z371=z355-z367→(¬ (z6=0∧z7=0))→(¬ (z10=0∧z11=0))→(¬ (z16=0∧z17=0))→(¬ (z44=0∧z45=0))→(¬ (z48=0∧z49=0))→(¬ (z54=0∧z55=0))→(¬ (z93=0∧z94=0))→(z93*z4-z94*z5+z109=(z124*z4-z125*z5+z138)*z42-(z124*z5+z125*z4+z139)*z43∧z93*z5+z94*z4+z110=(z124*z4-z125*z5+z138)*z43+(z124*z5+z125*z4+z139)*z42)→z371=0 := by
 intro e6 e7 e10 e11 e16 e17 e44 e45 e48 e49 e54 e55 e145 e164 e173 e266 e267 e268 e269 e270 e271 e272 e273 e274 e275 e276 e277 e278 e279 e283 e285 e286 e287 e288 e289 e290 e291 e292 e293 e294 e295 e296 e297 e298 e299 e300 e349 e350 e351 e355 e357 e358 e359 e360 e361 e362 e363 e364 e365 e366 e367 e371 u0 u1 u2 u3 u4 u5 u6 F0
 have kn : z266=z94 := by rw [e266,e145]; exact Rat.neg_neg _
 have hA : z275=(z93*z93+z94*z94) / z274 := by rw [e275,e269,e267,e268,kn]
 have hAn : z272=z94*z93 - z93*z94 := by rw [e272,e270,e271,e145]; exact tt_n ..
 have hAi : z276=(z94*z93 - z93*z94) / z274 := by rw [e276,hAn]
 have hB : z283=(z109*z93+z110*z94) / z274 := by rw [e283,e279,e277,e278,kn]
 have hBi : (z110*z93 - z109*z94) / z274=(z110*z93 - z109*z94) / z274 := rfl
 have hC : z291=(z124*z93+z125*z94) / z274 := by rw [e291,e287,e285,e286,kn]
 have hCn : z290=z125*z93 - z124*z94 := by rw [e290,e288,e289,e145,e164]; exact tt_n ..
 have hCi : z292=(z125*z93 - z124*z94) / z274 := by rw [e292,hCn]
 have hD : z299=(z138*z93+z139*z94) / z274 := by rw [e299,e295,e293,e294,kn]
 have hDn : z298=z139*z93 - z138*z94 := by rw [e298,e296,e297,e145,e173]; exact tt_n ..
 have hDi : z300=(z139*z93 - z138*z94) / z274 := by rw [e300,hDn]
 rw [e371,e367,e366,e365,e364,e363,e362,e361,e360,e359,e358,e357,e355,e351,e350,e349]
 exact (tt_q hA hAi hB hBi hC hCi hD hDi F0.1 F0.2).1
theorem turnThree_f58 {z0 z1 z2 z3 z4 z5 z6 z7 z10 z11 z16 z17 z38 z39 z40 z41 z42 z43 z44 z45 z48 z49 z54 z55 z93 z94 z109 z110 z124 z125 z138 z139 z140 z145 z164 z173 z266 z267 z268 z269 z270 z271 z272 z273 z274 z275 z276 z280 z281 z282 z284 z285 z286 z287 z288 z289 z290 z291 z292 z293 z294 z295 z296 z297 z298 z299 z300 z352 z353 z354 z356 z357 z358 z359 z360 z361 z362 z363 z364 z368 z369 z370 z372 : Rat} : z6=z2-z0→z7=z3-z1→z10=z4-z0→z11=z5-z1→z16=z4-z2→z17=z5-z3→z44=z40-z38→z45=z41-z39→z48=z42-z38→z49=z43-z39→z54=z42-z40→z55=z43-z41→z140=-z110→z145=-z94→z164=-z125→z173=-z139→z266=-z145→z267=z93*z93→z268=z94*z266→z269=z267+z268→z270=z93*z145→z271=z145*z93→z272=z270-z271→z273=z94*z94→z274=z267+z273→z275=z269/z274→z276=z272/z274→z280=z109*z145→z281=z140*z93→z282=z280-z281→z284=z282/z274→z285=z124*z93→z286=z125*z266→z287=z285+z286→z288=z124*z145→z289=z164*z93→z290=z288-z289→z291=z287/z274→z292=z290/z274→z293=z138*z93→z294=z139*z266→z295=z293+z294→z296=z138*z145→z297=z173*z93→z298=z296-z297→z299=z295/z274→z300=z298/z274→z352=z275*z5→z353=z276*z4→z354=z352+z353→z356=z354+z284→z357=z291*z4→z358=z292*z5→z359=z357-z358→z360=z291*z5→z361=z292*z4→z362=z360+z361→z363=z359+z299→z364=z362+z300→z368=z363*z43→z369=z364*z42→z370=z368+z369→z372=z356-z370→(¬ (z6=0∧z7=0))→(¬ (z10=0∧z11=0))→(¬ (z16=0∧z17=0))→(¬ (z44=0∧z45=0))→(¬ (z48=0∧z49=0))→(¬ (z54=0∧z55=0))→(¬ (z93=0∧z94=0))→(z93*z4-z94*z5+z109=(z124*z4-z125*z5+z138)*z42-(z124*z5+z125*z4+z139)*z43∧z93*z5+z94*z4+z110=(z124*z4-z125*z5+z138)*z43+(z124*z5+z125*z4+z139)*z42)→z372=0 := by
 intro e6 e7 e10 e11 e16 e17 e44 e45 e48 e49 e54 e55 e140 e145 e164 e173 e266 e267 e268 e269 e270 e271 e272 e273 e274 e275 e276 e280 e281 e282 e284 e285 e286 e287 e288 e289 e290 e291 e292 e293 e294 e295 e296 e297 e298 e299 e300 e352 e353 e354 e356 e357 e358 e359 e360 e361 e362 e363 e364 e368 e369 e370 e372 u0 u1 u2 u3 u4 u5 u6 F0
 have kn : z266=z94 := by rw [e266,e145]; exact Rat.neg_neg _
 have hA : z275=(z93*z93+z94*z94) / z274 := by rw [e275,e269,e267,e268,kn]
 have hAn : z272=z94*z93 - z93*z94 := by rw [e272,e270,e271,e145]; exact tt_n ..
 have hAi : z276=(z94*z93 - z93*z94) / z274 := by rw [e276,hAn]
 have hB : (z109*z93+z110*z94) / z274=(z109*z93+z110*z94) / z274 := rfl
 have hBn : z282=z110*z93 - z109*z94 := by rw [e282,e280,e281,e145,e140]; exact tt_n ..
 have hBi : z284=(z110*z93 - z109*z94) / z274 := by rw [e284,hBn]
 have hC : z291=(z124*z93+z125*z94) / z274 := by rw [e291,e287,e285,e286,kn]
 have hCn : z290=z125*z93 - z124*z94 := by rw [e290,e288,e289,e145,e164]; exact tt_n ..
 have hCi : z292=(z125*z93 - z124*z94) / z274 := by rw [e292,hCn]
 have hD : z299=(z138*z93+z139*z94) / z274 := by rw [e299,e295,e293,e294,kn]
 have hDn : z298=z139*z93 - z138*z94 := by rw [e298,e296,e297,e145,e173]; exact tt_n ..
 have hDi : z300=(z139*z93 - z138*z94) / z274 := by rw [e300,hDn]
 rw [e372,e370,e369,e368,e364,e363,e362,e361,e360,e359,e358,e357,e356,e354,e353,e352]
 exact (tt_q hA hAi hB hBi hC hCi hD hDi F0.1 F0.2).2
theorem turnThree_f59 {z0 z1 z2 z3 z4 z5 z6 z7 z10 z11 z16 z17 z38 z39 z40 z41 z42 z43 z44 z45 z48 z49 z54 z55 z93 z94 z145 z266 z267 z268 z269 z273 z274 z275 : Rat} : z6=z2-z0→z7=z3-z1→z10=z4-z0→z11=z5-z1→z16=z4-z2→z17=z5-z3→z44=z40-z38→z45=z41-z39→z48=z42-z38→z49=z43-z39→z54=z42-z40→z55=z43-z41→z145=-z94→z266=-z145→z267=z93*z93→z268=z94*z266→z269=z267+z268→z273=z94*z94→z274=z267+z273→z275=z269/z274→(¬ (z6=0∧z7=0))→(¬ (z10=0∧z11=0))→(¬ (z16=0∧z17=0))→(¬ (z44=0∧z45=0))→(¬ (z48=0∧z49=0))→(¬ (z54=0∧z55=0))→(¬ (z93=0∧z94=0))→¬ (z275=0) := by
 intro e6 e7 e10 e11 e16 e17 e44 e45 e48 e49 e54 e55 e145 e266 e267 e268 e269 e273 e274 e275 u0 u1 u2 u3 u4 u5 u6
 have nl := u6
 have en : z274=z93*z93+z94*z94 := by rw [e274,e267,e273]
 have hn : z274 ≠ 0 := by
  have hp := sq_pos nl
  rw [← en] at hp
  intro h
  rw [h] at hp
  exact absurd hp (by decide)
 have kn : z266=z94 := by rw [e266,e145]; exact Rat.neg_neg _
 have h1 : z269=z274 := by rw [e269,e267,e268,kn,en]
 have h2 : z275=1 := by rw [e275,h1,Rat.div_def]; exact Rat.mul_inv_cancel _ hn
 rw [h2]
 decide
theorem turnThree_f60 {z0 z1 z2 z3 z4 z5 z6 z7 z10 z11 z16 z17 z38 z39 z40 z41 z42 z43 z44 z45 z48 z49 z54 z55 z93 z94 z109 z110 z124 z125 z138 z139 z140 z145 z164 z173 z266 z267 z268 z269 z270 z271 z272 z273 z274 z275 z276 z277 z278 z279 z280 z281 z282 z283 z284 z285 z286 z287 z288 z289 z290 z291 z292 z293 z294 z295 z296 z297 z298 z299 z300 z373 z374 z375 z376 z377 z378 z379 z380 z381 z382 z383 z384 z385 z386 : Rat} : z6=z2-z0→z7=z3-z1→z10=z4-z0→z11=z5-z1→z16=z4-z2→z17=z5-z3→z44=z40-z38→z45=z41-z39→z48=z42-z38→z49=z43-z39→z54=z42-z40→z55=z43-z41→z140=-z110→z145=-z94→z164=-z125→z173=-z139→z266=-z145→z267=z93*z93→z268=z94*z266→z269=z267+z268→z270=z93*z145→z271=z145*z93→z272=z270-z271→z273=z94*z94→z274=z267+z273→z275=z269/z274→z276=z272/z274→z277=z109*z93→z278=z110*z266→z279=z277+z278→z280=z109*z145→z281=z140*z93→z282=z280-z281→z283=z279/z274→z284=z282/z274→z285=z124*z93→z286=z125*z266→z287=z285+z286→z288=z124*z145→z289=z164*z93→z290=z288-z289→z291=z287/z274→z292=z290/z274→z293=z138*z93→z294=z139*z266→z295=z293+z294→z296=z138*z145→z297=z173*z93→z298=z296-z297→z299=z295/z274→z300=z298/z274→z373=z275*z299→z374=z276*z300→z375=z373-z374→z376=z275*z300→z377=z276*z299→z378=z376+z377→z379=z283*z291→z380=z284*z292→z381=z379-z380→z382=z283*z292→z383=z284*z291→z384=z382+z383→z385=z375-z381→z386=z378-z384→(¬ (z6=0∧z7=0))→(¬ (z10=0∧z11=0))→(¬ (z16=0∧z17=0))→(¬ (z44=0∧z45=0))→(¬ (z48=0∧z49=0))→(¬ (z54=0∧z55=0))→(¬ (z93=0∧z94=0))→(¬ (z93*z138-z94*z139-(z109*z124-z110*z125)=0∧z93*z139+z94*z138-(z109*z125+z110*z124)=0))→¬ (z385=0∧z386=0) := by
 intro e6 e7 e10 e11 e16 e17 e44 e45 e48 e49 e54 e55 e140 e145 e164 e173 e266 e267 e268 e269 e270 e271 e272 e273 e274 e275 e276 e277 e278 e279 e280 e281 e282 e283 e284 e285 e286 e287 e288 e289 e290 e291 e292 e293 e294 e295 e296 e297 e298 e299 e300 e373 e374 e375 e376 e377 e378 e379 e380 e381 e382 e383 e384 e385 e386 u0 u1 u2 u3 u4 u5 u6 F0
 have nl := u6
 have en : z274=z93*z93+z94*z94 := by rw [e274,e267,e273]
 have hn : z274 ≠ 0 := by
  have hp := sq_pos nl
  rw [← en] at hp
  intro h
  rw [h] at hp
  exact absurd hp (by decide)
 have kn : z266=z94 := by rw [e266,e145]; exact Rat.neg_neg _
 have hA : z275=(z93*z93+z94*z94) / z274 := by rw [e275,e269,e267,e268,kn]
 have hAn : z272=z94*z93 - z93*z94 := by rw [e272,e270,e271,e145]; exact tt_n ..
 have hAi : z276=(z94*z93 - z93*z94) / z274 := by rw [e276,hAn]
 have hB : z283=(z109*z93+z110*z94) / z274 := by rw [e283,e279,e277,e278,kn]
 have hBn : z282=z110*z93 - z109*z94 := by rw [e282,e280,e281,e145,e140]; exact tt_n ..
 have hBi : z284=(z110*z93 - z109*z94) / z274 := by rw [e284,hBn]
 have hC : z291=(z124*z93+z125*z94) / z274 := by rw [e291,e287,e285,e286,kn]
 have hCn : z290=z125*z93 - z124*z94 := by rw [e290,e288,e289,e145,e164]; exact tt_n ..
 have hCi : z292=(z125*z93 - z124*z94) / z274 := by rw [e292,hCn]
 have hD : z299=(z138*z93+z139*z94) / z274 := by rw [e299,e295,e293,e294,kn]
 have hDn : z298=z139*z93 - z138*z94 := by rw [e298,e296,e297,e145,e173]; exact tt_n ..
 have hDi : z300=(z139*z93 - z138*z94) / z274 := by rw [e300,hDn]
 rw [e386,e385,e384,e383,e382,e381,e380,e379,e378,e377,e376,e375,e374,e373]
 exact tt_d hn en hA hAi hB hBi hC hCi hD hDi F0
theorem turnThree_f61 {z0 z1 z2 z3 z4 z5 z6 z7 z10 z11 z16 z17 z38 z39 z40 z41 z42 z43 z44 z45 z48 z49 z54 z55 z93 z94 z145 z265 z266 z267 z268 z269 z273 z274 z275 : Rat} : z6=z2-z0→z7=z3-z1→z10=z4-z0→z11=z5-z1→z16=z4-z2→z17=z5-z3→z44=z40-z38→z45=z41-z39→z48=z42-z38→z49=z43-z39→z54=z42-z40→z55=z43-z41→z145=-z94→z265=1→z266=-z145→z267=z93*z93→z268=z94*z266→z269=z267+z268→z273=z94*z94→z274=z267+z273→z275=z269/z274→(¬ (z6=0∧z7=0))→(¬ (z10=0∧z11=0))→(¬ (z16=0∧z17=0))→(¬ (z44=0∧z45=0))→(¬ (z48=0∧z49=0))→(¬ (z54=0∧z55=0))→(¬ (z93=0∧z94=0))→z275=z265 := by
 intro e6 e7 e10 e11 e16 e17 e44 e45 e48 e49 e54 e55 e145 e265 e266 e267 e268 e269 e273 e274 e275 u0 u1 u2 u3 u4 u5 u6
 have nl := u6
 have en : z274=z93*z93+z94*z94 := by rw [e274,e267,e273]
 have hn : z274 ≠ 0 := by
  have hp := sq_pos nl
  rw [← en] at hp
  intro h
  rw [h] at hp
  exact absurd hp (by decide)
 have kn : z266=z94 := by rw [e266,e145]; exact Rat.neg_neg _
 have h1 : z269=z274 := by rw [e269,e267,e268,kn,en]
 have h2 : z275=1 := by rw [e275,h1,Rat.div_def]; exact Rat.mul_inv_cancel _ hn
 rw [h2,e265]
theorem turnThree_f62 {z0 z1 z2 z3 z4 z5 z6 z7 z10 z11 z16 z17 z38 z39 z40 z41 z42 z43 z44 z45 z48 z49 z54 z55 z93 z94 z145 z267 z270 z271 z272 z273 z274 z276 : Rat} : z6=z2-z0→z7=z3-z1→z10=z4-z0→z11=z5-z1→z16=z4-z2→z17=z5-z3→z44=z40-z38→z45=z41-z39→z48=z42-z38→z49=z43-z39→z54=z42-z40→z55=z43-z41→z145=-z94→z267=z93*z93→z270=z93*z145→z271=z145*z93→z272=z270-z271→z273=z94*z94→z274=z267+z273→z276=z272/z274→(¬ (z6=0∧z7=0))→(¬ (z10=0∧z11=0))→(¬ (z16=0∧z17=0))→(¬ (z44=0∧z45=0))→(¬ (z48=0∧z49=0))→(¬ (z54=0∧z55=0))→(¬ (z93=0∧z94=0))→z276=0 := by
 intro e6 e7 e10 e11 e16 e17 e44 e45 e48 e49 e54 e55 e145 e267 e270 e271 e272 e273 e274 e276 u0 u1 u2 u3 u4 u5 u6
 have h1 : z272=0 := by rw [e272,e270,e271]; grind
 rw [e276,h1,Rat.div_def,Rat.zero_mul]
theorem turnThree_r0 : (callB (sx Tryz.prog turnThree_N [(6,6,7,1),(6,8,9,1)] [] turnThree_L turnThree_C turnThree_Z (prQ [9])) 6 4 turnThree_A [] 0).map (·.1)=some (kB true) := by kernel_rfl
theorem turnThree_r1 : (callB (sx Tryz.prog turnThree_N [(6,6,7,0),(6,10,11,1),(6,8,9,0),(6,12,13,0),(6,14,15,1)] [] turnThree_L turnThree_C turnThree_Z (prQ [9])) 6 4 turnThree_A [] 0).map (·.1)=some (kB true) := by kernel_rfl
theorem turnThree_r2 : (callB (sx Tryz.prog turnThree_N [(6,6,7,0),(6,10,11,0),(6,16,17,1),(6,8,9,0),(6,12,13,1)] [] turnThree_L turnThree_C turnThree_Z (prQ [9])) 6 4 turnThree_A [] 0).map (·.1)=some (kB true) := by kernel_rfl
theorem turnThree_r3 : (callB (sx Tryz.prog turnThree_N [(6,6,7,0),(6,10,11,0),(6,16,17,0),(6,44,45,1),(6,8,9,0),(6,12,13,0),(6,14,15,0),(6,46,47,1)] [] turnThree_L turnThree_C turnThree_Z (prQ [9])) 6 4 turnThree_A [] 0).map (·.1)=some (kB true) := by kernel_rfl
theorem turnThree_r4 : (callB (sx Tryz.prog turnThree_N [(6,6,7,0),(6,10,11,0),(6,16,17,0),(6,44,45,0),(6,48,49,1),(6,8,9,0),(6,12,13,0),(6,14,15,0),(6,46,47,0),(6,50,51,0),(6,52,53,1)] [] turnThree_L turnThree_C turnThree_Z (prQ [9])) 6 4 turnThree_A [] 0).map (·.1)=some (kB true) := by kernel_rfl
theorem turnThree_r5 : (callB (sx Tryz.prog turnThree_N [(6,6,7,0),(6,10,11,0),(6,16,17,0),(6,44,45,0),(6,48,49,0),(6,54,55,1),(6,8,9,0),(6,12,13,0),(6,14,15,0),(6,46,47,0),(6,50,51,1)] [] turnThree_L turnThree_C turnThree_Z (prQ [9])) 6 4 turnThree_A [] 0).map (·.1)=some (kB true) := by kernel_rfl
theorem turnThree_r6 : (callB (sx Tryz.prog turnThree_N [(6,6,7,0),(6,10,11,0),(6,16,17,0),(6,44,45,0),(6,48,49,0),(6,54,55,0),(6,93,94,1),(6,109,110,0),(6,8,9,0),(6,12,13,0),(6,14,15,0),(6,46,47,0),(6,50,51,0),(6,52,53,0),(6,201,202,1),(6,225,226,1),(6,249,250,1),(0,152,0,1),(0,153,0,1),(0,159,0,0),(6,263,264,0),(3,159,265,1),(0,160,0,1)] [(75,[.inr (3,141,0,0,0),.inr (3,142,0,0,0)]),(77,[.inr (3,272,0,0,0),.inr (3,274,0,0,0)])] turnThree_L turnThree_C turnThree_Z (prQ [9])) 8 4 turnThree_A [] 0).map (·.1)=some (kB true) := by kernel_rfl
theorem turnThree_r7 : (callB (sx Tryz.prog turnThree_N [(6,6,7,0),(6,10,11,0),(6,16,17,0),(6,44,45,0),(6,48,49,0),(6,54,55,0),(6,93,94,0),(6,8,9,0),(6,12,13,0),(6,14,15,0),(6,46,47,0),(6,50,51,0),(6,52,53,0),(6,323,324,1),(6,347,348,1),(6,371,372,1),(0,275,0,0),(6,385,386,0),(3,275,265,1),(0,276,0,1)] [(75,[.inr (3,141,0,0,0),.inr (3,142,0,0,0)]),(77,[.inr (3,272,0,0,0),.inr (3,274,0,0,0)])] turnThree_L turnThree_C turnThree_Z (prQ [9])) 8 4 turnThree_A [] 0).map (·.1)=some (kB true) := by kernel_rfl
theorem turnThree_An {a b : Prop} (x : a) (y : b) : a∧b := ⟨x,y⟩
theorem turnThree_leaf {H : List (Nat × Nat × Nat × Nat)} {K : List (FuncId × List AC)} {k : Nat} {q : Nat→Rat} {σ : Nat→ByteArray} {args : List AV} {vs : List Value} {w : World} (hr : (callB (sx Tryz.prog turnThree_N H K turnThree_L turnThree_C turnThree_Z (prQ [9])) k 4 args [] 0).map (·.1)=some (kB true)) (hσ : ∀ j,(σ j).size≤1048576) (hq : ∀ (a : Nat) nd,turnThree_N[a]? = some nd→q a=valN σ q nd) (h0 : ∀ a,turnThree_N.length≤a→q a=0) (hH : hAll q H) (hp : PreS w) (hA : ∀ K,A2 (avOn (cOn (evS q σ) K (fun _ => none) w)) args vs) : Calls Tryz.prog 4 vs.toArray w fun e w' => Below w.heap.size w w'∧e=.returned (.bool true) :=
 run_toldQ' k (hy_ofW hσ turnThree_wf turnThree_sz turnThree_lt turnThree_cn hq h0 hH) (by simp [closed_turned]) (by kernel_rfl) hr hp (hA K)
theorem turnThree_walk {w : World} {aax aaz abx abz acx acz bax baz bbx bbz bcx bcz : ByteArray}  (saax : aax.size≤1048576) (saaz : aaz.size≤1048576) (sabx : abx.size≤1048576) (sabz : abz.size≤1048576) (sacx : acx.size≤1048576) (sacz : acz.size≤1048576) (sbax : bax.size≤1048576) (sbaz : baz.size≤1048576) (sbbx : bbx.size≤1048576) (sbbz : bbz.size≤1048576) (sbcx : bcx.size≤1048576) (sbcz : bcz.size≤1048576) (tab : Tab w) (mx : MaxL w) :
  Calls Tryz.prog 4 #[.agg #[.string aax,.string aaz,.string abx,.string abz,.string acx,.string acz],.agg #[.string bax,.string baz,.string bbx,.string bbz,.string bcx,.string bcz]] w fun e w' => Below w.heap.size w w'∧e=.returned (.bool true) := by
 have hσ : ∀ j,(sgOf [aax,aaz,abx,abz,acx,acz,bax,baz,bbx,bbz,bcx,bcz] j).size≤1048576 := sgOf_size (by simp [saax,saaz,sabx,sabz,sacx,sacz,sbax,sbaz,sbbx,sbbz,sbcx,sbcz])
 obtain ⟨q,hq,h0⟩ := nodes_exist (sgOf [aax,aaz,abx,abz,acx,acz,bax,baz,bbx,bbz,bcx,bcz]) turnThree_N turnThree_wf
 have hA : ∀ K,A2 (avOn (cOn (evS q (sgOf [aax,aaz,abx,abz,acx,acz,bax,baz,bbx,bbz,bcx,bcz])) K (fun _ => none) w)) [(false,[(true,[.inr (2,0,0,0,0),.inr (2,1,0,0,0),.inr (2,2,0,0,0),.inr (2,3,0,0,0),.inr (2,4,0,0,0),.inr (2,5,0,0,0)])]),(false,[(true,[.inr (2,6,0,0,0),.inr (2,7,0,0,0),.inr (2,8,0,0,0),.inr (2,9,0,0,0),.inr (2,10,0,0,0),.inr (2,11,0,0,0)])])] [.agg #[.string aax,.string aaz,.string abx,.string abz,.string acx,.string acz],.agg #[.string bax,.string baz,.string bbx,.string bbz,.string bcx,.string bcz]] := fun K => ⟨⟨⟨[.string aax,.string aaz,.string abx,.string abz,.string acx,.string acz],rfl,rfl,rfl,rfl,rfl,rfl,rfl,trivial⟩,trivial⟩,⟨⟨[.string bax,.string baz,.string bbx,.string bbz,.string bcx,.string bcz],rfl,rfl,rfl,rfl,rfl,rfl,rfl,trivial⟩,trivial⟩,trivial⟩
 have E6 : q 6=q 2 - q 0 := hq 6 _ rfl
 have E7 : q 7=q 3 - q 1 := hq 7 _ rfl
 have E8 : q 8=q 0 - q 2 := hq 8 _ rfl
 have E9 : q 9=q 1 - q 3 := hq 9 _ rfl
 have E10 : q 10=q 4 - q 0 := hq 10 _ rfl
 have E11 : q 11=q 5 - q 1 := hq 11 _ rfl
 have E12 : q 12=q 2 - q 4 := hq 12 _ rfl
 have E13 : q 13=q 3 - q 5 := hq 13 _ rfl
 have E14 : q 14=q 0 - q 4 := hq 14 _ rfl
 have E15 : q 15=q 1 - q 5 := hq 15 _ rfl
 have E16 : q 16=q 4 - q 2 := hq 16 _ rfl
 have E17 : q 17=q 5 - q 3 := hq 17 _ rfl
 have E18 : q 18=-q 1 := hq 18 _ rfl
 have E19 : q 19=q 12*q 0 := hq 19 _ rfl
 have E20 : q 20=q 13*q 18 := hq 20 _ rfl
 have E21 : q 21=q 19+q 20 := hq 21 _ rfl
 have E22 : q 22=-q 13 := hq 22 _ rfl
 have E23 : q 23=q 12*q 1 := hq 23 _ rfl
 have E24 : q 24=q 22*q 0 := hq 24 _ rfl
 have E25 : q 25=q 23 - q 24 := hq 25 _ rfl
 have E26 : q 26=-q 21 := hq 26 _ rfl
 have E27 : q 27=-q 25 := hq 27 _ rfl
 have E28 : q 28=-q 5 := hq 28 _ rfl
 have E29 : q 29=q 6*q 4 := hq 29 _ rfl
 have E30 : q 30=q 7*q 28 := hq 30 _ rfl
 have E31 : q 31=q 29+q 30 := hq 31 _ rfl
 have E32 : q 32=-q 7 := hq 32 _ rfl
 have E33 : q 33=q 6*q 5 := hq 33 _ rfl
 have E34 : q 34=q 32*q 4 := hq 34 _ rfl
 have E35 : q 35=q 33 - q 34 := hq 35 _ rfl
 have E36 : q 36=-q 31 := hq 36 _ rfl
 have E37 : q 37=-q 35 := hq 37 _ rfl
 have E44 : q 44=q 40 - q 38 := hq 44 _ rfl
 have E45 : q 45=q 41 - q 39 := hq 45 _ rfl
 have E46 : q 46=q 38 - q 40 := hq 46 _ rfl
 have E47 : q 47=q 39 - q 41 := hq 47 _ rfl
 have E48 : q 48=q 42 - q 38 := hq 48 _ rfl
 have E49 : q 49=q 43 - q 39 := hq 49 _ rfl
 have E50 : q 50=q 40 - q 42 := hq 50 _ rfl
 have E51 : q 51=q 41 - q 43 := hq 51 _ rfl
 have E52 : q 52=q 38 - q 42 := hq 52 _ rfl
 have E53 : q 53=q 39 - q 43 := hq 53 _ rfl
 have E54 : q 54=q 42 - q 40 := hq 54 _ rfl
 have E55 : q 55=q 43 - q 41 := hq 55 _ rfl
 have E56 : q 56=-q 39 := hq 56 _ rfl
 have E57 : q 57=q 50*q 38 := hq 57 _ rfl
 have E58 : q 58=q 51*q 56 := hq 58 _ rfl
 have E59 : q 59=q 57+q 58 := hq 59 _ rfl
 have E60 : q 60=-q 51 := hq 60 _ rfl
 have E61 : q 61=q 50*q 39 := hq 61 _ rfl
 have E62 : q 62=q 60*q 38 := hq 62 _ rfl
 have E63 : q 63=q 61 - q 62 := hq 63 _ rfl
 have E64 : q 64=-q 59 := hq 64 _ rfl
 have E65 : q 65=-q 63 := hq 65 _ rfl
 have E66 : q 66=-q 43 := hq 66 _ rfl
 have E67 : q 67=q 44*q 42 := hq 67 _ rfl
 have E68 : q 68=q 45*q 66 := hq 68 _ rfl
 have E69 : q 69=q 67+q 68 := hq 69 _ rfl
 have E70 : q 70=-q 45 := hq 70 _ rfl
 have E71 : q 71=q 44*q 43 := hq 71 _ rfl
 have E72 : q 72=q 70*q 42 := hq 72 _ rfl
 have E73 : q 73=q 71 - q 72 := hq 73 _ rfl
 have E74 : q 74=-q 69 := hq 74 _ rfl
 have E75 : q 75=-q 73 := hq 75 _ rfl
 have E76 : q 76=-q 64 := hq 76 _ rfl
 have E77 : q 77=-q 65 := hq 77 _ rfl
 have E78 : q 78=-q 44 := hq 78 _ rfl
 have E79 : q 79=q 74*q 12 := hq 79 _ rfl
 have E80 : q 80=q 75*q 22 := hq 80 _ rfl
 have E81 : q 81=q 79+q 80 := hq 81 _ rfl
 have E82 : q 82=-q 75 := hq 82 _ rfl
 have E83 : q 83=q 74*q 13 := hq 83 _ rfl
 have E84 : q 84=q 82*q 12 := hq 84 _ rfl
 have E85 : q 85=q 83 - q 84 := hq 85 _ rfl
 have E86 : q 86=q 76*q 6 := hq 86 _ rfl
 have E87 : q 87=q 77*q 32 := hq 87 _ rfl
 have E88 : q 88=q 86+q 87 := hq 88 _ rfl
 have E89 : q 89=-q 77 := hq 89 _ rfl
 have E90 : q 90=q 76*q 7 := hq 90 _ rfl
 have E91 : q 91=q 89*q 6 := hq 91 _ rfl
 have E92 : q 92=q 90 - q 91 := hq 92 _ rfl
 have E93 : q 93=q 81+q 88 := hq 93 _ rfl
 have E94 : q 94=q 85+q 92 := hq 94 _ rfl
 have E95 : q 95=-q 27 := hq 95 _ rfl
 have E96 : q 96=q 74*q 26 := hq 96 _ rfl
 have E97 : q 97=q 75*q 95 := hq 97 _ rfl
 have E98 : q 98=q 96+q 97 := hq 98 _ rfl
 have E99 : q 99=q 74*q 27 := hq 99 _ rfl
 have E100 : q 100=q 82*q 26 := hq 100 _ rfl
 have E101 : q 101=q 99 - q 100 := hq 101 _ rfl
 have E102 : q 102=-q 37 := hq 102 _ rfl
 have E103 : q 103=q 76*q 36 := hq 103 _ rfl
 have E104 : q 104=q 77*q 102 := hq 104 _ rfl
 have E105 : q 105=q 103+q 104 := hq 105 _ rfl
 have E106 : q 106=q 76*q 37 := hq 106 _ rfl
 have E107 : q 107=q 89*q 36 := hq 107 _ rfl
 have E108 : q 108=q 106 - q 107 := hq 108 _ rfl
 have E109 : q 109=q 98+q 105 := hq 109 _ rfl
 have E110 : q 110=q 101+q 108 := hq 110 _ rfl
 have E111 : q 111=q 78*q 12 := hq 111 _ rfl
 have E112 : q 112=q 70*q 22 := hq 112 _ rfl
 have E113 : q 113=q 111+q 112 := hq 113 _ rfl
 have E114 : q 114=-q 70 := hq 114 _ rfl
 have E115 : q 115=q 78*q 13 := hq 115 _ rfl
 have E116 : q 116=q 114*q 12 := hq 116 _ rfl
 have E117 : q 117=q 115 - q 116 := hq 117 _ rfl
 have E118 : q 118=q 50*q 6 := hq 118 _ rfl
 have E119 : q 119=q 51*q 32 := hq 119 _ rfl
 have E120 : q 120=q 118+q 119 := hq 120 _ rfl
 have E121 : q 121=q 50*q 7 := hq 121 _ rfl
 have E122 : q 122=q 60*q 6 := hq 122 _ rfl
 have E123 : q 123=q 121 - q 122 := hq 123 _ rfl
 have E124 : q 124=q 113+q 120 := hq 124 _ rfl
 have E125 : q 125=q 117+q 123 := hq 125 _ rfl
 have E126 : q 126=q 78*q 26 := hq 126 _ rfl
 have E127 : q 127=q 70*q 95 := hq 127 _ rfl
 have E128 : q 128=q 126+q 127 := hq 128 _ rfl
 have E129 : q 129=q 78*q 27 := hq 129 _ rfl
 have E130 : q 130=q 114*q 26 := hq 130 _ rfl
 have E131 : q 131=q 129 - q 130 := hq 131 _ rfl
 have E132 : q 132=q 50*q 36 := hq 132 _ rfl
 have E133 : q 133=q 51*q 102 := hq 133 _ rfl
 have E134 : q 134=q 132+q 133 := hq 134 _ rfl
 have E135 : q 135=q 50*q 37 := hq 135 _ rfl
 have E136 : q 136=q 60*q 36 := hq 136 _ rfl
 have E137 : q 137=q 135 - q 136 := hq 137 _ rfl
 have E138 : q 138=q 128+q 134 := hq 138 _ rfl
 have E139 : q 139=q 131+q 137 := hq 139 _ rfl
 have E140 : q 140=-q 110 := hq 140 _ rfl
 have E141 : q 141=-q 140 := hq 141 _ rfl
 have E142 : q 142=q 93*q 109 := hq 142 _ rfl
 have E143 : q 143=q 94*q 141 := hq 143 _ rfl
 have E144 : q 144=q 142+q 143 := hq 144 _ rfl
 have E145 : q 145=-q 94 := hq 145 _ rfl
 have E146 : q 146=q 93*q 140 := hq 146 _ rfl
 have E147 : q 147=q 145*q 109 := hq 147 _ rfl
 have E148 : q 148=q 146 - q 147 := hq 148 _ rfl
 have E149 : q 149=q 109*q 109 := hq 149 _ rfl
 have E150 : q 150=q 110*q 110 := hq 150 _ rfl
 have E151 : q 151=q 149+q 150 := hq 151 _ rfl
 have E152 : q 152=q 144 / q 151 := hq 152 _ rfl
 have E153 : q 153=q 148 / q 151 := hq 153 _ rfl
 have E154 : q 154=q 110*q 141 := hq 154 _ rfl
 have E155 : q 155=q 149+q 154 := hq 155 _ rfl
 have E156 : q 156=q 109*q 140 := hq 156 _ rfl
 have E157 : q 157=q 140*q 109 := hq 157 _ rfl
 have E158 : q 158=q 156 - q 157 := hq 158 _ rfl
 have E159 : q 159=q 155 / q 151 := hq 159 _ rfl
 have E160 : q 160=q 158 / q 151 := hq 160 _ rfl
 have E161 : q 161=q 124*q 109 := hq 161 _ rfl
 have E162 : q 162=q 125*q 141 := hq 162 _ rfl
 have E163 : q 163=q 161+q 162 := hq 163 _ rfl
 have E164 : q 164=-q 125 := hq 164 _ rfl
 have E165 : q 165=q 124*q 140 := hq 165 _ rfl
 have E166 : q 166=q 164*q 109 := hq 166 _ rfl
 have E167 : q 167=q 165 - q 166 := hq 167 _ rfl
 have E168 : q 168=q 163 / q 151 := hq 168 _ rfl
 have E169 : q 169=q 167 / q 151 := hq 169 _ rfl
 have E170 : q 170=q 138*q 109 := hq 170 _ rfl
 have E171 : q 171=q 139*q 141 := hq 171 _ rfl
 have E172 : q 172=q 170+q 171 := hq 172 _ rfl
 have E173 : q 173=-q 139 := hq 173 _ rfl
 have E174 : q 174=q 138*q 140 := hq 174 _ rfl
 have E175 : q 175=q 173*q 109 := hq 175 _ rfl
 have E176 : q 176=q 174 - q 175 := hq 176 _ rfl
 have E177 : q 177=q 172 / q 151 := hq 177 _ rfl
 have E178 : q 178=q 176 / q 151 := hq 178 _ rfl
 have E179 : q 179=q 152*q 0 := hq 179 _ rfl
 have E180 : q 180=q 153*q 1 := hq 180 _ rfl
 have E181 : q 181=q 179 - q 180 := hq 181 _ rfl
 have E182 : q 182=q 152*q 1 := hq 182 _ rfl
 have E183 : q 183=q 153*q 0 := hq 183 _ rfl
 have E184 : q 184=q 182+q 183 := hq 184 _ rfl
 have E185 : q 185=q 181+q 159 := hq 185 _ rfl
 have E186 : q 186=q 184+q 160 := hq 186 _ rfl
 have E187 : q 187=q 168*q 0 := hq 187 _ rfl
 have E188 : q 188=q 169*q 1 := hq 188 _ rfl
 have E189 : q 189=q 187 - q 188 := hq 189 _ rfl
 have E190 : q 190=q 168*q 1 := hq 190 _ rfl
 have E191 : q 191=q 169*q 0 := hq 191 _ rfl
 have E192 : q 192=q 190+q 191 := hq 192 _ rfl
 have E193 : q 193=q 189+q 177 := hq 193 _ rfl
 have E194 : q 194=q 192+q 178 := hq 194 _ rfl
 have E195 : q 195=q 193*q 38 := hq 195 _ rfl
 have E196 : q 196=q 194*q 39 := hq 196 _ rfl
 have E197 : q 197=q 195 - q 196 := hq 197 _ rfl
 have E198 : q 198=q 193*q 39 := hq 198 _ rfl
 have E199 : q 199=q 194*q 38 := hq 199 _ rfl
 have E200 : q 200=q 198+q 199 := hq 200 _ rfl
 have E201 : q 201=q 185 - q 197 := hq 201 _ rfl
 have E202 : q 202=q 186 - q 200 := hq 202 _ rfl
 have E203 : q 203=q 152*q 2 := hq 203 _ rfl
 have E204 : q 204=q 153*q 3 := hq 204 _ rfl
 have E205 : q 205=q 203 - q 204 := hq 205 _ rfl
 have E206 : q 206=q 152*q 3 := hq 206 _ rfl
 have E207 : q 207=q 153*q 2 := hq 207 _ rfl
 have E208 : q 208=q 206+q 207 := hq 208 _ rfl
 have E209 : q 209=q 205+q 159 := hq 209 _ rfl
 have E210 : q 210=q 208+q 160 := hq 210 _ rfl
 have E211 : q 211=q 168*q 2 := hq 211 _ rfl
 have E212 : q 212=q 169*q 3 := hq 212 _ rfl
 have E213 : q 213=q 211 - q 212 := hq 213 _ rfl
 have E214 : q 214=q 168*q 3 := hq 214 _ rfl
 have E215 : q 215=q 169*q 2 := hq 215 _ rfl
 have E216 : q 216=q 214+q 215 := hq 216 _ rfl
 have E217 : q 217=q 213+q 177 := hq 217 _ rfl
 have E218 : q 218=q 216+q 178 := hq 218 _ rfl
 have E219 : q 219=q 217*q 40 := hq 219 _ rfl
 have E220 : q 220=q 218*q 41 := hq 220 _ rfl
 have E221 : q 221=q 219 - q 220 := hq 221 _ rfl
 have E222 : q 222=q 217*q 41 := hq 222 _ rfl
 have E223 : q 223=q 218*q 40 := hq 223 _ rfl
 have E224 : q 224=q 222+q 223 := hq 224 _ rfl
 have E225 : q 225=q 209 - q 221 := hq 225 _ rfl
 have E226 : q 226=q 210 - q 224 := hq 226 _ rfl
 have E227 : q 227=q 152*q 4 := hq 227 _ rfl
 have E228 : q 228=q 153*q 5 := hq 228 _ rfl
 have E229 : q 229=q 227 - q 228 := hq 229 _ rfl
 have E230 : q 230=q 152*q 5 := hq 230 _ rfl
 have E231 : q 231=q 153*q 4 := hq 231 _ rfl
 have E232 : q 232=q 230+q 231 := hq 232 _ rfl
 have E233 : q 233=q 229+q 159 := hq 233 _ rfl
 have E234 : q 234=q 232+q 160 := hq 234 _ rfl
 have E235 : q 235=q 168*q 4 := hq 235 _ rfl
 have E236 : q 236=q 169*q 5 := hq 236 _ rfl
 have E237 : q 237=q 235 - q 236 := hq 237 _ rfl
 have E238 : q 238=q 168*q 5 := hq 238 _ rfl
 have E239 : q 239=q 169*q 4 := hq 239 _ rfl
 have E240 : q 240=q 238+q 239 := hq 240 _ rfl
 have E241 : q 241=q 237+q 177 := hq 241 _ rfl
 have E242 : q 242=q 240+q 178 := hq 242 _ rfl
 have E243 : q 243=q 241*q 42 := hq 243 _ rfl
 have E244 : q 244=q 242*q 43 := hq 244 _ rfl
 have E245 : q 245=q 243 - q 244 := hq 245 _ rfl
 have E246 : q 246=q 241*q 43 := hq 246 _ rfl
 have E247 : q 247=q 242*q 42 := hq 247 _ rfl
 have E248 : q 248=q 246+q 247 := hq 248 _ rfl
 have E249 : q 249=q 233 - q 245 := hq 249 _ rfl
 have E250 : q 250=q 234 - q 248 := hq 250 _ rfl
 have E251 : q 251=q 152*q 177 := hq 251 _ rfl
 have E252 : q 252=q 153*q 178 := hq 252 _ rfl
 have E253 : q 253=q 251 - q 252 := hq 253 _ rfl
 have E254 : q 254=q 152*q 178 := hq 254 _ rfl
 have E255 : q 255=q 153*q 177 := hq 255 _ rfl
 have E256 : q 256=q 254+q 255 := hq 256 _ rfl
 have E257 : q 257=q 159*q 168 := hq 257 _ rfl
 have E258 : q 258=q 160*q 169 := hq 258 _ rfl
 have E259 : q 259=q 257 - q 258 := hq 259 _ rfl
 have E260 : q 260=q 159*q 169 := hq 260 _ rfl
 have E261 : q 261=q 160*q 168 := hq 261 _ rfl
 have E262 : q 262=q 260+q 261 := hq 262 _ rfl
 have E263 : q 263=q 253 - q 259 := hq 263 _ rfl
 have E264 : q 264=q 256 - q 262 := hq 264 _ rfl
 have E265 : q 265=1 := (hq 265 _ rfl).trans turnThree_c265
 have E266 : q 266=-q 145 := hq 266 _ rfl
 have E267 : q 267=q 93*q 93 := hq 267 _ rfl
 have E268 : q 268=q 94*q 266 := hq 268 _ rfl
 have E269 : q 269=q 267+q 268 := hq 269 _ rfl
 have E270 : q 270=q 93*q 145 := hq 270 _ rfl
 have E271 : q 271=q 145*q 93 := hq 271 _ rfl
 have E272 : q 272=q 270 - q 271 := hq 272 _ rfl
 have E273 : q 273=q 94*q 94 := hq 273 _ rfl
 have E274 : q 274=q 267+q 273 := hq 274 _ rfl
 have E275 : q 275=q 269 / q 274 := hq 275 _ rfl
 have E276 : q 276=q 272 / q 274 := hq 276 _ rfl
 have E277 : q 277=q 109*q 93 := hq 277 _ rfl
 have E278 : q 278=q 110*q 266 := hq 278 _ rfl
 have E279 : q 279=q 277+q 278 := hq 279 _ rfl
 have E280 : q 280=q 109*q 145 := hq 280 _ rfl
 have E281 : q 281=q 140*q 93 := hq 281 _ rfl
 have E282 : q 282=q 280 - q 281 := hq 282 _ rfl
 have E283 : q 283=q 279 / q 274 := hq 283 _ rfl
 have E284 : q 284=q 282 / q 274 := hq 284 _ rfl
 have E285 : q 285=q 124*q 93 := hq 285 _ rfl
 have E286 : q 286=q 125*q 266 := hq 286 _ rfl
 have E287 : q 287=q 285+q 286 := hq 287 _ rfl
 have E288 : q 288=q 124*q 145 := hq 288 _ rfl
 have E289 : q 289=q 164*q 93 := hq 289 _ rfl
 have E290 : q 290=q 288 - q 289 := hq 290 _ rfl
 have E291 : q 291=q 287 / q 274 := hq 291 _ rfl
 have E292 : q 292=q 290 / q 274 := hq 292 _ rfl
 have E293 : q 293=q 138*q 93 := hq 293 _ rfl
 have E294 : q 294=q 139*q 266 := hq 294 _ rfl
 have E295 : q 295=q 293+q 294 := hq 295 _ rfl
 have E296 : q 296=q 138*q 145 := hq 296 _ rfl
 have E297 : q 297=q 173*q 93 := hq 297 _ rfl
 have E298 : q 298=q 296 - q 297 := hq 298 _ rfl
 have E299 : q 299=q 295 / q 274 := hq 299 _ rfl
 have E300 : q 300=q 298 / q 274 := hq 300 _ rfl
 have E301 : q 301=q 275*q 0 := hq 301 _ rfl
 have E302 : q 302=q 276*q 1 := hq 302 _ rfl
 have E303 : q 303=q 301 - q 302 := hq 303 _ rfl
 have E304 : q 304=q 275*q 1 := hq 304 _ rfl
 have E305 : q 305=q 276*q 0 := hq 305 _ rfl
 have E306 : q 306=q 304+q 305 := hq 306 _ rfl
 have E307 : q 307=q 303+q 283 := hq 307 _ rfl
 have E308 : q 308=q 306+q 284 := hq 308 _ rfl
 have E309 : q 309=q 291*q 0 := hq 309 _ rfl
 have E310 : q 310=q 292*q 1 := hq 310 _ rfl
 have E311 : q 311=q 309 - q 310 := hq 311 _ rfl
 have E312 : q 312=q 291*q 1 := hq 312 _ rfl
 have E313 : q 313=q 292*q 0 := hq 313 _ rfl
 have E314 : q 314=q 312+q 313 := hq 314 _ rfl
 have E315 : q 315=q 311+q 299 := hq 315 _ rfl
 have E316 : q 316=q 314+q 300 := hq 316 _ rfl
 have E317 : q 317=q 315*q 38 := hq 317 _ rfl
 have E318 : q 318=q 316*q 39 := hq 318 _ rfl
 have E319 : q 319=q 317 - q 318 := hq 319 _ rfl
 have E320 : q 320=q 315*q 39 := hq 320 _ rfl
 have E321 : q 321=q 316*q 38 := hq 321 _ rfl
 have E322 : q 322=q 320+q 321 := hq 322 _ rfl
 have E323 : q 323=q 307 - q 319 := hq 323 _ rfl
 have E324 : q 324=q 308 - q 322 := hq 324 _ rfl
 have E325 : q 325=q 275*q 2 := hq 325 _ rfl
 have E326 : q 326=q 276*q 3 := hq 326 _ rfl
 have E327 : q 327=q 325 - q 326 := hq 327 _ rfl
 have E328 : q 328=q 275*q 3 := hq 328 _ rfl
 have E329 : q 329=q 276*q 2 := hq 329 _ rfl
 have E330 : q 330=q 328+q 329 := hq 330 _ rfl
 have E331 : q 331=q 327+q 283 := hq 331 _ rfl
 have E332 : q 332=q 330+q 284 := hq 332 _ rfl
 have E333 : q 333=q 291*q 2 := hq 333 _ rfl
 have E334 : q 334=q 292*q 3 := hq 334 _ rfl
 have E335 : q 335=q 333 - q 334 := hq 335 _ rfl
 have E336 : q 336=q 291*q 3 := hq 336 _ rfl
 have E337 : q 337=q 292*q 2 := hq 337 _ rfl
 have E338 : q 338=q 336+q 337 := hq 338 _ rfl
 have E339 : q 339=q 335+q 299 := hq 339 _ rfl
 have E340 : q 340=q 338+q 300 := hq 340 _ rfl
 have E341 : q 341=q 339*q 40 := hq 341 _ rfl
 have E342 : q 342=q 340*q 41 := hq 342 _ rfl
 have E343 : q 343=q 341 - q 342 := hq 343 _ rfl
 have E344 : q 344=q 339*q 41 := hq 344 _ rfl
 have E345 : q 345=q 340*q 40 := hq 345 _ rfl
 have E346 : q 346=q 344+q 345 := hq 346 _ rfl
 have E347 : q 347=q 331 - q 343 := hq 347 _ rfl
 have E348 : q 348=q 332 - q 346 := hq 348 _ rfl
 have E349 : q 349=q 275*q 4 := hq 349 _ rfl
 have E350 : q 350=q 276*q 5 := hq 350 _ rfl
 have E351 : q 351=q 349 - q 350 := hq 351 _ rfl
 have E352 : q 352=q 275*q 5 := hq 352 _ rfl
 have E353 : q 353=q 276*q 4 := hq 353 _ rfl
 have E354 : q 354=q 352+q 353 := hq 354 _ rfl
 have E355 : q 355=q 351+q 283 := hq 355 _ rfl
 have E356 : q 356=q 354+q 284 := hq 356 _ rfl
 have E357 : q 357=q 291*q 4 := hq 357 _ rfl
 have E358 : q 358=q 292*q 5 := hq 358 _ rfl
 have E359 : q 359=q 357 - q 358 := hq 359 _ rfl
 have E360 : q 360=q 291*q 5 := hq 360 _ rfl
 have E361 : q 361=q 292*q 4 := hq 361 _ rfl
 have E362 : q 362=q 360+q 361 := hq 362 _ rfl
 have E363 : q 363=q 359+q 299 := hq 363 _ rfl
 have E364 : q 364=q 362+q 300 := hq 364 _ rfl
 have E365 : q 365=q 363*q 42 := hq 365 _ rfl
 have E366 : q 366=q 364*q 43 := hq 366 _ rfl
 have E367 : q 367=q 365 - q 366 := hq 367 _ rfl
 have E368 : q 368=q 363*q 43 := hq 368 _ rfl
 have E369 : q 369=q 364*q 42 := hq 369 _ rfl
 have E370 : q 370=q 368+q 369 := hq 370 _ rfl
 have E371 : q 371=q 355 - q 367 := hq 371 _ rfl
 have E372 : q 372=q 356 - q 370 := hq 372 _ rfl
 have E373 : q 373=q 275*q 299 := hq 373 _ rfl
 have E374 : q 374=q 276*q 300 := hq 374 _ rfl
 have E375 : q 375=q 373 - q 374 := hq 375 _ rfl
 have E376 : q 376=q 275*q 300 := hq 376 _ rfl
 have E377 : q 377=q 276*q 299 := hq 377 _ rfl
 have E378 : q 378=q 376+q 377 := hq 378 _ rfl
 have E379 : q 379=q 283*q 291 := hq 379 _ rfl
 have E380 : q 380=q 284*q 292 := hq 380 _ rfl
 have E381 : q 381=q 379 - q 380 := hq 381 _ rfl
 have E382 : q 382=q 283*q 292 := hq 382 _ rfl
 have E383 : q 383=q 284*q 291 := hq 383 _ rfl
 have E384 : q 384=q 382+q 383 := hq 384 _ rfl
 have E385 : q 385=q 375 - q 381 := hq 385 _ rfl
 have E386 : q 386=q 378 - q 384 := hq 386 _ rfl
 by_cases a_6_6_7 : q 6=0∧q 7=0
 ·
  have a_6_8_9 : q 8=0∧q 9=0 := And.intro (turnThree_f1 E6 E7 E8 a_6_6_7) (turnThree_f2 E6 E7 E9 a_6_6_7)
  exact turnThree_leaf turnThree_r0 hσ hq h0 (turnThree_An (hT a_6_6_7) (turnThree_An (hT a_6_8_9) trivial)) ⟨tab,mx⟩ hA
 ·
  by_cases a_6_10_11 : q 10=0∧q 11=0
  ·
   have a_6_8_9 : ¬ (q 8=0∧q 9=0) := turnThree_f3 E6 E7 E8 E9 a_6_6_7
   have a_6_12_13 : ¬ (q 12=0∧q 13=0) := turnThree_f4 E6 E7 E10 E11 E12 E13 a_6_6_7 a_6_10_11
   have a_6_14_15 : q 14=0∧q 15=0 := And.intro (turnThree_f5 E6 E7 E10 E11 E14 a_6_6_7 a_6_10_11) (turnThree_f6 E6 E7 E10 E11 E15 a_6_6_7 a_6_10_11)
   exact turnThree_leaf turnThree_r1 hσ hq h0 (turnThree_An (hF a_6_6_7) (turnThree_An (hT a_6_10_11) (turnThree_An (hF a_6_8_9) (turnThree_An (hF a_6_12_13) (turnThree_An (hT a_6_14_15) trivial))))) ⟨tab,mx⟩ hA
  ·
   by_cases a_6_16_17 : q 16=0∧q 17=0
   ·
    have a_6_8_9 : ¬ (q 8=0∧q 9=0) := turnThree_f7 E6 E7 E8 E9 E10 E11 a_6_6_7 a_6_10_11
    have a_6_12_13 : q 12=0∧q 13=0 := And.intro (turnThree_f8 E6 E7 E10 E11 E12 E16 E17 a_6_6_7 a_6_10_11 a_6_16_17) (turnThree_f9 E6 E7 E10 E11 E13 E16 E17 a_6_6_7 a_6_10_11 a_6_16_17)
    exact turnThree_leaf turnThree_r2 hσ hq h0 (turnThree_An (hF a_6_6_7) (turnThree_An (hF a_6_10_11) (turnThree_An (hT a_6_16_17) (turnThree_An (hF a_6_8_9) (turnThree_An (hT a_6_12_13) trivial))))) ⟨tab,mx⟩ hA
   ·
    by_cases a_6_44_45 : q 44=0∧q 45=0
    ·
     have a_6_8_9 : ¬ (q 8=0∧q 9=0) := turnThree_f10 E6 E7 E8 E9 E10 E11 E16 E17 a_6_6_7 a_6_10_11 a_6_16_17
     have a_6_12_13 : ¬ (q 12=0∧q 13=0) := turnThree_f11 E6 E7 E10 E11 E12 E13 E16 E17 a_6_6_7 a_6_10_11 a_6_16_17
     have a_6_14_15 : ¬ (q 14=0∧q 15=0) := turnThree_f12 E6 E7 E10 E11 E14 E15 E16 E17 a_6_6_7 a_6_10_11 a_6_16_17
     have a_6_46_47 : q 46=0∧q 47=0 := And.intro (turnThree_f13 E6 E7 E10 E11 E16 E17 E44 E45 E46 a_6_6_7 a_6_10_11 a_6_16_17 a_6_44_45) (turnThree_f14 E6 E7 E10 E11 E16 E17 E44 E45 E47 a_6_6_7 a_6_10_11 a_6_16_17 a_6_44_45)
     exact turnThree_leaf turnThree_r3 hσ hq h0 (turnThree_An (hF a_6_6_7) (turnThree_An (hF a_6_10_11) (turnThree_An (hF a_6_16_17) (turnThree_An (hT a_6_44_45) (turnThree_An (hF a_6_8_9) (turnThree_An (hF a_6_12_13) (turnThree_An (hF a_6_14_15) (turnThree_An (hT a_6_46_47) trivial)))))))) ⟨tab,mx⟩ hA
    ·
     by_cases a_6_48_49 : q 48=0∧q 49=0
     ·
      have a_6_8_9 : ¬ (q 8=0∧q 9=0) := turnThree_f15 E6 E7 E8 E9 E10 E11 E16 E17 E44 E45 a_6_6_7 a_6_10_11 a_6_16_17 a_6_44_45
      have a_6_12_13 : ¬ (q 12=0∧q 13=0) := turnThree_f16 E6 E7 E10 E11 E12 E13 E16 E17 E44 E45 a_6_6_7 a_6_10_11 a_6_16_17 a_6_44_45
      have a_6_14_15 : ¬ (q 14=0∧q 15=0) := turnThree_f17 E6 E7 E10 E11 E14 E15 E16 E17 E44 E45 a_6_6_7 a_6_10_11 a_6_16_17 a_6_44_45
      have a_6_46_47 : ¬ (q 46=0∧q 47=0) := turnThree_f18 E6 E7 E10 E11 E16 E17 E44 E45 E46 E47 a_6_6_7 a_6_10_11 a_6_16_17 a_6_44_45
      have a_6_50_51 : ¬ (q 50=0∧q 51=0) := turnThree_f19 E6 E7 E10 E11 E16 E17 E44 E45 E48 E49 E50 E51 a_6_6_7 a_6_10_11 a_6_16_17 a_6_44_45 a_6_48_49
      have a_6_52_53 : q 52=0∧q 53=0 := And.intro (turnThree_f20 E6 E7 E10 E11 E16 E17 E44 E45 E48 E49 E52 a_6_6_7 a_6_10_11 a_6_16_17 a_6_44_45 a_6_48_49) (turnThree_f21 E6 E7 E10 E11 E16 E17 E44 E45 E48 E49 E53 a_6_6_7 a_6_10_11 a_6_16_17 a_6_44_45 a_6_48_49)
      exact turnThree_leaf turnThree_r4 hσ hq h0 (turnThree_An (hF a_6_6_7) (turnThree_An (hF a_6_10_11) (turnThree_An (hF a_6_16_17) (turnThree_An (hF a_6_44_45) (turnThree_An (hT a_6_48_49) (turnThree_An (hF a_6_8_9) (turnThree_An (hF a_6_12_13) (turnThree_An (hF a_6_14_15) (turnThree_An (hF a_6_46_47) (turnThree_An (hF a_6_50_51) (turnThree_An (hT a_6_52_53) trivial))))))))))) ⟨tab,mx⟩ hA
     ·
      by_cases a_6_54_55 : q 54=0∧q 55=0
      ·
       have a_6_8_9 : ¬ (q 8=0∧q 9=0) := turnThree_f22 E6 E7 E8 E9 E10 E11 E16 E17 E44 E45 E48 E49 a_6_6_7 a_6_10_11 a_6_16_17 a_6_44_45 a_6_48_49
       have a_6_12_13 : ¬ (q 12=0∧q 13=0) := turnThree_f23 E6 E7 E10 E11 E12 E13 E16 E17 E44 E45 E48 E49 a_6_6_7 a_6_10_11 a_6_16_17 a_6_44_45 a_6_48_49
       have a_6_14_15 : ¬ (q 14=0∧q 15=0) := turnThree_f24 E6 E7 E10 E11 E14 E15 E16 E17 E44 E45 E48 E49 a_6_6_7 a_6_10_11 a_6_16_17 a_6_44_45 a_6_48_49
       have a_6_46_47 : ¬ (q 46=0∧q 47=0) := turnThree_f25 E6 E7 E10 E11 E16 E17 E44 E45 E46 E47 E48 E49 a_6_6_7 a_6_10_11 a_6_16_17 a_6_44_45 a_6_48_49
       have a_6_50_51 : q 50=0∧q 51=0 := And.intro (turnThree_f26 E6 E7 E10 E11 E16 E17 E44 E45 E48 E49 E50 E54 E55 a_6_6_7 a_6_10_11 a_6_16_17 a_6_44_45 a_6_48_49 a_6_54_55) (turnThree_f27 E6 E7 E10 E11 E16 E17 E44 E45 E48 E49 E51 E54 E55 a_6_6_7 a_6_10_11 a_6_16_17 a_6_44_45 a_6_48_49 a_6_54_55)
       exact turnThree_leaf turnThree_r5 hσ hq h0 (turnThree_An (hF a_6_6_7) (turnThree_An (hF a_6_10_11) (turnThree_An (hF a_6_16_17) (turnThree_An (hF a_6_44_45) (turnThree_An (hF a_6_48_49) (turnThree_An (hT a_6_54_55) (turnThree_An (hF a_6_8_9) (turnThree_An (hF a_6_12_13) (turnThree_An (hF a_6_14_15) (turnThree_An (hF a_6_46_47) (turnThree_An (hT a_6_50_51) trivial))))))))))) ⟨tab,mx⟩ hA
      ·
       by_cases a_6_93_94 : q 93=0∧q 94=0
       ·
        have a_6_109_110 : ¬ (q 109=0∧q 110=0) := turnThree_f28 E6 E7 E10 E11 E16 E17 E44 E45 E48 E49 E54 E55 a_6_6_7 a_6_10_11 a_6_16_17 a_6_44_45 a_6_48_49 a_6_54_55 a_6_93_94 (turnThree_D E6 E7 E10 E11 E12 E13 E16 E17 E18 E19 E20 E21 E22 E23 E24 E25 E26 E27 E28 E29 E30 E31 E32 E33 E34 E35 E36 E37 E44 E45 E48 E49 E50 E51 E54 E55 E56 E57 E58 E59 E60 E61 E62 E63 E64 E65 E66 E67 E68 E69 E70 E71 E72 E73 E74 E75 E76 E77 E78 E79 E80 E81 E82 E83 E84 E85 E86 E87 E88 E89 E90 E91 E92 E93 E94 E95 E96 E97 E98 E99 E100 E101 E102 E103 E104 E105 E106 E107 E108 E109 E110 E111 E112 E113 E114 E115 E116 E117 E118 E119 E120 E121 E122 E123 E124 E125 E126 E127 E128 E129 E130 E131 E132 E133 E134 E135 E136 E137 E138 E139 a_6_6_7 a_6_10_11 a_6_16_17 a_6_44_45 a_6_48_49 a_6_54_55)
        have a_6_8_9 : ¬ (q 8=0∧q 9=0) := turnThree_f29 E6 E7 E8 E9 E10 E11 E16 E17 E44 E45 E48 E49 E54 E55 a_6_6_7 a_6_10_11 a_6_16_17 a_6_44_45 a_6_48_49 a_6_54_55
        have a_6_12_13 : ¬ (q 12=0∧q 13=0) := turnThree_f30 E6 E7 E10 E11 E12 E13 E16 E17 E44 E45 E48 E49 E54 E55 a_6_6_7 a_6_10_11 a_6_16_17 a_6_44_45 a_6_48_49 a_6_54_55
        have a_6_14_15 : ¬ (q 14=0∧q 15=0) := turnThree_f31 E6 E7 E10 E11 E14 E15 E16 E17 E44 E45 E48 E49 E54 E55 a_6_6_7 a_6_10_11 a_6_16_17 a_6_44_45 a_6_48_49 a_6_54_55
        have a_6_46_47 : ¬ (q 46=0∧q 47=0) := turnThree_f32 E6 E7 E10 E11 E16 E17 E44 E45 E46 E47 E48 E49 E54 E55 a_6_6_7 a_6_10_11 a_6_16_17 a_6_44_45 a_6_48_49 a_6_54_55
        have a_6_50_51 : ¬ (q 50=0∧q 51=0) := turnThree_f33 E6 E7 E10 E11 E16 E17 E44 E45 E48 E49 E50 E51 E54 E55 a_6_6_7 a_6_10_11 a_6_16_17 a_6_44_45 a_6_48_49 a_6_54_55
        have a_6_52_53 : ¬ (q 52=0∧q 53=0) := turnThree_f34 E6 E7 E10 E11 E16 E17 E44 E45 E48 E49 E52 E53 E54 E55 a_6_6_7 a_6_10_11 a_6_16_17 a_6_44_45 a_6_48_49 a_6_54_55
        have a_6_201_202 : q 201=0∧q 202=0 := And.intro (turnThree_f35 E6 E7 E10 E11 E16 E17 E44 E45 E48 E49 E54 E55 E140 E141 E142 E143 E144 E145 E146 E147 E148 E149 E150 E151 E152 E153 E154 E155 E159 E161 E162 E163 E164 E165 E166 E167 E168 E169 E170 E171 E172 E173 E174 E175 E176 E177 E178 E179 E180 E181 E185 E187 E188 E189 E190 E191 E192 E193 E194 E195 E196 E197 E201 a_6_6_7 a_6_10_11 a_6_16_17 a_6_44_45 a_6_48_49 a_6_54_55 (turnThree_E0 E6 E7 E12 E13 E18 E19 E20 E21 E22 E23 E24 E25 E26 E27 E28 E29 E30 E31 E32 E33 E34 E35 E36 E37 E44 E45 E50 E51 E56 E57 E58 E59 E60 E61 E62 E63 E64 E65 E66 E67 E68 E69 E70 E71 E72 E73 E74 E75 E76 E77 E78 E79 E80 E81 E82 E83 E84 E85 E86 E87 E88 E89 E90 E91 E92 E93 E94 E95 E96 E97 E98 E99 E100 E101 E102 E103 E104 E105 E106 E107 E108 E109 E110 E111 E112 E113 E114 E115 E116 E117 E118 E119 E120 E121 E122 E123 E124 E125 E126 E127 E128 E129 E130 E131 E132 E133 E134 E135 E136 E137 E138 E139)) (turnThree_f36 E6 E7 E10 E11 E16 E17 E44 E45 E48 E49 E54 E55 E140 E141 E142 E143 E144 E145 E146 E147 E148 E149 E150 E151 E152 E153 E156 E157 E158 E160 E161 E162 E163 E164 E165 E166 E167 E168 E169 E170 E171 E172 E173 E174 E175 E176 E177 E178 E182 E183 E184 E186 E187 E188 E189 E190 E191 E192 E193 E194 E198 E199 E200 E202 a_6_6_7 a_6_10_11 a_6_16_17 a_6_44_45 a_6_48_49 a_6_54_55 (turnThree_E0 E6 E7 E12 E13 E18 E19 E20 E21 E22 E23 E24 E25 E26 E27 E28 E29 E30 E31 E32 E33 E34 E35 E36 E37 E44 E45 E50 E51 E56 E57 E58 E59 E60 E61 E62 E63 E64 E65 E66 E67 E68 E69 E70 E71 E72 E73 E74 E75 E76 E77 E78 E79 E80 E81 E82 E83 E84 E85 E86 E87 E88 E89 E90 E91 E92 E93 E94 E95 E96 E97 E98 E99 E100 E101 E102 E103 E104 E105 E106 E107 E108 E109 E110 E111 E112 E113 E114 E115 E116 E117 E118 E119 E120 E121 E122 E123 E124 E125 E126 E127 E128 E129 E130 E131 E132 E133 E134 E135 E136 E137 E138 E139))
        have a_6_225_226 : q 225=0∧q 226=0 := And.intro (turnThree_f37 E6 E7 E10 E11 E16 E17 E44 E45 E48 E49 E54 E55 E140 E141 E142 E143 E144 E145 E146 E147 E148 E149 E150 E151 E152 E153 E154 E155 E159 E161 E162 E163 E164 E165 E166 E167 E168 E169 E170 E171 E172 E173 E174 E175 E176 E177 E178 E203 E204 E205 E209 E211 E212 E213 E214 E215 E216 E217 E218 E219 E220 E221 E225 a_6_6_7 a_6_10_11 a_6_16_17 a_6_44_45 a_6_48_49 a_6_54_55 (turnThree_E1 E6 E7 E12 E13 E18 E19 E20 E21 E22 E23 E24 E25 E26 E27 E28 E29 E30 E31 E32 E33 E34 E35 E36 E37 E44 E45 E50 E51 E56 E57 E58 E59 E60 E61 E62 E63 E64 E65 E66 E67 E68 E69 E70 E71 E72 E73 E74 E75 E76 E77 E78 E79 E80 E81 E82 E83 E84 E85 E86 E87 E88 E89 E90 E91 E92 E93 E94 E95 E96 E97 E98 E99 E100 E101 E102 E103 E104 E105 E106 E107 E108 E109 E110 E111 E112 E113 E114 E115 E116 E117 E118 E119 E120 E121 E122 E123 E124 E125 E126 E127 E128 E129 E130 E131 E132 E133 E134 E135 E136 E137 E138 E139)) (turnThree_f38 E6 E7 E10 E11 E16 E17 E44 E45 E48 E49 E54 E55 E140 E141 E142 E143 E144 E145 E146 E147 E148 E149 E150 E151 E152 E153 E156 E157 E158 E160 E161 E162 E163 E164 E165 E166 E167 E168 E169 E170 E171 E172 E173 E174 E175 E176 E177 E178 E206 E207 E208 E210 E211 E212 E213 E214 E215 E216 E217 E218 E222 E223 E224 E226 a_6_6_7 a_6_10_11 a_6_16_17 a_6_44_45 a_6_48_49 a_6_54_55 (turnThree_E1 E6 E7 E12 E13 E18 E19 E20 E21 E22 E23 E24 E25 E26 E27 E28 E29 E30 E31 E32 E33 E34 E35 E36 E37 E44 E45 E50 E51 E56 E57 E58 E59 E60 E61 E62 E63 E64 E65 E66 E67 E68 E69 E70 E71 E72 E73 E74 E75 E76 E77 E78 E79 E80 E81 E82 E83 E84 E85 E86 E87 E88 E89 E90 E91 E92 E93 E94 E95 E96 E97 E98 E99 E100 E101 E102 E103 E104 E105 E106 E107 E108 E109 E110 E111 E112 E113 E114 E115 E116 E117 E118 E119 E120 E121 E122 E123 E124 E125 E126 E127 E128 E129 E130 E131 E132 E133 E134 E135 E136 E137 E138 E139))
        have a_6_249_250 : q 249=0∧q 250=0 := And.intro (turnThree_f39 E6 E7 E10 E11 E16 E17 E44 E45 E48 E49 E54 E55 E140 E141 E142 E143 E144 E145 E146 E147 E148 E149 E150 E151 E152 E153 E154 E155 E159 E161 E162 E163 E164 E165 E166 E167 E168 E169 E170 E171 E172 E173 E174 E175 E176 E177 E178 E227 E228 E229 E233 E235 E236 E237 E238 E239 E240 E241 E242 E243 E244 E245 E249 a_6_6_7 a_6_10_11 a_6_16_17 a_6_44_45 a_6_48_49 a_6_54_55 (turnThree_E2 E6 E7 E12 E13 E18 E19 E20 E21 E22 E23 E24 E25 E26 E27 E28 E29 E30 E31 E32 E33 E34 E35 E36 E37 E44 E45 E50 E51 E56 E57 E58 E59 E60 E61 E62 E63 E64 E65 E66 E67 E68 E69 E70 E71 E72 E73 E74 E75 E76 E77 E78 E79 E80 E81 E82 E83 E84 E85 E86 E87 E88 E89 E90 E91 E92 E93 E94 E95 E96 E97 E98 E99 E100 E101 E102 E103 E104 E105 E106 E107 E108 E109 E110 E111 E112 E113 E114 E115 E116 E117 E118 E119 E120 E121 E122 E123 E124 E125 E126 E127 E128 E129 E130 E131 E132 E133 E134 E135 E136 E137 E138 E139)) (turnThree_f40 E6 E7 E10 E11 E16 E17 E44 E45 E48 E49 E54 E55 E140 E141 E142 E143 E144 E145 E146 E147 E148 E149 E150 E151 E152 E153 E156 E157 E158 E160 E161 E162 E163 E164 E165 E166 E167 E168 E169 E170 E171 E172 E173 E174 E175 E176 E177 E178 E230 E231 E232 E234 E235 E236 E237 E238 E239 E240 E241 E242 E246 E247 E248 E250 a_6_6_7 a_6_10_11 a_6_16_17 a_6_44_45 a_6_48_49 a_6_54_55 (turnThree_E2 E6 E7 E12 E13 E18 E19 E20 E21 E22 E23 E24 E25 E26 E27 E28 E29 E30 E31 E32 E33 E34 E35 E36 E37 E44 E45 E50 E51 E56 E57 E58 E59 E60 E61 E62 E63 E64 E65 E66 E67 E68 E69 E70 E71 E72 E73 E74 E75 E76 E77 E78 E79 E80 E81 E82 E83 E84 E85 E86 E87 E88 E89 E90 E91 E92 E93 E94 E95 E96 E97 E98 E99 E100 E101 E102 E103 E104 E105 E106 E107 E108 E109 E110 E111 E112 E113 E114 E115 E116 E117 E118 E119 E120 E121 E122 E123 E124 E125 E126 E127 E128 E129 E130 E131 E132 E133 E134 E135 E136 E137 E138 E139))
        have b152 : q 152=0 := turnThree_f41 E6 E7 E10 E11 E16 E17 E44 E45 E48 E49 E54 E55 E140 E141 E142 E143 E144 E149 E150 E151 E152 a_6_6_7 a_6_10_11 a_6_16_17 a_6_44_45 a_6_48_49 a_6_54_55 a_6_93_94
        have b153 : q 153=0 := turnThree_f42 E6 E7 E10 E11 E16 E17 E44 E45 E48 E49 E54 E55 E140 E145 E146 E147 E148 E149 E150 E151 E153 a_6_6_7 a_6_10_11 a_6_16_17 a_6_44_45 a_6_48_49 a_6_54_55 a_6_93_94
        have b159 : ¬ (q 159=0) := turnThree_f43 E6 E7 E10 E11 E16 E17 E44 E45 E48 E49 E54 E55 E140 E141 E149 E150 E151 E154 E155 E159 a_6_6_7 a_6_10_11 a_6_16_17 a_6_44_45 a_6_48_49 a_6_54_55 a_6_93_94 (turnThree_D E6 E7 E10 E11 E12 E13 E16 E17 E18 E19 E20 E21 E22 E23 E24 E25 E26 E27 E28 E29 E30 E31 E32 E33 E34 E35 E36 E37 E44 E45 E48 E49 E50 E51 E54 E55 E56 E57 E58 E59 E60 E61 E62 E63 E64 E65 E66 E67 E68 E69 E70 E71 E72 E73 E74 E75 E76 E77 E78 E79 E80 E81 E82 E83 E84 E85 E86 E87 E88 E89 E90 E91 E92 E93 E94 E95 E96 E97 E98 E99 E100 E101 E102 E103 E104 E105 E106 E107 E108 E109 E110 E111 E112 E113 E114 E115 E116 E117 E118 E119 E120 E121 E122 E123 E124 E125 E126 E127 E128 E129 E130 E131 E132 E133 E134 E135 E136 E137 E138 E139 a_6_6_7 a_6_10_11 a_6_16_17 a_6_44_45 a_6_48_49 a_6_54_55)
        have a_6_263_264 : ¬ (q 263=0∧q 264=0) := turnThree_f44 E6 E7 E10 E11 E16 E17 E44 E45 E48 E49 E54 E55 E140 E141 E142 E143 E144 E145 E146 E147 E148 E149 E150 E151 E152 E153 E154 E155 E156 E157 E158 E159 E160 E161 E162 E163 E164 E165 E166 E167 E168 E169 E170 E171 E172 E173 E174 E175 E176 E177 E178 E251 E252 E253 E254 E255 E256 E257 E258 E259 E260 E261 E262 E263 E264 a_6_6_7 a_6_10_11 a_6_16_17 a_6_44_45 a_6_48_49 a_6_54_55 a_6_93_94 (turnThree_D E6 E7 E10 E11 E12 E13 E16 E17 E18 E19 E20 E21 E22 E23 E24 E25 E26 E27 E28 E29 E30 E31 E32 E33 E34 E35 E36 E37 E44 E45 E48 E49 E50 E51 E54 E55 E56 E57 E58 E59 E60 E61 E62 E63 E64 E65 E66 E67 E68 E69 E70 E71 E72 E73 E74 E75 E76 E77 E78 E79 E80 E81 E82 E83 E84 E85 E86 E87 E88 E89 E90 E91 E92 E93 E94 E95 E96 E97 E98 E99 E100 E101 E102 E103 E104 E105 E106 E107 E108 E109 E110 E111 E112 E113 E114 E115 E116 E117 E118 E119 E120 E121 E122 E123 E124 E125 E126 E127 E128 E129 E130 E131 E132 E133 E134 E135 E136 E137 E138 E139 a_6_6_7 a_6_10_11 a_6_16_17 a_6_44_45 a_6_48_49 a_6_54_55)
        have a_3_159_265 : q 159=q 265 := turnThree_f45 E6 E7 E10 E11 E16 E17 E44 E45 E48 E49 E54 E55 E140 E141 E149 E150 E151 E154 E155 E159 E265 a_6_6_7 a_6_10_11 a_6_16_17 a_6_44_45 a_6_48_49 a_6_54_55 a_6_93_94 (turnThree_D E6 E7 E10 E11 E12 E13 E16 E17 E18 E19 E20 E21 E22 E23 E24 E25 E26 E27 E28 E29 E30 E31 E32 E33 E34 E35 E36 E37 E44 E45 E48 E49 E50 E51 E54 E55 E56 E57 E58 E59 E60 E61 E62 E63 E64 E65 E66 E67 E68 E69 E70 E71 E72 E73 E74 E75 E76 E77 E78 E79 E80 E81 E82 E83 E84 E85 E86 E87 E88 E89 E90 E91 E92 E93 E94 E95 E96 E97 E98 E99 E100 E101 E102 E103 E104 E105 E106 E107 E108 E109 E110 E111 E112 E113 E114 E115 E116 E117 E118 E119 E120 E121 E122 E123 E124 E125 E126 E127 E128 E129 E130 E131 E132 E133 E134 E135 E136 E137 E138 E139 a_6_6_7 a_6_10_11 a_6_16_17 a_6_44_45 a_6_48_49 a_6_54_55)
        have b160 : q 160=0 := turnThree_f46 E6 E7 E10 E11 E16 E17 E44 E45 E48 E49 E54 E55 E140 E149 E150 E151 E156 E157 E158 E160 a_6_6_7 a_6_10_11 a_6_16_17 a_6_44_45 a_6_48_49 a_6_54_55
        exact turnThree_leaf turnThree_r6 hσ hq h0 (turnThree_An (hF a_6_6_7) (turnThree_An (hF a_6_10_11) (turnThree_An (hF a_6_16_17) (turnThree_An (hF a_6_44_45) (turnThree_An (hF a_6_48_49) (turnThree_An (hF a_6_54_55) (turnThree_An (hT a_6_93_94) (turnThree_An (hF a_6_109_110) (turnThree_An (hF a_6_8_9) (turnThree_An (hF a_6_12_13) (turnThree_An (hF a_6_14_15) (turnThree_An (hF a_6_46_47) (turnThree_An (hF a_6_50_51) (turnThree_An (hF a_6_52_53) (turnThree_An (hT a_6_201_202) (turnThree_An (hT a_6_225_226) (turnThree_An (hT a_6_249_250) (turnThree_An (hT b152) (turnThree_An (hT b153) (turnThree_An (hF b159) (turnThree_An (hF a_6_263_264) (turnThree_An (hT a_3_159_265) (turnThree_An (hT b160) trivial))))))))))))))))))))))) ⟨tab,mx⟩ hA
       ·
        have a_6_8_9 : ¬ (q 8=0∧q 9=0) := turnThree_f47 E6 E7 E8 E9 E10 E11 E12 E13 E16 E17 E22 E32 E44 E45 E48 E49 E50 E51 E54 E55 E56 E57 E58 E59 E60 E61 E62 E63 E64 E65 E66 E67 E68 E69 E70 E71 E72 E73 E74 E75 E76 E77 E79 E80 E81 E82 E83 E84 E85 E86 E87 E88 E89 E90 E91 E92 E93 E94 a_6_6_7 a_6_10_11 a_6_16_17 a_6_44_45 a_6_48_49 a_6_54_55 a_6_93_94
        have a_6_12_13 : ¬ (q 12=0∧q 13=0) := turnThree_f48 E6 E7 E10 E11 E12 E13 E16 E17 E22 E32 E44 E45 E48 E49 E50 E51 E54 E55 E56 E57 E58 E59 E60 E61 E62 E63 E64 E65 E66 E67 E68 E69 E70 E71 E72 E73 E74 E75 E76 E77 E79 E80 E81 E82 E83 E84 E85 E86 E87 E88 E89 E90 E91 E92 E93 E94 a_6_6_7 a_6_10_11 a_6_16_17 a_6_44_45 a_6_48_49 a_6_54_55 a_6_93_94
        have a_6_14_15 : ¬ (q 14=0∧q 15=0) := turnThree_f49 E6 E7 E10 E11 E12 E13 E14 E15 E16 E17 E22 E32 E44 E45 E48 E49 E50 E51 E54 E55 E56 E57 E58 E59 E60 E61 E62 E63 E64 E65 E66 E67 E68 E69 E70 E71 E72 E73 E74 E75 E76 E77 E79 E80 E81 E82 E83 E84 E85 E86 E87 E88 E89 E90 E91 E92 E93 E94 a_6_6_7 a_6_10_11 a_6_16_17 a_6_44_45 a_6_48_49 a_6_54_55 a_6_93_94
        have a_6_46_47 : ¬ (q 46=0∧q 47=0) := turnThree_f50 E6 E7 E10 E11 E12 E13 E16 E17 E22 E32 E44 E45 E46 E47 E48 E49 E50 E51 E54 E55 E56 E57 E58 E59 E60 E61 E62 E63 E64 E65 E66 E67 E68 E69 E70 E71 E72 E73 E74 E75 E76 E77 E79 E80 E81 E82 E83 E84 E85 E86 E87 E88 E89 E90 E91 E92 E93 E94 a_6_6_7 a_6_10_11 a_6_16_17 a_6_44_45 a_6_48_49 a_6_54_55 a_6_93_94
        have a_6_50_51 : ¬ (q 50=0∧q 51=0) := turnThree_f51 E6 E7 E10 E11 E12 E13 E16 E17 E22 E32 E44 E45 E48 E49 E50 E51 E54 E55 E56 E57 E58 E59 E60 E61 E62 E63 E64 E65 E66 E67 E68 E69 E70 E71 E72 E73 E74 E75 E76 E77 E79 E80 E81 E82 E83 E84 E85 E86 E87 E88 E89 E90 E91 E92 E93 E94 a_6_6_7 a_6_10_11 a_6_16_17 a_6_44_45 a_6_48_49 a_6_54_55 a_6_93_94
        have a_6_52_53 : ¬ (q 52=0∧q 53=0) := turnThree_f52 E6 E7 E10 E11 E12 E13 E16 E17 E22 E32 E44 E45 E48 E49 E50 E51 E52 E53 E54 E55 E56 E57 E58 E59 E60 E61 E62 E63 E64 E65 E66 E67 E68 E69 E70 E71 E72 E73 E74 E75 E76 E77 E79 E80 E81 E82 E83 E84 E85 E86 E87 E88 E89 E90 E91 E92 E93 E94 a_6_6_7 a_6_10_11 a_6_16_17 a_6_44_45 a_6_48_49 a_6_54_55 a_6_93_94
        have a_6_323_324 : q 323=0∧q 324=0 := And.intro (turnThree_f53 E6 E7 E10 E11 E16 E17 E44 E45 E48 E49 E54 E55 E145 E164 E173 E266 E267 E268 E269 E270 E271 E272 E273 E274 E275 E276 E277 E278 E279 E283 E285 E286 E287 E288 E289 E290 E291 E292 E293 E294 E295 E296 E297 E298 E299 E300 E301 E302 E303 E307 E309 E310 E311 E312 E313 E314 E315 E316 E317 E318 E319 E323 a_6_6_7 a_6_10_11 a_6_16_17 a_6_44_45 a_6_48_49 a_6_54_55 a_6_93_94 (turnThree_E0 E6 E7 E12 E13 E18 E19 E20 E21 E22 E23 E24 E25 E26 E27 E28 E29 E30 E31 E32 E33 E34 E35 E36 E37 E44 E45 E50 E51 E56 E57 E58 E59 E60 E61 E62 E63 E64 E65 E66 E67 E68 E69 E70 E71 E72 E73 E74 E75 E76 E77 E78 E79 E80 E81 E82 E83 E84 E85 E86 E87 E88 E89 E90 E91 E92 E93 E94 E95 E96 E97 E98 E99 E100 E101 E102 E103 E104 E105 E106 E107 E108 E109 E110 E111 E112 E113 E114 E115 E116 E117 E118 E119 E120 E121 E122 E123 E124 E125 E126 E127 E128 E129 E130 E131 E132 E133 E134 E135 E136 E137 E138 E139)) (turnThree_f54 E6 E7 E10 E11 E16 E17 E44 E45 E48 E49 E54 E55 E140 E145 E164 E173 E266 E267 E268 E269 E270 E271 E272 E273 E274 E275 E276 E280 E281 E282 E284 E285 E286 E287 E288 E289 E290 E291 E292 E293 E294 E295 E296 E297 E298 E299 E300 E304 E305 E306 E308 E309 E310 E311 E312 E313 E314 E315 E316 E320 E321 E322 E324 a_6_6_7 a_6_10_11 a_6_16_17 a_6_44_45 a_6_48_49 a_6_54_55 a_6_93_94 (turnThree_E0 E6 E7 E12 E13 E18 E19 E20 E21 E22 E23 E24 E25 E26 E27 E28 E29 E30 E31 E32 E33 E34 E35 E36 E37 E44 E45 E50 E51 E56 E57 E58 E59 E60 E61 E62 E63 E64 E65 E66 E67 E68 E69 E70 E71 E72 E73 E74 E75 E76 E77 E78 E79 E80 E81 E82 E83 E84 E85 E86 E87 E88 E89 E90 E91 E92 E93 E94 E95 E96 E97 E98 E99 E100 E101 E102 E103 E104 E105 E106 E107 E108 E109 E110 E111 E112 E113 E114 E115 E116 E117 E118 E119 E120 E121 E122 E123 E124 E125 E126 E127 E128 E129 E130 E131 E132 E133 E134 E135 E136 E137 E138 E139))
        have a_6_347_348 : q 347=0∧q 348=0 := And.intro (turnThree_f55 E6 E7 E10 E11 E16 E17 E44 E45 E48 E49 E54 E55 E145 E164 E173 E266 E267 E268 E269 E270 E271 E272 E273 E274 E275 E276 E277 E278 E279 E283 E285 E286 E287 E288 E289 E290 E291 E292 E293 E294 E295 E296 E297 E298 E299 E300 E325 E326 E327 E331 E333 E334 E335 E336 E337 E338 E339 E340 E341 E342 E343 E347 a_6_6_7 a_6_10_11 a_6_16_17 a_6_44_45 a_6_48_49 a_6_54_55 a_6_93_94 (turnThree_E1 E6 E7 E12 E13 E18 E19 E20 E21 E22 E23 E24 E25 E26 E27 E28 E29 E30 E31 E32 E33 E34 E35 E36 E37 E44 E45 E50 E51 E56 E57 E58 E59 E60 E61 E62 E63 E64 E65 E66 E67 E68 E69 E70 E71 E72 E73 E74 E75 E76 E77 E78 E79 E80 E81 E82 E83 E84 E85 E86 E87 E88 E89 E90 E91 E92 E93 E94 E95 E96 E97 E98 E99 E100 E101 E102 E103 E104 E105 E106 E107 E108 E109 E110 E111 E112 E113 E114 E115 E116 E117 E118 E119 E120 E121 E122 E123 E124 E125 E126 E127 E128 E129 E130 E131 E132 E133 E134 E135 E136 E137 E138 E139)) (turnThree_f56 E6 E7 E10 E11 E16 E17 E44 E45 E48 E49 E54 E55 E140 E145 E164 E173 E266 E267 E268 E269 E270 E271 E272 E273 E274 E275 E276 E280 E281 E282 E284 E285 E286 E287 E288 E289 E290 E291 E292 E293 E294 E295 E296 E297 E298 E299 E300 E328 E329 E330 E332 E333 E334 E335 E336 E337 E338 E339 E340 E344 E345 E346 E348 a_6_6_7 a_6_10_11 a_6_16_17 a_6_44_45 a_6_48_49 a_6_54_55 a_6_93_94 (turnThree_E1 E6 E7 E12 E13 E18 E19 E20 E21 E22 E23 E24 E25 E26 E27 E28 E29 E30 E31 E32 E33 E34 E35 E36 E37 E44 E45 E50 E51 E56 E57 E58 E59 E60 E61 E62 E63 E64 E65 E66 E67 E68 E69 E70 E71 E72 E73 E74 E75 E76 E77 E78 E79 E80 E81 E82 E83 E84 E85 E86 E87 E88 E89 E90 E91 E92 E93 E94 E95 E96 E97 E98 E99 E100 E101 E102 E103 E104 E105 E106 E107 E108 E109 E110 E111 E112 E113 E114 E115 E116 E117 E118 E119 E120 E121 E122 E123 E124 E125 E126 E127 E128 E129 E130 E131 E132 E133 E134 E135 E136 E137 E138 E139))
        have a_6_371_372 : q 371=0∧q 372=0 := And.intro (turnThree_f57 E6 E7 E10 E11 E16 E17 E44 E45 E48 E49 E54 E55 E145 E164 E173 E266 E267 E268 E269 E270 E271 E272 E273 E274 E275 E276 E277 E278 E279 E283 E285 E286 E287 E288 E289 E290 E291 E292 E293 E294 E295 E296 E297 E298 E299 E300 E349 E350 E351 E355 E357 E358 E359 E360 E361 E362 E363 E364 E365 E366 E367 E371 a_6_6_7 a_6_10_11 a_6_16_17 a_6_44_45 a_6_48_49 a_6_54_55 a_6_93_94 (turnThree_E2 E6 E7 E12 E13 E18 E19 E20 E21 E22 E23 E24 E25 E26 E27 E28 E29 E30 E31 E32 E33 E34 E35 E36 E37 E44 E45 E50 E51 E56 E57 E58 E59 E60 E61 E62 E63 E64 E65 E66 E67 E68 E69 E70 E71 E72 E73 E74 E75 E76 E77 E78 E79 E80 E81 E82 E83 E84 E85 E86 E87 E88 E89 E90 E91 E92 E93 E94 E95 E96 E97 E98 E99 E100 E101 E102 E103 E104 E105 E106 E107 E108 E109 E110 E111 E112 E113 E114 E115 E116 E117 E118 E119 E120 E121 E122 E123 E124 E125 E126 E127 E128 E129 E130 E131 E132 E133 E134 E135 E136 E137 E138 E139)) (turnThree_f58 E6 E7 E10 E11 E16 E17 E44 E45 E48 E49 E54 E55 E140 E145 E164 E173 E266 E267 E268 E269 E270 E271 E272 E273 E274 E275 E276 E280 E281 E282 E284 E285 E286 E287 E288 E289 E290 E291 E292 E293 E294 E295 E296 E297 E298 E299 E300 E352 E353 E354 E356 E357 E358 E359 E360 E361 E362 E363 E364 E368 E369 E370 E372 a_6_6_7 a_6_10_11 a_6_16_17 a_6_44_45 a_6_48_49 a_6_54_55 a_6_93_94 (turnThree_E2 E6 E7 E12 E13 E18 E19 E20 E21 E22 E23 E24 E25 E26 E27 E28 E29 E30 E31 E32 E33 E34 E35 E36 E37 E44 E45 E50 E51 E56 E57 E58 E59 E60 E61 E62 E63 E64 E65 E66 E67 E68 E69 E70 E71 E72 E73 E74 E75 E76 E77 E78 E79 E80 E81 E82 E83 E84 E85 E86 E87 E88 E89 E90 E91 E92 E93 E94 E95 E96 E97 E98 E99 E100 E101 E102 E103 E104 E105 E106 E107 E108 E109 E110 E111 E112 E113 E114 E115 E116 E117 E118 E119 E120 E121 E122 E123 E124 E125 E126 E127 E128 E129 E130 E131 E132 E133 E134 E135 E136 E137 E138 E139))
        have b275 : ¬ (q 275=0) := turnThree_f59 E6 E7 E10 E11 E16 E17 E44 E45 E48 E49 E54 E55 E145 E266 E267 E268 E269 E273 E274 E275 a_6_6_7 a_6_10_11 a_6_16_17 a_6_44_45 a_6_48_49 a_6_54_55 a_6_93_94
        have a_6_385_386 : ¬ (q 385=0∧q 386=0) := turnThree_f60 E6 E7 E10 E11 E16 E17 E44 E45 E48 E49 E54 E55 E140 E145 E164 E173 E266 E267 E268 E269 E270 E271 E272 E273 E274 E275 E276 E277 E278 E279 E280 E281 E282 E283 E284 E285 E286 E287 E288 E289 E290 E291 E292 E293 E294 E295 E296 E297 E298 E299 E300 E373 E374 E375 E376 E377 E378 E379 E380 E381 E382 E383 E384 E385 E386 a_6_6_7 a_6_10_11 a_6_16_17 a_6_44_45 a_6_48_49 a_6_54_55 a_6_93_94 (turnThree_D E6 E7 E10 E11 E12 E13 E16 E17 E18 E19 E20 E21 E22 E23 E24 E25 E26 E27 E28 E29 E30 E31 E32 E33 E34 E35 E36 E37 E44 E45 E48 E49 E50 E51 E54 E55 E56 E57 E58 E59 E60 E61 E62 E63 E64 E65 E66 E67 E68 E69 E70 E71 E72 E73 E74 E75 E76 E77 E78 E79 E80 E81 E82 E83 E84 E85 E86 E87 E88 E89 E90 E91 E92 E93 E94 E95 E96 E97 E98 E99 E100 E101 E102 E103 E104 E105 E106 E107 E108 E109 E110 E111 E112 E113 E114 E115 E116 E117 E118 E119 E120 E121 E122 E123 E124 E125 E126 E127 E128 E129 E130 E131 E132 E133 E134 E135 E136 E137 E138 E139 a_6_6_7 a_6_10_11 a_6_16_17 a_6_44_45 a_6_48_49 a_6_54_55)
        have a_3_275_265 : q 275=q 265 := turnThree_f61 E6 E7 E10 E11 E16 E17 E44 E45 E48 E49 E54 E55 E145 E265 E266 E267 E268 E269 E273 E274 E275 a_6_6_7 a_6_10_11 a_6_16_17 a_6_44_45 a_6_48_49 a_6_54_55 a_6_93_94
        have b276 : q 276=0 := turnThree_f62 E6 E7 E10 E11 E16 E17 E44 E45 E48 E49 E54 E55 E145 E267 E270 E271 E272 E273 E274 E276 a_6_6_7 a_6_10_11 a_6_16_17 a_6_44_45 a_6_48_49 a_6_54_55 a_6_93_94
        exact turnThree_leaf turnThree_r7 hσ hq h0 (turnThree_An (hF a_6_6_7) (turnThree_An (hF a_6_10_11) (turnThree_An (hF a_6_16_17) (turnThree_An (hF a_6_44_45) (turnThree_An (hF a_6_48_49) (turnThree_An (hF a_6_54_55) (turnThree_An (hF a_6_93_94) (turnThree_An (hF a_6_8_9) (turnThree_An (hF a_6_12_13) (turnThree_An (hF a_6_14_15) (turnThree_An (hF a_6_46_47) (turnThree_An (hF a_6_50_51) (turnThree_An (hF a_6_52_53) (turnThree_An (hT a_6_323_324) (turnThree_An (hT a_6_347_348) (turnThree_An (hT a_6_371_372) (turnThree_An (hF b275) (turnThree_An (hF a_6_385_386) (turnThree_An (hT a_3_275_265) (turnThree_An (hT b276) trivial)))))))))))))))))))) ⟨tab,mx⟩ hA
end Go.Proofs.YtobmjfjkpodhmaaGreatDoor
