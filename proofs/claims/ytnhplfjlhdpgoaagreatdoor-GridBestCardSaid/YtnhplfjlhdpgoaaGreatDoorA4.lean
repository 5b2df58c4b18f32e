/- Part 4 of the walks and of the mathematics under them: BJ NumJ. -/
import Derived.Test.YtnhplfjlhdpgoaaGreatDoorA3
import Derived.Test.YtnhplfjlhdpgoaaGreatDoorA1
set_option maxHeartbeats 16000000
set_option maxRecDepth 100000
/- BJ -/
namespace Go.Proofs.YtnhplfjlhdpgoaaGreatDoor
open Go.RowKit Cx
theorem Zv {w : World} {va vb : Value} {a b : Nat} (ha : NatN w va a) (hb : NatN w vb b) (sa : Small a) (sb : Small b) (hb0 : 0 < b) :
  Calls Tryz.prog 100 #[va,vb] w fun e w' => Below w.heap.size w w'∧∃ v1 v2,e=.returned (.tuple #[v1,v2])∧NatN w' v1 (a / b)∧NatN w' v2 (a % b) := by
 have ha' := ha
 have hb' := hb
 obtain ⟨la,hla,ta,rfl⟩ := ha
 obtain ⟨lb,hlb,tb,rfl⟩ := hb
 obtain ⟨ao,ca,b1,o1,rfl,sla⟩ := hla.sl32
 obtain ⟨bo,cb,b2,o2,rfl,slb⟩ := hlb.sl32
 have hm : lb.length ≠ 0 := fun e => by
  rw [List.length_eq_zero_iff.1 e,Us] at hb0
  omega
 by_cases h : val la < val lb
 ·exact FD ha' hb' sa sb h hm
 ·have hle : val lb≤val la := by omega
  have hA := sa.len ta
  have hB := sb.len tb
  by_cases hn : la.length≤2
  ·refine Fe ha' hb' sa sb hle hb0 hm hn ?_
   have h1 := ZB sla.lim
   have h2 := YH hn
   have h3 : pw 2=18446744073709551616 := by decide
   omega
  ·by_cases h1 : lb.length=1
   ·obtain ⟨x,hx⟩ := List.length_eq_one_iff.1 h1
    subst hx
    have e1 : val [x]=x := by simp [val]
    rw [e1] at *
    exact FZ ha' slb hb' sa sb hle hb0 (by omega)
   ·obtain ⟨m,hmm⟩ : ∃ m,lb.length=m+2 := ⟨lb.length - 2,by omega⟩
    have ht : nth lb (m+1) ≠ 0 := by
     rcases tb with e | e
     ·rw [e] at hm; simp at hm
     ·rw [hmm] at e; exact e
    refine Fw sla.lim ha' slb hb' hmm ht (by omega) ?_ (sa.len0 ta) sa sb hle
    exact Wi tb (Nat.lt_of_le_of_lt hle (ZB sla.lim))
theorem Zf {w : World} {v : Value} {n : Nat} (h : NatN w v n) : ∃ ao len cap,v=.slice ao len cap∧len≤9223372036854775807∧(2 < len ↔ 18446744073709551616≤n)∧(len=0 ↔ n=0) := by
 obtain ⟨l,hl,t,rfl⟩ := h
 have h4 : pw 2=18446744073709551616 := by simp [pw]
 have hz : l.length=0 ↔ val l=0 := by
  constructor
  ·intro h; rw [List.length_eq_zero_iff.1 h]; rfl
  ·intro h; rw [Oc t h]; rfl
 have hb : 2 < l.length ↔ 18446744073709551616≤val l := by
  constructor
  ·intro h
   have h1 := JX t (by intro e; rw [e] at h; simp at h)
   have h2 := YH (show 2≤l.length - 1 by omega)
   omega
  ·intro h
   rcases Nat.lt_or_ge 2 l.length with hc | hc
   ·exact hc
   ·have h1 := ZB hl.1
    have h2 := YH hc
    omega
 obtain ⟨hlim,⟨rfl,ao,cap,rfl⟩ | ⟨b,off,cap,rfl,hc,hm,hlt,hs⟩⟩ := hl
 ·exact ⟨ao,0,cap,rfl,by omega,hb,hz⟩
 ·unfold maxLen at hm
  exact ⟨_,l.length,cap,rfl,by omega,hb,hz⟩
theorem UR {a b : Nat} (h : Small a) (hb : b≤a) : Small b := ⟨Nat.lt_of_le_of_lt hb h.lt⟩
theorem UD {w : World} {va vb : Value} {a b : Nat} (ha : NatN w va a) (hb : NatN w vb b) (sa : Small a) (sb : Small b) :
  Calls Tryz.prog 99 #[va,vb] w fun e w' => Below w.heap.size w w'∧∃ v,e=.returned v∧NatN w' v (Nat.gcd a b) := by
 have HA := Qb ha
 have HB := Qb hb
 have SA := Qb sa
 have SB := Qb sb
 clear ha hb sa sb
 go_enter Tryz.func99,Tryz.ntmps99
 go_wp2
 go_loopg [0,1] b (fun k x y wr => ∃ A B : Nat,NatN wr x A∧NatN wr y B∧Nat.gcd A B=Nat.gcd a b∧B≤k∧Small A∧Small B∧Below w.heap.size w wr)
 case atStart => exact ⟨a,b,HA.out,HB.out,rfl,Nat.le_refl _,SA.out,SB.out,Below.refl _ _⟩
 case round =>
  obtain ⟨A,B,hA,hB,hg,hk,sA,sB,hbl⟩ := hrel
  have HHA := Qb hA
  have HHB := Qb hB
  have HG := Qb hg
  have HSA := Qb sA
  have HSB := Qb sB
  have HBL := Qb hbl
  obtain ⟨bo,n,cb,rfl,hnm,hbig,hnz⟩ := Zf hB
  have HN := Qb (And.intro hbig hnz)
  clear hA hB hg sA sB hbig hnz hbl
  by_cases h2 : 2 < n
  ·have hB0 : 0 < B := by have := HN.out.1.1 h2; omega
   go_wp2_with fail
   refine (Zv HHA.out HHB.out HSA.out HSB.out hB0).mono ?_
   rintro e w2 ⟨hb2,v1,v2,rfl,hv1,hv2⟩
   have HV2 := Qb hv2
   have HB2 := Qb (HBL.out.trans (hb2.mono HBL.out.size))
   have HHB2 := Qb (HHB.out.below hb2)
   clear hv1 hv2 hb2
   go_wp2
   go_roundg (A % B)
   case measure => have := Nat.mod_lt A hB0; omega
   case rel =>
    exact ⟨B,A % B,HHB2.out,HV2.out,by rw [← HG.out,Nat.gcd_comm B,← Nat.gcd_rec,Nat.gcd_comm],Nat.le_refl _,HSB.out,UR HSB.out (Nat.le_of_lt (Nat.mod_lt _ hB0)),HB2.out⟩
  ·by_cases h0 : n=0
   ·have hB0 : B=0 := HN.out.2.1 h0
    subst h0
    subst hB0
    have HAV : Hid (NatN wr u0 A∧A=Nat.gcd a b) := ⟨HHA.out,by have := HG.out; rw [Nat.gcd_zero_right] at this; exact this⟩
    go_wp2
    go_ret
    exact ⟨HBL.out,_,rfl,by rw [← HAV.out.2]; exact HAV.out.1⟩
   ·have xn : ((n : Int) == 0)=false := beq_eq_false_iff_ne.mpr (by omega)
    have hB0 : 0 < B := by
     rcases Nat.eq_zero_or_pos B with h | h
     ·exact absurd (HN.out.2.2 h) h0
     ·exact h
    have HBS : Hid (B < 18446744073709551616) := by
     show _ < _
     have := HN.out.1
     omega
    obtain ⟨xo,nx,cx,hx,hxm,hxbig,hxnz⟩ := Zf HHA.out
    subst hx
    have HNX := Qb (And.intro hxbig hxnz)
    clear hxbig hxnz
    by_cases h3 : 2 < nx
    ·go_wp2_with fail
     refine (Zv HHA.out HHB.out HSA.out HSB.out hB0).mono ?_
     rintro e w2 ⟨hb2,v1,v2,rfl,hv1,hv2⟩
     have HV2 := Qb hv2
     have HB2 := Qb (HBL.out.trans (hb2.mono HBL.out.size))
     have HHB2 := Qb (HHB.out.below hb2)
     have HGM : Hid (Nat.gcd B (A % B)=Nat.gcd a b) := by rw [← HG.out,Nat.gcd_comm B,← Nat.gcd_rec,Nat.gcd_comm]; rfl
     have HMS : Hid (A % B < 18446744073709551616) := Nat.lt_trans (Nat.mod_lt _ hB0) HBS.out
     clear hv1 hv2 hb2
     go_wp2_with fail
     refine (Jf HHB2.out HBS.out).mono ?_
     rintro e wz ⟨rfl,hz⟩
     have hz2 := hz.symm; subst hz2; clear hz
     go_wp2_with fail
     refine (Jf HV2.out HMS.out).mono ?_
     rintro e wz ⟨rfl,hz⟩
     have hz2 := hz.symm; subst hz2; clear hz
     have la1 := HBS.out
     have lb1 := HMS.out
     go_wp2
     go_loopw [9,10] (fun x y wy => ∃ X Y q : Nat,x=.int .u64 X∧y=.int .u64 Y∧X < 18446744073709551616∧Y < 18446744073709551616∧Nat.gcd X Y=Nat.gcd a b∧wy=w2.drewN q) (fun _ y _ => (intOf y).toNat)
     case atStart => exact ⟨B,(A % B),0,rfl,rfl,la1,lb1,HGM.out,rfl⟩
     case round =>
      obtain ⟨X,Y,q,rfl,rfl,hX,hY,hg,rfl⟩ := hrel
      have HGG : Hid (Nat.gcd X Y=Nat.gcd a b) := hg
      clear hg
      by_cases h0 : Y=0
      ·subst h0
       go_wp2_with fail
       refine (ZL X _ hX).mono ?_
       rintro e w9 ⟨hb9,v9,rfl,hv9⟩
       have hgz := HGG.out
       rw [Nat.gcd_zero_right] at hgz
       rw [hgz] at hv9
       have HV9 : Hid (NatN w9 v9 (Nat.gcd a b)) := hv9
       have hbq : Below w.heap.size w (w2.drewN q) := QM HB2.out _
       have HB9 : Hid (Below w.heap.size w w9) := hbq.trans (hb9.mono hbq.size)
       clear hv9 hgz hbq
       go_wp2
       go_ret
       exact ⟨HB9.out,v9,rfl,HV9.out⟩
      ·have hne : ((Y : Int) != 0)=true := by rw [bne_iff_ne]; omega
       have hpos : 0 < Y := by omega
       go_wp2
       go_quiet (fail)
       go_wp2
       go_roundw
       case rel =>
        have e : ((X % Y : Nat) : Int)=(X : Int) % (Y : Int) := Int.natCast_emod _ _
        exact ⟨Y,X % Y,_,rfl,by rw [e],hY,Nat.lt_trans (Nat.mod_lt _ hpos) hY,by rw [← HGG.out,Nat.gcd_comm Y,← Nat.gcd_rec,Nat.gcd_comm],World.drewN_drewN _ _ _⟩
       case measure =>
        have e : ((X % Y : Nat) : Int)=(X : Int) % (Y : Int) := Int.natCast_emod _ _
        have := Nat.mod_lt X hpos
        simp only [intOf,← e]
        simp
        omega
    ·have HAS : Hid (A < 18446744073709551616) := by
      show _ < _
      have := HNX.out.1
      omega
     go_wp2_with fail
     refine (Jf HHA.out HAS.out).mono ?_
     rintro e wz ⟨rfl,hz⟩
     have hz2 := hz.symm; subst hz2; clear hz
     go_wp2_with fail
     refine (Jf HHB.out HBS.out).mono ?_
     rintro e wz ⟨rfl,hz⟩
     have hz2 := hz.symm; subst hz2; clear hz
     have la1 := HAS.out
     have lb1 := HBS.out
     go_wp2
     go_loopw [9,10] (fun x y wy => ∃ X Y q : Nat,x=.int .u64 X∧y=.int .u64 Y∧X < 18446744073709551616∧Y < 18446744073709551616∧Nat.gcd X Y=Nat.gcd a b∧wy=wr.drewN q) (fun _ y _ => (intOf y).toNat)
     case atStart => exact ⟨A,B,0,rfl,rfl,la1,lb1,HG.out,rfl⟩
     case round =>
      obtain ⟨X,Y,q,rfl,rfl,hX,hY,hg,rfl⟩ := hrel
      have HGG : Hid (Nat.gcd X Y=Nat.gcd a b) := hg
      clear hg
      by_cases h0 : Y=0
      ·subst h0
       go_wp2_with fail
       refine (ZL X _ hX).mono ?_
       rintro e w9 ⟨hb9,v9,rfl,hv9⟩
       have hgz := HGG.out
       rw [Nat.gcd_zero_right] at hgz
       rw [hgz] at hv9
       have HV9 : Hid (NatN w9 v9 (Nat.gcd a b)) := hv9
       have hbq : Below w.heap.size w (wr.drewN q) := QM HBL.out _
       have HB9 : Hid (Below w.heap.size w w9) := hbq.trans (hb9.mono hbq.size)
       clear hv9 hgz hbq
       go_wp2
       go_ret
       exact ⟨HB9.out,v9,rfl,HV9.out⟩
      ·have hne : ((Y : Int) != 0)=true := by rw [bne_iff_ne]; omega
       have hpos : 0 < Y := by omega
       go_wp2
       go_quiet (fail)
       go_wp2
       go_roundw
       case rel =>
        have e : ((X % Y : Nat) : Int)=(X : Int) % (Y : Int) := Int.natCast_emod _ _
        exact ⟨Y,X % Y,_,rfl,by rw [e],hY,Nat.lt_trans (Nat.mod_lt _ hpos) hY,by rw [← HGG.out,Nat.gcd_comm Y,← Nat.gcd_rec,Nat.gcd_comm],World.drewN_drewN _ _ _⟩
       case measure =>
        have e : ((X % Y : Nat) : Int)=(X : Int) % (Y : Int) := Int.natCast_emod _ _
        have := Nat.mod_lt X hpos
        simp only [intOf,← e]
        simp
        omega
end Go.Proofs.YtnhplfjlhdpgoaaGreatDoor
/- NumJ -/
namespace Go.Proofs.YtnhplfjlhdpgoaaGreatDoor
open Go.RowKit Cx
def Jv (l : List Nat) (n k i : Nat) : Nat := if i < k then nth l (n - 1 - i) else 0
theorem Bj (l : List Nat) (n : Nat) : Jv l n 0 0=0 := rfl
theorem Bs (l : List Nat) (n : Nat) : Jv l n 0 1=0 := rfl
theorem Bm (l : List Nat) (n : Nat) : Jv l n 0 2=0 := rfl
theorem Ru (l : List Nat) (n : Nat) : Jv l n 1 0=nth l (n - 1) := rfl
theorem RJ (l : List Nat) (n : Nat) : Jv l n 1 1=0 := rfl
theorem Rw (l : List Nat) (n : Nat) : Jv l n 1 2=0 := rfl
theorem Rq (l : List Nat) (n : Nat) : Jv l n 2 0=nth l (n - 1) := rfl
theorem Ta (l : List Nat) (n : Nat) : Jv l n 2 1=nth l (n - 2) := rfl
theorem RT (l : List Nat) (n : Nat) : Jv l n 2 2=0 := rfl
theorem RY (l : List Nat) (n : Nat) : Jv l n 3 0=nth l (n - 1) := rfl
theorem Rp (l : List Nat) (n : Nat) : Jv l n 3 1=nth l (n - 2) := rfl
theorem Rx (l : List Nat) (n : Nat) : Jv l n 3 2=nth l (n - 3) := rfl
theorem Na {x0 x1 x2 sh : Nat} (h0 : x0 < 4294967296) (h1 : x1 < 4294967296) (h2 : x2 < 4294967296) (hsh : sh < 32) (htop : x0*2 ^ sh < 4294967296) :
  bits .or .u64 (IntKind.u64.wrap (bits .or .u64 ((x0 : Int)*4294967296) (x1 : Int)*2 ^ sh)) (IntKind.u64.wrap ((x2 : Int)*2 ^ sh) / 4294967296)=(((x0*4294967296+x1)*2 ^ sh+x2*2 ^ sh / 4294967296 : Nat) : Int) := by
 have hS := Nat.two_pow_pos sh
 have h2p := Um hsh
 have hW := Xb hsh
 have e1 : x0*2 ^ sh+2 ^ sh≤4294967296 := by
  rw [hW] at htop ⊢
  have : x0 < 2 ^ (32 - sh) := Nat.lt_of_mul_lt_mul_right htop
  have := Nat.mul_le_mul_right (2 ^ sh) this
  rwa [Nat.succ_mul] at this
 have b1 : (x0*4294967296+x1)*2 ^ sh < 18446744073709551616 := by
  have e2 : (x0*4294967296+x1)*2 ^ sh=(x0*2 ^ sh)*4294967296+x1*2 ^ sh := by
   generalize 2 ^ sh=S
   grind
  have h3 : (x1+1)*2 ^ sh≤4294967296*2 ^ sh := Nat.mul_le_mul_right _ h1
  rw [Nat.succ_mul] at h3
  omega
 have b2 : x2*2 ^ sh≤4294967295*2147483648 := Nat.mul_le_mul (by omega) h2p
 have b3 : x2*2 ^ sh / 4294967296 < 2 ^ sh := by
  rw [Nat.div_lt_iff_lt_mul (by omega),Nat.mul_comm (2 ^ sh)]
  exact Nat.mul_lt_mul_of_pos_right h2 hS
 have c1 : ((x0*4294967296+x1 : Nat) : Int)*2 ^ sh=(((x0*4294967296+x1)*2 ^ sh : Nat) : Int) := by
  rw [Int.natCast_mul,Int.natCast_pow]; rfl
 have c2 : (x2 : Int)*2 ^ sh=((x2*2 ^ sh : Nat) : Int) := by
  rw [Int.natCast_mul,Int.natCast_pow]; rfl
 rw [UP x0 x1 h0 h1,c1,c2]
 have e5 := Nat.shiftLeft_add_eq_or_of_lt b3 (x0*4294967296+x1)
 rw [Nat.shiftLeft_eq] at e5
 generalize (x0*4294967296+x1)*2 ^ sh=M at *
 generalize x2*2 ^ sh=L at *
 have w1 : IntKind.u64.wrap (M : Int)=(M : Int) := by rw [IntKind.wrap_u64]; omega
 have w2 : IntKind.u64.wrap (L : Int) / 4294967296=((L / 4294967296 : Nat) : Int) := by rw [IntKind.wrap_u64]; omega
 rw [w1,w2,u64_or_nat M (L / 4294967296) b1 (by omega),← e5]
theorem Pz {w : World} {ao : Option Addr} {ca b1 o1 n sh : Nat} {la : List Nat} (ha : Sl w 56 ao ca la b1 o1) (hla : la.length≤n) (hn : n≤1099511627776) (h3 : 3≤n) (hsh : sh < 32) (htop : nth la (n - 1)*2 ^ sh < 4294967296) :
  Calls Tryz.prog 187 #[.slice ao la.length ca,.int .i64 n,.int .i64 sh] w fun e w' => Below w.heap.size w w'∧e=.returned (.int .u64 ((nth la (n - 1)*4294967296+nth la (n - 2))*2 ^ sh+nth la (n - 3)*2 ^ sh / 4294967296 : Nat)) := by
 have HA : Hid (Sl w 56 ao ca la b1 o1) := ha
 clear ha
 go_enter Tryz.func187,Tryz.ntmps187
 go_wp2
 go_loopw [10] (fun i wr => ∃ k : Nat,k≤3∧i=.int .i64 k∧wr=w.alloc (.cells #[.int .u64 (Jv la n k 0),.int .u64 (Jv la n k 1),.int .u64 (Jv la n k 2)] 217)) (fun i _ => 3 - (intOf i).toNat)
 case atStart => exact ⟨0,by omega,rfl,rfl⟩
 case round =>
  obtain ⟨k,hk,rfl,rfl⟩ := hrel
  rcases (show k=0 ∨ k=1 ∨ k=2 ∨ k=3 by omega) with rfl | rfl | rfl | rfl
  ·simp only [Bj,Bs,Bm]
   by_cases hin : n - 1 < la.length
   ·have hia : ∀ wx,(Instr.indexAt 56 (.slice ao la.length ca) (.int .i64 ((n : Int) - 1))).run Tryz.prog wx=.ok (.pointer (some ⟨b1,o1+(n - 1),none⟩)) wx := fun wx => by
     have := HA.out.idx (n - 1) hin wx
     rwa [show (((n - 1) : Nat) : Int)=(n : Int) - 1 from by omega] at this
    have hb1 : b1 < w.heap.size := HA.out.lt (by omega)
    have hca := HA.out.seg (n - 1) hin
    have hxa := QF HA.out.lim (n - 1)
    go_wp2
    go_roundw
    case rel => exact ⟨1,by omega,rfl,rfl⟩
    case measure => simp [intOf]
   ·have hz : nth la (n - 1)=0 := QL (by omega)
    have HZ : Hid (nth la (n - 1)=0) := hz
    clear hz
    go_wp2
    go_roundw
    case rel => exact ⟨1,by omega,rfl,by simp only [Ru,RJ,Rw,HZ.out]; rfl⟩
    case measure => simp [intOf]
  ·simp only [Ru,RJ,Rw]
   by_cases hin : n - 2 < la.length
   ·have hia : ∀ wx,(Instr.indexAt 56 (.slice ao la.length ca) (.int .i64 ((n : Int) - 1 - 1))).run Tryz.prog wx=.ok (.pointer (some ⟨b1,o1+(n - 2),none⟩)) wx := fun wx => by
     have := HA.out.idx (n - 2) hin wx
     rwa [show (((n - 2) : Nat) : Int)=(n : Int) - 1 - 1 from by omega] at this
    have hb1 : b1 < w.heap.size := HA.out.lt (by omega)
    have hca := HA.out.seg (n - 2) hin
    have hxa := QF HA.out.lim (n - 2)
    go_wp2
    go_roundw
    case rel => exact ⟨2,by omega,rfl,rfl⟩
    case measure => simp [intOf]
   ·have hz : nth la (n - 2)=0 := QL (by omega)
    have HZ : Hid (nth la (n - 2)=0) := hz
    clear hz
    go_wp2
    go_roundw
    case rel => exact ⟨2,by omega,rfl,by simp only [Rq,Ta,RT,HZ.out]; rfl⟩
    case measure => simp [intOf]
  ·simp only [Rq,Ta,RT]
   by_cases hin : n - 3 < la.length
   ·have hia : ∀ wx,(Instr.indexAt 56 (.slice ao la.length ca) (.int .i64 ((n : Int) - 1 - 2))).run Tryz.prog wx=.ok (.pointer (some ⟨b1,o1+(n - 3),none⟩)) wx := fun wx => by
     have := HA.out.idx (n - 3) hin wx
     rwa [show (((n - 3) : Nat) : Int)=(n : Int) - 1 - 2 from by omega] at this
    have hb1 : b1 < w.heap.size := HA.out.lt (by omega)
    have hca := HA.out.seg (n - 3) hin
    have hxa := QF HA.out.lim (n - 3)
    go_wp2
    go_roundw
    case rel => exact ⟨3,by omega,rfl,rfl⟩
    case measure => simp [intOf]
   ·have hz : nth la (n - 3)=0 := QL (by omega)
    have HZ : Hid (nth la (n - 3)=0) := hz
    clear hz
    go_wp2
    go_roundw
    case rel => exact ⟨3,by omega,rfl,by simp only [RY,Rp,Rx,HZ.out]; rfl⟩
    case measure => simp [intOf]
  ·simp only [RY,Rp,Rx]
   have x0 := QF HA.out.lim (n - 1)
   have x1 := QF HA.out.lim (n - 2)
   have x2 := QF HA.out.lim (n - 3)
   go_wp2
   go_quiet (fail)
   go_wp2
   go_ret
   exact ⟨QM (Qh _ _) _,WN (Na x0 x1 x2 hsh htop)⟩
end Go.Proofs.YtnhplfjlhdpgoaaGreatDoor
