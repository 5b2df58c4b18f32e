/- Part 10 of the walks and of the mathematics under them: BN BO BP BTA. -/
import Derived.Test.YthhnabccdehmgaaGreatDoorA7
import Derived.Test.YthhnabccdehmgaaGreatDoorA6
import Derived.Deep.DeepCutAuto
set_option maxHeartbeats 16000000
set_option maxRecDepth 100000
/- BN -/
namespace Go.Proofs.YthhnabccdehmgaaGreatDoor
open Go.RowKit Cx
attribute [local go_sem ↓] Go.wp_at_zero Go.wp_at_succ
theorem JR {w : World} {ao : Option Addr} {c n : Nat} (h : NatN w (.slice ao 1 c) n) : ∃ b o,(∀ wx,(Instr.indexAt 30 (.slice ao 1 c) (.int .i64 0)).run Tryz.prog wx=.ok (.pointer (some ⟨b,o,none⟩)) wx)∧w.cell? ⟨b,o,none⟩=some (.int .u32 (n : Int))∧b < w.heap.size∧n < 4294967296 := by
 obtain ⟨l,hl,t,rfl⟩ := h
 obtain ⟨ao',c',b,o,e,sl⟩ := hl.sl32
 simp only [Value.slice.injEq] at e
 obtain ⟨rfl,hlen,rfl⟩ := e
 obtain ⟨x,rfl⟩ := List.length_eq_one_iff.1 hlen.symm
 have e1 : val [x]=x := by simp [val]
 rw [e1]
 exact ⟨b,o,sl.idx 0 (by simp),sl.seg 0 (by simp),sl.lt (by simp),sl.lim.head⟩
theorem Yx {w : World} {ao : Option Addr} {l c n : Nat} (h : NatN w (.slice ao l c) n) (hl : l ≠ 1) : n ≠ 1 := by
 obtain ⟨ls,hv,t,rfl⟩ := h
 obtain ⟨ao',c',b,o,e,sl⟩ := hv.sl32
 cases e
 intro h
 by_cases h0 : ls.length=0
 ·rw [List.length_eq_zero_iff.1 h0,UX] at h
  omega
 ·have h1 := Wu t (show val ls < pw 1 by rw [h]; decide)
  omega
theorem LH {z : Int} {b : Nat} (hb : 0 < b) : decide ((mkRat z b).num < 0)=decide (z < 0)∧(mkRat z b).num.natAbs=z.natAbs / Nat.gcd z.natAbs b∧(mkRat z b).den=b / Nat.gcd z.natAbs b := by
 rw [Rat.mkRat_def,dif_neg (by omega),Rat.normalize_eq]
 have hG : 0 < Nat.gcd z.natAbs b := Nat.gcd_pos_of_pos_right _ hb
 obtain ⟨k,hk⟩ : (Nat.gcd z.natAbs b : Int) ∣ z := Int.ofNat_dvd_left.2 (Nat.gcd_dvd_left _ _)
 show decide (z / (Nat.gcd z.natAbs b : Int) < 0)=_∧(z / (Nat.gcd z.natAbs b : Int)).natAbs=_∧b / Nat.gcd z.natAbs b=b / Nat.gcd z.natAbs b
 generalize Nat.gcd z.natAbs b=G at *
 have e1 : z / (G : Int)=k := by rw [hk,Int.mul_ediv_cancel_left _ (by omega)]
 have e2 : z.natAbs / G=k.natAbs := by rw [hk,Int.natAbs_mul,Int.natAbs_natCast,Nat.mul_div_cancel_left _ hG]
 rw [e1,e2]
 refine ⟨?_,rfl,rfl⟩
 have hGi : (0 : Int) < G := by omega
 by_cases h : k < 0
 ·have := Int.mul_neg_of_pos_of_neg hGi h
  rw [← hk] at this
  simp [h,this]
 ·have := Int.mul_nonneg (Int.le_of_lt hGi) (Int.not_lt.1 h)
  rw [← hk] at this
  simp [h,Int.not_lt.2 this]
theorem RV.mk {w : World} {g : Nat} {z : Int} {b : Nat} {a1 a2 : Option Addr} {l1 c1 l2 c2 : Nat} (hb : 0 < b) (hk : Blk w g #[.bool (decide (z < 0)),.slice a1 l1 c1,.bool false,.slice a2 l2 c2] 34) (h1 : NatN w (.slice a1 l1 c1) (z.natAbs / Nat.gcd z.natAbs b)) (h2 : NatN w (.slice a2 l2 c2) (b / Nat.gcd z.natAbs b)) : RV w g (mkRat z b) := by
 obtain ⟨e1,e2,e3⟩ := LH (z := z) hb
 exact ⟨a1,l1,c1,a2,l2,c2,by rw [e1]; exact hk,by rw [e2]; exact h1,Or.inl (by rw [e3]; exact h2)⟩
theorem Hf {w : World} {g : Nat} {a1 a2 : Option Addr} {l1 c1 l2 c2 b : Nat} {z : Int} (hk : Blk w g #[.bool (decide (z < 0)),.slice a1 l1 c1,.bool false,.slice a2 l2 c2] 34) (ha : NatN w (.slice a1 l1 c1) z.natAbs) (hb : NatN w (.slice a2 l2 c2) b) (hb0 : 0 < b) (sa : Small z.natAbs) (sb : Small b) :
  Calls Tryz.prog 85 #[.pointer (some ⟨g,0,none⟩)] w fun e w' => e=.returned (.pointer (some ⟨g,0,none⟩))∧Save g w w'∧RV w' g (mkRat z b) := by
 obtain ⟨_,_,_,ea,hal,habig,haz⟩ := QQ ha
 obtain ⟨_,_,_,eb,hbl,hbbig,hbz⟩ := QQ hb
 cases ea
 cases eb
 have hl2 : l2 ≠ 0 := fun h => by have := hbz.1 h; omega
 have hne : ((l2 : Int) == 0)=false := beq_eq_false_iff_ne.mpr (by omega)
 have HK := Qa hk
 have HA := Qa ha
 have HB := Qa hb
 have SA := Qa sa
 have SB := Qa sb
 have HZ := Qa haz
 obtain ⟨x0,x1,x2,x3⟩ : w.cell? ⟨g,0,none⟩=_∧w.cell? ⟨g,1,none⟩=_∧w.cell? ⟨g,2,none⟩=_∧w.cell? ⟨g,3,none⟩=_ := ⟨hk.cell 0,hk.cell 1,hk.cell 2,hk.cell 3⟩
 clear hk ha hb sa sb habig hbbig haz hbz
 by_cases h1 : l1=0
 ·have hz : z=0 := by have := HZ.out.1 h1; omega
  subst h1
  subst hz
  have hat : At2 w g 2 := ⟨⟨_,HK.out.cell 2⟩,⟨_,HK.out.cell 3⟩,HK.out.frozen 2,HK.out.frozen 3,HK.out.lt⟩
  have HAT := Qa hat
  clear hat
  go_enter Tryz.func85,Tryz.ntmps85
  go_wp2_with fail
  refine (Vm 1 (by decide) HAT.out).mono ?_
  rintro e w1 ⟨rfl,wz,ao,n,c,hbl1,rfl,hn⟩
  have HN := Qa hn
  have HB1 := Qa hbl1
  clear hn hbl1
  go_wp2
  go_ret
  have hkz := HK.out.below HB1.out HK.out.lt
  refine ⟨rfl,((Save.of HB1.out).set _ _).set _ _,a1,0,c1,ao,n,c,?_,?_,Or.inl ?_⟩
  ·have := (hkz.set 3 (.slice ao n c)).set 2 (.bool (decide (((1 : Nat) : Int) < 0)))
   simpa using this
  ·have := (HA.out.below HB1.out).two (g := g) (i := 3) (j := 2) (x := .slice ao n c) (y := .bool (decide (((1 : Nat) : Int) < 0))) ⟨_,_,hkz,by simp [Ql]⟩ rfl
   simpa using this
  ·have := HN.out.two (g := g) (i := 3) (j := 2) (x := .slice ao n c) (y := .bool (decide (((1 : Nat) : Int) < 0))) ⟨_,_,hkz,by simp [Ql]⟩ rfl
   simpa using this
 ·have hne1 : ((l1 : Int) == 0)=false := beq_eq_false_iff_ne.mpr (by omega)
  by_cases hone : b=1
  ·have hl21 : l2=1 := by
    by_cases h : l2=1
    ·exact h
    ·exact absurd hone (Yx HB.out h)
   subst hl21
   obtain ⟨b3,o3,hi3,hc3,hlt3,hs3⟩ := JR HB.out
   rw [hone] at hc3
   go_enter Tryz.func85,Tryz.ntmps85
   go_wp2
   go_ret
   refine ⟨rfl,Save.of (Below.refl _ _),RV.mk hb0 HK.out ?_ ?_⟩
   ·rw [hone,Nat.gcd_one_right,Nat.div_one]; exact HA.out
   ·rw [show b / Nat.gcd z.natAbs b=b by rw [hone,Nat.gcd_one_right,Nat.div_one]]; exact HB.out
  ·by_cases hl21 : l2=1
   ·subst hl21
    obtain ⟨b3,o3,hi3,hc3,hlt3,hs3⟩ := JR HB.out
    have hne3 : ((b : Int) == 1)=false := beq_eq_false_iff_ne.mpr (by omega)
    go_enter Tryz.func85,Tryz.ntmps85
    go_wp2_with fail
    have HS : Hid (∀ w',Below w.heap.size w w'→w'.cell? ⟨g,1,none⟩=some (.slice a1 l1 c1)∧w'.cell? ⟨g,3,none⟩=some (.slice a2 1 c2)) := fun w' hb => ⟨(HK.out.below hb HK.out.lt).cell 1,(HK.out.below hb HK.out.lt).cell 3⟩
    go_region_held3 (fun w' => w'.cell? ⟨g,1,none⟩=some (.slice a1 l1 c1)∧w'.cell? ⟨g,3,none⟩=some (.slice a2 1 c2)) (first | go_keep | exact hs1)
     (first
      | (go_at_call 130; refine (XI (w := w.drew) (HA.out.below (Below.drew (Below.refl _ _))) (HB.out.below (Below.drew (Below.refl _ _))) SA.out SB.out).mono ?_; rintro e w1 ⟨hb0',vg,rfl,hvg⟩; obtain ⟨ag,lg,cg,rfl,hgl,_,hgz⟩ := QQ hvg; have hb1 : Below w.heap.size w w1 := (Below.drew (Below.refl _ w)).trans hb0'; have hs1 := HS.out w1 hb1; clear hb0'))
    clear hs1
    have HG := Qa hvg
    have HB1 := Qa hb1
    have HK1 := Qa (HK.out.below hb1 HK.out.lt)
    obtain ⟨k0,k1,k2,k3⟩ : w1.cell? ⟨g,0,none⟩=_∧w1.cell? ⟨g,1,none⟩=_∧w1.cell? ⟨g,2,none⟩=_∧w1.cell? ⟨g,3,none⟩=_ := ⟨HK1.out.cell 0,HK1.out.cell 1,HK1.out.cell 2,HK1.out.cell 3⟩
    have hG0 : 0 < Nat.gcd z.natAbs b := Nat.gcd_pos_of_pos_right _ hb0
    have HSG : Hid (Small (Nat.gcd z.natAbs b)) := Vv SB.out (Nat.le_of_dvd hb0 (Nat.gcd_dvd_right _ _))
    clear hvg hb1 hgz x0 x1 x2 x3
    by_cases hg1 : Nat.gcd z.natAbs b=1
    ·have hlg : lg=1 := by
      by_cases h : lg=1
      ·exact h
      ·exact absurd hg1 (Yx HG.out h)
     subst hlg
     obtain ⟨b4,o4,hi4,hc4,hlt4,hs4⟩ := JR HG.out
     rw [hg1] at hc4
     go_wp2
     go_ret
     refine ⟨rfl,Save.of HB1.out,RV.mk hb0 HK1.out ?_ ?_⟩
     ·rw [hg1,Nat.div_one]; exact HA.out.below HB1.out
     ·rw [hg1,Nat.div_one]; exact HB.out.below HB1.out
    ·by_cases hlg : lg=1
     ·subst hlg
      obtain ⟨b4,o4,hi4,hc4,hlt4,hs4⟩ := JR HG.out
      have hne4 : ((Nat.gcd z.natAbs b : Int) == 1)=false := beq_eq_false_iff_ne.mpr (by omega)
      go_wp2_with fail
      refine (QW (HA.out.below HB1.out) HG.out SA.out HSG.out hG0).mono ?_
      rintro e w2 ⟨hb2,vp,vr,rfl,hvp,_⟩
      obtain ⟨ap,lp,cp,rfl,hpl,_,_⟩ := QQ hvp
      have hbl2 := HB1.out.trans (hb2.mono HB1.out.size)
      have HP := Qa hvp
      have HG2 := Qa (HG.out.below hb2)
      have HK2 := Qa (HK1.out.below hb2 HK1.out.lt)
      have HB2 := Qa hbl2
      obtain ⟨m0,m1,m2,m3⟩ : w2.cell? ⟨g,0,none⟩=_∧w2.cell? ⟨g,1,none⟩=_∧w2.cell? ⟨g,2,none⟩=_∧w2.cell? ⟨g,3,none⟩=_ := ⟨HK2.out.cell 0,HK2.out.cell 1,HK2.out.cell 2,HK2.out.cell 3⟩
      clear hvp hb2 hbl2 k0 k1 k2 k3
      go_wp2_with fail
      refine (QW (HB.out.below HB2.out) HG2.out SB.out HSG.out hG0).mono ?_
      rintro e w3 ⟨hb3,vq,vr2,rfl,hvq,_⟩
      obtain ⟨aq,lq,cq,rfl,hql,_,_⟩ := QQ hvq
      have HQ := Qa hvq
      have HP3 := Qa (HP.out.below hb3)
      have HK3 := Qa (HK2.out.below hb3 HK2.out.lt)
      have HB3 := Qa (HB2.out.trans (hb3.mono HB2.out.size))
      have q1 := HK3.out.cell 1
      have f1 := HK3.out.frozen 1
      have HK4 := Qa (HK3.out.set 1 (.slice ap lp cp))
      have q3 := HK4.out.cell 3
      have f3 := HK4.out.frozen 3
      clear hvq hb3 m0 m1 m2 m3
      go_wp2
      go_ret
      have hh : JQ w3 g := ⟨_,_,HK3.out,by simp [Ql]⟩
      refine ⟨rfl,((Save.of HB3.out).set _ _).set _ _,RV.mk hb0 (by have := HK4.out.set 3 (.slice aq lq cq); simpa using this) (HP3.out.two hh rfl) (HQ.out.two hh rfl)⟩
     ·have hne4 : ((lg : Int) == 1)=false := beq_eq_false_iff_ne.mpr (by omega)
      go_wp2_with fail
      refine (QW (HA.out.below HB1.out) HG.out SA.out HSG.out hG0).mono ?_
      rintro e w2 ⟨hb2,vp,vr,rfl,hvp,_⟩
      obtain ⟨ap,lp,cp,rfl,hpl,_,_⟩ := QQ hvp
      have hbl2 := HB1.out.trans (hb2.mono HB1.out.size)
      have HP := Qa hvp
      have HG2 := Qa (HG.out.below hb2)
      have HK2 := Qa (HK1.out.below hb2 HK1.out.lt)
      have HB2 := Qa hbl2
      obtain ⟨m0,m1,m2,m3⟩ : w2.cell? ⟨g,0,none⟩=_∧w2.cell? ⟨g,1,none⟩=_∧w2.cell? ⟨g,2,none⟩=_∧w2.cell? ⟨g,3,none⟩=_ := ⟨HK2.out.cell 0,HK2.out.cell 1,HK2.out.cell 2,HK2.out.cell 3⟩
      clear hvp hb2 hbl2 k0 k1 k2 k3
      go_wp2_with fail
      refine (QW (HB.out.below HB2.out) HG2.out SB.out HSG.out hG0).mono ?_
      rintro e w3 ⟨hb3,vq,vr2,rfl,hvq,_⟩
      obtain ⟨aq,lq,cq,rfl,hql,_,_⟩ := QQ hvq
      have HQ := Qa hvq
      have HP3 := Qa (HP.out.below hb3)
      have HK3 := Qa (HK2.out.below hb3 HK2.out.lt)
      have HB3 := Qa (HB2.out.trans (hb3.mono HB2.out.size))
      have q1 := HK3.out.cell 1
      have f1 := HK3.out.frozen 1
      have HK4 := Qa (HK3.out.set 1 (.slice ap lp cp))
      have q3 := HK4.out.cell 3
      have f3 := HK4.out.frozen 3
      clear hvq hb3 m0 m1 m2 m3
      go_wp2
      go_ret
      have hh : JQ w3 g := ⟨_,_,HK3.out,by simp [Ql]⟩
      refine ⟨rfl,((Save.of HB3.out).set _ _).set _ _,RV.mk hb0 (by have := HK4.out.set 3 (.slice aq lq cq); simpa using this) (HP3.out.two hh rfl) (HQ.out.two hh rfl)⟩
   ·have hne3 : ((l2 : Int) == 1)=false := beq_eq_false_iff_ne.mpr (by omega)
    go_enter Tryz.func85,Tryz.ntmps85
    go_wp2_with fail
    have HS : Hid (∀ w',Below w.heap.size w w'→w'.cell? ⟨g,1,none⟩=some (.slice a1 l1 c1)∧w'.cell? ⟨g,3,none⟩=some (.slice a2 l2 c2)) := fun w' hb => ⟨(HK.out.below hb HK.out.lt).cell 1,(HK.out.below hb HK.out.lt).cell 3⟩
    go_region_held3 (fun w' => w'.cell? ⟨g,1,none⟩=some (.slice a1 l1 c1)∧w'.cell? ⟨g,3,none⟩=some (.slice a2 l2 c2)) (first | go_keep | exact hs1)
     (first
      | (go_at_call 130; refine (XI (w := w.drew) (HA.out.below (Below.drew (Below.refl _ _))) (HB.out.below (Below.drew (Below.refl _ _))) SA.out SB.out).mono ?_; rintro e w1 ⟨hb0',vg,rfl,hvg⟩; obtain ⟨ag,lg,cg,rfl,hgl,_,hgz⟩ := QQ hvg; have hb1 : Below w.heap.size w w1 := (Below.drew (Below.refl _ w)).trans hb0'; have hs1 := HS.out w1 hb1; clear hb0'))
    clear hs1
    have HG := Qa hvg
    have HB1 := Qa hb1
    have HK1 := Qa (HK.out.below hb1 HK.out.lt)
    obtain ⟨k0,k1,k2,k3⟩ : w1.cell? ⟨g,0,none⟩=_∧w1.cell? ⟨g,1,none⟩=_∧w1.cell? ⟨g,2,none⟩=_∧w1.cell? ⟨g,3,none⟩=_ := ⟨HK1.out.cell 0,HK1.out.cell 1,HK1.out.cell 2,HK1.out.cell 3⟩
    have hG0 : 0 < Nat.gcd z.natAbs b := Nat.gcd_pos_of_pos_right _ hb0
    have HSG : Hid (Small (Nat.gcd z.natAbs b)) := Vv SB.out (Nat.le_of_dvd hb0 (Nat.gcd_dvd_right _ _))
    clear hvg hb1 hgz x0 x1 x2 x3
    by_cases hg1 : Nat.gcd z.natAbs b=1
    ·have hlg : lg=1 := by
      by_cases h : lg=1
      ·exact h
      ·exact absurd hg1 (Yx HG.out h)
     subst hlg
     obtain ⟨b4,o4,hi4,hc4,hlt4,hs4⟩ := JR HG.out
     rw [hg1] at hc4
     go_wp2
     go_ret
     refine ⟨rfl,Save.of HB1.out,RV.mk hb0 HK1.out ?_ ?_⟩
     ·rw [hg1,Nat.div_one]; exact HA.out.below HB1.out
     ·rw [hg1,Nat.div_one]; exact HB.out.below HB1.out
    ·by_cases hlg : lg=1
     ·subst hlg
      obtain ⟨b4,o4,hi4,hc4,hlt4,hs4⟩ := JR HG.out
      have hne4 : ((Nat.gcd z.natAbs b : Int) == 1)=false := beq_eq_false_iff_ne.mpr (by omega)
      go_wp2_with fail
      refine (QW (HA.out.below HB1.out) HG.out SA.out HSG.out hG0).mono ?_
      rintro e w2 ⟨hb2,vp,vr,rfl,hvp,_⟩
      obtain ⟨ap,lp,cp,rfl,hpl,_,_⟩ := QQ hvp
      have hbl2 := HB1.out.trans (hb2.mono HB1.out.size)
      have HP := Qa hvp
      have HG2 := Qa (HG.out.below hb2)
      have HK2 := Qa (HK1.out.below hb2 HK1.out.lt)
      have HB2 := Qa hbl2
      obtain ⟨m0,m1,m2,m3⟩ : w2.cell? ⟨g,0,none⟩=_∧w2.cell? ⟨g,1,none⟩=_∧w2.cell? ⟨g,2,none⟩=_∧w2.cell? ⟨g,3,none⟩=_ := ⟨HK2.out.cell 0,HK2.out.cell 1,HK2.out.cell 2,HK2.out.cell 3⟩
      clear hvp hb2 hbl2 k0 k1 k2 k3
      go_wp2_with fail
      refine (QW (HB.out.below HB2.out) HG2.out SB.out HSG.out hG0).mono ?_
      rintro e w3 ⟨hb3,vq,vr2,rfl,hvq,_⟩
      obtain ⟨aq,lq,cq,rfl,hql,_,_⟩ := QQ hvq
      have HQ := Qa hvq
      have HP3 := Qa (HP.out.below hb3)
      have HK3 := Qa (HK2.out.below hb3 HK2.out.lt)
      have HB3 := Qa (HB2.out.trans (hb3.mono HB2.out.size))
      have q1 := HK3.out.cell 1
      have f1 := HK3.out.frozen 1
      have HK4 := Qa (HK3.out.set 1 (.slice ap lp cp))
      have q3 := HK4.out.cell 3
      have f3 := HK4.out.frozen 3
      clear hvq hb3 m0 m1 m2 m3
      go_wp2
      go_ret
      have hh : JQ w3 g := ⟨_,_,HK3.out,by simp [Ql]⟩
      refine ⟨rfl,((Save.of HB3.out).set _ _).set _ _,RV.mk hb0 (by have := HK4.out.set 3 (.slice aq lq cq); simpa using this) (HP3.out.two hh rfl) (HQ.out.two hh rfl)⟩
     ·have hne4 : ((lg : Int) == 1)=false := beq_eq_false_iff_ne.mpr (by omega)
      go_wp2_with fail
      refine (QW (HA.out.below HB1.out) HG.out SA.out HSG.out hG0).mono ?_
      rintro e w2 ⟨hb2,vp,vr,rfl,hvp,_⟩
      obtain ⟨ap,lp,cp,rfl,hpl,_,_⟩ := QQ hvp
      have hbl2 := HB1.out.trans (hb2.mono HB1.out.size)
      have HP := Qa hvp
      have HG2 := Qa (HG.out.below hb2)
      have HK2 := Qa (HK1.out.below hb2 HK1.out.lt)
      have HB2 := Qa hbl2
      obtain ⟨m0,m1,m2,m3⟩ : w2.cell? ⟨g,0,none⟩=_∧w2.cell? ⟨g,1,none⟩=_∧w2.cell? ⟨g,2,none⟩=_∧w2.cell? ⟨g,3,none⟩=_ := ⟨HK2.out.cell 0,HK2.out.cell 1,HK2.out.cell 2,HK2.out.cell 3⟩
      clear hvp hb2 hbl2 k0 k1 k2 k3
      go_wp2_with fail
      refine (QW (HB.out.below HB2.out) HG2.out SB.out HSG.out hG0).mono ?_
      rintro e w3 ⟨hb3,vq,vr2,rfl,hvq,_⟩
      obtain ⟨aq,lq,cq,rfl,hql,_,_⟩ := QQ hvq
      have HQ := Qa hvq
      have HP3 := Qa (HP.out.below hb3)
      have HK3 := Qa (HK2.out.below hb3 HK2.out.lt)
      have HB3 := Qa (HB2.out.trans (hb3.mono HB2.out.size))
      have q1 := HK3.out.cell 1
      have f1 := HK3.out.frozen 1
      have HK4 := Qa (HK3.out.set 1 (.slice ap lp cp))
      have q3 := HK4.out.cell 3
      have f3 := HK4.out.frozen 3
      clear hvq hb3 m0 m1 m2 m3
      go_wp2
      go_ret
      have hh : JQ w3 g := ⟨_,_,HK3.out,by simp [Ql]⟩
      refine ⟨rfl,((Save.of HB3.out).set _ _).set _ _,RV.mk hb0 (by have := HK4.out.set 3 (.slice aq lq cq); simpa using this) (HP3.out.two hh rfl) (HQ.out.two hh rfl)⟩
end Go.Proofs.YthhnabccdehmgaaGreatDoor
/- BO -/
namespace Go.Proofs.YthhnabccdehmgaaGreatDoor
open Go.RowKit Cx
attribute [local go_sem ↓] Go.wp_at_zero Go.wp_at_succ
theorem IV.apart {w : World} {p : Value} {z : Int} {g : Nat} (h : IV w p z) (hg : w.heap.size≤g) : XO p g := by
 obtain ⟨g1,o1,_,_,_,rfl,_,_,_,hl⟩ := h
 intro g2 o2 t e
 cases e
 omega
theorem Zl {w : World} {g : Nat} {y0 y1 y2 y3 : Value} {pa pb : Value} {z : Int} {b : Nat} (hk : Blk w g #[y0,y1,y2,y3] 34) (hno : (#[y0,y1,y2,y3] : Array Value).all Ql=true) (ha : IV w pa z) (hb : IV w pb b) (hb0 : 0 < b) (sa : Small z.natAbs) (sb : Small b) :
  Calls Tryz.prog 40 #[.pointer (some ⟨g,0,none⟩),pa,pb] w fun e w' => e=.returned (.pointer (some ⟨g,0,none⟩))∧Save g w w'∧RV w' g (mkRat z b) := by
 have HA := Qa ha
 have HB := Qa hb
 obtain ⟨g2,o2,a2,n2,c2,rfl,z0,z1,z2,zl⟩ := hb
 have hn2 : n2 ≠ 0 := fun h => by
  obtain ⟨_,_,_,e,_,_,hz⟩ := QQ z2
  cases e
  have := hz.1 h
  omega
 have hne : ((n2 : Int) == 0)=false := beq_eq_false_iff_ne.mpr (by omega)
 have HK := Qa hk
 have SA := Qa sa
 have SB := Qa sb
 clear hk ha sa sb z2
 go_enter Tryz.func40,Tryz.ntmps40
 go_wp2_with fail
 have hkp := Blk.new w #[.bool false,.slice none 0 0] 32
 have hbp := Qf w (.cells #[.bool false,.slice none 0 0] 32)
 refine (Xp (At2.blk hkp) (HA.out.below hbp) (HA.out.apart (Nat.le_refl _)) SA.out).mono ?_
 rintro e w1 ⟨rfl,hg⟩
 obtain ⟨ho,hbl⟩ := hg.own hkp
 have hb1 := hbp.trans (hbl _ (Nat.le_refl _) hbp.size)
 obtain ⟨gp,hgp⟩ : ∃ gp,gp=w.heap.size := ⟨_,rfl⟩
 rw [← hgp] at ho ⊢
 have HOP := Qa ho
 have HB1 := Qa hb1
 have HGP := Qa hgp
 clear ho hbl hg hkp hbp hb1 hgp
 go_wp2_with fail
 have hkq := Blk.new w1 #[.bool false,.slice none 0 0] 32
 have hbq := Qf w1 (.cells #[.bool false,.slice none 0 0] 32)
 have HBq : Hid (Below w.heap.size w (w1.alloc (.cells #[.bool false,.slice none 0 0] 32))) := HB1.out.trans (hbq.mono HB1.out.size)
 refine (Xp (x := (b : Int)) (At2.blk hkq) (HB.out.below HBq.out) (HB.out.apart HB1.out.size) (by simpa using SB.out)).mono ?_
 rintro e w2 ⟨rfl,hg⟩
 obtain ⟨ho,hbl⟩ := hg.own hkq
 have hb2 := hbq.trans (hbl _ (Nat.le_refl _) hbq.size)
 have HGQ : Hid (w.heap.size≤w1.heap.size) := HB1.out.size
 obtain ⟨gq,hgq⟩ : ∃ gq,gq=w1.heap.size := ⟨_,rfl⟩
 rw [← hgq] at ho HGQ ⊢
 have HOQ := Qa ho
 have HOP2 := Qa (HOP.out.below hb2)
 have HB2 := Qa (HB1.out.trans (hb2.mono HB1.out.size))
 have HK2 := Qa (HK.out.below HB2.out HK.out.lt)
 have HNG : Hid (g ≠ gp∧g ≠ gq) := by
  have h1 := HK.out.lt
  have h2 := HGQ.out
  have h3 := HGP.out
  constructor <;> omega
 clear ho hbl hg hkq hbq hb2 hgq
 obtain ⟨ap,np,cp,kp,hnp⟩ := HOP2.out
 obtain ⟨aq,nq,cq,kq,hnq⟩ := HOQ.out
 have HNP := Qa hnp
 have HNQ := Qa hnq
 obtain ⟨p0,p1,_⟩ := kp.all2
 obtain ⟨m0,m1,m2,m3⟩ : w2.cell? ⟨g,0,none⟩=_∧w2.cell? ⟨g,1,none⟩=_∧w2.frozen? ⟨g,0,none⟩=_∧w2.frozen? ⟨g,1,none⟩=_ := ⟨HK2.out.cell 0,HK2.out.cell 1,HK2.out.frozen 0,HK2.out.frozen 1⟩
 have HKA := Qa ((HK2.out.set 0 (.bool (decide (z < 0)))).set 1 (.slice ap np cp))
 obtain ⟨r0,r1,r2,r3⟩ : ((w2.setCell ⟨g,0,none⟩ (.bool (decide (z < 0)))).setCell ⟨g,1,none⟩ (.slice ap np cp)).cell? ⟨g,2,none⟩=_∧((w2.setCell ⟨g,0,none⟩ (.bool (decide (z < 0)))).setCell ⟨g,1,none⟩ (.slice ap np cp)).cell? ⟨g,3,none⟩=_∧((w2.setCell ⟨g,0,none⟩ (.bool (decide (z < 0)))).setCell ⟨g,1,none⟩ (.slice ap np cp)).frozen? ⟨g,2,none⟩=_∧((w2.setCell ⟨g,0,none⟩ (.bool (decide (z < 0)))).setCell ⟨g,1,none⟩ (.slice ap np cp)).frozen? ⟨g,3,none⟩=_ := ⟨HKA.out.cell 2,HKA.out.cell 3,HKA.out.frozen 2,HKA.out.frozen 3⟩
 have q0 : ((w2.setCell ⟨g,0,none⟩ (.bool (decide (z < 0)))).setCell ⟨g,1,none⟩ (.slice ap np cp)).cell? ⟨gq,0,none⟩=_ := (ZC HNG.out.2.symm).trans (kq.cell 0)
 have q1 : ((w2.setCell ⟨g,0,none⟩ (.bool (decide (z < 0)))).setCell ⟨g,1,none⟩ (.slice ap np cp)).cell? ⟨gq,1,none⟩=_ := (ZC HNG.out.2.symm).trans (kq.cell 1)
 clear hnp hnq kp kq
 go_wp2_with fail
 have HKB := Qa ((HKA.out.set 2 (.bool (decide ((b : Int) < 0)))).set 3 (.slice aq nq cq))
 have hno2 : (#[y0,y1,y2,y3] : Array Value).all Ql=true := hno
 have hh : JQ w2 g := ⟨_,_,HK2.out,hno2⟩
 have hh2 : JQ ((w2.setCell ⟨g,0,none⟩ (.bool (decide (z < 0)))).setCell ⟨g,1,none⟩ (.slice ap np cp)) g := ⟨_,_,HKA.out,Ud (Ud hno2 0 rfl) 1 rfl⟩
 have h1 := (HNP.out.two (i := 0) (j := 1) (x := .bool (decide (z < 0))) (y := .slice ap np cp) hh rfl).two (i := 2) (j := 3) (x := .bool (decide ((b : Int) < 0))) (y := .slice aq nq cq) hh2 rfl
 have h2 := (HNQ.out.two (i := 0) (j := 1) (x := .bool (decide (z < 0))) (y := .slice ap np cp) hh rfl).two (i := 2) (j := 3) (x := .bool (decide ((b : Int) < 0))) (y := .slice aq nq cq) hh2 rfl
 have hs : Save g w ((((w2.setCell ⟨g,0,none⟩ (.bool (decide (z < 0)))).setCell ⟨g,1,none⟩ (.slice ap np cp)).setCell ⟨g,2,none⟩ (.bool (decide ((b : Int) < 0)))).setCell ⟨g,3,none⟩ (.slice aq nq cq)) := ((((Save.of HB2.out).set _ _).set _ _).set _ _).set _ _
 have HSV := Qa hs
 rw [Int.natAbs_natCast] at h2
 have hkb : Blk ((((w2.setCell ⟨g,0,none⟩ (.bool (decide (z < 0)))).setCell ⟨g,1,none⟩ (.slice ap np cp)).setCell ⟨g,2,none⟩ (.bool (decide ((b : Int) < 0)))).setCell ⟨g,3,none⟩ (.slice aq nq cq)) g #[.bool (decide (z < 0)),.slice ap np cp,.bool false,.slice aq nq cq] 34 := by
  have h : Blk ((((w2.setCell ⟨g,0,none⟩ (.bool (decide (z < 0)))).setCell ⟨g,1,none⟩ (.slice ap np cp)).setCell ⟨g,2,none⟩ (.bool (decide ((b : Int) < 0)))).setCell ⟨g,3,none⟩ (.slice aq nq cq)) g #[.bool (decide (z < 0)),.slice ap np cp,.bool (decide ((b : Int) < 0)),.slice aq nq cq] 34 := HKB.out
  have e : (#[.bool (decide (z < 0)),.slice ap np cp,.bool (decide ((b : Int) < 0)),.slice aq nq cq] : Array Value)=#[.bool (decide (z < 0)),.slice ap np cp,.bool false,.slice aq nq cq] := by
   rw [show decide ((b : Int) < 0)=false by simp]
  rwa [e] at h
 refine (Hf (z := z) (b := b) hkb h1 h2 hb0 SA.out SB.out).mono ?_
 rintro e w5 ⟨rfl,hsv,hrv⟩
 have HR := Qa (And.intro (HSV.out.trans hsv) hrv)
 clear hsv hrv hs h1 h2 hh hh2
 go_wp2
 go_ret
 exact ⟨rfl,HR.out.1,HR.out.2⟩
end Go.Proofs.YthhnabccdehmgaaGreatDoor
/- BP -/
namespace Go.Proofs.YthhnabccdehmgaaGreatDoor
open Go.RowKit Cx
attribute [local go_sem ↓] Go.wp_at_zero Go.wp_at_succ
theorem Below.new {a w : World} (h : Below a.heap.size a w) (o : Obj) : Below a.heap.size a (w.alloc o) := h.alloc h.size o
theorem Own2.save {w w' : World} {g g' : Nat} {z : Int} (h : Own2 w g' z) (hne : g' ≠ g) (hh : JQ w g) (hs : Save g w w') : Own2 w' g' z := by
 obtain ⟨ao,n,c,h0,h1⟩ := h
 exact ⟨ao,n,c,hs.blk h0 hne,h1.save hh hs⟩
theorem Own2.lt {w : World} {g : Nat} {z : Int} (h : Own2 w g z) : g < w.heap.size := by
 obtain ⟨ao,n,c,h0,_⟩ := h
 exact h0.lt
theorem Gave.save {w w' : World} {g o : Nat} {z : Int} (h : Gave w g o z w') : Save g w w' := by
 obtain ⟨w1,ao,n',c',hbl,rfl,hn⟩ := h
 exact ((Save.of hbl).set _ _).set _ _
theorem ZV {w : World} {g : Nat} {cs : Array Value} {t : TypeId} (o : Obj) (h : Blk w g cs t) : Blk (w.alloc o) g cs t := h.below (Qf _ _) h.lt
theorem Jw {w : World} {g : Nat} {cs : Array Value} {t : TypeId} (h : g=w.heap.size) : Blk (w.alloc (.cells cs t)) g cs t := by
 subst h
 exact Blk.new _ _ _
theorem early {w w1 w2 w3 : World} {g g' : Nat} {cs : Array Value} {t : TypeId} (hs : Save g w w1) (h2 : Below w1.heap.size w1 w2) (h3 : Below w2.heap.size w2 w3) (hb : Blk w g' cs t) (hne : g' ≠ g) : Blk w3 g' cs t := by
 have h1 := hs.blk hb hne
 have h2' := h1.below h2 h1.lt
 exact h2'.below h3 h2'.lt
theorem Zo {w : World} {g : Nat} {px py : Value} {x y : Int} (hk : Blk w g #[.bool false,.slice none 0 0] 32) (hx : IV w px x) (hy : IV w py y) (ax : XO px g) (ay : XO py g) (sx : Small x.natAbs) (sy : Small y.natAbs) :
  Calls Tryz.prog 16 #[.pointer (some ⟨g,0,none⟩),px,py] w fun e w' => e=.returned (.pointer (some ⟨g,0,none⟩))∧Save g w w'∧Own2 w' g (x*y)∧JQ w g := by
 refine (Jn (At2.blk hk) hx hy ax ay sx sy).mono ?_
 rintro e w' ⟨rfl,hg⟩
 exact ⟨rfl,hg.save,(hg.own hk).1,_,_,hk,by simp [Ql]⟩
theorem Zx {k : Nat} {q : Rat} (f : QS k q) (hk : k≤35184372088640) : Small q.num.natAbs := Qm f.num hk
theorem Zy {k : Nat} {q : Rat} (f : QS k q) (hk : k≤35184372088640) : Small (q.den : Int).natAbs := by
 rw [Int.natAbs_natCast]
 exact Qm f.den hk
theorem DZ {w : World} {g gx gy : Nat} {y0 y1 y2 y3 : Value} {x y : Rat} {k l : Nat} (hk : Blk w g #[y0,y1,y2,y3] 34) (hno : (#[y0,y1,y2,y3] : Array Value).all Ql=true) (hx : RV w gx x) (hy : RV w gy y) (fx : QS k x) (fy : QS l y) (hkl : k+l+1≤35184372088640) :
  Calls Tryz.prog 56 #[.pointer (some ⟨g,0,none⟩),.pointer (some ⟨gx,0,none⟩),.pointer (some ⟨gy,0,none⟩)] w fun e w' => e=.returned (.pointer (some ⟨g,0,none⟩))∧Save g w w'∧RV w' g (x*y) := by
 have LX := Qa hx.lt
 have LY := Qa hy.lt
 have LG := Qa hk.lt
 have HX := Qa hx
 have HY := Qa hy
 have HK := Qa hk
 have SX := Qa (Zx fx (by omega))
 have SY := Qa (Zx fy (by omega))
 have DX := Qa (Zy fx (by omega))
 have DY := Qa (Zy fy (by omega))
 have SN : Hid (Small (x.num*y.num).natAbs) := by
  show Small _
  rw [Int.natAbs_mul]
  exact Qm (k := k+l) (by rw [Nat.pow_add]; exact Nat.mul_lt_mul_of_lt_of_lt fx.num fy.num) (by omega)
 have SD : Hid (Small (x.den*y.den)) := Qm (k := k+l) (by rw [Nat.pow_add]; exact Nat.mul_lt_mul_of_lt_of_lt fx.den fy.den) (by omega)
 have HQ : Hid (x*y=mkRat (x.num*y.num) (x.den*y.den)) := by
  show _=_
  conv => lhs; rw [← Rat.mkRat_self x,← Rat.mkRat_self y]
  exact Rat.mkRat_mul_mkRat ..
 have HD0 : Hid (0 < x.den*y.den) := Nat.mul_pos x.den_pos y.den_pos
 clear hx hy hk fx fy
 go_enter Tryz.func56,Tryz.ntmps56
 go_wp2_with fail
 go_region_held3 (fun _ => True) (trivial)
  (first
   | (go_at_call_of 16 (Value.pointer (some { block := gx,off := 0 })); refine (Zo (by first | with_reducible exact Blk.new _ _ _ | (refine Jw ?_; (first | with_reducible rfl | (simp; done))) | (refine ZV _ (Jw ?_); (first | with_reducible rfl | (simp; done)))) (RV.num (HX.out.below (by repeat' first | with_reducible exact hbl3 | with_reducible exact hbl2 | with_reducible exact hbl1 | with_reducible exact Below.refl _ _ | apply Below.new | apply Below.drew))) (RV.num (HY.out.below (by repeat' first | with_reducible exact hbl3 | with_reducible exact hbl2 | with_reducible exact hbl1 | with_reducible exact Below.refl _ _ | apply Below.new | apply Below.drew))) (HX.out.num.apart (by first | with_reducible exact Nat.le_refl _ | with_reducible exact hbl3.size | with_reducible exact hbl2.size | with_reducible exact hbl1.size | (simp; done) | (simp; omega))) (HY.out.num.apart (by first | with_reducible exact Nat.le_refl _ | with_reducible exact hbl3.size | with_reducible exact hbl2.size | with_reducible exact hbl1.size | (simp; done) | (simp; omega))) SX.out SY.out).mono ?_; rintro e w1 ⟨rfl,hsv1,ho1,_⟩; have hbl1 : Below w.heap.size w w1 := Below.trans (by repeat' first | with_reducible exact hbl3 | with_reducible exact hbl2 | with_reducible exact hbl1 | with_reducible exact Below.refl _ _ | apply Below.new | apply Below.drew) (hsv1.below (by first | with_reducible exact Nat.le_refl _ | with_reducible exact hbl3.size | with_reducible exact hbl2.size | with_reducible exact hbl1.size | (simp; done) | (simp; omega)) (by first | with_reducible exact Nat.le_refl _ | with_reducible exact hbl3.size | with_reducible exact hbl2.size | with_reducible exact hbl1.size | (simp; done) | (simp; omega))))
   | (go_at_call_of 60 (Value.pointer (some { block := gx,off := 0 })); refine (Za (HX.out.below (by repeat' first | with_reducible exact hbl3 | with_reducible exact hbl2 | with_reducible exact hbl1 | with_reducible exact Below.refl _ _ | apply Below.new | apply Below.drew))).mono ?_; rintro e w2 ⟨hb2,p1,rfl,hv2,hap2⟩; have hbl2 : Below w.heap.size w w2 := (fun (h : Below w.heap.size w _) => h.trans (hb2.mono h.size)) (by repeat' first | with_reducible exact hbl3 | with_reducible exact hbl2 | with_reducible exact hbl1 | with_reducible exact Below.refl _ _ | apply Below.new | apply Below.drew); have hc2 : Below w1.heap.size w1 w2 := (fun (h : Below w1.heap.size w1 _) => h.trans (hb2.mono h.size)) (by repeat' first | with_reducible exact Below.refl _ _ | apply Below.new | apply Below.drew); have ho2 := ho1.below hc2)
   | (go_at_call_of 60 (Value.pointer (some { block := gy,off := 0 })); refine (Za (HY.out.below (by repeat' first | with_reducible exact hbl3 | with_reducible exact hbl2 | with_reducible exact hbl1 | with_reducible exact Below.refl _ _ | apply Below.new | apply Below.drew))).mono ?_; rintro e w3 ⟨hb3,p2,rfl,hv3,hap3⟩; have hbl3 : Below w.heap.size w w3 := (fun (h : Below w.heap.size w _) => h.trans (hb3.mono h.size)) (by repeat' first | with_reducible exact hbl3 | with_reducible exact hbl2 | with_reducible exact hbl1 | with_reducible exact Below.refl _ _ | apply Below.new | apply Below.drew); have hc3 : Below w2.heap.size w2 w3 := (fun (h : Below w2.heap.size w2 _) => h.trans (hb3.mono h.size)) (by repeat' first | with_reducible exact Below.refl _ _ | apply Below.new | apply Below.drew); have ho3 := ho2.below hc3; have hv2' := hv2.below hc3)
   | (go_at_call 40; refine (Zl (z := x.num*y.num) (b := x.den*y.den) (HK.out.below hbl4 LG.out) hno hoA.iv (by have := ho4.iv; rwa [← Int.natCast_mul] at this) HD0.out SN.out SD.out).mono ?_; rintro e w5 ⟨rfl,hs5,hr5⟩)
   | (go_at_call_of 16 p1; have q0 := LX.out; have q00 := LY.out; have q1 := ho1.lt; have q2 := hc2.size; have q3 := hc3.size; have q4 := hbl1.size; have q5 := ho2.lt; have q6 := hb2.size; have q7 := hb3.size; have q8 := hsv1.size; (try simp at q8); (try simp at q6); (try simp at q7); refine Calls.mono (Zo (by first | with_reducible exact Blk.new w3 _ _ | with_reducible exact (Blk.new w2 _ _).below hb3 (Blk.new w2 _ _).lt | with_reducible exact ((Blk.new w1 _ _).below hb2 (Blk.new w1 _ _).lt).below hb3 (((Blk.new w1 _ _).below hb2 (Blk.new w1 _ _).lt).lt) | (refine early hsv1 hb2 hb3 (Jw ?_) ?_ <;> (simp; done)) | (refine early hsv1 hb2 hb3 (ZV _ (Jw ?_)) ?_ <;> (simp; done))) (show IV _ p1 (x.den : Int) by first | with_reducible exact hv2' | exact hv2'.below (Qf _ _)) (show IV _ p2 (y.den : Int) by first | with_reducible exact hv3 | exact hv3.below (Qf _ _)) (by first | with_reducible exact hv2'.apart (Nat.le_refl _) | with_reducible exact hv2.apart (Nat.le_refl _) | exact hap2 _ (by omega) (by first | omega | (simp; done) | (simp; omega))) (by first | with_reducible exact hv3.apart (Nat.le_refl _) | exact hap3 _ (by omega) (by first | omega | (simp; done) | (simp; omega))) DX.out DY.out) ?_; rintro e w4 ⟨rfl,hsv4,ho4,hh4⟩; have hbl4 : Below w.heap.size w w4 := (fun (h : Below w.heap.size w _) => h.trans (hsv4.below (by first | with_reducible exact hbl3.size | with_reducible exact hbl2.size | with_reducible exact hbl1.size | omega | (simp; done)) h.size)) (by repeat' first | with_reducible exact hbl3 | with_reducible exact hbl2 | with_reducible exact hbl1 | with_reducible exact Below.refl _ _ | apply Below.new | apply Below.drew); have hoA : Own2 w4 _ (x.num*y.num) := (show Own2 _ _ (x.num*y.num) by first | with_reducible exact ho3 | exact ho3.below (Qf _ _)).save (by first | omega | (simp; done) | (simp; omega)) hh4 hsv4)
   )
 all_goals
  go_wp2
  go_ret
  exact ⟨rfl,(Save.of hbl4).trans hs5,by rw [HQ.out]; exact hr5⟩
end Go.Proofs.YthhnabccdehmgaaGreatDoor
/- BTA -/
namespace Go.Proofs.YthhnabccdehmgaaGreatDoor
open Go.RowKit Cx
attribute [local go_sem ↓] Go.wp_at_zero Go.wp_at_succ
theorem Ze {w w' : World} {g : Nat} {cs : Array Value} {t : TypeId} (hb : Below w.heap.size w w') (h : Blk w g cs t) : Blk w' g cs t := h.below hb h.lt
theorem YF {w w' : World} {g g' : Nat} {cs : Array Value} {t : TypeId} (hs : Save g w w') (h : Blk w g' cs t) (hne : g' ≠ g) : Blk w' g' cs t := hs.blk h hne
theorem ZJ {w : World} {g : Nat} {z : Int} (o : Obj) (h : Own2 w g z) : Own2 (w.alloc o) g z := h.below (Qf _ _)
theorem IM {w w' : World} {g : Nat} {z : Int} (hb : Below w.heap.size w w') (h : Own2 w g z) : Own2 w' g z := h.below hb
theorem UR {w w' : World} {g g' : Nat} {z : Int} (hs : Save g w w') (hh : JQ w g) (h : Own2 w g' z) (hne : g' ≠ g) : Own2 w' g' z := h.save hne hh hs
theorem YZ {w : World} {p : Value} {z : Int} (o : Obj) (h : IV w p z) : IV (w.alloc o) p z := h.below (Qf _ _)
theorem Ah {w w' : World} {p : Value} {z : Int} (hb : Below w.heap.size w w') (h : IV w p z) : IV w' p z := h.below hb
theorem ZM {w : World} {g : Nat} {cs : Array Value} {t : TypeId} (h : Blk w g cs t) : Blk w.drew g cs t := h.below (Below.drew (Below.refl _ _)) h.lt
theorem Xb {w : World} {g : Nat} {z : Int} (h : Own2 w g z) : Own2 w.drew g z := h.below (Below.drew (Below.refl _ _))
theorem XF {w : World} {p : Value} {z : Int} (h : IV w p z) : IV w.drew p z := h.below (Below.drew (Below.refl _ _))
theorem ZS {g g' o : Nat} (h : g' ≠ g) : XO (.pointer (some ⟨g',o,none⟩)) g := by
 intro g1 o1 t e
 cases e
 exact h
theorem QZ {a w w' : World} {g : Nat} (h : Below a.heap.size a w) (hs : Save g w w') (hg : a.heap.size≤g) : Below a.heap.size a w' := h.trans (hs.below hg h.size)
theorem Qo {a w w' : World} (h : Below a.heap.size a w) (hs : Below w.heap.size w w') : Below a.heap.size a w' := h.trans (hs.mono h.size)
theorem ge_at {w a b : World} {g : Nat} (_ : Save g a b) (h : w.heap.size≤g) : w.heap.size≤g := h
theorem Mx {w : World} {g : Nat} {px py : Value} {x y : Int} (hk : Blk w g #[.bool false,.slice none 0 0] 32) (hx : IV w px x) (hy : IV w py y) (ax : XO px g) (ay : XO py g) (sx : Small x.natAbs) (sy : Small y.natAbs) :
  Calls Tryz.prog 86 #[.pointer (some ⟨g,0,none⟩),px,py] w fun e w' => e=.returned (.pointer (some ⟨g,0,none⟩))∧Save g w w'∧Own2 w' g (x+y)∧JQ w g := by
 refine (Dk (At2.blk hk) hx hy ax ay sx sy).mono ?_
 rintro e w' ⟨rfl,hg⟩
 exact ⟨rfl,hg.save,(hg.own hk).1,_,_,hk,by simp [Ql]⟩
theorem Mr {w : World} {g : Nat} {px py : Value} {x y : Int} (hk : Blk w g #[.bool false,.slice none 0 0] 32) (hx : IV w px x) (hy : IV w py y) (ax : XO px g) (ay : XO py g) (sx : Small x.natAbs) (sy : Small y.natAbs) :
  Calls Tryz.prog 23 #[.pointer (some ⟨g,0,none⟩),px,py] w fun e w' => e=.returned (.pointer (some ⟨g,0,none⟩))∧Save g w w'∧Own2 w' g (x - y)∧JQ w g := by
 refine (UP (At2.blk hk) hx hy ax ay sx sy).mono ?_
 rintro e w' ⟨rfl,hg⟩
 exact ⟨rfl,hg.save,(hg.own hk).1,_,_,hk,by simp [Ql]⟩
theorem Jo {x y : Rat} {k l : Nat} (fx : QS k x) (fy : QS l y) (hkl : k+l+1≤35184372088640) : Small (x.num*(y.den : Int)).natAbs := by
 rw [Int.natAbs_mul,Int.natAbs_natCast]
 exact Qm (k := k+l) (by rw [Nat.pow_add]; exact Nat.mul_lt_mul_of_lt_of_lt fx.num fy.den) (by omega)
theorem Rd {x y : Rat} {k l : Nat} (fx : QS k x) (fy : QS l y) : (x.num*(y.den : Int)).natAbs < 2 ^ (k+l) := by
 rw [Int.natAbs_mul,Int.natAbs_natCast,Nat.pow_add]
 exact Nat.mul_lt_mul_of_lt_of_lt fx.num fy.den
theorem Gf {x y : Rat} {k l : Nat} (fx : QS k x) (fy : QS l y) (hkl : k+l+1≤35184372088640) : Small (x.num*(y.den : Int)+y.num*(x.den : Int)).natAbs := by
 have h1 := Rd fx fy
 have h2 := Rd fy fx
 rw [Nat.add_comm l k] at h2
 exact Qm (k := k+l+1) (by rw [Nat.pow_succ]; omega) (by omega)
theorem Gn {x y : Rat} {k l : Nat} (fx : QS k x) (fy : QS l y) (hkl : k+l+1≤35184372088640) : Small (x.num*(y.den : Int) - y.num*(x.den : Int)).natAbs := by
 have h1 := Rd fx fy
 have h2 := Rd fy fx
 rw [Nat.add_comm l k] at h2
 exact Qm (k := k+l+1) (by rw [Nat.pow_succ]; omega) (by omega)
theorem Ir (x y : Rat) : x+y=mkRat (x.num*(y.den : Int)+y.num*(x.den : Int)) (x.den*y.den) := by
 conv => lhs; rw [← Rat.mkRat_self x,← Rat.mkRat_self y]
 exact Rat.mkRat_add_mkRat _ _ x.den_nz y.den_nz
theorem Fo (x y : Rat) : x - y=mkRat (x.num*(y.den : Int) - y.num*(x.den : Int)) (x.den*y.den) := by
 rw [Rat.sub_eq_add_neg]
 refine (Ir x (-y)).trans ?_
 show mkRat (x.num*(y.den : Int)+(-y.num)*(x.den : Int)) (x.den*y.den)=_
 rw [Int.neg_mul,← Int.sub_eq_add_neg]
end Go.Proofs.YthhnabccdehmgaaGreatDoor
