/- Part 14 of the walks and of the mathematics under them: BNO BNM WHL CMQ VT ZWR VV GFD GFE VW. -/
import Derived.Test.YthhnabccdehmgaaGreatDoorA13
import Derived.Test.YthhnabccdehmgaaGreatDoorA7
import Derived.Test.YthhnabccdehmgaaGreatDoorA8
import Derived.Test.YthhnabccdehmgaaGreatDoorA9
import Derived.ChangeKeysEq
set_option maxHeartbeats 16000000
set_option maxRecDepth 100000
/- BNO -/
namespace Go.Proofs.YthhnabccdehmgaaGreatDoor
open Go.RowKit Cx
attribute [local go_sem ↓] Go.wp_at_zero Go.wp_at_succ
theorem Ka {w : World} {g : Nat} {y0 y1 y2 y3 : Value} {pa pb : Value} {z : Int} {b : Nat} (hk : Blk w g #[y0,y1,y2,y3] 34) (hno : (#[y0,y1,y2,y3] : Array Value).all Ql=true) (ha : IV w pa z) (hb : IV w pb (-(b : Int))) (hb0 : 0 < b) (sa : Small z.natAbs) (sb : Small b) :
  Calls Tryz.prog 40 #[.pointer (some ⟨g,0,none⟩),pa,pb] w fun e w' => e=.returned (.pointer (some ⟨g,0,none⟩))∧Save g w w'∧RV w' g (mkRat (-z) b) := by
 have HA := Qa ha
 have HB := Qa hb
 obtain ⟨g2,o2,a2,n2,c2,rfl,z0,z1,z2,zl⟩ := hb
 have hn2 : n2 ≠ 0 := fun h => by
  obtain ⟨_,_,_,e,_,_,hz⟩ := QQ z2
  cases e
  have := hz.1 h
  omega
 have hne : ((n2 : Int) == 0)=false := beq_eq_false_iff_ne.mpr (by omega)
 have HK := Qa hk
 have SA := Qa sa
 have SB := Qa sb
 clear hk ha sa sb z2
 go_enter Tryz.func40,Tryz.ntmps40
 go_wp2_with fail
 have hkp := Blk.new w #[.bool false,.slice none 0 0] 32
 have hbp := Qf w (.cells #[.bool false,.slice none 0 0] 32)
 refine (Xp (At2.blk hkp) (HA.out.below hbp) (HA.out.apart (Nat.le_refl _)) SA.out).mono ?_
 rintro e w1 ⟨rfl,hg⟩
 obtain ⟨ho,hbl⟩ := hg.own hkp
 have hb1 := hbp.trans (hbl _ (Nat.le_refl _) hbp.size)
 obtain ⟨gp,hgp⟩ : ∃ gp,gp=w.heap.size := ⟨_,rfl⟩
 rw [← hgp] at ho ⊢
 have HOP := Qa ho
 have HB1 := Qa hb1
 have HGP := Qa hgp
 clear ho hbl hg hkp hbp hb1 hgp
 go_wp2_with fail
 have hkq := Blk.new w1 #[.bool false,.slice none 0 0] 32
 have hbq := Qf w1 (.cells #[.bool false,.slice none 0 0] 32)
 have HBq : Hid (Below w.heap.size w (w1.alloc (.cells #[.bool false,.slice none 0 0] 32))) := HB1.out.trans (hbq.mono HB1.out.size)
 refine (Xp (x := -(b : Int)) (At2.blk hkq) (HB.out.below HBq.out) (HB.out.apart HB1.out.size) (by rw [Int.natAbs_neg,Int.natAbs_natCast]; exact SB.out)).mono ?_
 rintro e w2 ⟨rfl,hg⟩
 obtain ⟨ho,hbl⟩ := hg.own hkq
 have hb2 := hbq.trans (hbl _ (Nat.le_refl _) hbq.size)
 have HGQ : Hid (w.heap.size≤w1.heap.size) := HB1.out.size
 obtain ⟨gq,hgq⟩ : ∃ gq,gq=w1.heap.size := ⟨_,rfl⟩
 rw [← hgq] at ho HGQ ⊢
 have HOQ := Qa ho
 have HOP2 := Qa (HOP.out.below hb2)
 have HB2 := Qa (HB1.out.trans (hb2.mono HB1.out.size))
 have HK2 := Qa (HK.out.below HB2.out HK.out.lt)
 have HNG : Hid (g ≠ gp∧g ≠ gq) := by
  have h1 := HK.out.lt
  have h2 := HGQ.out
  have h3 := HGP.out
  constructor <;> omega
 clear ho hbl hg hkq hbq hb2 hgq
 obtain ⟨ap,np,cp,kp,hnp⟩ := HOP2.out
 obtain ⟨aq,nq,cq,kq,hnq⟩ := HOQ.out
 have HNP := Qa hnp
 have HNQ := Qa hnq
 obtain ⟨p0,p1,_⟩ := kp.all2
 obtain ⟨m0,m1,m2,m3⟩ : w2.cell? ⟨g,0,none⟩=_∧w2.cell? ⟨g,1,none⟩=_∧w2.frozen? ⟨g,0,none⟩=_∧w2.frozen? ⟨g,1,none⟩=_ := ⟨HK2.out.cell 0,HK2.out.cell 1,HK2.out.frozen 0,HK2.out.frozen 1⟩
 have HKA := Qa ((HK2.out.set 0 (.bool (decide (z < 0)))).set 1 (.slice ap np cp))
 obtain ⟨r0,r1,r2,r3⟩ : ((w2.setCell ⟨g,0,none⟩ (.bool (decide (z < 0)))).setCell ⟨g,1,none⟩ (.slice ap np cp)).cell? ⟨g,2,none⟩=_∧((w2.setCell ⟨g,0,none⟩ (.bool (decide (z < 0)))).setCell ⟨g,1,none⟩ (.slice ap np cp)).cell? ⟨g,3,none⟩=_∧((w2.setCell ⟨g,0,none⟩ (.bool (decide (z < 0)))).setCell ⟨g,1,none⟩ (.slice ap np cp)).frozen? ⟨g,2,none⟩=_∧((w2.setCell ⟨g,0,none⟩ (.bool (decide (z < 0)))).setCell ⟨g,1,none⟩ (.slice ap np cp)).frozen? ⟨g,3,none⟩=_ := ⟨HKA.out.cell 2,HKA.out.cell 3,HKA.out.frozen 2,HKA.out.frozen 3⟩
 have q0 : ((w2.setCell ⟨g,0,none⟩ (.bool (decide (z < 0)))).setCell ⟨g,1,none⟩ (.slice ap np cp)).cell? ⟨gq,0,none⟩=_ := (ZC HNG.out.2.symm).trans (kq.cell 0)
 have q1 : ((w2.setCell ⟨g,0,none⟩ (.bool (decide (z < 0)))).setCell ⟨g,1,none⟩ (.slice ap np cp)).cell? ⟨gq,1,none⟩=_ := (ZC HNG.out.2.symm).trans (kq.cell 1)
 clear hnp hnq kp kq
 go_wp2_with fail
 have HKB := Qa ((HKA.out.set 2 (.bool true)).set 3 (.slice aq nq cq))
 have hno2 : (#[y0,y1,y2,y3] : Array Value).all Ql=true := hno
 have hh : JQ w2 g := ⟨_,_,HK2.out,hno2⟩
 have hh2 : JQ ((w2.setCell ⟨g,0,none⟩ (.bool (decide (z < 0)))).setCell ⟨g,1,none⟩ (.slice ap np cp)) g := ⟨_,_,HKA.out,Ud (Ud hno2 0 rfl) 1 rfl⟩
 have h1 := (HNP.out.two (i := 0) (j := 1) (x := .bool (decide (z < 0))) (y := .slice ap np cp) hh rfl).two (i := 2) (j := 3) (x := .bool true) (y := .slice aq nq cq) hh2 rfl
 have h2 := (HNQ.out.two (i := 0) (j := 1) (x := .bool (decide (z < 0))) (y := .slice ap np cp) hh rfl).two (i := 2) (j := 3) (x := .bool true) (y := .slice aq nq cq) hh2 rfl
 have hs : Save g w ((((w2.setCell ⟨g,0,none⟩ (.bool (decide (z < 0)))).setCell ⟨g,1,none⟩ (.slice ap np cp)).setCell ⟨g,2,none⟩ (.bool true)).setCell ⟨g,3,none⟩ (.slice aq nq cq)) := ((((Save.of HB2.out).set _ _).set _ _).set _ _).set _ _
 have HSV := Qa hs
 rw [Int.natAbs_neg,Int.natAbs_natCast] at h2
 have hkb : Blk ((((w2.setCell ⟨g,0,none⟩ (.bool (decide (z < 0)))).setCell ⟨g,1,none⟩ (.slice ap np cp)).setCell ⟨g,2,none⟩ (.bool true)).setCell ⟨g,3,none⟩ (.slice aq nq cq)) g #[.bool (decide (z < 0)),.slice ap np cp,.bool true,.slice aq nq cq] 34 := by
  exact HKB.out
 refine (FP (z := -z) (b := b) (by rw [Int.neg_neg]; exact hkb) (by rw [Int.neg_neg]; exact h1) h2 hb0 (by rw [Int.natAbs_neg]; exact SA.out) SB.out).mono ?_
 rintro e w5 ⟨rfl,hsv,hrv⟩
 have HR := Qa (And.intro (HSV.out.trans hsv) hrv)
 clear hsv hrv hs h1 h2 hh hh2
 go_wp2
 go_ret
 exact ⟨rfl,HR.out.1,HR.out.2⟩
theorem Nk (x y : Rat) (n : Nat) (hy : y.num=-(n : Int)) : x / y=mkRat (-(x.num*(y.den : Int))) (x.den*n) := by
 have h1 : (-y).num=(n : Int) := by rw [Rat.neg_num,hy,Int.neg_neg]
 have h2 := Lw x (-y) n h1
 have h3 : x / y=-(x / -y) := by
  have h4 : (-y)⁻¹=-(y⁻¹) := by
   by_cases h0 : y=0
   ·subst h0
    decide +kernel
   ·refine Rat.inv_eq_of_mul_eq_one ?_
    rw [Rat.neg_mul,Rat.mul_neg,Rat.neg_neg]
    exact Rat.mul_inv_cancel y h0
  rw [Rat.div_def,Rat.div_def,h4,Rat.mul_neg,Rat.neg_neg]
 rw [h3,h2,Rat.neg_mkRat,Rat.neg_den]
theorem TS {w : World} {g gx gy : Nat} {y0 y1 y2 y3 : Value} {x y : Rat} {k l : Nat} (hk : Blk w g #[y0,y1,y2,y3] 34) (hno : (#[y0,y1,y2,y3] : Array Value).all Ql=true) (hx : RV w gx x) (hy : RV w gy y) (fx : QS k x) (fy : QS l y) (hkl : k+l+1≤35184372088640) {n : Nat} (hyn : y.num=-(n : Int)) (hn : 0 < n) :
  Calls Tryz.prog 42 #[.pointer (some ⟨g,0,none⟩),.pointer (some ⟨gx,0,none⟩),.pointer (some ⟨gy,0,none⟩)] w fun e w' => e=.returned (.pointer (some ⟨g,0,none⟩))∧Save g w w'∧RV w' g (x / y) := by
 have LX := Qa hx.lt
 have LY := Qa hy.lt
 have LG := Qa hk.lt
 have HX := Qa hx
 have HY := Qa hy
 have HK := Qa hk
 have SX := Qa (Zx fx (by omega))
 have SY := Qa (Zx fy (by omega))
 have DX := Qa (Zy fx (by omega))
 have DY := Qa (Zy fy (by omega))
 have SXY := Qa (Jo fx fy hkl)
 have SD : Hid (Small (x.den*n)) := by
  show Small _
  have h1 := fy.num
  rw [hyn,Int.natAbs_neg,Int.natAbs_natCast] at h1
  exact Qm (k := k+l) (by rw [Nat.pow_add]; exact Nat.mul_lt_mul_of_lt_of_lt fx.den h1) (by omega)
 have HQ := Qa (Nk x y n hyn)
 have HD0 : Hid (0 < x.den*n) := Nat.mul_pos x.den_pos hn
 have HYN : Hid ((x.den : Int)*y.num=-((x.den*n : Nat) : Int)) := by show _=_; rw [hyn,Int.natCast_mul,Int.mul_neg]
 clear hx hy hk fx fy hyn
 go_enter Tryz.func42,Tryz.ntmps42
 go_wp2_with fail
 go_region_held3 (fun _ => True) (trivial)
  (first
   | (go_at_call_of 60 (Value.pointer (some { block := gy,off := 0 })); refine (Za (HY.out.below (by repeat' first | with_reducible exact Below.refl _ _ | with_reducible refine Below.new ?_ _ | with_reducible refine Below.drew ?_))).mono ?_; rintro e w1 ⟨hb1,p1,rfl,hv1,hap1⟩; have hbl1 : Below w.heap.size w w1 := Qo (by repeat' first | with_reducible exact Below.refl _ _ | with_reducible refine Below.new ?_ _ | with_reducible refine Below.drew ?_) hb1)
   | (go_at_call_of 16 (Value.pointer (some { block := gx,off := 0 })); have q0 := LX.out; have q00 := LY.out; have e1 := hb1.size; have d1 := hbl1.size; (try simp at e1); refine (Zo (by repeat' first | ((with_reducible refine Jw ?_); (first | with_reducible rfl | (simp; done))) | with_reducible exact Blk.new _ _ _ | with_reducible refine ZV _ ?_ | with_reducible refine ZM ?_ | with_reducible refine Ze hb1 ?_ | (first | omega | (simp; done) | (simp; omega))) (RV.num (HX.out.below (by repeat' first | with_reducible exact hbl1 | with_reducible exact Below.refl _ _ | with_reducible refine Below.new ?_ _ | with_reducible refine Below.drew ?_))) (show IV _ p1 (y.den : Int) from (by repeat' first | with_reducible exact hv1 | with_reducible refine YZ _ ?_ | with_reducible refine XF ?_)) (ZS (by (first | omega | (simp; done) | (simp; omega)))) (by first | (refine hv1.apart ?_; (first | omega | (simp; done) | (simp; omega))) | (refine hap1 _ ?_ ?_ <;> (first | omega | (simp; done) | (simp; omega)))) SX.out DY.out).mono ?_; clear q0 q00 e1 d1; rintro e w2 ⟨rfl,hs2,ho2,hh2⟩; have hbl2 : Below w.heap.size w w2 := QZ (by repeat' first | with_reducible exact hbl1 | with_reducible exact Below.refl _ _ | with_reducible refine Below.new ?_ _ | with_reducible refine Below.drew ?_) hs2 (by have d1 := hbl1.size; (first | omega | (simp; done) | (simp; omega))))
   | (go_at_call_of 60 (Value.pointer (some { block := gx,off := 0 })); refine (Za (HX.out.below (by repeat' first | with_reducible exact hbl2 | with_reducible exact hbl1 | with_reducible exact Below.refl _ _ | with_reducible refine Below.new ?_ _ | with_reducible refine Below.drew ?_))).mono ?_; rintro e w3 ⟨hb3,p3,rfl,hv3,hap3⟩; have hbl3 : Below w.heap.size w w3 := Qo (by repeat' first | with_reducible exact hbl2 | with_reducible exact hbl1 | with_reducible exact Below.refl _ _ | with_reducible refine Below.new ?_ _ | with_reducible refine Below.drew ?_) hb3)
   | (go_at_call_of 16 (Value.pointer (some { block := gy,off := 0 })); have q0 := LX.out; have q00 := LY.out; have e1 := hb1.size; have d1 := hbl1.size; (try simp at e1); have e2 := hs2.size; have d2 := hbl2.size; (try simp at e2); have e3 := hb3.size; have d3 := hbl3.size; (try simp at e3); have o2 := ho2.lt; refine (Zo (by repeat' first | ((with_reducible refine Jw ?_); (first | with_reducible rfl | (simp; done))) | with_reducible exact Blk.new _ _ _ | with_reducible refine ZV _ ?_ | with_reducible refine ZM ?_ | with_reducible refine Ze hb3 ?_ | with_reducible refine YF hs2 ?_ ?_ | with_reducible refine Ze hb1 ?_ | (first | omega | (simp; done) | (simp; omega))) (show IV _ p3 (x.den : Int) from (by repeat' first | with_reducible exact hv3 | with_reducible refine YZ _ ?_ | with_reducible refine XF ?_)) (RV.num (HY.out.below (by repeat' first | with_reducible exact hbl3 | with_reducible exact hbl2 | with_reducible exact hbl1 | with_reducible exact Below.refl _ _ | with_reducible refine Below.new ?_ _ | with_reducible refine Below.drew ?_))) (by first | (refine hv3.apart ?_; (first | omega | (simp; done) | (simp; omega))) | (refine hap3 _ ?_ ?_ <;> (first | omega | (simp; done) | (simp; omega)))) (ZS (by (first | omega | (simp; done) | (simp; omega)))) DX.out SY.out).mono ?_; clear q0 q00 e1 d1 e2 d2 e3 d3 o2; rintro e w4 ⟨rfl,hs4,ho4,hh4⟩; rw [HYN.out] at ho4; have hbl4 : Below w.heap.size w w4 := QZ (by repeat' first | with_reducible exact hbl3 | with_reducible exact hbl2 | with_reducible exact hbl1 | with_reducible exact Below.refl _ _ | with_reducible refine Below.new ?_ _ | with_reducible refine Below.drew ?_) hs4 (by have d1 := hbl1.size; have d2 := hbl2.size; have d3 := hbl3.size; (first | omega | (simp; done) | (simp; omega))))
   | (go_at_call 40; have q0 := LX.out; have q00 := LY.out; have e1 := hb1.size; have d1 := hbl1.size; (try simp at e1); have e2 := hs2.size; have d2 := hbl2.size; (try simp at e2); have e3 := hb3.size; have d3 := hbl3.size; (try simp at e3); have e4 := hs4.size; have d4 := hbl4.size; (try simp at e4); have o2 := ho2.lt; have o4 := ho4.lt; refine (Ka (z := x.num*(y.den : Int)) (b := x.den*n) (HK.out.below (by repeat' first | with_reducible exact hbl4 | with_reducible exact hbl3 | with_reducible exact hbl2 | with_reducible exact hbl1 | with_reducible exact Below.refl _ _ | with_reducible refine Below.new ?_ _ | with_reducible refine Below.drew ?_) LG.out) hno (Own2.iv (by repeat' first | with_reducible exact ho2 | with_reducible refine ZJ _ ?_ | with_reducible refine Xb ?_ | with_reducible refine UR hs4 hh4 ?_ ?_ | with_reducible refine IM hb3 ?_ | (first | omega | (simp; done) | (simp; omega)))) (Own2.iv (by repeat' first | with_reducible exact ho4 | with_reducible refine ZJ _ ?_ | with_reducible refine Xb ?_ | (first | omega | (simp; done) | (simp; omega)))) HD0.out SXY.out SD.out).mono ?_; clear q0 q00 e1 d1 e2 d2 e3 d3 e4 d4 o2 o4; rintro e w5 ⟨rfl,hs5,hr5⟩; have hbk : Below w.heap.size w _ := (by repeat' first | with_reducible exact hbl4 | with_reducible exact hbl3 | with_reducible exact hbl2 | with_reducible exact hbl1 | with_reducible exact Below.refl _ _ | with_reducible refine Below.new ?_ _ | with_reducible refine Below.drew ?_); have hsv5 := (Save.of (g := g) hbk).trans hs5)
   )
 all_goals
  go_wp2
  go_ret
  exact ⟨rfl,hsv5,by rw [HQ.out]; exact hr5⟩
theorem TV {w : World} {px py : Value} {x y : Rat} {k l : Nat} (hx : PR w px x) (hy : PR w py y) (fx : QS k x) (fy : QS l y) (hkl : k+l+1≤35184372088640) {n : Nat} (hyn : y.num=-(n : Int)) (hn : 0 < n) :
  Calls Tryz.prog 10 #[px,py] w fun e w' => Below w.heap.size w w'∧∃ v,e=.returned v∧PR w' v (x / y) := by
 obtain ⟨gx,rfl,hx⟩ := hx
 obtain ⟨gy,rfl,hy⟩ := hy
 have HX := Qa hx
 have HY := Qa hy
 have HYN := Qa hyn
 clear hx hy hyn
 go_enter Tryz.func10,Tryz.ntmps10
 go_wp2_with fail
 refine (TS (Blk.new w _ _) (by simp [Ql]) (HX.out.below (Qf _ _)) (HY.out.below (Qf _ _)) fx fy hkl HYN.out hn).mono ?_
 rintro e w1 ⟨rfl,hs,hr⟩
 have H1 := Qa (And.intro (QZ (Qf _ _) hs (Nat.le_refl _)) hr)
 clear hs hr
 go_wp2
 go_ret
 exact ⟨H1.out.1,_,rfl,_,rfl,H1.out.2⟩
theorem Pj {w : World} {g : Nat} {y0 y1 y2 y3 : Value} {pa pb : Value} (hk : Blk w g #[y0,y1,y2,y3] 34) (hno : (#[y0,y1,y2,y3] : Array Value).all Ql=true) (hb : IV w pb 0) :
  Calls Tryz.prog 40 #[.pointer (some ⟨g,0,none⟩),pa,pb] w fun e w' => e=.returned (.pointer (some ⟨g,0,none⟩))∧Save g w w'∧RV w' g 0 := by
 obtain ⟨g2,o2,a2,n2,c2,rfl,z0,z1,z2,zl⟩ := hb
 have hn2 : n2=0 := by
  obtain ⟨_,_,_,e,_,_,hz⟩ := QQ z2
  cases e
  exact hz.2 rfl
 subst hn2
 have HK := Qa hk
 have S0 : Hid (Small ((0 : Int)).natAbs) := Qm (k := 1) (by decide) (by decide)
 have S1 : Hid (Small 1) := Qm (k := 1) (by decide) (by decide)
 clear hk z2
 go_enter Tryz.func40,Tryz.ntmps40
 go_wp2_with fail
 have hkp := Blk.new w #[.bool false,.slice none 0 0] 32
 have hbp := Qf w (.cells #[.bool false,.slice none 0 0] 32)
 refine (Zq 1 (by decide) _).mono ?_
 rintro e w1 ⟨hb1,g1,rfl,hg1,ho1⟩
 have HB1 := Qa (hbp.trans (hb1.mono hbp.size))
 have HO1 := Qa ho1
 have HI : Hid (IV w1 (.pointer (some ⟨w.heap.size,0,none⟩)) 0) := by
  have hk1 := hkp.below hb1 hkp.lt
  exact ⟨w.heap.size,0,none,0,0,rfl,hk1.cell 0,hk1.cell 1,⟨[],NatV.nil _ _ _,Or.inl rfl,rfl⟩,hk1.lt⟩
 clear hb1 ho1 hkp hbp
 go_wp2_with fail
 refine (Zl (z := 0) (b := 1) (HK.out.below HB1.out HK.out.lt) hno HI.out HO1.out.iv (by decide) S0.out S1.out).mono ?_
 rintro e w2 ⟨rfl,hs,hr⟩
 have HR := Qa (And.intro ((Save.of HB1.out).trans hs) hr)
 clear hs hr
 go_wp2
 go_ret
 exact ⟨rfl,HR.out.1,by have := HR.out.2; rwa [show mkRat 0 1=0 by decide +kernel] at this⟩
theorem Pl {w : World} {g gx gy : Nat} {y0 y1 y2 y3 : Value} {x y : Rat} {k l : Nat} (hk : Blk w g #[y0,y1,y2,y3] 34) (hno : (#[y0,y1,y2,y3] : Array Value).all Ql=true) (hx : RV w gx x) (hy : RV w gy y) (fx : QS k x) (fy : QS l y) (hkl : k+l+1≤35184372088640) (hyn : y.num=0) :
  Calls Tryz.prog 42 #[.pointer (some ⟨g,0,none⟩),.pointer (some ⟨gx,0,none⟩),.pointer (some ⟨gy,0,none⟩)] w fun e w' => e=.returned (.pointer (some ⟨g,0,none⟩))∧Save g w w'∧RV w' g (x / y) := by
 have LX := Qa hx.lt
 have LY := Qa hy.lt
 have LG := Qa hk.lt
 have HX := Qa hx
 have HY := Qa hy
 have HK := Qa hk
 have SX := Qa (Zx fx (by omega))
 have SY := Qa (Zx fy (by omega))
 have DX := Qa (Zy fx (by omega))
 have DY := Qa (Zy fy (by omega))
 have SXY := Qa (Jo fx fy hkl)
 have HQ : Hid (x / y=0) := by show _=_; rw [Rat.num_eq_zero.1 hyn,Rat.div_def,Rat.inv_zero,Rat.mul_zero]
 have HYN : Hid ((x.den : Int)*y.num=0) := by show _=_; rw [hyn,Int.mul_zero]
 clear hx hy hk fx fy hyn
 go_enter Tryz.func42,Tryz.ntmps42
 go_wp2_with fail
 go_region_held3 (fun _ => True) (trivial)
  (first
   | (go_at_call_of 60 (Value.pointer (some { block := gy,off := 0 })); refine (Za (HY.out.below (by repeat' first | with_reducible exact Below.refl _ _ | with_reducible refine Below.new ?_ _ | with_reducible refine Below.drew ?_))).mono ?_; rintro e w1 ⟨hb1,p1,rfl,hv1,hap1⟩; have hbl1 : Below w.heap.size w w1 := Qo (by repeat' first | with_reducible exact Below.refl _ _ | with_reducible refine Below.new ?_ _ | with_reducible refine Below.drew ?_) hb1)
   | (go_at_call_of 16 (Value.pointer (some { block := gx,off := 0 })); have q0 := LX.out; have q00 := LY.out; have e1 := hb1.size; have d1 := hbl1.size; (try simp at e1); refine (Zo (by repeat' first | ((with_reducible refine Jw ?_); (first | with_reducible rfl | (simp; done))) | with_reducible exact Blk.new _ _ _ | with_reducible refine ZV _ ?_ | with_reducible refine ZM ?_ | with_reducible refine Ze hb1 ?_ | (first | omega | (simp; done) | (simp; omega))) (RV.num (HX.out.below (by repeat' first | with_reducible exact hbl1 | with_reducible exact Below.refl _ _ | with_reducible refine Below.new ?_ _ | with_reducible refine Below.drew ?_))) (show IV _ p1 (y.den : Int) from (by repeat' first | with_reducible exact hv1 | with_reducible refine YZ _ ?_ | with_reducible refine XF ?_)) (ZS (by (first | omega | (simp; done) | (simp; omega)))) (by first | (refine hv1.apart ?_; (first | omega | (simp; done) | (simp; omega))) | (refine hap1 _ ?_ ?_ <;> (first | omega | (simp; done) | (simp; omega)))) SX.out DY.out).mono ?_; clear q0 q00 e1 d1; rintro e w2 ⟨rfl,hs2,ho2,hh2⟩; have hbl2 : Below w.heap.size w w2 := QZ (by repeat' first | with_reducible exact hbl1 | with_reducible exact Below.refl _ _ | with_reducible refine Below.new ?_ _ | with_reducible refine Below.drew ?_) hs2 (by have d1 := hbl1.size; (first | omega | (simp; done) | (simp; omega))))
   | (go_at_call_of 60 (Value.pointer (some { block := gx,off := 0 })); refine (Za (HX.out.below (by repeat' first | with_reducible exact hbl2 | with_reducible exact hbl1 | with_reducible exact Below.refl _ _ | with_reducible refine Below.new ?_ _ | with_reducible refine Below.drew ?_))).mono ?_; rintro e w3 ⟨hb3,p3,rfl,hv3,hap3⟩; have hbl3 : Below w.heap.size w w3 := Qo (by repeat' first | with_reducible exact hbl2 | with_reducible exact hbl1 | with_reducible exact Below.refl _ _ | with_reducible refine Below.new ?_ _ | with_reducible refine Below.drew ?_) hb3)
   | (go_at_call_of 16 (Value.pointer (some { block := gy,off := 0 })); have q0 := LX.out; have q00 := LY.out; have e1 := hb1.size; have d1 := hbl1.size; (try simp at e1); have e2 := hs2.size; have d2 := hbl2.size; (try simp at e2); have e3 := hb3.size; have d3 := hbl3.size; (try simp at e3); have o2 := ho2.lt; refine (Zo (by repeat' first | ((with_reducible refine Jw ?_); (first | with_reducible rfl | (simp; done))) | with_reducible exact Blk.new _ _ _ | with_reducible refine ZV _ ?_ | with_reducible refine ZM ?_ | with_reducible refine Ze hb3 ?_ | with_reducible refine YF hs2 ?_ ?_ | with_reducible refine Ze hb1 ?_ | (first | omega | (simp; done) | (simp; omega))) (show IV _ p3 (x.den : Int) from (by repeat' first | with_reducible exact hv3 | with_reducible refine YZ _ ?_ | with_reducible refine XF ?_)) (RV.num (HY.out.below (by repeat' first | with_reducible exact hbl3 | with_reducible exact hbl2 | with_reducible exact hbl1 | with_reducible exact Below.refl _ _ | with_reducible refine Below.new ?_ _ | with_reducible refine Below.drew ?_))) (by first | (refine hv3.apart ?_; (first | omega | (simp; done) | (simp; omega))) | (refine hap3 _ ?_ ?_ <;> (first | omega | (simp; done) | (simp; omega)))) (ZS (by (first | omega | (simp; done) | (simp; omega)))) DX.out SY.out).mono ?_; clear q0 q00 e1 d1 e2 d2 e3 d3 o2; rintro e w4 ⟨rfl,hs4,ho4,hh4⟩; rw [HYN.out] at ho4; have hbl4 : Below w.heap.size w w4 := QZ (by repeat' first | with_reducible exact hbl3 | with_reducible exact hbl2 | with_reducible exact hbl1 | with_reducible exact Below.refl _ _ | with_reducible refine Below.new ?_ _ | with_reducible refine Below.drew ?_) hs4 (by have d1 := hbl1.size; have d2 := hbl2.size; have d3 := hbl3.size; (first | omega | (simp; done) | (simp; omega))))
   | (go_at_call 40; have q0 := LX.out; have q00 := LY.out; have e1 := hb1.size; have d1 := hbl1.size; (try simp at e1); have e2 := hs2.size; have d2 := hbl2.size; (try simp at e2); have e3 := hb3.size; have d3 := hbl3.size; (try simp at e3); have e4 := hs4.size; have d4 := hbl4.size; (try simp at e4); have o2 := ho2.lt; have o4 := ho4.lt; refine (Pj (HK.out.below (by repeat' first | with_reducible exact hbl4 | with_reducible exact hbl3 | with_reducible exact hbl2 | with_reducible exact hbl1 | with_reducible exact Below.refl _ _ | with_reducible refine Below.new ?_ _ | with_reducible refine Below.drew ?_) LG.out) hno (Own2.iv (by repeat' first | with_reducible exact ho4 | with_reducible refine ZJ _ ?_ | with_reducible refine Xb ?_ | (first | omega | (simp; done) | (simp; omega))))).mono ?_; clear q0 q00 e1 d1 e2 d2 e3 d3 e4 d4 o2 o4; rintro e w5 ⟨rfl,hs5,hr5⟩; have hbk : Below w.heap.size w _ := (by repeat' first | with_reducible exact hbl4 | with_reducible exact hbl3 | with_reducible exact hbl2 | with_reducible exact hbl1 | with_reducible exact Below.refl _ _ | with_reducible refine Below.new ?_ _ | with_reducible refine Below.drew ?_); have hsv5 := (Save.of (g := g) hbk).trans hs5)
   )
 all_goals
  go_wp2
  go_ret
  exact ⟨rfl,hsv5,by rw [HQ.out]; exact hr5⟩
theorem GZ {w : World} {px py : Value} {x y : Rat} {k l : Nat} (hx : PR w px x) (hy : PR w py y) (fx : QS k x) (fy : QS l y) (hkl : k+l+1≤35184372088640) (hyn : y.num=0) :
  Calls Tryz.prog 10 #[px,py] w fun e w' => Below w.heap.size w w'∧∃ v,e=.returned v∧PR w' v (x / y) := by
 obtain ⟨gx,rfl,hx⟩ := hx
 obtain ⟨gy,rfl,hy⟩ := hy
 have HX := Qa hx
 have HY := Qa hy
 have HYN := Qa hyn
 clear hx hy hyn
 go_enter Tryz.func10,Tryz.ntmps10
 go_wp2_with fail
 refine (Pl (Blk.new w _ _) (by simp [Ql]) (HX.out.below (Qf _ _)) (HY.out.below (Qf _ _)) fx fy hkl HYN.out).mono ?_
 rintro e w1 ⟨rfl,hs,hr⟩
 have H1 := Qa (And.intro (QZ (Qf _ _) hs (Nat.le_refl _)) hr)
 clear hs hr
 go_wp2
 go_ret
 exact ⟨H1.out.1,_,rfl,_,rfl,H1.out.2⟩
theorem TP {w : World} {px py : Value} {x y : Rat} {k l : Nat} (hx : PR w px x) (hy : PR w py y) (fx : QS k x) (fy : QS l y) (hkl : k+l+1≤35184372088640) :
  Calls Tryz.prog 10 #[px,py] w fun e w' => Below w.heap.size w w'∧∃ v,e=.returned v∧PR w' v (x / y) := by
 rcases Int.lt_trichotomy y.num 0 with h | h | h
 ·exact TV hx hy fx fy hkl (n := (-y.num).toNat) (by omega) (by omega)
 ·exact GZ hx hy fx fy hkl h
 ·exact Iz hx hy fx fy hkl (n := y.num.toNat) (by omega) (by omega)
end Go.Proofs.YthhnabccdehmgaaGreatDoor
/- BNM -/
namespace Go.Proofs.YthhnabccdehmgaaGreatDoor
open Go.RowKit Cx
attribute [local go_sem ↓] Go.wp_at_zero Go.wp_at_succ
theorem Ix {w : World} {g o : Nat} (x : Nat) (h0 : 0 < x) (hx : x < 9223372036854775808) (h : At2 w g o) :
  Calls Tryz.prog 66 #[.pointer (some ⟨g,o,none⟩),.int .i64 (-(x : Int))] w fun e w' => e=.returned (.pointer (some ⟨g,o,none⟩))∧Gave w g o (-(x : Int)) w' := by
 have H := Qa h
 clear h
 have hneg : (-(x : Int) < 0) := by omega
 go_enter Tryz.func66,Tryz.ntmps66
 go_wp2_with fail
 rw [Py x h0 hx]
 refine (ZP x w (by omega)).mono ?_
 rintro e w1 ⟨hb1,v1,rfl,hv1⟩
 obtain ⟨ao,n,c,rfl,hn,_,hnz⟩ := QQ hv1
 have hn0 : 0 < n := by
  refine Nat.pos_of_ne_zero fun q => ?_
  have := hnz.1 q
  omega
 have HV := Qa hv1
 have HB := Qa hb1
 have HN := Qa hn0
 clear hv1 hb1 hnz hn0
 go_wp2_with fail
 refine (Xh (n := n) (ao := ao) (c := c) true (H.out.below HB.out)).mono ?_
 rintro e w2 ⟨rfl,rfl⟩
 go_wp2
 go_ret
 refine ⟨rfl,w1,ao,n,c,HB.out,?_,by rw [Int.natAbs_neg,Int.natAbs_natCast]; exact HV.out⟩
 rw [decide_eq_true HN.out,decide_eq_true hneg]
theorem TX (x : Nat) (h0 : 0 < x) (hx : x < 9223372036854775808) (w : World) :
  Calls Tryz.prog 27 #[.int .i64 (-(x : Int))] w fun e w' => Below w.heap.size w w'∧∃ g,e=.returned (.pointer (some ⟨g,0,none⟩))∧w.heap.size≤g∧Own2 w' g (-(x : Int)) := by
 have hk := Blk.new w #[.bool false,.slice none 0 0] 32
 have hb := Qf w (.cells #[.bool false,.slice none 0 0] 32)
 go_enter Tryz.func27,Tryz.ntmps27
 go_wp2_with fail
 refine (Ix x h0 hx (At2.blk hk)).mono ?_
 rintro e w2 ⟨rfl,hg⟩
 obtain ⟨ho,hbl⟩ := hg.own hk
 have HO := Qa ho
 have HB := Qa (hb.trans (hbl _ (Nat.le_refl _) hb.size))
 clear ho hbl hg hk hb
 go_wp2
 go_ret
 exact ⟨HB.out,w.heap.size,rfl,Nat.le_refl _,HO.out⟩
theorem WY {w : World} {g : Nat} {y0 y1 y2 y3 : Value} (n : Nat) (h0 : 0 < n) (hn : n < 9223372036854775808) (hk : Blk w g #[y0,y1,y2,y3] 34) (hno : (#[y0,y1,y2,y3] : Array Value).all Ql=true) :
  Calls Tryz.prog 8 #[.pointer (some ⟨g,0,none⟩),.int .i64 (-(n : Int))] w fun e w' => e=.returned (.pointer (some ⟨g,0,none⟩))∧Save g w w'∧RV w' g ((-(n : Int) : Int) : Rat) := by
 have HK := Qa hk
 have LG := Qa hk.lt
 have SN : Hid (Small ((-(n : Int))).natAbs) := by
  show Small _
  rw [Int.natAbs_neg,Int.natAbs_natCast]
  exact Qm (k := 63) hn (by decide)
 have S1 : Hid (Small 1) := Qm (k := 1) (by decide) (by decide)
 clear hk
 go_enter Tryz.func8,Tryz.ntmps8
 go_wp2_with fail
 refine (TX n h0 hn w).mono ?_
 rintro e w1 ⟨hb1,g1,rfl,hg1,ho1⟩
 have HO1 := Qa ho1
 have HB1 := Qa hb1
 clear ho1 hb1
 go_wp2_with fail
 refine (Zq 1 (by decide) w1).mono ?_
 rintro e w2 ⟨hb2,g2,rfl,hg2,ho2⟩
 have HO2 := Qa ho2
 have HO1' := Qa (HO1.out.below hb2)
 have HB2 := Qa (HB1.out.trans (hb2.mono HB1.out.size))
 clear ho2 hb2
 go_wp2_with fail
 refine (Zl (z := -(n : Int)) (b := 1) (HK.out.below HB2.out LG.out) hno HO1'.out.iv HO2.out.iv (by decide) SN.out S1.out).mono ?_
 rintro e w3 ⟨rfl,hs,hr⟩
 rw [Rat.mkRat_one] at hr
 have HR := Qa (And.intro ((Save.of HB2.out).trans hs) hr)
 clear hs hr
 go_wp2
 go_ret
 exact ⟨rfl,HR.out.1,HR.out.2⟩
theorem GT (n : Nat) (h0 : 0 < n) (hn : n < 9223372036854775808) (w : World) :
  Calls Tryz.prog 7 #[.int .i64 (-(n : Int))] w fun e w' => Below w.heap.size w w'∧∃ g,e=.returned (.pointer (some ⟨g,0,none⟩))∧w.heap.size≤g∧RV w' g ((-(n : Int) : Int) : Rat) := by
 have hk := Blk.new w #[.bool false,.slice none 0 0,.bool false,.slice none 0 0] 34
 have hb := Qf w (.cells #[.bool false,.slice none 0 0,.bool false,.slice none 0 0] 34)
 go_enter Tryz.func7,Tryz.ntmps7
 go_wp2_with fail
 refine (WY n h0 hn hk (by simp [Ql])).mono ?_
 rintro e w1 ⟨rfl,hs,hr⟩
 have HR := Qa (And.intro (hb.trans (hs.below (Nat.le_refl _) hb.size)) hr)
 clear hs hr hb hk
 go_wp2
 go_ret
 exact ⟨HR.out.1,w.heap.size,rfl,Nat.le_refl _,HR.out.2⟩
theorem SH (z : Int) (h1 : -9223372036854775808 < z) (h2 : z < 9223372036854775808) (w : World) :
  Calls Tryz.prog 7 #[.int .i64 z] w fun e w' => Below w.heap.size w w'∧∃ g,e=.returned (.pointer (some ⟨g,0,none⟩))∧w.heap.size≤g∧RV w' g (z : Rat) := by
 by_cases hz : 0≤z
 ·obtain ⟨n,rfl⟩ := Int.eq_ofNat_of_zero_le hz
  exact Ic n (by omega) w
 ·obtain ⟨n,hn⟩ := Int.eq_ofNat_of_zero_le (a := -z) (by omega)
  obtain rfl : z=-(n : Int) := by omega
  exact GT n (by omega) (by omega) w
end Go.Proofs.YthhnabccdehmgaaGreatDoor
/- WHL -/
namespace Go.Proofs.YthhnabccdehmgaaGreatDoor
open Go.RowKit Cx
theorem Ag (n : Nat) (h : n < 4611686018427387904) : QS 64 (n : Rat) := ⟨by rw [Rat.num_natCast]; simp; omega,by simp⟩
theorem Ba {w : World} {v : Value} {a : Rat} (h : QV w v a) (h0 : a=0) :
  Calls Tryz.prog 77 #[v] w fun e w' => Below w.heap.size w w'∧e=.returned (.int .i64 0) := by
 subst h0
 exact Il h
theorem NT {w : World} {v : Value} {n : Nat} (h : QV w v (n : Rat)) (hn : n < 4611686018427387904) :
  Calls Tryz.prog 125 #[v] w fun e w' => Below w.heap.size w w'∧e=.returned (.tuple #[.int .i64 n,.bool true]) := by
 have HQ := Qd h
 obtain ⟨d,rfl⟩ := YD h
 obtain ⟨vu,vl,e,h1,_⟩ := h
 have e1 := Array.mk.inj (Value.agg.inj e)
 simp only [List.cons.injEq,Value.bool.injEq,and_true] at e1
 obtain ⟨hneg,hu,hlow⟩ := e1
 clear hlow
 rw [← hu,Rat.num_natCast,Int.natAbs_natCast] at h1
 rw [Rat.num_natCast] at hneg
 have hneg : d.n=false := by rw [hneg]; simp
 have hlen : d.nu≤2 := by
  obtain ⟨l,hv,ht,hval⟩ := h1
  have hl : l.length≤2 := Wu ht (by rw [hval]; simp [pw]; omega)
  obtain ⟨_,⟨rfl,ao,cap,e2⟩ | ⟨b,off,cap,e2,_⟩⟩ := hv
  ·injection e2 with _ e3 _
   omega
  ·injection e2 with _ e3 _
   omega
 have HN := Qd h1
 clear h1 hu e
 rw [hneg] at HQ ⊢
 clear hneg
 obtain ⟨hb0,hk0,hsz⟩ := Fg w #[.bool false,.slice d.u d.nu d.cu,.slice d.l d.nl d.cl] 63
 have HB0 := Qd hb0
 have HSZ := Qd hsz
 have HK0 := Qd hk0
 clear hb0 hsz hk0
 have hw1 : IntKind.i64.wrap (n : Int)=(n : Int) := by rw [IntKind.wrap_i64]; omega
 go_enter Tryz.func125,Tryz.ntmps125
 go_wp2_with fail
 generalize (w.alloc (.cells #[.bool false,.slice d.u d.nu d.cu,.slice d.l d.nl d.cl] 63))=W0 at *
 have HS : Hid (∀ w',Below W0.heap.size W0 w'→w'.cell? ⟨w.heap.size,0,none⟩=some (.bool false)∧w'.cell? ⟨w.heap.size,1,none⟩=some (.slice d.u d.nu d.cu)∧w'.cell? ⟨w.heap.size,2,none⟩=some (.slice d.l d.nl d.cl)) := fun w' hb => ⟨(HK0.out.below hb (by rw [HSZ.out]; omega)).cell 0,(HK0.out.below hb (by rw [HSZ.out]; omega)).cell 1,(HK0.out.below hb (by rw [HSZ.out]; omega)).cell 2⟩
 obtain ⟨z0,z1,z2⟩ := HS.out W0 (Below.refl _ _)
 go_wp2_with fail
 refine (YU (HN.out.below HB0.out) (by omega)).mono ?_
 rintro e w1 ⟨rfl,rfl⟩
 go_wp2_with fail
 go_region_held3 (fun w' => w'.cell? ⟨w.heap.size,0,none⟩=some (.bool false)∧w'.cell? ⟨w.heap.size,1,none⟩=some (.slice d.u d.nu d.cu)∧w'.cell? ⟨w.heap.size,2,none⟩=some (.slice d.l d.nl d.cl)) (first | go_keep | exact hk2 | exact hk3 | exact hk4)
  (first
   | (go_at_call_of 28 (Value.int .i64 (n : Int)); refine (OY (n : Int) (by omega) (by omega) _).mono ?_; rintro e w2 ⟨hb2,v2,rfl,hv2⟩; have hbl2 : Below w1.heap.size w1 w2 := (Below.drew (Below.refl _ w1)).trans hb2; have hk2 := HS.out w2 hbl2)
   | (go_at_call 124; refine (TK hv2 ((HQ.out.below HB0.out).below hbl2) (Ag n hn) (Ag n hn) (by decide)).mono ?_; rintro e w3 ⟨hb3,v3,rfl,hv3⟩; have hbl3 := hbl2.trans (hb3.mono hbl2.size); have hk3 := HS.out w3 hbl3)
   | (go_at_call 77; refine (Ba hv3 Rat.sub_self).mono ?_; rintro e w4 ⟨hb4,rfl⟩; have hbl4 := hbl3.trans (hb4.mono hbl3.size); have hk4 := HS.out w4 hbl4)
   )
 all_goals
  go_wp2
  exact bodyPost_ret (v := .tuple #[.int .i64 n,.bool true]) (by simp [results,Tryz.results125,go_sem]) rfl ⟨HB0.out.trans (hbl4.mono HB0.out.size),rfl⟩
end Go.Proofs.YthhnabccdehmgaaGreatDoor
/- CMQ -/
namespace Go.Proofs.YthhnabccdehmgaaGreatDoor
open Go.RowKit Cx
attribute [local go_sem ↓] Go.wp_at_zero Go.wp_at_succ
def cz (x y : Int) : Int := if x < y then -1 else if y < x then 1 else 0
theorem Al (a b : Rat) : a < b ↔ a.num*b.den < b.num*a.den := Rat.lt_iff a b
theorem cq_eq (a b : Rat) : a=b ↔ a.num*b.den=b.num*a.den := by
 constructor
 ·rintro rfl; rfl
 ·intro h
  exact (Rat.eq_iff_mul_eq_mul).2 h
theorem cq_neg (a b : Rat) : a - b < 0 ↔ a < b := by constructor <;> intro h <;> grind
theorem cq_zero (a b : Rat) : a - b=0 ↔ a=b := by constructor <;> intro h <;> grind
theorem HJ (a b : Rat) : QM (a - b)=if a < b then -1 else if a=b then 0 else 1 := by
 unfold QM
 simp only [cq_neg,cq_zero]
theorem DU (a : Rat) : a < 0 ↔ a.num < 0 := by
 rw [Al]
 simp
theorem cq_math {a b : Rat} {c : Int} (hs : QM a=QM b) (h1 : c < 0 ↔ a.num.natAbs*b.den < b.num.natAbs*a.den) (h2 : c=0 ↔ a.num.natAbs*b.den=b.num.natAbs*a.den) : QM a*cz c 0=QM (a - b) := by
 have ha := Nat.pos_of_ne_zero a.den_nz
 have hb := Nat.pos_of_ne_zero b.den_nz
 have e1 := Al a b
 have e2 := cq_eq a b
 have n1 : ((a.num.natAbs*b.den : Nat) : Int)=a.num.natAbs*b.den := by push_cast; rfl
 have n2 : ((b.num.natAbs*a.den : Nat) : Int)=b.num.natAbs*a.den := by push_cast; rfl
 rw [HJ]
 unfold QM at hs ⊢
 unfold cz
 by_cases p : a < 0
 ·have q : b < 0 := by
   by_cases q : b < 0
   ·exact q
   ·rw [if_pos p,if_neg q] at hs
    split at hs <;> omega
  have p' := (DU a).1 p
  have q' := (DU b).1 q
  have x1 : ((a.num.natAbs : Int))=-a.num := by omega
  have x2 : ((b.num.natAbs : Int))=-b.num := by omega
  rw [x1] at n1
  rw [x2] at n2
  rw [if_pos p]
  simp only [e1,e2]
  have y1 : -a.num*(b.den : Int)=-(a.num*b.den) := Int.neg_mul _ _
  have y2 : -b.num*(a.den : Int)=-(b.num*a.den) := Int.neg_mul _ _
  rw [y1] at n1
  rw [y2] at n2
  split <;> split <;> (try split) <;> (try split) <;> omega
 ·by_cases p0 : a=0
  ·have q : b=0 := by
    rw [if_neg p,if_pos p0] at hs
    split at hs
    ·omega
    ·split at hs
     ·assumption
     ·omega
   subst p0 q
   simp
  ·have q : ¬ b < 0∧¬ b=0 := by
    rw [if_neg p,if_neg p0] at hs
    split at hs
    ·omega
    ·split at hs
     ·omega
     ·exact ⟨by assumption,by assumption⟩
   rw [if_neg p,if_neg p0]
   simp only [e1,e2]
   have p' : ¬ a.num < 0 := fun h => p ((DU a).2 h)
   have q' : ¬ b.num < 0 := fun h => q.1 ((DU b).2 h)
   have x1 : ((a.num.natAbs : Int))=a.num := by omega
   have x2 : ((b.num.natAbs : Int))=b.num := by omega
   rw [x1] at n1
   rw [x2] at n2
   split <;> split <;> (try split) <;> (try split) <;> omega
theorem cq_czs {a b : Rat} (h : cz (QM a) (QM b) ≠ 0) : cz (QM a) (QM b)=QM (a - b) := by
 rw [HJ]
 unfold cz QM at *
 by_cases p : a < 0 <;> by_cases q : b < 0 <;> by_cases p0 : a=0 <;> by_cases q0 : b=0 <;> simp_all <;> grind
theorem cq_cz0 {a b : Rat} (h : cz (QM a) (QM b)=0) : QM a=QM b := by
 unfold cz at h
 split at h
 ·omega
 ·split at h <;> omega
theorem Ct (x y : Int) : cz x y=-1 ∨ cz x y=0 ∨ cz x y=1 := by
 unfold cz
 split
 ·exact Or.inl rfl
 ·split
  ·exact Or.inr (Or.inr rfl)
  ·exact Or.inr (Or.inl rfl)
theorem cq_wrap (a : Rat) (c : Int) : IntKind.i64.wrap (QM a*cz c 0)=QM a*cz c 0 := by
 have h1 : QM a=-1 ∨ QM a=0 ∨ QM a=1 := by
  unfold QM
  split
  ·exact Or.inl rfl
  ·split
   ·exact Or.inr (Or.inl rfl)
   ·exact Or.inr (Or.inr rfl)
 rcases h1 with h1 | h1 | h1 <;> rcases Ct c 0 with h2 | h2 | h2 <;> rw [h1,h2] <;> decide
theorem Tf (x : Int) (w : World) : Calls Tryz.prog 185 #[.int .i64 x] w fun e w' => e=.returned (.bool false)∧w'=w := by
 go_enter Tryz.func185,Tryz.ntmps185
 go_wp2
 exact bodyPost_ret (v := .bool false) (by simp [results,Tryz.results185,go_sem]) rfl ⟨rfl,rfl⟩
theorem Rl (x y : Int) (w : World) : Calls Tryz.prog 160 #[.int .i64 x,.int .i64 y] w fun e w' => e=.returned (.int .i64 (cz x y))∧w'=w := by
 go_enter Tryz.func160,Tryz.ntmps160
 go_wp2_with fail
 refine (Tf x w).mono ?_
 rintro e w1 ⟨rfl,rfl⟩
 go_wp2_with fail
 refine (Tf y w1).mono ?_
 rintro e w2 ⟨rfl,rfl⟩
 by_cases h1 : x < y
 ·go_wp2
  exact bodyPost_ret (v := .int .i64 (-1)) (by simp [results,Tryz.results160,go_sem]) rfl ⟨congrArg (fun z => Ending.returned (.int .i64 z)) (by unfold cz; split <;> (try split) <;> omega),rfl⟩
 ·by_cases h2 : y < x
  ·go_wp2
   exact bodyPost_ret (v := .int .i64 1) (by simp [results,Tryz.results160,go_sem]) rfl ⟨congrArg (fun z => Ending.returned (.int .i64 z)) (by unfold cz; split <;> (try split) <;> omega),rfl⟩
  ·go_wp2
   exact bodyPost_ret (v := .int .i64 0) (by simp [results,Tryz.results160,go_sem]) rfl ⟨congrArg (fun z => Ending.returned (.int .i64 z)) (by unfold cz; split <;> (try split) <;> omega),rfl⟩
theorem SG {w : World} {v : Value} {q : Rat} (h : QV w v q) :
  Calls Tryz.prog 77 #[v] w fun e w' => Below w.heap.size w w'∧e=.returned (.int .i64 (QM q)) := by
 have := Il h
 rw [← Sy] at this
 exact this
theorem KV (vs : Array Value) (w : World) : (callFunc 138 vs).run Tryz.prog w=.ok (.enter 138 vs) w := Zd Tryz.func138 (by kernel_rfl) (by kernel_rfl) vs w
theorem Xt (vs : Array Value) (w : World) : (callFunc 77 vs).run Tryz.prog w=.ok (.enter 77 vs) w := Zd Tryz.func77 (by kernel_rfl) (by kernel_rfl) vs w
theorem XL (vs : Array Value) (w : World) : (callFunc 160 vs).run Tryz.prog w=.ok (.enter 160 vs) w := Zd Tryz.func160 (by kernel_rfl) (by kernel_rfl) vs w
theorem Br (T : TypeId) (x y : Operand) (a b z : Int) (h : IntKind.i64.wrap (a*b)=z) (w : World) : (do eqGuard .mul T x y (.int .i64 a) (.int .i64 b); binOp .mul T (.int .i64 a) (.int .i64 b) : Sem Value).run Tryz.prog w=.ok (.int .i64 z) w := by
 subst h
 simp [go_sem]
theorem Tm (T : TypeId) (x y : Operand) (a b : Int) (c : Bool) (h : (a != b)=c) (w : World) : (do eqGuard .neq T x y (.int .i64 a) (.int .i64 b); binOp .neq T (.int .i64 a) (.int .i64 b) : Sem Value).run Tryz.prog w=.ok (.bool c) w := by
 subst h
 simp [go_sem]
theorem Wt {q : Rat} : Con Tryz.prog Jz 77 [Qv q] (In (QM q)) := fun w vs _ h => by
 match vs,h with
 | [v],⟨h0,_⟩ => exact (SG h0).mono fun e w' ⟨hb,e1⟩ => ⟨hb,_,e1,rfl⟩
theorem SP {x y : Int} : Con Tryz.prog Jz 160 [In x,In y] (In (cz x y)) := fun w vs _ h => by
 match vs,h with
 | [_,_],⟨h0,h1,_⟩ =>
  cases (show _=Value.int .i64 x from h0)
  cases (show _=Value.int .i64 y from h1)
  exact (Rl x y w).mono fun e w' ⟨e1,e2⟩ => ⟨e2 ▸ Below.refl _ _,_,e1,rfl⟩
theorem Hr {a b : Nat} : Con Tryz.prog Jz 160 [Cm a b,In 0] (In (cz (a : Nat) (b : Nat))) := fun w vs _ h => by
 match vs,h with
 | [_,_],⟨⟨c,h0,h2,h3⟩,h1,_⟩ =>
  cases h0
  cases (show _=Value.int .i64 0 from h1)
  have e0 : cz c 0=cz (a : Nat) (b : Nat) := by
   unfold cz
   split <;> split <;> (try split) <;> (try split) <;> omega
  refine (Rl c 0 w).mono ?_
  rintro e w' ⟨e1,rfl⟩
  rw [e0] at e1
  exact ⟨Below.refl _ _,_,e1,rfl⟩
theorem con_cmp {a b : Nat} (s1 : Small a) (s2 : Small b) : Con Tryz.prog Jz 138 [Nt a,Nt b] (Cm a b) := fun w vs _ h => by
 match vs,h with
 | [va,vb],⟨h0,h1,_⟩ => exact (ZY h0 h1 s1 s2).mono fun e w' ⟨hb,c,e1,h2,h3⟩ => ⟨hb,_,e1,c,rfl,h2,h3⟩
theorem Cb {a b : Rat} (hc : ¬ (cz (QM a) (QM b)=0)) :
  Con Tryz.prog Jz 123 [Qv a,Qv b] (In (cz (QM a) (QM b))) := by
 refine Wh (n := 29) Tryz.func123 rfl rfl (Nat.le_of_ble_eq_true rfl) ?_
 intro w a0 hp S0
 have HPRE : ∀ w',Below w.heap.size w w'→Jz w' := fun _ _ => trivial
 refine wp_seq ?_
 refine QF [.alloc 63 (Qv a),.alloc 63 (Qv b),.pure (In (0))] ⟨S0,by decide +kernel⟩ (by kernel_rfl) (by kernel_rfl) rfl (by kernel_rfl) ?_ ?_
 ·intro C
  refine ASteps.cons ?_ (ASteps.cons ?_ (ASteps.cons ?_ (ASteps.nil)))
  ·exact Jp rfl rfl (Qb rfl) rfl (ZB (by kernel_rfl)) (Qi C 0 (by kernel_rfl) rfl) (Xn (Je _))
  ·exact Jp rfl rfl (Qb rfl) rfl (ZB (by kernel_rfl)) (Qi C 1 (by kernel_rfl) rfl) (Xn (Je _))
  ·exact Qr rfl rfl (Qb rfl) rfl (QN _)
 intro γ a1 w1 S1
 replace S1 : AS w 29 [(4,In (0)),(3,Jus (.pointer (some ⟨γ 1,0,none⟩))),(2,Jus (.pointer (some ⟨γ 0,0,none⟩)))] [(γ 0,63,Qv a),(γ 1,63,Qv b)] a1 w1 := cast (by kernel_rfl) (S1.keep [2,3,4])
 generalize γ 0=G1_0 at S1
 generalize γ 1=G1_1 at S1
 clear S0
 refine Qh ?_
 refine wp_seq ?_
 refine wp_seq ?_
 refine QF [.pure (Qv a),.pure (In (QM a)),.pure (Qv b),.pure (In (QM b)),.pure (In (cz (QM a) (QM b))),.pure (In (cz (QM a) (QM b)))] ⟨S1,by decide +kernel⟩ (by kernel_rfl) (by kernel_rfl) rfl (by kernel_rfl) ?_ ?_
 ·intro C
  refine ASteps.cons ?_ (ASteps.cons ?_ (ASteps.cons ?_ (ASteps.cons ?_ (ASteps.cons ?_ (ASteps.cons ?_ (ASteps.nil))))))
  ·exact QX (k := 0) rfl rfl rfl (Qb rfl) rfl (Qi C 2 (by kernel_rfl) rfl) (Qy (by kernel_rfl)) Zk
  ·exact Qj HPRE rfl rfl (Qb rfl) rfl Xt (Opns.cons (Qc C 0 0 rfl rfl rfl rfl rfl rfl) Opns.nil) (Wt)
  ·exact QX (k := 1) rfl rfl rfl (Qb rfl) rfl (Qi C 1 (by kernel_rfl) rfl) (Qy (by kernel_rfl)) Zk
  ·exact Qj HPRE rfl rfl (Qb rfl) rfl Xt (Opns.cons (Qc C 2 0 rfl rfl rfl rfl rfl rfl) Opns.nil) (Wt)
  ·exact Qj HPRE rfl rfl (Qb rfl) rfl XL (Opns.cons (Qc C 1 0 rfl rfl rfl rfl rfl rfl) (Opns.cons (Qc C 3 1 rfl rfl rfl rfl rfl rfl) Opns.nil)) (SP)
  ·exact Qr rfl rfl (Qb rfl) rfl (Qc C 4 0 rfl rfl rfl rfl rfl rfl)
 intro γ a2 w2 S2
 replace S2 : AS w 29 [(5,In (cz (QM a) (QM b))),(4,In (0)),(3,Jus (.pointer (some ⟨G1_1,0,none⟩))),(2,Jus (.pointer (some ⟨G1_0,0,none⟩)))] [(G1_0,63,Qv a),(G1_1,63,Qv b)] a2 w2 := cast (by kernel_rfl) (S2.keep [2,3,4,5])
 clear S1
 refine Qh ?_
 refine wp_seq ?_
 refine QF [.pure (In (cz (QM a) (QM b))),.pure (Bo true)] ⟨S2,by decide +kernel⟩ (by kernel_rfl) (by kernel_rfl) rfl (by kernel_rfl) ?_ ?_
 ·intro C
  refine ASteps.cons ?_ (ASteps.cons ?_ (ASteps.nil))
  ·exact Qk rfl rfl (Qb rfl) rfl (Qi C 0 (by kernel_rfl) rfl)
  ·exact YH rfl rfl (Qb rfl) rfl (Qc C 0 0 rfl rfl rfl rfl rfl rfl) (QN _) (Tm _ _ _ _ _ _ (by simp [hc]))
 intro γ a3 w3 S3
 replace S3 : AS w 29 [(12,Bo true),(5,In (cz (QM a) (QM b))),(4,In (0)),(3,Jus (.pointer (some ⟨G1_1,0,none⟩))),(2,Jus (.pointer (some ⟨G1_0,0,none⟩)))] [(G1_0,63,Qv a),(G1_1,63,Qv b)] a3 w3 := cast (by kernel_rfl) (S3.keep [2,3,4,5,12])
 clear S2
 refine Qh ?_
 refine wp_cond_true (S3.val 0 rfl) ?_
 refine wp_seq ?_
 refine QF [.pure (In (cz (QM a) (QM b))),.pure (In (cz (QM a) (QM b)))] ⟨S3,by decide +kernel⟩ (by kernel_rfl) (by kernel_rfl) rfl (by kernel_rfl) ?_ ?_
 ·intro C
  refine ASteps.cons ?_ (ASteps.cons ?_ (ASteps.nil))
  ·exact Qk rfl rfl (Qb rfl) rfl (Qi C 1 (by kernel_rfl) rfl)
  ·exact Qr rfl rfl (Qb rfl) rfl (Qc C 0 0 rfl rfl rfl rfl rfl rfl)
 intro γ a4 w4 S4
 replace S4 : AS w 29 [(4,In (cz (QM a) (QM b))),(3,Jus (.pointer (some ⟨G1_1,0,none⟩))),(2,Jus (.pointer (some ⟨G1_0,0,none⟩)))] [(G1_0,63,Qv a),(G1_1,63,Qv b)] a4 w4 := cast (by kernel_rfl) (S4.keep [2,3,4])
 clear S3
 refine Qh ?_
 refine wp_ret ?_
 refine Gq ?_
 exact S4.ret 0 rfl rfl fun v hv => ⟨S4.bel,v,rfl,hv⟩
theorem Ck {a b : Rat} {z : Int} (hc : cz (QM a) (QM b)=0) (s1 : Small a.num.natAbs) (s2 : Small b.den) (s3 : Small b.num.natAbs) (s4 : Small a.den) (s5 : Small (a.num.natAbs*b.den)) (s6 : Small (b.num.natAbs*a.den)) (hm : IntKind.i64.wrap (QM a*cz (a.num.natAbs*b.den : Nat) (b.num.natAbs*a.den : Nat))=z) :
  Con Tryz.prog Jz 123 [Qv a,Qv b] (In (z)) := by
 refine Wh (n := 29) Tryz.func123 rfl rfl (Nat.le_of_ble_eq_true rfl) ?_
 intro w a0 hp S0
 have HPRE : ∀ w',Below w.heap.size w w'→Jz w' := fun _ _ => trivial
 refine wp_seq ?_
 refine QF [.alloc 63 (Qv a),.alloc 63 (Qv b),.pure (In (0))] ⟨S0,by decide +kernel⟩ (by kernel_rfl) (by kernel_rfl) rfl (by kernel_rfl) ?_ ?_
 ·intro C
  refine ASteps.cons ?_ (ASteps.cons ?_ (ASteps.cons ?_ (ASteps.nil)))
  ·exact Jp rfl rfl (Qb rfl) rfl (ZB (by kernel_rfl)) (Qi C 0 (by kernel_rfl) rfl) (Xn (Je _))
  ·exact Jp rfl rfl (Qb rfl) rfl (ZB (by kernel_rfl)) (Qi C 1 (by kernel_rfl) rfl) (Xn (Je _))
  ·exact Qr rfl rfl (Qb rfl) rfl (QN _)
 intro γ a1 w1 S1
 replace S1 : AS w 29 [(4,In (0)),(3,Jus (.pointer (some ⟨γ 1,0,none⟩))),(2,Jus (.pointer (some ⟨γ 0,0,none⟩)))] [(γ 0,63,Qv a),(γ 1,63,Qv b)] a1 w1 := cast (by kernel_rfl) (S1.keep [2,3,4])
 generalize γ 0=G1_0 at S1
 generalize γ 1=G1_1 at S1
 clear S0
 refine Qh ?_
 refine wp_seq ?_
 refine wp_seq ?_
 refine QF [.pure (Qv a),.pure (In (QM a)),.pure (Qv b),.pure (In (QM b)),.pure (In (cz (QM a) (QM b))),.pure (In (cz (QM a) (QM b)))] ⟨S1,by decide +kernel⟩ (by kernel_rfl) (by kernel_rfl) rfl (by kernel_rfl) ?_ ?_
 ·intro C
  refine ASteps.cons ?_ (ASteps.cons ?_ (ASteps.cons ?_ (ASteps.cons ?_ (ASteps.cons ?_ (ASteps.cons ?_ (ASteps.nil))))))
  ·exact QX (k := 0) rfl rfl rfl (Qb rfl) rfl (Qi C 2 (by kernel_rfl) rfl) (Qy (by kernel_rfl)) Zk
  ·exact Qj HPRE rfl rfl (Qb rfl) rfl Xt (Opns.cons (Qc C 0 0 rfl rfl rfl rfl rfl rfl) Opns.nil) (Wt)
  ·exact QX (k := 1) rfl rfl rfl (Qb rfl) rfl (Qi C 1 (by kernel_rfl) rfl) (Qy (by kernel_rfl)) Zk
  ·exact Qj HPRE rfl rfl (Qb rfl) rfl Xt (Opns.cons (Qc C 2 0 rfl rfl rfl rfl rfl rfl) Opns.nil) (Wt)
  ·exact Qj HPRE rfl rfl (Qb rfl) rfl XL (Opns.cons (Qc C 1 0 rfl rfl rfl rfl rfl rfl) (Opns.cons (Qc C 3 1 rfl rfl rfl rfl rfl rfl) Opns.nil)) (SP)
  ·exact Qr rfl rfl (Qb rfl) rfl (Qc C 4 0 rfl rfl rfl rfl rfl rfl)
 intro γ a2 w2 S2
 replace S2 : AS w 29 [(5,In (cz (QM a) (QM b))),(4,In (0)),(3,Jus (.pointer (some ⟨G1_1,0,none⟩))),(2,Jus (.pointer (some ⟨G1_0,0,none⟩)))] [(G1_0,63,Qv a),(G1_1,63,Qv b)] a2 w2 := cast (by kernel_rfl) (S2.keep [2,3,4,5])
 clear S1
 refine Qh ?_
 refine wp_seq ?_
 refine QF [.pure (In (cz (QM a) (QM b))),.pure (Bo false)] ⟨S2,by decide +kernel⟩ (by kernel_rfl) (by kernel_rfl) rfl (by kernel_rfl) ?_ ?_
 ·intro C
  refine ASteps.cons ?_ (ASteps.cons ?_ (ASteps.nil))
  ·exact Qk rfl rfl (Qb rfl) rfl (Qi C 0 (by kernel_rfl) rfl)
  ·exact YH rfl rfl (Qb rfl) rfl (Qc C 0 0 rfl rfl rfl rfl rfl rfl) (QN _) (Tm _ _ _ _ _ _ (by simp [hc]))
 intro γ a3 w3 S3
 replace S3 : AS w 29 [(12,Bo false),(5,In (cz (QM a) (QM b))),(4,In (0)),(3,Jus (.pointer (some ⟨G1_1,0,none⟩))),(2,Jus (.pointer (some ⟨G1_0,0,none⟩)))] [(G1_0,63,Qv a),(G1_1,63,Qv b)] a3 w3 := cast (by kernel_rfl) (S3.keep [2,3,4,5,12])
 clear S2
 refine Qh ?_
 refine wp_cond_false (S3.val 0 rfl) ?_
 refine wp_skip ?_
 refine Qh ?_
 refine wp_seq ?_
 refine QF [.pure (Qv a),.pure (In (QM a)),.pure (Jus (.pointer (some ⟨G1_0,1,none⟩))),.pure (Nt (a.num.natAbs)),.pure (Qv b),.pure (Nt (b.den)),.pure (Nt (a.num.natAbs*b.den)),.pure (Jus (.pointer (some ⟨G1_1,1,none⟩))),.pure (Nt (b.num.natAbs)),.pure (Qv a),.pure (Nt (a.den)),.pure (Nt (b.num.natAbs*a.den)),.pure (Cm (a.num.natAbs*b.den) (b.num.natAbs*a.den)),.pure (In (cz (a.num.natAbs*b.den : Nat) (b.num.natAbs*a.den : Nat))),.pure (In (z)),.pure (In (z))] ⟨S3,by decide +kernel⟩ (by kernel_rfl) (by kernel_rfl) rfl (by kernel_rfl) ?_ ?_
 ·intro C
  refine ASteps.cons ?_ (ASteps.cons ?_ (ASteps.cons ?_ (ASteps.cons ?_ (ASteps.cons ?_ (ASteps.cons ?_ (ASteps.cons ?_ (ASteps.cons ?_ (ASteps.cons ?_ (ASteps.cons ?_ (ASteps.cons ?_ (ASteps.cons ?_ (ASteps.cons ?_ (ASteps.cons ?_ (ASteps.cons ?_ (ASteps.cons ?_ (ASteps.nil))))))))))))))))
  ·exact QX (k := 0) rfl rfl rfl (Qb rfl) rfl (Qi C 4 (by kernel_rfl) rfl) (Qy (by kernel_rfl)) Zk
  ·exact Qj HPRE rfl rfl (Qb rfl) rfl Xt (Opns.cons (Qc C 0 0 rfl rfl rfl rfl rfl rfl) Opns.nil) (Wt)
  ·exact Qp rfl rfl (Qb rfl) rfl (Qi C 4 (by kernel_rfl) rfl) (ZZ _)
  ·exact QJ (k := 0) rfl rfl rfl (Qb rfl) rfl (Qc C 2 0 rfl rfl rfl rfl rfl rfl) (Qy (by kernel_rfl)) Xj
  ·exact QX (k := 1) rfl rfl rfl (Qb rfl) rfl (Qi C 3 (by kernel_rfl) rfl) (Qy (by kernel_rfl)) Zk
  ·exact Qj HPRE rfl rfl (Qb rfl) rfl Zv (Opns.cons (Qc C 4 0 rfl rfl rfl rfl rfl rfl) Opns.nil) (Xq)
  ·exact Qj HPRE rfl rfl (Qb rfl) rfl Zz (Opns.cons (Qc C 3 0 rfl rfl rfl rfl rfl rfl) (Opns.cons (Qc C 5 1 rfl rfl rfl rfl rfl rfl) Opns.nil)) ((Fw s1 s2))
  ·exact Qp rfl rfl (Qb rfl) rfl (Qi C 3 (by kernel_rfl) rfl) (ZZ _)
  ·exact QJ (k := 1) rfl rfl rfl (Qb rfl) rfl (Qc C 7 0 rfl rfl rfl rfl rfl rfl) (Qy (by kernel_rfl)) Xj
  ·exact QX (k := 0) rfl rfl rfl (Qb rfl) rfl (Qi C 4 (by kernel_rfl) rfl) (Qy (by kernel_rfl)) Zk
  ·exact Qj HPRE rfl rfl (Qb rfl) rfl Zv (Opns.cons (Qc C 9 0 rfl rfl rfl rfl rfl rfl) Opns.nil) (Xq)
  ·exact Qj HPRE rfl rfl (Qb rfl) rfl Zz (Opns.cons (Qc C 8 0 rfl rfl rfl rfl rfl rfl) (Opns.cons (Qc C 10 1 rfl rfl rfl rfl rfl rfl) Opns.nil)) ((Fw s3 s4))
  ·exact Qj HPRE rfl rfl (Qb rfl) rfl KV (Opns.cons (Qc C 6 0 rfl rfl rfl rfl rfl rfl) (Opns.cons (Qc C 11 1 rfl rfl rfl rfl rfl rfl) Opns.nil)) ((con_cmp s5 s6))
  ·exact Qj HPRE rfl rfl (Qb rfl) rfl XL (Opns.cons (Qc C 12 0 rfl rfl rfl rfl rfl rfl) (Opns.cons (QN _) Opns.nil)) (Hr)
  ·exact YH rfl rfl (Qb rfl) rfl (Qc C 1 0 rfl rfl rfl rfl rfl rfl) (Qc C 13 1 rfl rfl rfl rfl rfl rfl) (Br _ _ _ _ _ _ hm)
  ·exact Qr rfl rfl (Qb rfl) rfl (Qc C 14 0 rfl rfl rfl rfl rfl rfl)
 intro γ a4 w4 S4
 replace S4 : AS w 29 [(4,In (z))] [(G1_0,63,Qv a),(G1_1,63,Qv b)] a4 w4 := cast (by kernel_rfl) (S4.keep [4])
 clear S3
 refine Qh ?_
 refine wp_ret ?_
 exact S4.ret 0 rfl rfl fun v hv => ⟨S4.bel,v,rfl,hv⟩
theorem cz_cz (x y : Int) : cz (cz x y) 0=cz x y := by
 rcases Ct x y with h | h | h <;> rw [h] <;> rfl
theorem cz_lt (x y : Int) : cz x y < 0 ↔ x < y := by
 unfold cz
 split <;> (try split) <;> omega
theorem cz_eq (x y : Int) : cz x y=0 ↔ x=y := by
 unfold cz
 split <;> (try split) <;> omega
theorem GB {w : World} {va vb : Value} {a b : Rat} {k l : Nat} (ha : QV w va a) (hb : QV w vb b) (fa : QS k a) (fb : QS l b) (hk : k+l≤35184372088640) :
  Calls Tryz.prog 123 #[va,vb] w fun e w' => Below w.heap.size w w'∧e=.returned (.int .i64 (QM (a - b))) := by
 by_cases hc : cz (QM a) (QM b)=0
 ·have hs := cq_cz0 hc
  have hz : IntKind.i64.wrap (QM a*cz (a.num.natAbs*b.den : Nat) (b.num.natAbs*a.den : Nat))=QM (a - b) := by
   rw [← cz_cz,cq_wrap]
   exact cq_math hs (by rw [cz_lt]; exact Int.ofNat_lt) (by rw [cz_eq]; exact Int.natCast_inj)
  refine (Ck hc (Qm fa.num (by omega)) (Qm fb.den (by omega)) (Qm fb.num (by omega)) (Qm fa.den (by omega)) (ZI fa.num fb.den (by omega)) (ZI fb.num fa.den (by omega)) hz w [va,vb] trivial ⟨ha,hb,trivial⟩).mono ?_
  rintro e w' ⟨hb,v,rfl,e⟩
  exact ⟨hb,by rw [show v=_ from e]⟩
 ·refine (Cb hc w [va,vb] trivial ⟨ha,hb,trivial⟩).mono ?_
  rintro e w' ⟨hb,v,rfl,e⟩
  refine ⟨hb,?_⟩
  rw [show v=_ from e,cq_czs hc]
end Go.Proofs.YthhnabccdehmgaaGreatDoor
/- VT -/
namespace Go.Proofs.YthhnabccdehmgaaGreatDoor
open Go.RowKit Cx
def VY (σ : Nat→ByteArray) (q : Nat→Rat) (nd : Nd) : Rat := match nd.1,nd.2 with
 | 0,[s,n,d] => if s=0 then mkRat (n : Int) d else mkRat (-(n : Int)) d
 | 1,[j] => rd (σ j).data.toList
 | 2,[a,b] => q a+q b
 | 3,[a,b] => q a - q b
 | 4,[a,b] => q a*q b
 | 5,[a] => -q a
 | 6,[a,b] => q a / q b
 | 7,[a,b,i,j] => if Vb (q a)=σ i∧Vb (q b)=σ j then 0 else 1
 | 8,i :: xs => (xs.map q).getD i 0*fac (xs.map q)
 | 9,[a] => ((q a).num : Rat)
 | 10,[a] => (((q a).den : Int) : Rat)
 | 11,[a,b] => ((flq (q a / q b) : Int) : Rat)
 | _,_ => 0
theorem Tq {op : Nat} {ar : List Nat} : ∀ {ns : List Nd} {i k : Nat},FG op ar i ns=some k→i≤k∧ns[k - i]? = some (op,ar)
 | [],_,_,h => by cases h
 | (p,bs) :: ns,i,k,h => by
  unfold FG at h
  cases e : (Nat.beq op p && It ar bs) with
  | true =>
   rw [e] at h
   cases h
   rw [Bool.and_eq_true,Nat.beq_eq] at e
   rw [e.1,Og e.2]
   exact ⟨Nat.le_refl _,by simp⟩
  | false =>
   rw [e] at h
   obtain ⟨h1,h2⟩ := Tq (ns := ns) h
   refine ⟨by omega,?_⟩
   rw [show k - i=k - (i+1)+1 by omega]
   simpa using h2
def eqS : List (TypeId × Nat) := [(41,2),(43,3)]
abbrev sx (P : Program) (N : List Nd) (H : List (Nat × Nat × Nat × Nat)) (K : List (FuncId × List AC)) (L C : List (List Nat × Nat)) (Z : List Nat) (pr : List (FuncId × Nat)) : Sx := { P := P,N := N,H := H,K := K,L := L,pr := pr,nb := nbS,eqT := eqS,Z := Z,C := C }
def QY (w : World) : Prop := Tab w∧MaxL w
structure Hy (N : List Nd) (H : List (Nat × Nat × Nat × Nat)) (L C : List (List Nat × Nat)) (Z : List Nat) (q : Nat→Rat) (σ : Nat→ByteArray) : Prop where
 nat : ∀ a nd,N[a]? = some nd→q a=VY σ q nd
 qs : ∀ a,QS 1000000000000 (q a)
 zs : ∀ a z,Z[a]? = some z→QS z (q a)
 par : ∀ j,(σ j).size≤1048576
 lit : ∀ s b,YC (Jv s) L=some b→q b=rd s.data.toList∧s.size≤4294967280
 k0 : ∀ a r,Vk 0 a 0 H=some r→(Nat.beq 1 r=true ↔ q a=0)
 k1 : ∀ a r,Vk 1 a 0 H=some r→(Nat.beq 1 r=true ↔ q a < 0)
 k2 : ∀ a r,Vk 2 a 0 H=some r→(Nat.beq 1 r=true ↔ 0 < q a)
 k4 : ∀ l a b r,YC l C=some b→Vk 4 a b H=some r→(Nat.beq 1 r=true ↔ Jv (Vb (q a))=l)
 k3 : ∀ a b r,Vk 3 a b H=some r→(Nat.beq 1 r=true ↔ q a=q b)
 k6 : ∀ a b r,Vk 6 a b H=some r→(Nat.beq 1 r=true ↔ (q a=0∧q b=0))
 k5 : ∀ a r,Vk 5 a 0 H=some r→(r=0→q a < 0)∧(r=1→q a=0)∧(r=2→0 < q a)
section
variable {N : List Nd} {H : List (Nat × Nat × Nat × Nat)} {K : List (FuncId × List AC)} {L C : List (List Nat × Nat)} {Z : List Nat} {pr : List (FuncId × Nat)} {q : Nat→Rat} {σ : Nat→ByteArray} {w0 : World}
theorem Hy.nd (Y : Hy N H L C Z q σ) {op : Nat} {ar : List Nat} {i : Nat} (h : (sx Tryz.prog N H K L C Z pr).nd op ar=some i) : q i=VY σ q (op,ar) := by
 obtain ⟨_,h2⟩ := Tq h
 rw [Nat.sub_zero] at h2
 exact Y.nat i _ h2
theorem Hy.zero (Y : Hy N H L C Z q σ) : ∀ i,(sx Tryz.prog N H K L C Z pr).nd 0 [0,0,1]=some i→q i=0 := fun i h => by
 rw [Y.nd h]
 show (if (0 : Nat)=0 then mkRat ((0 : Nat) : Int) 1 else mkRat (-((0 : Nat) : Int)) 1)=0
 decide +kernel
theorem cut_app {us rs : List Value} {o n : Nat} (h : o+n≤us.length) : ((us ++ rs).drop o).take n=(us.drop o).take n := by
 rw [List.drop_append_of_le_length (by omega),List.take_append_of_le_length (by rw [List.length_drop]; omega)]
def ZH (N : List Nd) (H : List (Nat × Nat × Nat × Nat)) (K : List (FuncId × List AC)) (L C : List (List Nat × Nat)) (Z : List Nat) (pr : List (FuncId × Nat)) (q : Nat→Rat) (σ : Nat→ByteArray) (w0 : World) (c : Nat) (f : FuncId) : Prop :=
 ∀ args h nx p,Cd (sx Tryz.prog N H K L C Z pr) h nx c args=some p→∀ (γ : Nat→Option Nat) (w : World) (vs : List Value),WI w0 γ w→A2 (avOn (cOn (evS q σ) K γ w)) args vs→(∀ x ∈ h,x.1 ∈ p.2.1→boxOn (evS q σ) K γ w x)→(∀ b,nx≤b→b < p.2.2.2→γ b=none) →
  Calls Tryz.prog f vs.toArray w fun e w' => ∃ r γ',e=.returned r∧Ef nbS w0 [] nx p.2.2.2 γ w γ' w'∧avOn (cOn (evS q σ) K γ' w') p.1 r∧∀ x ∈ p.2.2.1,boxOn (evS q σ) K γ' w' x
theorem Zf {c : Nat} {f : FuncId} {F : List AV→Option AV} (hF : ∀ h nx args,Cd (sx Tryz.prog N H K L C Z pr) h nx c args=Jl nx (F args))
  (hc : ∀ args v,F args=some v→∀ (γ : Nat→Option Nat) (w : World) (vs : List Value),WI w0 γ w→A2 (avOn (cOn (evS q σ) K γ w)) args vs→Calls Tryz.prog f vs.toArray w fun e w' => Below w.heap.size w w'∧∃ r,e=.returned r∧avOn (cOn (evS q σ) K γ w') v r) : ZH N H K L C Z pr q σ w0 c f := by
 intro args h nx p hp γ w vs hi hA _ _
 rw [hF] at hp
 unfold Jl at hp
 rw [Option.map_eq_some_iff] at hp
 obtain ⟨v,h1,rfl⟩ := hp
 refine (hc args v h1 γ w vs hi hA).mono ?_
 rintro _ w' ⟨hb,r,rfl,hr⟩
 exact ⟨r,γ,rfl,Ef.pure hi hb _ _ _ YE,hr,fun x hx => by cases hx⟩
theorem GA {c : Nat} {f : FuncId} {F : Nat→List AC→Option AV} {z : Nat} (hF : ∀ h nx args p,Cd (sx Tryz.prog N H K L C Z pr) h nx c args=some p→∃ x b cs v,args=[x]∧Ry h z x=some (b,cs)∧F b cs=some v∧p=(v,[b],[],nx))
  (hc : ∀ b cs v,F b cs=some v→∀ (γ : Nat→Option Nat) (w : World) (G o n cap : Nat) (vs : List Value) (t : TypeId),WI w0 γ w→Bk w G vs t→o+n*z≤vs.length→A2 (cOn (evS q σ) K γ w) cs ((vs.drop o).take (n*z))→Calls Tryz.prog f #[.slice (some ⟨G,o,none⟩) n cap] w fun e w' => Below w.heap.size w w'∧∃ r,e=.returned r∧avOn (cOn (evS q σ) K γ w') v r) : ZH N H K L C Z pr q σ w0 c f := by
 intro args h nx p hp γ w vs hi hA hb _
 obtain ⟨x,b,cs,v,rfl,h1,h2,rfl⟩ := hF h nx args p hp
 match vs,hA with
 | [u],⟨hu,_⟩ =>
  unfold Ry at h1
  simp only [Option.bind_eq_some_iff,ifO_some,Nat.ble_eq] at h1
  obtain ⟨s,g1,ds,g2,g3,g4⟩ := h1
  cases g4
  obtain ⟨G,cap,hG,rfl⟩ := Kv g1 hu
  obtain ⟨G',us,t,k1,_,⟨rs,k2,_⟩,k3,k4⟩ := hb (s.1,ds) (ZG g2) List.mem_cons_self
  have hul : us.length=ds.length := k4.len
  rw [hG] at k1
  cases k1
  refine (hc _ _ v h2 γ w G s.2.1 s.2.2 cap (us ++ rs) t hi k2 (by rw [List.length_append]; omega) (by rw [cut_app (by omega)]; exact (k4.drop _).take _)).mono ?_
  rintro _ w' ⟨hb,r,rfl,hr⟩
  exact ⟨r,γ,rfl,Ef.pure hi hb _ _ _ YE,hr,fun x hx => by cases hx⟩
theorem Ja {α : Type} {f : AV→Option α} {args : List AV} {r : α} (h : arg1 f args=some r) : ∃ x,args=[x]∧f x=some r := by
 unfold arg1 at h
 split at h
 ·exact ⟨_,rfl,h⟩
 ·cases h
theorem JT {α : Type} {f : AV→AV→Option α} {args : List AV} {r : α} (h : OU f args=some r) : ∃ x y,args=[x,y]∧f x y=some r := by
 unfold OU at h
 split at h
 ·exact ⟨_,_,rfl,h⟩
 ·cases h
theorem Oy {k u : Nat} (h : u < 2 ^ k) : Lib.nDigits u≤k / 3+1 := by
 induction u using Nat.strongRecOn generalizing k with
 | ind u ih =>
  by_cases h10 : u < 10
  ·rw [Lib.nDigits_small h10]; omega
  ·rw [Lib.nDigits_big h10]
   match k,h with
   | 0,h => simp at h; omega
   | 1,h => simp at h; omega
   | 2,h => simp at h; omega
   | k+3,h =>
    have := ih (u / 10) (by omega) (k := k) (by rw [Nat.pow_succ,Nat.pow_succ,Nat.pow_succ] at h; omega)
    omega
theorem tx_len3 {k : Nat} {q : Rat} (h : QS k q) : (tx q).length≤2*(k / 3)+4 := by
 unfold tx
 rw [List.length_append,List.length_append,Lib.decDigits_length]
 have h1 := Oy h.num
 have h2 := Oy h.den
 have h3 : (if q.num < 0 then ([45] : List UInt8) else []).length≤1 := by split <;> simp
 have h4 : (if q.den=1 then [] else 47 :: Lib.decDigits q.den).length≤k / 3+2 := by
  split
  ·simp
  ·rw [List.length_cons,Lib.decDigits_length]; omega
 omega
theorem tx_on (Y : Hy N H L C Z q σ) {γ : Nat→Option Nat} {w : World} {c : AC} {a : Nat} {v : Value} (h : FU (sx Tryz.prog N H K L C Z pr) c=some a) (hc : cOn (evS q σ) K γ w c v) : ∃ s : ByteArray,v=.string s∧rd s.data.toList=q a∧s.size≤4294967280 := by
 unfold FU at h
 split at h
 ·rename_i b hb
  rw [ifO_some] at h
  obtain ⟨h1,h2⟩ := h
  cases h2
  have hv : v=.string (Vb (q a)) := by
   unfold JV at hb
   split at hb
   ·rw [ifO_some,Nat.beq_eq] at hb
    obtain ⟨e1,e2⟩ := hb
    cases e2
    subst e1
    exact hc
   ·cases hb
  refine ⟨_,hv,?_,?_⟩
  ·show rd (tx (q a)).toArray.toList=_
   rw [List.toList_toArray,Gd]
  ·unfold zOk at h1
   split at h1
   ·rename_i z hz
    rw [Nat.ble_eq] at h1
    have := tx_len3 (Y.zs a z hz)
    show (tx (q a)).toArray.size≤_
    rw [List.size_toArray]
    omega
   ·cases h1
 ·split at h
  ·rename_i j hj
   have hv : v=.string (σ j) := by
    unfold PM at hj
    split at hj
    ·rw [ifO_some,Nat.beq_eq] at hj
     obtain ⟨e1,e2⟩ := hj
     cases e2
     subst e1
     exact hc
    ·cases hj
   refine ⟨_,hv,?_,Nat.le_trans (Y.par j) (by decide)⟩
   rw [Y.nd h]
   rfl
  ·rw [Option.bind_eq_some_iff] at h
   obtain ⟨s,h1,h2⟩ := h
   have hv : v=.string s := by
    unfold II at h1
    split at h1
    ·cases h1
     exact hc.1
    ·cases h1
   obtain ⟨e1,e2⟩ := Y.lit s a h2
   exact ⟨s,hv,e1.symm,e2⟩
theorem Oa (Y : Hy N H L C Z q σ) {z : Int} {a : Nat} (h : Rc (sx Tryz.prog N H K L C Z pr) z=some a) : q a=(z : Rat) := by
 cases z with
 | ofNat n =>
  rw [Y.nd (K := K) (pr := pr) h]
  show (if (0 : Nat)=0 then mkRat (n : Int) 1 else mkRat (-(n : Int)) 1)=_
  rw [if_pos rfl,Rat.mkRat_one]
  rfl
 | negSucc n =>
  rw [Y.nd (K := K) (pr := pr) h]
  show (if (1 : Nat)=0 then mkRat ((n+1 : Nat) : Int) 1 else mkRat (-((n+1 : Nat) : Int)) 1)=_
  rw [if_neg (by decide),Rat.mkRat_one]
  rfl
theorem Ot (Y : Hy N H L C Z q σ) {op : Nat} {g : Rat→Rat→Rat} (hg : ∀ a b,VY σ q (op,[a,b])=g (q a) (q b)) : ∀ {l : List Nat} {a c : Nat},Ej (sx Tryz.prog N H K L C Z pr) op a l=some c→q c=(l.map q).foldl g (q a)
 | [],a,c,h => by
  cases h
  rfl
 | b :: l,a,c,h => by
  unfold Ej at h
  rw [Option.bind_eq_some_iff] at h
  obtain ⟨d,h1,h2⟩ := h
  rw [Ot Y hg h2,Y.nd h1,hg]
  rfl
theorem MS (Y : Hy N H L C Z q σ) {γ : Nat→Option Nat} {w : World} {S : Sx} (hS : S=sx Tryz.prog N H K L C Z pr) : ∀ {cs : List AC} {l : List Nat} {vs : List Value},Bl S cs=some l→A2 (cOn (evS q σ) K γ w) cs vs→vs.length=l.length*3∧∀ (j : Nat) (hj : j < l.length),∃ c : C3,vs[j*3]? = some (.bool c.n)∧vs[j*3+1]? = some (.slice c.u c.nu c.cu)∧vs[j*3+2]? = some (.slice c.l c.nl c.cl)∧QV w (.agg #[.bool c.n,.slice c.u c.nu c.cu,.slice c.l c.nl c.cl]) (q l[j])
 | [],l,vs,h,hA => by
  cases h
  match vs,hA with
  | [],_ => exact ⟨rfl,fun j hj => absurd hj (Nat.not_lt_zero _)⟩
 | a :: b :: c :: cs,l,vs,h,hA => by
  unfold Bl at h
  simp only [Option.bind_eq_some_iff,Option.map_eq_some_iff] at h
  obtain ⟨i,h1,l',h2,rfl⟩ := h
  match vs,hA with
  | x :: y :: z :: vs,⟨g1,g2,g3,g4⟩ =>
   obtain ⟨e1,e2⟩ := MS Y hS h2 g4
   have hq := (CL (q := q) (σ := σ) (K := K) (γ := γ) (w := w) (S := S) (cs := [a,b,c]) (vs := [x,y,z]) (by rw [hS]; exact Y.zero) h1 ⟨g1,g2,g3,trivial⟩).1
   refine ⟨by simp [e1,Nat.succ_mul],fun j hj => ?_⟩
   cases j with
   | zero =>
    obtain ⟨cc,ec⟩ := YD hq
    injection ec with ec
    have ec : [x,y,z]=[.bool cc.n,.slice cc.u cc.nu cc.cu,.slice cc.l cc.nl cc.cl] := by simpa using congrArg Array.toList ec
    injection ec with x1 ec
    injection ec with x2 ec
    injection ec with x3 ec
    subst x1 x2 x3
    exact ⟨cc,rfl,rfl,rfl,hq⟩
   | succ j =>
    obtain ⟨cc,k0,k1,k2,k3⟩ := e2 j (by simpa using hj)
    refine ⟨cc,?_,?_,?_,k3⟩
    ·rw [show (j+1)*3=j*3+3 by omega]; simpa using k0
    ·rw [show (j+1)*3+1=(j*3+1)+3 by omega]; simpa using k1
    ·rw [show (j+1)*3+2=(j*3+2)+3 by omega]; simpa using k2
 | [_],_,_,h,_ => by cases h
 | [_,_],_,_,h,_ => by cases h
theorem Kj {w : World} {G o n : Nat} {vs : List Value} {t : TypeId} {v : Value} {j : Nat} (hk : Bk w G vs t) (hv : ((vs.drop o).take n)[j]? = some v) : w.cell? ⟨G,o+j,none⟩=some v := by
 rw [hk.cell]
 rw [List.getElem?_take] at hv
 split at hv
 ·rwa [List.getElem?_drop] at hv
 ·cases hv
theorem qrow_at (Y : Hy N H L C Z q σ) {γ : Nat→Option Nat} {w : World} {cs : List AC} {l : List Nat} {vs : List Value} {G o n cap : Nat} {t : TypeId} (hl : Bl (sx Tryz.prog N H K L C Z pr) cs=some l) (hk : Bk w G vs t) (hn : o+n*3≤vs.length) (hA : A2 (cOn (evS q σ) K γ w) cs ((vs.drop o).take (n*3))) : n=l.length∧QRow w (.slice (some ⟨G,o,none⟩) (l.map q).length cap) (l.map q) := by
 obtain ⟨e1,e2⟩ := MS Y rfl hl hA
 have hnl : n=l.length := by
  rw [List.length_take,List.length_drop] at e1
  omega
 refine ⟨hnl,G,o,cap,rfl,hk.lt,fun j hj => ?_⟩
 rw [List.length_map] at hj
 obtain ⟨c,k0,k1,k2,k3⟩ := e2 j hj
 refine ⟨c,Kj hk k0,?_,?_,by rw [List.getElem_map]; exact k3⟩
 ·rw [Nat.add_assoc]; exact Kj hk k1
 ·rw [Nat.add_assoc]; exact Kj hk k2
theorem MY {γ : Nat→Option Nat} {w : World} : ∀ {cs : List AC} {l : List Nat} {vs : List Value},Jc (acX 0) cs=some l→A2 (cOn (evS q σ) K γ w) cs vs→vs.length=l.length∧∀ (j : Nat) (hj : j < l.length),∃ p,vs[j]? = some p∧PR w p (q l[j])
 | [],l,vs,h,hA => by
  cases h
  match vs,hA with
  | [],_ => exact ⟨rfl,fun j hj => absurd hj (Nat.not_lt_zero _)⟩
 | a :: cs,l,vs,h,hA => by
  unfold Jc at h
  simp only [Option.bind_eq_some_iff,Option.map_eq_some_iff] at h
  obtain ⟨i,h1,l',h2,rfl⟩ := h
  match vs,hA with
  | x :: vs,⟨g1,g2⟩ =>
   obtain ⟨e1,e2⟩ := MY h2 g2
   refine ⟨by simp [e1],fun j hj => ?_⟩
   cases j with
   | zero => exact ⟨x,rfl,Uh (E := evS q σ) h1 g1⟩
   | succ j => simpa using e2 j (by simpa using hj)
theorem MX {γ : Nat→Option Nat} {w : World} {cs : List AC} {l : List Nat} {vs : List Value} {G o n cap : Nat} {t : TypeId} (hl : Jc (acX 0) cs=some l) (hk : Bk w G vs t) (hn : o+n*1≤vs.length) (hA : A2 (cOn (evS q σ) K γ w) cs ((vs.drop o).take (n*1))) : n=l.length∧MO w (.slice (some ⟨G,o,none⟩) (l.map q).length cap) (l.map q) := by
 obtain ⟨e1,e2⟩ := MY hl hA
 have hnl : n=l.length := by
  rw [List.length_take,List.length_drop] at e1
  omega
 refine ⟨hnl,G,o,cap,rfl,hk.lt,fun j hj => ?_⟩
 rw [List.length_map] at hj
 obtain ⟨p,k0,k1⟩ := e2 j hj
 exact ⟨p,Kj hk k0,by rw [List.getElem_map]; exact k1⟩
theorem Pm (a : Rat) (l : List Rat) : rsum (a :: l)=l.foldl (fun a b => a+b) a := by
 show l.foldl _ (0+a)=_
 rw [Rat.zero_add]
theorem Mi (a : Rat) (l : List Rat) : rprod (a :: l)=l.foldl (fun a b => a*b) a := by
 show l.foldl _ (1*a)=_
 rw [Rat.one_mul]
theorem prim_0 (Y : Hy N H L C Z q σ) (hp : QY w0) : ZH N H K L C Z pr q σ w0 0 45 := by
 refine Zf (fun _ _ _ => rfl) fun args v hv γ w vs hi hA => ?_
 have hpre : QY w := ⟨hp.1.below hi.bel,hp.2.below hi.bel⟩
 obtain ⟨x,rfl,hx⟩ := Ja hv
 replace hv := hx
 clear hx
 match vs,hA with
 | [u],⟨hu,_⟩ =>
  simp only [Option.bind_eq_some_iff,Option.map_eq_some_iff] at hv
  obtain ⟨c,h1,a,h2,rfl⟩ := hv
  obtain ⟨s,rfl,e1,e2⟩ := tx_on Y h2 (Zg h1 hu)
  refine (KC s w (Nat.le_trans e2 (by decide))).mono ?_
  rintro _ w' ⟨hb,v,rfl,hq⟩
  rw [e1] at hq
  exact ⟨hb,_,rfl,GY hq⟩
theorem prim_1 (Y : Hy N H L C Z q σ) (hp : QY w0) : ZH N H K L C Z pr q σ w0 1 32 := by
 refine Zf (fun _ _ _ => rfl) fun args v hv γ w vs hi hA => ?_
 have hpre : QY w := ⟨hp.1.below hi.bel,hp.2.below hi.bel⟩
 obtain ⟨x,rfl,hx⟩ := Ja hv
 replace hv := hx
 clear hx
 match vs,hA with
 | [u],⟨hu,_⟩ =>
  rw [Option.map_eq_some_iff] at hv
  obtain ⟨a,h1,rfl⟩ := hv
  refine (Wn (YL Y.zero h1 hu) (Y.qs a) (by decide) hpre.1).mono ?_
  rintro _ w' ⟨hb,s,rfl,hs⟩
  exact ⟨hb,_,rfl,t_on hs⟩
theorem prim_2 (Y : Hy N H L C Z q σ) (hp : QY w0) : ZH N H K L C Z pr q σ w0 2 73 := by
 refine Zf (fun _ _ _ => rfl) fun args v hv γ w vs hi hA => ?_
 have hpre : QY w := ⟨hp.1.below hi.bel,hp.2.below hi.bel⟩
 obtain ⟨x,y,rfl,hx⟩ := JT hv
 replace hv := hx
 clear hx
 match vs,hA with
 | [u,t],⟨hu,ht,_⟩ =>
  unfold q2B at hv
  simp only [Option.bind_eq_some_iff,Option.map_eq_some_iff] at hv
  obtain ⟨a,h1,b,h2,i,h3,rfl⟩ := hv
  refine (Ih (YL Y.zero h1 hu) (YL Y.zero h2 ht) (Y.qs a) (Y.qs b) (by decide)).mono ?_
  rintro _ w' ⟨hb,v,rfl,hq⟩
  refine ⟨hb,_,rfl,GY ?_⟩
  rw [Y.nd h3]
  exact hq
theorem prim_3 (Y : Hy N H L C Z q σ) (hp : QY w0) : ZH N H K L C Z pr q σ w0 3 124 := by
 refine Zf (fun _ _ _ => rfl) fun args v hv γ w vs hi hA => ?_
 have hpre : QY w := ⟨hp.1.below hi.bel,hp.2.below hi.bel⟩
 obtain ⟨x,y,rfl,hx⟩ := JT hv
 replace hv := hx
 clear hx
 match vs,hA with
 | [u,t],⟨hu,ht,_⟩ =>
  unfold q2B at hv
  simp only [Option.bind_eq_some_iff,Option.map_eq_some_iff] at hv
  obtain ⟨a,h1,b,h2,i,h3,rfl⟩ := hv
  refine (TK (YL Y.zero h1 hu) (YL Y.zero h2 ht) (Y.qs a) (Y.qs b) (by decide)).mono ?_
  rintro _ w' ⟨hb,v,rfl,hq⟩
  refine ⟨hb,_,rfl,GY ?_⟩
  rw [Y.nd h3]
  exact hq
theorem prim_4 (Y : Hy N H L C Z q σ) (hp : QY w0) : ZH N H K L C Z pr q σ w0 4 48 := by
 refine Zf (fun _ _ _ => rfl) fun args v hv γ w vs hi hA => ?_
 have hpre : QY w := ⟨hp.1.below hi.bel,hp.2.below hi.bel⟩
 obtain ⟨x,y,rfl,hx⟩ := JT hv
 replace hv := hx
 clear hx
 match vs,hA with
 | [u,t],⟨hu,ht,_⟩ =>
  unfold q2B at hv
  simp only [Option.bind_eq_some_iff,Option.map_eq_some_iff] at hv
  obtain ⟨a,h1,b,h2,i,h3,rfl⟩ := hv
  refine (WJ (YL Y.zero h1 hu) (YL Y.zero h2 ht) (Y.qs a) (Y.qs b) (by decide)).mono ?_
  rintro _ w' ⟨hb,v,rfl,hq⟩
  refine ⟨hb,_,rfl,GY ?_⟩
  rw [Y.nd h3]
  exact hq
theorem prim_5 (Y : Hy N H L C Z q σ) (hp : QY w0) : ZH N H K L C Z pr q σ w0 5 47 := by
 refine Zf (fun _ _ _ => rfl) fun args v hv γ w vs hi hA => ?_
 have hpre : QY w := ⟨hp.1.below hi.bel,hp.2.below hi.bel⟩
 obtain ⟨x,y,rfl,hx⟩ := JT hv
 replace hv := hx
 clear hx
 match vs,hA with
 | [u,t],⟨hu,ht,_⟩ =>
  unfold q2B at hv
  simp only [Option.bind_eq_some_iff,Option.map_eq_some_iff] at hv
  obtain ⟨a,h1,b,h2,i,h3,rfl⟩ := hv
  refine (Ta (YL Y.zero h1 hu) (YL Y.zero h2 ht) (Y.qs a) (Y.qs b) (by decide)).mono ?_
  rintro _ w' ⟨hb,v,rfl,hq⟩
  refine ⟨hb,_,rfl,GY ?_⟩
  rw [Y.nd h3]
  exact hq
theorem prim_6 (Y : Hy N H L C Z q σ) (hp : QY w0) : ZH N H K L C Z pr q σ w0 6 161 := by
 refine Zf (fun _ _ _ => rfl) fun args v hv γ w vs hi hA => ?_
 have hpre : QY w := ⟨hp.1.below hi.bel,hp.2.below hi.bel⟩
 obtain ⟨x,rfl,hx⟩ := Ja hv
 replace hv := hx
 clear hx
 match vs,hA with
 | [u],⟨hu,_⟩ =>
  simp only [Option.bind_eq_some_iff,Option.map_eq_some_iff] at hv
  obtain ⟨a,h1,i,h3,rfl⟩ := hv
  refine (Wy (YL Y.zero h1 hu)).mono ?_
  rintro _ w' ⟨hb,v,rfl,hq⟩
  refine ⟨hb,_,rfl,GY ?_⟩
  rw [Y.nd h3]
  exact hq
theorem prim_7 (Y : Hy N H L C Z q σ) (hp : QY w0) : ZH N H K L C Z pr q σ w0 7 77 := by
 refine Zf (fun _ _ _ => rfl) fun args v hv γ w vs hi hA => ?_
 have hpre : QY w := ⟨hp.1.below hi.bel,hp.2.below hi.bel⟩
 obtain ⟨x,rfl,hx⟩ := Ja hv
 replace hv := hx
 clear hx
 match vs,hA with
 | [u],⟨hu,_⟩ =>
  rw [Option.map_eq_some_iff] at hv
  obtain ⟨a,h1,rfl⟩ := hv
  refine (Il (YL Y.zero h1 hu)).mono ?_
  rintro _ w' ⟨hb,rfl⟩
  refine ⟨hb,_,rfl,?_⟩
  rw [← Sy]
  exact Ly (Y.k5 a)
theorem prim_8 (Y : Hy N H L C Z q σ) (hp : QY w0) : ZH N H K L C Z pr q σ w0 8 28 := by
 refine Zf (fun _ _ _ => rfl) fun args v hv γ w vs hi hA => ?_
 have hpre : QY w := ⟨hp.1.below hi.bel,hp.2.below hi.bel⟩
 obtain ⟨x,rfl,hx⟩ := Ja hv
 replace hv := hx
 clear hx
 match vs,hA with
 | [u],⟨hu,_⟩ =>
  simp only [Option.bind_eq_some_iff,Option.map_eq_some_iff,ifO_some,Bool.and_eq_true,decide_eq_true_eq] at hv
  obtain ⟨z,h1,h2,a,h3,rfl⟩ := hv
  obtain rfl := Vy h1 hu
  refine (OY z h2.1 h2.2 w).mono ?_
  rintro _ w' ⟨hb,v,rfl,hq⟩
  refine ⟨hb,_,rfl,GY ?_⟩
  rw [Oa Y h3]
  exact hq
theorem Ge (Y : Hy N H L C Z q σ) {a n : Nat} (h : Dz (sx Tryz.prog N H K L C Z pr) a=some n) : q a=(n : Rat)∧n < 4611686018427387904 := by
 unfold Dz at h
 split at h
 ·rename_i op s m d hN
  simp only [ifO_some,Bool.and_eq_true,Nat.beq_eq] at h
  obtain ⟨⟨⟨h1,h2⟩,h3,h4⟩,h5⟩ := h
  cases h5
  subst h1 h2 h3
  refine ⟨?_,Nat.lt_of_lt_of_le (Nat.lt_succ_self n) (Nat.le_of_ble_eq_true h4)⟩
  rw [Y.nat a _ hN]
  show (if (0 : Nat)=0 then mkRat (n : Int) 1 else mkRat (-(n : Int)) 1)=_
  rw [if_pos rfl]
  exact Rat.mkRat_one _
 ·cases h
theorem KW (Y : Hy N H L C Z q σ) {a n : Nat} : ∀ {hs : List (Nat × Nat × Nat × Nat)},DL (sx Tryz.prog N H K L C Z pr) a hs=some n→q a=(n : Rat)∧n < 4611686018427387904
 | [],h => by cases h
 | (k,b,c,r0) :: hs,h => by
  unfold DL at h
  cases e : (Nat.beq k 3 && Nat.beq a b) with
  | true =>
   rw [e] at h
   dsimp only [cond] at h
   split at h
   ·rename_i r hr
    rw [ifO_some] at h
    have h1 := (Y.k3 a c r hr).1 h.1
    have h2 := Ge (K := K) (pr := pr) Y h.2
    rw [h1]
    exact h2
   ·cases h
  | false =>
   rw [e] at h
   exact KW Y h
theorem Mn (Y : Hy N H L C Z q σ) {a n : Nat} (h : MC (sx Tryz.prog N H K L C Z pr) a=some n) : q a=(n : Rat)∧n < 4611686018427387904 := by
 unfold MC at h
 split at h
 ·rename_i m hm
  cases h
  exact Ge (K := K) (pr := pr) Y hm
 ·exact KW (K := K) (pr := pr) Y h
theorem prim_12 (Y : Hy N H L C Z q σ) (hp : QY w0) : ZH N H K L C Z pr q σ w0 12 125 := by
 refine Zf (fun _ _ _ => rfl) fun args v hv γ w vs hi hA => ?_
 have hpre : QY w := ⟨hp.1.below hi.bel,hp.2.below hi.bel⟩
 obtain ⟨x,rfl,hx⟩ := Ja hv
 replace hv := hx
 clear hx
 match vs,hA with
 | [u],⟨hu,_⟩ =>
  simp only [Option.bind_eq_some_iff,Option.map_eq_some_iff] at hv
  obtain ⟨a,h1,n,h2,rfl⟩ := hv
  obtain ⟨e1,e2⟩ := Mn Y h2
  refine (NT (by rw [← e1]; exact YL Y.zero h1 hu) e2).mono ?_
  rintro _ w' ⟨hb,rfl⟩
  exact ⟨hb,_,rfl,⟨[.int .i64 n,.bool true],rfl,⟨⟨rfl,rfl⟩,trivial⟩,⟨⟨rfl,rfl⟩,trivial⟩,trivial⟩⟩
theorem prim_13 (Y : Hy N H L C Z q σ) (hp : QY w0) : ZH N H K L C Z pr q σ w0 13 129 := by
 refine Zf (fun _ _ _ => rfl) fun args v hv γ w vs hi hA => ?_
 have hpre : QY w := ⟨hp.1.below hi.bel,hp.2.below hi.bel⟩
 obtain ⟨x,y,rfl,hx⟩ := JT hv
 replace hv := hx
 clear hx
 match vs,hA with
 | [u,t],⟨hu,ht,_⟩ =>
  unfold q2B at hv
  simp only [Option.bind_eq_some_iff,Option.map_eq_some_iff] at hv
  obtain ⟨a,h1,b,h2,i,h3,rfl⟩ := hv
  refine (Fa (YL Y.zero h1 hu) (YL Y.zero h2 ht) (Y.qs a) (Y.qs b) (by decide)).mono ?_
  rintro _ w' ⟨hb,v,rfl,hq⟩
  refine ⟨hb,_,rfl,GY ?_⟩
  rw [Y.nd h3]
  exact hq
theorem Bh {γ : Nat→Option Nat} {w : World} {i : Nat} {v : Value} (h : QV w v (q i)) : a1On (cOn (evS q σ) K γ w) (true,Gu i) v := (GY (K := K) (γ := γ) h).1
theorem prim_14 (Y : Hy N H L C Z q σ) (hp : QY w0) : ZH N H K L C Z pr q σ w0 14 46 := by
 refine Zf (fun _ _ _ => rfl) fun args v hv γ w vs hi hA => ?_
 have hpre : QY w := ⟨hp.1.below hi.bel,hp.2.below hi.bel⟩
 obtain ⟨x,rfl,hx⟩ := Ja hv
 replace hv := hx
 clear hx
 match vs,hA with
 | [u],⟨hu,_⟩ =>
  simp only [Option.bind_eq_some_iff,Option.map_eq_some_iff] at hv
  obtain ⟨a,h1,b,h2,c,h3,rfl⟩ := hv
  refine (Cw (YL Y.zero h1 hu)).mono ?_
  rintro _ w' ⟨hb,v1,v2,rfl,q1,q2⟩
  refine ⟨hb,_,rfl,[v1,v2],rfl,Bh (by rw [Y.nd h2]; exact q1),Bh (by rw [Y.nd h3]; exact q2),trivial⟩
theorem prim_15 (Y : Hy N H L C Z q σ) (hp : QY w0) : ZH N H K L C Z pr q σ w0 15 123 := by
 refine Zf (fun _ _ _ => rfl) fun args v hv γ w vs hi hA => ?_
 have hpre : QY w := ⟨hp.1.below hi.bel,hp.2.below hi.bel⟩
 obtain ⟨x,y,rfl,hx⟩ := JT hv
 replace hv := hx
 clear hx
 match vs,hA with
 | [u,t],⟨hu,ht,_⟩ =>
  simp only [Option.bind_eq_some_iff,Option.map_eq_some_iff] at hv
  obtain ⟨a,h1,b,h2,i,h3,rfl⟩ := hv
  refine (GB (YL Y.zero h1 hu) (YL Y.zero h2 ht) (Y.qs a) (Y.qs b) (by decide)).mono ?_
  rintro _ w' ⟨hb,rfl⟩
  refine ⟨hb,_,rfl,?_⟩
  rw [show q a - q b=q i from (Y.nd h3).symm]
  exact Ly (Y.k5 i)
theorem prim_9 (Y : Hy N H L C Z q σ) (hp : QY w0) : ZH N H K L C Z pr q σ w0 9 162 := by
 refine GA (z := 3) (F := fun _ cs => (Bl (sx Tryz.prog N H K L C Z pr) cs).bind fun l => (RQ (sx Tryz.prog N H K L C Z pr) 2 l).bind fun a => ifO (Nat.ble l.length 20) (some (q1 a))) (fun h nx args p hp => ?_) fun b cs v hv γ w G o n cap vs t hi hk hn hA => ?_
 ·have hp : arg1 (fun x => (Ry h 3 x).bind fun p => _) args=some p := hp
  obtain ⟨x,rfl,hx⟩ := Ja hp
  replace hp := hx
  clear hx
  simp only [Option.bind_eq_some_iff,ifO_some] at hp
  obtain ⟨⟨b,cs⟩,h1,l,h2,a,h3,h4,h5⟩ := hp
  cases h5
  exact ⟨x,b,cs,q1 a,rfl,h1,by simp only [Option.bind_eq_some_iff,ifO_some]; exact ⟨l,h2,a,h3,h4,rfl⟩,rfl⟩
 ·have hpre : QY w := ⟨hp.1.below hi.bel,hp.2.below hi.bel⟩
  simp only [Option.bind_eq_some_iff,ifO_some,Nat.ble_eq] at hv
  obtain ⟨l,h2,a,h3,h4,h5⟩ := hv
  cases h5
  obtain ⟨rfl,hr⟩ := qrow_at Y h2 hk hn hA
  have hll : (l.map q).length=l.length := List.length_map ..
  rw [← hll]
  refine (Hg hr (K := 1000000000000) (fun x hx => by obtain ⟨i,_,rfl⟩ := List.mem_map.1 hx; exact Y.qs i) (by rw [hll]; omega) (by rw [hll]; omega)).mono ?_
  rintro _ w' ⟨hb,v,rfl,hq⟩
  refine ⟨hb,_,rfl,GY ?_⟩
  cases l with
  | nil => cases h3
  | cons i l =>
   rw [Ot (g := fun a b => a+b) Y (fun _ _ => rfl) h3]
   rw [List.map_cons,Pm] at hq
   exact hq
theorem prim_24 (Y : Hy N H L C Z q σ) (hp : QY w0) : ZH N H K L C Z pr q σ w0 24 9 := by
 refine GA (z := 1) (F := fun _ cs => (Jc (acX 0) cs).bind fun l => (RQ (sx Tryz.prog N H K L C Z pr) 2 l).bind fun a => ifO (Nat.ble l.length 20) (some (r1 a))) (fun h nx args p hp => ?_) fun b cs v hv γ w G o n cap vs t hi hk hn hA => ?_
 ·have hp : arg1 (fun x => (Ry h 1 x).bind fun p => _) args=some p := hp
  obtain ⟨x,rfl,hx⟩ := Ja hp
  replace hp := hx
  clear hx
  simp only [Option.bind_eq_some_iff,ifO_some] at hp
  obtain ⟨⟨b,cs⟩,h1,l,h2,a,h3,h4,h5⟩ := hp
  cases h5
  exact ⟨x,b,cs,r1 a,rfl,h1,by simp only [Option.bind_eq_some_iff,ifO_some]; exact ⟨l,h2,a,h3,h4,rfl⟩,rfl⟩
 ·have hpre : QY w := ⟨hp.1.below hi.bel,hp.2.below hi.bel⟩
  simp only [Option.bind_eq_some_iff,ifO_some,Nat.ble_eq] at hv
  obtain ⟨l,h2,a,h3,h4,h5⟩ := hv
  cases h5
  obtain ⟨rfl,hr⟩ := MX h2 hk hn hA
  have hll : (l.map q).length=l.length := List.length_map ..
  rw [← hll]
  refine (Wj hr (K := 1000000000000) (fun x hx => by obtain ⟨i,_,rfl⟩ := List.mem_map.1 hx; exact Y.qs i) (by rw [hll]; omega) (by rw [hll]; omega)).mono ?_
  rintro _ w' ⟨hb,v,rfl,hq⟩
  refine ⟨hb,_,rfl,Ns ?_⟩
  cases l with
  | nil => cases h3
  | cons i l =>
   rw [Ot (g := fun a b => a+b) Y (fun _ _ => rfl) h3]
   rw [List.map_cons,Pm] at hq
   exact hq
theorem prim_25 (Y : Hy N H L C Z q σ) (hp : QY w0) : ZH N H K L C Z pr q σ w0 25 14 := by
 refine GA (z := 1) (F := fun _ cs => (Jc (acX 0) cs).bind fun l => (RQ (sx Tryz.prog N H K L C Z pr) 4 l).bind fun a => ifO (Nat.ble l.length 20) (some (r1 a))) (fun h nx args p hp => ?_) fun b cs v hv γ w G o n cap vs t hi hk hn hA => ?_
 ·have hp : arg1 (fun x => (Ry h 1 x).bind fun p => _) args=some p := hp
  obtain ⟨x,rfl,hx⟩ := Ja hp
  replace hp := hx
  clear hx
  simp only [Option.bind_eq_some_iff,ifO_some] at hp
  obtain ⟨⟨b,cs⟩,h1,l,h2,a,h3,h4,h5⟩ := hp
  cases h5
  exact ⟨x,b,cs,r1 a,rfl,h1,by simp only [Option.bind_eq_some_iff,ifO_some]; exact ⟨l,h2,a,h3,h4,rfl⟩,rfl⟩
 ·have hpre : QY w := ⟨hp.1.below hi.bel,hp.2.below hi.bel⟩
  simp only [Option.bind_eq_some_iff,ifO_some,Nat.ble_eq] at hv
  obtain ⟨l,h2,a,h3,h4,h5⟩ := hv
  cases h5
  obtain ⟨rfl,hr⟩ := MX h2 hk hn hA
  have hll : (l.map q).length=l.length := List.length_map ..
  rw [← hll]
  refine (Ya hr (K := 1000000000000) (fun x hx => by obtain ⟨i,_,rfl⟩ := List.mem_map.1 hx; exact Y.qs i) (by rw [hll]; omega) (by rw [hll]; omega)).mono ?_
  rintro _ w' ⟨hb,v,rfl,hq⟩
  refine ⟨hb,_,rfl,Ns ?_⟩
  cases l with
  | nil => cases h3
  | cons i l =>
   rw [Ot (g := fun a b => a*b) Y (fun _ _ => rfl) h3]
   rw [List.map_cons,Mi] at hq
   exact hq
theorem prim_20 (Y : Hy N H L C Z q σ) (hp : QY w0) : ZH N H K L C Z pr q σ w0 20 13 := by
 refine Zf (fun _ _ _ => rfl) fun args v hv γ w vs hi hA => ?_
 have hpre : QY w := ⟨hp.1.below hi.bel,hp.2.below hi.bel⟩
 obtain ⟨x,rfl,hx⟩ := Ja hv
 replace hv := hx
 clear hx
 match vs,hA with
 | [u],⟨hu,_⟩ =>
  simp only [Option.bind_eq_some_iff,Option.map_eq_some_iff] at hv
  obtain ⟨c,h1,a,h2,rfl⟩ := hv
  obtain ⟨s,rfl,e1,e2⟩ := tx_on Y h2 (Zg h1 hu)
  refine (FT s w hpre.2 e2).mono ?_
  rintro _ w' ⟨hb,v,rfl,hq⟩
  rw [e1] at hq
  exact ⟨hb,_,rfl,Ns hq⟩
theorem prim_21 (Y : Hy N H L C Z q σ) (hp : QY w0) : ZH N H K L C Z pr q σ w0 21 11 := by
 refine Zf (fun _ _ _ => rfl) fun args v hv γ w vs hi hA => ?_
 have hpre : QY w := ⟨hp.1.below hi.bel,hp.2.below hi.bel⟩
 obtain ⟨x,rfl,hx⟩ := Ja hv
 replace hv := hx
 clear hx
 match vs,hA with
 | [u],⟨hu,_⟩ =>
  rw [Option.map_eq_some_iff] at hv
  obtain ⟨a,h1,rfl⟩ := hv
  obtain ⟨g,rfl,hg⟩ := IX (q := q) (σ := σ) h1 hu
  refine (Wc hg (Y.qs a) (by decide)).mono ?_
  rintro _ w' ⟨hb,rfl⟩
  exact ⟨hb,_,rfl,t_on (by simp)⟩
theorem prim_22 (Y : Hy N H L C Z q σ) (hp : QY w0) : ZH N H K L C Z pr q σ w0 22 7 := by
 refine Zf (fun _ _ _ => rfl) fun args v hv γ w vs hi hA => ?_
 have hpre : QY w := ⟨hp.1.below hi.bel,hp.2.below hi.bel⟩
 obtain ⟨x,rfl,hx⟩ := Ja hv
 replace hv := hx
 clear hx
 match vs,hA with
 | [u],⟨hu,_⟩ =>
  simp only [Option.bind_eq_some_iff,Option.map_eq_some_iff,ifO_some,Bool.and_eq_true,decide_eq_true_eq] at hv
  obtain ⟨z,h1,⟨h2,h4⟩,a,h3,rfl⟩ := hv
  obtain rfl := Vy h1 hu
  refine (SH z h2 h4 w).mono ?_
  rintro _ w' ⟨hb,g,rfl,_,hq⟩
  refine ⟨hb,_,rfl,Ns ?_⟩
  rw [Oa Y h3]
  exact ⟨g,rfl,hq⟩
theorem prim_26 (Y : Hy N H L C Z q σ) (hp : QY w0) : ZH N H K L C Z pr q σ w0 26 112 := by
 refine Zf (fun _ _ _ => rfl) fun args v hv γ w vs hi hA => ?_
 have hpre : QY w := ⟨hp.1.below hi.bel,hp.2.below hi.bel⟩
 obtain ⟨x,y,rfl,hx⟩ := JT hv
 replace hv := hx
 clear hx
 match vs,hA with
 | [u,t],⟨hu,ht,_⟩ =>
  unfold r2B at hv
  simp only [Option.bind_eq_some_iff,Option.map_eq_some_iff] at hv
  obtain ⟨a,h1,b,h2,i,h3,rfl⟩ := hv
  refine (UN (IX (q := q) (σ := σ) h1 hu) (IX (q := q) (σ := σ) h2 ht) (Y.qs a) (Y.qs b) (by decide)).mono ?_
  rintro _ w' ⟨hb,v,rfl,hq⟩
  refine ⟨hb,_,rfl,Ns ?_⟩
  rw [Y.nd h3]
  exact hq
theorem prim_27 (Y : Hy N H L C Z q σ) (hp : QY w0) : ZH N H K L C Z pr q σ w0 27 10 := by
 refine Zf (fun _ _ _ => rfl) fun args v hv γ w vs hi hA => ?_
 have hpre : QY w := ⟨hp.1.below hi.bel,hp.2.below hi.bel⟩
 obtain ⟨x,y,rfl,hx⟩ := JT hv
 replace hv := hx
 clear hx
 match vs,hA with
 | [u,t],⟨hu,ht,_⟩ =>
  unfold r2B at hv
  simp only [Option.bind_eq_some_iff,Option.map_eq_some_iff] at hv
  obtain ⟨a,h4,b,h1,i,h6,rfl⟩ := hv
  refine (TP (IX (q := q) (σ := σ) h4 hu) (IX (q := q) (σ := σ) h1 ht) (Y.qs a) (Y.qs b) (by decide)).mono ?_
  rintro _ w' ⟨hb,v,rfl,hq⟩
  refine ⟨hb,_,rfl,Ns ?_⟩
  rw [Y.nd h6]
  exact hq
theorem prim_29 (Y : Hy N H L C Z q σ) (hp : QY w0) : ZH N H K L C Z pr q σ w0 29 20 := by
 refine Zf (fun _ _ _ => rfl) fun args v hv γ w vs hi hA => ?_
 have hpre : QY w := ⟨hp.1.below hi.bel,hp.2.below hi.bel⟩
 obtain ⟨x,y,rfl,hx⟩ := JT hv
 replace hv := hx
 clear hx
 match vs,hA with
 | [u,t],⟨hu,ht,_⟩ =>
  simp only [Option.bind_eq_some_iff] at hv
  obtain ⟨a,h1,b,h2,h3⟩ := hv
  refine (Te (IX (q := q) (σ := σ) h1 hu) (IX (q := q) (σ := σ) h2 ht) (Y.qs a) (Y.qs b) (by decide)).mono ?_
  rintro _ w' ⟨hb,rfl⟩
  refine ⟨hb,_,rfl,?_⟩
  cases e : Nat.beq a b with
  | true =>
   rw [e] at h3
   cases h3
   rw [Nat.beq_eq] at e
   subst e
   rw [decide_eq_true rfl]
   exact Zp ⟨rfl,rfl⟩
  | false =>
   rw [e] at h3
   simp only [cond_false,Option.map_eq_some_iff] at h3
   obtain ⟨r,h4,rfl⟩ := h3
   rw [show decide (q a=q b)=Nat.beq 1 r by rw [Bool.eq_iff_iff,decide_eq_true_eq,Y.k3 a b r h4]]
   exact Zp ⟨rfl,rfl⟩
theorem prim_34 (Y : Hy N H L C Z q σ) (hp : QY w0) : ZH N H K L C Z pr q σ w0 34 25 := by
 refine Zf (fun _ _ _ => rfl) fun args v hv γ w vs hi hA => ?_
 have hpre : QY w := ⟨hp.1.below hi.bel,hp.2.below hi.bel⟩
 obtain ⟨x,y,rfl,hx⟩ := JT hv
 replace hv := hx
 clear hx
 match vs,hA with
 | [u,t],⟨hu,ht,_⟩ =>
  simp only [Option.bind_eq_some_iff,Option.map_eq_some_iff] at hv
  obtain ⟨a,h1,b,h2,i,h3,rfl⟩ := hv
  obtain ⟨gx,rfl,hx⟩ := IX (q := q) (σ := σ) h1 hu
  obtain ⟨gy,rfl,hy⟩ := IX (q := q) (σ := σ) h2 ht
  refine (Wk hx hy (Y.qs a) (Y.qs b) (by decide)).mono ?_
  rintro _ w' ⟨hb,c,rfl,hc1,hc2⟩
  refine ⟨hb,_,rfl,Zp ⟨c,rfl,?_,?_⟩⟩
  ·rw [hc2,show (evS q σ).q i=q i from rfl,Y.nd h3]
   show q a=q b ↔ q a - q b=0
   constructor
   ·intro e; rw [e]; grind
   ·intro e; grind
  ·rw [hc1,show (evS q σ).q i=q i from rfl,Y.nd h3]
   show _ ↔ q a - q b < 0
   rw [show (q a - q b < 0 ↔ q a < q b) by constructor <;> intro e <;> grind]
   exact (Rat.lt_iff _ _).symm
end
end Go.Proofs.YthhnabccdehmgaaGreatDoor
/- ZWR -/
namespace Go.Proofs.YthhnabccdehmgaaGreatDoor
open Go.RowKit Cx
theorem Vq {w w' : World} (h : QY w) (hb : Below w.heap.size w w') : QY w' := ⟨h.1.below hb,h.2.below hb⟩
theorem con_up {f : FuncId} {Fs : List Fact} {F : Fact} (h : Con Tryz.prog Jz f Fs F) : Con Tryz.prog QY f Fs F := fun w vs _ hall => h w vs trivial hall
def Tt (q : Rat) : Fact := ⟨fun v _ => ∃ s : ByteArray,v=.string s∧s.data.toList=tx q,fun _ h => h⟩
theorem blk_one {w : World} {g : Nat} {cs cs' : Array Value} {t t' : TypeId} (h : Blk w g cs t) (h' : Blk w g cs' t') : cs=cs'∧t=t' := by
 unfold Blk at h h'
 rw [h] at h'
 cases h'
 exact ⟨rfl,rfl⟩
theorem Blk.grows {w w' : World} {g : Nat} {cs : Array Value} {t : TypeId} (hg : Grows w w') (h : Blk w g cs t) (ht : Ap t=false) : Blk w' g cs t := by
 have hn : ¬ Boxed w g := by
  rintro ⟨cs',t',hb,hT,_⟩
  rw [(blk_one h hb).2] at ht
  rw [ht] at hT
  cases hT
 exact (hg.block g h.lt hn).trans h
theorem RV.grows {w w' : World} {g : Nat} {q : Rat} (hg : Grows w w') (h : RV w g q) : RV w' g q := by
 obtain ⟨a1,l1,c1,a2,l2,c2,h0,h1,h2⟩ := h
 refine ⟨a1,l1,c1,a2,l2,c2,h0.grows hg (by decide),h1.grows hg,?_⟩
 rcases h2 with h2 | h2
 ·exact Or.inl (h2.grows hg)
 ·exact Or.inr h2
def Rt (q : Rat) : Fact := ⟨fun v w => PR w v q,fun hg ⟨g,e,h⟩ => ⟨g,e,h.grows hg⟩⟩
theorem JG {w : World} {F : Fact} {vs : List Value} (h : All2 w [F] vs) : ∃ v,vs=[v]∧F.on v w := by
 match vs,h with
 | [v],h => exact ⟨v,rfl,h.1⟩
abbrev Tx (s : ByteArray) : Fact := Jus (.string s)
def Dm (t : TypeId) (n : Nat) (Fs : List Fact) : Soft := ⟨fun v w => ∃ (G : Nat) (cs : List Value),v=.slice (some ⟨G,0,none⟩) n n∧Blk w G cs.toArray t∧All2 w Fs cs,fun hb ⟨G,cs,e,h1,h2⟩ => ⟨G,cs,e,h1.below hb h1.lt,h2.st (Grows.of hb)⟩⟩
theorem Us {q0 q1 : Rat} (x0 x1 : Operand) (w : World) (ρ : Operand→Value) (h : All2 w [Rt q0,Rt q1] (((#[(0,x0),(1,x1)] : Array (Nat × Operand)).toList.map (·.2)).map ρ)) : ∃ v w',(Instr.buildSlice 85 2 ((#[(0,x0),(1,x1)] : Array (Nat × Operand)).map fun (i,x) => (i,ρ x))).run Tryz.prog w=.ok v w'∧Below w.heap.size w w'∧(Dm 28 2 [Rt q0,Rt q1]).on v w' := by
 have h' : All2 w [Rt q0,Rt q1] [ρ x0,ρ x1] := h
 refine ⟨.slice (some ⟨w.heap.size,0,none⟩) 2 2,w.alloc (.cells [ρ x0,ρ x1].toArray 28),?_,Qf _ _,w.heap.size,_,rfl,Blk.new _ _ _,h'.st (Grows.of (Qf _ _))⟩
 obtain ⟨g0,e0,_⟩ := h'.1
 obtain ⟨g1,e1,_⟩ := h'.2.1
 clear h h'
 simp [go_sem,e0,e1]
theorem Bb {w : World} {S : Soft} {vs : List Value} (h : AllS w [S] vs) : ∃ v,vs=[v]∧S.on v w := by
 match vs,h with
 | [v],h => exact ⟨v,rfl,h.1⟩
theorem Ee {w : World} {v : Value} {qs : List Rat} (h : (Dm 28 qs.length (qs.map Rt)).on v w) : MO w v qs := by
 obtain ⟨G,cs,rfl,hk,hall⟩ := h
 refine ⟨G,0,qs.length,rfl,hk.lt,fun j hj => ?_⟩
 obtain ⟨p,hp,hF⟩ := hall.get (k := j) (F := Rt qs[j]) (by simp [hj])
 exact ⟨p,by rw [Nat.zero_add,hk.cell j]; simpa using hp,hF⟩
theorem GC (vs : Array Value) (w : World) : (callFunc 28 vs).run Tryz.prog w=.ok (.enter 28 vs) w := Zd Tryz.func28 (by kernel_rfl) (by kernel_rfl) vs w
theorem GP (vs : Array Value) (w : World) : (callFunc 47 vs).run Tryz.prog w=.ok (.enter 47 vs) w := Zd Tryz.func47 (by kernel_rfl) (by kernel_rfl) vs w
theorem Pa (vs : Array Value) (w : World) : (callFunc 32 vs).run Tryz.prog w=.ok (.enter 32 vs) w := Zd Tryz.func32 (by kernel_rfl) (by kernel_rfl) vs w
theorem Jj (vs : Array Value) (w : World) : (callFunc 7 vs).run Tryz.prog w=.ok (.enter 7 vs) w := Zd Tryz.func7 (by kernel_rfl) (by kernel_rfl) vs w
theorem Yf (vs : Array Value) (w : World) : (callFunc 10 vs).run Tryz.prog w=.ok (.enter 10 vs) w := Zd Tryz.func10 (by kernel_rfl) (by kernel_rfl) vs w
theorem YV (vs : Array Value) (w : World) : (callFunc 11 vs).run Tryz.prog w=.ok (.enter 11 vs) w := Zd Tryz.func11 (by kernel_rfl) (by kernel_rfl) vs w
theorem VZ (vs : Array Value) (w : World) : (callFunc 9 vs).run Tryz.prog w=.ok (.enter 9 vs) w := Zd Tryz.func9 (by kernel_rfl) (by kernel_rfl) vs w
theorem MW {z : Int} (h1 : -9223372036854775808 < z) (h2 : z < 9223372036854775808) : Con Tryz.prog QY 28 [In z] (Qv (z : Rat)) := fun w vs _ h => by
 obtain ⟨v0,rfl,h0⟩ := JG h
 cases h0
 exact (OY z h1 h2 w).mono fun e w' ⟨hb,v,e1,h⟩ => ⟨hb,v,e1,h⟩
theorem Lj {x y : Rat} {k l : Nat} (fx : QS k x) (fy : QS l y) (hk : k+l+1≤35184372088640) : Con Tryz.prog QY 47 [Qv x,Qv y] (Qv (x / y)) := fun w vs _ h => by
 obtain ⟨p,q,rfl,h0,h1⟩ := Xe h
 exact (Ta h0 h1 fx fy hk).mono fun e w' ⟨hb,v,e1,h⟩ => ⟨hb,v,e1,h⟩
theorem Hn {x : Rat} {k : Nat} (fx : QS k x) (hk : k≤35184372088640) : Con Tryz.prog QY 32 [Qv x] (Tt x) := fun w vs hp h => by
 obtain ⟨v0,rfl,h0⟩ := JG h
 exact (Wn h0 fx hk hp.1).mono fun e w' ⟨hb,s,e1,h⟩ => ⟨hb,_,e1,s,rfl,h⟩
theorem PL {x : Rat} (n : Nat) (hn : n < 9223372036854775808) (e : x=(n : Rat)) : Con Tryz.prog QY 7 [In (n : Int)] (Rt x) := fun w vs hp hall => by
 obtain ⟨v0,rfl,h1⟩ := JG hall
 cases h1
 refine (Ic n hn w).mono ?_
 rintro _ w' ⟨hb,g,rfl,_,hv⟩
 exact ⟨hb,_,rfl,g,rfl,by rw [e]; exact hv⟩
theorem DP {x y z : Rat} {k l : Nat} (e : z=x / y) (fx : QS k x) (fy : QS l y) (h : k+l+1≤35184372088640) (hy : 0 < y) : Con Tryz.prog QY 10 [Rt x,Rt y] (Rt z) := fun w vs hp hall => by
 obtain ⟨v0,v1,rfl,h1,h2⟩ := Xe hall
 have hn : 0 < y.num := by
  have := (Rat.lt_iff 0 y).1 hy
  simpa using this
 refine (Iz h1 h2 fx fy h (n := y.num.toNat) (by omega) (by omega)).mono ?_
 rintro _ w' ⟨hb,v,rfl,hv⟩
 exact ⟨hb,v,rfl,by rw [e]; exact hv⟩
theorem LP {x : Rat} {k : Nat} (fx : QS k x) (h : k≤35184372088640) : Con Tryz.prog QY 11 [Rt x] (Tt x) := fun w vs hp hall => by
 obtain ⟨v0,rfl,h1⟩ := JG hall
 obtain ⟨g,rfl,h1⟩ := h1
 refine (Wc h1 fx h).mono ?_
 rintro _ w' ⟨hb,rfl⟩
 exact ⟨hb,_,rfl,_,rfl,by simp⟩
theorem SF {q0 q1 z : Rat} {k : Nat} (e : z=q0+q1) (fq0 : QS k q0) (fq1 : QS k q1) (hk : 2*(k+1)+1≤35184372088640) : ConS Tryz.prog QY 9 [Dm 28 2 [Rt q0,Rt q1]] (Rt z) := fun w vs hp hall => by
 obtain ⟨v0,rfl,h1⟩ := Bb hall
 refine (Wj (Ee (qs := [q0,q1]) h1) (K := k) (by simp [fq0,fq1]) (by simp) (by simpa using hk)).mono ?_
 rintro _ w' ⟨hb,v,rfl,hv⟩
 refine ⟨hb,v,rfl,?_⟩
 rw [e]
 have : rsum [q0,q1]=q0+q1 := by simp [rsum,Rat.zero_add]
 rw [← this]
 exact hv
theorem Np {x y : Rat} (x0 x1 : Operand) (w : World) (ρ : Operand→Value) (h : All2 w [Qv x,Qv y] (((#[(0,x0),(1,x1)] : Array (Nat × Operand)).toList.map (·.2)).map ρ)) : ∃ v,(Instr.build 68 ((#[(0,x0),(1,x1)] : Array (Nat × Operand)).map fun (i,x) => (i,ρ x))).run Tryz.prog w=.ok v w∧(Wv x y).on v w := by
 have h' : All2 w [Qv x,Qv y] [ρ x0,ρ x1] := h
 obtain ⟨c,e0⟩ := YD h'.1
 obtain ⟨d,e1⟩ := YD h'.2.1
 refine ⟨.agg #[.bool c.n,.slice c.u c.nu c.cu,.slice c.l c.nl c.cl,.bool d.n,.slice d.u d.nu d.cu,.slice d.l d.nl d.cl],?_,c,d,rfl,e0 ▸ h'.1,e1 ▸ h'.2.1⟩
 clear h h'
 simp [go_sem,e0,e1]
end Go.Proofs.YthhnabccdehmgaaGreatDoor
/- VV -/
namespace Go.Proofs.YthhnabccdehmgaaGreatDoor
open Go.RowKit Cx
def prS : List (FuncId × Nat) := [(45,0),(32,1),(73,2),(124,3),(48,4),(47,5),(161,6),(77,7),(28,8),(162,9),(125,12),(129,13),(46,14),(123,15),(13,20),(11,21),(7,22),(9,24),(14,25),(112,26),(10,27),(20,29),(25,34)]
def Closed (f : FuncId) : Prop := ∀ w,QY w→Calls Tryz.prog f #[] w fun e w' => Below w.heap.size w w'∧e=.returned (.bool true)
def prC (cl : List FuncId) : List (FuncId × Nat) := prS ++ cl.map fun f => (f,40)
theorem Ow {f c : Nat} : ∀ {l : List (FuncId × Nat)},IJ f l=some c→(f,c) ∈ l
 | [],h => by cases h
 | (g,d) :: l,h => by
  unfold IJ at h
  cases e : Nat.beq f g with
  | true =>
   rw [e] at h
   cases h
   rw [Nat.beq_eq] at e
   rw [e]
   exact List.mem_cons_self
  | false =>
   rw [e] at h
   exact List.mem_cons_of_mem _ (Ow h)
theorem DJ (a b : ByteArray) : a.toList=b.toList ↔ a=b := by
 constructor
 ·intro h
  rw [Go.ByteArray.toList_eq,Go.ByteArray.toList_eq] at h
  exact ByteArray.ext (Array.ext' h)
 ·intro h
  rw [h]
section
variable {N : List Nd} {H : List (Nat × Nat × Nat × Nat)} {K : List (FuncId × List AC)} {L C : List (List Nat × Nat)} {Z : List Nat} {q : Nat→Rat} {σ : Nat→ByteArray} {w0 : World} {cl : List FuncId}
theorem prim_40 {pr : List (FuncId × Nat)} {f : FuncId} (hp : QY w0) (hf : Closed f) : ZH N H K L C Z pr q σ w0 40 f := by
 refine Zf (fun _ _ _ => rfl) fun args v hv γ w vs hi hA => ?_
 have hpre : QY w := ⟨hp.1.below hi.bel,hp.2.below hi.bel⟩
 unfold arg0 at hv
 split at hv
 ·cases hv
  match vs,hA with
  | [],_ =>
   refine (hf w hpre).mono ?_
   rintro _ w' ⟨hb,rfl⟩
   exact ⟨hb,_,rfl,Zp ⟨rfl,rfl⟩⟩
 ·cases hv
theorem primMem (Y : Hy N H L C Z q σ) (hp : QY w0) (hc : ∀ f ∈ cl,Closed f) {pr : List (FuncId × Nat)} {f c : Nat} (hm : (f,c) ∈ prC cl) : ZH N H K L C Z pr q σ w0 c f := by
 rcases List.mem_append.1 hm with hm | hm
 ·simp only [prS,List.mem_cons,List.not_mem_nil,or_false,Prod.mk.injEq] at hm
  rcases hm with ⟨rfl,rfl⟩ | ⟨rfl,rfl⟩ | ⟨rfl,rfl⟩ | ⟨rfl,rfl⟩ | ⟨rfl,rfl⟩ | ⟨rfl,rfl⟩ | ⟨rfl,rfl⟩ | ⟨rfl,rfl⟩ | ⟨rfl,rfl⟩ | ⟨rfl,rfl⟩ | ⟨rfl,rfl⟩ | ⟨rfl,rfl⟩ | ⟨rfl,rfl⟩ | ⟨rfl,rfl⟩ | ⟨rfl,rfl⟩ | ⟨rfl,rfl⟩ | ⟨rfl,rfl⟩ | ⟨rfl,rfl⟩ | ⟨rfl,rfl⟩ | ⟨rfl,rfl⟩ | ⟨rfl,rfl⟩ | ⟨rfl,rfl⟩ | ⟨rfl,rfl⟩
  ·exact prim_0 Y hp
  ·exact prim_1 Y hp
  ·exact prim_2 Y hp
  ·exact prim_3 Y hp
  ·exact prim_4 Y hp
  ·exact prim_5 Y hp
  ·exact prim_6 Y hp
  ·exact prim_7 Y hp
  ·exact prim_8 Y hp
  ·exact prim_9 Y hp
  ·exact prim_12 Y hp
  ·exact prim_13 Y hp
  ·exact prim_14 Y hp
  ·exact prim_15 Y hp
  ·exact prim_20 Y hp
  ·exact prim_21 Y hp
  ·exact prim_22 Y hp
  ·exact prim_24 Y hp
  ·exact prim_25 Y hp
  ·exact prim_26 Y hp
  ·exact prim_27 Y hp
  ·exact prim_29 Y hp
  ·exact prim_34 Y hp
 ·obtain ⟨g,hg,e⟩ := List.mem_map.1 hm
  cases e
  exact prim_40 hp (hc _ hg)
theorem hdB_prC : hdB (prC cl)=false := by
 show List.any (_ ++ _) _=false
 rw [List.any_append,List.any_map]
 have h1 : (prS.any fun x => Nat.beq x.2 99)=false := by decide
 have h2 : cl.any ((fun x : FuncId × Nat => Nat.beq x.2 99) ∘ fun f => (f,40))=false := by simp
 rw [h1,h2]
 rfl
theorem primOk (Y : Hy N H L C Z q σ) (hp : QY w0) (hc : ∀ f ∈ cl,Closed f) : Iq (sx Tryz.prog N H K L C Z (prC cl)) (evS q σ) w0 := ⟨fun h => absurd h (by rw [hdB_prC]; decide),fun _ _ h => primMem Y hp hc (Ow h)⟩
theorem Sr (a0 a1 b0 b1 : ByteArray) (x y : Operand) (w : World) : (do eqGuard .eql 41 x y (.agg #[.string a0,.string a1]) (.agg #[.string b0,.string b1]); binOp .eql 41 (.agg #[.string a0,.string a1]) (.agg #[.string b0,.string b1]) : Sem Value).run Tryz.prog w=.ok (.bool (decide ([a0,a1]=[b0,b1]))) w := by
 simp [go_sem,DJ]
 (repeat' split) <;> simp_all
theorem Sp (a0 a1 b0 b1 : ByteArray) (x y : Operand) (w : World) : (do eqGuard .neq 41 x y (.agg #[.string a0,.string a1]) (.agg #[.string b0,.string b1]); binOp .neq 41 (.agg #[.string a0,.string a1]) (.agg #[.string b0,.string b1]) : Sem Value).run Tryz.prog w=.ok (.bool ((!decide ([a0,a1]=[b0,b1])))) w := by
 simp [go_sem,DJ]
 (repeat' split) <;> simp_all
theorem Bg (a0 a1 a2 b0 b1 b2 : ByteArray) (x y : Operand) (w : World) : (do eqGuard .eql 43 x y (.agg #[.string a0,.string a1,.string a2]) (.agg #[.string b0,.string b1,.string b2]); binOp .eql 43 (.agg #[.string a0,.string a1,.string a2]) (.agg #[.string b0,.string b1,.string b2]) : Sem Value).run Tryz.prog w=.ok (.bool (decide ([a0,a1,a2]=[b0,b1,b2]))) w := by
 simp [go_sem,DJ]
 (repeat' split) <;> simp_all
theorem Se (a0 a1 a2 b0 b1 b2 : ByteArray) (x y : Operand) (w : World) : (do eqGuard .neq 43 x y (.agg #[.string a0,.string a1,.string a2]) (.agg #[.string b0,.string b1,.string b2]); binOp .neq 43 (.agg #[.string a0,.string a1,.string a2]) (.agg #[.string b0,.string b1,.string b2]) : Sem Value).run Tryz.prog w=.ok (.bool ((!decide ([a0,a1,a2]=[b0,b1,b2])))) w := by
 simp [go_sem,DJ]
 (repeat' split) <;> simp_all
theorem knows (Y : Hy N H L C Z q σ) {pr : List (FuncId × Nat)} : Knows (sx Tryz.prog N H K L C Z pr) (evS q σ) where
 k0 := Y.k0
 k1 := Y.k1
 k2 := Y.k2
 k3 := Y.k3
 k4 := Y.k4
 k5 := Y.k5
 k7 := fun a b c h => Y.nd h
 k8 := fun a b c h => Y.nd h
 k9 := fun a b c h => Y.nd h
 k10 := fun a b i j n h => by
  rw [show (evS q σ).q n=VY σ q (7,[a,b,i,j]) from Y.nd h]
  show (if Vb (q a)=σ i∧Vb (q b)=σ j then (0 : Rat) else 1)=0 ↔ _
  split
  ·rename_i hh
   exact iff_of_true rfl hh
  ·rename_i hh
   exact iff_of_false (by decide) hh
 z0 := fun t i ht hi => by
  have e : t=34 := Nat.eq_of_beq_eq_true ht
  subst e
  refine ⟨[.bool false,.slice none 0 0,.bool false,.slice none 0 0],by kernel_rfl,fun w => ?_⟩
  show PR _ _ (q i)
  rw [Y.zero i hi]
  exact ⟨_,rfl,RV.nought w⟩
 x4 := fun _ _ _ => Iff.rfl
 x5 := fun _ _ _ h => h
 x6 := fun _ _ _ h => h
 x7 := fun _ _ _ => Iff.rfl
 xp := fun _ _ _ ⟨_,e,_⟩ => ⟨_,e⟩
 c0 := fun _ _ h => Oa Y h
 tne := Am
 tin := fun _ _ h => Pv h
 eqs := fun t n ht hn a b ha hb x y w => by
  have hm : (t,n) ∈ eqS := Ow ht
  simp only [eqS,List.mem_cons,List.not_mem_nil,or_false,Prod.mk.injEq] at hm
  rcases hm with ⟨rfl,rfl⟩ | ⟨rfl,rfl⟩
  ·match a,ha,b,hb with
   | [a0,a1],_,[b0,b1],_ => exact ⟨Sr a0 a1 b0 b1 x y w,Sp a0 a1 b0 b1 x y w⟩
  ·match a,ha,b,hb with
   | [a0,a1,a2],_,[b0,b1,b2],_ => exact ⟨Bg a0 a1 a2 b0 b1 b2 x y w,Se a0 a1 a2 b0 b1 b2 x y w⟩
 eqz := fun t n ht l m hl hm x y w => by
  have hh : (t,n+1000) ∈ eqS := Ow ht
  simp only [eqS,List.mem_cons,List.not_mem_nil,or_false,Prod.mk.injEq] at hh
  rcases hh with ⟨et,hn⟩ | ⟨et,hn⟩
  ·omega
  ·omega
def wfN (k : Nat) (nd : Nd) : Bool := match nd.1,nd.2 with
 | 0,_ => true
 | 1,_ => true
 | 8,_ :: xs => xs.all (Nat.blt · k)
 | _,xs => xs.all (Nat.blt · k)
def wfB : Nat→List Nd→Bool
 | _,[] => true
 | k,nd :: ns => wfN k nd && wfB (k+1) ns
theorem Mj {k : Nat} {nd : Nd} {p p' : Nat→Rat} (hw : wfN k nd=true) (h : ∀ a,a < k→p a=p' a) : VY σ p nd=VY σ p' nd := by
 obtain ⟨op,xs⟩ := nd
 have key : xs.all (Nat.blt · k)=true→∀ x ∈ xs,p x=p' x := fun hx x hm => h x (by
  rw [List.all_eq_true] at hx
  simpa [Nat.blt_eq] using hx x hm)
 unfold VY
 unfold wfN at hw
 dsimp only at hw ⊢
 split
 ·rfl
 ·rfl
 ·have := key hw; rw [this _ (by simp),this _ (by simp)]
 ·have := key hw; rw [this _ (by simp),this _ (by simp)]
 ·have := key hw; rw [this _ (by simp),this _ (by simp)]
 ·have := key hw; rw [this _ (by simp)]
 ·have := key hw; rw [this _ (by simp),this _ (by simp)]
 ·have := key hw; rw [this _ (by simp),this _ (by simp)]
 ·rename_i i ys
  have hw' : ys.all (Nat.blt · k)=true := hw
  have hm : ys.map p=ys.map p' := List.map_congr_left fun x hx => h x (by
   rw [List.all_eq_true] at hw'
   simpa [Nat.blt_eq] using hw' x hx)
  rw [hm]
 ·have := key hw; rw [this _ (by simp)]
 ·have := key hw; rw [this _ (by simp)]
 ·have := key hw; rw [this _ (by simp),this _ (by simp)]
 ·rfl
theorem EO : ∀ {ns : List Nd} {k i : Nat} {nd : Nd},wfB k ns=true→ns[i]? = some nd→wfN (k+i) nd=true
 | [],_,_,_,_,h => by simp at h
 | n :: ns,k,0,nd,hw,h => by
  have : n=nd := by simpa using h
  subst this
  unfold wfB at hw
  rw [Bool.and_eq_true] at hw
  exact hw.1
 | n :: ns,k,i+1,nd,hw,h => by
  unfold wfB at hw
  rw [Bool.and_eq_true] at hw
  have := EO hw.2 (i := i) (nd := nd) (by simpa using h)
  rwa [show k+1+i=k+(i+1) by omega] at this
def AB : List Nat→Nat
 | [] => 0
 | a :: l => Nat.max a (AB l)
def EH (Z : List Nat) : List Nat→Option (List Nat)
 | [] => some []
 | a :: l => Z[a]?.bind fun z => (EH Z l).map fun zs => z :: zs
def szN (Z : List Nat) (z : Nat) (nd : Nd) : Bool := match nd.1,nd.2 with
 | 0,[_,n,d] => Nat.blt n (2 ^ z) && (Nat.blt 0 d && Nat.blt d (2 ^ z))
 | 1,[_] => Nat.ble 4194309 z
 | 2,[a,b] => (match Z[a]?,Z[b]? with | some x,some y => Nat.ble (x+y+1) z | _,_ => false)
 | 3,[a,b] => (match Z[a]?,Z[b]? with | some x,some y => Nat.ble (x+y+1) z | _,_ => false)
 | 4,[a,b] => (match Z[a]?,Z[b]? with | some x,some y => Nat.ble (x+y) z | _,_ => false)
 | 5,[a] => (match Z[a]? with | some x => Nat.ble x z | _ => false)
 | 6,[a,b] => (match Z[a]?,Z[b]? with | some x,some y => Nat.ble (x+y) z | _,_ => false)
 | 8,i :: xs => (match EH Z xs with | some zs => Nat.blt i xs.length && Nat.ble ((xs.length+1)*AB zs+1) z | none => false)
 | 9,[a] => (match Z[a]? with | some x => Nat.ble x z | _ => false)
 | 10,[a] => (match Z[a]? with | some x => Nat.ble x z | _ => false)
 | 11,[a,b] => (match Z[a]?,Z[b]? with | some x,some y => Nat.ble (x+y) z | _,_ => false)
 | _,_ => false
def szB (Z : List Nat) : List Nd→List Nat→Bool
 | [],[] => true
 | nd :: ns,z :: zs => (szN Z z nd && Nat.ble z 1000000000000) && szB Z ns zs
 | _,_ => false
theorem FD {Z : List Nat} : ∀ {ns : List Nd} {zs : List Nat} {i z : Nat},szB Z ns zs=true→zs[i]? = some z→∃ nd,ns[i]? = some nd∧szN Z z nd=true∧z≤1000000000000
 | [],[],_,_,_,h => by simp at h
 | [],_ :: _,_,_,h,_ => by cases h
 | _ :: _,[],_,_,h,_ => by cases h
 | nd :: ns,z' :: zs,0,z,h,e => by
  have : z'=z := by simpa using e
  subst this
  unfold szB at h
  simp only [Bool.and_eq_true,Nat.ble_eq] at h
  exact ⟨nd,rfl,h.1.1,h.1.2⟩
 | nd :: ns,z' :: zs,i+1,z,h,e => by
  unfold szB at h
  rw [Bool.and_eq_true] at h
  simpa using FD h.2 (i := i) (z := z) (by simpa using e)
theorem Ez {Z : List Nat} : ∀ {ns : List Nd} {zs : List Nat},szB Z ns zs=true→zs.length=ns.length
 | [],[],_ => rfl
 | [],_ :: _,h => by cases h
 | _ :: _,[],h => by cases h
 | nd :: ns,z' :: zs,h => by
  unfold szB at h
  rw [Bool.and_eq_true] at h
  rw [List.length_cons,List.length_cons,Ez h.2]
theorem le_maxL {l : List Nat} : ∀ x ∈ l,x≤AB l := by
 induction l with
 | nil => simp
 | cons a l ih =>
  intro x hx
  unfold AB
  rcases List.mem_cons.1 hx with rfl | hx
  ·exact Nat.le_max_left _ _
  ·exact Nat.le_trans (ih x hx) (Nat.le_max_right _ _)
theorem Pw {Z : List Nat} : ∀ {xs zs : List Nat},EH Z xs=some zs→∀ x ∈ xs,∃ z ∈ zs,Z[x]? = some z
 | [],zs,h,x,hx => by cases hx
 | a :: l,zs,h,x,hx => by
  unfold EH at h
  simp only [Option.bind_eq_some_iff,Option.map_eq_some_iff] at h
  obtain ⟨z,h1,ys,h2,rfl⟩ := h
  rcases List.mem_cons.1 hx with rfl | hx
  ·exact ⟨z,List.mem_cons_self,h1⟩
  ·obtain ⟨z',h3,h4⟩ := Pw h2 x hx
   exact ⟨z',List.mem_cons_of_mem _ h3,h4⟩
theorem QS.facN {Kz : Nat} {qs : List Rat} {x : Rat} (f : ∀ y ∈ qs,QS Kz y) (h : x ∈ qs) : QS ((qs.length+1)*Kz+1) (x*fac qs) := by
 have hk : 0 < Kz := (f x h).pos
 have hd := fac_den h
 have ha := fac_abs h
 constructor
 ·rw [ha]
  have h1 : x.num.natAbs / gN qs≤x.num.natAbs := Nat.div_le_self _ _
  have h2 : lD qs / x.den≤lD qs := Nat.div_le_self _ _
  have h3 := (f x h).num
  have h4 := lD_le f qs.length
  rw [List.take_length] at h4
  have h5 : x.num.natAbs / gN qs*(lD qs / x.den)≤x.num.natAbs*2 ^ (qs.length*Kz) := Nat.mul_le_mul h1 (Nat.le_trans h2 h4)
  have h6 : x.num.natAbs*2 ^ (qs.length*Kz) < 2 ^ Kz*2 ^ (qs.length*Kz) := Nat.mul_lt_mul_of_pos_right h3 (Nat.pow_pos (by decide))
  have h7 : 2 ^ Kz*2 ^ (qs.length*Kz)=2 ^ ((qs.length+1)*Kz) := by rw [← Nat.pow_add]; congr 1; rw [Nat.succ_mul]; omega
  have h8 : 2 ^ ((qs.length+1)*Kz)≤2 ^ ((qs.length+1)*Kz+1) := Nat.pow_le_pow_right (by decide) (Nat.le_succ _)
  omega
 ·rw [hd]
  exact Nat.one_lt_two_pow (by omega)
theorem QS.const {s n d z : Nat} (h1 : n < 2 ^ z) (h0 : 0 < d) (h2 : d < 2 ^ z) : QS z (if s=0 then mkRat (n : Int) d else mkRat (-(n : Int)) d) := by
 have key : ∀ m : Int,m.natAbs=n→QS z (mkRat m d) := fun m hm => by
  constructor
  ·rw [Rat.num_mkRat]
   refine Nat.lt_of_le_of_lt ?_ h1
   rw [← hm]
   have := Int.natAbs_ediv_le_natAbs m (d.gcd m.natAbs)
   rw [if_neg (by omega)]
   first | exact this | (rw [Nat.gcd_comm] at this; exact this)
  ·rw [Rat.den_mkRat]
   rw [if_neg (by omega)]
   exact Nat.lt_of_le_of_lt (Nat.div_le_self _ _) h2
 split
 ·exact key _ (by simp)
 ·exact key _ (by simp)
theorem QS.whole {k : Nat} {z : Int} (h0 : 0 < k) (h : z.natAbs < 2 ^ k) : QS k (z : Rat) := ⟨by rw [Rat.num_intCast]; exact h,by rw [Rat.den_intCast]; exact Nat.one_lt_two_pow (by omega)⟩
theorem QS.up {k : Nat} {x : Rat} (h : QS k x) : QS k (x.num : Rat) := QS.whole h.pos h.num
theorem QS.low {k : Nat} {x : Rat} (h : QS k x) : QS k ((x.den : Int) : Rat) := QS.whole h.pos (by rw [Int.natAbs_natCast]; exact h.den)
theorem QS.fl {k : Nat} {x : Rat} (h : QS k x) : QS k ((flq x : Int) : Rat) := QS.whole h.pos (Nat.lt_of_le_of_lt (Int.natAbs_ediv_le_natAbs _ _) h.num)
theorem CF {σ : Nat→ByteArray} (hσ : ∀ j,(σ j).size≤1048576) (hw : wfB 0 N=true) (hz : szB Z N Z=true) (hq : ∀ (a : Nat) nd,N[a]? = some nd→q a=VY σ q nd) (h0 : ∀ a,N.length≤a→q a=0) : (∀ (a : Nat) z,Z[a]? = some z→QS z (q a))∧∀ a,QS 1000000000000 (q a) := by
 have h1 : ∀ (a : Nat) z,Z[a]? = some z→QS z (q a) := by
  intro a
  induction a using Nat.strongRecOn with
  | ind a ih =>
   intro z hz'
   obtain ⟨nd,hn,hs,_⟩ := FD hz hz'
   have hwf := EO hw hn
   rw [Nat.zero_add] at hwf
   rw [hq a nd hn]
   obtain ⟨op,xs⟩ := nd
   unfold szN at hs
   unfold VY
   unfold wfN at hwf
   dsimp only at hs hwf ⊢
   split at hs
   ·simp only [Bool.and_eq_true] at hs
    exact QS.const (by simpa [Nat.blt_eq] using hs.1) (by simpa [Nat.blt_eq] using hs.2.1) (by simpa [Nat.blt_eq] using hs.2.2)
   ·rw [Nat.ble_eq] at hs
    rename_i j
    exact QS.mono (QS.rd _) (by have := hσ j; rw [Iw]; omega)
   ·simp only [List.all_cons,List.all_nil,Bool.and_true,Bool.and_eq_true] at hwf
    split at hs
    ·rename_i x y hx hy
     rw [Nat.ble_eq] at hs
     exact ((ih _ (by simpa [Nat.blt_eq] using hwf.1) x hx).add (ih _ (by simpa [Nat.blt_eq] using hwf.2) y hy)).mono hs
    ·cases hs
   ·simp only [List.all_cons,List.all_nil,Bool.and_true,Bool.and_eq_true] at hwf
    split at hs
    ·rename_i x y hx hy
     rw [Nat.ble_eq] at hs
     exact ((ih _ (by simpa [Nat.blt_eq] using hwf.1) x hx).sub (ih _ (by simpa [Nat.blt_eq] using hwf.2) y hy)).mono hs
    ·cases hs
   ·simp only [List.all_cons,List.all_nil,Bool.and_true,Bool.and_eq_true] at hwf
    split at hs
    ·rename_i x y hx hy
     rw [Nat.ble_eq] at hs
     exact ((ih _ (by simpa [Nat.blt_eq] using hwf.1) x hx).mul (ih _ (by simpa [Nat.blt_eq] using hwf.2) y hy)).mono hs
    ·cases hs
   ·simp only [List.all_cons,List.all_nil,Bool.and_true] at hwf
    split at hs
    ·rename_i x hx
     rw [Nat.ble_eq] at hs
     exact ((ih _ (by simpa [Nat.blt_eq] using hwf) x hx).neg).mono hs
    ·cases hs
   ·simp only [List.all_cons,List.all_nil,Bool.and_true,Bool.and_eq_true] at hwf
    split at hs
    ·rename_i x y hx hy
     rw [Nat.ble_eq] at hs
     exact ((ih _ (by simpa [Nat.blt_eq] using hwf.1) x hx).div (ih _ (by simpa [Nat.blt_eq] using hwf.2) y hy)).mono hs
    ·cases hs
   ·rename_i i ys
    split at hs
    ·rename_i zs hzs
     simp only [Bool.and_eq_true,Nat.ble_eq] at hs
     have hi : i < ys.length := by simpa [Nat.blt_eq] using hs.1
     have hall : ∀ y ∈ ys.map q,QS (AB zs) y := fun y hy => by
      obtain ⟨b,hb,rfl⟩ := List.mem_map.1 hy
      obtain ⟨z',hm,hz2⟩ := Pw hzs b hb
      have hwf' : ys.all (Nat.blt · a)=true := hwf
      rw [List.all_eq_true] at hwf'
      exact (ih b (by simpa [Nat.blt_eq] using hwf' b hb) z' hz2).mono (le_maxL z' hm)
     show QS z ((ys.map q).getD i 0*fac (ys.map q))
     rw [List.getD_eq_getElem?_getD,List.getElem?_map,List.getElem?_eq_getElem hi]
     have := QS.facN hall (x := q ys[i]) (List.mem_map_of_mem (List.getElem_mem hi))
     rw [List.length_map] at this
     exact this.mono hs.2
    ·cases hs
   ·simp only [List.all_cons,List.all_nil,Bool.and_true] at hwf
    split at hs
    ·rename_i x hx
     rw [Nat.ble_eq] at hs
     exact ((ih _ (by simpa [Nat.blt_eq] using hwf) x hx).up).mono hs
    ·cases hs
   ·simp only [List.all_cons,List.all_nil,Bool.and_true] at hwf
    split at hs
    ·rename_i x hx
     rw [Nat.ble_eq] at hs
     exact ((ih _ (by simpa [Nat.blt_eq] using hwf) x hx).low).mono hs
    ·cases hs
   ·simp only [List.all_cons,List.all_nil,Bool.and_true,Bool.and_eq_true] at hwf
    split at hs
    ·rename_i x y hx hy
     rw [Nat.ble_eq] at hs
     exact (((ih _ (by simpa [Nat.blt_eq] using hwf.1) x hx).div (ih _ (by simpa [Nat.blt_eq] using hwf.2) y hy)).fl).mono hs
    ·cases hs
   ·cases hs
 refine ⟨h1,fun a => ?_⟩
 have hl := Ez hz
 by_cases ha : a < Z.length
 ·obtain ⟨nd,_,_,hle⟩ := FD hz (List.getElem?_eq_getElem ha)
  exact (h1 a _ (List.getElem?_eq_getElem ha)).mono hle
 ·rw [h0 a (by omega)]
  exact QS.zero.mono (by decide)
def hAt (q : Nat→Rat) : Nat × Nat × Nat × Nat→Prop
 | (k,a,b,r) => match k with
  | 0 => Nat.beq 1 r=true ↔ q a=0
  | 1 => Nat.beq 1 r=true ↔ q a < 0
  | 2 => Nat.beq 1 r=true ↔ 0 < q a
  | 3 => Nat.beq 1 r=true ↔ q a=q b
  | 4 => Nat.beq 1 r=true ↔ q a=q b
  | 6 => Nat.beq 1 r=true ↔ (q a=0∧q b=0)
  | 5 => (r=0→q a < 0)∧(r=1→q a=0)∧(r=2→0 < q a)
  | _ => False
def hAll (q : Nat→Rat) : List (Nat × Nat × Nat × Nat)→Prop
 | [] => True
 | x :: l => hAt q x∧hAll q l
theorem Tl {k a b r : Nat} : ∀ {H : List (Nat × Nat × Nat × Nat)},hAll q H→Vk k a b H=some r→hAt q (k,a,b,r)
 | [],_,h => by cases h
 | (k',a',b',r') :: H,hH,h => by
  unfold Vk at h
  cases e : (Nat.beq k k' && (Nat.beq a a' && Nat.beq b b')) with
  | true =>
   rw [e] at h
   cases h
   simp only [Bool.and_eq_true,Nat.beq_eq] at e
   rw [e.1,e.2.1,e.2.2]
   exact hH.1
  | false =>
   rw [e] at h
   exact Tl hH.2 h
def cst (s n d : Nat) : Rat := if s=0 then mkRat (n : Int) d else mkRat (-(n : Int)) d
def litB (N : List Nd) (L : List (List Nat × Nat)) : Bool := L.all fun x => match N[x.2]? with
 | some (0,[s,n,d]) => decide (rd (x.1.map UInt8.ofNat)=cst s n d) && (Nat.ble x.1.length 4294967280 && x.1.all (Nat.blt · 256))
 | _ => false
def canB (N : List Nd) (L : List (List Nat × Nat)) : Bool := L.all fun x => match N[x.2]? with
 | some (0,[s,n,d]) => It ((tx (cst s n d)).map UInt8.toNat) x.1
 | _ => false
theorem Wp {l : List Nat} {b : Nat} : ∀ {L : List (List Nat × Nat)},YC l L=some b→(l,b) ∈ L
 | [],h => by cases h
 | (m,i) :: L,h => by
  unfold YC at h
  cases e : It l m with
  | true =>
   rw [e] at h
   cases h
   rw [Og e]
   exact List.mem_cons_self
  | false =>
   rw [e] at h
   exact List.mem_cons_of_mem _ (Wp h)
theorem lit_rd (hl : litB N L=true) (hq : ∀ (a : Nat) nd,N[a]? = some nd→q a=VY σ q nd) {s : ByteArray} {b : Nat} (h : YC (Jv s) L=some b) : q b=rd s.data.toList∧s.size≤4294967280 := by
 unfold litB at hl
 rw [List.all_eq_true] at hl
 have := hl _ (Wp h)
 dsimp only at this
 split at this
 ·rename_i s' n d hn
  rw [Bool.and_eq_true,decide_eq_true_eq,Bool.and_eq_true,Nat.ble_eq] at this
  obtain ⟨h1,h2,_⟩ := this
  have e : (Jv s).map UInt8.ofNat=s.data.toList := by
   unfold Jv
   rw [List.map_map]
   conv => rhs; rw [← List.map_id s.data.toList]
   apply List.map_congr_left
   intro x _
   simp
  constructor
  ·rw [hq b _ hn,← e,h1]
   rfl
  ·have : (Jv s).length=s.size := by
    unfold Jv
    rw [List.length_map]
    simp
   omega
 ·cases this
theorem can_tx (hl : canB N C=true) (hq : ∀ (a : Nat) nd,N[a]? = some nd→q a=VY σ q nd) {l : List Nat} {b : Nat} (h : YC l C=some b) : Jv (Vb (q b))=l := by
 unfold canB at hl
 rw [List.all_eq_true] at hl
 have := hl _ (Wp h)
 dsimp only at this
 split at this
 ·rename_i s n d hn
  rw [hq b _ hn]
  have e := Og this
  unfold Jv Vb
  rw [List.toList_toArray]
  exact e
 ·cases this
theorem hy_of {H : List (Nat × Nat × Nat × Nat)} (hσ : ∀ j,(σ j).size≤1048576) (hw : wfB 0 N=true) (hz : szB Z N Z=true) (hl : litB N L=true) (hcn : canB N C=true) (hq : ∀ (a : Nat) nd,N[a]? = some nd→q a=VY σ q nd) (h0 : ∀ a,N.length≤a→q a=0) (hH : hAll q H) : Hy N H L C Z q σ where
 nat := hq
 qs := (CF hσ hw hz hq h0).2
 zs := (CF hσ hw hz hq h0).1
 par := hσ
 lit := fun s b h => lit_rd hl hq h
 k0 := fun a r h => Tl hH h
 k1 := fun a r h => Tl hH h
 k2 := fun a r h => Tl hH h
 k3 := fun a b r h => Tl hH h
 k4 := fun l a b r h1 h2 => by
  have h3 : Nat.beq 1 r=true ↔ q a=q b := Tl hH h2
  rw [h3,← can_tx hcn hq h1]
  exact ⟨fun e => by rw [e],fun e => Pv (OX e)⟩
 k6 := fun a b r h => Tl hH h
 k5 := fun a r h => Tl hH h
theorem AJ {f : FuncId} {args : List AV} {vs : List Value} {k : Nat} {p : List HB × Nat} {b : Bool} (Y : Hy N H L C Z q σ) (hc : ∀ f ∈ cl,Closed f) (hm : (Tryz.prog).follows .mixedOrders=true) (hr : PH (sx Tryz.prog N H K L C Z (prC cl)) k f args [] 0=some (kB b,p)) {w : World} (hp : QY w)
  (hA : A2 (avOn (cOn (evS q σ) K (fun _ => none) w)) args vs) : Calls Tryz.prog f vs.toArray w fun e w' => Below w.heap.size w w'∧e=.returned (.bool b) := by
 refine (Cc (S := sx Tryz.prog N H K L C Z (prC cl)) (E := evS q σ) (w0 := w) hm (knows Y) (primOk Y hp hc) k f args [] 0 (kB b,p) hr (fun _ => none) w vs ⟨Below.refl _ _,(fun _ _ h => by cases h)⟩ hA (fun x hx => by cases hx) (fun x hx => by cases hx) (fun _ _ _ => rfl)).mono ?_
 rintro _ w' ⟨r,γ',rfl,hef,hv,_⟩
 exact ⟨hef.wi.bel,by rw [show r=.bool b from (Zg (v := kB b) (c := .inl (.bool b)) rfl hv).1]⟩
end
end Go.Proofs.YthhnabccdehmgaaGreatDoor
/- GFD -/
namespace Go.Proofs.YthhnabccdehmgaaGreatDoor
open Go.RowKit Cx
def Dr (G : Nat) : Fact := ⟨fun v w => v=.pointer (some ⟨G,0,none⟩)∧Blk w G #[.bool false,.slice none 0 0,.bool false,.slice none 0 0] 34,fun hg h => ⟨h.1,h.2.grows hg (by decide)⟩⟩
def Di (G : Nat) : Fact := ⟨fun v w => v=.pointer (some ⟨G,0,none⟩)∧Blk w G #[.bool false,.slice none 0 0] 32,fun hg h => ⟨h.1,h.2.grows hg (by decide)⟩⟩
def Rb (G : Nat) (q : Rat) : Fact := ⟨fun v w => ∃ g,v=.pointer (some ⟨g,0,none⟩)∧g < G∧RV w g q,fun hg ⟨g,e,h1,h2⟩ => ⟨g,e,h1,h2.grows hg⟩⟩
theorem Own2.grows {w w' : World} {g : Nat} {z : Int} (hg : Grows w w') (h : Own2 w g z) : Own2 w' g z := by
 obtain ⟨ao,n,c,h0,h1⟩ := h
 exact ⟨ao,n,c,h0.grows hg (by decide),h1.grows hg⟩
def Iv (z : Int) : Fact := ⟨fun v w => ∃ g,v=.pointer (some ⟨g,0,none⟩)∧(Own2 w g z ∨ ∃ q : Rat,RV w g q∧q.num=z),fun hg ⟨g,e,h⟩ => ⟨g,e,h.elim (fun h => Or.inl (h.grows hg)) fun ⟨q,h,e⟩ => Or.inr ⟨q,h.grows hg,e⟩⟩⟩
def Ig (G : Nat) (z : Int) : Fact := ⟨fun v w => v=.pointer (some ⟨G,0,none⟩)∧Own2 w G z,fun hg h => ⟨h.1,h.2.grows hg⟩⟩
def Ib (G : Nat) (z : Int) : Fact := ⟨fun v w => ∃ g,v=.pointer (some ⟨g,0,none⟩)∧g < G∧(Own2 w g z ∨ ∃ q : Rat,RV w g q∧q.num=z),fun hg ⟨g,e,h1,h⟩ => ⟨g,e,h1,h.elim (fun h => Or.inl (h.grows hg)) fun ⟨q,h,e⟩ => Or.inr ⟨q,h.grows hg,e⟩⟩⟩
theorem XU {q : Rat} {v : Value} {w w' : World} (h : (Rt q).on v w) (hb : Below w.heap.size w w') : (Rb w.heap.size q).on v w' := by
 obtain ⟨g,e,h⟩ := h
 exact ⟨g,e,h.lt,h.below hb⟩
theorem QR {G G' : Nat} {q : Rat} {v : Value} {w w' : World} (h : (Rb G q).on v w) (hG : G≤G') (hh : JQ w G') (hs : Save G' w w') : (Rb G q).on v w' := by
 obtain ⟨g,e,h1,h2⟩ := h
 exact ⟨g,e,h1,h2.save (by omega) hh hs⟩
theorem Ec {G G' : Nat} {z : Int} {v : Value} {w w' : World} (h : (Ig G z).on v w) (hG : G ≠ G') (hh : JQ w G') (hs : Save G' w w') : (Ig G z).on v w' := ⟨h.1,h.2.save hG hh hs⟩
theorem Dq {G G' : Nat} {v : Value} {w w' : World} (h : (Dr G).on v w) (hG : G ≠ G') (hs : Save G' w w') : (Dr G).on v w' := ⟨h.1,(hs.block G h.2.lt hG).trans h.2⟩
theorem Ko {G G' : Nat} {v : Value} {w w' : World} (h : (Di G).on v w) (hG : G ≠ G') (hs : Save G' w w') : (Di G).on v w' := ⟨h.1,(hs.block G h.2.lt hG).trans h.2⟩
theorem JJ {G : Nat} {q : Rat} {v : Value} {w : World} (h : (Rb G q).on v w) : (Rt q).on v w := by
 obtain ⟨g,e,_,h⟩ := h
 exact ⟨g,e,h⟩
theorem MZ {G : Nat} {z : Int} {v : Value} {w : World} (h : (Ib G z).on v w) : (Iv z).on v w := by
 obtain ⟨g,e,_,h⟩ := h
 exact ⟨g,e,h⟩
theorem KQ {G : Nat} {z : Int} {v : Value} {w : World} (h : (Ig G z).on v w) : (Iv z).on v w := ⟨G,h.1,Or.inl h.2⟩
theorem Xa {z : Int} {v : Value} {w : World} (h : (Iv z).on v w) : IV w v z := by
 obtain ⟨g,rfl,h | ⟨q,h,rfl⟩⟩ := h
 ·exact h.iv
 ·exact h.num
theorem GJ {v : Value} {G g : Nat} (e : v=.pointer (some ⟨g,0,none⟩)) (h : g ≠ G) : XO v G := fun g1 o1 t q => by
 rw [e] at q
 cases q
 exact h
theorem Up {ops : Array Oper} {Q : Exit→Act→World→Prop} {rest : List Oper} {o : Oper} {a : Act} {w : World} (hgd : o.guard=none) (hop : o.op=.alloc 34)
  (h : wpList Tryz.prog ops Q rest (a.put o.dst (.pointer (some ⟨w.heap.size,0,none⟩))) (w.alloc (.cells #[.bool false,.slice none 0 0,.bool false,.slice none 0 0] 34))) : wpList Tryz.prog ops Q (o :: rest) a w := by
 refine wpList_plain hgd fun K hK => ?_
 have e : (execOp a.eval o).run Tryz.prog w=.ok (.value (.pointer (some ⟨w.heap.size,0,none⟩))) (w.alloc (.cells #[.bool false,.slice none 0 0,.bool false,.slice none 0 0] 34)) := by
  unfold execOp
  rw [hop]
  simp [go_sem]
 unfold Oper.wp
 rw [e]
 exact hK _ _ h
theorem ZK {ops : Array Oper} {Q : Exit→Act→World→Prop} {rest : List Oper} {o : Oper} {a : Act} {w : World} (hgd : o.guard=none) (hop : o.op=.alloc 32)
  (h : wpList Tryz.prog ops Q rest (a.put o.dst (.pointer (some ⟨w.heap.size,0,none⟩))) (w.alloc (.cells #[.bool false,.slice none 0 0] 32))) : wpList Tryz.prog ops Q (o :: rest) a w := by
 refine wpList_plain hgd fun K hK => ?_
 have e : (execOp a.eval o).run Tryz.prog w=.ok (.value (.pointer (some ⟨w.heap.size,0,none⟩))) (w.alloc (.cells #[.bool false,.slice none 0 0] 32)) := by
  unfold execOp
  rw [hop]
  simp [go_sem]
 unfold Oper.wp
 rw [e]
 exact hK _ _ h
theorem Zm {a : Act} {w : World} : ∀ u F,(u,F) ∈ ([] : List (Nat × Fact))→F.on (a.tmps.getD u undef) w := fun _ _ h => by cases h
theorem Qe {a : Act} {w : World} {t : Nat} {G : Fact} {l : List (Nat × Fact)} (h : G.on (a.tmps.getD t undef) w) (hl : ∀ u F,(u,F) ∈ l→F.on (a.tmps.getD u undef) w) : ∀ u F,(u,F) ∈ (t,G) :: l→F.on (a.tmps.getD u undef) w := fun u F hm => by
 rcases List.mem_cons.1 hm with e | hm
 ·cases e
  exact h
 ·exact hl u F hm
theorem Zn {w0 w : World} : ∀ (k G : Nat) (t : TypeId) (Fs : Fact),([] : List (Nat × TypeId × Fact))[k]? = some (G,t,Fs)→w0.heap.size≤G∧BoxIs w G t Fs := fun _ _ _ _ h => by simp at h
theorem Qs {w0 w : World} {G : Nat} {t : TypeId} {F : Fact} {l : List (Nat × TypeId × Fact)} (h : w0.heap.size≤G∧BoxIs w G t F) (hl : ∀ (k G : Nat) (t : TypeId) (Fs : Fact),l[k]? = some (G,t,Fs)→w0.heap.size≤G∧BoxIs w G t Fs) : ∀ (k G' : Nat) (t' : TypeId) (Fs : Fact),((G,t,F) :: l)[k]? = some (G',t',Fs)→w0.heap.size≤G'∧BoxIs w G' t' Fs := fun k G' t' Fs hk => by
 match k,hk with
 | 0,hk => cases hk; exact h
 | k+1,hk => exact hl k G' t' Fs (by simpa using hk)
theorem BoxIs.save2 {w w' : World} {G G' : Nat} {t : TypeId} {F : Fact} (h : BoxIs w G t F) (hs : Save G' w w') (hne : G ≠ G') (hF : ∀ v,F.on v w→F.on v w') : BoxIs w' G t F := by
 obtain ⟨cs,h1,h2,h3,h4⟩ := h
 exact ⟨cs,(hs.block G h1.lt hne).trans h1,hF _ h2,h3,h4⟩
def ER (P : Program) (t : TypeId) : Prop := ∀ (w : World) (G j : Nat) (c : Value),w.cell? ⟨G,j,none⟩=some c→(Instr.loadAt t (.pointer (some ⟨G,j,none⟩))).run P w=.ok c w
theorem Bz {P : Program} {t' : TypeId} {j : Nat} {Fs : List Fact} {F : Fact} (hj : Fs[j]? = some F) (h1 : ER P t') : Yp P t' j (Agg Fs) F := fun w G cs t hk ⟨cs',e,hall⟩ => by
 have : cs=cs' := by simpa using e
 subst this
 obtain ⟨v,hv,hF⟩ := hall.get hj
 exact ⟨v,h1 w G j v (by rw [hk.cell j]; simpa using hv),hF⟩
theorem one_Q : ER Tryz.prog 23 := fun w G j c h => by
 simp [go_sem,h]
theorem Kq {q0 q1 : Rat} (x0 x1 : Operand) (w : World) (ρ : Operand→Value) (h : All2 w [Rt q0,Rt q1] ((((#[(0,x0),(1,x1)] : Array (Nat × Operand)).toList.map (·.2))).map ρ)) : ∃ v,(Instr.build 51 ((#[(0,x0),(1,x1)] : Array (Nat × Operand)).map fun (i,x) => (i,ρ x))).run Tryz.prog w=.ok v w∧(Agg [Rt q0,Rt q1]).on v w := by
 have h' : All2 w [Rt q0,Rt q1] [ρ x0,ρ x1] := h
 refine ⟨.agg #[ρ x0,ρ x1],?_,_,rfl,h'⟩
 obtain ⟨g0,e0,_⟩ := h'.1
 obtain ⟨g1,e1,_⟩ := h'.2.1
 clear h h'
 simp [go_sem,e0,e1]
theorem Yv {w : World} {F G H : Fact} {vs : List Value} (h : All2 w [F,G,H] vs) : ∃ u v x,vs=[u,v,x]∧F.on u w∧G.on v w∧H.on x w := by
 match vs,h with
 | [u,v,x],h => exact ⟨u,v,x,rfl,h.1,h.2.1,h.2.2.1⟩
abbrev V2 (x y : Rat) : Fact := Agg [Rt x,Rt y]
abbrev T2 (x y : Rat) : Fact := Agg [Tt x,Tt y]
abbrev T3 (x y z : Rat) : Fact := Agg [Tt x,Tt y,Tt z]
theorem V2.vv {x y : Rat} {v : Value} {w : World} (h : (V2 x y).on v w) : VV w v x y := by
 obtain ⟨cs,rfl,hall⟩ := h
 obtain ⟨u,v,rfl,h1,h2⟩ := Xe hall
 exact ⟨u,v,rfl,h1,h2⟩
theorem V2.of {x y : Rat} {v : Value} {w : World} (h : VV w v x y) : (V2 x y).on v w := by
 obtain ⟨p,q,rfl,h1,h2⟩ := h
 exact ⟨[p,q],rfl,h1,h2,trivial⟩
theorem Ju (vs : Array Value) (w : World) : (callFunc 15 vs).run Tryz.prog w=.ok (.enter 15 vs) w := Zd Tryz.func15 (by kernel_rfl) (by kernel_rfl) vs w
theorem QK (vs : Array Value) (w : World) : (callFunc 17 vs).run Tryz.prog w=.ok (.enter 17 vs) w := Zd Tryz.func17 (by kernel_rfl) (by kernel_rfl) vs w
theorem Jg (vs : Array Value) (w : World) : (callFunc 24 vs).run Tryz.prog w=.ok (.enter 24 vs) w := Zd Tryz.func24 (by kernel_rfl) (by kernel_rfl) vs w
theorem Zh (vs : Array Value) (w : World) : (callFunc 16 vs).run Tryz.prog w=.ok (.enter 16 vs) w := Zd Tryz.func16 (by kernel_rfl) (by kernel_rfl) vs w
theorem Yn (vs : Array Value) (w : World) : (callFunc 23 vs).run Tryz.prog w=.ok (.enter 23 vs) w := Zd Tryz.func23 (by kernel_rfl) (by kernel_rfl) vs w
theorem YO (vs : Array Value) (w : World) : (callFunc 27 vs).run Tryz.prog w=.ok (.enter 27 vs) w := Zd Tryz.func27 (by kernel_rfl) (by kernel_rfl) vs w
theorem XA (vs : Array Value) (w : World) : (callFunc 26 vs).run Tryz.prog w=.ok (.enter 26 vs) w := Zd Tryz.func26 (by kernel_rfl) (by kernel_rfl) vs w
theorem Yl (vs : Array Value) (w : World) : (callFunc 25 vs).run Tryz.prog w=.ok (.enter 25 vs) w := Zd Tryz.func25 (by kernel_rfl) (by kernel_rfl) vs w
theorem Zt (vs : Array Value) (w : World) : (callFunc 13 vs).run Tryz.prog w=.ok (.enter 13 vs) w := Zd Tryz.func13 (by kernel_rfl) (by kernel_rfl) vs w
theorem XH (vs : Array Value) (w : World) : (callFunc 21 vs).run Tryz.prog w=.ok (.enter 21 vs) w := Zd Tryz.func21 (by kernel_rfl) (by kernel_rfl) vs w
theorem YJ (vs : Array Value) (w : World) : (callFunc 22 vs).run Tryz.prog w=.ok (.enter 22 vs) w := Zd Tryz.func22 (by kernel_rfl) (by kernel_rfl) vs w
theorem Xi (vs : Array Value) (w : World) : (callFunc 18 vs).run Tryz.prog w=.ok (.enter 18 vs) w := Zd Tryz.func18 (by kernel_rfl) (by kernel_rfl) vs w
theorem JF (vs : Array Value) (w : World) : (callFunc 19 vs).run Tryz.prog w=.ok (.enter 19 vs) w := Zd Tryz.func19 (by kernel_rfl) (by kernel_rfl) vs w
theorem JA (vs : Array Value) (w : World) : (callFunc 20 vs).run Tryz.prog w=.ok (.enter 20 vs) w := Zd Tryz.func20 (by kernel_rfl) (by kernel_rfl) vs w
theorem XY (vs : Array Value) (w : World) : (callFunc 14 vs).run Tryz.prog w=.ok (.enter 14 vs) w := Zd Tryz.func14 (by kernel_rfl) (by kernel_rfl) vs w
theorem JW (vs : Array Value) (w : World) : (callFunc 6 vs).run Tryz.prog w=.ok (.enter 6 vs) w := Zd Tryz.func6 (by kernel_rfl) (by kernel_rfl) vs w
theorem con_Of {s : ByteArray} (hs : s.size≤4294967280) : Con Tryz.prog QY 13 [Tx s] (Rt (Cx.rd s.data.toList)) := fun w vs hp h => by
 obtain ⟨v0,rfl,h0⟩ := JG h
 cases h0
 refine (YI s w hp.2 hs).mono ?_
 rintro _ w' ⟨hb,g,rfl,_,h⟩
 exact ⟨hb,_,rfl,g,rfl,h⟩
theorem Lh {q : Rat} {s : ByteArray} {k : Nat} (e : s.data.toList=tx q) (f : QS k q) (hk : 2*k+4≤4294967280) : s.size≤4294967280 := by
 have := tx_len f
 rw [← e,Iw] at this
 omega
theorem EL {x : Rat} {k : Nat} (f : QS k x) (hk : 2*k+4≤4294967280) : Con Tryz.prog QY 13 [Tt x] (Rt x) := fun w vs hp h => by
 obtain ⟨v0,rfl,s,rfl,hs⟩ := JG h
 refine (YI s w hp.2 (Lh hs f hk)).mono ?_
 rintro _ w' ⟨hb,g,rfl,_,h⟩
 rw [hs,Gd] at h
 exact ⟨hb,_,rfl,g,rfl,h⟩
theorem DK {x y : Rat} {k l : Nat} (fx : QS k x) (fy : QS l y) (hk : 2*k+4≤4294967280) (hl : 2*l+4≤4294967280) : Con Tryz.prog QY 21 [T2 x y] (V2 x y) := fun w vs hp h => by
 obtain ⟨v0,rfl,cs,rfl,hc⟩ := JG h
 obtain ⟨u,v,rfl,⟨s,rfl,hs⟩,t,rfl,ht⟩ := Xe hc
 refine (Me s t w hp.2 (Lh hs fx hk) (Lh ht fy hl)).mono ?_
 rintro _ w' ⟨hb,v,rfl,h⟩
 rw [hs,ht,Gd,Gd] at h
 exact ⟨hb,v,rfl,V2.of h⟩
theorem Sc {ax az bx bz : Rat} {k : Nat} (f1 : QS k ax) (f2 : QS k az) (f3 : QS k bx) (f4 : QS k bz) (hk : 32*k+64≤35184372088640) : Con Tryz.prog QY 22 [V2 ax az,V2 bx bz] (Rt ((ax - bx)*(ax - bx)+(az - bz)*(az - bz))) := fun w vs hp h => by
 obtain ⟨u,v,rfl,h0,h1⟩ := Xe h
 exact (SI (V2.vv h0) (V2.vv h1) f1 f2 f3 f4 hk).mono fun e w' ⟨hb,v,e1,h⟩ => ⟨hb,v,e1,h⟩
theorem RH {x z : Rat} {k : Nat} (fx : QS k x) (fz : QS k z) (hk : k≤35184372088640) : Con Tryz.prog QY 18 [V2 x z] (T2 x z) := fun w vs hp h => by
 obtain ⟨u,rfl,h0⟩ := JG h
 refine (Cf (V2.vv h0) fx fz hk).mono ?_
 rintro _ w' ⟨hb,rfl⟩
 exact ⟨hb,_,rfl,[_,_],rfl,⟨_,rfl,by simp⟩,⟨_,rfl,by simp⟩,trivial⟩
theorem Gh {x : Rat} {k : Nat} (fx : QS k x) (h : 2*(k+1)+1≤35184372088640) : Con Tryz.prog QY 19 [Rt x] (Rt (x*x)) := fun w vs hp hall => by
 obtain ⟨v0,rfl,h1⟩ := JG hall
 exact (Be h1 fx h).mono fun e w' ⟨hb,v,e1,h⟩ => ⟨hb,v,e1,h⟩
theorem Le {x y : Rat} {k l : Nat} (fx : QS k x) (fy : QS l y) (h : k+l+1≤35184372088640) : Con Tryz.prog QY 20 [Rt x,Rt y] (Bo (decide (x=y))) := fun w vs hp hall => by
 obtain ⟨v0,v1,rfl,h1,h2⟩ := Xe hall
 exact (Te h1 h2 fx fy h).mono fun e w' ⟨hb,e1⟩ => ⟨hb,_,e1,rfl⟩
theorem KO {q0 q1 z : Rat} {k : Nat} (e : z=q0*q1) (fq0 : QS k q0) (fq1 : QS k q1) (hk : 2*(k+1)+1≤35184372088640) : ConS Tryz.prog QY 14 [Dm 28 2 [Rt q0,Rt q1]] (Rt z) := fun w vs hp hall => by
 obtain ⟨v0,rfl,h1⟩ := Bb hall
 refine (Ya (Ee (qs := [q0,q1]) h1) (K := k) (by simp [fq0,fq1]) (by simp) (by simpa using hk)).mono ?_
 rintro _ w' ⟨hb,v,rfl,hv⟩
 refine ⟨hb,v,rfl,?_⟩
 rw [e]
 have : rprod [q0,q1]=q0*q1 := by simp [rprod,Rat.one_mul]
 rw [← this]
 exact hv
theorem ZX {w : World} {g : Nat} {q : Rat} {k : Nat} (h : RV w g q) (f : QS k q) (hk : k≤35184372088640) : Calls Tryz.prog 17 #[.pointer (some ⟨g,0,none⟩)] w fun e w' => Below w.heap.size w w'∧∃ g',e=.returned (.pointer (some ⟨g',0,none⟩))∧w.heap.size≤g'∧Own2 w' g' q.den := by
 have hk1 := Blk.new w #[.bool false,.slice none 0 0] 32
 have hb := Qf w (.cells #[.bool false,.slice none 0 0] 32)
 have HK := Qa hk1
 have HB := Qa hb
 have HR := Qa (h.below hb)
 have HL := Qa h.lt
 have F := Qa (Qm f.den hk)
 have HSZ : Hid ((w.alloc (.cells #[.bool false,.slice none 0 0] 32)).heap.size=w.heap.size+1) := Qa (by simp)
 clear hk1 hb h f
 go_enter Tryz.func17,Tryz.ntmps17
 go_wp2_with fail
 generalize w.alloc (.cells #[.bool false,.slice none 0 0] 32)=W at *
 refine (Za HR.out).mono ?_
 rintro e w1 ⟨hb1,p,rfl,hp,ha⟩
 have hkk := HK.out.below hb1 (by rw [HSZ.out]; omega)
 have HK1 := Qa hkk
 have HP := Qa hp
 have HA := Qa (ha w.heap.size (by have := HL.out; omega) (by rw [HSZ.out]; omega))
 have HB1 := Qa (HB.out.trans (hb1.mono HB.out.size))
 clear hkk hp ha hb1
 go_wp2_with fail
 refine (Xp (At2.blk HK1.out) HP.out HA.out (by rw [Int.natAbs_natCast]; exact F.out)).mono ?_
 rintro e w2 ⟨rfl,hg⟩
 obtain ⟨ho,hbl⟩ := hg.own HK1.out
 have HO := Qa ho
 have HB2 := Qa (HB1.out.trans (hbl w.heap.size (Nat.le_refl _) HB1.out.size))
 clear hg ho hbl
 go_wp2
 go_ret
 exact ⟨HB2.out,_,rfl,Nat.le_refl _,HO.out⟩
theorem Gv {n : Nat} (hn : n < 9223372036854775808) : Con Tryz.prog QY 27 [In (n : Int)] (Iv (n : Int)) := fun w vs hp hall => by
 obtain ⟨v0,rfl,h⟩ := JG hall
 cases h
 refine (Zq n hn w).mono ?_
 rintro _ w' ⟨hb,g,rfl,_,ho⟩
 exact ⟨hb,_,rfl,g,rfl,Or.inl ho⟩
def Cz (p : Prop) : Fact := ⟨fun v _ => ∃ c : Int,v=.int .i64 c∧(c=0 ↔ p),fun _ h => h⟩
def Cl (p : Prop) : Fact := ⟨fun v _ => ∃ c : Int,v=.int .i64 c∧(c < 0 ↔ p),fun _ h => h⟩
theorem Eo {x y : Rat} {k l : Nat} (fx : QS k x) (fy : QS l y) (h : k+l+1≤35184372088640) : Con Tryz.prog QY 25 [Rt x,Rt y] (Cl (x < y)) := fun w vs hp hall => by
 obtain ⟨v0,v1,rfl,⟨gx,rfl,hx⟩,gy,rfl,hy⟩ := Xe hall
 refine (Wk hx hy fx fy h).mono ?_
 rintro _ w' ⟨hb,c,rfl,h1,_⟩
 exact ⟨hb,_,rfl,c,rfl,by rw [h1,Al]⟩
def Ia (B : Nat) (z : Int) : Fact := ⟨fun v w => ∃ g,v=.pointer (some ⟨g,0,none⟩)∧B≤g∧Own2 w g z,fun hg ⟨g,e,h1,h2⟩ => ⟨g,e,h1,h2.grows hg⟩⟩
theorem OB {B : Nat} {z : Int} {v : Value} {w : World} (h : (Ia B z).on v w) : (Iv z).on v w := by
 obtain ⟨g,e,_,h⟩ := h
 exact ⟨g,e,Or.inl h⟩
theorem IB {G G' : Nat} {z : Int} {v : Value} {w : World} (h : (Ib G z).on v w) (hG : G≤G') : XO v G' := by
 obtain ⟨g,e,h1,_⟩ := h
 exact GJ e (by omega)
theorem Xs {B G' : Nat} {z : Int} {v : Value} {w : World} (h : (Ia B z).on v w) (hG : G' < B) : XO v G' := by
 obtain ⟨g,e,h1,_⟩ := h
 exact GJ e (by omega)
theorem IL {G G' : Nat} {z : Int} {v : Value} {w : World} (h : (Ig G z).on v w) (hG : G ≠ G') : XO v G' := GJ h.1 hG
attribute [local go_sem ↓] Go.wp_at_zero Go.wp_at_succ
theorem Do {w : World} {px py : Value} {x y : Int} (hx : IV w px x) (hy : IV w py y) (sx : Small x.natAbs) (sy : Small y.natAbs) :
  Calls Tryz.prog 26 #[px,py] w fun e w' => Below w.heap.size w w'∧∃ c : Int,e=.returned (.int .i64 c)∧(c=0 ↔ x.natAbs=y.natAbs) := by
 obtain ⟨g1,o1,a1,n1,c1,rfl,x0,x1,x2,xl⟩ := hx
 obtain ⟨g2,o2,a2,n2,c2,rfl,y0,y1,y2,yl⟩ := hy
 have HX := Qa x2
 have HY := Qa y2
 have SX := Qa sx
 have SY := Qa sy
 clear x2 y2 sx sy x0 y0
 go_enter Tryz.func26,Tryz.ntmps26
 go_wp2_with fail
 have HS : Hid (∀ w',Below w.heap.size w w'→w'.cell? ⟨g1,o1+1,none⟩=some (.slice a1 n1 c1)∧w'.cell? ⟨g2,o2+1,none⟩=some (.slice a2 n2 c2)) := fun w' hb => ⟨(hb.cell (p := ⟨g1,o1+1,none⟩) xl).trans x1,(hb.cell (p := ⟨g2,o2+1,none⟩) yl).trans y1⟩
 go_region_held3 (fun w' => w'.cell? ⟨g1,o1+1,none⟩=some (.slice a1 n1 c1)∧w'.cell? ⟨g2,o2+1,none⟩=some (.slice a2 n2 c2)) (first | go_keep | exact hs1)
  (first
   | (go_at_call 65; refine (Vd (HX.out.below (Below.drew (Below.refl _ _))) (HY.out.below (Below.drew (Below.refl _ _))) SX.out SY.out).mono ?_; rintro e w1 ⟨hb1,c,rfl,hc1,hc2,hc3,hc4⟩; have hbl1 : Below w.heap.size w w1 := (Below.drew (Below.refl _ _)).trans hb1; have hs1 := HS.out w1 hbl1))
 all_goals
  have HC := Qa hc2
  clear hc1 hc2
  go_wp2
  go_ret
  exact ⟨hbl1,c,rfl,HC.out⟩
theorem Gw {a b : Int} (sa : Small a.natAbs) (sb : Small b.natAbs) : Con Tryz.prog QY 26 [Iv a,Iv b] (Cz (a.natAbs=b.natAbs)) := fun w vs hp hall => by
 obtain ⟨v0,v1,rfl,h1,h2⟩ := Xe hall
 refine (Do (Xa h1) (Xa h2) sa sb).mono ?_
 rintro _ w' ⟨hb,c,rfl,h⟩
 exact ⟨hb,_,rfl,c,rfl,h⟩
theorem YX {w : World} {g : Nat} {y0 y1 y2 y3 px : Value} {z : Int} (hk : Blk w g #[y0,y1,y2,y3] 34) (hno : (#[y0,y1,y2,y3] : Array Value).all Ql=true) (hx : IV w px z) (sz : Small z.natAbs) :
  Calls Tryz.prog 15 #[.pointer (some ⟨g,0,none⟩),px] w fun e w' => e=.returned (.pointer (some ⟨g,0,none⟩))∧Save g w w'∧RV w' g (z : Rat) := by
 have HK := Qa hk
 have LG := Qa hk.lt
 have HX := Qa hx
 have SZ := Qa sz
 have S1 : Hid (Small 1) := Qm (k := 1) (by decide) (by decide)
 obtain ⟨gx,ox,_,_,_,rfl,_⟩ := hx
 clear hk sz
 go_enter Tryz.func15,Tryz.ntmps15
 go_wp2_with fail
 refine (Zq 1 (by decide) w).mono ?_
 rintro e w2 ⟨hb2,g2,rfl,hg2,ho2⟩
 have HO2 := Qa ho2
 have HB2 := Qa hb2
 have HX2 := Qa (HX.out.below hb2)
 clear ho2 hb2
 go_wp2_with fail
 refine (Zl (z := z) (b := 1) (HK.out.below HB2.out LG.out) hno HX2.out HO2.out.iv (by decide) SZ.out S1.out).mono ?_
 rintro e w3 ⟨rfl,hs,hr⟩
 rw [Rat.mkRat_one] at hr
 have HR := Qa (And.intro ((Save.of HB2.out).trans hs) hr)
 clear hs hr
 go_wp2
 go_ret
 exact ⟨rfl,HR.out.1,HR.out.2⟩
end Go.Proofs.YthhnabccdehmgaaGreatDoor
/- GFE -/
namespace Go.Proofs.YthhnabccdehmgaaGreatDoor
open Go.RowKit Cx
def Lv (x y z : Rat) : Fact := ⟨fun v w => LV w v x y z,fun hg ⟨c,d,f,e,h1,h2,h3⟩ => ⟨c,d,f,e,h1.grows hg,h2.grows hg,h3.grows hg⟩⟩
theorem cok_lv (x y z : Rat) : UW 9 (Lv x y z) := fun v w h => by
 obtain ⟨c,d,f,e,_⟩ := h
 exact ⟨[.bool c.n,.slice c.u c.nu c.cu,.slice c.l c.nl c.cl,.bool d.n,.slice d.u d.nu d.cu,.slice d.l d.nl d.cl,.bool f.n,.slice f.u f.nu f.cu,.slice f.l f.nl f.cl],e,rfl,by simp [Ql,Value.oneCell']⟩
theorem Lb : Tryz.prog.cellsOf 92=9 := by kernel_rfl
theorem boxes_K {F : Fact} (hc : UW 9 F) : Ao 92 F := fun w v hv => by
 obtain ⟨vs,rfl,hlv,hok⟩ := hc v w hv
 match vs,hlv with
 | [y0,y1,y2,y3,y4,y5,y6,y7,y8],_ =>
  refine ⟨[y0,y1,y2,y3,y4,y5,y6,y7,y8],?_,rfl,Ub hok,by rw [Lb]; rfl⟩
  clear hv hok
  simp [go_sem]
theorem NI (G : Nat) (w : World) : (Instr.fieldAt 92 (.pointer (some ⟨G,0,none⟩)) 0).run Tryz.prog w=.ok (.pointer (some ⟨G,0,none⟩)) w := by
 simp [go_sem]
theorem NV (G : Nat) (w : World) : (Instr.fieldAt 92 (.pointer (some ⟨G,0,none⟩)) 1).run Tryz.prog w=.ok (.pointer (some ⟨G,6,none⟩)) w := by
 simp [go_sem]
theorem part_lw {x y z : Rat} : Yp Tryz.prog 68 0 (Lv x y z) (Wv x y) := fun w G cs t hk h => by
 obtain ⟨c,d,f,e,h1,h2,h3⟩ := h
 have ecs : cs.toArray=_ := Value.agg.inj e
 rw [ecs] at hk
 have k0 := hk.cell 0
 have k1 := hk.cell 1
 have k2 := hk.cell 2
 have k3 := hk.cell 3
 have k4 := hk.cell 4
 have k5 := hk.cell 5
 refine ⟨_,?_,⟨c,d,rfl,h1,h2⟩⟩
 simp only [List.getElem?_toArray,List.getElem?_cons_zero,List.getElem?_cons_succ] at k0 k1 k2 k3 k4 k5
 clear hk h1 h2 h3
 simp [go_sem,k0,k1,k2,k3,k4,k5]
theorem part_lq {x y z : Rat} : Yp Tryz.prog 63 6 (Lv x y z) (Qv z) := fun w G cs t hk h => by
 obtain ⟨c,d,f,e,h1,h2,h3⟩ := h
 have ecs : cs.toArray=_ := Value.agg.inj e
 rw [ecs] at hk
 have k0 := hk.cell 6
 have k1 := hk.cell 7
 have k2 := hk.cell 8
 refine ⟨_,?_,h3⟩
 simp only [List.getElem?_toArray,List.getElem?_cons_zero,List.getElem?_cons_succ] at k0 k1 k2
 clear hk h1 h2 h3
 simp [go_sem,k0,k1,k2]
def NL (F : Fact) : Prop := ∀ v w,F.on v w→Ql v=true∧v.oneCell'=true
theorem Sk {F G H : Fact} (h1 : NL F) (h2 : NL G) (h3 : NL H) : UW 3 (Agg [F,G,H]) := fun v w ⟨cs,e,hall⟩ => by
 obtain ⟨x,y,z,rfl,hx,hy,hz⟩ := Yv hall
 exact ⟨[x,y,z],e,rfl,by simp only [List.mem_cons,List.not_mem_nil,or_false,forall_eq_or_imp,forall_eq]; exact ⟨h1 _ _ hx,h2 _ _ hy,h3 _ _ hz⟩⟩
theorem KP : Tryz.prog.cellsOf 43=3 := by kernel_rfl
theorem UV {F : Fact} : PS Tryz.prog 43 F F := fun w G ⟨cs,hk,hF,_,hln⟩ => by
 rw [KP] at hln
 match cs,hln with
 | [x0,x1,x2],_ =>
  refine ⟨.agg #[x0,x1,x2],?_,hF⟩
  have k0 : w.cell? ⟨G,0,none⟩=some x0 := hk.cell 0
  have k1 : w.cell? ⟨G,1,none⟩=some x1 := hk.cell 1
  have k2 : w.cell? ⟨G,2,none⟩=some x2 := hk.cell 2
  clear hk hF
  simp [go_sem,k0,k1,k2]
theorem YG {F : Fact} (hc : UW 3 F) : Fc Tryz.prog 43 F F := fun w G F0 v ⟨cs,hk,_,hno,hln⟩ hv => by
 obtain ⟨vs,rfl,hlv,hok⟩ := hc v w hv
 rw [KP] at hln
 match cs,hln,vs,hlv with
 | [x0,x1,x2],_,[y0,y1,y2],_ =>
  have hbx : Boxed w G := ⟨_,_,hk,by decide,hno⟩
  have hk2 := (((hk.set 0 y0).set 1 y1).set 2 y2)
  have hs : Save G w ((((w.setCell ⟨G,0,none⟩ y0).setCell ⟨G,1,none⟩ y1).setCell ⟨G,2,none⟩ y2)) := ((((PQ G w).set 0 y0).set 1 y1).set 2 y2)
  refine ⟨_,?_,hs,[y0,y1,y2],by simpa using hk2,F.st (Grows.save hs hbx) hv,Ub hok,by rw [KP]; rfl⟩
  have r0 : (store ⟨G,0,none⟩ y0).run Tryz.prog w=.ok () (w.setCell ⟨G,0,none⟩ y0) := Oh (c := x0) _ (hok y0 (by simp)).2 (by rw [hk.cell 0]; rfl) (hk.frozen 0)
  have r1 : (store ⟨G,1,none⟩ y1).run Tryz.prog (w.setCell ⟨G,0,none⟩ y0)=.ok () ((w.setCell ⟨G,0,none⟩ y0).setCell ⟨G,1,none⟩ y1) := Oh (c := x1) _ (hok y1 (by simp)).2 (by rw [(hk.set 0 y0).cell 1]; rfl) ((hk.set 0 y0).frozen 1)
  have r2 : (store ⟨G,2,none⟩ y2).run Tryz.prog ((w.setCell ⟨G,0,none⟩ y0).setCell ⟨G,1,none⟩ y1)=.ok () (((w.setCell ⟨G,0,none⟩ y0).setCell ⟨G,1,none⟩ y1).setCell ⟨G,2,none⟩ y2) := Oh (c := x2) _ (hok y2 (by simp)).2 (by rw [((hk.set 0 y0).set 1 y1).cell 2]; rfl) (((hk.set 0 y0).set 1 y1).frozen 2)
  clear hk hk2 hs hbx hno hv hok
  simp [go_sem,r0,r1,r2]
theorem YR (w : World) : (Instr.alloc 43 true (.tuple #[])).run Tryz.prog w=.ok (.pointer (some ⟨w.heap.size,0,none⟩)) (w.alloc (.cells [.string ⟨#[]⟩,.string ⟨#[]⟩,.string ⟨#[]⟩].toArray 43)) := by
 simp [go_sem]
theorem WS (w : World) : (Agg [Jus (.string ⟨#[]⟩),Jus (.string ⟨#[]⟩),Jus (.string ⟨#[]⟩)]).on (.agg [.string ⟨#[]⟩,.string ⟨#[]⟩,.string ⟨#[]⟩].toArray) w := ⟨[.string ⟨#[]⟩,.string ⟨#[]⟩,.string ⟨#[]⟩],rfl,rfl,rfl,rfl,trivial⟩
theorem Vg (G : Nat) (w : World) : (Instr.fieldAt 43 (.pointer (some ⟨G,0,none⟩)) 0).run Tryz.prog w=.ok (.pointer (some ⟨G,0,none⟩)) w := by
 simp [go_sem]
theorem PJ (G : Nat) (w : World) : (Instr.fieldAt 41 (.pointer (some ⟨G,0,none⟩)) 1).run Tryz.prog w=.ok (.pointer (some ⟨G,1,none⟩)) w := by
 simp [go_sem]
theorem JY (q : Rat) : NL (Tt q) := fun _ _ h => by obtain ⟨s,rfl,_⟩ := h; exact ⟨rfl,rfl⟩
theorem Kf {F G H : Fact} : Yp Tryz.prog 41 0 (Agg [F,G,H]) (Agg [F,G]) := fun w K cs t hk h => by
 obtain ⟨cs',e,hc⟩ := h
 obtain ⟨u,v,x,rfl,h1,h2,h3⟩ := Yv hc
 have ecs : cs.toArray=_ := Value.agg.inj e
 rw [ecs] at hk
 have k0 := hk.cell 0
 have k1 := hk.cell 1
 refine ⟨.agg #[u,v],?_,[u,v],rfl,h1,h2,trivial⟩
 simp only [List.getElem?_toArray,List.getElem?_cons_zero,List.getElem?_cons_succ] at k0 k1
 clear hk h1 h2 h3
 simp [go_sem,k0,k1]
theorem NK {x y z : Rat} (x0 x1 : Operand) (w : World) (ρ : Operand→Value) (h : All2 w [Wv x y,Qv z] (((#[(0,x0),(1,x1)] : Array (Nat × Operand)).toList.map (·.2)).map ρ)) : ∃ v,(Instr.build 92 ((#[(0,x0),(1,x1)] : Array (Nat × Operand)).map fun (i,x) => (i,ρ x))).run Tryz.prog w=.ok v w∧(Lv x y z).on v w := by
 have h' : All2 w [Wv x y,Qv z] [ρ x0,ρ x1] := h
 obtain ⟨c,d,e0,h1,h2⟩ := h'.1
 obtain ⟨f,e1⟩ := YD h'.2.1
 refine ⟨.agg #[.bool c.n,.slice c.u c.nu c.cu,.slice c.l c.nl c.cl,.bool d.n,.slice d.u d.nu d.cu,.slice d.l d.nl d.cl,.bool f.n,.slice f.u f.nu f.cu,.slice f.l f.nl f.cl],?_,c,d,f,rfl,h1,h2,e1 ▸ h'.2.1⟩
 clear h h' h1 h2
 simp [go_sem,e0,e1]
theorem Oi {x y z : Rat} (x0 x1 : Operand) (w : World) (ρ : Operand→Value) (h : All2 w [T2 x y,Tt z] (((#[(0,x0),(1,x1)] : Array (Nat × Operand)).toList.map (·.2)).map ρ)) : ∃ v,(Instr.build 43 ((#[(0,x0),(1,x1)] : Array (Nat × Operand)).map fun (i,x) => (i,ρ x))).run Tryz.prog w=.ok v w∧(T3 x y z).on v w := by
 have h' : All2 w [T2 x y,Tt z] [ρ x0,ρ x1] := h
 obtain ⟨cs,e0,hc⟩ := h'.1
 obtain ⟨_,_,rfl,⟨s,rfl,hs⟩,t,rfl,ht⟩ := Xe hc
 obtain ⟨u,e1,hu⟩ := h'.2.1
 refine ⟨.agg #[.string s,.string t,.string u],?_,[_,_,_],rfl,⟨s,rfl,hs⟩,⟨t,rfl,ht⟩,⟨u,rfl,hu⟩,trivial⟩
 clear h h' hs ht hu hc
 simp [go_sem,e0,e1]
theorem WQ (vs : Array Value) (w : World) : (callFunc 49 vs).run Tryz.prog w=.ok (.enter 49 vs) w := Zd Tryz.func49 (by kernel_rfl) (by kernel_rfl) vs w
theorem Kb (vs : Array Value) (w : World) : (callFunc 83 vs).run Tryz.prog w=.ok (.enter 83 vs) w := Zd Tryz.func83 (by kernel_rfl) (by kernel_rfl) vs w
theorem CB (vs : Array Value) (w : World) : (callFunc 45 vs).run Tryz.prog w=.ok (.enter 45 vs) w := Zd Tryz.func45 (by kernel_rfl) (by kernel_rfl) vs w
theorem Gs (vs : Array Value) (w : World) : (callFunc 46 vs).run Tryz.prog w=.ok (.enter 46 vs) w := Zd Tryz.func46 (by kernel_rfl) (by kernel_rfl) vs w
theorem Vn (vs : Array Value) (w : World) : (callFunc 48 vs).run Tryz.prog w=.ok (.enter 48 vs) w := Zd Tryz.func48 (by kernel_rfl) (by kernel_rfl) vs w
theorem Xl (vs : Array Value) (w : World) : (callFunc 12 vs).run Tryz.prog w=.ok (.enter 12 vs) w := Zd Tryz.func12 (by kernel_rfl) (by kernel_rfl) vs w
theorem Nb {x y : Rat} {k : Nat} (fx : QS k x) (fy : QS k y) (hk : k≤35184372088640) : Con Tryz.prog QY 83 [Wv x y] (T2 x y) := fun w vs hp h => by
 obtain ⟨v0,rfl,h0⟩ := JG h
 refine (Pg h0 fx fy hk hp.1).mono ?_
 rintro _ w' ⟨hb,v,rfl,a,b,rfl,h1,h2⟩
 exact ⟨hb,_,rfl,[_,_],rfl,⟨a,rfl,h1⟩,⟨b,rfl,h2⟩,trivial⟩
theorem Ad {s : ByteArray} {x : Rat} (hs : s.size≤4294967296) (hx : Cx.rd s.data.toList=x) : Con Tryz.prog QY 45 [Tx s] (Qv x) := fun w vs hp h => by
 obtain ⟨v0,rfl,h0⟩ := JG h
 cases h0
 refine (KC s w hs).mono ?_
 rintro _ w' ⟨hb,v,rfl,h⟩
 rw [hx] at h
 exact ⟨hb,v,rfl,h⟩
theorem OP {x y : Rat} {k l : Nat} (fx : QS k x) (fy : QS l y) (hk : k+l+1≤35184372088640) : Con Tryz.prog QY 48 [Qv x,Qv y] (Qv (x*y)) := fun w vs hp h => by
 obtain ⟨u,v,rfl,h0,h1⟩ := Xe h
 exact (WJ h0 h1 fx fy hk).mono fun e w' ⟨hb,v,e1,h⟩ => ⟨hb,v,e1,h⟩
def rad (x : Rat) : Rat := (((1 : Int)) : Rat) / ((((2 : Int)) : Rat)*((x.den : Int) : Rat)*((x.den : Int) : Rat))
theorem EY {x y z : Rat} {k l : Nat} (fx : QS k x) (fy : QS k y) (hk : k≤35184372088640) (fz : QS l z) (hl : l≤35184372088640) : Con Tryz.prog QY 49 [Lv x y z] (T3 x y z) := by
 refine Wh (n := 10) Tryz.func49 rfl rfl (Nat.le_of_ble_eq_true rfl) ?_
 intro w a0 hp S0
 have HPRE : ∀ w',Below w.heap.size w w'→QY w' := fun w' hb => Vq hp hb
 refine wp_seq ?_
 refine Qz [.alloc 92 (Lv x y z),.alloc 43 (Agg [Tx ⟨#[]⟩,Tx ⟨#[]⟩,Tx ⟨#[]⟩])] ⟨S0,by decide +kernel⟩ (by kernel_rfl) (by kernel_rfl) rfl (by kernel_rfl) ?_ ?_
 ·intro C
  refine ASteps.cons ?_ (ASteps.cons ?_ (ASteps.nil))
  ·exact Jp rfl rfl (Qb rfl) rfl (ZB (by kernel_rfl)) (Qi C 0 (by kernel_rfl) rfl) (boxes_K (cok_lv _ _ _))
  ·exact ZF [.string ⟨#[]⟩,.string ⟨#[]⟩,.string ⟨#[]⟩] WS rfl rfl (Qb rfl) rfl (ZB (by kernel_rfl)) YR (by simp [Ql]) (by kernel_rfl)
 intro γ a1 w1 Z1 S1
 replace S1 : AS w 10 [(2,Jus (.pointer (some ⟨γ 1,0,none⟩))),(1,Jus (.pointer (some ⟨γ 0,0,none⟩)))] [(γ 0,92,Lv x y z),(γ 1,43,Agg [Tx ⟨#[]⟩,Tx ⟨#[]⟩,Tx ⟨#[]⟩])] a1 w1 := cast (by kernel_rfl) (S1.keep [1,2])
 generalize γ 0=G1_0 at S1
 generalize γ 1=G1_1 at S1
 clear S0
 refine Qh ?_
 refine wp_seq ?_
 refine Qz [.pure (Jus (.pointer (some ⟨G1_0,0,none⟩))),.pure (Wv x y),.pure (Agg [Tt (x),Tt (y)]),.pure (Jus (.pointer (some ⟨G1_0,6,none⟩))),.pure (Qv z),.pure (Tt (z)),.pure (Agg [Tt (x),Tt (y),Tt (z)]),.over 1 (Agg [Tt (x),Tt (y),Tt (z)])] ⟨S1,by decide +kernel⟩ (by kernel_rfl) (by kernel_rfl) rfl (by kernel_rfl) ?_ ?_
 ·intro C
  refine ASteps.cons ?_ (ASteps.cons ?_ (ASteps.cons ?_ (ASteps.cons ?_ (ASteps.cons ?_ (ASteps.cons ?_ (ASteps.cons ?_ (ASteps.cons ?_ (ASteps.nil))))))))
  ·exact Qp rfl rfl (Qb rfl) rfl (Qi C 1 (by kernel_rfl) rfl) (NI _)
  ·exact QJ (k := 0) rfl rfl rfl (Qb rfl) rfl (Qc C 0 0 rfl rfl rfl rfl rfl rfl) (Qy (by kernel_rfl)) part_lw
  ·exact Qj HPRE rfl rfl (Qb rfl) rfl Kb (Opns.cons (Qc C 1 0 rfl rfl rfl rfl rfl rfl) Opns.nil) ((Nb fx fy hk))
  ·exact Qp rfl rfl (Qb rfl) rfl (Qi C 1 (by kernel_rfl) rfl) (NV _)
  ·exact QJ (k := 0) rfl rfl rfl (Qb rfl) rfl (Qc C 3 0 rfl rfl rfl rfl rfl rfl) (Qy (by kernel_rfl)) part_lq
  ·exact Qj HPRE rfl rfl (Qb rfl) rfl Pa (Opns.cons (Qc C 4 0 rfl rfl rfl rfl rfl rfl) Opns.nil) ((Hn fz hl))
  ·exact Jt rfl rfl (Qb rfl) rfl (Opns.cons (Qc C 2 0 rfl rfl rfl rfl rfl rfl) (Opns.cons (Qc C 5 1 rfl rfl rfl rfl rfl rfl) Opns.nil)) (Oi _ _)
  ·exact XM C (k := 1) rfl rfl rfl (Qb rfl) rfl (Qi C 0 (by kernel_rfl) rfl) (by decide) (YP (by kernel_rfl)) (Qc C 6 0 rfl rfl rfl rfl rfl rfl) (YG (Sk (JY x) (JY y) (JY z)))
 intro γ a2 w2 Z2 S2
 replace S2 : AS w 10 [(2,Jus (.pointer (some ⟨G1_1,0,none⟩)))] [(G1_0,92,Lv x y z),(G1_1,43,Agg [Tt (x),Tt (y),Tt (z)])] a2 w2 := cast (by kernel_rfl) (S2.keep [2])
 clear S1
 refine Qh ?_
 refine wp_ret ?_
 exact S2.retCell 0 1 rfl rfl rfl UV fun v hv => ⟨S2.bel,v,rfl,hv⟩
theorem Ys {x : Rat} (fx : QS 4194309 x) : QS 8388621 (rad x) := by
 have fl : QS 4194309 ((x.den : Int) : Rat) := QS.low fx
 exact QS.div (⟨by decide,by decide⟩ : QS 1 ((1 : Int) : Rat)) (QS.mul (QS.mul (⟨by decide,by decide⟩ : QS 2 ((2 : Int) : Rat)) fl) fl)
theorem UF {s : ByteArray} {x : Rat} (hs0 : s.size≤1048576) (hx : Cx.rd s.data.toList=x) (fx0 : QS 4194309 x) : Con Tryz.prog QY 12 [Tx s] (T3 x (rad x) (rad x*rad x)) := by
 have hs : s.size≤4294967296 := by omega
 have fl : QS 4194309 ((x.den : Int) : Rat) := QS.low fx0
 have f1 : QS 1 ((1 : Int) : Rat) := ⟨by decide,by decide⟩
 have f2 : QS 2 ((2 : Int) : Rat) := ⟨by decide,by decide⟩
 have f2l : QS 4194311 (((2 : Int) : Rat)*((x.den : Int) : Rat)) := QS.mul f2 fl
 have f2ll := QS.mul f2l fl
 have fr := Ys fx0
 have fx : QS 8388621 x := QS.mono fx0 (by decide)
 have frr := QS.mul fr fr
 refine Wh (n := 29) Tryz.func12 rfl rfl (Nat.le_of_ble_eq_true rfl) ?_
 intro w a0 hp S0
 have HPRE : ∀ w',Below w.heap.size w w'→QY w' := fun w' hb => Vq hp hb
 refine wp_seq ?_
 refine Qz [.alloc 43 (Agg [Tx ⟨#[]⟩,Tx ⟨#[]⟩,Tx ⟨#[]⟩])] ⟨S0,by decide +kernel⟩ (by kernel_rfl) (by kernel_rfl) rfl (by kernel_rfl) ?_ ?_
 ·intro C
  refine ASteps.cons ?_ (ASteps.nil)
  ·exact ZF [.string ⟨#[]⟩,.string ⟨#[]⟩,.string ⟨#[]⟩] WS rfl rfl (Qb rfl) rfl (ZB (by kernel_rfl)) YR (by simp [Ql]) (by kernel_rfl)
 intro γ a1 w1 Z1 S1
 replace S1 : AS w 29 [(2,Jus (.pointer (some ⟨γ 0,0,none⟩))),(0,Tx s)] [(γ 0,43,Agg [Tx ⟨#[]⟩,Tx ⟨#[]⟩,Tx ⟨#[]⟩])] a1 w1 := cast (by kernel_rfl) (S1.keep [0,2])
 generalize γ 0=G1_0 at S1
 clear S0
 refine Qh ?_
 refine wp_seq ?_
 refine Qz [.pure (Tx s),.pure (Qv x),.alloc 63 (Any),.fill 2 (Qv x)] ⟨S1,by decide +kernel⟩ (by kernel_rfl) (by kernel_rfl) rfl (by kernel_rfl) ?_ ?_
 ·intro C
  refine ASteps.cons ?_ (ASteps.cons ?_ (ASteps.cons ?_ (ASteps.cons ?_ (ASteps.nil))))
  ·exact Qk rfl rfl (Qb rfl) rfl (Qi C 1 (by kernel_rfl) rfl)
  ·exact Qj HPRE rfl rfl (Qb rfl) rfl CB (Opns.cons (Qc C 0 0 rfl rfl rfl rfl rfl rfl) Opns.nil) ((Ad hs hx))
  ·exact ZF [.bool false,.slice none 0 0,.slice none 0 0] Uo rfl rfl (Qb rfl) rfl (Jy (s0 := 3) (k := 0) (by kernel_rfl) rfl rfl rfl rfl) XD (by simp [Ql]) (by kernel_rfl)
  ·exact JU C (a := 2) (k := 0) rfl rfl rfl rfl (Qb rfl) rfl rfl rfl rfl rfl (by decide) (Xf (by kernel_rfl)) (Qc C 1 1 rfl rfl rfl rfl rfl rfl) (Xx (Je _))
 intro γ a2 w2 Z2 S2
 replace S2 : AS w 29 [(3,Jus (.pointer (some ⟨γ 2,0,none⟩))),(2,Jus (.pointer (some ⟨G1_0,0,none⟩)))] [(G1_0,43,Agg [Tx ⟨#[]⟩,Tx ⟨#[]⟩,Tx ⟨#[]⟩]),(γ 2,63,Qv x)] a2 w2 := cast (by kernel_rfl) (S2.keep [2,3])
 generalize γ 2=G2_2 at S2
 clear S1
 refine Qh ?_
 refine wp_seq ?_
 refine Qz [.pure (Qv x),.pure (Tup [Qv ((x.num : Rat)),Qv ((((x.den : Int)) : Rat))]),.pure (Tup [Qv ((x.num : Rat)),Qv ((((x.den : Int)) : Rat))]),.pure (Qv ((x.num : Rat))),.pure (Qv ((((x.den : Int)) : Rat))),.alloc 63 (Any),.alloc 63 (Any),.fill 5 (Qv ((x.num : Rat))),.fill 6 (Qv ((((x.den : Int)) : Rat)))] ⟨S2,by decide +kernel⟩ (by kernel_rfl) (by kernel_rfl) rfl (by kernel_rfl) ?_ ?_
 ·intro C
  refine ASteps.cons ?_ (ASteps.cons ?_ (ASteps.cons ?_ (ASteps.cons ?_ (ASteps.cons ?_ (ASteps.cons ?_ (ASteps.cons ?_ (ASteps.cons ?_ (ASteps.cons ?_ (ASteps.nil)))))))))
  ·exact QX (k := 1) rfl rfl rfl (Qb rfl) rfl (Qi C 0 (by kernel_rfl) rfl) (Qy (by kernel_rfl)) Zk
  ·exact Qj HPRE rfl rfl (Qb rfl) rfl Gs (Opns.cons (Qc C 0 0 rfl rfl rfl rfl rfl rfl) Opns.nil) ((con_up PW))
  ·exact Qk rfl rfl (Qb rfl) rfl (Qc C 1 0 rfl rfl rfl rfl rfl rfl)
  ·exact Jk (k := 0) rfl rfl (Qb rfl) rfl (Qc C 2 0 rfl rfl rfl rfl rfl rfl) rfl
  ·exact Jk (k := 1) rfl rfl (Qb rfl) rfl (Qc C 2 0 rfl rfl rfl rfl rfl rfl) rfl
  ·exact ZF [.bool false,.slice none 0 0,.slice none 0 0] Uo rfl rfl (Qb rfl) rfl (Jy (s0 := 7) (k := 0) (by kernel_rfl) rfl rfl rfl rfl) XD (by simp [Ql]) (by kernel_rfl)
  ·exact ZF [.bool false,.slice none 0 0,.slice none 0 0] Uo rfl rfl (Qb rfl) rfl (Jy (s0 := 8) (k := 0) (by kernel_rfl) rfl rfl rfl rfl) XD (by simp [Ql]) (by kernel_rfl)
  ·exact JU C (a := 5) (k := 0) rfl rfl rfl rfl (Qb rfl) rfl rfl rfl rfl rfl (by decide) (Xf (by kernel_rfl)) (Qc C 3 1 rfl rfl rfl rfl rfl rfl) (Xx (Je _))
  ·exact JU C (a := 6) (k := 0) rfl rfl rfl rfl (Qb rfl) rfl rfl rfl rfl rfl (by decide) (Xf (by kernel_rfl)) (Qc C 4 1 rfl rfl rfl rfl rfl rfl) (Xx (Je _))
 intro γ a3 w3 Z3 S3
 replace S3 : AS w 29 [(5,Jus (.pointer (some ⟨γ 6,0,none⟩))),(3,Jus (.pointer (some ⟨G2_2,0,none⟩))),(2,Jus (.pointer (some ⟨G1_0,0,none⟩)))] [(G1_0,43,Agg [Tx ⟨#[]⟩,Tx ⟨#[]⟩,Tx ⟨#[]⟩]),(G2_2,63,Qv x),(γ 5,63,Qv ((x.num : Rat))),(γ 6,63,Qv ((((x.den : Int)) : Rat)))] a3 w3 := cast (by kernel_rfl) (S3.keep [2,3,5])
 generalize γ 5=G3_5 at S3
 generalize γ 6=G3_6 at S3
 clear S2
 refine Qh ?_
 refine wp_seq ?_
 refine Qz [.pure (Qv (((1 : Int) : Rat))),.pure (Qv (((2 : Int) : Rat))),.pure (Qv ((((x.den : Int)) : Rat))),.pure (Qv ((((2 : Int) : Rat)*(((x.den : Int)) : Rat)))),.pure (Qv ((((x.den : Int)) : Rat))),.pure (Qv ((((2 : Int) : Rat)*(((x.den : Int)) : Rat)*(((x.den : Int)) : Rat)))),.pure (Qv ((rad x))),.alloc 63 (Any),.fill 7 (Qv ((rad x)))] ⟨S3,by decide +kernel⟩ (by kernel_rfl) (by kernel_rfl) rfl (by kernel_rfl) ?_ ?_
 ·intro C
  refine ASteps.cons ?_ (ASteps.cons ?_ (ASteps.cons ?_ (ASteps.cons ?_ (ASteps.cons ?_ (ASteps.cons ?_ (ASteps.cons ?_ (ASteps.cons ?_ (ASteps.cons ?_ (ASteps.nil)))))))))
  ·exact Qj HPRE rfl rfl (Qb rfl) rfl GC (Opns.cons (QN _) Opns.nil) ((MW (by decide) (by decide)))
  ·exact Qj HPRE rfl rfl (Qb rfl) rfl GC (Opns.cons (QN _) Opns.nil) ((MW (by decide) (by decide)))
  ·exact QX (k := 3) rfl rfl rfl (Qb rfl) rfl (Qi C 0 (by kernel_rfl) rfl) (Qy (by kernel_rfl)) Zk
  ·exact Qj HPRE rfl rfl (Qb rfl) rfl Vn (Opns.cons (Qc C 1 0 rfl rfl rfl rfl rfl rfl) (Opns.cons (Qc C 2 1 rfl rfl rfl rfl rfl rfl) Opns.nil)) ((OP f2 fl (by decide)))
  ·exact QX (k := 3) rfl rfl rfl (Qb rfl) rfl (Qi C 0 (by kernel_rfl) rfl) (Qy (by kernel_rfl)) Zk
  ·exact Qj HPRE rfl rfl (Qb rfl) rfl Vn (Opns.cons (Qc C 3 0 rfl rfl rfl rfl rfl rfl) (Opns.cons (Qc C 4 1 rfl rfl rfl rfl rfl rfl) Opns.nil)) ((OP f2l fl (by decide)))
  ·exact Qj HPRE rfl rfl (Qb rfl) rfl GP (Opns.cons (Qc C 0 0 rfl rfl rfl rfl rfl rfl) (Opns.cons (Qc C 5 1 rfl rfl rfl rfl rfl rfl) Opns.nil)) ((Lj f1 f2ll (by decide)))
  ·exact ZF [.bool false,.slice none 0 0,.slice none 0 0] Uo rfl rfl (Qb rfl) rfl (Jy (s0 := 8) (k := 0) (by kernel_rfl) rfl rfl rfl rfl) XD (by simp [Ql]) (by kernel_rfl)
  ·exact JU C (a := 7) (k := 0) rfl rfl rfl rfl (Qb rfl) rfl rfl rfl rfl rfl (by decide) (Xf (by kernel_rfl)) (Qc C 6 1 rfl rfl rfl rfl rfl rfl) (Xx (Je _))
 intro γ a4 w4 Z4 S4
 replace S4 : AS w 29 [(6,Jus (.pointer (some ⟨γ 7,0,none⟩))),(3,Jus (.pointer (some ⟨G2_2,0,none⟩))),(2,Jus (.pointer (some ⟨G1_0,0,none⟩)))] [(G1_0,43,Agg [Tx ⟨#[]⟩,Tx ⟨#[]⟩,Tx ⟨#[]⟩]),(G2_2,63,Qv x),(G3_5,63,Qv ((x.num : Rat))),(G3_6,63,Qv ((((x.den : Int)) : Rat))),(γ 7,63,Qv ((rad x)))] a4 w4 := cast (by kernel_rfl) (S4.keep [2,3,6])
 generalize γ 7=G4_7 at S4
 clear S3
 refine Qh ?_
 refine wp_seq ?_
 refine Qz [.pure (Qv x),.pure (Qv ((rad x))),.pure (Wv x ((rad x))),.pure (Qv ((rad x))),.pure (Qv ((rad x))),.pure (Qv ((rad x*rad x))),.pure (Lv x ((rad x)) ((rad x*rad x))),.pure (Agg [Tt (x),Tt ((rad x)),Tt ((rad x*rad x))]),.over 0 (Agg [Tt (x),Tt ((rad x)),Tt ((rad x*rad x))])] ⟨S4,by decide +kernel⟩ (by kernel_rfl) (by kernel_rfl) rfl (by kernel_rfl) ?_ ?_
 ·intro C
  refine ASteps.cons ?_ (ASteps.cons ?_ (ASteps.cons ?_ (ASteps.cons ?_ (ASteps.cons ?_ (ASteps.cons ?_ (ASteps.cons ?_ (ASteps.cons ?_ (ASteps.cons ?_ (ASteps.nil)))))))))
  ·exact QX (k := 1) rfl rfl rfl (Qb rfl) rfl (Qi C 1 (by kernel_rfl) rfl) (Qy (by kernel_rfl)) Zk
  ·exact QX (k := 4) rfl rfl rfl (Qb rfl) rfl (Qi C 0 (by kernel_rfl) rfl) (Qy (by kernel_rfl)) Zk
  ·exact Jt rfl rfl (Qb rfl) rfl (Opns.cons (Qc C 0 0 rfl rfl rfl rfl rfl rfl) (Opns.cons (Qc C 1 1 rfl rfl rfl rfl rfl rfl) Opns.nil)) (Np _ _)
  ·exact QX (k := 4) rfl rfl rfl (Qb rfl) rfl (Qi C 0 (by kernel_rfl) rfl) (Qy (by kernel_rfl)) Zk
  ·exact QX (k := 4) rfl rfl rfl (Qb rfl) rfl (Qi C 0 (by kernel_rfl) rfl) (Qy (by kernel_rfl)) Zk
  ·exact Qj HPRE rfl rfl (Qb rfl) rfl Vn (Opns.cons (Qc C 3 0 rfl rfl rfl rfl rfl rfl) (Opns.cons (Qc C 4 1 rfl rfl rfl rfl rfl rfl) Opns.nil)) ((OP fr fr (by decide)))
  ·exact Jt rfl rfl (Qb rfl) rfl (Opns.cons (Qc C 2 0 rfl rfl rfl rfl rfl rfl) (Opns.cons (Qc C 5 1 rfl rfl rfl rfl rfl rfl) Opns.nil)) (NK _ _)
  ·exact Qj HPRE rfl rfl (Qb rfl) rfl WQ (Opns.cons (Qc C 6 0 rfl rfl rfl rfl rfl rfl) Opns.nil) ((EY fx (QS.mono fr (by decide) : QS 8388621 (rad x)) (by decide) frr (by decide)))
  ·exact XM C (k := 0) rfl rfl rfl (Qb rfl) rfl (Qi C 2 (by kernel_rfl) rfl) (by decide) (YP (by kernel_rfl)) (Qc C 7 0 rfl rfl rfl rfl rfl rfl) (YG (Sk (JY x) (JY (rad x)) (JY (rad x*rad x))))
 intro γ a5 w5 Z5 S5
 replace S5 : AS w 29 [(2,Jus (.pointer (some ⟨G1_0,0,none⟩)))] [(G1_0,43,Agg [Tt (x),Tt ((rad x)),Tt ((rad x*rad x))]),(G2_2,63,Qv x),(G3_5,63,Qv ((x.num : Rat))),(G3_6,63,Qv ((((x.den : Int)) : Rat))),(G4_7,63,Qv ((rad x)))] a5 w5 := cast (by kernel_rfl) (S5.keep [2])
 clear S4
 refine Qh ?_
 refine wp_ret ?_
 exact S5.retCell 0 0 rfl rfl rfl UV fun v hv => ⟨S5.bel,v,rfl,hv⟩
end Go.Proofs.YthhnabccdehmgaaGreatDoor
/- VW -/
namespace Go.Proofs.YthhnabccdehmgaaGreatDoor
open Go.RowKit Cx
def evL (σ : Nat→ByteArray) : List Rat→List Nd→List Rat
 | acc,[] => acc
 | acc,nd :: ns => evL σ (acc ++ [VY σ (fun a => acc.getD a 0) nd]) ns
theorem Dt {σ : Nat→ByteArray} : ∀ (ns : List Nd) (acc : List Rat),∃ r,evL σ acc ns=acc ++ r∧r.length=ns.length
 | [],acc => ⟨[],by simp [evL]⟩
 | nd :: ns,acc => by
  obtain ⟨r,h1,h2⟩ := Dt (σ := σ) ns (acc ++ [VY σ (fun a => acc.getD a 0) nd])
  refine ⟨VY σ (fun a => acc.getD a 0) nd :: r,?_,by simp [h2]⟩
  unfold evL
  rw [h1,List.append_assoc]
  rfl
theorem Eu {σ : Nat→ByteArray} : ∀ (ns : List Nd) (acc : List Rat) (i : Nat) (nd : Nd),wfB acc.length ns=true→ns[i]? = some nd→(evL σ acc ns).getD (acc.length+i) 0=VY σ (fun a => (evL σ acc ns).getD a 0) nd
 | [],_,_,_,_,h => by simp at h
 | n :: ns,acc,0,nd,hw,h => by
  have : n=nd := by simpa using h
  subst this
  unfold wfB at hw
  rw [Bool.and_eq_true] at hw
  obtain ⟨r,h1,_⟩ := Dt (σ := σ) ns (acc ++ [VY σ (fun a => acc.getD a 0) n])
  have e : evL σ acc (n :: ns)=acc ++ VY σ (fun a => acc.getD a 0) n :: r := by
   unfold evL
   rw [h1,List.append_assoc]
   rfl
  rw [e,Nat.add_zero,List.getD_eq_getElem?_getD,List.getElem?_append_right (Nat.le_refl _),Nat.sub_self]
  show VY σ (fun a => acc.getD a 0) n=_
  refine Mj hw.1 fun a ha => ?_
  rw [List.getD_eq_getElem?_getD,List.getD_eq_getElem?_getD,List.getElem?_append_left ha]
 | n :: ns,acc,i+1,nd,hw,h => by
  unfold wfB at hw
  rw [Bool.and_eq_true] at hw
  have := Eu (σ := σ) ns (acc ++ [VY σ (fun a => acc.getD a 0) n]) i nd (by rw [List.length_append]; exact hw.2) (by simpa using h)
  rw [List.length_append,show acc.length+[VY σ (fun a => acc.getD a 0) n].length+i=acc.length+(i+1) by simp; omega] at this
  exact this
def hB (q : Nat→Rat) : List (Nat × Nat × Nat × Nat)→Bool
 | [] => true
 | (k,a,b,r) :: l => (match k with
  | 0 => Nat.beq 1 r == decide (q a=0)
  | 1 => Nat.beq 1 r == decide (q a < 0)
  | 2 => Nat.beq 1 r == decide (0 < q a)
  | 3 => Nat.beq 1 r == decide (q a=q b)
  | 4 => Nat.beq 1 r == decide (q a=q b)
  | 6 => Nat.beq 1 r == decide (q a=0∧q b=0)
  | 5 => (!Nat.beq r 0 || decide (q a < 0)) && ((!Nat.beq r 1 || decide (q a=0)) && (!Nat.beq r 2 || decide (0 < q a)))
  | _ => false) && hB q l
theorem Oc {x : Bool} {p : Prop} [Decidable p] (h : (x == decide p)=true) : x=true ↔ p := by
 rw [beq_iff_eq] at h
 rw [h,decide_eq_true_eq]
theorem Hs {q : Nat→Rat} : ∀ {l : List (Nat × Nat × Nat × Nat)},hB q l=true→hAll q l
 | [],_ => trivial
 | (k,a,b,r) :: l,h => by
  unfold hB at h
  rw [Bool.and_eq_true] at h
  refine ⟨?_,Hs h.2⟩
  have h1 := h.1
  unfold hAt
  match k,h1 with
  | 0,h => exact Oc h
  | 1,h => exact Oc h
  | 2,h => exact Oc h
  | 3,h => exact Oc h
  | 4,h => exact Oc h
  | 6,h => exact Oc h
  | 5,h0 =>
   have h : ((!Nat.beq r 0 || decide (q a < 0)) && ((!Nat.beq r 1 || decide (q a=0)) && (!Nat.beq r 2 || decide (0 < q a))))=true := h0
   simp only [Bool.and_eq_true,Bool.or_eq_true,Bool.not_eq_true',decide_eq_true_eq] at h
   obtain ⟨h1,h2,h3⟩ := h
   refine ⟨fun e => ?_,fun e => ?_,fun e => ?_⟩
   ·subst e; rcases h1 with h1 | h1
    ·cases h1
    ·exact h1
   ·subst e; rcases h2 with h1 | h1
    ·cases h1
    ·exact h1
   ·subst e; rcases h3 with h1 | h1
    ·cases h1
    ·exact h1
theorem EW {N : List Nd} {H : List (Nat × Nat × Nat × Nat)} {K : List (FuncId × List AC)} {L C : List (List Nat × Nat)} {Z : List Nat} {q : Nat→Rat} {σ : Nat→ByteArray} {cl : List FuncId} {f : FuncId} {args : List AV} {vs : List Value} (k : Nat) (Y : Hy N H L C Z q σ) (hc : ∀ f ∈ cl,Closed f) (hm : (Tryz.prog).follows .mixedOrders=true) (hr : (PH (sx Tryz.prog N H K L C Z (prC cl)) k f args [] 0).map (·.1)=some (kB true)) {w : World} (hp : QY w)
  (hA : A2 (avOn (cOn (evS q σ) K (fun _ => none) w)) args vs) : Calls Tryz.prog f vs.toArray w fun e w' => Below w.heap.size w w'∧e=.returned (.bool true) := by
 rw [Option.map_eq_some_iff] at hr
 obtain ⟨⟨v,p⟩,h1,h2⟩ := hr
 dsimp only at h2
 subst h2
 exact AJ Y hc hm h1 hp hA
theorem Sa {N : List Nd} {H : List (Nat × Nat × Nat × Nat)} {K : List (FuncId × List AC)} {L C : List (List Nat × Nat)} {Z : List Nat} {cl : List FuncId} {f : FuncId} (k : Nat) (hc : ∀ f ∈ cl,Closed f) (hm : (Tryz.prog).follows .mixedOrders=true) (hw : wfB 0 N=true) (hz : szB Z N Z=true) (hl : litB N L=true) (hcn : canB N C=true)
  (hH : hB (fun a => (evL (fun _ => ⟨#[]⟩) [] N).getD a 0) H=true) (hr : (PH (sx Tryz.prog N H K L C Z (prC cl)) k f [] [] 0).map (·.1)=some (kB true)) : Closed f := fun w hp => by
 have hq : ∀ (a : Nat) nd,N[a]? = some nd→(fun a => (evL (fun _ => ⟨#[]⟩) [] N).getD a 0) a=VY (fun _ => ⟨#[]⟩) (fun a => (evL (fun _ => ⟨#[]⟩) [] N).getD a 0) nd := fun a nd h => by
  have := Eu (σ := fun _ => ⟨#[]⟩) N [] a nd hw h
  rw [List.length_nil,Nat.zero_add] at this
  exact this
 have h0 : ∀ a,N.length≤a→(fun a => (evL (fun _ => ⟨#[]⟩) [] N).getD a 0) a=0 := fun a ha => by
  obtain ⟨r,h1,h2⟩ := Dt (σ := fun _ => ⟨#[]⟩) N []
  show (evL (fun _ => ⟨#[]⟩) [] N).getD a 0=0
  rw [h1,List.nil_append,List.getD_eq_getElem?_getD,List.getElem?_eq_none (by omega)]
  rfl
 exact EW (vs := []) k (hy_of (σ := fun _ => ⟨#[]⟩) (fun _ => by decide) hw hz hl hcn hq h0 (Hs hH)) hc hm hr hp trivial
end Go.Proofs.YthhnabccdehmgaaGreatDoor
