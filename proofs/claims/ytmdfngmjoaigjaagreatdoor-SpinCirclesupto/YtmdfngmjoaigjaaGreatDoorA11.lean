/- Part 11 of the walks and of the mathematics under them: BQ BR BS BV BW BX BY BZ RA RB RC RD RF RG RK BQU BGC BGD BGE BPL RBS BPM BPN MathZ VQ VS VU BNN BNO BNM VT. -/
import Derived.Test.YtmdfngmjoaigjaaGreatDoorA8
import Derived.Deep.RegionWith
import Derived.Test.YtmdfngmjoaigjaaGreatDoorA5
import Derived.Laws.OwnMore
import Derived.Laws.IdiomStrings
import Derived.Test.YtmdfngmjoaigjaaGreatDoorA6
import Derived.Test.YtmdfngmjoaigjaaGreatDoorASh
import Derived.Shelf.Strings.SlTrimAscii
import Derived.Lib.SlTrimSet
import Derived.Lib.IndexBytes
import Derived.Test.YtmdfngmjoaigjaaGreatDoorA9
import Derived.Test.YtmdfngmjoaigjaaGreatDoorA10
import Derived.Deep.DeepCutAuto
import Derived.Deep.LoopGhost
import Derived.Test.YtmdfngmjoaigjaaGreatDoorA2
set_option maxHeartbeats 16000000
set_option maxRecDepth 100000
/- BQ -/
namespace Go.Proofs.YtmdfngmjoaigjaaGreatDoor
open Go.RowKit Cx
attribute [local go_sem ↓] Go.wp_at_zero Go.wp_at_succ
theorem Gh (g : Nat) (w : World) :
  Calls Tryz.prog 108 #[.pointer (some ⟨g,0,none⟩)] w fun e w' => w'=w∧e=.returned (.pointer (some ⟨g,0,none⟩)) := by
 go_enter Tryz.func108,Tryz.ntmps108
 go_wp2
 go_ret
 exact ⟨rfl,rfl⟩
theorem Et (n : Nat) : mkRat (n : Int) 1=(n : Rat) := by
 rw [Rat.mkRat_one]
 rfl
theorem GR {w : World} {g : Nat} {y0 y1 y2 y3 : Value} (n : Nat) (hn : n < 9223372036854775808) (hk : Blk w g #[y0,y1,y2,y3] 101) (hno : (#[y0,y1,y2,y3] : Array Value).all Za=true) :
  Calls Tryz.prog 50 #[.pointer (some ⟨g,0,none⟩),.int .i64 n] w fun e w' => e=.returned (.pointer (some ⟨g,0,none⟩))∧Save g w w'∧RV w' g (n : Rat) := by
 have HK := Qa hk
 have LG := Qa hk.lt
 have SN : Hid (Small ((n : Int)).natAbs) := by
  show Small _
  rw [Int.natAbs_natCast]
  exact QO (k := 63) hn (by decide)
 have S1 : Hid (Small 1) := QO (k := 1) (by decide) (by decide)
 clear hk
 go_enter Tryz.func50,Tryz.ntmps50
 go_wp2_with fail
 refine (Xh n hn w).mono ?_
 rintro e w1 ⟨hb1,g1,rfl,hg1,ho1⟩
 have HO1 := Qa ho1
 have HB1 := Qa hb1
 clear ho1 hb1
 go_wp2_with fail
 refine (Xh 1 (by decide) w1).mono ?_
 rintro e w2 ⟨hb2,g2,rfl,hg2,ho2⟩
 have HO2 := Qa ho2
 have HO1' := Qa (HO1.out.below hb2)
 have HB2 := Qa (HB1.out.trans (hb2.mono HB1.out.size))
 clear ho2 hb2
 go_wp2_with fail
 refine (JA (z := (n : Int)) (b := 1) (HK.out.below HB2.out LG.out) hno HO1'.out.iv HO2.out.iv (by decide) SN.out S1.out).mono ?_
 rintro e w3 ⟨rfl,hs,hr⟩
 rw [Et] at hr
 have HR := Qa (And.intro ((Save.of HB2.out).trans hs) hr)
 clear hs hr
 go_wp2
 go_ret
 exact ⟨rfl,HR.out.1,HR.out.2⟩
theorem Bd (n : Nat) (hn : n < 9223372036854775808) (w : World) :
  Calls Tryz.prog 15 #[.int .i64 n] w fun e w' => Below w.heap.size w w'∧∃ g,e=.returned (.pointer (some ⟨g,0,none⟩))∧w.heap.size≤g∧RV w' g (n : Rat) := by
 have hk := Blk.new w #[.bool false,.slice none 0 0,.bool false,.slice none 0 0] 101
 have hb := Qp w (.cells #[.bool false,.slice none 0 0,.bool false,.slice none 0 0] 101)
 go_enter Tryz.func15,Tryz.ntmps15
 go_wp2_with fail
 refine (GR n hn hk (by simp [Za])).mono ?_
 rintro e w1 ⟨rfl,hs,hr⟩
 have HR := Qa (And.intro (hb.trans (hs.below (Nat.le_refl _) hb.size)) hr)
 clear hs hr hb hk
 go_wp2
 go_ret
 exact ⟨HR.out.1,w.heap.size,rfl,Nat.le_refl _,HR.out.2⟩
end Go.Proofs.YtmdfngmjoaigjaaGreatDoor
/- BR -/
namespace Go.Proofs.YtmdfngmjoaigjaaGreatDoor
open Go.RowKit Cx
attribute [local go_sem ↓] Go.wp_at_zero Go.wp_at_succ
theorem neg_sign {x : Int} (h : -x ≠ 0) : (!decide (x < 0))=decide (-x < 0) := by
 by_cases h1 : x < 0
 ·simp [h1]; omega
 ·simp [h1]; omega
theorem CF {w : World} {g o : Nat} {px : Value} {x : Int} (h : At2 w g o) (hx : IV w px x) (sx : Small x.natAbs) :
  Calls Tryz.prog 128 #[.pointer (some ⟨g,o,none⟩),px] w fun e w' => e=.returned (.pointer (some ⟨g,o,none⟩))∧Gave w g o (-x) w' := by
 obtain ⟨g1,o1,a1,n1,c1,rfl,x0,x1,x2,xl⟩ := hx
 have H := Qa h
 have HX := Qa x2
 have SX := Qa sx
 have HS : Hid (∀ w',Below w.heap.size w w'→w'.cell? ⟨g1,o1,none⟩=some (.bool (decide (x < 0)))∧w'.cell? ⟨g1,o1+1,none⟩=some (.slice a1 n1 c1)) := fun w' hb => ⟨(hb.cell (p := ⟨g1,o1,none⟩) xl).trans x0,(hb.cell (p := ⟨g1,o1+1,none⟩) xl).trans x1⟩
 clear h x2 sx xl
 go_enter Tryz.func128,Tryz.ntmps128
 go_wp2_with fail
 go_region_with (first
  | (go_at_call 163; refine (Wf (w := w.drew) (HX.out.below (Below.drew (Below.refl _ _))) SX.out).mono ?_; rintro e w1 ⟨hb1,v1,rfl,hv1⟩; obtain ⟨ao,n,c,rfl,hn,hnb,hnz⟩ := ZJ hv1; have hbl1 : Below w.heap.size w w1 := (Below.drew (Below.refl _ w)).trans hb1; obtain ⟨u0,u1⟩ := HS.out w1 hbl1)
  | (go_at_call 123; refine (YG (n := n) (ao := ao) (c := c) _ (H.out.below hbl1)).mono ?_; rintro e w2 ⟨rfl,rfl⟩))
 all_goals
  go_wp2
  go_ret
  refine ⟨rfl,w1,ao,n,c,hbl1,?_,by rw [Int.natAbs_neg]; exact hv1⟩
  rw [IX (z := -x) _ (by rw [Int.natAbs_neg]; exact hnz) neg_sign]
theorem mkRat_own (q : Rat) : mkRat q.num q.den=q := Rat.mkRat_self q
theorem Mu {w : World} {g gx : Nat} {y0 y1 y2 y3 : Value} {x : Rat} {k : Nat} (hk : Blk w g #[y0,y1,y2,y3] 101) (hno : (#[y0,y1,y2,y3] : Array Value).all Za=true) (hx : RV w gx x) (fx : QS k x) (hkl : k≤35184372088640) :
  Calls Tryz.prog 127 #[.pointer (some ⟨g,0,none⟩),.pointer (some ⟨gx,0,none⟩)] w fun e w' => e=.returned (.pointer (some ⟨g,0,none⟩))∧Save g w w'∧RV w' g x := by
 have HX := Qa hx
 have HK := Qa hk
 have LG := Qa hk.lt
 have SX := Qa (Yl fx hkl)
 have DX := Qa (QO fx.den hkl)
 clear hx hk fx
 go_enter Tryz.func127,Tryz.ntmps127
 go_wp2_with fail
 go_region_held3 (fun _ => True) (trivial)
  (first
   | (go_at_call 87; refine (ZU (w := w.drew) (HX.out.below (Below.drew (Below.refl _ _)))).mono ?_; rintro e w1 ⟨hb1,p1,rfl,hv1,_⟩; have hbl1 : Below w.heap.size w w1 := (Below.drew (Below.refl _ w)).trans hb1)
   | (go_at_call 69; refine (JA (z := x.num) (b := x.den) (HK.out.below hbl1 LG.out) hno (RV.num (HX.out.below hbl1)) hv1 x.den_pos SX.out DX.out).mono ?_; rintro e w2 ⟨rfl,hs,hr⟩)
   )
 all_goals
  go_wp2
  go_ret
  rw [mkRat_own] at hr
  exact ⟨rfl,(Save.of hbl1).trans hs,hr⟩
theorem RV.at2 {w : World} {g : Nat} {q : Rat} (h : RV w g q) : At2 w g 0 := by
 obtain ⟨a1,l1,c1,a2,l2,c2,h0,_⟩ := h
 exact ⟨⟨_,h0.cell 0⟩,⟨_,h0.cell 1⟩,h0.frozen 0,h0.frozen 1,h0.lt⟩
theorem RV.neg {w w' : World} {g : Nat} {q : Rat} (h : RV w g q) (hg : Gave w g 0 (-q.num) w') : RV w' g (-q)∧Save g w w' := by
 refine ⟨?_,hg.save⟩
 have hh := h.held
 obtain ⟨a1,l1,c1,a2,l2,c2,h0,h1,h2⟩ := h
 obtain ⟨w1,ao,n,c,hbl,rfl,hn⟩ := hg
 have hb1 := h0.below hbl h0.lt
 have hh1 : TZ w1 g := ⟨_,_,hb1,by simp [Za]⟩
 refine ⟨ao,n,c,a2,l2,c2,?_,?_,?_⟩
 ·have := (hb1.set 1 (.slice ao n c)).set 0 (.bool (decide (-q.num < 0)))
  simpa using this
 ·rw [Rat.neg_num]
  exact hn.two hh1 rfl
 ·rcases h2 with h2 | ⟨e,h2⟩
  ·rw [Rat.neg_den]
   exact Or.inl ((h2.below hbl).two hh1 rfl)
  ·exact Or.inr ⟨e,by rw [h2]; rfl⟩
theorem Rl {w : World} {g gx : Nat} {y0 y1 y2 y3 : Value} {x : Rat} {k : Nat} (hk : Blk w g #[y0,y1,y2,y3] 101) (hno : (#[y0,y1,y2,y3] : Array Value).all Za=true) (hx : RV w gx x) (fx : QS k x) (hkl : k≤35184372088640) :
  Calls Tryz.prog 70 #[.pointer (some ⟨g,0,none⟩),.pointer (some ⟨gx,0,none⟩)] w fun e w' => e=.returned (.pointer (some ⟨g,0,none⟩))∧Save g w w'∧RV w' g (-x) := by
 have HX := Qa hx
 have HK := Qa hk
 have FX := Qa fx
 have SX := Qa (Yl fx hkl)
 clear hx hk fx
 go_enter Tryz.func70,Tryz.ntmps70
 go_wp2_with fail
 refine (Mu HK.out hno HX.out FX.out hkl).mono ?_
 rintro e w1 ⟨rfl,hs1,hr1⟩
 have HS1 := Qa hs1
 have HR1 := Qa hr1
 clear hs1 hr1
 go_wp2_with fail
 go_region_held3 (fun _ => True) (trivial)
  (first
   | (go_at_call 128; refine (CF (w := w1.drew) (HR1.out.below (Below.drew (Below.refl _ _))).at2 (HR1.out.below (Below.drew (Below.refl _ _))).num SX.out).mono ?_; rintro e w2 ⟨rfl,hg2⟩)
   )
 all_goals
  have hd : Below w1.heap.size w1 w1.drew := Below.drew (Below.refl _ _)
  obtain ⟨hr2,hs2⟩ := (HR1.out.below hd).neg hg2
  go_wp2
  go_ret
  exact ⟨rfl,HS1.out.trans ((Save.of hd).trans hs2),hr2⟩
end Go.Proofs.YtmdfngmjoaigjaaGreatDoor
/- BS -/
namespace Go.Proofs.YtmdfngmjoaigjaaGreatDoor
open Go.RowKit Cx
attribute [local go_sem ↓] Go.wp_at_zero Go.wp_at_succ
theorem Oh {w : World} {px py : Value} {x y : Int} (hx : IV w px x) (hy : IV w py y) (sx : Small x.natAbs) (sy : Small y.natAbs) :
  Calls Tryz.prog 88 #[px,py] w fun e w' => Below w.heap.size w w'∧∃ c : Int,e=.returned (.int .i64 c)∧(c < 0 ↔ x < y)∧(c=0 ↔ x=y) := by
 obtain ⟨g1,o1,a1,n1,c1,rfl,x0,x1,x2,xl⟩ := hx
 obtain ⟨g2,o2,a2,n2,c2,rfl,y0,y1,y2,yl⟩ := hy
 have HX := Qa x2
 have HY := Qa y2
 have SX := Qa sx
 have SY := Qa sy
 clear x2 y2 sx sy
 by_cases h1 : x < 0
 ·by_cases h2 : y < 0
  ·have x0' : w.cell? ⟨g1,o1,none⟩=some (.bool true) := by rw [x0,decide_eq_true h1]
   have y0' : w.cell? ⟨g2,o2,none⟩=some (.bool true) := by rw [y0,decide_eq_true h2]
   clear x0 y0
   go_enter Tryz.func88,Tryz.ntmps88
   go_wp2_with fail
   go_quiet (fail)
   go_wp2_with fail
   have HS : Hid (∀ w',Below w.heap.size w w'→(w'.cell? ⟨g1,o1+1,none⟩=some (.slice a1 n1 c1)∧w'.cell? ⟨g2,o2+1,none⟩=some (.slice a2 n2 c2))∧w'.cell? ⟨g1,o1,none⟩=some (.bool true)) := fun w' hb => ⟨⟨(hb.cell (p := ⟨g1,o1+1,none⟩) xl).trans x1,(hb.cell (p := ⟨g2,o2+1,none⟩) yl).trans y1⟩,(hb.cell (p := ⟨g1,o1,none⟩) xl).trans x0'⟩
   go_region_held3 (fun w' => w'.cell? ⟨g1,o1+1,none⟩=some (.slice a1 n1 c1)∧w'.cell? ⟨g2,o2+1,none⟩=some (.slice a2 n2 c2)) (first | go_keep | exact hs1)
    (first
     | (go_at_call 149; refine (Rn (HX.out.below (Below.drew (Zh (Below.refl _ _) _))) (HY.out.below (Below.drew (Zh (Below.refl _ _) _))) SX.out SY.out).mono ?_; rintro e w1 ⟨hb1,c,rfl,hc1,hc2,hc3,hc4⟩; have hbl1 : Below w.heap.size w w1 := (Below.drew (Zh (Below.refl _ _) _)).trans hb1; have hs1 := (HS.out w1 hbl1).1; have u0 := (HS.out w1 hbl1).2))
   all_goals
    have HC := Qa (And.intro hc1 hc2)
    clear hc1 hc2
    go_wp2
    go_ret
    obtain ⟨hc1,hc2⟩ := HC.out
    exact ⟨hbl1,-c,by first | rfl | (congr 1; omega),by omega,by omega⟩
  ·have x0' : w.cell? ⟨g1,o1,none⟩=some (.bool true) := by rw [x0,decide_eq_true h1]
   have y0' : w.cell? ⟨g2,o2,none⟩=some (.bool false) := by rw [y0,decide_eq_false h2]
   clear x0 y0
   go_enter Tryz.func88,Tryz.ntmps88
   go_wp2_with fail
   go_quiet (fail)
   go_wp2
   go_ret
   exact ⟨Zh (Below.refl _ _) _,-1,rfl,by omega,by omega⟩
 ·by_cases h2 : y < 0
  ·have x0' : w.cell? ⟨g1,o1,none⟩=some (.bool false) := by rw [x0,decide_eq_false h1]
   have y0' : w.cell? ⟨g2,o2,none⟩=some (.bool true) := by rw [y0,decide_eq_true h2]
   clear x0 y0
   go_enter Tryz.func88,Tryz.ntmps88
   go_wp2_with fail
   go_quiet (fail)
   go_wp2
   go_ret
   exact ⟨Zh (Below.refl _ _) _,1,rfl,by omega,by omega⟩
  ·have x0' : w.cell? ⟨g1,o1,none⟩=some (.bool false) := by rw [x0,decide_eq_false h1]
   have y0' : w.cell? ⟨g2,o2,none⟩=some (.bool false) := by rw [y0,decide_eq_false h2]
   clear x0 y0
   go_enter Tryz.func88,Tryz.ntmps88
   go_wp2_with fail
   go_quiet (fail)
   go_wp2_with fail
   have HS : Hid (∀ w',Below w.heap.size w w'→(w'.cell? ⟨g1,o1+1,none⟩=some (.slice a1 n1 c1)∧w'.cell? ⟨g2,o2+1,none⟩=some (.slice a2 n2 c2))∧w'.cell? ⟨g1,o1,none⟩=some (.bool false)) := fun w' hb => ⟨⟨(hb.cell (p := ⟨g1,o1+1,none⟩) xl).trans x1,(hb.cell (p := ⟨g2,o2+1,none⟩) yl).trans y1⟩,(hb.cell (p := ⟨g1,o1,none⟩) xl).trans x0'⟩
   go_region_held3 (fun w' => w'.cell? ⟨g1,o1+1,none⟩=some (.slice a1 n1 c1)∧w'.cell? ⟨g2,o2+1,none⟩=some (.slice a2 n2 c2)) (first | go_keep | exact hs1)
    (first
     | (go_at_call 149; refine (Rn (HX.out.below (Below.drew (Zh (Below.refl _ _) _))) (HY.out.below (Below.drew (Zh (Below.refl _ _) _))) SX.out SY.out).mono ?_; rintro e w1 ⟨hb1,c,rfl,hc1,hc2,hc3,hc4⟩; have hbl1 : Below w.heap.size w w1 := (Below.drew (Zh (Below.refl _ _) _)).trans hb1; have hs1 := (HS.out w1 hbl1).1; have u0 := (HS.out w1 hbl1).2))
   all_goals
    have HC := Qa (And.intro hc1 hc2)
    clear hc1 hc2
    go_wp2
    go_ret
    obtain ⟨hc1,hc2⟩ := HC.out
    exact ⟨hbl1,c,by first | rfl | (congr 1; omega),by omega,by omega⟩
theorem PH {w : World} {gx : Nat} {x : Rat} {k : Nat} (hx : RV w gx x) (fx : QS k x) (hkl : k≤35184372088640) :
  Calls Tryz.prog 107 #[.pointer (some ⟨gx,0,none⟩)] w fun e w' => Below w.heap.size w w'∧e=.returned (.bool (decide (x.den=1))) := by
 have HX := Qa hx
 have DX := Qa (Ym fx hkl)
 have S1 : Hid (Small (((1 : Nat) : Int)).natAbs) := QO (k := 1) (by decide) (by decide)
 clear hx fx
 go_enter Tryz.func107,Tryz.ntmps107
 go_wp2_with fail
 refine (ZU HX.out).mono ?_
 rintro e w1 ⟨hb1,p1,rfl,hv1,_⟩
 have HV1 := Qa hv1
 have HB1 := Qa hb1
 clear hv1 hb1
 go_wp2_with fail
 refine (Xh 1 (by decide) w1).mono ?_
 rintro e w2 ⟨hb2,g2,rfl,hg2,ho2⟩
 have HO2 := Qa ho2
 have HV2 := Qa (HV1.out.below hb2)
 have HB2 := Qa (HB1.out.trans (hb2.mono HB1.out.size))
 clear ho2 hb2
 go_wp2_with fail
 refine (Oh HV2.out HO2.out.iv DX.out S1.out).mono ?_
 rintro e w3 ⟨hb3,c,rfl,hc1,hc2⟩
 have HB3 := Qa (HB2.out.trans (hb3.mono HB2.out.size))
 have hd : (c == 0)=decide (x.den=1) := by
  by_cases h : x.den=1
  ·rw [decide_eq_true h,beq_iff_eq]
   exact hc2.2 (by omega)
  ·rw [decide_eq_false h,beq_eq_false_iff_ne]
   exact fun e => h (by have := hc2.1 e; omega)
 have HD := Qa hd
 clear hb3 hc1 hc2 hd
 go_wp2
 go_ret
 exact ⟨HB3.out,by rw [← HD.out]; rfl⟩
end Go.Proofs.YtmdfngmjoaigjaaGreatDoor
/- BV -/
namespace Go.Proofs.YtmdfngmjoaigjaaGreatDoor
open Go.RowKit Cx
attribute [local go_sem ↓] Go.wp_at_zero Go.wp_at_succ
theorem Ng {w : World} {g n : Nat} {l : List Nat} (h : Row w g l) (hl : Lim l) (hn : l.length=n) (hm : n≤9223372036854775807) :
  Calls Tryz.prog 162 #[.slice (some ⟨g,0,none⟩) n n] w fun e w' => w'=w∧∃ v',e=.returned v'∧NatN w v' (val l)∧∃ n c,v'=.slice (some ⟨g,0,none⟩) n c := by
 subst hn
 have hv := NatV.ofRow h hl (Nat.le_refl _) (Nat.le_refl _) (by unfold maxLen; omega)
 rw [List.take_length] at hv
 by_cases h0 : l.length=0
 ·have := List.length_eq_zero_iff.1 h0
  subst this
  refine (Gk (some ⟨g,0,none⟩) 0 w).mono ?_
  rintro e w' ⟨rfl,rfl⟩
  exact ⟨rfl,_,rfl,⟨[],NatV.nil _ _ _,Or.inl rfl,rfl⟩,_,_,rfl⟩
 ·obtain ⟨hl2,⟨rfl,_⟩ | ⟨b,off,cap,e,hc,hm2,hlt,hs⟩⟩ := hv
  ·exact absurd rfl h0
  ·simp only [Value.slice.injEq,Option.some.injEq,Addr.mk.injEq,and_true,true_and] at e
   obtain ⟨⟨rfl,rfl⟩,rfl⟩ := e
   have hv := NatV.ofRow h hl (Nat.le_refl _) (Nat.le_refl _) (by unfold maxLen; omega)
   rw [List.take_length] at hv
   refine (GO g 0 l.length l w hc hm2 hs).mono ?_
   rintro e w' ⟨rfl,rfl⟩
   refine ⟨rfl,_,rfl,⟨strip l,⟨hl.strip,Or.inr ⟨g,0,l.length,by rw [Yc],?_,hm2,hlt,hs.pre _⟩⟩,OD l,IG l⟩,_,_,rfl⟩
   rw [Yc]; have := PD l; omega
theorem CY {w : World} {ao : Option Addr} {ca b1 o1 d : Nat} {la : List Nat} (ha : Sl w 81 ao ca la b1 o1) (hla : la.length≤1099511627776) (hd : 0 < d) (hd2 : d < 4294967296) :
  Calls Tryz.prog 187 #[.slice ao la.length ca,.int .u32 d] w fun e w' => Below w.heap.size w w'∧∃ v,e=.returned (.tuple #[v,.int .u32 (val la % d : Nat)])∧NatN w' v (val la / d)∧∃ n c,v=.slice (some ⟨w.heap.size,0,none⟩) n c := by
 have hmk := JD (t := 81) (by kernel_rfl) la.length (by omega)
 have HA : Hid (Sl w 81 ao ca la b1 o1) := ha
 clear ha
 go_enter Tryz.func187,Tryz.ntmps187
 go_wp2
 go_loopw [7,8] (fun lf i wr => ∃ (k r : Nat) (cur : List Nat),k≤la.length∧i=.int .i64 ((k : Int) - 1)∧lf=.int .u64 r∧r < d∧Row wr w.heap.size cur∧cur.length=la.length∧Lim cur∧val (la.drop k)=d*val (cur.drop k)+r∧Below w.heap.size w wr) (fun _ i _ => (intOf i+1).toNat)
 case atStart => exact ⟨la.length,0,List.replicate la.length 0,Nat.le_refl _,rfl,rfl,hd,Row.new _ _,by simp,ZZ _,by rw [List.drop_length,List.drop_of_length_le (by simp)]; simp [val],Qp _ _⟩
 case round =>
  obtain ⟨k,r,cur,hk,rfl,rfl,hrd,hrow,hcl,hcm,hval,hbel⟩ := hrel
  have HV : Hid (val (la.drop k)=d*val (cur.drop k)+r) := hval
  have HL : Hid (cur.length=la.length) := hcl
  clear hval hcl
  by_cases h0 : k=0
  ·subst h0
   go_wp2_with fail
   refine (Ng hrow hcm HL.out (by omega)).mono ?_
   rintro e w' ⟨rfl,v',rfl,hv',nn,cc,rfl⟩
   go_wp2
   go_ret2
   have h1 := HV.out
   rw [List.drop_zero,List.drop_zero] at h1
   have hq : val cur=val la / d := by
    rw [h1,Nat.mul_add_div hd,Nat.div_eq_of_lt hrd,Nat.add_zero]
   have hm2 : val la % d=r := by
    rw [h1,Nat.mul_add_mod,Nat.mod_eq_of_lt hrd]
   rw [hq] at hv'
   rw [hm2]
   refine ⟨hbel,_,by go_num,hv',_,_,rfl⟩
  ·obtain ⟨m,rfl⟩ : ∃ m,k=m+1 := ⟨k - 1,by omega⟩
   rw [show (((m+1 : Nat) : Int) - 1)=(m : Int) from by omega]
   have hia := HA.out.idx m (by omega)
   have hca := (hbel.cell (p := ⟨b1,o1+m,none⟩) (HA.out.lt (by omega))).trans (HA.out.seg m (by omega))
   have hcc := hrow.cell (j := m) (by rw [HL.out]; omega)
   have hfz := hrow.frozen m
   have hx := Zc HA.out.lim m
   have hor := Ti r (nth la m) (by omega) hx
   go_wp2
   go_roundw
   case rel =>
    have hq := Rz r (nth la m) d hrd hx
    have e1 : (((r*4294967296+nth la m) % d : Nat) : Int)=((r : Int)*4294967296+(nth la m : Int)) % (d : Int) := Tm _ _ _
    have e2 : (((r*4294967296+nth la m) / d : Nat) : Int)=((r : Int)*4294967296+(nth la m : Int)) / (d : Int) := Tt _ _ _
    refine ⟨m,(r*4294967296+nth la m) % d,cur.set m ((r*4294967296+nth la m) / d),by omega,rfl,by rw [e1],Nat.mod_lt _ hd,hrow.set' _ _ (by rw [← e2]; exact Lv hq),by rw [List.length_set,HL.out],hcm.set hq,?_,hbel.setCell (Nat.le_refl _) _⟩
    rw [Vb (l := la) (by omega),Vb (l := cur.set m _) (by rw [List.length_set,HL.out]; omega),OV,Xw (by rw [HL.out]; omega)]
    exact KI _ _ _ _ _ HV.out
   case measure => simp [intOf]
theorem Cs {w : World} {va : Value} {a d : Nat} (ha : NatN w va a) (hla : Small a) (hd : 0 < d) (hd2 : d < 4294967296) :
  Calls Tryz.prog 187 #[va,.int .u32 d] w fun e w' => Below w.heap.size w w'∧∃ v,e=.returned (.tuple #[v,.int .u32 (a % d : Nat)])∧NatN w' v (a / d)∧∃ n c,v=.slice (some ⟨w.heap.size,0,none⟩) n c := by
 obtain ⟨la,ha,ta,rfl⟩ := ha
 obtain ⟨ao,ca,b1,o1,rfl,sa⟩ := ha.sl32
 exact CY sa (hla.len ta) hd hd2
def bx (l : List UInt8) : List Value := l.map fun b => Value.int .u8 (b.toNat : Int)
theorem Sz (a b : List UInt8) : bx (a ++ b)=bx a ++ bx b := List.map_append
theorem bx_length (a : List UInt8) : (bx a).length=a.length := List.length_map _
def dd (n : Nat) : List UInt8 := if n=0 then [] else Lib.decDigits n
theorem dd_step {a : Nat} (h : a ≠ 0) : dd a=dd (a / 10) ++ [UInt8.ofNat (48+a % 10)] := by
 unfold dd
 rw [if_neg h,Lib.decDigits]
 by_cases h1 : a < 10
 ·rw [dif_pos h1,if_pos (by omega),Nat.mod_eq_of_lt h1]; rfl
 ·rw [dif_neg h1,if_neg (by omega)]
theorem dd_round {a n : Nat} {L : List UInt8} (h : a ≠ 0) (e : dd a ++ L.reverse=dd n) : dd (a / 10) ++ (L ++ [UInt8.ofNat (48+a % 10)]).reverse=dd n := by
 rw [← e,dd_step h,List.reverse_append]
 simp
theorem dd_len {a n : Nat} {L : List UInt8} (e : dd a ++ L.reverse=dd n) : L.length≤(Lib.decDigits n).length := by
 have h := congrArg List.length e
 rw [List.length_append,List.length_reverse] at h
 have h2 : (dd n).length≤(Lib.decDigits n).length := by
  unfold dd
  split
  ·exact Nat.zero_le _
  ·exact Nat.le_refl _
 omega
theorem AJ {w : World} {g : Nat} {o : Obj} (h : w.heap[g]? = some o) : g < w.heap.size := (Array.getElem?_eq_some_iff.1 h).choose
theorem byte_nat {r : Nat} (h : r < 10) : ((UInt8.ofNat (48+r)).toNat : Int)=48+(r : Int) := by
 rw [UInt8.toNat_ofNat',Nat.mod_eq_of_lt (by omega)]
 omega
theorem NatN.grown {w w' : World} {n k c : Nat} {b o : Nat} {row : Option Nat} (h : NatN w (.slice (some ⟨b,o,none⟩) k c) n) (hg : w.grownBy w' row) (hne : some b ≠ row) : NatN w' (.slice (some ⟨b,o,none⟩) k c) n := by
 obtain ⟨l,⟨hl,⟨rfl,ao,cap,e⟩ | ⟨b1,off,cap,e,hc,hm,hlt,hs⟩⟩,t,rfl⟩ := h
 ·cases e
  exact ⟨[],NatV.nil _ _ _,t,rfl⟩
 ·cases e
  exact ⟨l,⟨hl,Or.inr ⟨b,o,c,rfl,hc,hm,Nat.lt_of_lt_of_le hlt hg.size,fun j hj => hg.cell (a := ⟨b,o+j,none⟩) (hs j hj) hne⟩⟩,t,rfl⟩
theorem Db {a w w' : World} {row : Option Nat} (h : Below a.heap.size a w) (hg : w.grownBy w' row) (hr : ∀ k,row=some k→a.heap.size≤k) : Below a.heap.size a w' := by
 refine ⟨hg.os.trans h.os,hg.tape.trans h.tape,hg.output.trans h.output,Nat.le_trans h.size hg.size,fun i hi => ?_⟩
 rw [hg.block i (Nat.lt_of_lt_of_le hi h.size) (fun e => by have := hr i e.symm; omega),h.block i hi]
theorem KA {w : World} {base e n : Nat} {v : Value} {xs : List Value} (h : w.ownsRow base e 1 v n xs) : ∀ k,v.ownBlock=some k→base≤k∧k < w.heap.size := by
 intro k hk
 rcases h.2 with ⟨rfl,_⟩ | ⟨g,cap,cur,rfl,hb,hh,_⟩
 ·simp [Value.ownBlock] at hk
 ·simp [Value.ownBlock] at hk
  subst hk
  exact ⟨hb,AJ hh⟩
theorem Eu {w w' : World} {base e n : Nat} {v : Value} {xs : List Value} (h : w.ownsRow base e 1 v n xs) (hb : Below w.heap.size w w') : w'.ownsRow base e 1 v n xs := by
 refine ⟨h.1,?_⟩
 rcases h.2 with h2 | ⟨g,cap,cur,rfl,hb2,hh,h3⟩
 ·exact Or.inl h2
 ·exact Or.inr ⟨g,cap,cur,rfl,hb2,(hb.block g (AJ hh)).trans hh,h3⟩
theorem NP (w : World) (v : Value) (t : TypeId) : ∀ j u,([v] : List Value)[j]? = some u→(w.alloc (.cells #[v] t)).cell? (Addr.add ⟨w.heap.size,0,none⟩ j)=some u := by
 intro j u hj
 match j,hj with
 | 0,hj => simp at hj; subst hj; simp [Addr.add]
def RQ (L : List UInt8) (i : Nat) : List UInt8 := (List.range L.length).map fun p => if p < i ∨ L.length - i≤p then L.getD (L.length - 1 - p) 0 else L.getD p 0
theorem VZ (L : List UInt8) (i : Nat) : (RQ L i).length=L.length := by simp [RQ]
theorem Gj {L : List UInt8} {i p : Nat} (h : p < L.length) : (RQ L i)[p]? = some (if p < i ∨ L.length - i≤p then L.getD (L.length - 1 - p) 0 else L.getD p 0) := by
 simp [RQ,h]
theorem SO (L : List UInt8) : RQ L 0=L := by
 apply List.ext_getElem?
 intro p
 by_cases h : p < L.length
 ·rw [Gj h,if_neg (by omega),List.getD_eq_getElem?_getD,List.getElem?_eq_getElem h]
  rfl
 ·rw [List.getElem?_eq_none (by rw [VZ]; omega),List.getElem?_eq_none (by omega)]
theorem half_all {L : List UInt8} {i : Nat} (h : L.length≤2*i+1) : RQ L i=L.reverse := by
 apply List.ext_getElem?
 intro p
 by_cases hp : p < L.length
 ·rw [Gj hp,List.getElem?_reverse hp,List.getElem?_eq_getElem (by omega)]
  split
  ·rw [List.getD_eq_getElem?_getD,List.getElem?_eq_getElem (by omega)]; rfl
  ·have : L.length - 1 - p=p := by omega
   simp only [this]
   rw [List.getD_eq_getElem?_getD,List.getElem?_eq_getElem hp]; rfl
 ·rw [List.getElem?_eq_none (by rw [VZ]; omega),List.getElem?_eq_none (by simp; omega)]
theorem half_step {L : List UInt8} {i : Nat} (h : 2*i+1 < L.length) : ((RQ L i).set i (L.getD (L.length - 1 - i) 0)).set (L.length - 1 - i) (L.getD i 0)=RQ L (i+1) := by
 apply List.ext_getElem?
 intro p
 by_cases hp : p < L.length
 ·rw [Gj hp]
  by_cases e1 : p=L.length - 1 - i
  ·subst e1
   rw [List.getElem?_set_self (by rw [List.length_set,VZ]; omega),if_pos (Or.inr (by omega))]
   rw [show L.length - 1 - (L.length - 1 - i)=i by omega]
  ·rw [List.getElem?_set_ne (by omega)]
   by_cases e2 : p=i
   ·subst e2
    rw [List.getElem?_set_self (by rw [VZ]; omega),if_pos (Or.inl (by omega))]
   ·rw [List.getElem?_set_ne (by omega),Gj hp]
    by_cases e3 : p < i ∨ L.length - i≤p
    ·rw [if_pos e3,if_pos (by omega)]
    ·rw [if_neg e3,if_neg (by omega)]
 ·rw [List.getElem?_eq_none (by rw [List.length_set,List.length_set,VZ]; omega),List.getElem?_eq_none (by rw [VZ]; omega)]
end Go.Proofs.YtmdfngmjoaigjaaGreatDoor
/- BW -/
namespace Go.Proofs.YtmdfngmjoaigjaaGreatDoor
open Go.RowKit Cx
attribute [local go_sem ↓] Go.wp_at_zero Go.wp_at_succ
theorem Tryz.infoU8 : (Tryz.prog.info? 5).map (fun i => (i.zero,i.size,i.bytes))=some (some (.int .u8 0),1,1) := by kernel_rfl
theorem text_next {w w0 w2 w4 : World} {a n : Nat} {L : List UInt8} {bs v' : Value} {nn cc r : Nat} (hr : a % 10=r) (ha : a ≠ 0) (e : dd a ++ L.reverse=dd n)
  (hown : w0.ownsRow w.heap.size 5 1 bs L.length (bx L)) (hbl : Below w.heap.size w w0) (hb2 : Below w0.heap.size w0 w2) (hv : NatN w2 (.slice (some ⟨w0.heap.size,0,none⟩) nn cc) (a / 10))
  (hown4 : w4.ownsRow w.heap.size 5 1 v' (L.length+1) (bx L ++ [.int .u8 (48+(r : Int))])) (hg : (w2.alloc (.cells #[.int .u8 (48+(r : Int))] 5)).grownBy w4 bs.ownBlock) :
  ∃ (L' : List UInt8) (a' : Nat),a' < a∧w4.ownsRow w.heap.size 5 1 v' L'.length (bx L')∧NatN w4 (.slice (some ⟨w0.heap.size,0,none⟩) nn cc) a'∧dd a' ++ L'.reverse=dd n∧Below w.heap.size w w4∧a'=a / 10 := by
 have hr2 : r < 10 := by omega
 refine ⟨L ++ [UInt8.ofNat (48+r)],a / 10,by omega,?_,?_,?_,?_,rfl⟩
 ·rw [Sz,List.length_append]
  show World.ownsRow _ _ _ _ _ _ (bx L ++ [Value.int .u8 ((UInt8.ofNat (48+r)).toNat : Int)])
  rw [byte_nat hr2]
  exact hown4
 ·refine (hv.below (Qp _ _)).grown hg ?_
  intro h
  have := (KA hown _ h.symm).2
  omega
 ·rw [← hr]
  exact dd_round ha e
 ·refine Db (Below.new (hbl.trans (hb2.mono hbl.size)) _) hg ?_
  intro k hk
  exact (KA hown _ hk).1
theorem Fm {w : World} {base e n : Nat} {v : Value} {xs : List Value} (h : w.ownsRow base e 1 v n xs) (hv : v ≠ .slice none 0 0) : ∃ g cap,v=.slice (some ⟨g,0,none⟩) n cap∧base≤g∧n≤cap∧cap≤maxLen := by
 rcases h.2 with ⟨h1,_⟩ | ⟨g,cap,cur,rfl,hb,hh,hc,hm,_⟩
 ·exact absurd h1 hv
 ·exact ⟨g,cap,rfl,hb,hc,hm⟩
theorem owns_some {w : World} {base e n : Nat} {v : Value} {L : List UInt8} (h : w.ownsRow base e 1 v n (bx L)) (hL : L ≠ []) : v ≠ .slice none 0 0 := by
 rintro rfl
 rcases h.2 with ⟨_,h1⟩ | ⟨g,cap,cur,h1,_⟩
 ·apply hL
  have h2 := h.1
  rw [bx_length] at h2
  exact List.length_eq_zero_iff.1 (by omega)
 ·cases h1
def gd (M : List UInt8) (p : Nat) : UInt8 := M.getD p 0
theorem GA {w : World} {base g cap : Nat} {M : List UInt8} {i p : Nat} (h : w.ownsRow base 5 1 (.slice (some ⟨g,0,none⟩) M.length cap) M.length (bx (RQ M i))) (hp : p < M.length) (h2 : ¬ (p < i ∨ M.length - i≤p)) : w.cell? ⟨g,p,none⟩=some (.int .u8 ((gd M p).toNat : Int)) := by
 rw [h.cellAt p (by omega)]
 simp only [bx,List.getElem?_map,Gj hp,if_neg h2,Option.map_some]
 rfl
theorem ND {w : World} {base g cap : Nat} {M : List UInt8} {i j : Nat} (h : w.ownsRow base 5 1 (.slice (some ⟨g,0,none⟩) M.length cap) M.length (bx (RQ M i))) (hij : i+j+1=M.length) (hlt : i < j) :
  ((w.setCell ⟨g,i,none⟩ (.int .u8 ((gd M j).toNat : Int))).setCell ⟨g,j,none⟩ (.int .u8 ((gd M i).toNat : Int))).ownsRow base 5 1 (.slice (some ⟨g,0,none⟩) M.length cap) M.length (bx (RQ M (i+1))) := by
 have h1 := (h.stored i (.int .u8 ((gd M j).toNat : Int))).1
 have h2 := (h1.stored j (.int .u8 ((gd M i).toNat : Int))).1
 have hst := half_step (L := M) (i := i) (by omega)
 rw [show M.length - 1 - i=j by omega] at hst
 rw [← hst]
 have e : bx (((RQ M i).set i (gd M j)).set j (gd M i))=((bx (RQ M i)).set i (.int .u8 ((gd M j).toNat : Int))).set j (.int .u8 ((gd M i).toNat : Int)) := by
  simp [bx,List.map_set]
 show World.ownsRow _ _ _ _ _ _ (bx (((RQ M i).set i (gd M j)).set j (gd M i)))
 rw [e]
 exact h2
theorem Ec {w : World} {base g cap : Nat} {M : List UInt8} {i j : Nat} (h : w.ownsRow base 5 1 (.slice (some ⟨g,0,none⟩) M.length cap) M.length (bx (RQ M i))) (hij : i+j+1=M.length) (hlt : ¬ i < j) :
  (convert 212 9 (.slice (some ⟨g,0,none⟩) M.length cap)).run Tryz.prog w=.ok (.string ⟨M.reverse.toArray⟩) w := by
 have := run_convert_bytes_back (P := Tryz.prog) w 212 9 5 ⟨g,0,none⟩ cap M.reverse Tryz.underlying212 Tryz.underlying5 Tryz.underlying9 (fun k hk => by
  have hk2 : k < M.length := by simpa using hk
  have := h.cellAt k (by omega)
  rw [half_all (by omega)] at this
  have ea : Addr.add ⟨g,0,none⟩ k=⟨g,k,none⟩ := by unfold Addr.add; split <;> simp_all
  rw [ea,this]
  simp only [bx,List.getElem?_map,List.getElem?_eq_getElem hk,Option.map_some])
 rw [List.length_reverse] at this
 exact this
theorem Cg {w : World} {p : Value} {x : Int} (hx : IV w p x) (sx : Small x.natAbs) (hne : x ≠ 0) (hd : (Lib.decDigits x.natAbs).length≤140737488355300) :
  Calls Tryz.prog 154 #[p,.int .i64 10] w fun e w' => Below w.heap.size w w'∧e=.returned (.string ⟨((if x < 0 then [45] else []) ++ Lib.decDigits x.natAbs).toArray⟩) := by
 obtain ⟨g,o,ao,n,c,rfl,x0,x1,x2,xl⟩ := hx
 obtain ⟨i0,hi,hz0,hz1,hz2⟩ := info_parts Tryz.infoU8
 generalize hT : ((if x < 0 then [45] else []) ++ Lib.decDigits x.natAbs : List UInt8)=T
 have HT := Qa hT
 clear hT
 have hn0 : n ≠ 0 := by
  obtain ⟨_,_,_,e,_,_,hz⟩ := ZJ x2
  cases e
  intro h
  have := hz.1 h
  omega
 have hnb : ((n : Int) == 0)=false := beq_eq_false_iff_ne.mpr (by omega)
 have HX := Qa x2
 have SX := Qa sx
 have HD := Qa hd
 clear x2 sx hd
 go_enter Tryz.func154,Tryz.ntmps154
 go_wp2_with fail
 refine (Wf HX.out SX.out).mono ?_
 rintro e w1 ⟨hb1,v1,rfl,hv1⟩
 have HB1 := Qa hb1
 have HV1 := Qa hv1
 clear hb1 hv1
 go_wp2
 go_loopg [5,6] x.natAbs (fun k bs av wr => ∃ (L : List UInt8) (a : Nat),a≤k∧a≤x.natAbs∧wr.ownsRow w.heap.size 5 1 bs L.length (bx L)∧NatN wr av a∧dd a ++ L.reverse=dd x.natAbs∧Below w.heap.size w wr)
 case atStart => exact ⟨[],x.natAbs,Nat.le_refl _,Nat.le_refl _,World.ownsRow_nil _ _ _ _,HV1.out,by simp,HB1.out⟩
 case round =>
  obtain ⟨L,a,hak,han,hown,hva,hdd,hbl⟩ := hrel
  have HOWN := Qa hown
  have HVA := Qa hva
  have HDD := Qa hdd
  have HBL := Qa hbl
  have HLL := Qa (dd_len hdd)
  obtain ⟨ab,na,ca,rfl,_,_,hz⟩ := ZJ hva
  have HZ := Qa hz
  have hy0 := (hbl.cell (p := ⟨g,o,none⟩) xl).trans x0
  clear hown hva hdd hbl hz
  by_cases ha : a=0
  ·have hna : na=0 := HZ.out.2 ha
   subst hna
   have HLR : Hid (L.reverse=Lib.decDigits x.natAbs) := by
    have := HDD.out
    subst ha
    have h0 : x.natAbs ≠ 0 := by omega
    simp only [dd,if_neg h0,if_true,List.nil_append] at this
    exact this
   have hL0 : L ≠ [] := by
    intro e
    have := HLR.out
    rw [e] at this
    have h1 := Lib.decDigits_length x.natAbs
    rw [← this] at h1
    have h2 := Lib.nDigits_pos x.natAbs
    simp at h1
    omega
   have hlen : L.length+1≤140737488355328 := by have := HLL.out; have := HD.out; omega
   by_cases hs : x < 0
   ·rw [decide_eq_true hs] at hy0
    have HO2 := Qa (Eu HOWN.out (Qp wr (.cells #[.int .u8 45] 5)))
    have HNW := Qa (NP wr (.int .u8 45) 5)
    obtain ⟨M,hM⟩ : ∃ M,L ++ [45]=M := ⟨_,rfl⟩
    have HMB : Hid (bx L ++ [Value.int .u8 45]=bx M∧L.length+1=M.length) := by
     refine ⟨?_,?_⟩
     ·rw [← hM,Sz]; rfl
     ·rw [← hM]; simp
    have HMM := Qa hM
    clear hM
    have hM0 : 0 < M.length := by have := HMB.out.2; omega
    have hMm : M.length≤140737488355328 := by have := HMB.out.2; omega
    go_wp2_with (at_builtin; refine wpList_append_own _ rfl _ _ 212 rfl w.heap.size 5 i0 (.int .u8 0) 1 1 Tryz.underlying212 hi hz0 hz1 hz2 rfl (by decide) _ L.length (bx L) rfl HO2.out ⟨wr.heap.size,0,none⟩ 1 1 [.int .u8 45] rfl rfl HNW.out (by intro u hu; simp at hu; subst hu; rfl) (by unfold maxLen; omega) (by omega) (by have := HBL.out.size; simp; omega) ?_; intro v' w4 hown4 hgrow hnil; rw [HMB.out.1,HMB.out.2] at hown4; obtain ⟨g2,cap,rfl,hg2,hc2,hm2⟩ := Fm hown4 (fun e => by have := (hnil.1 e).2; omega))
    have HR : Hid (T=M.reverse) := by
     show _=_
     rw [← HT.out,if_pos hs,← HMM.out,List.reverse_append,HLR.out]
     rfl
    have HM := Qa (And.intro hown4 (Db (Below.new HBL.out _) hgrow (fun k hk => (KA HOWN.out _ hk).1)))
    clear hown4 hgrow hnil hlen
    go_wp2
    go_loopw [8,9] (fun iv jv wx => ∃ i j : Nat,iv=.int .i64 i∧jv=.int .i64 j∧i+j+1=M.length∧wx.ownsRow w.heap.size 5 1 (.slice (some ⟨g2,0,none⟩) M.length cap) M.length (bx (RQ M i))∧Below w.heap.size w wx) (fun iv _ _ => M.length - (intOf iv).toNat)
    case atStart => exact ⟨0,M.length - 1,rfl,by rw [show ((M.length - 1 : Nat) : Int)=(M.length : Int) - 1 by omega],by omega,by rw [SO]; exact HM.out.1,HM.out.2⟩
    case round =>
     obtain ⟨i,j,rfl,rfl,hij,hw,hbx⟩ := hrel
     have HW := Qa (And.intro hw (And.intro hij hbx))
     have hiM : i < M.length := by omega
     have hjM : j < M.length := by omega
     by_cases hlt : i < j
     ·have ci := GA hw hiM (by omega)
      have cj := GA hw hjM (by omega)
      have fi := hw.frozenAt i
      have fj := hw.frozenAt j
      clear hw hij hbx
      go_wp2
      go_roundw
      case rel => exact ⟨i+1,j - 1,by rw [show ((i+1 : Nat) : Int)=(i : Int)+1 by omega],by rw [show ((j - 1 : Nat) : Int)=(j : Int) - 1 by omega],by have := HW.out.2.1; omega,ND HW.out.1 HW.out.2.1 hlt,Below.set (Below.set HW.out.2.2 hg2 _ _) hg2 _ _⟩
      case measure => simp [intOf]; omega
     ·have hcv := Ec hw hij hlt
      clear hw hij hbx
      go_wp2
      go_ret
      exact ⟨HW.out.2.2,by rw [HR.out]; rfl⟩
   ·rw [decide_eq_false hs] at hy0
    obtain ⟨g2,cap,hv',hg2,hc2,hm2⟩ := Fm HOWN.out (owns_some HOWN.out hL0)
    subst hv'
    generalize hM : L=M at *
    have HR : Hid (T=M.reverse) := by
     show _=_
     rw [← HT.out,if_neg hs,HLR.out]
     rfl
    have HM := Qa (And.intro HOWN.out HBL.out)
    have hM0 : 0 < M.length := List.length_pos_iff.2 hL0
    have hMm : M.length≤140737488355328 := by omega
    clear hlen
    go_wp2
    go_loopw [8,9] (fun iv jv wx => ∃ i j : Nat,iv=.int .i64 i∧jv=.int .i64 j∧i+j+1=M.length∧wx.ownsRow w.heap.size 5 1 (.slice (some ⟨g2,0,none⟩) M.length cap) M.length (bx (RQ M i))∧Below w.heap.size w wx) (fun iv _ _ => M.length - (intOf iv).toNat)
    case atStart => exact ⟨0,M.length - 1,rfl,by rw [show ((M.length - 1 : Nat) : Int)=(M.length : Int) - 1 by omega],by omega,by rw [SO]; exact HM.out.1,HM.out.2⟩
    case round =>
     obtain ⟨i,j,rfl,rfl,hij,hw,hbx⟩ := hrel
     have HW := Qa (And.intro hw (And.intro hij hbx))
     have hiM : i < M.length := by omega
     have hjM : j < M.length := by omega
     by_cases hlt : i < j
     ·have ci := GA hw hiM (by omega)
      have cj := GA hw hjM (by omega)
      have fi := hw.frozenAt i
      have fj := hw.frozenAt j
      clear hw hij hbx
      go_wp2
      go_roundw
      case rel => exact ⟨i+1,j - 1,by rw [show ((i+1 : Nat) : Int)=(i : Int)+1 by omega],by rw [show ((j - 1 : Nat) : Int)=(j : Int) - 1 by omega],by have := HW.out.2.1; omega,ND HW.out.1 HW.out.2.1 hlt,Below.set (Below.set HW.out.2.2 hg2 _ _) hg2 _ _⟩
      case measure => simp [intOf]; omega
     ·have hcv := Ec hw hij hlt
      clear hw hij hbx
      go_wp2
      go_ret
      exact ⟨HW.out.2.2,by rw [HR.out]; rfl⟩
  ·have hna : na ≠ 0 := fun h => ha (HZ.out.1 h)
   have HSA : Hid (Small a) := Tl SX.out han
   go_wp2_with fail
   refine (Cs (d := 10) HVA.out HSA.out (by decide) (by decide)).mono ?_
   generalize hr : a % 10=r
   have hr10 : r < 10 := by omega
   rintro e w2 ⟨hb2,v2,rfl,hv2,nn,cc,rfl⟩
   have HB2 := Qa hb2
   have HV2 := Qa hv2
   have HR := Qa hr
   have hown2 := Eu HOWN.out (Below.new hb2 (.cells #[.int .u8 (48+(r : Int))] 5))
   have HNW := Qa (NP w2 (.int .u8 (48+(r : Int))) 5)
   have HO2 := Qa hown2
   have hlen : L.length+1≤140737488355328 := by have := HLL.out; have := HD.out; omega
   clear hb2 hv2 hr hown2
   go_wp2_with (at_builtin; refine wpList_append_own _ rfl _ _ 212 rfl w.heap.size 5 i0 (.int .u8 0) 1 1 Tryz.underlying212 hi hz0 hz1 hz2 rfl (by decide) _ L.length (bx L) rfl HO2.out ⟨w2.heap.size,0,none⟩ 1 1 [.int .u8 (48+(r : Int))] rfl rfl HNW.out (by intro u hu; simp at hu; subst hu; rfl) (by unfold maxLen; omega) (by omega) (by have := HBL.out.size; have := HB2.out.size; simp; omega) ?_; intro v' w4 hown4 hgrow hnil)
   obtain ⟨L',a',h1,h2,h3,h4,h5,h6⟩ := text_next HR.out ha HDD.out HOWN.out HBL.out HB2.out HV2.out hown4 hgrow
   have HF := Qa (And.intro h2 (And.intro h3 (And.intro h4 h5)))
   clear h2 h3 h4 h5 hown4 hgrow hnil
   go_wp2
   go_roundg a'
   case measure => omega
   case rel => exact ⟨L',a',Nat.le_refl _,by omega,HF.out.1,HF.out.2.1,HF.out.2.2.1,HF.out.2.2.2⟩
end Go.Proofs.YtmdfngmjoaigjaaGreatDoor
/- BX -/
namespace Go.Proofs.YtmdfngmjoaigjaaGreatDoor
open Go.RowKit Cx
attribute [local go_sem ↓] Go.wp_at_zero Go.wp_at_succ
def zx (x : Int) : List UInt8 := (if x < 0 then [45] else []) ++ Lib.decDigits x.natAbs
theorem zx_zero : zx 0=[48] := by
 unfold zx
 rw [if_neg (by decide)]
 show Lib.decDigits 0=_
 rw [Lib.decDigits,dif_pos (by decide)]
 rfl
theorem Ms {w : World} {p : Value} (hx : IV w p 0) :
  Calls Tryz.prog 154 #[p,.int .i64 10] w fun e w' => w'=w∧e=.returned (.string ⟨#[48]⟩) := by
 obtain ⟨g,o,ao,n,c,rfl,x0,x1,x2,xl⟩ := hx
 have hn0 : n=0 := by
  obtain ⟨_,_,_,e,_,_,hz⟩ := ZJ x2
  cases e
  exact hz.2 rfl
 subst hn0
 clear x2
 go_enter Tryz.func154,Tryz.ntmps154
 go_wp2
 go_ret
 exact ⟨rfl,rfl⟩
theorem Bm {w : World} {p : Value} {x : Int} {k : Nat} (hx : IV w p x) (sx : x.natAbs < 2 ^ k) (hk : k≤35184372088640) :
  Calls Tryz.prog 154 #[p,.int .i64 10] w fun e w' => Below w.heap.size w w'∧e=.returned (.string ⟨(zx x).toArray⟩) := by
 by_cases h : x=0
 ·subst h
  refine (Ms hx).mono ?_
  rintro e w' ⟨rfl,rfl⟩
  exact ⟨Below.refl _ _,by rw [zx_zero]⟩
 ·refine Cg hx (QO sx hk) h ?_
  rw [Lib.decDigits_length]
  have := OM sx
  omega
theorem WO {w : World} {p : Value} {x : Int} {k : Nat} (hx : IV w p x) (sx : x.natAbs < 2 ^ k) (hk : k≤35184372088640) :
  Calls Tryz.prog 109 #[p] w fun e w' => Below w.heap.size w w'∧e=.returned (.string ⟨(zx x).toArray⟩) := by
 have h := Bm hx sx hk
 obtain ⟨g,o,ao,n,c,rfl,x0,x1,x2,xl⟩ := hx
 clear x0 x1 x2
 go_enter Tryz.func109,Tryz.ntmps109
 go_wp2_with fail
 refine h.mono ?_
 rintro e w1 ⟨hb,rfl⟩
 have HB := Qa hb
 clear hb
 go_wp2
 go_ret
 exact ⟨HB.out,rfl⟩
theorem Fg {w : World} {g : Nat} {x : Rat} {k : Nat} (hx : RV w g x) (fx : QS k x) (hkl : k≤35184372088640) :
  Calls Tryz.prog 110 #[.pointer (some ⟨g,0,none⟩)] w fun e w' => Below w.heap.size w w'∧∃ g',e=.returned (.pointer (some ⟨g',0,none⟩))∧Own2 w' g' (x.den : Int) := by
 have HX := Qa hx
 have LX := Qa hx.lt
 have DX := Qa (Ym fx hkl)
 clear hx fx
 go_enter Tryz.func110,Tryz.ntmps110
 go_wp2_with fail
 refine (ZU (HX.out.below (Qp _ _))).mono ?_
 rintro e w1 ⟨hb1,p1,rfl,hv1,hap1⟩
 have HB1 := Qa hb1
 have HV1 := Qa hv1
 have HA1 := Qa (hap1 w.heap.size (by have := LX.out; omega) (by simp))
 have HK1 := Qa (Xq hb1 (Blk.new w #[.bool false,.slice none 0 0] 99))
 clear hb1 hv1 hap1
 go_wp2_with fail
 refine (Rd (At2.blk HK1.out) HV1.out HA1.out DX.out).mono ?_
 rintro e w2 ⟨rfl,hg⟩
 have HG := Qa hg
 clear hg
 go_wp2
 go_ret
 exact ⟨ZO (QI (Qp _ _) HB1.out) HG.out.save (Nat.le_refl _),_,rfl,(HG.out.own HK1.out).1⟩
theorem tx_whole {q : Rat} (h : q.den=1) : tx q=zx q.num := by
 unfold tx zx
 rw [if_pos h,List.append_nil]
theorem tx_parts {q : Rat} (h : q.den ≠ 1) : tx q=zx q.num ++ (47 :: zx (q.den : Int)) := by
 unfold tx zx
 rw [if_neg h,if_neg (show ¬ ((q.den : Int) < 0) by omega),List.nil_append,Int.natAbs_natCast,List.append_assoc]
theorem zx_len {x : Int} {k : Nat} (sx : x.natAbs < 2 ^ k) : (zx x).length≤k+2 := by
 unfold zx
 rw [List.length_append,Lib.decDigits_length]
 have h1 := OM sx
 have h3 : (if x < 0 then ([45] : List UInt8) else []).length≤1 := by split <;> simp
 omega
theorem Fa {w : World} {g : Nat} {x : Rat} {k : Nat} (hx : RV w g x) (fx : QS k x) (hkl : k≤35184372088640) :
  Calls Tryz.prog 62 #[.pointer (some ⟨g,0,none⟩)] w fun e w' => Below w.heap.size w w'∧e=.returned (.string ⟨(tx x).toArray⟩) := by
 have HX := Qa hx
 have FX := Qa fx
 clear hx
 by_cases hd : x.den=1
 ·have HD := Qa hd
  have hdd : decide (x.den=1)=true := decide_eq_true hd
  have HT := Qa (tx_whole hd)
  clear hd
  go_enter Tryz.func62,Tryz.ntmps62
  go_wp2_with fail
  refine (PH HX.out FX.out hkl).mono ?_
  rintro e w1 ⟨hb1,rfl⟩
  rw [hdd]
  have HB1 := Qa hb1
  clear hb1 hdd
  go_wp2_with fail
  refine (Gh g w1).mono ?_
  rintro e w2 ⟨hw,rfl⟩
  subst hw
  go_wp2_with fail
  refine (WO (HX.out.below HB1.out).num FX.out.num hkl).mono ?_
  rintro e w3 ⟨hb3,rfl⟩
  have HB3 := Qa (QI HB1.out hb3)
  clear hb3
  go_wp2
  go_ret
  exact ⟨HB3.out,by rw [HT.out]; rfl⟩
 ·have hdd : decide (x.den=1)=false := decide_eq_false hd
  have HT := Qa (tx_parts hd)
  have hl1 := zx_len fx.num
  have hl2 : (zx (x.den : Int)).length≤k+2 := zx_len (by rw [Int.natAbs_natCast]; exact fx.den)
  clear hd
  go_enter Tryz.func62,Tryz.ntmps62
  go_wp2_with fail
  refine (PH HX.out FX.out hkl).mono ?_
  rintro e w1 ⟨hb1,rfl⟩
  rw [hdd]
  have HB1 := Qa hb1
  clear hb1 hdd
  go_wp2_with fail
  refine (Gh g w1).mono ?_
  rintro e w2 ⟨hw,rfl⟩
  subst hw
  go_wp2_with fail
  refine (WO (HX.out.below HB1.out).num FX.out.num hkl).mono ?_
  rintro e w3 ⟨hb3,rfl⟩
  have HB3 := Qa (QI HB1.out hb3)
  clear hb3
  go_wp2_with fail
  refine (Fg (HX.out.below HB3.out) FX.out hkl).mono ?_
  rintro e w4 ⟨hb4,g4,rfl,ho4⟩
  have HB4 := Qa (QI HB3.out hb4)
  have HO4 := Qa ho4
  clear hb4 ho4
  go_wp2_with fail
  refine (WO HO4.out.iv (k := k) (by rw [Int.natAbs_natCast]; exact FX.out.den) hkl).mono ?_
  rintro e w5 ⟨hb5,rfl⟩
  have HB5 := Qa (QI HB4.out hb5)
  clear hb5
  go_wp2
  go_ret
  exact ⟨HB5.out,by rw [HT.out]; simp; apply ByteArray.ext; simp [ByteArray.data_append]⟩
end Go.Proofs.YtmdfngmjoaigjaaGreatDoor
/- BY -/
namespace Go.Proofs.YtmdfngmjoaigjaaGreatDoor
open Go.RowKit Cx
attribute [local go_sem ↓] Go.wp_at_zero Go.wp_at_succ
theorem GV {s : ByteArray} {k : Nat} (h : k < s.size) : dv (s.data.toList.take (k+1))=dv (s.data.toList.take k)*10+(s[k].toNat - 48) := by
 have hlen : k < s.data.toList.length := by simpa using h
 rw [KP hlen,Ci]
 rfl
theorem AB {s : ByteArray} {k : Nat} (h : JY s.data.toList=true) (hk : k < s.size) : 48≤s[k].toNat∧s[k].toNat≤57 := by
 have hlen : k < s.data.toList.length := by simpa using hk
 have := List.all_eq_true.1 (Xb h) _ (List.getElem_mem hlen)
 have := Sh this
 rw [TO s k hk] at this
 exact this
theorem digs_pos {s : ByteArray} (h : JY s.data.toList=true) : 0 < s.size := by
 rcases Nat.eq_zero_or_pos s.size with h0 | h0
 ·exfalso
  have : s.data.toList=[] := List.length_eq_zero_iff.1 (by simpa using h0)
  rw [this] at h
  cases h
 ·exact h0
theorem Sn {s : ByteArray} {k : Nat} (h : JY s.data.toList=true) (hsz : s.size≤4294967280) : Small (dv (s.data.toList.take k)) := by
 refine RT ?_ ?_
 ·rw [List.all_eq_true]
  intro x hx
  exact List.all_eq_true.1 (Xb h) x (List.mem_of_mem_take hx)
 ·rw [List.length_take]
  have : s.data.toList.length=s.size := by simp
  omega
theorem XR {w : World} {g : Nat} {s : ByteArray} (hk : Blk w g #[.bool false,.slice none 0 0] 99) (hs : JY s.data.toList=true) (hsz : s.size≤4294967280) :
  Calls Tryz.prog 67 #[.pointer (some ⟨g,0,none⟩),.string s,.int .i64 10] w fun e w' => e=.returned (.tuple #[.pointer (some ⟨g,0,none⟩),.bool true])∧Save g w w'∧Own2 w' g (dv s.data.toList : Int) := by
 have HK := Qa hk
 have HS := Qa hs
 have hs0 : 0 < s.size := digs_pos hs
 have hs1 : ((s.size : Int) == 0)=false := beq_eq_false_iff_ne.mpr (by omega)
 have hb0 := AB hs hs0
 have hb1 : ((s[0].toNat : Int) == 45)=false := beq_eq_false_iff_ne.mpr (by omega)
 have hb2 : ((s[0].toNat : Int) == 43)=false := beq_eq_false_iff_ne.mpr (by omega)
 clear hk hs
 go_enter Tryz.func67,Tryz.ntmps67
 go_wp2
 go_loopw [9,10] (fun rv iv wr => ∃ k : Nat,iv=.int .i64 k∧k≤s.size∧NatN wr rv (dv (s.data.toList.take k))∧Below w.heap.size w wr) (fun _ iv _ => s.size - (intOf iv).toNat)
 case atStart => exact ⟨0,rfl,Nat.zero_le _,⟨[],NatV.nil _ _ _,Or.inl rfl,rfl⟩,Below.refl _ _⟩
 case round =>
  obtain ⟨k,rfl,hks,hn,hbl⟩ := hrel
  have HN := Qa hn
  have HBL := Qa hbl
  clear hn hbl
  by_cases hlt : k < s.size
  ·have hb := AB HS.out hlt
   have HSM : Hid (Small (dv (s.data.toList.take k))) := Sn HS.out hsz
   have HDS := Qa (GV hlt)
   have HSM10 : Hid (Small (dv (s.data.toList.take k)*10)) := Tl (Sn (k := k+1) HS.out hsz) (by rw [GV hlt]; omega)
   generalize hA : dv (s.data.toList.take k)=A at *
   clear hA
   go_wp2_with fail
   refine (JF 10 wr (by decide)).mono ?_
   rintro e w1 ⟨hb1',v1,rfl,hv1⟩
   have H1 := Qa (And.intro hb1' hv1)
   clear hb1' hv1
   go_wp2_with fail
   refine (Gx (HN.out.below H1.out.1) H1.out.2 HSM.out (QO (k := 4) (by decide) (by decide))).mono ?_
   rintro e w2 ⟨hb2',v2,rfl,hv2⟩
   have H2 := Qa (And.intro (QI H1.out.1 hb2') hv2)
   clear hb2' hv2
   go_wp2_with fail
   have ed : ((s[k].toNat : Int) - 48)=((s[k].toNat - 48 : Nat) : Int) := by omega
   rw [ed]
   refine (JF (s[k].toNat - 48) w2 (by omega)).mono ?_
   rintro e w3 ⟨hb3',v3,rfl,hv3⟩
   have H3 := Qa (And.intro (QI H2.out.1 hb3') (And.intro (H2.out.2.below hb3') hv3))
   clear hb3' hv3
   go_wp2_with fail
   refine (GE H3.out.2.1 H3.out.2.2 HSM10.out (QO (k := 6) (by omega) (by decide))).mono ?_
   rintro e w4 ⟨hb4',v4,rfl,hv4⟩
   have H4 := Qa (And.intro (QI HBL.out (QI H3.out.1 hb4')) hv4)
   clear hb4' hv4
   go_wp2
   go_roundw
   case rel => exact ⟨k+1,by rw [show ((k+1 : Nat) : Int)=(k : Int)+1 by omega],by omega,by rw [HDS.out]; exact H4.out.2,H4.out.1⟩
   case measure => simp [intOf]; omega
  ·have hks2 : k=s.size := by omega
   have HNE : Hid (NatN wr u9 (dv s.data.toList)) := by
    have := HN.out
    rw [hks2,List.take_of_length_le (by simp)] at this
    exact this
   obtain ⟨ao,n,c,hv,_,_,_⟩ := ZJ HNE.out
   subst hv
   go_wp2_with fail
   refine (YG (n := n) (ao := ao) (c := c) false ((At2.blk HK.out).below HBL.out)).mono ?_
   rintro e w2 ⟨rfl,hw2⟩
   have HG : Hid (Gave w g 0 (dv s.data.toList : Int) w2) := by
    refine ⟨wr,ao,n,c,HBL.out,?_,?_⟩
    ·rw [hw2,SS]; rfl
    ·rw [Int.natAbs_natCast]; exact HNE.out
   clear hw2
   go_wp2
   go_ret2
   exact ⟨rfl,HG.out.save,(HG.out.own HK.out).1⟩
end Go.Proofs.YtmdfngmjoaigjaaGreatDoor
/- BZ -/
namespace Go.Proofs.YtmdfngmjoaigjaaGreatDoor
open Go.RowKit Cx
attribute [local go_sem ↓] Go.wp_at_zero Go.wp_at_succ
def MaxL (w : World) : Prop := ∃ m,w.cell? ⟨Tryz.lays147_ren.g 1,0,none⟩=some (.int .i64 m)
theorem UE {w : World} {p : Addr} {v : Value} (h : w.cell? p=some v) : p.block < w.heap.size := by
 rcases Nat.lt_or_ge p.block w.heap.size with h1 | h1
 ·exact h1
 ·exfalso
  unfold World.cell? at h
  rw [Array.getElem?_eq_none h1] at h
  simp at h
theorem MaxL.below {w w' : World} (h : MaxL w) (hb : Below w.heap.size w w') : MaxL w' := by
 obtain ⟨m,h⟩ := h
 exact ⟨m,(hb.cell (UE h)).trans h⟩
theorem MaxL.shaped {w : World} (h : w.ShapedOpen Tryz.prog) : MaxL w := Tryz.laysM147.s1_3 w h
def tenDigits : ByteArray := ⟨#[48,49,50,51,52,53,54,55,56,57]⟩
theorem XI {α : Type} {p : α→Bool} : ∀ {l : List α},l.dropWhile p=[] ↔ l.all p=true
 | [] => by simp
 | x :: l => by
  rw [List.dropWhile_cons]
  split
  ·rename_i h
   rw [XI (l := l),List.all_cons,h,Bool.true_and]
  ·rename_i h
   simp [h]
theorem trimS_nil (l cs : List UInt8) : (Lib.trimS l cs=[]) ↔ l.all (cs.contains ·)=true := by
 unfold Lib.trimS Lib.trimLeftS Lib.trimRightS
 constructor
 ·intro h
  rw [XI,List.all_reverse] at h
  have h2 : (l.reverse.dropWhile (cs.contains ·))=[] := by
   cases e : l.reverse.dropWhile (cs.contains ·) with
   | nil => rfl
   | cons x r =>
    exfalso
    rw [e,List.all_cons,Bool.and_eq_true] at h
    have h3 := List.head_dropWhile_not (p := (cs.contains ·)) (l := l.reverse) (by rw [e]; simp)
    simp only [e,List.head_cons] at h3
    rw [h.1] at h3
    cases h3
  rw [XI,List.all_reverse] at h2
  exact h2
 ·intro h
  have : l.reverse.dropWhile (cs.contains ·)=[] := by rw [XI,List.all_reverse]; exact h
  rw [this]
  rfl
theorem ten_dg : (fun c : UInt8 => tenDigits.data.toList.contains c)=dg := by
 funext c
 have h : ∀ n : Fin 256,tenDigits.data.toList.contains (UInt8.ofNat n)=dg (UInt8.ofNat n) := by decide
 have := h ⟨c.toNat,c.toNat_lt⟩
 simpa using this
theorem TV (l : List UInt8) : (Lib.trimB l 48=[]) ↔ l.all (· == 48)=true := by
 unfold Lib.trimB Lib.trimLeftB Lib.trimRightB
 constructor
 ·intro h
  rw [XI,List.all_reverse] at h
  have h2 : (l.reverse.dropWhile (· == 48))=[] := by
   cases e : l.reverse.dropWhile (· == 48) with
   | nil => rfl
   | cons x r =>
    exfalso
    rw [e,List.all_cons,Bool.and_eq_true] at h
    have h3 := List.head_dropWhile_not (p := (· == 48)) (l := l.reverse) (by rw [e]; simp)
    simp only [e,List.head_cons] at h3
    rw [h.1] at h3
    cases h3
  rw [XI,List.all_reverse] at h2
  exact h2
 ·intro h
  have : l.reverse.dropWhile (· == 48)=[] := by rw [XI,List.all_reverse]; exact h
  rw [this]
  rfl
theorem GW {l : List UInt8} (h : l.all dg=true) : l.all (· == 48)=true ↔ dv l=0 := by
 induction l with
 | nil => simp [dv]
 | cons c l ih =>
  rw [List.all_cons,Bool.and_eq_true] at h
  rw [List.all_cons,Bool.and_eq_true,ih h.2,CR]
  have hc := Sh h.1
  have hp : 0 < 10 ^ l.length := Nat.pow_pos (by decide)
  constructor
  ·rintro ⟨h1,h2⟩
   rw [h2,eq_of_beq h1]
   simp
  ·intro h0
   have h1 : (c.toNat - 48)*10 ^ l.length=0 := by omega
   have h2 : c.toNat - 48=0 := by
    rcases Nat.mul_eq_zero.1 h1 with h | h
    ·exact h
    ·omega
   refine ⟨?_,by omega⟩
   rw [beq_iff_eq]
   exact UInt8.toNat_inj.1 (by show c.toNat=48; omega)
theorem Tryz.zeroSet (w : World) : (zeroValue (Tryz.lays160_ren.t 116)).run Tryz.prog w=.ok (.agg (Array.replicate 256 (.bool false))) w := by kernel_rfl
theorem ten_ascii : ∀ (j : Nat) b,tenDigits.data.toList[j]? = some b→b.toNat < 128 := by
 intro j b h
 have := List.mem_of_getElem? h
 simp [tenDigits] at this
 rcases this with rfl | rfl | rfl | rfl | rfl | rfl | rfl | rfl | rfl | rfl <;> decide
theorem emp (t : ByteArray) : t.toList.isEmpty=t.data.toList.isEmpty := by rw [ByteArray.toList_eq]
theorem QZ (s : ByteArray) (w : World) (hs : s.size≤4294967280) :
  Calls Tryz.prog 65 #[.string s] w fun e w' => Below w.heap.size w w'∧e=.returned (.bool (JY s.data.toList)) := by
 have hem := emp s
 generalize hD : JY s.data.toList=D
 by_cases h0 : s.data.toList=[]
 ·have HL : Hid (D=false) := by show D=false; rw [← hD,h0]; rfl
  rw [h0] at hem
  have hem2 : s.toList.isEmpty=true := hem
  clear hem hD
  go_enter Tryz.func65,Tryz.ntmps65
  go_wp2
  go_ret
  exact ⟨Below.refl _ _,by rw [HL.out]; rfl⟩
 ·have hem2 : s.toList.isEmpty=false := by rw [hem,List.isEmpty_eq_false_iff]; exact h0
  have hT := Any.strings_Trim_ascii Tryz.lays160 Tryz.zeroSet (by kernel_rfl) s tenDigits w (by omega) (by decide) ten_ascii
  obtain ⟨t,ht⟩ : ∃ t : ByteArray,(⟨(Lib.trimS s.data.toList tenDigits.data.toList).toArray⟩ : ByteArray)=t := ⟨_,rfl⟩
  have HTT : Hid (D=t.toList.isEmpty) := by
   show D=_
   rw [← hD,emp t,← ht]
   show _=List.isEmpty (Lib.trimS s.data.toList tenDigits.data.toList)
   rw [Bool.eq_iff_iff,List.isEmpty_iff,trimS_nil,ten_dg]
   unfold JY
   rw [List.isEmpty_eq_false_iff.2 h0]
   simp
  rw [ht] at hT
  clear hem hD ht
  go_enter Tryz.func65,Tryz.ntmps65
  go_wp2_with fail
  refine Calls.mono (show Calls Tryz.prog 66 #[.string s,.string ⟨#[48,49,50,51,52,53,54,55,56,57]⟩] w _ from hT) ?_
  rintro e w1 ⟨rfl,hb⟩
  have HB := Qa hb
  clear hb hT
  go_wp2
  go_ret
  exact ⟨HB.out,by rw [HTT.out]; rfl⟩
end Go.Proofs.YtmdfngmjoaigjaaGreatDoor
/- RA -/
namespace Go.Proofs.YtmdfngmjoaigjaaGreatDoor
open Go.RowKit Cx
attribute [local go_sem ↓] Go.wp_at_zero Go.wp_at_succ
theorem So (s : ByteArray) : Lib.indexB s ⟨#[47]⟩=Lib.indexByte s.data.toList 47 := Lib.index_one s.data.toList 47
theorem Fu {s : ByteArray} (k : Nat) (h : YQ s.data.toList=none) : Lib.splitB ⟨#[47]⟩ 0 k s=[s] := by
 apply Lib.splitB_miss
 rw [So]
 unfold YQ at h
 split at h
 ·rename_i hn
  have := Lib.indexByte_ge s.data.toList 47
  omega
 ·cases h
theorem Ll {s : ByteArray} {i : Nat} (h : YQ s.data.toList=some i) : Lib.splitB ⟨#[47]⟩ 0 1 s=[s.extract 0 i,s.extract (i+1) s.size] := by
 have h2 := (Bb h).2
 rw [← So] at h2
 rw [Lib.splitB_hit _ _ _ _ i h2]
 rfl
theorem PP (s : ByteArray) (w : World) (hm : MaxL w) (hs : s.size < 4294967281) :
  Calls Tryz.prog 64 #[.string s,.string ⟨#[47]⟩,.int .i64 2] w fun e w' => Below w.heap.size w w' ∧
   ((YQ s.data.toList=none∧∃ cap,e=.returned (.slice (some ⟨w.heap.size,0,none⟩) 1 cap)∧1≤cap∧cap≤2∧w'.cell? ⟨w.heap.size,0,none⟩=some (.string s)) ∨
   (∃ i a b,YQ s.data.toList=some i∧e=.returned (.slice (some ⟨w.heap.size,0,none⟩) 2 2)∧w'.cell? ⟨w.heap.size,0,none⟩=some (.string a)∧w'.cell? ⟨w.heap.size,1,none⟩=some (.string b)∧a.data.toList=Ve s.data.toList∧b.data.toList=JM s.data.toList∧a.size≤s.size∧b.size≤s.size)) := by
 obtain ⟨m,hm⟩ := hm
 refine Calls.mono (show Calls Tryz.prog 64 #[.string s,.string ⟨#[47]⟩,.int .i64 2] w _ from Tryz.strings_SplitN s ⟨#[47]⟩ 2 m w hs hm (by decide) (by decide) (by decide)) ?_
 rintro e w' ⟨rfl,rfl⟩
 refine ⟨Qp _ _,?_⟩
 rcases hb : YQ s.data.toList with _ | i
 ·left
  refine ⟨rfl,min 2 (s.size+1),?_,by omega,by omega,?_⟩
  ·rw [Fu _ hb]
   rfl
  ·rw [Fu _ hb,World.cell?_alloc_at _ _ _ _ (by simp)]
   simp [Lib.cellsOf]
 ·right
  have hi := (Bb hb).1
  have hi2 : i < s.size := by simpa using hi
  have e1 : min 2 (s.size+1)=2 := by omega
  rw [e1,show (2 - 1 : Nat)=1 from rfl,Ll hb]
  refine ⟨i,s.extract 0 i,s.extract (i+1) s.size,rfl,rfl,?_,?_,?_,?_,?_,?_⟩
  ·rw [World.cell?_alloc_at _ _ _ _ (by simp)]
   simp [Lib.cellsOf]
  ·rw [World.cell?_alloc_at _ _ _ _ (by simp)]
   simp [Lib.cellsOf]
  ·unfold Ve; rw [hb,KN]
  ·unfold JM; rw [hb,Ou]
  ·rw [ByteArray.size_extract]; omega
  ·rw [ByteArray.size_extract]; omega
theorem RV.nought (w : World) : RV (w.alloc (.cells #[.bool false,.slice none 0 0,.bool false,.slice none 0 0] 101)) w.heap.size 0 :=
 ⟨none,0,0,none,0,0,Blk.new _ _ _,⟨[],NatV.nil _ _ _,Or.inl rfl,rfl⟩,Or.inr ⟨rfl,rfl⟩⟩
theorem rd_up {l : List UInt8} (h : JY (Ve (QU l))=false) : rd l=0 := by
 unfold rd
 rw [h]
 simp
theorem rd_low {l : List UInt8} (h : JY (JM (QU l))=false) : rd l=0 := by
 unfold rd
 rw [h]
 simp
theorem Sr {l : List UInt8} (h : dv (JM (QU l))=0) : rd l=0 := by
 unfold rd
 rw [h,Rat.mkRat_zero]
 simp
theorem rd_pos {l : List UInt8} (hn : IY l=false) (h1 : JY (Ve (QU l))=true) (h2 : JY (JM (QU l))=true) : rd l=mkRat (dv (Ve (QU l)) : Int) (dv (JM (QU l))) := by
 unfold rd
 rw [h1,h2,hn]
 simp [sg]
theorem rd_neg {l : List UInt8} (hn : IY l=true) (h1 : JY (Ve (QU l))=true) (h2 : JY (JM (QU l))=true) : rd l=-mkRat (dv (Ve (QU l)) : Int) (dv (JM (QU l))) := by
 unfold rd
 rw [h1,h2,hn,Rat.neg_mkRat]
 simp [sg]
theorem Fr {l : List UInt8} (h : IY l=false) : QU l=l := by
 unfold QU Lib.trimPrefix
 unfold IY at h
 rw [h]
 rfl
theorem GF {s : ByteArray} (h : IY s.data.toList=true) : (s.extract 1 s.size).data.toList=QU s.data.toList∧1≤s.size := by
 refine ⟨?_,?_⟩
 ·unfold QU Lib.trimPrefix
  unfold IY at h
  rw [h,Ou]
  rfl
 ·rcases Nat.eq_zero_or_pos s.size with h0 | h0
  ·exfalso
   have : s.data.toList=[] := List.length_eq_zero_iff.1 (by simpa using h0)
   rw [this] at h
   cases h
  ·exact h0
theorem Nf {l : List UInt8} (h : YQ l=none) : Ve l=l∧JY (JM l)=true∧dv (JM l)=1 := by
 unfold Ve JM
 rw [h]
 exact ⟨rfl,rfl,rfl⟩
theorem YH {t : ByteArray} (h : JY t.data.toList=true) (hs : t.size≤4294967280) {k : Nat} (hk : 17179869120≤k) : dv t.data.toList < 2 ^ k := by
 refine Nat.lt_of_lt_of_le (Hj h) (Nat.pow_le_pow_right (by decide) ?_)
 have : t.data.toList.length=t.size := by simp
 omega
theorem EP {w : World} {g : Nat} (hk : Blk w g #[.bool false,.slice none 0 0] 99) : TZ w g := ⟨_,_,hk,by simp [Za]⟩
theorem refOf_pos (s : ByteArray) (w : World) (hm : MaxL w) (hs : s.size≤4294967280) (hng : IY s.data.toList=false) :
  Calls Tryz.prog 31 #[.string s] w fun e w' => Below w.heap.size w w'∧∃ g,e=.returned (.pointer (some ⟨g,0,none⟩))∧w.heap.size≤g∧RV w' g (rd s.data.toList) := by
 have HM := Qa hm
 have HNG : Hid (Lib.hasPrefix s.data.toList (⟨#[45]⟩ : ByteArray).data.toList=false) := hng
 have HNG2 := Qa hng
 obtain ⟨K,hK1,hK2⟩ : ∃ K : Nat,17179869120≤K∧K≤17179869121 := ⟨17179869120,by decide,by decide⟩
 generalize hQ : rd s.data.toList=Q
 have HQ := Qa hQ
 have HTL : Hid (s.data.toList=QU s.data.toList) := (Fr hng).symm
 have hts : s.size≤4294967280 := hs
 clear hm hng hQ
 go_enter Tryz.func31,Tryz.ntmps31
 go_wp2_with fail
 refine (Tryz.strings_HasPrefix s ⟨#[45]⟩ w).mono ?_
 rintro e w1 ⟨rfl,hw1⟩
 have hw2 := hw1.symm; subst hw2; clear hw1
 rw [HNG.out]
 go_wp2_with fail
 refine (PP s w HM.out (by omega)).mono ?_
 rintro e w1 ⟨hb1,⟨hbar,cap,rfl,hc1,hc2,hcell⟩ | ⟨i,a,b,hbar,rfl,hca,hcb,ha,hb,has,hbs⟩⟩
 ·have HB1 := Qa hb1
  obtain ⟨hup,hlo,hl1⟩ := Nf hbar
  have HUP : Hid (Ve (QU s.data.toList)=s.data.toList∧JY (JM (QU s.data.toList))=true∧dv (JM (QU s.data.toList))=1) := by
   rw [← HTL.out]
   exact ⟨hup,hlo,hl1⟩
  have hlw : w.heap.size < w1.heap.size := UE hcell
  clear hb1 hbar hup hlo hl1
  rcases hd : JY s.data.toList with _ | _
  ·have HD := Qa hd
   clear hd
   go_wp2_with fail
   refine (QZ s w1 (by omega)).mono ?_
   rintro e w2 ⟨hb_w2,rfl⟩
   rw [HD.out]
   have HCw2 := Qa (QI (Below.refl _ _) hb_w2)
   clear hb_w2
   go_wp2
   go_ret
   exact ⟨Below.new (QI HB1.out HCw2.out) _,_,rfl,((QI HB1.out HCw2.out)).size,by rw [← HQ.out,rd_up (by rw [HUP.out.1]; exact HD.out)]; exact RV.nought _⟩
  ·have HD := Qa hd
   clear hd
   go_wp2_with fail
   refine (QZ s w1 (by omega)).mono ?_
   rintro e w2 ⟨hb_w2,rfl⟩
   rw [HD.out]
   have HCw2 := Qa (QI (Below.refl _ _) hb_w2)
   clear hb_w2
   have hcell2 := (HCw2.out.cell (p := ⟨w.heap.size,0,none⟩) hlw).trans hcell
   have hlw2 : w.heap.size < w2.heap.size := UE hcell2
   go_wp2_with fail
   refine (XR (s := s) (Blk.new w2 _ _) HD.out (by omega)).mono ?_
   rintro e w5 ⟨rfl,hs5,ho5⟩
   have H5 := Qa (And.intro (ZO (Below.new (QI HB1.out HCw2.out) _) hs5 (QI HB1.out HCw2.out).size) ho5)
   clear hs5 ho5
   go_wp2_with fail
   refine (Xh 1 (by decide) w5).mono ?_
   rintro e w6 ⟨hb6,gd,rfl,hgd,ho6⟩
   have H6 := Qa (And.intro (QI H5.out.1 hb6) (And.intro (H5.out.2.below hb6) ho6))
   clear hb6 ho6
   go_wp2_with fail
   refine (JA (z := (dv s.data.toList : Int)) (b := 1) (Blk.new w6 _ _) (by simp [Za]) (Own2.iv (XN _ H6.out.2.1)) (Own2.iv (XN _ H6.out.2.2)) (by decide) (by rw [Int.natAbs_natCast]; exact QO (k := K) (YH HD.out (by omega) (by omega)) (by omega)) (QO (k := 1) (by decide) (by decide))).mono ?_
   rintro e w8 ⟨rfl,hs8,hr8⟩
   have H8 := Qa (And.intro (ZO (Below.new H6.out.1 _) hs8 H6.out.1.size) hr8)
   clear hs8 hr8
   go_wp2
   go_ret
   exact ⟨H8.out.1,_,rfl,H6.out.1.size,by rw [← HQ.out,rd_pos HNG2.out (by rw [HUP.out.1]; exact HD.out) HUP.out.2.1,HUP.out.1,HUP.out.2.2]; exact H8.out.2⟩
 ·have HB1 := Qa hb1
  have HUP : Hid (Ve (QU s.data.toList)=a.data.toList∧JM (QU s.data.toList)=b.data.toList) := by
   rw [← HTL.out]
   exact ⟨ha.symm,hb.symm⟩
  have hlw : w.heap.size < w1.heap.size := UE hca
  clear hb1 hbar ha hb
  rcases hd : JY a.data.toList with _ | _
  ·have HD := Qa hd
   clear hd
   go_wp2_with fail
   refine (QZ a w1 (by omega)).mono ?_
   rintro e w2 ⟨hb_w2,rfl⟩
   rw [HD.out]
   have HCw2 := Qa (QI (Below.refl _ _) hb_w2)
   clear hb_w2
   go_wp2
   go_ret
   exact ⟨Below.new (QI HB1.out HCw2.out) _,_,rfl,((QI HB1.out HCw2.out)).size,by rw [← HQ.out,rd_up (by rw [HUP.out.1]; exact HD.out)]; exact RV.nought _⟩
  ·have HD := Qa hd
   clear hd
   rcases hd2 : JY b.data.toList with _ | _
   ·have HD2 := Qa hd2
    clear hd2
    go_wp2_with fail
    refine (QZ a w1 (by omega)).mono ?_
    rintro e w2 ⟨hb_w2,rfl⟩
    rw [HD.out]
    have HCw2 := Qa (QI (Below.refl _ _) hb_w2)
    clear hb_w2
    have hcb2 := (HCw2.out.cell (p := ⟨w.heap.size,1,none⟩) hlw).trans hcb
    go_wp2_with fail
    refine (QZ b w2 (by omega)).mono ?_
    rintro e w3 ⟨hb_w3,rfl⟩
    rw [HD2.out]
    have HCw3 := Qa (QI HCw2.out hb_w3)
    clear hb_w3
    go_wp2
    go_ret
    exact ⟨Below.new (QI HB1.out HCw3.out) _,_,rfl,((QI HB1.out HCw3.out)).size,by rw [← HQ.out,rd_low (by rw [HUP.out.2]; exact HD2.out)]; exact RV.nought _⟩
   ·have HD2 := Qa hd2
    clear hd2
    by_cases hz : dv b.data.toList=0
    ·have HZ : Hid ((Lib.trimB b.data.toList 48).isEmpty=true) := by
      show _=_
      rw [List.isEmpty_iff,TV,GW (Xb HD2.out)]
      exact hz
     have HZ0 := Qa hz
     clear hz
     go_wp2_with fail
     refine (QZ a w1 (by omega)).mono ?_
     rintro e w2 ⟨hb_w2,rfl⟩
     rw [HD.out]
     have HCw2 := Qa (QI (Below.refl _ _) hb_w2)
     clear hb_w2
     have hcb2 := (HCw2.out.cell (p := ⟨w.heap.size,1,none⟩) hlw).trans hcb
     go_wp2_with fail
     refine (QZ b w2 (by omega)).mono ?_
     rintro e w3 ⟨hb_w3,rfl⟩
     rw [HD2.out]
     have HCw3 := Qa (QI HCw2.out hb_w3)
     clear hb_w3
     have hcb3 := (HCw3.out.cell (p := ⟨w.heap.size,1,none⟩) hlw).trans hcb
     go_wp2_with fail
     refine (Tryz.strings_Trim_one b 48 (by decide) w3 (by omega)).mono ?_
     obtain ⟨tb,htb⟩ : ∃ tb : ByteArray,(⟨(Lib.trimB b.data.toList 48).toArray⟩ : ByteArray)=tb := ⟨_,rfl⟩
     have hem : tb.toList.isEmpty=true := by
      rw [emp,← htb]
      exact HZ.out
     rw [htb]
     clear htb
     rintro e w4 ⟨rfl,hw4⟩
     have HCw4 : Hid (Below w1.heap.size w1 w4) := by
      rcases hw4 with rfl | rfl
      ·exact HCw3.out
      ·exact Below.drew HCw3.out
     clear hw4
     go_wp2
     go_ret
     exact ⟨Below.new (QI HB1.out HCw4.out) _,_,rfl,((QI HB1.out HCw4.out)).size,by rw [← HQ.out,Sr (by rw [HUP.out.2]; exact HZ0.out)]; exact RV.nought _⟩
    ·have HZ : Hid ((Lib.trimB b.data.toList 48).isEmpty=false) := by
      show _=_
      rw [List.isEmpty_eq_false_iff,Ne,TV,GW (Xb HD2.out)]
      exact hz
     have HZ0 : Hid (0 < dv b.data.toList) := Nat.pos_of_ne_zero hz
     clear hz
     go_wp2_with fail
     refine (QZ a w1 (by omega)).mono ?_
     rintro e w2 ⟨hb_w2,rfl⟩
     rw [HD.out]
     have HCw2 := Qa (QI (Below.refl _ _) hb_w2)
     clear hb_w2
     have hcb2 := (HCw2.out.cell (p := ⟨w.heap.size,1,none⟩) hlw).trans hcb
     go_wp2_with fail
     refine (QZ b w2 (by omega)).mono ?_
     rintro e w3 ⟨hb_w3,rfl⟩
     rw [HD2.out]
     have HCw3 := Qa (QI HCw2.out hb_w3)
     clear hb_w3
     have hcb3 := (HCw3.out.cell (p := ⟨w.heap.size,1,none⟩) hlw).trans hcb
     go_wp2_with fail
     refine (Tryz.strings_Trim_one b 48 (by decide) w3 (by omega)).mono ?_
     obtain ⟨tb,htb⟩ : ∃ tb : ByteArray,(⟨(Lib.trimB b.data.toList 48).toArray⟩ : ByteArray)=tb := ⟨_,rfl⟩
     have hem : tb.toList.isEmpty=false := by
      rw [emp,← htb]
      exact HZ.out
     rw [htb]
     clear htb
     rintro e w4 ⟨rfl,hw4⟩
     have HCw4 : Hid (Below w1.heap.size w1 w4) := by
      rcases hw4 with rfl | rfl
      ·exact HCw3.out
      ·exact Below.drew HCw3.out
     clear hw4
     have hca4 := (HCw4.out.cell (p := ⟨w.heap.size,0,none⟩) hlw).trans hca
     have hlw4 : w.heap.size < w4.heap.size := UE hca4
     go_wp2_with fail
     refine (XR (s := a) (Blk.new w4 _ _) HD.out (by omega)).mono ?_
     rintro e w5 ⟨rfl,hs5,ho5⟩
     have H5 := Qa (And.intro (ZO (Below.new HCw4.out _) hs5 HCw4.out.size) ho5)
     clear hs5 ho5
     go_wp2_with fail
     refine (Xh 1 (by decide) w5).mono ?_
     rintro e w6 ⟨hb6,gd,rfl,hgd,ho6⟩
     have H6 := Qa (And.intro (QI H5.out.1 hb6) (H5.out.2.below hb6))
     have hcb6 := (H6.out.1.cell (p := ⟨w.heap.size,1,none⟩) hlw).trans hcb
     have hlw6 : w.heap.size < w6.heap.size := UE hcb6
     clear hb6 ho6
     go_wp2_with fail
     refine (XR (s := b) (Blk.new w6 _ _) HD2.out (by omega)).mono ?_
     rintro e w7 ⟨rfl,hs7,ho7⟩
     have H7 := Qa (And.intro (QI HB1.out (ZO (Below.new H6.out.1 _) hs7 H6.out.1.size)) (And.intro (GD hs7 (EP (Blk.new w6 _ _)) (XN _ H6.out.2) (by have := H6.out.2.lt; omega)) ho7))
     clear hs7 ho7
     go_wp2_with fail
     refine (JA (z := (dv a.data.toList : Int)) (b := dv b.data.toList) (Blk.new w7 _ _) (by simp [Za]) (Own2.iv (XN _ H7.out.2.1)) (Own2.iv (XN _ H7.out.2.2)) HZ0.out (by rw [Int.natAbs_natCast]; exact QO (k := K) (YH HD.out (by omega) (by omega)) (by omega)) (QO (k := K) (YH HD2.out (by omega) (by omega)) (by omega))).mono ?_
     rintro e w8 ⟨rfl,hs8,hr8⟩
     have H8 := Qa (And.intro (ZO (Below.new H7.out.1 _) hs8 H7.out.1.size) hr8)
     clear hs8 hr8
     go_wp2
     go_ret
     exact ⟨H8.out.1,_,rfl,H7.out.1.size,by rw [← HQ.out,rd_pos HNG2.out (by rw [HUP.out.1]; exact HD.out) (by rw [HUP.out.2]; exact HD2.out),HUP.out.1,HUP.out.2]; exact H8.out.2⟩
theorem refOf_neg (s : ByteArray) (w : World) (hm : MaxL w) (hs : s.size≤4294967280) (hng : IY s.data.toList=true) :
  Calls Tryz.prog 31 #[.string s] w fun e w' => Below w.heap.size w w'∧∃ g,e=.returned (.pointer (some ⟨g,0,none⟩))∧w.heap.size≤g∧RV w' g (rd s.data.toList) := by
 have HM := Qa hm
 have HNG : Hid (Lib.hasPrefix s.data.toList (⟨#[45]⟩ : ByteArray).data.toList=true) := hng
 have HNG2 := Qa hng
 obtain ⟨K,hK1,hK2⟩ : ∃ K : Nat,17179869120≤K∧K≤17179869121 := ⟨17179869120,by decide,by decide⟩
 generalize hQ : rd s.data.toList=Q
 have HQ := Qa hQ
 obtain ⟨htl,hs1⟩ := GF hng
 have HTL := Qa htl
 have hts : (s.extract 1 s.size).size≤4294967280 := by rw [ByteArray.size_extract]; omega
 clear htl
 clear hm hng hQ
 go_enter Tryz.func31,Tryz.ntmps31
 go_wp2_with fail
 refine (Tryz.strings_HasPrefix s ⟨#[45]⟩ w).mono ?_
 rintro e w1 ⟨rfl,hw1⟩
 have hw2 := hw1.symm; subst hw2; clear hw1
 rw [HNG.out]
 go_wp2_with fail
 generalize s.extract 1 s.size=t at *
 refine (PP t w HM.out (by omega)).mono ?_
 rintro e w1 ⟨hb1,⟨hbar,cap,rfl,hc1,hc2,hcell⟩ | ⟨i,a,b,hbar,rfl,hca,hcb,ha,hb,has,hbs⟩⟩
 ·have HB1 := Qa hb1
  obtain ⟨hup,hlo,hl1⟩ := Nf hbar
  have HUP : Hid (Ve (QU s.data.toList)=t.data.toList∧JY (JM (QU s.data.toList))=true∧dv (JM (QU s.data.toList))=1) := by
   rw [← HTL.out]
   exact ⟨hup,hlo,hl1⟩
  have hlw : w.heap.size < w1.heap.size := UE hcell
  clear hb1 hbar hup hlo hl1
  rcases hd : JY t.data.toList with _ | _
  ·have HD := Qa hd
   clear hd
   go_wp2_with fail
   refine (QZ t w1 (by omega)).mono ?_
   rintro e w2 ⟨hb_w2,rfl⟩
   rw [HD.out]
   have HCw2 := Qa (QI (Below.refl _ _) hb_w2)
   clear hb_w2
   go_wp2
   go_ret
   exact ⟨Below.new (QI HB1.out HCw2.out) _,_,rfl,((QI HB1.out HCw2.out)).size,by rw [← HQ.out,rd_up (by rw [HUP.out.1]; exact HD.out)]; exact RV.nought _⟩
  ·have HD := Qa hd
   clear hd
   go_wp2_with fail
   refine (QZ t w1 (by omega)).mono ?_
   rintro e w2 ⟨hb_w2,rfl⟩
   rw [HD.out]
   have HCw2 := Qa (QI (Below.refl _ _) hb_w2)
   clear hb_w2
   have hcell2 := (HCw2.out.cell (p := ⟨w.heap.size,0,none⟩) hlw).trans hcell
   have hlw2 : w.heap.size < w2.heap.size := UE hcell2
   go_wp2_with fail
   refine (XR (s := t) (Blk.new w2 _ _) HD.out (by omega)).mono ?_
   rintro e w5 ⟨rfl,hs5,ho5⟩
   have H5 := Qa (And.intro (ZO (Below.new (QI HB1.out HCw2.out) _) hs5 (QI HB1.out HCw2.out).size) ho5)
   clear hs5 ho5
   go_wp2_with fail
   refine (Xh 1 (by decide) w5).mono ?_
   rintro e w6 ⟨hb6,gd,rfl,hgd,ho6⟩
   have H6 := Qa (And.intro (QI H5.out.1 hb6) (And.intro (H5.out.2.below hb6) ho6))
   clear hb6 ho6
   go_wp2_with fail
   refine (JA (z := (dv t.data.toList : Int)) (b := 1) (Blk.new w6 _ _) (by simp [Za]) (Own2.iv (XN _ H6.out.2.1)) (Own2.iv (XN _ H6.out.2.2)) (by decide) (by rw [Int.natAbs_natCast]; exact QO (k := K) (YH HD.out (by omega) (by omega)) (by omega)) (QO (k := 1) (by decide) (by decide))).mono ?_
   rintro e w8 ⟨rfl,hs8,hr8⟩
   have H8 := Qa (And.intro (ZO (Below.new H6.out.1 _) hs8 H6.out.1.size) hr8)
   clear hs8 hr8
   obtain ⟨a1,l1,c1,a2,l2,c2,hk8,_,_⟩ := H8.out.2
   have HK8 := Qa hk8
   clear hk8
   have FR : Hid (QS (K+1) (mkRat (dv t.data.toList : Int) (1))) := QS.mkr (by rw [Int.natAbs_natCast]; exact YH HD.out (by omega) (by omega)) (Nat.one_lt_two_pow (by omega))
   go_wp2_with fail
   refine (Rl HK8.out (by simp [Za]) H8.out.2 FR.out (by omega)).mono ?_
   rintro e w9 ⟨rfl,hs9,hr9⟩
   have H9 := Qa (And.intro (ZO H8.out.1 hs9 H6.out.1.size) hr9)
   clear hs9 hr9
   go_wp2
   go_ret
   exact ⟨H9.out.1,_,rfl,H6.out.1.size,by rw [← HQ.out,rd_neg HNG2.out (by rw [HUP.out.1]; exact HD.out) HUP.out.2.1,HUP.out.1,HUP.out.2.2]; exact H9.out.2⟩
 ·have HB1 := Qa hb1
  have HUP : Hid (Ve (QU s.data.toList)=a.data.toList∧JM (QU s.data.toList)=b.data.toList) := by
   rw [← HTL.out]
   exact ⟨ha.symm,hb.symm⟩
  have hlw : w.heap.size < w1.heap.size := UE hca
  clear hb1 hbar ha hb
  rcases hd : JY a.data.toList with _ | _
  ·have HD := Qa hd
   clear hd
   go_wp2_with fail
   refine (QZ a w1 (by omega)).mono ?_
   rintro e w2 ⟨hb_w2,rfl⟩
   rw [HD.out]
   have HCw2 := Qa (QI (Below.refl _ _) hb_w2)
   clear hb_w2
   go_wp2
   go_ret
   exact ⟨Below.new (QI HB1.out HCw2.out) _,_,rfl,((QI HB1.out HCw2.out)).size,by rw [← HQ.out,rd_up (by rw [HUP.out.1]; exact HD.out)]; exact RV.nought _⟩
  ·have HD := Qa hd
   clear hd
   rcases hd2 : JY b.data.toList with _ | _
   ·have HD2 := Qa hd2
    clear hd2
    go_wp2_with fail
    refine (QZ a w1 (by omega)).mono ?_
    rintro e w2 ⟨hb_w2,rfl⟩
    rw [HD.out]
    have HCw2 := Qa (QI (Below.refl _ _) hb_w2)
    clear hb_w2
    have hcb2 := (HCw2.out.cell (p := ⟨w.heap.size,1,none⟩) hlw).trans hcb
    go_wp2_with fail
    refine (QZ b w2 (by omega)).mono ?_
    rintro e w3 ⟨hb_w3,rfl⟩
    rw [HD2.out]
    have HCw3 := Qa (QI HCw2.out hb_w3)
    clear hb_w3
    go_wp2
    go_ret
    exact ⟨Below.new (QI HB1.out HCw3.out) _,_,rfl,((QI HB1.out HCw3.out)).size,by rw [← HQ.out,rd_low (by rw [HUP.out.2]; exact HD2.out)]; exact RV.nought _⟩
   ·have HD2 := Qa hd2
    clear hd2
    by_cases hz : dv b.data.toList=0
    ·have HZ : Hid ((Lib.trimB b.data.toList 48).isEmpty=true) := by
      show _=_
      rw [List.isEmpty_iff,TV,GW (Xb HD2.out)]
      exact hz
     have HZ0 := Qa hz
     clear hz
     go_wp2_with fail
     refine (QZ a w1 (by omega)).mono ?_
     rintro e w2 ⟨hb_w2,rfl⟩
     rw [HD.out]
     have HCw2 := Qa (QI (Below.refl _ _) hb_w2)
     clear hb_w2
     have hcb2 := (HCw2.out.cell (p := ⟨w.heap.size,1,none⟩) hlw).trans hcb
     go_wp2_with fail
     refine (QZ b w2 (by omega)).mono ?_
     rintro e w3 ⟨hb_w3,rfl⟩
     rw [HD2.out]
     have HCw3 := Qa (QI HCw2.out hb_w3)
     clear hb_w3
     have hcb3 := (HCw3.out.cell (p := ⟨w.heap.size,1,none⟩) hlw).trans hcb
     go_wp2_with fail
     refine (Tryz.strings_Trim_one b 48 (by decide) w3 (by omega)).mono ?_
     obtain ⟨tb,htb⟩ : ∃ tb : ByteArray,(⟨(Lib.trimB b.data.toList 48).toArray⟩ : ByteArray)=tb := ⟨_,rfl⟩
     have hem : tb.toList.isEmpty=true := by
      rw [emp,← htb]
      exact HZ.out
     rw [htb]
     clear htb
     rintro e w4 ⟨rfl,hw4⟩
     have HCw4 : Hid (Below w1.heap.size w1 w4) := by
      rcases hw4 with rfl | rfl
      ·exact HCw3.out
      ·exact Below.drew HCw3.out
     clear hw4
     go_wp2
     go_ret
     exact ⟨Below.new (QI HB1.out HCw4.out) _,_,rfl,((QI HB1.out HCw4.out)).size,by rw [← HQ.out,Sr (by rw [HUP.out.2]; exact HZ0.out)]; exact RV.nought _⟩
    ·have HZ : Hid ((Lib.trimB b.data.toList 48).isEmpty=false) := by
      show _=_
      rw [List.isEmpty_eq_false_iff,Ne,TV,GW (Xb HD2.out)]
      exact hz
     have HZ0 : Hid (0 < dv b.data.toList) := Nat.pos_of_ne_zero hz
     clear hz
     go_wp2_with fail
     refine (QZ a w1 (by omega)).mono ?_
     rintro e w2 ⟨hb_w2,rfl⟩
     rw [HD.out]
     have HCw2 := Qa (QI (Below.refl _ _) hb_w2)
     clear hb_w2
     have hcb2 := (HCw2.out.cell (p := ⟨w.heap.size,1,none⟩) hlw).trans hcb
     go_wp2_with fail
     refine (QZ b w2 (by omega)).mono ?_
     rintro e w3 ⟨hb_w3,rfl⟩
     rw [HD2.out]
     have HCw3 := Qa (QI HCw2.out hb_w3)
     clear hb_w3
     have hcb3 := (HCw3.out.cell (p := ⟨w.heap.size,1,none⟩) hlw).trans hcb
     go_wp2_with fail
     refine (Tryz.strings_Trim_one b 48 (by decide) w3 (by omega)).mono ?_
     obtain ⟨tb,htb⟩ : ∃ tb : ByteArray,(⟨(Lib.trimB b.data.toList 48).toArray⟩ : ByteArray)=tb := ⟨_,rfl⟩
     have hem : tb.toList.isEmpty=false := by
      rw [emp,← htb]
      exact HZ.out
     rw [htb]
     clear htb
     rintro e w4 ⟨rfl,hw4⟩
     have HCw4 : Hid (Below w1.heap.size w1 w4) := by
      rcases hw4 with rfl | rfl
      ·exact HCw3.out
      ·exact Below.drew HCw3.out
     clear hw4
     have hca4 := (HCw4.out.cell (p := ⟨w.heap.size,0,none⟩) hlw).trans hca
     have hlw4 : w.heap.size < w4.heap.size := UE hca4
     go_wp2_with fail
     refine (XR (s := a) (Blk.new w4 _ _) HD.out (by omega)).mono ?_
     rintro e w5 ⟨rfl,hs5,ho5⟩
     have H5 := Qa (And.intro (ZO (Below.new HCw4.out _) hs5 HCw4.out.size) ho5)
     clear hs5 ho5
     go_wp2_with fail
     refine (Xh 1 (by decide) w5).mono ?_
     rintro e w6 ⟨hb6,gd,rfl,hgd,ho6⟩
     have H6 := Qa (And.intro (QI H5.out.1 hb6) (H5.out.2.below hb6))
     have hcb6 := (H6.out.1.cell (p := ⟨w.heap.size,1,none⟩) hlw).trans hcb
     have hlw6 : w.heap.size < w6.heap.size := UE hcb6
     clear hb6 ho6
     go_wp2_with fail
     refine (XR (s := b) (Blk.new w6 _ _) HD2.out (by omega)).mono ?_
     rintro e w7 ⟨rfl,hs7,ho7⟩
     have H7 := Qa (And.intro (QI HB1.out (ZO (Below.new H6.out.1 _) hs7 H6.out.1.size)) (And.intro (GD hs7 (EP (Blk.new w6 _ _)) (XN _ H6.out.2) (by have := H6.out.2.lt; omega)) ho7))
     clear hs7 ho7
     go_wp2_with fail
     refine (JA (z := (dv a.data.toList : Int)) (b := dv b.data.toList) (Blk.new w7 _ _) (by simp [Za]) (Own2.iv (XN _ H7.out.2.1)) (Own2.iv (XN _ H7.out.2.2)) HZ0.out (by rw [Int.natAbs_natCast]; exact QO (k := K) (YH HD.out (by omega) (by omega)) (by omega)) (QO (k := K) (YH HD2.out (by omega) (by omega)) (by omega))).mono ?_
     rintro e w8 ⟨rfl,hs8,hr8⟩
     have H8 := Qa (And.intro (ZO (Below.new H7.out.1 _) hs8 H7.out.1.size) hr8)
     clear hs8 hr8
     obtain ⟨a1,l1,c1,a2,l2,c2,hk8,_,_⟩ := H8.out.2
     have HK8 := Qa hk8
     clear hk8
     have FR : Hid (QS (K+1) (mkRat (dv a.data.toList : Int) (dv b.data.toList))) := QS.mkr (by rw [Int.natAbs_natCast]; exact YH HD.out (by omega) (by omega)) (YH HD2.out (by omega) (by omega))
     go_wp2_with fail
     refine (Rl HK8.out (by simp [Za]) H8.out.2 FR.out (by omega)).mono ?_
     rintro e w9 ⟨rfl,hs9,hr9⟩
     have H9 := Qa (And.intro (ZO H8.out.1 hs9 H7.out.1.size) hr9)
     clear hs9 hr9
     go_wp2
     go_ret
     exact ⟨H9.out.1,_,rfl,H7.out.1.size,by rw [← HQ.out,rd_neg HNG2.out (by rw [HUP.out.1]; exact HD.out) (by rw [HUP.out.2]; exact HD2.out),HUP.out.1,HUP.out.2]; exact H9.out.2⟩
theorem Di (s : ByteArray) (w : World) (hm : MaxL w) (hs : s.size≤4294967280) :
  Calls Tryz.prog 31 #[.string s] w fun e w' => Below w.heap.size w w'∧∃ g,e=.returned (.pointer (some ⟨g,0,none⟩))∧w.heap.size≤g∧RV w' g (rd s.data.toList) := by
 rcases h : IY s.data.toList with _ | _
 ·exact refOf_pos s w hm hs h
 ·exact refOf_neg s w hm hs h
end Go.Proofs.YtmdfngmjoaigjaaGreatDoor
/- RB -/
namespace Go.Proofs.YtmdfngmjoaigjaaGreatDoor
open Go.RowKit Cx
attribute [local go_sem ↓] Go.wp_at_zero Go.wp_at_succ
def PR (w : World) (v : Value) (q : Rat) : Prop := ∃ g,v=.pointer (some ⟨g,0,none⟩)∧RV w g q
theorem RV.part {w : World} {g : Nat} {q : Rat} (h : RV w g q) : ∃ y0 y1 y2 y3,Blk w g #[y0,y1,y2,y3] 101∧(#[y0,y1,y2,y3] : Array Value).all Za=true := by
 obtain ⟨a1,l1,c1,a2,l2,c2,h0,_⟩ := h
 exact ⟨_,_,_,_,h0,by simp [Za]⟩
theorem CZ {w : World} {px py : Value} {x y : Rat} {k l : Nat} (hx : PR w px x) (hy : PR w py y) (fx : QS k x) (fy : QS l y) (hkl : k+l+1≤35184372088640) :
  Calls Tryz.prog 51 #[px,py] w fun e w' => Below w.heap.size w w'∧∃ v,e=.returned v∧PR w' v (x - y) := by
 obtain ⟨gx,rfl,hx⟩ := hx
 obtain ⟨gy,rfl,hy⟩ := hy
 have HX := Qa hx
 have HY := Qa hy
 clear hx hy
 go_enter Tryz.func51,Tryz.ntmps51
 go_wp2_with fail
 refine (ME (Blk.new w _ _) (by simp [Za]) (HX.out.below (Qp _ _)) (HY.out.below (Qp _ _)) fx fy hkl).mono ?_
 rintro e w1 ⟨rfl,hs,hr⟩
 have H1 := Qa (And.intro (ZO (Qp _ _) hs (Nat.le_refl _)) hr)
 clear hs hr
 go_wp2
 go_ret
 exact ⟨H1.out.1,_,rfl,_,rfl,H1.out.2⟩
def RRow (w : World) (v : Value) (qs : List Rat) : Prop :=
 ∃ b off cap,v=.slice (some ⟨b,off,none⟩) qs.length cap∧b < w.heap.size∧∀ (j : Nat) (hj : j < qs.length),∃ p,w.cell? ⟨b,off+j,none⟩=some p∧PR w p (qs[j]'hj)
theorem NT {b off n cap k : Nat} (hk : k < n) (wx : World) : (Instr.indexAt 135 (.slice (some ⟨b,off,none⟩) n cap) (.int .i64 k)).run Tryz.prog wx=.ok (.pointer (some ⟨b,off+k,none⟩)) wx := by
 have he : Tryz.prog.elem 135=31 := by simp [Program.elem,Tryz.underlying135]
 rw [run_indexAt_slice (h := by rw [he]; exact Tryz.underlying135),if_pos (by omega),he,Tryz.sizeOf31]
 simp [Result.andThen,Addr.add]
theorem EZ {w : World} {b off cap : Nat} {qs : List Rat} (h : RRow w (.slice (some ⟨b,off,none⟩) qs.length cap) qs) {K : Nat} (f : ∀ q ∈ qs,QS K q) (hn : qs.length≤2000000) (hk : qs.length*(K+1)+1≤35184372088640) :
  Calls Tryz.prog 48 #[.slice (some ⟨b,off,none⟩) qs.length cap] w fun e w' => Below w.heap.size w w'∧∃ v,e=.returned v∧PR w' v (rsum qs) := by
 have HR := Qc h
 have F := Qc f
 have HK := Qc hk
 clear h f hk
 go_enter Tryz.func48,Tryz.ntmps48
 go_wp2
 go_loopw [9] (fun i wr => ∃ k : Nat,k≤qs.length∧i=.int .i64 (k : Int)∧Below w.heap.size w wr∧RV wr w.heap.size (rsum (qs.take k))) (fun i _ => qs.length - (intOf i).toNat)
 case atStart =>
  refine ⟨0,Nat.zero_le _,rfl,Qp _ _,?_⟩
  rw [List.take_zero]
  exact RV.nought _
 case round =>
  obtain ⟨k,hkl,rfl,hbel,hq⟩ := hrel
  have HQ := Qa hq
  have HBL := Qa hbel
  clear hq hbel
  by_cases hend : k=qs.length
  ·subst hend
   go_wp2
   go_ret
   exact ⟨HBL.out,_,rfl,_,rfl,by have := HQ.out; rwa [List.take_length] at this⟩
  ·have hlt : k < qs.length := by omega
   have hidx := NT (b := b) (off := off) (cap := cap) hlt
   obtain ⟨b',off',cap',e,hbl,hcells⟩ := HR.out
   cases e
   obtain ⟨p,hp,gx,rfl,hx⟩ := hcells k hlt
   have z0 := (HBL.out.cell (p := ⟨b,off+k,none⟩) hbl).trans hp
   have HX := Qa (hx.below HBL.out)
   have FS := Qc (QS.rsum F.out k)
   have FQ := Qc (F.out _ (List.getElem_mem hlt))
   have HKK : Hid (k*(K+1)+1+K+1≤35184372088640) := by
    have h1 := HK.out
    have h2 : (k+1)*(K+1)≤qs.length*(K+1) := Nat.mul_le_mul_right _ hlt
    rw [Nat.succ_mul] at h2
    show _≤_
    omega
   have HE := Qa (Pz hlt)
   clear hp hx hcells
   obtain ⟨y0,y1,y2,y3,hkb,hno⟩ := RV.part HQ.out
   have HKB := Qa (And.intro hkb hno)
   clear hkb hno
   go_wp2_with fail
   refine (Cl HKB.out.1 HKB.out.2 HQ.out HX.out FS.out FQ.out HKK.out).mono ?_
   rintro e w2 ⟨rfl,hs,hr⟩
   have H2 := Qa (And.intro (ZO HBL.out hs (Nat.le_refl _)) hr)
   clear hs hr
   go_wp2
   go_roundw
   case rel => exact ⟨k+1,hlt,by go_num,H2.out.1,by rw [HE.out]; exact H2.out.2⟩
   case measure => simp [intOf]; omega
theorem MY {w : World} {v : Value} {qs : List Rat} (h : RRow w v qs) {K : Nat} (f : ∀ q ∈ qs,QS K q) (hn : qs.length≤2000000) (hk : qs.length*(K+1)+1≤35184372088640) :
  Calls Tryz.prog 48 #[v] w fun e w' => Below w.heap.size w w'∧∃ v',e=.returned v'∧PR w' v' (rsum qs) := by
 have h' := h
 obtain ⟨b,off,cap,rfl,_⟩ := h
 exact EZ h' f hn hk
def rprod (qs : List Rat) : Rat := qs.foldl (fun a q => a*q) 1
theorem Bi {qs : List Rat} {k : Nat} (h : k < qs.length) : rprod (qs.take (k+1))=rprod (qs.take k)*qs[k] := by
 unfold rprod
 rw [List.take_succ_eq_append_getElem h,List.foldl_append]
 rfl
theorem QS.rprod {K : Nat} : ∀ {qs : List Rat} (_ : ∀ q ∈ qs,QS K q) (k : Nat),QS (k*(K+1)+1) (rprod (qs.take k))
 | qs,_,0 => by
  rw [List.take_zero]
  exact QS.mono (k := 1) ⟨by decide,by decide⟩ (by omega)
 | qs,h,k+1 => by
  have ih := QS.rprod h k
  by_cases hk : k < qs.length
  ·rw [Bi hk]
   refine (ih.mul (h _ (List.getElem_mem hk))).mono ?_
   rw [Nat.succ_mul]; omega
  ·rw [List.take_of_length_le (by omega)]
   rw [List.take_of_length_le (by omega)] at ih
   exact ih.mono (by rw [Nat.succ_mul]; omega)
theorem Hc {w : World} {b off cap : Nat} {qs : List Rat} (h : RRow w (.slice (some ⟨b,off,none⟩) qs.length cap) qs) {K : Nat} (f : ∀ q ∈ qs,QS K q) (hn : qs.length≤2000000) (hk : qs.length*(K+1)+1≤35184372088640) :
  Calls Tryz.prog 49 #[.slice (some ⟨b,off,none⟩) qs.length cap] w fun e w' => Below w.heap.size w w'∧∃ v,e=.returned v∧PR w' v (rprod qs) := by
 have HR := Qc h
 have F := Qc f
 have HK := Qc hk
 clear h f hk
 go_enter Tryz.func49,Tryz.ntmps49
 go_wp2_with fail
 refine (Bd 1 (by decide) w).mono ?_
 rintro e w0 ⟨hb0,g0,rfl,hg0,hr0⟩
 have H0 := Qa (And.intro hb0 hr0)
 clear hb0 hr0
 go_wp2
 go_loopw [9] (fun i wr => ∃ k : Nat,k≤qs.length∧i=.int .i64 (k : Int)∧Below w.heap.size w wr∧RV wr g0 (rprod (qs.take k))) (fun i _ => qs.length - (intOf i).toNat)
 case atStart =>
  refine ⟨0,Nat.zero_le _,rfl,H0.out.1,?_⟩
  rw [List.take_zero]
  exact H0.out.2
 case round =>
  obtain ⟨k,hkl,rfl,hbel,hq⟩ := hrel
  have HQ := Qa hq
  have HBL := Qa hbel
  clear hq hbel
  by_cases hend : k=qs.length
  ·subst hend
   go_wp2
   go_ret
   exact ⟨HBL.out,_,rfl,_,rfl,by have := HQ.out; rwa [List.take_length] at this⟩
  ·have hlt : k < qs.length := by omega
   have hidx := NT (b := b) (off := off) (cap := cap) hlt
   obtain ⟨b',off',cap',e,hbl,hcells⟩ := HR.out
   cases e
   obtain ⟨p,hp,gx,rfl,hx⟩ := hcells k hlt
   have z0 := (HBL.out.cell (p := ⟨b,off+k,none⟩) hbl).trans hp
   have HX := Qa (hx.below HBL.out)
   have FS := Qc (QS.rprod F.out k)
   have FQ := Qc (F.out _ (List.getElem_mem hlt))
   have HKK : Hid (k*(K+1)+1+K+1≤35184372088640) := by
    have h1 := HK.out
    have h2 : (k+1)*(K+1)≤qs.length*(K+1) := Nat.mul_le_mul_right _ hlt
    rw [Nat.succ_mul] at h2
    show _≤_
    omega
   have HE := Qa (Bi hlt)
   clear hp hx hcells
   obtain ⟨y0,y1,y2,y3,hkb,hno⟩ := RV.part HQ.out
   have HKB := Qa (And.intro hkb hno)
   clear hkb hno
   go_wp2_with fail
   refine (CJ HKB.out.1 HKB.out.2 HQ.out HX.out FS.out FQ.out HKK.out).mono ?_
   rintro e w2 ⟨rfl,hs,hr⟩
   have H2 := Qa (And.intro (ZO HBL.out hs hg0) hr)
   clear hs hr
   go_wp2
   go_roundw
   case rel => exact ⟨k+1,hlt,by go_num,H2.out.1,by rw [HE.out]; exact H2.out.2⟩
   case measure => simp [intOf]; omega
theorem ML {w : World} {v : Value} {qs : List Rat} (h : RRow w v qs) {K : Nat} (f : ∀ q ∈ qs,QS K q) (hn : qs.length≤2000000) (hk : qs.length*(K+1)+1≤35184372088640) :
  Calls Tryz.prog 49 #[v] w fun e w' => Below w.heap.size w w'∧∃ v',e=.returned v'∧PR w' v' (rprod qs) := by
 have h' := h
 obtain ⟨b,off,cap,rfl,_⟩ := h
 exact Hc h' f hn hk
end Go.Proofs.YtmdfngmjoaigjaaGreatDoor
/- RC -/
namespace Go.Proofs.YtmdfngmjoaigjaaGreatDoor
open Go.RowKit Cx
attribute [local go_sem ↓] Go.wp_at_zero Go.wp_at_succ
end Go.Proofs.YtmdfngmjoaigjaaGreatDoor
/- RD -/
namespace Go.Proofs.YtmdfngmjoaigjaaGreatDoor
open Go.RowKit Cx
attribute [local go_sem ↓] Go.wp_at_zero Go.wp_at_succ
end Go.Proofs.YtmdfngmjoaigjaaGreatDoor
/- RF -/
namespace Go.Proofs.YtmdfngmjoaigjaaGreatDoor
open Go.RowKit Cx
attribute [local go_sem ↓] Go.wp_at_zero Go.wp_at_succ
def sgn (x : Int) : Int := if x=0 then 0 else if x < 0 then -1 else 1
theorem Bp {w : World} {p : Value} {x : Int} (hx : IV w p x) :
  Calls Tryz.prog 57 #[p] w fun e w' => Below w.heap.size w w'∧e=.returned (.int .i64 (sgn x)) := by
 obtain ⟨g,o,ao,n,c,rfl,x0,x1,x2,xl⟩ := hx
 have hz : n=0 ↔ x.natAbs=0 := by
  obtain ⟨_,_,_,e,_,_,hz⟩ := ZJ x2
  cases e
  exact hz
 clear x2
 by_cases h0 : x=0
 ·have hn : n=0 := hz.2 (by omega)
  subst hn
  have HV : Hid (sgn x=0) := if_pos h0
  clear hz h0
  go_enter Tryz.func57,Tryz.ntmps57
  go_wp2
  go_ret
  exact ⟨Below.refl _ _,by rw [HV.out]; rfl⟩
 ·have hnb : ((n : Int) == 0)=false := beq_eq_false_iff_ne.mpr (by omega)
  have hn0 : n ≠ 0 := by omega
  by_cases hs : x < 0
  ·have HV : Hid (sgn x=-1) := by show sgn x=-1; unfold sgn; rw [if_neg h0,if_pos hs]
   rw [decide_eq_true hs] at x0
   clear hz h0 hs
   go_enter Tryz.func57,Tryz.ntmps57
   go_wp2
   go_ret
   exact ⟨Below.refl _ _,by rw [HV.out]; rfl⟩
  ·have HV : Hid (sgn x=1) := by show sgn x=1; unfold sgn; rw [if_neg h0,if_neg hs]
   rw [decide_eq_false hs] at x0
   clear hz h0 hs
   go_enter Tryz.func57,Tryz.ntmps57
   go_wp2
   go_ret
   exact ⟨Below.refl _ _,by rw [HV.out]; rfl⟩
theorem Kf {w : World} {p : Value} {x : Rat} (hx : PR w p x) :
  Calls Tryz.prog 25 #[p] w fun e w' => Below w.heap.size w w'∧e=.returned (.int .i64 (sgn x.num)) := by
 obtain ⟨g,rfl,hx⟩ := hx
 have HX := Qa hx.num
 clear hx
 go_enter Tryz.func25,Tryz.ntmps25
 go_wp2_with fail
 refine (Bp HX.out).mono ?_
 rintro e w1 ⟨hb,rfl⟩
 have HB := Qa hb
 clear hb
 go_wp2
 go_ret
 exact ⟨HB.out,rfl⟩
theorem sgn_zero {x : Rat} : (sgn x.num == 0)=decide (x=0) := by
 unfold sgn
 by_cases h : x=0
 ·subst h; rfl
 ·have hn : x.num ≠ 0 := fun e => h (Rat.num_eq_zero.1 e)
  rw [if_neg hn,decide_eq_false h]
  split <;> rfl
theorem Bs {w : World} {p : Value} {x : Rat} (hx : PR w p x) :
  Calls Tryz.prog 29 #[p] w fun e w' => Below w.heap.size w w'∧e=.returned (.bool (decide (x=0))) := by
 have HX := Qa hx
 have HZ := Qa (sgn_zero (x := x))
 obtain ⟨g,rfl,hx⟩ := hx
 clear hx
 go_enter Tryz.func29,Tryz.ntmps29
 go_wp2_with fail
 refine (Kf HX.out).mono ?_
 rintro e w1 ⟨hb,rfl⟩
 have HB := Qa hb
 clear hb
 generalize sgn x.num=z at *
 go_wp2
 go_ret
 exact ⟨HB.out,by rw [← HZ.out]; rfl⟩
theorem GY (x y : Rat) : (x.num*(y.den : Int)=y.num*(x.den : Int)) ↔ x=y := by
 constructor
 ·intro h
  have := (Rat.mkRat_eq_iff (n₁ := x.num) (n₂ := y.num) x.den_nz y.den_nz).2 h
  rwa [Rat.mkRat_self,Rat.mkRat_self] at this
 ·rintro rfl
  rfl
theorem Gv {w : World} {gx gy : Nat} {x y : Rat} {k l : Nat} (hx : RV w gx x) (hy : RV w gy y) (fx : QS k x) (fy : QS l y) (hkl : k+l+1≤35184372088640) :
  Calls Tryz.prog 47 #[.pointer (some ⟨gx,0,none⟩),.pointer (some ⟨gy,0,none⟩)] w fun e w' => Below w.heap.size w w'∧∃ c : Int,e=.returned (.int .i64 c)∧(c < 0 ↔ x.num*(y.den : Int) < y.num*(x.den : Int))∧(c=0 ↔ x=y) := by
 have LX := Qa hx.lt
 have LY := Qa hy.lt
 have HX := Qa hx
 have HY := Qa hy
 have SX := Qa (Yl fx (by omega))
 have SY := Qa (Yl fy (by omega))
 have DX := Qa (Ym fx (by omega))
 have DY := Qa (Ym fy (by omega))
 have SXY := Qa (Vw fx fy hkl)
 have SYX := Qa (Vw fy fx (by omega))
 clear hx hy fx fy
 go_enter Tryz.func47,Tryz.ntmps47
 go_wp2_with fail
 refine (ZU HX.out).mono ?_
 rintro e wa ⟨hba,pa,rfl,hva,_⟩
 have HA := Qa (And.intro hba hva)
 clear hba hva
 go_wp2_with fail
 refine (ZU (HY.out.below HA.out.1)).mono ?_
 rintro e wb ⟨hbb,pb,rfl,hvb,_⟩
 have HB := Qa (And.intro (QI HA.out.1 hbb) (And.intro (HA.out.2.below hbb) hvb))
 clear hbb hvb
 go_wp2_with fail
 refine (Oh HB.out.2.1 HB.out.2.2 DX.out DY.out).mono ?_
 rintro e wc ⟨hbc,c,rfl,_,hc0⟩
 have HC := Qa (QI HB.out.1 hbc)
 have HC0 := Qa hc0
 clear hbc hc0
 by_cases hcz : c=0
 ·subst hcz
  have hden : (x.den : Int)=y.den := HC0.out.1 rfl
  have HD := Qa hden
  clear hden
  go_wp2_with fail
  go_region_held3 (fun _ => True) (trivial)
   (first
    | (go_at_call 88; refine (Oh (RV.num (HX.out.below (QI HC.out (by repeat' first | with_reducible exact Below.refl _ _ | with_reducible refine Below.drew ?_)))) (RV.num (HY.out.below (QI HC.out (by repeat' first | with_reducible exact Below.refl _ _ | with_reducible refine Below.drew ?_)))) SX.out SY.out).mono ?_; rintro e wd ⟨hbd,c,rfl,h1,h2⟩; have hbe : Below wc.heap.size wc wd := QI (by repeat' first | with_reducible exact Below.refl _ _ | with_reducible refine Below.drew ?_) hbd)
    )
  all_goals
   go_wp2
   go_ret
   have hp : (0 : Int) < y.den := by have := y.den_pos; omega
   refine ⟨QI HC.out hbe,c,rfl,?_,?_⟩
   ·rw [h1,HD.out]
    exact (Int.mul_lt_mul_right hp).symm
   ·rw [h2,← GY,HD.out]
    exact (Int.mul_eq_mul_right_iff (by omega)).symm
 ·have hcb : (c == 0)=false := beq_eq_false_iff_ne.mpr hcz
  go_wp2_with fail
  have HXC := Qa (HX.out.below HC.out)
  have HYC := Qa (HY.out.below HC.out)
  have LXC := Qa HXC.out.lt
  have LYC := Qa HYC.out.lt
  go_region_held3 (fun _ => True) (trivial)
   (first
    | (go_at_call_of 87 (Value.pointer (some { block := gy,off := 0 })); refine (ZU (HYC.out.below (by repeat' first | with_reducible exact Below.refl _ _ | with_reducible refine Below.new ?_ _ | with_reducible refine Below.drew ?_))).mono ?_; rintro e w1 ⟨hb1,p1,rfl,hv1,hap1⟩; have hbl1 : Below wc.heap.size wc w1 := QI (by repeat' first | with_reducible exact Below.refl _ _ | with_reducible refine Below.new ?_ _ | with_reducible refine Below.drew ?_) hb1)
    | (go_at_call_of 89 (Value.pointer (some { block := gx,off := 0 })); have q0 := LXC.out; have q00 := LYC.out; have e1 := hb1.size; have d1 := hbl1.size; (try simp at e1); refine (XH (by repeat' first | ((with_reducible refine WM ?_); (first | with_reducible rfl | (simp; done))) | with_reducible exact Blk.new _ _ _ | with_reducible refine Wh _ ?_ | with_reducible refine WH ?_ | with_reducible refine Xq hb1 ?_ | (first | omega | (simp; done) | (simp; omega))) (RV.num (HXC.out.below (by repeat' first | with_reducible exact hbl1 | with_reducible exact Below.refl _ _ | with_reducible refine Below.new ?_ _ | with_reducible refine Below.drew ?_))) (show IV _ p1 (y.den : Int) from (by repeat' first | with_reducible exact hv1 | with_reducible refine Pg _ ?_ | with_reducible refine TK ?_)) (YX (by (first | omega | (simp; done) | (simp; omega)))) (by first | (refine hv1.apart ?_; (first | omega | (simp; done) | (simp; omega))) | (refine hap1 _ ?_ ?_ <;> (first | omega | (simp; done) | (simp; omega)))) SX.out DY.out).mono ?_; clear q0 q00 e1 d1; rintro e w2 ⟨rfl,hs2,ho2,hh2⟩; have hbl2 : Below wc.heap.size wc w2 := ZO (by repeat' first | with_reducible exact hbl1 | with_reducible exact Below.refl _ _ | with_reducible refine Below.new ?_ _ | with_reducible refine Below.drew ?_) hs2 (by have d1 := hbl1.size; (first | omega | (simp; done) | (simp; omega))))
    | (go_at_call_of 87 (Value.pointer (some { block := gx,off := 0 })); refine (ZU (HXC.out.below (by repeat' first | with_reducible exact hbl2 | with_reducible exact hbl1 | with_reducible exact Below.refl _ _ | with_reducible refine Below.new ?_ _ | with_reducible refine Below.drew ?_))).mono ?_; rintro e w3 ⟨hb3,p3,rfl,hv3,hap3⟩; have hbl3 : Below wc.heap.size wc w3 := QI (by repeat' first | with_reducible exact hbl2 | with_reducible exact hbl1 | with_reducible exact Below.refl _ _ | with_reducible refine Below.new ?_ _ | with_reducible refine Below.drew ?_) hb3)
    | (go_at_call_of 89 (Value.pointer (some { block := gy,off := 0 })); have q0 := LXC.out; have q00 := LYC.out; have e1 := hb1.size; have d1 := hbl1.size; (try simp at e1); have e2 := hs2.size; have d2 := hbl2.size; (try simp at e2); have e3 := hb3.size; have d3 := hbl3.size; (try simp at e3); have o2 := ho2.lt; refine (XH (by repeat' first | ((with_reducible refine WM ?_); (first | with_reducible rfl | (simp; done))) | with_reducible exact Blk.new _ _ _ | with_reducible refine Wh _ ?_ | with_reducible refine WH ?_ | with_reducible refine Xq hb3 ?_ | with_reducible refine Rg hs2 ?_ ?_ | with_reducible refine Xq hb1 ?_ | (first | omega | (simp; done) | (simp; omega))) (RV.num (HYC.out.below (by repeat' first | with_reducible exact hbl3 | with_reducible exact hbl2 | with_reducible exact hbl1 | with_reducible exact Below.refl _ _ | with_reducible refine Below.new ?_ _ | with_reducible refine Below.drew ?_))) (show IV _ p3 (x.den : Int) from (by repeat' first | with_reducible exact hv3 | with_reducible refine Pg _ ?_ | with_reducible refine TK ?_)) (YX (by (first | omega | (simp; done) | (simp; omega)))) (by first | (refine hv3.apart ?_; (first | omega | (simp; done) | (simp; omega))) | (refine hap3 _ ?_ ?_ <;> (first | omega | (simp; done) | (simp; omega)))) SY.out DX.out).mono ?_; clear q0 q00 e1 d1 e2 d2 e3 d3 o2; rintro e w4 ⟨rfl,hs4,ho4,hh4⟩; have hbl4 : Below wc.heap.size wc w4 := ZO (by repeat' first | with_reducible exact hbl3 | with_reducible exact hbl2 | with_reducible exact hbl1 | with_reducible exact Below.refl _ _ | with_reducible refine Below.new ?_ _ | with_reducible refine Below.drew ?_) hs4 (by have d1 := hbl1.size; have d2 := hbl2.size; have d3 := hbl3.size; (first | omega | (simp; done) | (simp; omega))))
    | (go_at_call 88; have q0 := LXC.out; have q00 := LYC.out; have e1 := hb1.size; have d1 := hbl1.size; (try simp at e1); have e2 := hs2.size; have d2 := hbl2.size; (try simp at e2); have e3 := hb3.size; have d3 := hbl3.size; (try simp at e3); have e4 := hs4.size; have d4 := hbl4.size; (try simp at e4); have o2 := ho2.lt; have o4 := ho4.lt; refine (Oh (Own2.iv (by repeat' first | with_reducible exact ho2 | with_reducible refine XN _ ?_ | with_reducible refine IE ?_ | with_reducible refine GD hs4 hh4 ?_ ?_ | with_reducible refine Ct hb3 ?_ | (first | omega | (simp; done) | (simp; omega)))) (Own2.iv (by repeat' first | with_reducible exact ho4 | with_reducible refine XN _ ?_ | with_reducible refine IE ?_ | (first | omega | (simp; done) | (simp; omega)))) SXY.out SYX.out).mono ?_; clear q0 q00 e1 d1 e2 d2 e3 d3 e4 d4 o2 o4; rintro e w5 ⟨hb5,c5,rfl,hc5,hz5⟩; have hbl5 : Below wc.heap.size wc w5 := QI (by repeat' first | with_reducible exact hbl4 | with_reducible exact hbl3 | with_reducible exact hbl2 | with_reducible exact hbl1 | with_reducible exact Below.refl _ _ | with_reducible refine Below.new ?_ _ | with_reducible refine Below.drew ?_) hb5)
    )
  all_goals
   go_wp2
   go_ret
   exact ⟨QI HC.out hbl5,_,rfl,hc5,hz5.trans (GY x y)⟩
theorem NG {w : World} {px py : Value} {x y : Rat} {k l : Nat} (hx : PR w px x) (hy : PR w py y) (fx : QS k x) (fy : QS l y) (hkl : k+l+1≤35184372088640) :
  Calls Tryz.prog 13 #[px,py] w fun e w' => Below w.heap.size w w'∧e=.returned (.bool (decide (x=y))) := by
 obtain ⟨gx,rfl,hx⟩ := hx
 obtain ⟨gy,rfl,hy⟩ := hy
 have h := Gv hx hy fx fy hkl
 clear hx hy fx fy
 go_enter Tryz.func13,Tryz.ntmps13
 go_wp2_with fail
 refine h.mono ?_
 rintro e w1 ⟨hb,c,rfl,_,hc⟩
 have HE : Hid ((c == 0)=decide (x=y)) := by
  show _=_
  by_cases e : x=y
  ·rw [decide_eq_true e,beq_iff_eq]; exact hc.2 e
  ·rw [decide_eq_false e,beq_eq_false_iff_ne]; exact fun h => e (hc.1 h)
 have HB := Qa hb
 clear hb hc
 go_wp2
 go_ret
 exact ⟨HB.out,by rw [← HE.out]; rfl⟩
end Go.Proofs.YtmdfngmjoaigjaaGreatDoor
/- RG -/
namespace Go.Proofs.YtmdfngmjoaigjaaGreatDoor
open Go.RowKit Cx
attribute [local go_sem ↓] Go.wp_at_zero Go.wp_at_succ
end Go.Proofs.YtmdfngmjoaigjaaGreatDoor
/- RK -/
namespace Go.Proofs.YtmdfngmjoaigjaaGreatDoor
open Go.RowKit Cx
attribute [local go_sem ↓] Go.wp_at_zero Go.wp_at_succ
def SRow (w : World) (v : Value) (ss : List ByteArray) : Prop :=
 ∃ b off cap,v=.slice (some ⟨b,off,none⟩) ss.length cap∧b < w.heap.size∧∀ (j : Nat) (hj : j < ss.length),w.cell? ⟨b,off+j,none⟩=some (.string (ss[j]'hj))
theorem srow_idx {b off n cap k : Nat} (hk : k < n) (wx : World) : (Instr.indexAt 119 (.slice (some ⟨b,off,none⟩) n cap) (.int .i64 k)).run Tryz.prog wx=.ok (.pointer (some ⟨b,off+k,none⟩)) wx := by
 have he : Tryz.prog.elem 119=22 := by simp [Program.elem,Tryz.underlying119]
 rw [run_indexAt_slice (h := by rw [he]; exact Tryz.underlying119),if_pos (by omega),he,Tryz.sizeOf22]
 simp [Result.andThen,Addr.add]
def right (s : ByteArray) : Prop := tx (rd s.data.toList)=s.data.toList
theorem right_eq {s : ByteArray} : ((⟨(tx (rd s.data.toList)).toArray⟩ : ByteArray)=s) ↔ right s := by
 unfold right
 constructor
 ·intro h
  have := congrArg (fun b : ByteArray => b.data.toList) h
  simpa using this
 ·intro h
  apply ByteArray.ext
  apply Array.ext'
  simpa using h
theorem Bv {w : World} {b off cap : Nat} {ss : List ByteArray} (h : SRow w (.slice (some ⟨b,off,none⟩) ss.length cap) ss) (hm : MaxL w) (hl : ∀ s ∈ ss,s.size≤4294967280) (hn : ss.length≤1000000) :
  Calls Tryz.prog 30 #[.slice (some ⟨b,off,none⟩) ss.length cap] w fun e w' => Below w.heap.size w w'∧∃ r : Bool,e=.returned (.bool r)∧(r=true ↔ ∀ s ∈ ss,right s) := by
 have HR := Qa h
 have HM := Qa hm
 have HL := Qa hl
 clear h hm hl
 go_enter Tryz.func30,Tryz.ntmps30
 go_wp2
 go_loopw [7] (fun i wr => ∃ k : Nat,k≤ss.length∧i=.int .i64 (k : Int)∧Below w.heap.size w wr∧∀ s ∈ ss.take k,right s) (fun i _ => ss.length - (intOf i).toNat)
 case atStart => exact ⟨0,Nat.zero_le _,rfl,Below.refl _ _,by simp⟩
 case round =>
  obtain ⟨k,hkl,rfl,hbel,hall⟩ := hrel
  have HBL := Qa hbel
  have HAL := Qa hall
  clear hbel hall
  by_cases hend : k=ss.length
  ·subst hend
   go_wp2
   go_ret
   exact ⟨HBL.out,true,rfl,⟨fun _ => (by have := HAL.out; rwa [List.take_length] at this),fun _ => rfl⟩⟩
  ·have hlt : k < ss.length := by omega
   have hidx := srow_idx (b := b) (off := off) (cap := cap) hlt
   obtain ⟨b',off',cap',e,hbl,hcells⟩ := HR.out
   cases e
   have hp := hcells k hlt
   obtain ⟨s,hs⟩ : ∃ s,ss[k]=s := ⟨_,rfl⟩
   have hmem : s ∈ ss := hs ▸ List.getElem_mem hlt
   have hsz := HL.out s hmem
   rw [hs] at hp
   have z0 := (HBL.out.cell (p := ⟨b,off+k,none⟩) hbl).trans hp
   have HMEM := Qa (And.intro hs hmem)
   clear hp hcells hs hmem
   go_wp2_with fail
   refine (Di s wr (HM.out.below HBL.out) hsz).mono ?_
   rintro e w1 ⟨hb1,g1,rfl,_,hv1⟩
   have H1 := Qa (And.intro (QI HBL.out hb1) hv1)
   clear hb1 hv1
   go_wp2_with fail
   refine (Fa H1.out.2 (QS.rd s.data.toList) (by rw [QP]; omega)).mono ?_
   rintro e w2 ⟨hb2,rfl⟩
   have H2 := Qa (QI H1.out.1 hb2)
   clear hb2
   by_cases hr : right s
   ·have he := right_eq.2 hr
    rw [he]
    have HRR := Qa hr
    clear hr he
    go_wp2
    go_roundw
    case rel =>
     refine ⟨k+1,hlt,by go_num,H2.out,?_⟩
     intro t ht
     rw [List.take_succ_eq_append_getElem hlt,List.mem_append] at ht
     rcases ht with ht | ht
     ·exact HAL.out t ht
     ·rw [List.mem_singleton.1 ht,HMEM.out.1]; exact HRR.out
    case measure => simp [intOf]; omega
   ·have hne : ¬ ((⟨(tx (rd s.data.toList)).toArray⟩ : ByteArray)=s) := fun e => hr (right_eq.1 e)
    have hnb : ((⟨(tx (rd s.data.toList)).toArray⟩ : ByteArray).toList == s.toList)=false := by
     rw [beq_eq_false_iff_ne]
     intro e
     rw [ByteArray.toList_eq,ByteArray.toList_eq] at e
     exact hne (ByteArray.ext (Array.ext' e))
    have HRR := Qa hr
    clear hr
    generalize (⟨(tx (rd s.data.toList)).toArray⟩ : ByteArray)=t at *
    go_wp2
    go_ret
    exact ⟨H2.out,false,rfl,⟨fun h => (by cases h),fun h => absurd (h s HMEM.out.2) HRR.out⟩⟩
theorem FV {w : World} {v : Value} {ss : List ByteArray} (h : SRow w v ss) (hm : MaxL w) (hl : ∀ s ∈ ss,s.size≤4294967280) (hn : ss.length≤1000000) :
  Calls Tryz.prog 30 #[v] w fun e w' => Below w.heap.size w w'∧∃ r : Bool,e=.returned (.bool r)∧(r=true ↔ ∀ s ∈ ss,right s) := by
 have h' := h
 obtain ⟨b,off,cap,rfl,_⟩ := h
 exact Bv h' hm hl hn
end Go.Proofs.YtmdfngmjoaigjaaGreatDoor
/- BQU -/
namespace Go.Proofs.YtmdfngmjoaigjaaGreatDoor
open Go.RowKit Cx
attribute [local go_sem ↓] Go.wp_at_zero Go.wp_at_succ
end Go.Proofs.YtmdfngmjoaigjaaGreatDoor
/- BGC -/
namespace Go.Proofs.YtmdfngmjoaigjaaGreatDoor
open Go.RowKit Cx
attribute [local go_sem ↓] Go.wp_at_zero Go.wp_at_succ
end Go.Proofs.YtmdfngmjoaigjaaGreatDoor
/- BGD -/
namespace Go.Proofs.YtmdfngmjoaigjaaGreatDoor
open Go.RowKit Cx
attribute [local go_sem ↓] Go.wp_at_zero Go.wp_at_succ
end Go.Proofs.YtmdfngmjoaigjaaGreatDoor
/- BGE -/
namespace Go.Proofs.YtmdfngmjoaigjaaGreatDoor
open Go.RowKit Cx
attribute [local go_sem ↓] Go.wp_at_zero Go.wp_at_succ
end Go.Proofs.YtmdfngmjoaigjaaGreatDoor
/- BPL -/
namespace Go.Proofs.YtmdfngmjoaigjaaGreatDoor
open Go.RowKit Cx
attribute [local go_sem ↓] Go.wp_at_zero Go.wp_at_succ
end Go.Proofs.YtmdfngmjoaigjaaGreatDoor
/- RBS -/
namespace Go.Proofs.YtmdfngmjoaigjaaGreatDoor
open Go.RowKit Cx
theorem Cp (s : ByteArray) (w : World) (hm : MaxL w) (hs : s.size≤4294967280) :
  Calls Tryz.prog 31 #[.string s] w fun e w' => Below w.heap.size w w'∧∃ v,e=.returned v∧PR w' v (rd s.data.toList) := by
 refine (Di s w hm hs).mono ?_
 rintro e w' ⟨hb,g,rfl,_,h⟩
 exact ⟨hb,_,rfl,_,rfl,h⟩
end Go.Proofs.YtmdfngmjoaigjaaGreatDoor
/- BPM -/
namespace Go.Proofs.YtmdfngmjoaigjaaGreatDoor
open Go.RowKit Cx
attribute [local go_sem ↓] Go.wp_at_zero Go.wp_at_succ
end Go.Proofs.YtmdfngmjoaigjaaGreatDoor
/- BPN -/
namespace Go.Proofs.YtmdfngmjoaigjaaGreatDoor
open Go.RowKit Cx
attribute [local go_sem ↓] Go.wp_at_zero Go.wp_at_succ
end Go.Proofs.YtmdfngmjoaigjaaGreatDoor
/- MathZ -/
namespace Cx
end Cx
/- VQ -/
namespace Cx
theorem sg_natAbs (b : Bool) (n : Nat) : (sg b n).natAbs=n := by cases b <;> simp [sg]
theorem pl_num (G M : Nat) (f : Bool) (q : Rat) : (pl G M f q).num=sg (decide (q.num < 0) != f) (q.num.natAbs / G*(M / q.den))∧(pl G M f q).den=1 := ⟨rfl,rfl⟩
theorem TW {qs : List Rat} {q : Rat} (h : q ∈ qs) : (q*fac qs).den=1 := by
 rw [← Lc h]
 exact (pl_num _ _ _ _).2
theorem TJ {qs : List Rat} {q : Rat} (h : q ∈ qs) : (q*fac qs).num.natAbs=q.num.natAbs / gN qs*(lD qs / q.den) := by
 rw [← Lc h,(pl_num _ _ _ _).1,sg_natAbs]
end Cx
namespace Go.Proofs.YtmdfngmjoaigjaaGreatDoor
open Go.RowKit Cx
attribute [local go_sem ↓] Go.wp_at_zero Go.wp_at_succ
theorem Mi {w : World} {px : Value} {x : Rat} {k : Nat} (hx : PR w px x) (fx : QS k x) (hk : k≤35184372088640) :
  Calls Tryz.prog 56 #[px] w fun e w' => Below w.heap.size w w'∧∃ v,e=.returned v∧PR w' v (-x) := by
 obtain ⟨gx,rfl,hx⟩ := hx
 have HX := Qa hx
 clear hx
 go_enter Tryz.func56,Tryz.ntmps56
 go_wp2_with fail
 refine (Rl (Blk.new w _ _) (by simp [Za]) (HX.out.below (Qp _ _)) fx hk).mono ?_
 rintro e w1 ⟨rfl,hs,hr⟩
 have H1 := Qa (And.intro (ZO (Qp _ _) hs (Nat.le_refl _)) hr)
 clear hs hr
 go_wp2
 go_ret
 exact ⟨H1.out.1,_,rfl,_,rfl,H1.out.2⟩
end Go.Proofs.YtmdfngmjoaigjaaGreatDoor
/- VS -/
namespace Go.Proofs.YtmdfngmjoaigjaaGreatDoor
open Go.RowKit Cx
def nbS : List Nat := [101,99]
theorem blk_bk {w : World} {g : Nat} {cs : Array Value} {t : TypeId} (h : Blk w g cs t) : Bk w g cs.toList t := by
 unfold Bk
 rw [Array.toArray_toList]
 exact h
theorem NatN.gr {w w' : World} {v : Value} {n : Nat} (hg : Gr nbS w w') (h : NatN w v n) : NatN w' v n := by
 obtain ⟨l,⟨hl,⟨rfl,ao,cap,rfl⟩ | ⟨b,off,cap,rfl,hc,hm,hlt,hseg⟩⟩,t,rfl⟩ := h
 ·exact ⟨[],NatV.nil _ _ _,t,rfl⟩
 ·by_cases h0 : l.length=0
  ·have := List.length_eq_zero_iff.1 h0
   subst this
   exact ⟨[],NatV.nil _ _ _,t,rfl⟩
  ·have hn : ¬ Bxd nbS w b := by
    rintro ⟨cs,t',hb,_,hno⟩
    have h1 := hseg 0 (by omega)
    rw [Nat.add_zero,hb.cell off] at h1
    have := hno _ (List.mem_of_getElem? h1)
    simp [okV,notLm] at this
   refine ⟨l,⟨hl,Or.inr ⟨b,off,cap,rfl,hc,hm,Nat.lt_of_lt_of_le hlt hg.size,fun j hj => ?_⟩⟩,t,rfl⟩
   have : w'.cell? ⟨b,off+j,none⟩=w.cell? ⟨b,off+j,none⟩ := by simp [World.cell?,hg.block b hlt hn]
   rw [this]
   exact hseg j hj
theorem Blk.gr {w w' : World} {g : Nat} {cs : Array Value} {t : TypeId} (hg : Gr nbS w w') (h : Blk w g cs t) (ht : Vd t nbS=true) : Blk w' g cs t := by
 have hn : ¬ Bxd nbS w g := by
  rintro ⟨cs',t',hb,hT,_⟩
  have e := h
  unfold Blk at e
  unfold Bk at hb
  rw [hb] at e
  cases e
  rw [ht] at hT
  cases hT
 exact (hg.block g h.lt hn).trans h
theorem RV.gr {w w' : World} {g : Nat} {q : Rat} (hg : Gr nbS w w') (h : RV w g q) : RV w' g q := by
 obtain ⟨a1,l1,c1,a2,l2,c2,h0,h1,h2⟩ := h
 refine ⟨a1,l1,c1,a2,l2,c2,h0.gr hg (by decide),h1.gr hg,?_⟩
 rcases h2 with h2 | h2
 ·exact Or.inl (h2.gr hg)
 ·exact Or.inr h2
theorem NatN.okv {w : World} {v : Value} {n : Nat} (h : NatN w v n) : okV v=true := by
 obtain ⟨l,⟨hl,⟨rfl,ao,cap,rfl⟩ | ⟨b,off,cap,rfl,_⟩⟩,_⟩ := h <;> rfl
def XS (k : Nat) (q : Rat) : Fct nbS := match k with
 | 0 => ⟨fun v w => PR w v q,fun hg ⟨g,e,h⟩ => ⟨g,e,h.gr hg⟩,fun ⟨g,e,_⟩ => by rw [e]; rfl⟩
 | 1 => ⟨fun v _ => v=.bool (decide (q.num < 0)),fun _ h => h,fun h => by rw [h]; rfl⟩
 | 2 => ⟨fun v w => NatN w v q.num.natAbs,fun hg h => h.gr hg,fun h => h.okv⟩
 | 3 => ⟨fun v w => NatN w v (if q.den=1 then 0 else q.den),fun hg h => h.gr hg,fun h => h.okv⟩
 | 4 => ⟨fun v _ => v=.int .i64 (Xa q),fun _ h => h,fun h => by rw [h]; rfl⟩
 | 5 => ⟨fun v _ => ∃ c : Int,v=.int .i64 c∧(c=0 ↔ q=0)∧(c < 0 ↔ q < 0),fun _ h => h,fun ⟨c,h,_⟩ => by rw [h]; rfl⟩
 | 6 => ⟨fun v _ => ∃ n : Int,v=.int .i64 n∧((n : Int) : Rat)=q,fun _ h => h,fun ⟨c,h,_⟩ => by rw [h]; rfl⟩
 | 7 => ⟨fun v _ => ∃ c : Int,v=.int .i64 c∧(c=0 ↔ q=0),fun _ h => h,fun ⟨c,h,_⟩ => by rw [h]; rfl⟩
 | _ => ⟨fun _ _ => False,fun _ h => h,fun h => h.elim⟩
def YS (q : Rat) : ByteArray := ⟨(tx q).toArray⟩
def evS (q : Nat→Rat) (σ : Nat→ByteArray) : Ev nbS := ⟨q,σ,XS,YS⟩
theorem Wb {q q' : Rat} (h : YS q=YS q') : q=q' := by
 have : tx q=tx q' := by
  have := congrArg (fun s : ByteArray => s.data.toList) h
  simpa [YS] using this
 rw [← EH q,this,EH]
theorem tellS_ne (q : Rat) : XE (YS q) ≠ [] := by
 intro h
 have : tx q=[] := by simpa [XE,YS] using h
 have e := EH q
 rw [this] at e
 have h0 : q=0 := e.symm
 rw [h0] at this
 exact absurd this (by decide +kernel)
section
variable {q : Nat→Rat} {σ : Nat→ByteArray} {K : List (FuncId × List AC)} {γ : Nat→Option Nat} {w : World}
theorem EX {v : Value} {a : Nat} (h : QV w v (q a)) : avOn (cOn (evS q σ) K γ w) (q1 a) v := by
 obtain ⟨vu,vl,rfl,h1,h2⟩ := h
 exact vA_on (vs := [.bool (decide ((q a).num < 0)),vu,vl]) ⟨rfl,h1,h2,trivial⟩
theorem EM {S : Sx} {cs : List AC} {vs : List Value} {a : Nat} (hz : ∀ i,S.nd 0 [0,0,1]=some i→q i=0) (hn : Aq S cs=some a) (hA : A2 (cOn (evS q σ) K γ w) cs vs) : QV w (.agg vs.toArray) (q a)∧vs.length=3 := by
 unfold Aq at hn
 split at hn
 ·rename_i x y z
  match vs,hA with
  | [u,v,t],⟨h1,h2,h3,_⟩ =>
   refine ⟨?_,rfl⟩
   split at hn
   ·rename_i b hb
    simp only [Option.bind_eq_some_iff,ifO_some,Bool.and_eq_true,Nat.beq_eq] at hn
    obtain ⟨c,g1,d,g2,⟨e1,e2⟩,e3⟩ := hn
    cases e3
    subst e1 e2
    have k1 : u=.bool (decide ((q a).num < 0)) := YU (E := evS q σ) hb h1
    have k2 : NatN w v (q a).num.natAbs := YU (E := evS q σ) g1 h2
    have k3 : NatN w t (if (q a).den=1 then 0 else (q a).den) := YU (E := evS q σ) g2 h3
    exact ⟨v,t,by rw [k1],k2,k3⟩
   ·rw [ifO_some] at hn
    obtain ⟨g1,g2⟩ := hn
    rw [hz a g2]
    unfold isZ3 at g1
    split at g1
    ·rename_i e
     cases e
     have k1 : u=.bool false := h1.1
     have k2 : v=.slice none 0 0 := h2.1
     have k3 : t=.slice none 0 0 := h3.1
     rw [k1,k2,k3]
     exact ⟨_,_,rfl,NatN.nil _ _ _,NatN.nil _ _ _⟩
    ·cases g1
 ·cases hn
theorem Tk {S : Sx} {x : AV} {v : Value} {a : Nat} (hz : ∀ i,S.nd 0 [0,0,1]=some i→q i=0) (hn : qN S x=some a) (hx : avOn (cOn (evS q σ) K γ w) x v) : QV w v (q a) := by
 unfold qN at hn
 rw [Option.bind_eq_some_iff] at hn
 obtain ⟨cs,h1,h2⟩ := hn
 obtain ⟨vs,rfl,hA⟩ := Kt h1 hx
 exact (EM hz h2 hA).1
theorem RM {x : AV} {v : Value} {a : Nat} (hn : rN x=some a) (hx : avOn (cOn (evS q σ) K γ w) x v) : PR w v (q a) := by
 unfold rN at hn
 rw [Option.bind_eq_some_iff] at hn
 obtain ⟨c,h1,h2⟩ := hn
 exact YU (E := evS q σ) h2 (Zk h1 hx)
theorem r_on {v : Value} {a : Nat} (h : PR w v (q a)) : avOn (cOn (evS q σ) K γ w) (r1 a) v := ZE h
theorem t_on {s : ByteArray} {a : Nat} (h : s.data.toList=tx (q a)) : avOn (cOn (evS q σ) K γ w) (t1 a) (.string s) := by
 refine ZE ?_
 show Value.string s=.string (YS (q a))
 congr 1
 exact ByteArray.ext (Array.ext' (by simpa [YS] using h))
theorem sgn_on {S : Sx} {a : Nat} (hk : ∀ r,S.kn 5 a 0=some r→(r=0→q a < 0)∧(r=1→q a=0)∧(r=2→0 < q a)) : avOn (cOn (evS q σ) K γ w) (NE S a) (.int .i64 (Xa (q a))) := by
 unfold NE
 split
 ·rename_i e
  have := (hk _ e).1 rfl
  rw [show Xa (q a)=-1 by unfold Xa; rw [if_pos this]]
  exact ZE ⟨rfl,rfl⟩
 ·rename_i e
  have := (hk _ e).2.1 rfl
  rw [show Xa (q a)=0 by unfold Xa; rw [this]; decide]
  exact ZE ⟨rfl,rfl⟩
 ·rename_i e
  have := (hk _ e).2.2 rfl
  rw [show Xa (q a)=1 by unfold Xa; rw [if_neg (by grind),if_neg (by grind)]]
  exact ZE ⟨rfl,rfl⟩
 ·exact ZE (show (XS 4 (q a)).on _ w from rfl)
theorem PL (x : Rat) : x.num < 0 ↔ x < 0 := by
 rw [← Rat.not_le,← Rat.num_nonneg]
 omega
theorem EY (x : Rat) : Xa x=(if x.num=0 then 0 else if x.num < 0 then -1 else 1) := by
 unfold Xa
 by_cases h0 : x=0
 ·subst h0
  decide
 ·have hn : x.num ≠ 0 := fun e => h0 (Rat.num_eq_zero.1 e)
  rw [if_neg hn]
  by_cases hl : x < 0
  ·rw [if_pos hl,if_pos ((PL x).2 hl)]
  ·rw [if_neg hl,if_neg h0,if_neg (fun e => hl ((PL x).1 e))]
end
end Go.Proofs.YtmdfngmjoaigjaaGreatDoor
/- VU -/
namespace Go.Proofs.YtmdfngmjoaigjaaGreatDoor
open Go.RowKit Cx
attribute [local go_sem ↓] Go.wp_at_zero Go.wp_at_succ
theorem fr_neg (n : Nat) (hl : (1 : Nat) ≠ 0) (hc : Nat.Coprime n 1) : fr true n 1 hl hc=((-(n : Int) : Int) : Rat) := by
 have := De (neg := true) (u := n) (l := 1) (hl := hl) (hc := hc) (n := -(n : Int)) (d := 1) (by decide) (by simp [sg])
 rw [this,Rat.mkRat_one]
theorem Sv (n : Nat) (h0 : 0 < n) (hn : n < 9223372036854775808) : IntKind.u64.wrap (-IntKind.u64.wrap (-(n : Int)))=(n : Int) := by
 have e : ∀ z : Int,IntKind.u64.wrap z=z % 18446744073709551616 := fun z => by
  unfold IntKind.wrap
  simp only [IntKind.bits,IntKind.signed,show (2 : Int) ^ 64=18446744073709551616 from rfl,Bool.false_and,Bool.false_eq_true,if_false]
 rw [e,e]
 omega
theorem Bu (n : Nat) (h0 : 0 < n) (hn : n < 9223372036854775808) (w : World) :
  Calls Tryz.prog 77 #[.int .i64 (-(n : Int))] w fun e w' => Below w.heap.size w w'∧∃ v,e=.returned v∧QV w' v ((-(n : Int) : Int) : Rat) := by
 obtain ⟨hb0,hk0,hsz⟩ := Lb w #[.bool false,.slice none 0 0,.slice none 0 0] 84
 have HB0 := Qc hb0
 have HSZ := Qc hsz
 have HK0 := Qc hk0
 clear hb0 hsz hk0
 have hneg : (-(n : Int) < 0) := by omega
 go_enter Tryz.func77,Tryz.ntmps77
 go_wp2_with fail
 generalize (w.alloc (.cells #[.bool false,.slice none 0 0,.slice none 0 0] 84))=W0 at *
 rw [Sv n h0 hn]
 refine (Vx n W0 (by omega)).mono ?_
 rintro e w1 ⟨hb1,v1,rfl,hv1⟩
 go_wp2_with fail
 refine (Iz w1).mono ?_
 rintro e w2 ⟨hb2,v2,rfl,hv2⟩
 go_wp2_with fail
 refine (XW (neg := true) (hv1.below hb2) hv2 (by decide) (Nat.coprime_one_right n)).mono ?_
 rintro e w3 ⟨hb3,v3,rfl,hv3⟩
 rw [fr_neg] at hv3
 obtain ⟨d3,rfl⟩ := Tv hv3
 have hbl2 := hb1.trans (hb2.mono hb1.size)
 have hbl3 := hbl2.trans (hb3.mono hbl2.size)
 have hkr := HK0.out.below hbl3 (by rw [HSZ.out]; omega)
 obtain ⟨r0,r1,r2,f0,f1,f2⟩ := hkr.all3
 have HV := Qc hv3
 clear hv1 hv2 hv3
 go_wp2
 obtain ⟨k0,k1,k2,_,_,_⟩ := (hkr.put3 (.bool d3.n) (.slice d3.u d3.nu d3.cu) (.slice d3.l d3.nl d3.cl)).all3
 refine bodyPost_ret (v := .agg #[.bool d3.n,.slice d3.u d3.nu d3.cu,.slice d3.l d3.nl d3.cl]) (by simp [results,Tryz.results77,go_sem,k0,k1,k2]) rfl ⟨Below.put3 (HB0.out.trans (hbl3.mono HB0.out.size)) (by omega) _ _ _,_,rfl,?_⟩
 exact (Stays.put3 hkr (by simp [Za]) (.bool d3.n) (.slice d3.u d3.nu d3.cu) (.slice d3.l d3.nl d3.cl) rfl rfl rfl).qv HV.out
theorem LJ (z : Int) (h1 : -9223372036854775808 < z) (h2 : z < 9223372036854775808) (w : World) :
  Calls Tryz.prog 77 #[.int .i64 z] w fun e w' => Below w.heap.size w w'∧∃ v,e=.returned v∧QV w' v (z : Rat) := by
 by_cases hz : 0≤z
 ·obtain ⟨n,rfl⟩ := Int.eq_ofNat_of_zero_le hz
  exact int_calls n (by omega) w
 ·obtain ⟨n,hn⟩ := Int.eq_ofNat_of_zero_le (a := -z) (by omega)
  obtain rfl : z=-(n : Int) := by omega
  exact Bu n (by omega) (by omega) w
end Go.Proofs.YtmdfngmjoaigjaaGreatDoor
/- BNN -/
namespace Go.Proofs.YtmdfngmjoaigjaaGreatDoor
open Go.RowKit Cx
attribute [local go_sem ↓] Go.wp_at_zero Go.wp_at_succ
end Go.Proofs.YtmdfngmjoaigjaaGreatDoor
/- BNO -/
namespace Go.Proofs.YtmdfngmjoaigjaaGreatDoor
open Go.RowKit Cx
attribute [local go_sem ↓] Go.wp_at_zero Go.wp_at_succ
end Go.Proofs.YtmdfngmjoaigjaaGreatDoor
/- BNM -/
namespace Go.Proofs.YtmdfngmjoaigjaaGreatDoor
open Go.RowKit Cx
attribute [local go_sem ↓] Go.wp_at_zero Go.wp_at_succ
theorem Ga {w : World} {g o : Nat} (x : Nat) (h0 : 0 < x) (hx : x < 9223372036854775808) (h : At2 w g o) :
  Calls Tryz.prog 124 #[.pointer (some ⟨g,o,none⟩),.int .i64 (-(x : Int))] w fun e w' => e=.returned (.pointer (some ⟨g,o,none⟩))∧Gave w g o (-(x : Int)) w' := by
 have H := Qa h
 clear h
 have hneg : (-(x : Int) < 0) := by omega
 go_enter Tryz.func124,Tryz.ntmps124
 go_wp2_with fail
 rw [Sv x h0 hx]
 refine (JF x w (by omega)).mono ?_
 rintro e w1 ⟨hb1,v1,rfl,hv1⟩
 obtain ⟨ao,n,c,rfl,hn,_,hnz⟩ := ZJ hv1
 have hn0 : 0 < n := by
  refine Nat.pos_of_ne_zero fun q => ?_
  have := hnz.1 q
  omega
 have HV := Qa hv1
 have HB := Qa hb1
 have HN := Qa hn0
 clear hv1 hb1 hnz hn0
 go_wp2_with fail
 refine (YG (n := n) (ao := ao) (c := c) true (H.out.below HB.out)).mono ?_
 rintro e w2 ⟨rfl,rfl⟩
 go_wp2
 go_ret
 refine ⟨rfl,w1,ao,n,c,HB.out,?_,by rw [Int.natAbs_neg,Int.natAbs_natCast]; exact HV.out⟩
 rw [decide_eq_true HN.out,decide_eq_true hneg]
theorem Do (x : Nat) (h0 : 0 < x) (hx : x < 9223372036854775808) (w : World) :
  Calls Tryz.prog 68 #[.int .i64 (-(x : Int))] w fun e w' => Below w.heap.size w w'∧∃ g,e=.returned (.pointer (some ⟨g,0,none⟩))∧w.heap.size≤g∧Own2 w' g (-(x : Int)) := by
 have hk := Blk.new w #[.bool false,.slice none 0 0] 99
 have hb := Qp w (.cells #[.bool false,.slice none 0 0] 99)
 go_enter Tryz.func68,Tryz.ntmps68
 go_wp2_with fail
 refine (Ga x h0 hx (At2.blk hk)).mono ?_
 rintro e w2 ⟨rfl,hg⟩
 obtain ⟨ho,hbl⟩ := hg.own hk
 have HO := Qa ho
 have HB := Qa (hb.trans (hbl _ (Nat.le_refl _) hb.size))
 clear ho hbl hg hk hb
 go_wp2
 go_ret
 exact ⟨HB.out,w.heap.size,rfl,Nat.le_refl _,HO.out⟩
theorem Tb {w : World} {g : Nat} {y0 y1 y2 y3 : Value} (n : Nat) (h0 : 0 < n) (hn : n < 9223372036854775808) (hk : Blk w g #[y0,y1,y2,y3] 101) (hno : (#[y0,y1,y2,y3] : Array Value).all Za=true) :
  Calls Tryz.prog 50 #[.pointer (some ⟨g,0,none⟩),.int .i64 (-(n : Int))] w fun e w' => e=.returned (.pointer (some ⟨g,0,none⟩))∧Save g w w'∧RV w' g ((-(n : Int) : Int) : Rat) := by
 have HK := Qa hk
 have LG := Qa hk.lt
 have SN : Hid (Small ((-(n : Int))).natAbs) := by
  show Small _
  rw [Int.natAbs_neg,Int.natAbs_natCast]
  exact QO (k := 63) hn (by decide)
 have S1 : Hid (Small 1) := QO (k := 1) (by decide) (by decide)
 clear hk
 go_enter Tryz.func50,Tryz.ntmps50
 go_wp2_with fail
 refine (Do n h0 hn w).mono ?_
 rintro e w1 ⟨hb1,g1,rfl,hg1,ho1⟩
 have HO1 := Qa ho1
 have HB1 := Qa hb1
 clear ho1 hb1
 go_wp2_with fail
 refine (Xh 1 (by decide) w1).mono ?_
 rintro e w2 ⟨hb2,g2,rfl,hg2,ho2⟩
 have HO2 := Qa ho2
 have HO1' := Qa (HO1.out.below hb2)
 have HB2 := Qa (HB1.out.trans (hb2.mono HB1.out.size))
 clear ho2 hb2
 go_wp2_with fail
 refine (JA (z := -(n : Int)) (b := 1) (HK.out.below HB2.out LG.out) hno HO1'.out.iv HO2.out.iv (by decide) SN.out S1.out).mono ?_
 rintro e w3 ⟨rfl,hs,hr⟩
 rw [Rat.mkRat_one] at hr
 have HR := Qa (And.intro ((Save.of HB2.out).trans hs) hr)
 clear hs hr
 go_wp2
 go_ret
 exact ⟨rfl,HR.out.1,HR.out.2⟩
theorem Bt (n : Nat) (h0 : 0 < n) (hn : n < 9223372036854775808) (w : World) :
  Calls Tryz.prog 15 #[.int .i64 (-(n : Int))] w fun e w' => Below w.heap.size w w'∧∃ g,e=.returned (.pointer (some ⟨g,0,none⟩))∧w.heap.size≤g∧RV w' g ((-(n : Int) : Int) : Rat) := by
 have hk := Blk.new w #[.bool false,.slice none 0 0,.bool false,.slice none 0 0] 101
 have hb := Qp w (.cells #[.bool false,.slice none 0 0,.bool false,.slice none 0 0] 101)
 go_enter Tryz.func15,Tryz.ntmps15
 go_wp2_with fail
 refine (Tb n h0 hn hk (by simp [Za])).mono ?_
 rintro e w1 ⟨rfl,hs,hr⟩
 have HR := Qa (And.intro (hb.trans (hs.below (Nat.le_refl _) hb.size)) hr)
 clear hs hr hb hk
 go_wp2
 go_ret
 exact ⟨HR.out.1,w.heap.size,rfl,Nat.le_refl _,HR.out.2⟩
theorem EF (z : Int) (h1 : -9223372036854775808 < z) (h2 : z < 9223372036854775808) (w : World) :
  Calls Tryz.prog 15 #[.int .i64 z] w fun e w' => Below w.heap.size w w'∧∃ g,e=.returned (.pointer (some ⟨g,0,none⟩))∧w.heap.size≤g∧RV w' g (z : Rat) := by
 by_cases hz : 0≤z
 ·obtain ⟨n,rfl⟩ := Int.eq_ofNat_of_zero_le hz
  exact Bd n (by omega) w
 ·obtain ⟨n,hn⟩ := Int.eq_ofNat_of_zero_le (a := -z) (by omega)
  obtain rfl : z=-(n : Int) := by omega
  exact Bt n (by omega) (by omega) w
end Go.Proofs.YtmdfngmjoaigjaaGreatDoor
/- VT -/
namespace Go.Proofs.YtmdfngmjoaigjaaGreatDoor
open Go.RowKit Cx
def Zr (σ : Nat→ByteArray) (q : Nat→Rat) (nd : Nd) : Rat := match nd.1,nd.2 with
 | 0,[s,n,d] => if s=0 then mkRat (n : Int) d else mkRat (-(n : Int)) d
 | 1,[j] => rd (σ j).data.toList
 | 2,[a,b] => q a+q b
 | 3,[a,b] => q a - q b
 | 4,[a,b] => q a*q b
 | 5,[a] => -q a
 | 6,[a,b] => q a / q b
 | 7,[a,b,i,j] => if YS (q a)=σ i∧YS (q b)=σ j then 0 else 1
 | 8,i :: xs => (xs.map q).getD i 0*fac (xs.map q)
 | 9,[a] => ((q a).num : Rat)
 | 10,[a] => (((q a).den : Int) : Rat)
 | 11,[a,b] => ((flq (q a / q b) : Int) : Rat)
 | _,_ => 0
theorem PZ {op : Nat} {ar : List Nat} : ∀ {ns : List Nd} {i k : Nat},Mo op ar i ns=some k→i≤k∧ns[k - i]? = some (op,ar)
 | [],_,_,h => by cases h
 | (p,bs) :: ns,i,k,h => by
  unfold Mo at h
  cases e : (Nat.beq op p && Rq ar bs) with
  | true =>
   rw [e] at h
   cases h
   rw [Bool.and_eq_true,Nat.beq_eq] at e
   rw [e.1,Ug e.2]
   exact ⟨Nat.le_refl _,by simp⟩
  | false =>
   rw [e] at h
   obtain ⟨h1,h2⟩ := PZ (ns := ns) h
   refine ⟨by omega,?_⟩
   rw [show k - i=k - (i+1)+1 by omega]
   simpa using h2
def eqS : List (TypeId × Nat) := [(26,2),(54,9),(24,3),(49,4),(47,9)]
abbrev sx (P : Program) (N : List Nd) (H : List (Nat × Nat × Nat × Nat)) (K : List (FuncId × List AC)) (L C : List (List Nat × Nat)) (Z : List Nat) (pr : List (FuncId × Nat)) : Sx := { P := P,N := N,H := H,K := K,L := L,pr := pr,nb := nbS,eqT := eqS,Z := Z,C := C }
def Zy (w : World) : Prop := Tab w∧MaxL w
structure Hy (N : List Nd) (H : List (Nat × Nat × Nat × Nat)) (L C : List (List Nat × Nat)) (Z : List Nat) (q : Nat→Rat) (σ : Nat→ByteArray) : Prop where
 nat : ∀ a nd,N[a]? = some nd→q a=Zr σ q nd
 qs : ∀ a,QS 1000000000000 (q a)
 zs : ∀ a z,Z[a]? = some z→QS z (q a)
 par : ∀ j,(σ j).size≤1048576
 lit : ∀ s b,Wi (XE s) L=some b→q b=rd s.data.toList∧s.size≤4294967280
 k0 : ∀ a r,JG 0 a 0 H=some r→(Nat.beq 1 r=true ↔ q a=0)
 k1 : ∀ a r,JG 1 a 0 H=some r→(Nat.beq 1 r=true ↔ q a < 0)
 k2 : ∀ a r,JG 2 a 0 H=some r→(Nat.beq 1 r=true ↔ 0 < q a)
 k4 : ∀ l a b r,Wi l C=some b→JG 4 a b H=some r→(Nat.beq 1 r=true ↔ XE (YS (q a))=l)
 k3 : ∀ a b r,JG 3 a b H=some r→(Nat.beq 1 r=true ↔ q a=q b)
 k6 : ∀ a b r,JG 6 a b H=some r→(Nat.beq 1 r=true ↔ (q a=0∧q b=0))
 k5 : ∀ a r,JG 5 a 0 H=some r→(r=0→q a < 0)∧(r=1→q a=0)∧(r=2→0 < q a)
section
variable {N : List Nd} {H : List (Nat × Nat × Nat × Nat)} {K : List (FuncId × List AC)} {L C : List (List Nat × Nat)} {Z : List Nat} {pr : List (FuncId × Nat)} {q : Nat→Rat} {σ : Nat→ByteArray} {w0 : World}
theorem Hy.nd (Y : Hy N H L C Z q σ) {op : Nat} {ar : List Nat} {i : Nat} (h : (sx Tryz.prog N H K L C Z pr).nd op ar=some i) : q i=Zr σ q (op,ar) := by
 obtain ⟨_,h2⟩ := PZ h
 rw [Nat.sub_zero] at h2
 exact Y.nat i _ h2
theorem Hy.zero (Y : Hy N H L C Z q σ) : ∀ i,(sx Tryz.prog N H K L C Z pr).nd 0 [0,0,1]=some i→q i=0 := fun i h => by
 rw [Y.nd h]
 show (if (0 : Nat)=0 then mkRat ((0 : Nat) : Int) 1 else mkRat (-((0 : Nat) : Int)) 1)=0
 decide +kernel
theorem cut_app {us rs : List Value} {o n : Nat} (h : o+n≤us.length) : ((us ++ rs).drop o).take n=(us.drop o).take n := by
 rw [List.drop_append_of_le_length (by omega),List.take_append_of_le_length (by rw [List.length_drop]; omega)]
def Jy (N : List Nd) (H : List (Nat × Nat × Nat × Nat)) (K : List (FuncId × List AC)) (L C : List (List Nat × Nat)) (Z : List Nat) (pr : List (FuncId × Nat)) (q : Nat→Rat) (σ : Nat→ByteArray) (w0 : World) (c : Nat) (f : FuncId) : Prop :=
 ∀ args h nx p,El (sx Tryz.prog N H K L C Z pr) h nx c args=some p→∀ (γ : Nat→Option Nat) (w : World) (vs : List Value),WI w0 γ w→A2 (avOn (cOn (evS q σ) K γ w)) args vs→(∀ x ∈ h,x.1 ∈ p.2.1→boxOn (evS q σ) K γ w x)→(∀ b,nx≤b→b < p.2.2.2→γ b=none) →
  Calls Tryz.prog f vs.toArray w fun e w' => ∃ r γ',e=.returned r∧Ef nbS w0 [] nx p.2.2.2 γ w γ' w'∧avOn (cOn (evS q σ) K γ' w') p.1 r∧∀ x ∈ p.2.2.1,boxOn (evS q σ) K γ' w' x
theorem ZP {c : Nat} {f : FuncId} {F : List AV→Option AV} (hF : ∀ h nx args,El (sx Tryz.prog N H K L C Z pr) h nx c args=XA nx (F args))
  (hc : ∀ args v,F args=some v→∀ (γ : Nat→Option Nat) (w : World) (vs : List Value),WI w0 γ w→A2 (avOn (cOn (evS q σ) K γ w)) args vs→Calls Tryz.prog f vs.toArray w fun e w' => Below w.heap.size w w'∧∃ r,e=.returned r∧avOn (cOn (evS q σ) K γ w') v r) : Jy N H K L C Z pr q σ w0 c f := by
 intro args h nx p hp γ w vs hi hA _ _
 rw [hF] at hp
 unfold XA at hp
 rw [Option.map_eq_some_iff] at hp
 obtain ⟨v,h1,rfl⟩ := hp
 refine (hc args v h1 γ w vs hi hA).mono ?_
 rintro _ w' ⟨hb,r,rfl,hr⟩
 exact ⟨r,γ,rfl,Ef.pure hi hb _ _ _ Yu,hr,fun x hx => by cases hx⟩
theorem Gn {c : Nat} {f : FuncId} {F : Nat→List AC→Option AV} {z : Nat} (hF : ∀ h nx args p,El (sx Tryz.prog N H K L C Z pr) h nx c args=some p→∃ x b cs v,args=[x]∧YW h z x=some (b,cs)∧F b cs=some v∧p=(v,[b],[],nx))
  (hc : ∀ b cs v,F b cs=some v→∀ (γ : Nat→Option Nat) (w : World) (G o n cap : Nat) (vs : List Value) (t : TypeId),WI w0 γ w→Bk w G vs t→o+n*z≤vs.length→A2 (cOn (evS q σ) K γ w) cs ((vs.drop o).take (n*z))→Calls Tryz.prog f #[.slice (some ⟨G,o,none⟩) n cap] w fun e w' => Below w.heap.size w w'∧∃ r,e=.returned r∧avOn (cOn (evS q σ) K γ w') v r) : Jy N H K L C Z pr q σ w0 c f := by
 intro args h nx p hp γ w vs hi hA hb _
 obtain ⟨x,b,cs,v,rfl,h1,h2,rfl⟩ := hF h nx args p hp
 match vs,hA with
 | [u],⟨hu,_⟩ =>
  unfold YW at h1
  simp only [Option.bind_eq_some_iff,ifO_some,Nat.ble_eq] at h1
  obtain ⟨s,g1,ds,g2,g3,g4⟩ := h1
  cases g4
  obtain ⟨G,cap,hG,rfl⟩ := Pi g1 hu
  obtain ⟨G',us,t,k1,_,⟨rs,k2,_⟩,k3,k4⟩ := hb (s.1,ds) (Jl g2) List.mem_cons_self
  have hul : us.length=ds.length := k4.len
  rw [hG] at k1
  cases k1
  refine (hc _ _ v h2 γ w G s.2.1 s.2.2 cap (us ++ rs) t hi k2 (by rw [List.length_append]; omega) (by rw [cut_app (by omega)]; exact (k4.drop _).take _)).mono ?_
  rintro _ w' ⟨hb,r,rfl,hr⟩
  exact ⟨r,γ,rfl,Ef.pure hi hb _ _ _ Yu,hr,fun x hx => by cases hx⟩
theorem Jp {α : Type} {f : AV→Option α} {args : List AV} {r : α} (h : arg1 f args=some r) : ∃ x,args=[x]∧f x=some r := by
 unfold arg1 at h
 split at h
 ·exact ⟨_,rfl,h⟩
 ·cases h
theorem We {α : Type} {f : AV→AV→Option α} {args : List AV} {r : α} (h : Ua f args=some r) : ∃ x y,args=[x,y]∧f x y=some r := by
 unfold Ua at h
 split at h
 ·exact ⟨_,_,rfl,h⟩
 ·cases h
theorem Ke {k u : Nat} (h : u < 2 ^ k) : Lib.nDigits u≤k / 3+1 := by
 induction u using Nat.strongRecOn generalizing k with
 | ind u ih =>
  by_cases h10 : u < 10
  ·rw [Lib.nDigits_small h10]; omega
  ·rw [Lib.nDigits_big h10]
   match k,h with
   | 0,h => simp at h; omega
   | 1,h => simp at h; omega
   | 2,h => simp at h; omega
   | k+3,h =>
    have := ih (u / 10) (by omega) (k := k) (by rw [Nat.pow_succ,Nat.pow_succ,Nat.pow_succ] at h; omega)
    omega
theorem Am {k : Nat} {q : Rat} (h : QS k q) : (tx q).length≤2*(k / 3)+4 := by
 unfold tx
 rw [List.length_append,List.length_append,Lib.decDigits_length]
 have h1 := Ke h.num
 have h2 := Ke h.den
 have h3 : (if q.num < 0 then ([45] : List UInt8) else []).length≤1 := by split <;> simp
 have h4 : (if q.den=1 then [] else 47 :: Lib.decDigits q.den).length≤k / 3+2 := by
  split
  ·simp
  ·rw [List.length_cons,Lib.decDigits_length]; omega
 omega
theorem tx_on (Y : Hy N H L C Z q σ) {γ : Nat→Option Nat} {w : World} {c : AC} {a : Nat} {v : Value} (h : UQ (sx Tryz.prog N H K L C Z pr) c=some a) (hc : cOn (evS q σ) K γ w c v) : ∃ s : ByteArray,v=.string s∧rd s.data.toList=q a∧s.size≤4294967280 := by
 unfold UQ at h
 split at h
 ·rename_i b hb
  rw [ifO_some] at h
  obtain ⟨h1,h2⟩ := h
  cases h2
  have hv : v=.string (YS (q a)) := by
   unfold Jx at hb
   split at hb
   ·rw [ifO_some,Nat.beq_eq] at hb
    obtain ⟨e1,e2⟩ := hb
    cases e2
    subst e1
    exact hc
   ·cases hb
  refine ⟨_,hv,?_,?_⟩
  ·show rd (tx (q a)).toArray.toList=_
   rw [List.toList_toArray,EH]
  ·unfold zOk at h1
   split at h1
   ·rename_i z hz
    rw [Nat.ble_eq] at h1
    have := Am (Y.zs a z hz)
    show (tx (q a)).toArray.size≤_
    rw [List.size_toArray]
    omega
   ·cases h1
 ·split at h
  ·rename_i j hj
   have hv : v=.string (σ j) := by
    unfold Cc at hj
    split at hj
    ·rw [ifO_some,Nat.beq_eq] at hj
     obtain ⟨e1,e2⟩ := hj
     cases e2
     subst e1
     exact hc
    ·cases hj
   refine ⟨_,hv,?_,Nat.le_trans (Y.par j) (by decide)⟩
   rw [Y.nd h]
   rfl
  ·rw [Option.bind_eq_some_iff] at h
   obtain ⟨s,h1,h2⟩ := h
   have hv : v=.string s := by
    unfold GJ at h1
    split at h1
    ·cases h1
     exact hc.1
    ·cases h1
   obtain ⟨e1,e2⟩ := Y.lit s a h2
   exact ⟨s,hv,e1.symm,e2⟩
theorem Tc (Y : Hy N H L C Z q σ) {z : Int} {a : Nat} (h : KW (sx Tryz.prog N H K L C Z pr) z=some a) : q a=(z : Rat) := by
 cases z with
 | ofNat n =>
  rw [Y.nd (K := K) (pr := pr) h]
  show (if (0 : Nat)=0 then mkRat (n : Int) 1 else mkRat (-(n : Int)) 1)=_
  rw [if_pos rfl,Rat.mkRat_one]
  rfl
 | negSucc n =>
  rw [Y.nd (K := K) (pr := pr) h]
  show (if (1 : Nat)=0 then mkRat ((n+1 : Nat) : Int) 1 else mkRat (-((n+1 : Nat) : Int)) 1)=_
  rw [if_neg (by decide),Rat.mkRat_one]
  rfl
theorem TX (Y : Hy N H L C Z q σ) {op : Nat} {g : Rat→Rat→Rat} (hg : ∀ a b,Zr σ q (op,[a,b])=g (q a) (q b)) : ∀ {l : List Nat} {a c : Nat},AW (sx Tryz.prog N H K L C Z pr) op a l=some c→q c=(l.map q).foldl g (q a)
 | [],a,c,h => by
  cases h
  rfl
 | b :: l,a,c,h => by
  unfold AW at h
  rw [Option.bind_eq_some_iff] at h
  obtain ⟨d,h1,h2⟩ := h
  rw [TX Y hg h2,Y.nd h1,hg]
  rfl
theorem Au (Y : Hy N H L C Z q σ) {γ : Nat→Option Nat} {w : World} {S : Sx} (hS : S=sx Tryz.prog N H K L C Z pr) : ∀ {cs : List AC} {l : List Nat} {vs : List Value},WY S cs=some l→A2 (cOn (evS q σ) K γ w) cs vs→vs.length=l.length*3∧∀ (j : Nat) (hj : j < l.length),∃ c : C3,vs[j*3]? = some (.bool c.n)∧vs[j*3+1]? = some (.slice c.u c.nu c.cu)∧vs[j*3+2]? = some (.slice c.l c.nl c.cl)∧QV w (.agg #[.bool c.n,.slice c.u c.nu c.cu,.slice c.l c.nl c.cl]) (q l[j])
 | [],l,vs,h,hA => by
  cases h
  match vs,hA with
  | [],_ => exact ⟨rfl,fun j hj => absurd hj (Nat.not_lt_zero _)⟩
 | a :: b :: c :: cs,l,vs,h,hA => by
  unfold WY at h
  simp only [Option.bind_eq_some_iff,Option.map_eq_some_iff] at h
  obtain ⟨i,h1,l',h2,rfl⟩ := h
  match vs,hA with
  | x :: y :: z :: vs,⟨g1,g2,g3,g4⟩ =>
   obtain ⟨e1,e2⟩ := Au Y hS h2 g4
   have hq := (EM (q := q) (σ := σ) (K := K) (γ := γ) (w := w) (S := S) (cs := [a,b,c]) (vs := [x,y,z]) (by rw [hS]; exact Y.zero) h1 ⟨g1,g2,g3,trivial⟩).1
   refine ⟨by simp [e1,Nat.succ_mul],fun j hj => ?_⟩
   cases j with
   | zero =>
    obtain ⟨cc,ec⟩ := Tv hq
    injection ec with ec
    have ec : [x,y,z]=[.bool cc.n,.slice cc.u cc.nu cc.cu,.slice cc.l cc.nl cc.cl] := by simpa using congrArg Array.toList ec
    injection ec with x1 ec
    injection ec with x2 ec
    injection ec with x3 ec
    subst x1 x2 x3
    exact ⟨cc,rfl,rfl,rfl,hq⟩
   | succ j =>
    obtain ⟨cc,k0,k1,k2,k3⟩ := e2 j (by simpa using hj)
    refine ⟨cc,?_,?_,?_,k3⟩
    ·rw [show (j+1)*3=j*3+3 by omega]; simpa using k0
    ·rw [show (j+1)*3+1=(j*3+1)+3 by omega]; simpa using k1
    ·rw [show (j+1)*3+2=(j*3+2)+3 by omega]; simpa using k2
 | [_],_,_,h,_ => by cases h
 | [_,_],_,_,h,_ => by cases h
theorem KY {w : World} {G o n : Nat} {vs : List Value} {t : TypeId} {v : Value} {j : Nat} (hk : Bk w G vs t) (hv : ((vs.drop o).take n)[j]? = some v) : w.cell? ⟨G,o+j,none⟩=some v := by
 rw [hk.cell]
 rw [List.getElem?_take] at hv
 split at hv
 ·rwa [List.getElem?_drop] at hv
 ·cases hv
theorem qrow_at (Y : Hy N H L C Z q σ) {γ : Nat→Option Nat} {w : World} {cs : List AC} {l : List Nat} {vs : List Value} {G o n cap : Nat} {t : TypeId} (hl : WY (sx Tryz.prog N H K L C Z pr) cs=some l) (hk : Bk w G vs t) (hn : o+n*3≤vs.length) (hA : A2 (cOn (evS q σ) K γ w) cs ((vs.drop o).take (n*3))) : n=l.length∧QRow w (.slice (some ⟨G,o,none⟩) (l.map q).length cap) (l.map q) := by
 obtain ⟨e1,e2⟩ := Au Y rfl hl hA
 have hnl : n=l.length := by
  rw [List.length_take,List.length_drop] at e1
  omega
 refine ⟨hnl,G,o,cap,rfl,hk.lt,fun j hj => ?_⟩
 rw [List.length_map] at hj
 obtain ⟨c,k0,k1,k2,k3⟩ := e2 j hj
 refine ⟨c,KY hk k0,?_,?_,by rw [List.getElem_map]; exact k3⟩
 ·rw [Nat.add_assoc]; exact KY hk k1
 ·rw [Nat.add_assoc]; exact KY hk k2
theorem AP {γ : Nat→Option Nat} {w : World} : ∀ {cs : List AC} {l : List Nat} {vs : List Value},Zi (acX 0) cs=some l→A2 (cOn (evS q σ) K γ w) cs vs→vs.length=l.length∧∀ (j : Nat) (hj : j < l.length),∃ p,vs[j]? = some p∧PR w p (q l[j])
 | [],l,vs,h,hA => by
  cases h
  match vs,hA with
  | [],_ => exact ⟨rfl,fun j hj => absurd hj (Nat.not_lt_zero _)⟩
 | a :: cs,l,vs,h,hA => by
  unfold Zi at h
  simp only [Option.bind_eq_some_iff,Option.map_eq_some_iff] at h
  obtain ⟨i,h1,l',h2,rfl⟩ := h
  match vs,hA with
  | x :: vs,⟨g1,g2⟩ =>
   obtain ⟨e1,e2⟩ := AP h2 g2
   refine ⟨by simp [e1],fun j hj => ?_⟩
   cases j with
   | zero => exact ⟨x,rfl,YU (E := evS q σ) h1 g1⟩
   | succ j => simpa using e2 j (by simpa using hj)
theorem AE {γ : Nat→Option Nat} {w : World} {cs : List AC} {l : List Nat} {vs : List Value} {G o n cap : Nat} {t : TypeId} (hl : Zi (acX 0) cs=some l) (hk : Bk w G vs t) (hn : o+n*1≤vs.length) (hA : A2 (cOn (evS q σ) K γ w) cs ((vs.drop o).take (n*1))) : n=l.length∧RRow w (.slice (some ⟨G,o,none⟩) (l.map q).length cap) (l.map q) := by
 obtain ⟨e1,e2⟩ := AP hl hA
 have hnl : n=l.length := by
  rw [List.length_take,List.length_drop] at e1
  omega
 refine ⟨hnl,G,o,cap,rfl,hk.lt,fun j hj => ?_⟩
 rw [List.length_map] at hj
 obtain ⟨p,k0,k1⟩ := e2 j hj
 exact ⟨p,KY hk k0,by rw [List.getElem_map]; exact k1⟩
theorem mapT_on {γ : Nat→Option Nat} {w : World} : ∀ {cs : List AC} {l : List Nat} {vs : List Value},Zi Jx cs=some l→A2 (cOn (evS q σ) K γ w) cs vs→vs=l.map fun a => .string (YS (q a))
 | [],l,vs,h,hA => by
  cases h
  match vs,hA with
  | [],_ => rfl
 | a :: cs,l,vs,h,hA => by
  unfold Zi at h
  simp only [Option.bind_eq_some_iff,Option.map_eq_some_iff] at h
  obtain ⟨i,h1,l',h2,rfl⟩ := h
  match vs,hA with
  | x :: vs,⟨g1,g2⟩ =>
   rw [mapT_on h2 g2,List.map_cons]
   congr 1
   unfold Jx at h1
   split at h1
   ·rw [ifO_some,Nat.beq_eq] at h1
    obtain ⟨e1,e2⟩ := h1
    cases e2
    subst e1
    exact g1
   ·cases h1
theorem srow_at {γ : Nat→Option Nat} {w : World} {cs : List AC} {l : List Nat} {vs : List Value} {G o n cap : Nat} {t : TypeId} (hl : Zi Jx cs=some l) (hk : Bk w G vs t) (hn : o+n*1≤vs.length) (hA : A2 (cOn (evS q σ) K γ w) cs ((vs.drop o).take (n*1))) : n=l.length∧SRow w (.slice (some ⟨G,o,none⟩) (l.map fun a => YS (q a)).length cap) (l.map fun a => YS (q a)) := by
 have e1 := mapT_on hl hA
 have hnl : n=l.length := by
  have := congrArg List.length e1
  rw [List.length_take,List.length_drop,List.length_map] at this
  omega
 refine ⟨hnl,G,o,cap,rfl,hk.lt,fun j hj => ?_⟩
 rw [List.length_map] at hj
 refine KY hk (n := n*1) ?_
 rw [e1,List.getElem?_map,List.getElem?_eq_getElem hj,List.getElem_map]
 rfl
theorem Ej (x : Rat) : right (YS x) := by
 show tx (rd (tx x).toArray.toList)=(tx x).toArray.toList
 rw [List.toList_toArray,EH]
theorem Hp (Y : Hy N H L C Z q σ) {a : Nat} (h : zOk (sx Tryz.prog N H K L C Z pr) a=true) : (YS (q a)).size≤4294967280 := by
 unfold zOk at h
 split at h
 ·rename_i z hz
  rw [Nat.ble_eq] at h
  have := Am (Y.zs a z hz)
  show (tx (q a)).toArray.size≤_
  rw [List.size_toArray]
  omega
 ·cases h
theorem SF (a : Rat) (l : List Rat) : rsum (a :: l)=l.foldl (fun a b => a+b) a := by
 show l.foldl _ (0+a)=_
 rw [Rat.zero_add]
theorem Ah (a : Rat) (l : List Rat) : rprod (a :: l)=l.foldl (fun a b => a*b) a := by
 show l.foldl _ (1*a)=_
 rw [Rat.one_mul]
theorem prim_0 (Y : Hy N H L C Z q σ) (hp : Zy w0) : Jy N H K L C Z pr q σ w0 0 81 := by
 refine ZP (fun _ _ _ => rfl) fun args v hv γ w vs hi hA => ?_
 have hpre : Zy w := ⟨hp.1.below hi.bel,hp.2.below hi.bel⟩
 obtain ⟨x,rfl,hx⟩ := Jp hv
 replace hv := hx
 clear hx
 match vs,hA with
 | [u],⟨hu,_⟩ =>
  simp only [Option.bind_eq_some_iff,Option.map_eq_some_iff] at hv
  obtain ⟨c,h1,a,h2,rfl⟩ := hv
  obtain ⟨s,rfl,e1,e2⟩ := tx_on Y h2 (Zk h1 hu)
  refine (Af s w (Nat.le_trans e2 (by decide))).mono ?_
  rintro _ w' ⟨hb,v,rfl,hq⟩
  rw [e1] at hq
  exact ⟨hb,_,rfl,EX hq⟩
theorem prim_1 (Y : Hy N H L C Z q σ) (hp : Zy w0) : Jy N H K L C Z pr q σ w0 1 86 := by
 refine ZP (fun _ _ _ => rfl) fun args v hv γ w vs hi hA => ?_
 have hpre : Zy w := ⟨hp.1.below hi.bel,hp.2.below hi.bel⟩
 obtain ⟨x,rfl,hx⟩ := Jp hv
 replace hv := hx
 clear hx
 match vs,hA with
 | [u],⟨hu,_⟩ =>
  rw [Option.map_eq_some_iff] at hv
  obtain ⟨a,h1,rfl⟩ := hv
  refine (LS (Tk Y.zero h1 hu) (Y.qs a) (by decide) hpre.1).mono ?_
  rintro _ w' ⟨hb,s,rfl,hs⟩
  exact ⟨hb,_,rfl,t_on hs⟩
theorem prim_2 (Y : Hy N H L C Z q σ) (hp : Zy w0) : Jy N H K L C Z pr q σ w0 2 85 := by
 refine ZP (fun _ _ _ => rfl) fun args v hv γ w vs hi hA => ?_
 have hpre : Zy w := ⟨hp.1.below hi.bel,hp.2.below hi.bel⟩
 obtain ⟨x,y,rfl,hx⟩ := We hv
 replace hv := hx
 clear hx
 match vs,hA with
 | [u,t],⟨hu,ht,_⟩ =>
  unfold q2B at hv
  simp only [Option.bind_eq_some_iff,Option.map_eq_some_iff] at hv
  obtain ⟨a,h1,b,h2,i,h3,rfl⟩ := hv
  refine (KM (Tk Y.zero h1 hu) (Tk Y.zero h2 ht) (Y.qs a) (Y.qs b) (by decide)).mono ?_
  rintro _ w' ⟨hb,v,rfl,hq⟩
  refine ⟨hb,_,rfl,EX ?_⟩
  rw [Y.nd h3]
  exact hq
theorem prim_3 (Y : Hy N H L C Z q σ) (hp : Zy w0) : Jy N H K L C Z pr q σ w0 3 78 := by
 refine ZP (fun _ _ _ => rfl) fun args v hv γ w vs hi hA => ?_
 have hpre : Zy w := ⟨hp.1.below hi.bel,hp.2.below hi.bel⟩
 obtain ⟨x,y,rfl,hx⟩ := We hv
 replace hv := hx
 clear hx
 match vs,hA with
 | [u,t],⟨hu,ht,_⟩ =>
  unfold q2B at hv
  simp only [Option.bind_eq_some_iff,Option.map_eq_some_iff] at hv
  obtain ⟨a,h1,b,h2,i,h3,rfl⟩ := hv
  refine (ES (Tk Y.zero h1 hu) (Tk Y.zero h2 ht) (Y.qs a) (Y.qs b) (by decide)).mono ?_
  rintro _ w' ⟨hb,v,rfl,hq⟩
  refine ⟨hb,_,rfl,EX ?_⟩
  rw [Y.nd h3]
  exact hq
theorem prim_4 (Y : Hy N H L C Z q σ) (hp : Zy w0) : Jy N H K L C Z pr q σ w0 4 83 := by
 refine ZP (fun _ _ _ => rfl) fun args v hv γ w vs hi hA => ?_
 have hpre : Zy w := ⟨hp.1.below hi.bel,hp.2.below hi.bel⟩
 obtain ⟨x,y,rfl,hx⟩ := We hv
 replace hv := hx
 clear hx
 match vs,hA with
 | [u,t],⟨hu,ht,_⟩ =>
  unfold q2B at hv
  simp only [Option.bind_eq_some_iff,Option.map_eq_some_iff] at hv
  obtain ⟨a,h1,b,h2,i,h3,rfl⟩ := hv
  refine (PS (Tk Y.zero h1 hu) (Tk Y.zero h2 ht) (Y.qs a) (Y.qs b) (by decide)).mono ?_
  rintro _ w' ⟨hb,v,rfl,hq⟩
  refine ⟨hb,_,rfl,EX ?_⟩
  rw [Y.nd h3]
  exact hq
theorem prim_5 (Y : Hy N H L C Z q σ) (hp : Zy w0) : Jy N H K L C Z pr q σ w0 5 136 := by
 refine ZP (fun _ _ _ => rfl) fun args v hv γ w vs hi hA => ?_
 have hpre : Zy w := ⟨hp.1.below hi.bel,hp.2.below hi.bel⟩
 obtain ⟨x,y,rfl,hx⟩ := We hv
 replace hv := hx
 clear hx
 match vs,hA with
 | [u,t],⟨hu,ht,_⟩ =>
  unfold q2B at hv
  simp only [Option.bind_eq_some_iff,Option.map_eq_some_iff] at hv
  obtain ⟨a,h1,b,h2,i,h3,rfl⟩ := hv
  refine (NZ (Tk Y.zero h1 hu) (Tk Y.zero h2 ht) (Y.qs a) (Y.qs b) (by decide)).mono ?_
  rintro _ w' ⟨hb,v,rfl,hq⟩
  refine ⟨hb,_,rfl,EX ?_⟩
  rw [Y.nd h3]
  exact hq
theorem prim_6 (Y : Hy N H L C Z q σ) (hp : Zy w0) : Jy N H K L C Z pr q σ w0 6 135 := by
 refine ZP (fun _ _ _ => rfl) fun args v hv γ w vs hi hA => ?_
 have hpre : Zy w := ⟨hp.1.below hi.bel,hp.2.below hi.bel⟩
 obtain ⟨x,rfl,hx⟩ := Jp hv
 replace hv := hx
 clear hx
 match vs,hA with
 | [u],⟨hu,_⟩ =>
  simp only [Option.bind_eq_some_iff,Option.map_eq_some_iff] at hv
  obtain ⟨a,h1,i,h3,rfl⟩ := hv
  refine (Tn (Tk Y.zero h1 hu)).mono ?_
  rintro _ w' ⟨hb,v,rfl,hq⟩
  refine ⟨hb,_,rfl,EX ?_⟩
  rw [Y.nd h3]
  exact hq
theorem prim_7 (Y : Hy N H L C Z q σ) (hp : Zy w0) : Jy N H K L C Z pr q σ w0 7 79 := by
 refine ZP (fun _ _ _ => rfl) fun args v hv γ w vs hi hA => ?_
 have hpre : Zy w := ⟨hp.1.below hi.bel,hp.2.below hi.bel⟩
 obtain ⟨x,rfl,hx⟩ := Jp hv
 replace hv := hx
 clear hx
 match vs,hA with
 | [u],⟨hu,_⟩ =>
  rw [Option.map_eq_some_iff] at hv
  obtain ⟨a,h1,rfl⟩ := hv
  refine (KF (Tk Y.zero h1 hu)).mono ?_
  rintro _ w' ⟨hb,rfl⟩
  refine ⟨hb,_,rfl,?_⟩
  rw [← EY]
  exact sgn_on (Y.k5 a)
theorem prim_8 (Y : Hy N H L C Z q σ) (hp : Zy w0) : Jy N H K L C Z pr q σ w0 8 77 := by
 refine ZP (fun _ _ _ => rfl) fun args v hv γ w vs hi hA => ?_
 have hpre : Zy w := ⟨hp.1.below hi.bel,hp.2.below hi.bel⟩
 obtain ⟨x,rfl,hx⟩ := Jp hv
 replace hv := hx
 clear hx
 match vs,hA with
 | [u],⟨hu,_⟩ =>
  simp only [Option.bind_eq_some_iff,Option.map_eq_some_iff,ifO_some,Bool.and_eq_true,decide_eq_true_eq] at hv
  obtain ⟨z,h1,h2,a,h3,rfl⟩ := hv
  obtain rfl := Oq h1 hu
  refine (LJ z h2.1 h2.2 w).mono ?_
  rintro _ w' ⟨hb,v,rfl,hq⟩
  refine ⟨hb,_,rfl,EX ?_⟩
  rw [Tc Y h3]
  exact hq
theorem prim_9 (Y : Hy N H L C Z q σ) (hp : Zy w0) : Jy N H K L C Z pr q σ w0 9 142 := by
 refine Gn (z := 3) (F := fun _ cs => (WY (sx Tryz.prog N H K L C Z pr) cs).bind fun l => (Pb (sx Tryz.prog N H K L C Z pr) 2 l).bind fun a => ifO (Nat.ble l.length 20) (some (q1 a))) (fun h nx args p hp => ?_) fun b cs v hv γ w G o n cap vs t hi hk hn hA => ?_
 ·have hp : arg1 (fun x => (YW h 3 x).bind fun p => _) args=some p := hp
  obtain ⟨x,rfl,hx⟩ := Jp hp
  replace hp := hx
  clear hx
  simp only [Option.bind_eq_some_iff,ifO_some] at hp
  obtain ⟨⟨b,cs⟩,h1,l,h2,a,h3,h4,h5⟩ := hp
  cases h5
  exact ⟨x,b,cs,q1 a,rfl,h1,by simp only [Option.bind_eq_some_iff,ifO_some]; exact ⟨l,h2,a,h3,h4,rfl⟩,rfl⟩
 ·have hpre : Zy w := ⟨hp.1.below hi.bel,hp.2.below hi.bel⟩
  simp only [Option.bind_eq_some_iff,ifO_some,Nat.ble_eq] at hv
  obtain ⟨l,h2,a,h3,h4,h5⟩ := hv
  cases h5
  obtain ⟨rfl,hr⟩ := qrow_at Y h2 hk hn hA
  have hll : (l.map q).length=l.length := List.length_map ..
  rw [← hll]
  refine (sum_calls hr (K := 1000000000000) (fun x hx => by obtain ⟨i,_,rfl⟩ := List.mem_map.1 hx; exact Y.qs i) (by rw [hll]; omega) (by rw [hll]; omega)).mono ?_
  rintro _ w' ⟨hb,v,rfl,hq⟩
  refine ⟨hb,_,rfl,EX ?_⟩
  cases l with
  | nil => cases h3
  | cons i l =>
   rw [TX (g := fun a b => a+b) Y (fun _ _ => rfl) h3]
   rw [List.map_cons,SF] at hq
   exact hq
theorem prim_24 (Y : Hy N H L C Z q σ) (hp : Zy w0) : Jy N H K L C Z pr q σ w0 24 48 := by
 refine Gn (z := 1) (F := fun _ cs => (Zi (acX 0) cs).bind fun l => (Pb (sx Tryz.prog N H K L C Z pr) 2 l).bind fun a => ifO (Nat.ble l.length 20) (some (r1 a))) (fun h nx args p hp => ?_) fun b cs v hv γ w G o n cap vs t hi hk hn hA => ?_
 ·have hp : arg1 (fun x => (YW h 1 x).bind fun p => _) args=some p := hp
  obtain ⟨x,rfl,hx⟩ := Jp hp
  replace hp := hx
  clear hx
  simp only [Option.bind_eq_some_iff,ifO_some] at hp
  obtain ⟨⟨b,cs⟩,h1,l,h2,a,h3,h4,h5⟩ := hp
  cases h5
  exact ⟨x,b,cs,r1 a,rfl,h1,by simp only [Option.bind_eq_some_iff,ifO_some]; exact ⟨l,h2,a,h3,h4,rfl⟩,rfl⟩
 ·have hpre : Zy w := ⟨hp.1.below hi.bel,hp.2.below hi.bel⟩
  simp only [Option.bind_eq_some_iff,ifO_some,Nat.ble_eq] at hv
  obtain ⟨l,h2,a,h3,h4,h5⟩ := hv
  cases h5
  obtain ⟨rfl,hr⟩ := AE h2 hk hn hA
  have hll : (l.map q).length=l.length := List.length_map ..
  rw [← hll]
  refine (MY hr (K := 1000000000000) (fun x hx => by obtain ⟨i,_,rfl⟩ := List.mem_map.1 hx; exact Y.qs i) (by rw [hll]; omega) (by rw [hll]; omega)).mono ?_
  rintro _ w' ⟨hb,v,rfl,hq⟩
  refine ⟨hb,_,rfl,r_on ?_⟩
  cases l with
  | nil => cases h3
  | cons i l =>
   rw [TX (g := fun a b => a+b) Y (fun _ _ => rfl) h3]
   rw [List.map_cons,SF] at hq
   exact hq
theorem prim_25 (Y : Hy N H L C Z q σ) (hp : Zy w0) : Jy N H K L C Z pr q σ w0 25 49 := by
 refine Gn (z := 1) (F := fun _ cs => (Zi (acX 0) cs).bind fun l => (Pb (sx Tryz.prog N H K L C Z pr) 4 l).bind fun a => ifO (Nat.ble l.length 20) (some (r1 a))) (fun h nx args p hp => ?_) fun b cs v hv γ w G o n cap vs t hi hk hn hA => ?_
 ·have hp : arg1 (fun x => (YW h 1 x).bind fun p => _) args=some p := hp
  obtain ⟨x,rfl,hx⟩ := Jp hp
  replace hp := hx
  clear hx
  simp only [Option.bind_eq_some_iff,ifO_some] at hp
  obtain ⟨⟨b,cs⟩,h1,l,h2,a,h3,h4,h5⟩ := hp
  cases h5
  exact ⟨x,b,cs,r1 a,rfl,h1,by simp only [Option.bind_eq_some_iff,ifO_some]; exact ⟨l,h2,a,h3,h4,rfl⟩,rfl⟩
 ·have hpre : Zy w := ⟨hp.1.below hi.bel,hp.2.below hi.bel⟩
  simp only [Option.bind_eq_some_iff,ifO_some,Nat.ble_eq] at hv
  obtain ⟨l,h2,a,h3,h4,h5⟩ := hv
  cases h5
  obtain ⟨rfl,hr⟩ := AE h2 hk hn hA
  have hll : (l.map q).length=l.length := List.length_map ..
  rw [← hll]
  refine (ML hr (K := 1000000000000) (fun x hx => by obtain ⟨i,_,rfl⟩ := List.mem_map.1 hx; exact Y.qs i) (by rw [hll]; omega) (by rw [hll]; omega)).mono ?_
  rintro _ w' ⟨hb,v,rfl,hq⟩
  refine ⟨hb,_,rfl,r_on ?_⟩
  cases l with
  | nil => cases h3
  | cons i l =>
   rw [TX (g := fun a b => a*b) Y (fun _ _ => rfl) h3]
   rw [List.map_cons,Ah] at hq
   exact hq
theorem prim_20 (Y : Hy N H L C Z q σ) (hp : Zy w0) : Jy N H K L C Z pr q σ w0 20 31 := by
 refine ZP (fun _ _ _ => rfl) fun args v hv γ w vs hi hA => ?_
 have hpre : Zy w := ⟨hp.1.below hi.bel,hp.2.below hi.bel⟩
 obtain ⟨x,rfl,hx⟩ := Jp hv
 replace hv := hx
 clear hx
 match vs,hA with
 | [u],⟨hu,_⟩ =>
  simp only [Option.bind_eq_some_iff,Option.map_eq_some_iff] at hv
  obtain ⟨c,h1,a,h2,rfl⟩ := hv
  obtain ⟨s,rfl,e1,e2⟩ := tx_on Y h2 (Zk h1 hu)
  refine (Cp s w hpre.2 e2).mono ?_
  rintro _ w' ⟨hb,v,rfl,hq⟩
  rw [e1] at hq
  exact ⟨hb,_,rfl,r_on hq⟩
theorem prim_21 (Y : Hy N H L C Z q σ) (hp : Zy w0) : Jy N H K L C Z pr q σ w0 21 62 := by
 refine ZP (fun _ _ _ => rfl) fun args v hv γ w vs hi hA => ?_
 have hpre : Zy w := ⟨hp.1.below hi.bel,hp.2.below hi.bel⟩
 obtain ⟨x,rfl,hx⟩ := Jp hv
 replace hv := hx
 clear hx
 match vs,hA with
 | [u],⟨hu,_⟩ =>
  rw [Option.map_eq_some_iff] at hv
  obtain ⟨a,h1,rfl⟩ := hv
  obtain ⟨g,rfl,hg⟩ := RM (q := q) (σ := σ) h1 hu
  refine (Fa hg (Y.qs a) (by decide)).mono ?_
  rintro _ w' ⟨hb,rfl⟩
  exact ⟨hb,_,rfl,t_on (by simp)⟩
theorem prim_22 (Y : Hy N H L C Z q σ) (hp : Zy w0) : Jy N H K L C Z pr q σ w0 22 15 := by
 refine ZP (fun _ _ _ => rfl) fun args v hv γ w vs hi hA => ?_
 have hpre : Zy w := ⟨hp.1.below hi.bel,hp.2.below hi.bel⟩
 obtain ⟨x,rfl,hx⟩ := Jp hv
 replace hv := hx
 clear hx
 match vs,hA with
 | [u],⟨hu,_⟩ =>
  simp only [Option.bind_eq_some_iff,Option.map_eq_some_iff,ifO_some,Bool.and_eq_true,decide_eq_true_eq] at hv
  obtain ⟨z,h1,⟨h2,h4⟩,a,h3,rfl⟩ := hv
  obtain rfl := Oq h1 hu
  refine (EF z h2 h4 w).mono ?_
  rintro _ w' ⟨hb,g,rfl,_,hq⟩
  refine ⟨hb,_,rfl,r_on ?_⟩
  rw [Tc Y h3]
  exact ⟨g,rfl,hq⟩
theorem prim_26 (Y : Hy N H L C Z q σ) (hp : Zy w0) : Jy N H K L C Z pr q σ w0 26 51 := by
 refine ZP (fun _ _ _ => rfl) fun args v hv γ w vs hi hA => ?_
 have hpre : Zy w := ⟨hp.1.below hi.bel,hp.2.below hi.bel⟩
 obtain ⟨x,y,rfl,hx⟩ := We hv
 replace hv := hx
 clear hx
 match vs,hA with
 | [u,t],⟨hu,ht,_⟩ =>
  unfold r2B at hv
  simp only [Option.bind_eq_some_iff,Option.map_eq_some_iff] at hv
  obtain ⟨a,h1,b,h2,i,h3,rfl⟩ := hv
  refine (CZ (RM (q := q) (σ := σ) h1 hu) (RM (q := q) (σ := σ) h2 ht) (Y.qs a) (Y.qs b) (by decide)).mono ?_
  rintro _ w' ⟨hb,v,rfl,hq⟩
  refine ⟨hb,_,rfl,r_on ?_⟩
  rw [Y.nd h3]
  exact hq
theorem prim_28 (Y : Hy N H L C Z q σ) (hp : Zy w0) : Jy N H K L C Z pr q σ w0 28 56 := by
 refine ZP (fun _ _ _ => rfl) fun args v hv γ w vs hi hA => ?_
 have hpre : Zy w := ⟨hp.1.below hi.bel,hp.2.below hi.bel⟩
 obtain ⟨x,rfl,hx⟩ := Jp hv
 replace hv := hx
 clear hx
 match vs,hA with
 | [u],⟨hu,_⟩ =>
  simp only [Option.bind_eq_some_iff,Option.map_eq_some_iff] at hv
  obtain ⟨a,h1,i,h3,rfl⟩ := hv
  refine (Mi (RM (q := q) (σ := σ) h1 hu) (Y.qs a) (by decide)).mono ?_
  rintro _ w' ⟨hb,v,rfl,hq⟩
  refine ⟨hb,_,rfl,r_on ?_⟩
  rw [Y.nd h3]
  exact hq
theorem prim_29 (Y : Hy N H L C Z q σ) (hp : Zy w0) : Jy N H K L C Z pr q σ w0 29 13 := by
 refine ZP (fun _ _ _ => rfl) fun args v hv γ w vs hi hA => ?_
 have hpre : Zy w := ⟨hp.1.below hi.bel,hp.2.below hi.bel⟩
 obtain ⟨x,y,rfl,hx⟩ := We hv
 replace hv := hx
 clear hx
 match vs,hA with
 | [u,t],⟨hu,ht,_⟩ =>
  simp only [Option.bind_eq_some_iff] at hv
  obtain ⟨a,h1,b,h2,h3⟩ := hv
  refine (NG (RM (q := q) (σ := σ) h1 hu) (RM (q := q) (σ := σ) h2 ht) (Y.qs a) (Y.qs b) (by decide)).mono ?_
  rintro _ w' ⟨hb,rfl⟩
  refine ⟨hb,_,rfl,?_⟩
  cases e : Nat.beq a b with
  | true =>
   rw [e] at h3
   cases h3
   rw [Nat.beq_eq] at e
   subst e
   rw [decide_eq_true rfl]
   exact ZE ⟨rfl,rfl⟩
  | false =>
   rw [e] at h3
   simp only [cond_false,Option.map_eq_some_iff] at h3
   obtain ⟨r,h4,rfl⟩ := h3
   rw [show decide (q a=q b)=Nat.beq 1 r by rw [Bool.eq_iff_iff,decide_eq_true_eq,Y.k3 a b r h4]]
   exact ZE ⟨rfl,rfl⟩
theorem prim_30 (Y : Hy N H L C Z q σ) (hp : Zy w0) : Jy N H K L C Z pr q σ w0 30 29 := by
 refine ZP (fun _ _ _ => rfl) fun args v hv γ w vs hi hA => ?_
 have hpre : Zy w := ⟨hp.1.below hi.bel,hp.2.below hi.bel⟩
 obtain ⟨x,rfl,hx⟩ := Jp hv
 replace hv := hx
 clear hx
 match vs,hA with
 | [u],⟨hu,_⟩ =>
  simp only [Option.bind_eq_some_iff,Option.map_eq_some_iff] at hv
  obtain ⟨a,h1,r,h2,rfl⟩ := hv
  refine (Bs (RM (q := q) (σ := σ) h1 hu)).mono ?_
  rintro _ w' ⟨hb,rfl⟩
  refine ⟨hb,_,rfl,?_⟩
  rw [show decide (q a=0)=Nat.beq 1 r by rw [Bool.eq_iff_iff,decide_eq_true_eq,Y.k0 a r h2]]
  exact ZE ⟨rfl,rfl⟩
theorem prim_31 (Y : Hy N H L C Z q σ) (hp : Zy w0) : Jy N H K L C Z pr q σ w0 31 25 := by
 refine ZP (fun _ _ _ => rfl) fun args v hv γ w vs hi hA => ?_
 have hpre : Zy w := ⟨hp.1.below hi.bel,hp.2.below hi.bel⟩
 obtain ⟨x,rfl,hx⟩ := Jp hv
 replace hv := hx
 clear hx
 match vs,hA with
 | [u],⟨hu,_⟩ =>
  rw [Option.map_eq_some_iff] at hv
  obtain ⟨a,h1,rfl⟩ := hv
  refine (Kf (RM (q := q) (σ := σ) h1 hu)).mono ?_
  rintro _ w' ⟨hb,rfl⟩
  refine ⟨hb,_,rfl,?_⟩
  unfold sgn
  rw [← EY]
  exact sgn_on (Y.k5 a)
theorem prim_34 (Y : Hy N H L C Z q σ) (hp : Zy w0) : Jy N H K L C Z pr q σ w0 34 47 := by
 refine ZP (fun _ _ _ => rfl) fun args v hv γ w vs hi hA => ?_
 have hpre : Zy w := ⟨hp.1.below hi.bel,hp.2.below hi.bel⟩
 obtain ⟨x,y,rfl,hx⟩ := We hv
 replace hv := hx
 clear hx
 match vs,hA with
 | [u,t],⟨hu,ht,_⟩ =>
  simp only [Option.bind_eq_some_iff,Option.map_eq_some_iff] at hv
  obtain ⟨a,h1,b,h2,i,h3,rfl⟩ := hv
  obtain ⟨gx,rfl,hx⟩ := RM (q := q) (σ := σ) h1 hu
  obtain ⟨gy,rfl,hy⟩ := RM (q := q) (σ := σ) h2 ht
  refine (Gv hx hy (Y.qs a) (Y.qs b) (by decide)).mono ?_
  rintro _ w' ⟨hb,c,rfl,hc1,hc2⟩
  refine ⟨hb,_,rfl,ZE ⟨c,rfl,?_,?_⟩⟩
  ·rw [hc2,show (evS q σ).q i=q i from rfl,Y.nd h3]
   show q a=q b ↔ q a - q b=0
   constructor
   ·intro e; rw [e]; grind
   ·intro e; grind
  ·rw [hc1,show (evS q σ).q i=q i from rfl,Y.nd h3]
   show _ ↔ q a - q b < 0
   rw [show (q a - q b < 0 ↔ q a < q b) by constructor <;> intro e <;> grind]
   exact (Rat.lt_iff _ _).symm
theorem prim_32 (Y : Hy N H L C Z q σ) (hp : Zy w0) : Jy N H K L C Z pr q σ w0 32 30 := by
 refine Gn (z := 1) (F := fun _ cs => (Zi Jx cs).bind fun l => ifO (l.all (zOk (sx Tryz.prog N H K L C Z pr)) && Nat.ble l.length 20) (some (kB true))) (fun h nx args p hp => ?_) fun b cs v hv γ w G o n cap vs t hi hk hn hA => ?_
 ·have hp : arg1 (fun x => (YW h 1 x).bind fun p => _) args=some p := hp
  obtain ⟨x,rfl,hx⟩ := Jp hp
  replace hp := hx
  clear hx
  simp only [Option.bind_eq_some_iff,ifO_some] at hp
  obtain ⟨⟨b,cs⟩,h1,l,h2,h3,h4⟩ := hp
  cases h4
  exact ⟨x,b,cs,kB true,rfl,h1,by simp only [Option.bind_eq_some_iff,ifO_some]; exact ⟨l,h2,h3,by trivial⟩,rfl⟩
 ·have hpre : Zy w := ⟨hp.1.below hi.bel,hp.2.below hi.bel⟩
  simp only [Option.bind_eq_some_iff,ifO_some,Bool.and_eq_true,Nat.ble_eq,List.all_eq_true] at hv
  obtain ⟨l,h2,⟨h3,h4⟩,h5⟩ := hv
  cases h5
  obtain ⟨rfl,hr⟩ := srow_at h2 hk hn hA
  have hll : (l.map fun a => YS (q a)).length=l.length := List.length_map ..
  rw [← hll]
  refine (FV hr hpre.2 (fun s hs => by obtain ⟨i,hi,rfl⟩ := List.mem_map.1 hs; exact Hp Y (h3 i hi)) (by rw [hll]; omega)).mono ?_
  rintro _ w' ⟨hb,r,rfl,hq⟩
  rw [hq.2 fun s hs => by obtain ⟨i,_,rfl⟩ := List.mem_map.1 hs; exact Ej _]
  exact ⟨hb,_,rfl,ZE ⟨rfl,rfl⟩⟩
theorem SE {γ : Nat→Option Nat} {w : World} : ∀ {ms : List Nat} {vs : List Value},vs.length=ms.length*3→(∀ (j : Nat) (hj : j < ms.length),∃ c : C3,vs[j*3]? = some (.bool c.n)∧vs[j*3+1]? = some (.slice c.u c.nu c.cu)∧vs[j*3+2]? = some (.slice c.l c.nl c.cl)∧QV w (.agg #[.bool c.n,.slice c.u c.nu c.cu,.slice c.l c.nl c.cl]) (q ms[j]))→A2 (cOn (evS q σ) K γ w) (ms.flatMap Ry) vs
 | [],vs,hl,_ => by
  have : vs=[] := List.length_eq_zero_iff.1 (by simpa using hl)
  subst this
  trivial
 | m :: ms,vs,hl,h => by
  match vs,hl with
  | x :: y :: z :: vs,hl =>
   obtain ⟨c,e0,e1,e2,hq⟩ := h 0 (by simp)
   have f0 : x=.bool c.n := by simpa using e0
   have f1 : y=.slice c.u c.nu c.cu := by simpa using e1
   have f2 : z=.slice c.l c.nl c.cl := by simpa using e2
   clear e0 e1 e2
   subst f0 f1 f2
   obtain ⟨vu,vl,e,h1,h2⟩ := hq
   injection e with e
   have e : [Value.bool c.n,.slice c.u c.nu c.cu,.slice c.l c.nl c.cl]=[.bool (decide ((q m).num < 0)),vu,vl] := by simpa using congrArg Array.toList e
   injection e with x1 e
   injection e with x2 e
   injection e with x3 e
   subst x2 x3
   rw [List.flatMap_cons]
   refine ⟨x1,h1,h2,SE (by simp [Nat.succ_mul] at hl; omega) fun j hj => ?_⟩
   obtain ⟨d,k0,k1,k2,k3⟩ := h (j+1) (by simpa using hj)
   refine ⟨d,?_,?_,?_,by simpa using k3⟩
   ·rw [show (j+1)*3=j*3+3 by omega] at k0; simpa using k0
   ·rw [show (j+1)*3+1=(j*3+1)+3 by omega] at k1; simpa using k1
   ·rw [show (j+1)*3+2=(j*3+2)+3 by omega] at k2; simpa using k2
  | [],hl => simp [Nat.succ_mul] at hl
  | [_],hl => simp [Nat.succ_mul] at hl
  | [_,_],hl => simp [Nat.succ_mul] at hl
theorem prim_10 (Y : Hy N H L C Z q σ) (_ : Zy w0) : Jy N H K L C Z pr q σ w0 10 153 := by
 intro args h nx p hp γ w vs hi hA hb hf
 have hp : arg1 (fun x => (YW h 3 x).bind fun p => (WY (sx Tryz.prog N H K L C Z pr) p.2).bind fun l => (Zi (fun i => (sx Tryz.prog N H K L C Z pr).nd 8 (i :: l)) (List.range' 0 l.length)).bind fun ms => ifO (Nat.blt 0 l.length && Nat.ble l.length 20)
   (some (v1 (slc nx 0 l.length l.length),[p.1],[(nx,ms.flatMap Ry)],nx+1))) args=some p := hp
 obtain ⟨x,rfl,hx⟩ := Jp hp
 replace hp := hx
 clear hx
 simp only [Option.bind_eq_some_iff,ifO_some,Bool.and_eq_true,Nat.ble_eq] at hp
 obtain ⟨⟨b,cs⟩,h1,l,h2,ms,h3,⟨h4,h5⟩,h6⟩ := hp
 cases h6
 match vs,hA with
 | [u],⟨hu,_⟩ =>
  unfold YW at h1
  simp only [Option.bind_eq_some_iff,ifO_some,Nat.ble_eq] at h1
  obtain ⟨s,g1,ds,g2,g3,g4⟩ := h1
  cases g4
  obtain ⟨G,cap,hG,rfl⟩ := Pi g1 hu
  obtain ⟨G',us,t,k1,_,⟨rs,k2,_⟩,k3,k4⟩ := hb (s.1,ds) (Jl g2) List.mem_cons_self
  have hul : us.length=ds.length := k4.len
  rw [hG] at k1
  cases k1
  obtain ⟨hnl,hr⟩ := qrow_at (o := s.2.1) (n := s.2.2) (cap := cap) Y h2 k2 (by rw [List.length_append]; omega) (by rw [cut_app (by omega)]; exact (k4.drop _).take _)
  have hll : (l.map q).length=l.length := List.length_map ..
  rw [hnl,← hll]
  refine (Ho hr (K := 1000000000000) (fun x hx => by obtain ⟨i,_,rfl⟩ := List.mem_map.1 hx; exact Y.qs i) (by rw [hll]; omega) (by rw [hll]; omega)).mono ?_
  rintro _ w' ⟨hbl,g,rfl,hq,hg⟩
  rw [hll]
  have hef : Ef nbS w0 [] nx (nx+1) γ w (Sa γ nx g) w' := Ef.new hi (hf nx (Nat.le_refl _) (Nat.lt_succ_self _)) hbl hg hq.lt
  refine ⟨_,Sa γ nx g,rfl,hef,ZE ⟨g,XM _ _ _,rfl⟩,fun y hy => ?_⟩
  rw [List.mem_singleton] at hy
  subst hy
  obtain ⟨cs',c1,c2,c3,c4⟩ := hq
  obtain ⟨m1,m2⟩ := EU h3
  rw [List.length_range'] at m1
  refine ⟨g,cs'.toList,84,XM _ _ _,Gq hi hg,⟨[],by rw [List.append_nil]; exact blk_bk c1,by simp⟩,by decide,SE ?_ fun j hj => ?_⟩
  ·rw [Array.length_toList,c3,GB,List.length_map,List.length_map,m1]
  ·obtain ⟨c,e0,e1,e2,e3⟩ := c4 j (by rw [GB,List.length_map,List.length_map]; omega)
   refine ⟨c,by simpa using e0,by simpa using e1,by simpa using e2,?_⟩
   obtain ⟨y,n1,n2⟩ := m2 j j (by rw [List.getElem?_range' (by omega)]; simp)
   have ey : ms[j]=y := by
    have := List.getElem?_eq_getElem hj
    rw [n2] at this
    exact (Option.some.inj this).symm
   rw [ey,Y.nd n1]
   have e4 : (plain (l.map q))[j]'(by rw [GB,List.length_map,List.length_map]; omega)=Zr σ q (8,j :: l) := by
    show _=(l.map q).getD j 0*fac (l.map q)
    simp only [GB,List.getElem_map]
    rw [List.getD_eq_getElem?_getD,List.getElem?_map,List.getElem?_eq_getElem (by omega)]
    rfl
   rw [← e4]
   exact e3
end
end Go.Proofs.YtmdfngmjoaigjaaGreatDoor
