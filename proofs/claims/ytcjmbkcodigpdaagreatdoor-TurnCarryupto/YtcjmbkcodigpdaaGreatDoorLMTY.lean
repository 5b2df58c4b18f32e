/- The law, over its runs. -/
import Derived.Test.YtcjmbkcodigpdaaGreatDoorLMTYB1
import Derived.Test.YtcjmbkcodigpdaaGreatDoorLMTYB2
import Derived.Test.YtcjmbkcodigpdaaGreatDoorLMTYB3
import Derived.Test.YtcjmbkcodigpdaaGreatDoorLMTYB4
import Derived.Test.YtcjmbkcodigpdaaGreatDoorLMTYB5
set_option maxHeartbeats 16000000
set_option maxRecDepth 100000
namespace Go.Proofs.YtcjmbkcodigpdaaGreatDoor
open Go.RowKit Cx
variable {q : Nat→Rat} {σ : Nat→ByteArray}
theorem Qh {a b : Prop} (x : a) (y : b) : a∧b := ⟨x,y⟩
theorem JM {M : Vw} {H : List (Nat × Nat × Nat × Nat)} {K : List (FuncId × List AC)} {k : Nat} {q : Nat→Rat} {σ : Nat→ByteArray} {args : List AV} {vs : List Value} {w : World} (hr : (Js (sx Tryz.prog tY_N H K Xe Xb Xa (prC [19])) JZ M k [] 4 args [] 0).map (·.1)=some (kB true)) (hσ : ∀ j,(σ j).size≤1048576) (hq : ∀ (a : Nat) nd,tY_N[a]? = some nd→q a=Jj σ q nd) (h0 : ∀ a,tY_N.length≤a→q a=0) (hH : XM q H) (hp : QK w) (hM : Jr tY_N Xe Xb Xa q σ [19] w M) (hA : ∀ K,A2 (avOn (cOn (evS q σ) K (fun _ => none) w)) args vs) : Calls Tryz.prog 4 vs.toArray w fun e w' => Below w.heap.size w w'∧e=.returned (.bool true) :=
 CD k (KK hσ GA Fn Bd Bh hq h0 hH) (by simp [Zw]) (by kernel_rfl) hp hM hr (hA K)
theorem Lv {M : Vw} {B : Ox} {H : List (Nat × Nat × Nat × Nat)} {K : List (FuncId × List AC)} {k : Nat} {q : Nat→Rat} {σ : Nat→ByteArray} {args : List AV} {vs : List Value} {w : World} (hr : (YN (sx Tryz.prog tY_N H K Xe Xb Xa (prC [19])) JZ M B k [] 4 args [] 0).map (·.1)=some (kB true)) (hσ : ∀ j,(σ j).size≤1048576) (hq : ∀ (a : Nat) nd,tY_N[a]? = some nd→q a=Jj σ q nd) (h0 : ∀ a,tY_N.length≤a→q a=0) (hH : XM q H) (hp : QK w) (hM : Jr tY_N Xe Xb Xa q σ [19] w M) (hB : XJ (sx Tryz.prog tY_N H K Xe Xb Xa (prC [19])) (evS q σ) w B) (hA : ∀ K,A2 (avOn (cOn (evS q σ) K (fun _ => none) w)) args vs) : Calls Tryz.prog 4 vs.toArray w fun e w' => Below w.heap.size w w'∧e=.returned (.bool true) :=
 CJ k (KK hσ GA Fn Bd Bh hq h0 hH) (by simp [Zw]) (by kernel_rfl) hp hM hB hr (hA K)
theorem tY_leafC {H : List (Nat × Nat × Nat × Nat)} {K : List (FuncId × List AC)} {k : Nat} {q : Nat→Rat} {σ : Nat→ByteArray} {args : List AV} {vs : List Value} {w : World} (hr : (Vv (sx Tryz.prog tY_N H K Xe Xb Xa (prC [19])) JZ k [] 4 args [] 0).map (·.1)=some (kB true)) (hσ : ∀ j,(σ j).size≤1048576) (hq : ∀ (a : Nat) nd,tY_N[a]? = some nd→q a=Jj σ q nd) (h0 : ∀ a,tY_N.length≤a→q a=0) (hH : XM q H) (hp : QK w) (hA : ∀ K,A2 (avOn (cOn (evS q σ) K (fun _ => none) w)) args vs) : Calls Tryz.prog 4 vs.toArray w fun e w' => Below w.heap.size w w'∧e=.returned (.bool true) :=
 Mu k (KK hσ GA Fn Bd Bh hq h0 hH) (by simp [Zw]) (by kernel_rfl) hr hp (hA K)
theorem AK {w : World} {max maz mbx mbz mcx mcz mdx mdz ga gb gc gd : ByteArray}  (smax : max.size≤1048576) (smaz : maz.size≤1048576) (smbx : mbx.size≤1048576) (smbz : mbz.size≤1048576) (smcx : mcx.size≤1048576) (smcz : mcz.size≤1048576) (smdx : mdx.size≤1048576) (smdz : mdz.size≤1048576) (sga : ga.size≤1048576) (sgb : gb.size≤1048576) (sgc : gc.size≤1048576) (sgd : gd.size≤1048576) (tab : Tab w) (mx : MaxL w) :
  Calls Tryz.prog 4 #[.agg #[.string max,.string maz,.string mbx,.string mbz,.string mcx,.string mcz,.string mdx,.string mdz],.agg #[.string ga,.string gb,.string gc,.string gd]] w fun e w' => Below w.heap.size w w'∧e=.returned (.bool true) := by
 have hσ : ∀ j,(TT [max,maz,mbx,mbz,mcx,mcz,mdx,mdz,ga,gb,gc,gd] j).size≤1048576 := It (by simp [smax,smaz,smbx,smbz,smcx,smcz,smdx,smdz,sga,sgb,sgc,sgd])
 obtain ⟨q,hq,h0⟩ := Um (TT [max,maz,mbx,mbz,mcx,mcz,mdx,mdz,ga,gb,gc,gd]) tY_N GA
 have hA : ∀ K,A2 (avOn (cOn (evS q (TT [max,maz,mbx,mbz,mcx,mcz,mdx,mdz,ga,gb,gc,gd])) K (fun _ => none) w)) [(false,[(true,[.inr (2,0,0,0,0),.inr (2,1,0,0,0),.inr (2,2,0,0,0),.inr (2,3,0,0,0),.inr (2,4,0,0,0),.inr (2,5,0,0,0),.inr (2,6,0,0,0),.inr (2,7,0,0,0)])]),(false,[(true,[.inr (2,8,0,0,0),.inr (2,9,0,0,0),.inr (2,10,0,0,0),.inr (2,11,0,0,0)])])] [.agg #[.string max,.string maz,.string mbx,.string mbz,.string mcx,.string mcz,.string mdx,.string mdz],.agg #[.string ga,.string gb,.string gc,.string gd]] := fun K => ⟨⟨⟨[.string max,.string maz,.string mbx,.string mbz,.string mcx,.string mcz,.string mdx,.string mdz],rfl,rfl,rfl,rfl,rfl,rfl,rfl,rfl,rfl,trivial⟩,trivial⟩,⟨⟨[.string ga,.string gb,.string gc,.string gd],rfl,rfl,rfl,rfl,rfl,trivial⟩,trivial⟩,trivial⟩
 by_cases b28 : q 28=0
 ·
  have gT1 := Lz hq
  have b41 : q 41=0 := gT1.1 b28
  have hH : XM q tY_H0 := (Qh (hT b28) (Qh (hT b41) trivial))
  exact JM tY_r0 hσ hq h0 hH ⟨tab,mx⟩ (ZY hσ hq h0 ⟨tab,mx⟩) hA
 ·
  by_cases a_2_52_0 : 0 < q 52
  ·
   have gT1 := Lz hq
   have b41 : ¬ (q 41=0) := gT1.2 b28
   have gT2 := UG hq (Qp hq) (Xd hq b28) a_2_52_0
   have b175 : ¬ (q 175=0) := gT2.1
   have b182 : ¬ (q 182=0) := gT2.2.1
   have a_2_191_0 : 0 < q 191 := gT2.2.2.1
   have b187 : ¬ (q 187=0) := gT2.2.2.2.1
   by_cases b200 : q 200=0
   ·
    have gU0 := tY_U0 hq (Xd hq b28) b200
    have b209 : ¬ (q 209=0) := gU0.1
    have b256 : ¬ (q 256=0) := gU0.2.1
    have b298 : ¬ (q 298=0) := gU0.2.2.1
    have b339 : ¬ (q 339=0) := gU0.2.2.2.1
    have b375 : ¬ (q 375=0) := gU0.2.2.2.2.1
    have b411 : ¬ (q 411=0) := gU0.2.2.2.2.2.1
    have b448 : ¬ (q 448=0) := gU0.2.2.2.2.2.2.1
    have b484 : ¬ (q 484=0) := gU0.2.2.2.2.2.2.2
    have gV0 := tY_V0 hq _ (UG hq (Qp hq) (Xd hq b28) a_2_52_0).2.2.2.2 a_2_52_0 (Ou hq (Qp hq) b209) (OE hq (Qp hq) b256) (Io hq (Qp hq) b298) (OK hq (Qp hq) b339) (OQ hq (Qp hq) b375) (Ob hq (Qp hq) b411) (Ov hq (Qp hq) b448) (Ig hq (Qp hq) b484)
    have b528 : ¬ (q 528=0) := gV0.1
    have b667 : q 667=0 := gV0.2
    have hH : XM q tY_H1 := (Qh (hF b28) (Qh (hT a_2_52_0) (Qh (hF b41) (Qh (hF b175) (Qh (hF b182) (Qh (hT a_2_191_0) (Qh (hF b187) (Qh (hT b200) (Qh (hF b209) (Qh (hF b256) (Qh (hF b298) (Qh (hF b339) (Qh (hF b375) (Qh (hF b411) (Qh (hF b448) (Qh (hF b484) (Qh (hF b528) (Qh (hT b667) trivial))))))))))))))))))
    exact JM tY_r1 hσ hq h0 hH ⟨tab,mx⟩ (ZY hσ hq h0 ⟨tab,mx⟩) hA
   ·
    by_cases b209 : q 209=0
    ·
     have gU1 := tY_U1 hq (Xd hq b28) b209
     have b256 : ¬ (q 256=0) := gU1.1
     have b298 : ¬ (q 298=0) := gU1.2.1
     have b339 : ¬ (q 339=0) := gU1.2.2.1
     have b375 : ¬ (q 375=0) := gU1.2.2.2.1
     have b411 : ¬ (q 411=0) := gU1.2.2.2.2.1
     have b448 : ¬ (q 448=0) := gU1.2.2.2.2.2.1
     have b484 : ¬ (q 484=0) := gU1.2.2.2.2.2.2
     have gV1 := tY_V1 hq _ (UG hq (Qp hq) (Xd hq b28) a_2_52_0).2.2.2.2 a_2_52_0 (Od hq (Qp hq) b200) (OE hq (Qp hq) b256) (Io hq (Qp hq) b298) (OK hq (Qp hq) b339) (OQ hq (Qp hq) b375) (Ob hq (Qp hq) b411) (Ov hq (Qp hq) b448) (Ig hq (Qp hq) b484)
     have b704 : ¬ (q 704=0) := gV1.1
     have b759 : q 759=0 := gV1.2
     have hH : XM q tY_H2 := (Qh (hF b28) (Qh (hT a_2_52_0) (Qh (hF b41) (Qh (hF b175) (Qh (hF b182) (Qh (hT a_2_191_0) (Qh (hF b187) (Qh (hF b200) (Qh (hT b209) (Qh (hF b256) (Qh (hF b298) (Qh (hF b339) (Qh (hF b375) (Qh (hF b411) (Qh (hF b448) (Qh (hF b484) (Qh (hF b704) (Qh (hT b759) trivial))))))))))))))))))
     exact JM tY_r2 hσ hq h0 hH ⟨tab,mx⟩ (ZY hσ hq h0 ⟨tab,mx⟩) hA
    ·
     by_cases b256 : q 256=0
     ·
      have gU2 := tY_U2 hq (Xd hq b28) b256
      have b298 : ¬ (q 298=0) := gU2.1
      have b339 : ¬ (q 339=0) := gU2.2.1
      have b375 : ¬ (q 375=0) := gU2.2.2.1
      have b411 : ¬ (q 411=0) := gU2.2.2.2.1
      have b448 : ¬ (q 448=0) := gU2.2.2.2.2.1
      have b484 : ¬ (q 484=0) := gU2.2.2.2.2.2
      have gV2 := tY_V2 hq _ (UG hq (Qp hq) (Xd hq b28) a_2_52_0).2.2.2.2 a_2_52_0 (Od hq (Qp hq) b200) (Ou hq (Qp hq) b209) (Io hq (Qp hq) b298) (OK hq (Qp hq) b339) (OQ hq (Qp hq) b375) (Ob hq (Qp hq) b411) (Ov hq (Qp hq) b448) (Ig hq (Qp hq) b484)
      have b766 : ¬ (q 766=0) := gV2.1
      have b797 : q 797=0 := gV2.2
      have hH : XM q tY_H3 := (Qh (hF b28) (Qh (hT a_2_52_0) (Qh (hF b41) (Qh (hF b175) (Qh (hF b182) (Qh (hT a_2_191_0) (Qh (hF b187) (Qh (hF b200) (Qh (hF b209) (Qh (hT b256) (Qh (hF b298) (Qh (hF b339) (Qh (hF b375) (Qh (hF b411) (Qh (hF b448) (Qh (hF b484) (Qh (hF b766) (Qh (hT b797) trivial))))))))))))))))))
      exact JM tY_r3 hσ hq h0 hH ⟨tab,mx⟩ (ZY hσ hq h0 ⟨tab,mx⟩) hA
     ·
      by_cases b298 : q 298=0
      ·
       have gU3 := tY_U3 hq (Xd hq b28) b298
       have b339 : ¬ (q 339=0) := gU3.1
       have b375 : ¬ (q 375=0) := gU3.2.1
       have b411 : ¬ (q 411=0) := gU3.2.2.1
       have b448 : ¬ (q 448=0) := gU3.2.2.2.1
       have b484 : ¬ (q 484=0) := gU3.2.2.2.2
       have gV3 := tY_V3 hq _ (UG hq (Qp hq) (Xd hq b28) a_2_52_0).2.2.2.2 a_2_52_0 (Od hq (Qp hq) b200) (Ou hq (Qp hq) b209) (OE hq (Qp hq) b256) (OK hq (Qp hq) b339) (OQ hq (Qp hq) b375) (Ob hq (Qp hq) b411) (Ov hq (Qp hq) b448) (Ig hq (Qp hq) b484)
       have b803 : ¬ (q 803=0) := gV3.1
       have b830 : q 830=0 := gV3.2
       have hH : XM q tY_H4 := (Qh (hF b28) (Qh (hT a_2_52_0) (Qh (hF b41) (Qh (hF b175) (Qh (hF b182) (Qh (hT a_2_191_0) (Qh (hF b187) (Qh (hF b200) (Qh (hF b209) (Qh (hF b256) (Qh (hT b298) (Qh (hF b339) (Qh (hF b375) (Qh (hF b411) (Qh (hF b448) (Qh (hF b484) (Qh (hF b803) (Qh (hT b830) trivial))))))))))))))))))
       exact JM tY_r4 hσ hq h0 hH ⟨tab,mx⟩ (ZY hσ hq h0 ⟨tab,mx⟩) hA
      ·
       by_cases b339 : q 339=0
       ·
        have gU4 := tY_U4 hq (Xd hq b28) b339
        have b375 : ¬ (q 375=0) := gU4.1
        have b411 : ¬ (q 411=0) := gU4.2.1
        have b448 : ¬ (q 448=0) := gU4.2.2.1
        have b484 : ¬ (q 484=0) := gU4.2.2.2
        have gV4 := tY_V4 hq _ (UG hq (Qp hq) (Xd hq b28) a_2_52_0).2.2.2.2 a_2_52_0 (Od hq (Qp hq) b200) (Ou hq (Qp hq) b209) (OE hq (Qp hq) b256) (Io hq (Qp hq) b298) (OQ hq (Qp hq) b375) (Ob hq (Qp hq) b411) (Ov hq (Qp hq) b448) (Ig hq (Qp hq) b484)
        have b835 : ¬ (q 835=0) := gV4.1
        have b860 : q 860=0 := gV4.2
        have hH : XM q tY_H5 := (Qh (hF b28) (Qh (hT a_2_52_0) (Qh (hF b41) (Qh (hF b175) (Qh (hF b182) (Qh (hT a_2_191_0) (Qh (hF b187) (Qh (hF b200) (Qh (hF b209) (Qh (hF b256) (Qh (hF b298) (Qh (hT b339) (Qh (hF b375) (Qh (hF b411) (Qh (hF b448) (Qh (hF b484) (Qh (hF b835) (Qh (hT b860) trivial))))))))))))))))))
        exact JM tY_r5 hσ hq h0 hH ⟨tab,mx⟩ (ZY hσ hq h0 ⟨tab,mx⟩) hA
       ·
        by_cases b375 : q 375=0
        ·
         have gU5 := tY_U5 hq (Xd hq b28) b375
         have b411 : ¬ (q 411=0) := gU5.1
         have b448 : ¬ (q 448=0) := gU5.2.1
         have b484 : ¬ (q 484=0) := gU5.2.2
         have gV5 := tY_V5 hq _ (UG hq (Qp hq) (Xd hq b28) a_2_52_0).2.2.2.2 a_2_52_0 (Od hq (Qp hq) b200) (Ou hq (Qp hq) b209) (OE hq (Qp hq) b256) (Io hq (Qp hq) b298) (OK hq (Qp hq) b339) (Ob hq (Qp hq) b411) (Ov hq (Qp hq) b448) (Ig hq (Qp hq) b484)
         have b864 : ¬ (q 864=0) := gV5.1
         have b886 : q 886=0 := gV5.2
         have hH : XM q tY_H6 := (Qh (hF b28) (Qh (hT a_2_52_0) (Qh (hF b41) (Qh (hF b175) (Qh (hF b182) (Qh (hT a_2_191_0) (Qh (hF b187) (Qh (hF b200) (Qh (hF b209) (Qh (hF b256) (Qh (hF b298) (Qh (hF b339) (Qh (hT b375) (Qh (hF b411) (Qh (hF b448) (Qh (hF b484) (Qh (hF b864) (Qh (hT b886) trivial))))))))))))))))))
         exact JM tY_r6 hσ hq h0 hH ⟨tab,mx⟩ (ZY hσ hq h0 ⟨tab,mx⟩) hA
        ·
         by_cases b411 : q 411=0
         ·
          have gU6 := tY_U6 hq (Xd hq b28) b411
          have b448 : ¬ (q 448=0) := gU6.1
          have b484 : ¬ (q 484=0) := gU6.2
          have gV6 := tY_V6 hq _ (UG hq (Qp hq) (Xd hq b28) a_2_52_0).2.2.2.2 a_2_52_0 (Od hq (Qp hq) b200) (Ou hq (Qp hq) b209) (OE hq (Qp hq) b256) (Io hq (Qp hq) b298) (OK hq (Qp hq) b339) (OQ hq (Qp hq) b375) (Ov hq (Qp hq) b448) (Ig hq (Qp hq) b484)
          have b889 : ¬ (q 889=0) := gV6.1
          have b907 : q 907=0 := gV6.2
          have hH : XM q tY_H7 := (Qh (hF b28) (Qh (hT a_2_52_0) (Qh (hF b41) (Qh (hF b175) (Qh (hF b182) (Qh (hT a_2_191_0) (Qh (hF b187) (Qh (hF b200) (Qh (hF b209) (Qh (hF b256) (Qh (hF b298) (Qh (hF b339) (Qh (hF b375) (Qh (hT b411) (Qh (hF b448) (Qh (hF b484) (Qh (hF b889) (Qh (hT b907) trivial))))))))))))))))))
          exact JM tY_r7 hσ hq h0 hH ⟨tab,mx⟩ (ZY hσ hq h0 ⟨tab,mx⟩) hA
         ·
          by_cases b448 : q 448=0
          ·
           have gU7 := tY_U7 hq (Xd hq b28) b448
           have b484 : ¬ (q 484=0) := gU7
           have gV7 := tY_V7 hq _ (UG hq (Qp hq) (Xd hq b28) a_2_52_0).2.2.2.2 a_2_52_0 (Od hq (Qp hq) b200) (Ou hq (Qp hq) b209) (OE hq (Qp hq) b256) (Io hq (Qp hq) b298) (OK hq (Qp hq) b339) (OQ hq (Qp hq) b375) (Ob hq (Qp hq) b411) (Ig hq (Qp hq) b484)
           have b909 : ¬ (q 909=0) := gV7.1
           have b922 : q 922=0 := gV7.2
           have hH : XM q tY_H8 := (Qh (hF b28) (Qh (hT a_2_52_0) (Qh (hF b41) (Qh (hF b175) (Qh (hF b182) (Qh (hT a_2_191_0) (Qh (hF b187) (Qh (hF b200) (Qh (hF b209) (Qh (hF b256) (Qh (hF b298) (Qh (hF b339) (Qh (hF b375) (Qh (hF b411) (Qh (hT b448) (Qh (hF b484) (Qh (hF b909) (Qh (hT b922) trivial))))))))))))))))))
           exact JM tY_r8 hσ hq h0 hH ⟨tab,mx⟩ (ZY hσ hq h0 ⟨tab,mx⟩) hA
          ·
           by_cases b484 : q 484=0
           ·
            have gV8 := tY_V8 hq _ (UG hq (Qp hq) (Xd hq b28) a_2_52_0).2.2.2.2 a_2_52_0 (Od hq (Qp hq) b200) (Ou hq (Qp hq) b209) (OE hq (Qp hq) b256) (Io hq (Qp hq) b298) (OK hq (Qp hq) b339) (OQ hq (Qp hq) b375) (Ob hq (Qp hq) b411) (Ov hq (Qp hq) b448)
            have b923 : ¬ (q 923=0) := gV8.1
            have b930 : q 930=0 := gV8.2
            have hH : XM q tY_H9 := (Qh (hF b28) (Qh (hT a_2_52_0) (Qh (hF b41) (Qh (hF b175) (Qh (hF b182) (Qh (hT a_2_191_0) (Qh (hF b187) (Qh (hF b200) (Qh (hF b209) (Qh (hF b256) (Qh (hF b298) (Qh (hF b339) (Qh (hF b375) (Qh (hF b411) (Qh (hF b448) (Qh (hT b484) (Qh (hF b923) (Qh (hT b930) trivial))))))))))))))))))
            exact JM tY_r9 hσ hq h0 hH ⟨tab,mx⟩ (ZY hσ hq h0 ⟨tab,mx⟩) hA
           ·
            have gV9 := tY_V9 hq _ (UG hq (Qp hq) (Xd hq b28) a_2_52_0).2.2.2.2 a_2_52_0 (Od hq (Qp hq) b200) (Ou hq (Qp hq) b209) (OE hq (Qp hq) b256) (Io hq (Qp hq) b298) (OK hq (Qp hq) b339) (OQ hq (Qp hq) b375) (Ob hq (Qp hq) b411) (Ov hq (Qp hq) b448) (Ig hq (Qp hq) b484)
            have b931 : ¬ (q 931=0) := gV9.1
            have b939 : q 939=0 := gV9.2
            have hH : XM q Iw := (Qh (hF b28) (Qh (hT a_2_52_0) (Qh (hF b41) (Qh (hF b175) (Qh (hF b182) (Qh (hT a_2_191_0) (Qh (hF b187) (Qh (hF b200) (Qh (hF b209) (Qh (hF b256) (Qh (hF b298) (Qh (hF b339) (Qh (hF b375) (Qh (hF b411) (Qh (hF b448) (Qh (hF b484) (Qh (hF b931) (Qh (hT b939) trivial))))))))))))))))))
            have hM := ZY hσ hq h0 (w := w) ⟨tab,mx⟩
            exact Lv tY_r10 hσ hq h0 hH ⟨tab,mx⟩ hM (tY_mx10 hσ hq h0 hH ⟨tab,mx⟩ hM) hA
  ·
   have gT1 := Lz hq
   have b41 : ¬ (q 41=0) := gT1.2 b28
   by_cases b42 : q 42=0
   ·
    have gT3 := tY_T3 hq a_2_52_0 b42
    have b43 : q 43=0 := gT3.1
    have b44 : q 44=0 := gT3.2
    have hH : XM q NP := (Qh (hF b28) (Qh (hF a_2_52_0) (Qh (hF b41) (Qh (hT b42) (Qh (hT b43) (Qh (hT b44) trivial))))))
    exact JM tY_r11 hσ hq h0 hH ⟨tab,mx⟩ (ZY hσ hq h0 ⟨tab,mx⟩) hA
   ·
    have hH : XM q Lg := (Qh (hF b28) (Qh (hF a_2_52_0) (Qh (hF b41) (Qh (hF b42) trivial))))
    exact JM tY_r12 hσ hq h0 hH ⟨tab,mx⟩ (ZY hσ hq h0 ⟨tab,mx⟩) hA
end Go.Proofs.YtcjmbkcodigpdaaGreatDoor
