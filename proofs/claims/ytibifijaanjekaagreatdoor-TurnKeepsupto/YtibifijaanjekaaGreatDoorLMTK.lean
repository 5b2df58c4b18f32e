/- The law, over its runs. -/
import Derived.Test.YtibifijaanjekaaGreatDoorLMTKB1
import Derived.Test.YtibifijaanjekaaGreatDoorLMTKB2
import Derived.Test.YtibifijaanjekaaGreatDoorLMTKB3
import Derived.Test.YtibifijaanjekaaGreatDoorLMTKB4
import Derived.Test.YtibifijaanjekaaGreatDoorLMTKB5
set_option maxHeartbeats 16000000
set_option maxRecDepth 100000
namespace Go.Proofs.YtibifijaanjekaaGreatDoor
open Go.RowKit Cx
variable {q : Nat→Rat} {σ : Nat→ByteArray}
theorem tK_An {a b : Prop} (x : a) (y : b) : a∧b := ⟨x,y⟩
theorem tK_leafJ {H : List (Nat × Nat × Nat × Nat)} {K : List (FuncId × List AC)} {k : Nat} {q : Nat→Rat} {σ : Nat→ByteArray} {args : List AV} {vs : List Value} {w : World} {M : Memo} (hr : (callJ (sx Tryz.prog tK_N H K tK_L tK_C tK_Z (prC [24])) tK_cs M [] 69 k [] 4 args [] 0).map (·.1)=some (kB true)) (hσ : ∀ j,(σ j).size≤1048576) (hq : ∀ (a : Nat) nd,tK_N[a]? = some nd→q a=valN σ q nd) (h0 : ∀ a,tK_N.length≤a→q a=0) (hH : hAll q H) (hp : PreS w) (hM : MemoAll tK_N tK_L tK_C tK_Z q σ [24] w M) (hA : ∀ K,A2 (avOn (cOn (evS q σ) K (fun _ => none) w)) args vs) : Calls Tryz.prog 4 vs.toArray w fun e w' => Below w.heap.size w w'∧e=.returned (.bool true) :=
 run_toldJ' k (hy_ofA hσ tK_wf tK_sz tK_lt tK_cn hq h0 hH) (by simp [closed_turned]) (by kernel_rfl) hp hM memoX_nil hr (hA K)
theorem tK_walk {w : World} {max maz mbx mbz mcx mcz mdx mdz cx cz cr lax laz lbx lbz lcx lcz ldx ldz : ByteArray}  (smax : max.size≤1048576) (smaz : maz.size≤1048576) (smbx : mbx.size≤1048576) (smbz : mbz.size≤1048576) (smcx : mcx.size≤1048576) (smcz : mcz.size≤1048576) (smdx : mdx.size≤1048576) (smdz : mdz.size≤1048576) (scx : cx.size≤1048576) (scz : cz.size≤1048576) (scr : cr.size≤1048576) (slax : lax.size≤1048576) (slaz : laz.size≤1048576) (slbx : lbx.size≤1048576) (slbz : lbz.size≤1048576) (slcx : lcx.size≤1048576) (slcz : lcz.size≤1048576) (sldx : ldx.size≤1048576) (sldz : ldz.size≤1048576) (tab : Tab w) (mx : MaxL w) :
  Calls Tryz.prog 4 #[.agg #[.string max,.string maz,.string mbx,.string mbz,.string mcx,.string mcz,.string mdx,.string mdz],.agg #[.string cx,.string cz,.string cr],.agg #[.string lax,.string laz,.string lbx,.string lbz,.string lcx,.string lcz,.string ldx,.string ldz]] w fun e w' => Below w.heap.size w w'∧e=.returned (.bool true) := by
 have hσ : ∀ j,(sgOf [max,maz,mbx,mbz,mcx,mcz,mdx,mdz,cx,cz,cr,lax,laz,lbx,lbz,lcx,lcz,ldx,ldz] j).size≤1048576 := sgOf_size (by simp [smax,smaz,smbx,smbz,smcx,smcz,smdx,smdz,scx,scz,scr,slax,slaz,slbx,slbz,slcx,slcz,sldx,sldz])
 obtain ⟨q,hq,h0⟩ := nodes_exist (sgOf [max,maz,mbx,mbz,mcx,mcz,mdx,mdz,cx,cz,cr,lax,laz,lbx,lbz,lcx,lcz,ldx,ldz]) tK_N tK_wf
 have hA : ∀ K,A2 (avOn (cOn (evS q (sgOf [max,maz,mbx,mbz,mcx,mcz,mdx,mdz,cx,cz,cr,lax,laz,lbx,lbz,lcx,lcz,ldx,ldz])) K (fun _ => none) w)) [(false,[(true,[.inr (2,0,0,0,0),.inr (2,1,0,0,0),.inr (2,2,0,0,0),.inr (2,3,0,0,0),.inr (2,4,0,0,0),.inr (2,5,0,0,0),.inr (2,6,0,0,0),.inr (2,7,0,0,0)])]),(false,[(true,[.inr (2,8,0,0,0),.inr (2,9,0,0,0),.inr (2,10,0,0,0)])]),(false,[(true,[.inr (2,11,0,0,0),.inr (2,12,0,0,0),.inr (2,13,0,0,0),.inr (2,14,0,0,0),.inr (2,15,0,0,0),.inr (2,16,0,0,0),.inr (2,17,0,0,0),.inr (2,18,0,0,0)])])] [.agg #[.string max,.string maz,.string mbx,.string mbz,.string mcx,.string mcz,.string mdx,.string mdz],.agg #[.string cx,.string cz,.string cr],.agg #[.string lax,.string laz,.string lbx,.string lbz,.string lcx,.string lcz,.string ldx,.string ldz]] := fun K => ⟨⟨⟨[.string max,.string maz,.string mbx,.string mbz,.string mcx,.string mcz,.string mdx,.string mdz],rfl,rfl,rfl,rfl,rfl,rfl,rfl,rfl,rfl,trivial⟩,trivial⟩,⟨⟨[.string cx,.string cz,.string cr],rfl,rfl,rfl,rfl,trivial⟩,trivial⟩,⟨⟨[.string lax,.string laz,.string lbx,.string lbz,.string lcx,.string lcz,.string ldx,.string ldz],rfl,rfl,rfl,rfl,rfl,rfl,rfl,rfl,rfl,trivial⟩,trivial⟩,trivial⟩
 by_cases b12 : q 12=0
 ·
  exact tK_leafJ tK_r0 hσ hq h0 (tK_An (hT b12) trivial) ⟨tab,mx⟩ memoAll_nil hA
 ·
  by_cases b17 : q 17=0
  ·
   exact tK_leafJ tK_r1 hσ hq h0 (tK_An (hF b12) (tK_An (hT b17) trivial)) ⟨tab,mx⟩ memoAll_nil hA
  ·
   by_cases b22 : q 22=0
   ·
    exact tK_leafJ tK_r2 hσ hq h0 (tK_An (hF b12) (tK_An (hF b17) (tK_An (hT b22) trivial))) ⟨tab,mx⟩ memoAll_nil hA
   ·
    by_cases b27 : q 27=0
    ·
     exact tK_leafJ tK_r3 hσ hq h0 (tK_An (hF b12) (tK_An (hF b17) (tK_An (hF b22) (tK_An (hT b27) trivial)))) ⟨tab,mx⟩ memoAll_nil hA
    ·
     by_cases b32 : q 32=0
     ·
      exact tK_leafJ tK_r4 hσ hq h0 (tK_An (hF b12) (tK_An (hF b17) (tK_An (hF b22) (tK_An (hF b27) (tK_An (hT b32) trivial))))) ⟨tab,mx⟩ memoAll_nil hA
     ·
      by_cases b37 : q 37=0
      ·
       exact tK_leafJ tK_r5 hσ hq h0 (tK_An (hF b12) (tK_An (hF b17) (tK_An (hF b22) (tK_An (hF b27) (tK_An (hF b32) (tK_An (hT b37) trivial)))))) ⟨tab,mx⟩ memoAll_nil hA
      ·
       by_cases b104 : q 104=0
       ·
        by_cases a_2_107_0 : 0 < q 107
        ·
         by_cases b112 : q 112=0
         ·
          have gG01 := tK_G01 hq b12 b112
          have b117 : ¬ (q 117=0) := gG01
          have gG02 := tK_G02 hq b17 b112
          have b127 : ¬ (q 127=0) := gG02
          have gG03 := tK_G03 hq b27 b112
          have b137 : ¬ (q 137=0) := gG03
          by_cases a_4_75_143 : q 75=q 143
          ·
           have gC1 := tK_C1 hq b27 b22
           have b224 : q 224=0 := gC1.1 a_4_75_143
           exact tK_leafJ tK_r6 hσ hq h0 (tK_An (hF b12) (tK_An (hF b17) (tK_An (hF b22) (tK_An (hF b27) (tK_An (hF b32) (tK_An (hF b37) (tK_An (hT b104) (tK_An (hT a_2_107_0) (tK_An (hT b112) (tK_An (hF b117) (tK_An (hF b127) (tK_An (hF b137) (tK_An (hT a_4_75_143) (tK_An (hT b224) trivial)))))))))))))) ⟨tab,mx⟩ (tK_memoJ0 hσ hq h0 (tK_An (hT b224) trivial) ⟨tab,mx⟩) hA
          ·
           have gC1 := tK_C1 hq b27 b22
           have b224 : ¬ (q 224=0) := gC1.2 a_4_75_143
           exact tK_leafJ tK_r7 hσ hq h0 (tK_An (hF b12) (tK_An (hF b17) (tK_An (hF b22) (tK_An (hF b27) (tK_An (hF b32) (tK_An (hF b37) (tK_An (hT b104) (tK_An (hT a_2_107_0) (tK_An (hT b112) (tK_An (hF b117) (tK_An (hF b127) (tK_An (hF b137) (tK_An (hF a_4_75_143) (tK_An (hF b224) trivial)))))))))))))) ⟨tab,mx⟩ (tK_memoJ1 hσ hq h0 (tK_An (hF b224) trivial) ⟨tab,mx⟩) hA
         ·
          by_cases b117 : q 117=0
          ·
           have gG12 := tK_G12 hq b22 b117
           have b127 : ¬ (q 127=0) := gG12
           have gG13 := tK_G13 hq b32 b117
           have b137 : ¬ (q 137=0) := gG13
           by_cases a_4_75_143 : q 75=q 143
           ·
            have gC1 := tK_C1 hq b27 b22
            have b224 : q 224=0 := gC1.1 a_4_75_143
            exact tK_leafJ tK_r8 hσ hq h0 (tK_An (hF b12) (tK_An (hF b17) (tK_An (hF b22) (tK_An (hF b27) (tK_An (hF b32) (tK_An (hF b37) (tK_An (hT b104) (tK_An (hT a_2_107_0) (tK_An (hF b112) (tK_An (hT b117) (tK_An (hF b127) (tK_An (hF b137) (tK_An (hT a_4_75_143) (tK_An (hT b224) trivial)))))))))))))) ⟨tab,mx⟩ (tK_memoJ0 hσ hq h0 (tK_An (hT b224) trivial) ⟨tab,mx⟩) hA
           ·
            have gC1 := tK_C1 hq b27 b22
            have b224 : ¬ (q 224=0) := gC1.2 a_4_75_143
            exact tK_leafJ tK_r9 hσ hq h0 (tK_An (hF b12) (tK_An (hF b17) (tK_An (hF b22) (tK_An (hF b27) (tK_An (hF b32) (tK_An (hF b37) (tK_An (hT b104) (tK_An (hT a_2_107_0) (tK_An (hF b112) (tK_An (hT b117) (tK_An (hF b127) (tK_An (hF b137) (tK_An (hF a_4_75_143) (tK_An (hF b224) trivial)))))))))))))) ⟨tab,mx⟩ (tK_memoJ1 hσ hq h0 (tK_An (hF b224) trivial) ⟨tab,mx⟩) hA
          ·
           by_cases b127 : q 127=0
           ·
            have gG23 := tK_G23 hq b37 b127
            have b137 : ¬ (q 137=0) := gG23
            by_cases a_4_75_143 : q 75=q 143
            ·
             have gC1 := tK_C1 hq b27 b22
             have b224 : q 224=0 := gC1.1 a_4_75_143
             exact tK_leafJ tK_r10 hσ hq h0 (tK_An (hF b12) (tK_An (hF b17) (tK_An (hF b22) (tK_An (hF b27) (tK_An (hF b32) (tK_An (hF b37) (tK_An (hT b104) (tK_An (hT a_2_107_0) (tK_An (hF b112) (tK_An (hF b117) (tK_An (hT b127) (tK_An (hF b137) (tK_An (hT a_4_75_143) (tK_An (hT b224) trivial)))))))))))))) ⟨tab,mx⟩ (tK_memoJ0 hσ hq h0 (tK_An (hT b224) trivial) ⟨tab,mx⟩) hA
            ·
             have gC1 := tK_C1 hq b27 b22
             have b224 : ¬ (q 224=0) := gC1.2 a_4_75_143
             exact tK_leafJ tK_r11 hσ hq h0 (tK_An (hF b12) (tK_An (hF b17) (tK_An (hF b22) (tK_An (hF b27) (tK_An (hF b32) (tK_An (hF b37) (tK_An (hT b104) (tK_An (hT a_2_107_0) (tK_An (hF b112) (tK_An (hF b117) (tK_An (hT b127) (tK_An (hF b137) (tK_An (hF a_4_75_143) (tK_An (hF b224) trivial)))))))))))))) ⟨tab,mx⟩ (tK_memoJ1 hσ hq h0 (tK_An (hF b224) trivial) ⟨tab,mx⟩) hA
           ·
            by_cases b137 : q 137=0
            ·
             by_cases a_4_75_143 : q 75=q 143
             ·
              have gC1 := tK_C1 hq b27 b22
              have b224 : q 224=0 := gC1.1 a_4_75_143
              exact tK_leafJ tK_r12 hσ hq h0 (tK_An (hF b12) (tK_An (hF b17) (tK_An (hF b22) (tK_An (hF b27) (tK_An (hF b32) (tK_An (hF b37) (tK_An (hT b104) (tK_An (hT a_2_107_0) (tK_An (hF b112) (tK_An (hF b117) (tK_An (hF b127) (tK_An (hT b137) (tK_An (hT a_4_75_143) (tK_An (hT b224) trivial)))))))))))))) ⟨tab,mx⟩ (tK_memoJ0 hσ hq h0 (tK_An (hT b224) trivial) ⟨tab,mx⟩) hA
             ·
              have gC1 := tK_C1 hq b27 b22
              have b224 : ¬ (q 224=0) := gC1.2 a_4_75_143
              exact tK_leafJ tK_r13 hσ hq h0 (tK_An (hF b12) (tK_An (hF b17) (tK_An (hF b22) (tK_An (hF b27) (tK_An (hF b32) (tK_An (hF b37) (tK_An (hT b104) (tK_An (hT a_2_107_0) (tK_An (hF b112) (tK_An (hF b117) (tK_An (hF b127) (tK_An (hT b137) (tK_An (hF a_4_75_143) (tK_An (hF b224) trivial)))))))))))))) ⟨tab,mx⟩ (tK_memoJ1 hσ hq h0 (tK_An (hF b224) trivial) ⟨tab,mx⟩) hA
            ·
             have gB1 := tK_B1 hq b12 b17 b22 b27 b32 b37 a_2_107_0 b112 b117 b127 b137
             have b234 : ¬ (q 234=0) := gB1.1
             have b239 : ¬ (q 239=0) := gB1.2.1
             have b244 : ¬ (q 244=0) := gB1.2.2.1
             have b249 : ¬ (q 249=0) := gB1.2.2.2.1
             have b254 : ¬ (q 254=0) := gB1.2.2.2.2.1
             have b259 : ¬ (q 259=0) := gB1.2.2.2.2.2.1
             have a_3_296_74 : q 296=q 74 := gB1.2.2.2.2.2.2.1
             have b298 : q 298=0 := gB1.2.2.2.2.2.2.2
             by_cases a_4_75_143 : q 75=q 143
             ·
              have gC1 := tK_C1 hq b27 b22
              have b224 : q 224=0 := gC1.1 a_4_75_143
              exact tK_leafJ tK_r14 hσ hq h0 (tK_An (hF b12) (tK_An (hF b17) (tK_An (hF b22) (tK_An (hF b27) (tK_An (hF b32) (tK_An (hF b37) (tK_An (hT b104) (tK_An (hT a_2_107_0) (tK_An (hF b112) (tK_An (hF b117) (tK_An (hF b127) (tK_An (hF b137) (tK_An (hF b234) (tK_An (hF b239) (tK_An (hF b244) (tK_An (hF b249) (tK_An (hF b254) (tK_An (hF b259) (tK_An (hT a_3_296_74) (tK_An (hT b298) (tK_An (hT a_4_75_143) (tK_An (hT b224) trivial)))))))))))))))))))))) ⟨tab,mx⟩ (tK_memoJ0 hσ hq h0 (tK_An (hT b224) trivial) ⟨tab,mx⟩) hA
             ·
              have gC1 := tK_C1 hq b27 b22
              have b224 : ¬ (q 224=0) := gC1.2 a_4_75_143
              exact tK_leafJ tK_r15 hσ hq h0 (tK_An (hF b12) (tK_An (hF b17) (tK_An (hF b22) (tK_An (hF b27) (tK_An (hF b32) (tK_An (hF b37) (tK_An (hT b104) (tK_An (hT a_2_107_0) (tK_An (hF b112) (tK_An (hF b117) (tK_An (hF b127) (tK_An (hF b137) (tK_An (hF b234) (tK_An (hF b239) (tK_An (hF b244) (tK_An (hF b249) (tK_An (hF b254) (tK_An (hF b259) (tK_An (hT a_3_296_74) (tK_An (hT b298) (tK_An (hF a_4_75_143) (tK_An (hF b224) trivial)))))))))))))))))))))) ⟨tab,mx⟩ (tK_memoJ1 hσ hq h0 (tK_An (hF b224) trivial) ⟨tab,mx⟩) hA
        ·
         by_cases a_4_75_143 : q 75=q 143
         ·
          have gC1 := tK_C1 hq b27 b22
          have b224 : q 224=0 := gC1.1 a_4_75_143
          exact tK_leafJ tK_r16 hσ hq h0 (tK_An (hF b12) (tK_An (hF b17) (tK_An (hF b22) (tK_An (hF b27) (tK_An (hF b32) (tK_An (hF b37) (tK_An (hT b104) (tK_An (hF a_2_107_0) (tK_An (hT a_4_75_143) (tK_An (hT b224) trivial)))))))))) ⟨tab,mx⟩ (tK_memoJ0 hσ hq h0 (tK_An (hT b224) trivial) ⟨tab,mx⟩) hA
         ·
          have gC1 := tK_C1 hq b27 b22
          have b224 : ¬ (q 224=0) := gC1.2 a_4_75_143
          exact tK_leafJ tK_r17 hσ hq h0 (tK_An (hF b12) (tK_An (hF b17) (tK_An (hF b22) (tK_An (hF b27) (tK_An (hF b32) (tK_An (hF b37) (tK_An (hT b104) (tK_An (hF a_2_107_0) (tK_An (hF a_4_75_143) (tK_An (hF b224) trivial)))))))))) ⟨tab,mx⟩ (tK_memoJ1 hσ hq h0 (tK_An (hF b224) trivial) ⟨tab,mx⟩) hA
       ·
        by_cases b318 : q 318=0
        ·
         by_cases a_2_107_0 : 0 < q 107
         ·
          by_cases b112 : q 112=0
          ·
           have gF01 := tK_F01 hq b12 b104 b318
           have b338 : ¬ (q 338=0) := gF01
           have gG01 := tK_G01 hq b12 b112
           have b117 : ¬ (q 117=0) := gG01
           have gF02 := tK_F02 hq b17 b104 b318
           have b369 : ¬ (q 369=0) := gF02
           have gG02 := tK_G02 hq b17 b112
           have b127 : ¬ (q 127=0) := gG02
           have gF03 := tK_F03 hq b27 b104 b318
           have b400 : ¬ (q 400=0) := gF03
           have gG03 := tK_G03 hq b27 b112
           have b137 : ¬ (q 137=0) := gG03
           by_cases a_4_75_143 : q 75=q 143
           ·
            have gC1 := tK_C1 hq b27 b22
            have b224 : q 224=0 := gC1.1 a_4_75_143
            exact tK_leafJ tK_r18 hσ hq h0 (tK_An (hF b12) (tK_An (hF b17) (tK_An (hF b22) (tK_An (hF b27) (tK_An (hF b32) (tK_An (hF b37) (tK_An (hF b104) (tK_An (hT b318) (tK_An (hT a_2_107_0) (tK_An (hT b112) (tK_An (hF b338) (tK_An (hF b117) (tK_An (hF b369) (tK_An (hF b127) (tK_An (hF b400) (tK_An (hF b137) (tK_An (hT a_4_75_143) (tK_An (hT b224) trivial)))))))))))))))))) ⟨tab,mx⟩ (tK_memoJ0 hσ hq h0 (tK_An (hT b224) trivial) ⟨tab,mx⟩) hA
           ·
            have gC1 := tK_C1 hq b27 b22
            have b224 : ¬ (q 224=0) := gC1.2 a_4_75_143
            exact tK_leafJ tK_r19 hσ hq h0 (tK_An (hF b12) (tK_An (hF b17) (tK_An (hF b22) (tK_An (hF b27) (tK_An (hF b32) (tK_An (hF b37) (tK_An (hF b104) (tK_An (hT b318) (tK_An (hT a_2_107_0) (tK_An (hT b112) (tK_An (hF b338) (tK_An (hF b117) (tK_An (hF b369) (tK_An (hF b127) (tK_An (hF b400) (tK_An (hF b137) (tK_An (hF a_4_75_143) (tK_An (hF b224) trivial)))))))))))))))))) ⟨tab,mx⟩ (tK_memoJ1 hσ hq h0 (tK_An (hF b224) trivial) ⟨tab,mx⟩) hA
          ·
           have gF01 := tK_F01 hq b12 b104 b318
           have b338 : ¬ (q 338=0) := gF01
           by_cases b117 : q 117=0
           ·
            have gF02 := tK_F02 hq b17 b104 b318
            have b369 : ¬ (q 369=0) := gF02
            have gG12 := tK_G12 hq b22 b117
            have b127 : ¬ (q 127=0) := gG12
            have gF03 := tK_F03 hq b27 b104 b318
            have b400 : ¬ (q 400=0) := gF03
            have gG13 := tK_G13 hq b32 b117
            have b137 : ¬ (q 137=0) := gG13
            by_cases a_4_75_143 : q 75=q 143
            ·
             have gC1 := tK_C1 hq b27 b22
             have b224 : q 224=0 := gC1.1 a_4_75_143
             exact tK_leafJ tK_r20 hσ hq h0 (tK_An (hF b12) (tK_An (hF b17) (tK_An (hF b22) (tK_An (hF b27) (tK_An (hF b32) (tK_An (hF b37) (tK_An (hF b104) (tK_An (hT b318) (tK_An (hT a_2_107_0) (tK_An (hF b112) (tK_An (hF b338) (tK_An (hT b117) (tK_An (hF b369) (tK_An (hF b127) (tK_An (hF b400) (tK_An (hF b137) (tK_An (hT a_4_75_143) (tK_An (hT b224) trivial)))))))))))))))))) ⟨tab,mx⟩ (tK_memoJ0 hσ hq h0 (tK_An (hT b224) trivial) ⟨tab,mx⟩) hA
            ·
             have gC1 := tK_C1 hq b27 b22
             have b224 : ¬ (q 224=0) := gC1.2 a_4_75_143
             exact tK_leafJ tK_r21 hσ hq h0 (tK_An (hF b12) (tK_An (hF b17) (tK_An (hF b22) (tK_An (hF b27) (tK_An (hF b32) (tK_An (hF b37) (tK_An (hF b104) (tK_An (hT b318) (tK_An (hT a_2_107_0) (tK_An (hF b112) (tK_An (hF b338) (tK_An (hT b117) (tK_An (hF b369) (tK_An (hF b127) (tK_An (hF b400) (tK_An (hF b137) (tK_An (hF a_4_75_143) (tK_An (hF b224) trivial)))))))))))))))))) ⟨tab,mx⟩ (tK_memoJ1 hσ hq h0 (tK_An (hF b224) trivial) ⟨tab,mx⟩) hA
           ·
            have gF02 := tK_F02 hq b17 b104 b318
            have b369 : ¬ (q 369=0) := gF02
            by_cases b127 : q 127=0
            ·
             have gF03 := tK_F03 hq b27 b104 b318
             have b400 : ¬ (q 400=0) := gF03
             have gG23 := tK_G23 hq b37 b127
             have b137 : ¬ (q 137=0) := gG23
             by_cases a_4_75_143 : q 75=q 143
             ·
              have gC1 := tK_C1 hq b27 b22
              have b224 : q 224=0 := gC1.1 a_4_75_143
              exact tK_leafJ tK_r22 hσ hq h0 (tK_An (hF b12) (tK_An (hF b17) (tK_An (hF b22) (tK_An (hF b27) (tK_An (hF b32) (tK_An (hF b37) (tK_An (hF b104) (tK_An (hT b318) (tK_An (hT a_2_107_0) (tK_An (hF b112) (tK_An (hF b338) (tK_An (hF b117) (tK_An (hF b369) (tK_An (hT b127) (tK_An (hF b400) (tK_An (hF b137) (tK_An (hT a_4_75_143) (tK_An (hT b224) trivial)))))))))))))))))) ⟨tab,mx⟩ (tK_memoJ0 hσ hq h0 (tK_An (hT b224) trivial) ⟨tab,mx⟩) hA
             ·
              have gC1 := tK_C1 hq b27 b22
              have b224 : ¬ (q 224=0) := gC1.2 a_4_75_143
              exact tK_leafJ tK_r23 hσ hq h0 (tK_An (hF b12) (tK_An (hF b17) (tK_An (hF b22) (tK_An (hF b27) (tK_An (hF b32) (tK_An (hF b37) (tK_An (hF b104) (tK_An (hT b318) (tK_An (hT a_2_107_0) (tK_An (hF b112) (tK_An (hF b338) (tK_An (hF b117) (tK_An (hF b369) (tK_An (hT b127) (tK_An (hF b400) (tK_An (hF b137) (tK_An (hF a_4_75_143) (tK_An (hF b224) trivial)))))))))))))))))) ⟨tab,mx⟩ (tK_memoJ1 hσ hq h0 (tK_An (hF b224) trivial) ⟨tab,mx⟩) hA
            ·
             have gF03 := tK_F03 hq b27 b104 b318
             have b400 : ¬ (q 400=0) := gF03
             by_cases b137 : q 137=0
             ·
              by_cases a_4_75_143 : q 75=q 143
              ·
               have gC1 := tK_C1 hq b27 b22
               have b224 : q 224=0 := gC1.1 a_4_75_143
               exact tK_leafJ tK_r24 hσ hq h0 (tK_An (hF b12) (tK_An (hF b17) (tK_An (hF b22) (tK_An (hF b27) (tK_An (hF b32) (tK_An (hF b37) (tK_An (hF b104) (tK_An (hT b318) (tK_An (hT a_2_107_0) (tK_An (hF b112) (tK_An (hF b338) (tK_An (hF b117) (tK_An (hF b369) (tK_An (hF b127) (tK_An (hF b400) (tK_An (hT b137) (tK_An (hT a_4_75_143) (tK_An (hT b224) trivial)))))))))))))))))) ⟨tab,mx⟩ (tK_memoJ0 hσ hq h0 (tK_An (hT b224) trivial) ⟨tab,mx⟩) hA
              ·
               have gC1 := tK_C1 hq b27 b22
               have b224 : ¬ (q 224=0) := gC1.2 a_4_75_143
               exact tK_leafJ tK_r25 hσ hq h0 (tK_An (hF b12) (tK_An (hF b17) (tK_An (hF b22) (tK_An (hF b27) (tK_An (hF b32) (tK_An (hF b37) (tK_An (hF b104) (tK_An (hT b318) (tK_An (hT a_2_107_0) (tK_An (hF b112) (tK_An (hF b338) (tK_An (hF b117) (tK_An (hF b369) (tK_An (hF b127) (tK_An (hF b400) (tK_An (hT b137) (tK_An (hF a_4_75_143) (tK_An (hF b224) trivial)))))))))))))))))) ⟨tab,mx⟩ (tK_memoJ1 hσ hq h0 (tK_An (hF b224) trivial) ⟨tab,mx⟩) hA
             ·
              have gB1 := tK_B1 hq b12 b17 b22 b27 b32 b37 a_2_107_0 b112 b117 b127 b137
              have b234 : ¬ (q 234=0) := gB1.1
              have b239 : ¬ (q 239=0) := gB1.2.1
              have b244 : ¬ (q 244=0) := gB1.2.2.1
              have b249 : ¬ (q 249=0) := gB1.2.2.2.1
              have b254 : ¬ (q 254=0) := gB1.2.2.2.2.1
              have b259 : ¬ (q 259=0) := gB1.2.2.2.2.2.1
              have a_3_296_74 : q 296=q 74 := gB1.2.2.2.2.2.2.1
              have b298 : q 298=0 := gB1.2.2.2.2.2.2.2
              by_cases a_4_75_143 : q 75=q 143
              ·
               have gC1 := tK_C1 hq b27 b22
               have b224 : q 224=0 := gC1.1 a_4_75_143
               exact tK_leafJ tK_r26 hσ hq h0 (tK_An (hF b12) (tK_An (hF b17) (tK_An (hF b22) (tK_An (hF b27) (tK_An (hF b32) (tK_An (hF b37) (tK_An (hF b104) (tK_An (hT b318) (tK_An (hT a_2_107_0) (tK_An (hF b112) (tK_An (hF b338) (tK_An (hF b117) (tK_An (hF b369) (tK_An (hF b127) (tK_An (hF b400) (tK_An (hF b137) (tK_An (hF b234) (tK_An (hF b239) (tK_An (hF b244) (tK_An (hF b249) (tK_An (hF b254) (tK_An (hF b259) (tK_An (hT a_3_296_74) (tK_An (hT b298) (tK_An (hT a_4_75_143) (tK_An (hT b224) trivial)))))))))))))))))))))))))) ⟨tab,mx⟩ (tK_memoJ0 hσ hq h0 (tK_An (hT b224) trivial) ⟨tab,mx⟩) hA
              ·
               have gC1 := tK_C1 hq b27 b22
               have b224 : ¬ (q 224=0) := gC1.2 a_4_75_143
               exact tK_leafJ tK_r27 hσ hq h0 (tK_An (hF b12) (tK_An (hF b17) (tK_An (hF b22) (tK_An (hF b27) (tK_An (hF b32) (tK_An (hF b37) (tK_An (hF b104) (tK_An (hT b318) (tK_An (hT a_2_107_0) (tK_An (hF b112) (tK_An (hF b338) (tK_An (hF b117) (tK_An (hF b369) (tK_An (hF b127) (tK_An (hF b400) (tK_An (hF b137) (tK_An (hF b234) (tK_An (hF b239) (tK_An (hF b244) (tK_An (hF b249) (tK_An (hF b254) (tK_An (hF b259) (tK_An (hT a_3_296_74) (tK_An (hT b298) (tK_An (hF a_4_75_143) (tK_An (hF b224) trivial)))))))))))))))))))))))))) ⟨tab,mx⟩ (tK_memoJ1 hσ hq h0 (tK_An (hF b224) trivial) ⟨tab,mx⟩) hA
         ·
          have gF01 := tK_F01 hq b12 b104 b318
          have b338 : ¬ (q 338=0) := gF01
          have gF02 := tK_F02 hq b17 b104 b318
          have b369 : ¬ (q 369=0) := gF02
          have gF03 := tK_F03 hq b27 b104 b318
          have b400 : ¬ (q 400=0) := gF03
          by_cases a_4_75_143 : q 75=q 143
          ·
           have gC1 := tK_C1 hq b27 b22
           have b224 : q 224=0 := gC1.1 a_4_75_143
           exact tK_leafJ tK_r28 hσ hq h0 (tK_An (hF b12) (tK_An (hF b17) (tK_An (hF b22) (tK_An (hF b27) (tK_An (hF b32) (tK_An (hF b37) (tK_An (hF b104) (tK_An (hT b318) (tK_An (hF a_2_107_0) (tK_An (hF b338) (tK_An (hF b369) (tK_An (hF b400) (tK_An (hT a_4_75_143) (tK_An (hT b224) trivial)))))))))))))) ⟨tab,mx⟩ (tK_memoJ0 hσ hq h0 (tK_An (hT b224) trivial) ⟨tab,mx⟩) hA
          ·
           have gC1 := tK_C1 hq b27 b22
           have b224 : ¬ (q 224=0) := gC1.2 a_4_75_143
           exact tK_leafJ tK_r29 hσ hq h0 (tK_An (hF b12) (tK_An (hF b17) (tK_An (hF b22) (tK_An (hF b27) (tK_An (hF b32) (tK_An (hF b37) (tK_An (hF b104) (tK_An (hT b318) (tK_An (hF a_2_107_0) (tK_An (hF b338) (tK_An (hF b369) (tK_An (hF b400) (tK_An (hF a_4_75_143) (tK_An (hF b224) trivial)))))))))))))) ⟨tab,mx⟩ (tK_memoJ1 hσ hq h0 (tK_An (hF b224) trivial) ⟨tab,mx⟩) hA
        ·
         by_cases a_2_107_0 : 0 < q 107
         ·
          by_cases b112 : q 112=0
          ·
           by_cases b338 : q 338=0
           ·
            have gG01 := tK_G01 hq b12 b112
            have b117 : ¬ (q 117=0) := gG01
            have gF12 := tK_F12 hq b22 b104 b338
            have b369 : ¬ (q 369=0) := gF12
            have gG02 := tK_G02 hq b17 b112
            have b127 : ¬ (q 127=0) := gG02
            have gF13 := tK_F13 hq b32 b104 b338
            have b400 : ¬ (q 400=0) := gF13
            have gG03 := tK_G03 hq b27 b112
            have b137 : ¬ (q 137=0) := gG03
            by_cases a_4_75_143 : q 75=q 143
            ·
             have gC1 := tK_C1 hq b27 b22
             have b224 : q 224=0 := gC1.1 a_4_75_143
             exact tK_leafJ tK_r30 hσ hq h0 (tK_An (hF b12) (tK_An (hF b17) (tK_An (hF b22) (tK_An (hF b27) (tK_An (hF b32) (tK_An (hF b37) (tK_An (hF b104) (tK_An (hF b318) (tK_An (hT a_2_107_0) (tK_An (hT b112) (tK_An (hT b338) (tK_An (hF b117) (tK_An (hF b369) (tK_An (hF b127) (tK_An (hF b400) (tK_An (hF b137) (tK_An (hT a_4_75_143) (tK_An (hT b224) trivial)))))))))))))))))) ⟨tab,mx⟩ (tK_memoJ0 hσ hq h0 (tK_An (hT b224) trivial) ⟨tab,mx⟩) hA
            ·
             have gC1 := tK_C1 hq b27 b22
             have b224 : ¬ (q 224=0) := gC1.2 a_4_75_143
             exact tK_leafJ tK_r31 hσ hq h0 (tK_An (hF b12) (tK_An (hF b17) (tK_An (hF b22) (tK_An (hF b27) (tK_An (hF b32) (tK_An (hF b37) (tK_An (hF b104) (tK_An (hF b318) (tK_An (hT a_2_107_0) (tK_An (hT b112) (tK_An (hT b338) (tK_An (hF b117) (tK_An (hF b369) (tK_An (hF b127) (tK_An (hF b400) (tK_An (hF b137) (tK_An (hF a_4_75_143) (tK_An (hF b224) trivial)))))))))))))))))) ⟨tab,mx⟩ (tK_memoJ1 hσ hq h0 (tK_An (hF b224) trivial) ⟨tab,mx⟩) hA
           ·
            have gG01 := tK_G01 hq b12 b112
            have b117 : ¬ (q 117=0) := gG01
            by_cases b369 : q 369=0
            ·
             have gG02 := tK_G02 hq b17 b112
             have b127 : ¬ (q 127=0) := gG02
             have gF23 := tK_F23 hq b37 b104 b369
             have b400 : ¬ (q 400=0) := gF23
             have gG03 := tK_G03 hq b27 b112
             have b137 : ¬ (q 137=0) := gG03
             by_cases a_4_75_143 : q 75=q 143
             ·
              have gC1 := tK_C1 hq b27 b22
              have b224 : q 224=0 := gC1.1 a_4_75_143
              exact tK_leafJ tK_r32 hσ hq h0 (tK_An (hF b12) (tK_An (hF b17) (tK_An (hF b22) (tK_An (hF b27) (tK_An (hF b32) (tK_An (hF b37) (tK_An (hF b104) (tK_An (hF b318) (tK_An (hT a_2_107_0) (tK_An (hT b112) (tK_An (hF b338) (tK_An (hF b117) (tK_An (hT b369) (tK_An (hF b127) (tK_An (hF b400) (tK_An (hF b137) (tK_An (hT a_4_75_143) (tK_An (hT b224) trivial)))))))))))))))))) ⟨tab,mx⟩ (tK_memoJ0 hσ hq h0 (tK_An (hT b224) trivial) ⟨tab,mx⟩) hA
             ·
              have gC1 := tK_C1 hq b27 b22
              have b224 : ¬ (q 224=0) := gC1.2 a_4_75_143
              exact tK_leafJ tK_r33 hσ hq h0 (tK_An (hF b12) (tK_An (hF b17) (tK_An (hF b22) (tK_An (hF b27) (tK_An (hF b32) (tK_An (hF b37) (tK_An (hF b104) (tK_An (hF b318) (tK_An (hT a_2_107_0) (tK_An (hT b112) (tK_An (hF b338) (tK_An (hF b117) (tK_An (hT b369) (tK_An (hF b127) (tK_An (hF b400) (tK_An (hF b137) (tK_An (hF a_4_75_143) (tK_An (hF b224) trivial)))))))))))))))))) ⟨tab,mx⟩ (tK_memoJ1 hσ hq h0 (tK_An (hF b224) trivial) ⟨tab,mx⟩) hA
            ·
             have gG02 := tK_G02 hq b17 b112
             have b127 : ¬ (q 127=0) := gG02
             by_cases b400 : q 400=0
             ·
              have gG03 := tK_G03 hq b27 b112
              have b137 : ¬ (q 137=0) := gG03
              by_cases a_4_75_143 : q 75=q 143
              ·
               have gC1 := tK_C1 hq b27 b22
               have b224 : q 224=0 := gC1.1 a_4_75_143
               exact tK_leafJ tK_r34 hσ hq h0 (tK_An (hF b12) (tK_An (hF b17) (tK_An (hF b22) (tK_An (hF b27) (tK_An (hF b32) (tK_An (hF b37) (tK_An (hF b104) (tK_An (hF b318) (tK_An (hT a_2_107_0) (tK_An (hT b112) (tK_An (hF b338) (tK_An (hF b117) (tK_An (hF b369) (tK_An (hF b127) (tK_An (hT b400) (tK_An (hF b137) (tK_An (hT a_4_75_143) (tK_An (hT b224) trivial)))))))))))))))))) ⟨tab,mx⟩ (tK_memoJ0 hσ hq h0 (tK_An (hT b224) trivial) ⟨tab,mx⟩) hA
              ·
               have gC1 := tK_C1 hq b27 b22
               have b224 : ¬ (q 224=0) := gC1.2 a_4_75_143
               exact tK_leafJ tK_r35 hσ hq h0 (tK_An (hF b12) (tK_An (hF b17) (tK_An (hF b22) (tK_An (hF b27) (tK_An (hF b32) (tK_An (hF b37) (tK_An (hF b104) (tK_An (hF b318) (tK_An (hT a_2_107_0) (tK_An (hT b112) (tK_An (hF b338) (tK_An (hF b117) (tK_An (hF b369) (tK_An (hF b127) (tK_An (hT b400) (tK_An (hF b137) (tK_An (hF a_4_75_143) (tK_An (hF b224) trivial)))))))))))))))))) ⟨tab,mx⟩ (tK_memoJ1 hσ hq h0 (tK_An (hF b224) trivial) ⟨tab,mx⟩) hA
             ·
              have gG03 := tK_G03 hq b27 b112
              have b137 : ¬ (q 137=0) := gG03
              have gA1 := tK_A1 hq b12 b17 b22 b27 b32 b37 b104 b318 b338 b369 b400
              have b427 : ¬ (q 427=0) := gA1.1
              have b432 : ¬ (q 432=0) := gA1.2.1
              have b437 : ¬ (q 437=0) := gA1.2.2.1
              have b442 : ¬ (q 442=0) := gA1.2.2.2.1
              have b447 : ¬ (q 447=0) := gA1.2.2.2.2.1
              have b452 : ¬ (q 452=0) := gA1.2.2.2.2.2.1
              have b495 : q 495=0 := gA1.2.2.2.2.2.2
              by_cases a_4_75_143 : q 75=q 143
              ·
               have gC1 := tK_C1 hq b27 b22
               have b224 : q 224=0 := gC1.1 a_4_75_143
               exact tK_leafJ tK_r36 hσ hq h0 (tK_An (hF b12) (tK_An (hF b17) (tK_An (hF b22) (tK_An (hF b27) (tK_An (hF b32) (tK_An (hF b37) (tK_An (hF b104) (tK_An (hF b318) (tK_An (hT a_2_107_0) (tK_An (hT b112) (tK_An (hF b338) (tK_An (hF b117) (tK_An (hF b369) (tK_An (hF b127) (tK_An (hF b400) (tK_An (hF b137) (tK_An (hF b427) (tK_An (hF b432) (tK_An (hF b437) (tK_An (hF b442) (tK_An (hF b447) (tK_An (hF b452) (tK_An (hT b495) (tK_An (hT a_4_75_143) (tK_An (hT b224) trivial))))))))))))))))))))))))) ⟨tab,mx⟩ (tK_memoJ0 hσ hq h0 (tK_An (hT b224) trivial) ⟨tab,mx⟩) hA
              ·
               have gC1 := tK_C1 hq b27 b22
               have b224 : ¬ (q 224=0) := gC1.2 a_4_75_143
               exact tK_leafJ tK_r37 hσ hq h0 (tK_An (hF b12) (tK_An (hF b17) (tK_An (hF b22) (tK_An (hF b27) (tK_An (hF b32) (tK_An (hF b37) (tK_An (hF b104) (tK_An (hF b318) (tK_An (hT a_2_107_0) (tK_An (hT b112) (tK_An (hF b338) (tK_An (hF b117) (tK_An (hF b369) (tK_An (hF b127) (tK_An (hF b400) (tK_An (hF b137) (tK_An (hF b427) (tK_An (hF b432) (tK_An (hF b437) (tK_An (hF b442) (tK_An (hF b447) (tK_An (hF b452) (tK_An (hT b495) (tK_An (hF a_4_75_143) (tK_An (hF b224) trivial))))))))))))))))))))))))) ⟨tab,mx⟩ (tK_memoJ1 hσ hq h0 (tK_An (hF b224) trivial) ⟨tab,mx⟩) hA
          ·
           by_cases b338 : q 338=0
           ·
            by_cases b117 : q 117=0
            ·
             have gF12 := tK_F12 hq b22 b104 b338
             have b369 : ¬ (q 369=0) := gF12
             have gG12 := tK_G12 hq b22 b117
             have b127 : ¬ (q 127=0) := gG12
             have gF13 := tK_F13 hq b32 b104 b338
             have b400 : ¬ (q 400=0) := gF13
             have gG13 := tK_G13 hq b32 b117
             have b137 : ¬ (q 137=0) := gG13
             by_cases a_4_75_143 : q 75=q 143
             ·
              have gC1 := tK_C1 hq b27 b22
              have b224 : q 224=0 := gC1.1 a_4_75_143
              exact tK_leafJ tK_r38 hσ hq h0 (tK_An (hF b12) (tK_An (hF b17) (tK_An (hF b22) (tK_An (hF b27) (tK_An (hF b32) (tK_An (hF b37) (tK_An (hF b104) (tK_An (hF b318) (tK_An (hT a_2_107_0) (tK_An (hF b112) (tK_An (hT b338) (tK_An (hT b117) (tK_An (hF b369) (tK_An (hF b127) (tK_An (hF b400) (tK_An (hF b137) (tK_An (hT a_4_75_143) (tK_An (hT b224) trivial)))))))))))))))))) ⟨tab,mx⟩ (tK_memoJ0 hσ hq h0 (tK_An (hT b224) trivial) ⟨tab,mx⟩) hA
             ·
              have gC1 := tK_C1 hq b27 b22
              have b224 : ¬ (q 224=0) := gC1.2 a_4_75_143
              exact tK_leafJ tK_r39 hσ hq h0 (tK_An (hF b12) (tK_An (hF b17) (tK_An (hF b22) (tK_An (hF b27) (tK_An (hF b32) (tK_An (hF b37) (tK_An (hF b104) (tK_An (hF b318) (tK_An (hT a_2_107_0) (tK_An (hF b112) (tK_An (hT b338) (tK_An (hT b117) (tK_An (hF b369) (tK_An (hF b127) (tK_An (hF b400) (tK_An (hF b137) (tK_An (hF a_4_75_143) (tK_An (hF b224) trivial)))))))))))))))))) ⟨tab,mx⟩ (tK_memoJ1 hσ hq h0 (tK_An (hF b224) trivial) ⟨tab,mx⟩) hA
            ·
             have gF12 := tK_F12 hq b22 b104 b338
             have b369 : ¬ (q 369=0) := gF12
             by_cases b127 : q 127=0
             ·
              have gF13 := tK_F13 hq b32 b104 b338
              have b400 : ¬ (q 400=0) := gF13
              have gG23 := tK_G23 hq b37 b127
              have b137 : ¬ (q 137=0) := gG23
              by_cases a_4_75_143 : q 75=q 143
              ·
               have gC1 := tK_C1 hq b27 b22
               have b224 : q 224=0 := gC1.1 a_4_75_143
               exact tK_leafJ tK_r40 hσ hq h0 (tK_An (hF b12) (tK_An (hF b17) (tK_An (hF b22) (tK_An (hF b27) (tK_An (hF b32) (tK_An (hF b37) (tK_An (hF b104) (tK_An (hF b318) (tK_An (hT a_2_107_0) (tK_An (hF b112) (tK_An (hT b338) (tK_An (hF b117) (tK_An (hF b369) (tK_An (hT b127) (tK_An (hF b400) (tK_An (hF b137) (tK_An (hT a_4_75_143) (tK_An (hT b224) trivial)))))))))))))))))) ⟨tab,mx⟩ (tK_memoJ0 hσ hq h0 (tK_An (hT b224) trivial) ⟨tab,mx⟩) hA
              ·
               have gC1 := tK_C1 hq b27 b22
               have b224 : ¬ (q 224=0) := gC1.2 a_4_75_143
               exact tK_leafJ tK_r41 hσ hq h0 (tK_An (hF b12) (tK_An (hF b17) (tK_An (hF b22) (tK_An (hF b27) (tK_An (hF b32) (tK_An (hF b37) (tK_An (hF b104) (tK_An (hF b318) (tK_An (hT a_2_107_0) (tK_An (hF b112) (tK_An (hT b338) (tK_An (hF b117) (tK_An (hF b369) (tK_An (hT b127) (tK_An (hF b400) (tK_An (hF b137) (tK_An (hF a_4_75_143) (tK_An (hF b224) trivial)))))))))))))))))) ⟨tab,mx⟩ (tK_memoJ1 hσ hq h0 (tK_An (hF b224) trivial) ⟨tab,mx⟩) hA
             ·
              have gF13 := tK_F13 hq b32 b104 b338
              have b400 : ¬ (q 400=0) := gF13
              by_cases b137 : q 137=0
              ·
               by_cases a_4_75_143 : q 75=q 143
               ·
                have gC1 := tK_C1 hq b27 b22
                have b224 : q 224=0 := gC1.1 a_4_75_143
                exact tK_leafJ tK_r42 hσ hq h0 (tK_An (hF b12) (tK_An (hF b17) (tK_An (hF b22) (tK_An (hF b27) (tK_An (hF b32) (tK_An (hF b37) (tK_An (hF b104) (tK_An (hF b318) (tK_An (hT a_2_107_0) (tK_An (hF b112) (tK_An (hT b338) (tK_An (hF b117) (tK_An (hF b369) (tK_An (hF b127) (tK_An (hF b400) (tK_An (hT b137) (tK_An (hT a_4_75_143) (tK_An (hT b224) trivial)))))))))))))))))) ⟨tab,mx⟩ (tK_memoJ0 hσ hq h0 (tK_An (hT b224) trivial) ⟨tab,mx⟩) hA
               ·
                have gC1 := tK_C1 hq b27 b22
                have b224 : ¬ (q 224=0) := gC1.2 a_4_75_143
                exact tK_leafJ tK_r43 hσ hq h0 (tK_An (hF b12) (tK_An (hF b17) (tK_An (hF b22) (tK_An (hF b27) (tK_An (hF b32) (tK_An (hF b37) (tK_An (hF b104) (tK_An (hF b318) (tK_An (hT a_2_107_0) (tK_An (hF b112) (tK_An (hT b338) (tK_An (hF b117) (tK_An (hF b369) (tK_An (hF b127) (tK_An (hF b400) (tK_An (hT b137) (tK_An (hF a_4_75_143) (tK_An (hF b224) trivial)))))))))))))))))) ⟨tab,mx⟩ (tK_memoJ1 hσ hq h0 (tK_An (hF b224) trivial) ⟨tab,mx⟩) hA
              ·
               have gB1 := tK_B1 hq b12 b17 b22 b27 b32 b37 a_2_107_0 b112 b117 b127 b137
               have b234 : ¬ (q 234=0) := gB1.1
               have b239 : ¬ (q 239=0) := gB1.2.1
               have b244 : ¬ (q 244=0) := gB1.2.2.1
               have b249 : ¬ (q 249=0) := gB1.2.2.2.1
               have b254 : ¬ (q 254=0) := gB1.2.2.2.2.1
               have b259 : ¬ (q 259=0) := gB1.2.2.2.2.2.1
               have a_3_296_74 : q 296=q 74 := gB1.2.2.2.2.2.2.1
               have b298 : q 298=0 := gB1.2.2.2.2.2.2.2
               by_cases a_4_75_143 : q 75=q 143
               ·
                have gC1 := tK_C1 hq b27 b22
                have b224 : q 224=0 := gC1.1 a_4_75_143
                exact tK_leafJ tK_r44 hσ hq h0 (tK_An (hF b12) (tK_An (hF b17) (tK_An (hF b22) (tK_An (hF b27) (tK_An (hF b32) (tK_An (hF b37) (tK_An (hF b104) (tK_An (hF b318) (tK_An (hT a_2_107_0) (tK_An (hF b112) (tK_An (hT b338) (tK_An (hF b117) (tK_An (hF b369) (tK_An (hF b127) (tK_An (hF b400) (tK_An (hF b137) (tK_An (hF b234) (tK_An (hF b239) (tK_An (hF b244) (tK_An (hF b249) (tK_An (hF b254) (tK_An (hF b259) (tK_An (hT a_3_296_74) (tK_An (hT b298) (tK_An (hT a_4_75_143) (tK_An (hT b224) trivial)))))))))))))))))))))))))) ⟨tab,mx⟩ (tK_memoJ0 hσ hq h0 (tK_An (hT b224) trivial) ⟨tab,mx⟩) hA
               ·
                have gC1 := tK_C1 hq b27 b22
                have b224 : ¬ (q 224=0) := gC1.2 a_4_75_143
                exact tK_leafJ tK_r45 hσ hq h0 (tK_An (hF b12) (tK_An (hF b17) (tK_An (hF b22) (tK_An (hF b27) (tK_An (hF b32) (tK_An (hF b37) (tK_An (hF b104) (tK_An (hF b318) (tK_An (hT a_2_107_0) (tK_An (hF b112) (tK_An (hT b338) (tK_An (hF b117) (tK_An (hF b369) (tK_An (hF b127) (tK_An (hF b400) (tK_An (hF b137) (tK_An (hF b234) (tK_An (hF b239) (tK_An (hF b244) (tK_An (hF b249) (tK_An (hF b254) (tK_An (hF b259) (tK_An (hT a_3_296_74) (tK_An (hT b298) (tK_An (hF a_4_75_143) (tK_An (hF b224) trivial)))))))))))))))))))))))))) ⟨tab,mx⟩ (tK_memoJ1 hσ hq h0 (tK_An (hF b224) trivial) ⟨tab,mx⟩) hA
           ·
            by_cases b117 : q 117=0
            ·
             by_cases b369 : q 369=0
             ·
              have gG12 := tK_G12 hq b22 b117
              have b127 : ¬ (q 127=0) := gG12
              have gF23 := tK_F23 hq b37 b104 b369
              have b400 : ¬ (q 400=0) := gF23
              have gG13 := tK_G13 hq b32 b117
              have b137 : ¬ (q 137=0) := gG13
              by_cases a_4_75_143 : q 75=q 143
              ·
               have gC1 := tK_C1 hq b27 b22
               have b224 : q 224=0 := gC1.1 a_4_75_143
               exact tK_leafJ tK_r46 hσ hq h0 (tK_An (hF b12) (tK_An (hF b17) (tK_An (hF b22) (tK_An (hF b27) (tK_An (hF b32) (tK_An (hF b37) (tK_An (hF b104) (tK_An (hF b318) (tK_An (hT a_2_107_0) (tK_An (hF b112) (tK_An (hF b338) (tK_An (hT b117) (tK_An (hT b369) (tK_An (hF b127) (tK_An (hF b400) (tK_An (hF b137) (tK_An (hT a_4_75_143) (tK_An (hT b224) trivial)))))))))))))))))) ⟨tab,mx⟩ (tK_memoJ0 hσ hq h0 (tK_An (hT b224) trivial) ⟨tab,mx⟩) hA
              ·
               have gC1 := tK_C1 hq b27 b22
               have b224 : ¬ (q 224=0) := gC1.2 a_4_75_143
               exact tK_leafJ tK_r47 hσ hq h0 (tK_An (hF b12) (tK_An (hF b17) (tK_An (hF b22) (tK_An (hF b27) (tK_An (hF b32) (tK_An (hF b37) (tK_An (hF b104) (tK_An (hF b318) (tK_An (hT a_2_107_0) (tK_An (hF b112) (tK_An (hF b338) (tK_An (hT b117) (tK_An (hT b369) (tK_An (hF b127) (tK_An (hF b400) (tK_An (hF b137) (tK_An (hF a_4_75_143) (tK_An (hF b224) trivial)))))))))))))))))) ⟨tab,mx⟩ (tK_memoJ1 hσ hq h0 (tK_An (hF b224) trivial) ⟨tab,mx⟩) hA
             ·
              have gG12 := tK_G12 hq b22 b117
              have b127 : ¬ (q 127=0) := gG12
              by_cases b400 : q 400=0
              ·
               have gG13 := tK_G13 hq b32 b117
               have b137 : ¬ (q 137=0) := gG13
               by_cases a_4_75_143 : q 75=q 143
               ·
                have gC1 := tK_C1 hq b27 b22
                have b224 : q 224=0 := gC1.1 a_4_75_143
                exact tK_leafJ tK_r48 hσ hq h0 (tK_An (hF b12) (tK_An (hF b17) (tK_An (hF b22) (tK_An (hF b27) (tK_An (hF b32) (tK_An (hF b37) (tK_An (hF b104) (tK_An (hF b318) (tK_An (hT a_2_107_0) (tK_An (hF b112) (tK_An (hF b338) (tK_An (hT b117) (tK_An (hF b369) (tK_An (hF b127) (tK_An (hT b400) (tK_An (hF b137) (tK_An (hT a_4_75_143) (tK_An (hT b224) trivial)))))))))))))))))) ⟨tab,mx⟩ (tK_memoJ0 hσ hq h0 (tK_An (hT b224) trivial) ⟨tab,mx⟩) hA
               ·
                have gC1 := tK_C1 hq b27 b22
                have b224 : ¬ (q 224=0) := gC1.2 a_4_75_143
                exact tK_leafJ tK_r49 hσ hq h0 (tK_An (hF b12) (tK_An (hF b17) (tK_An (hF b22) (tK_An (hF b27) (tK_An (hF b32) (tK_An (hF b37) (tK_An (hF b104) (tK_An (hF b318) (tK_An (hT a_2_107_0) (tK_An (hF b112) (tK_An (hF b338) (tK_An (hT b117) (tK_An (hF b369) (tK_An (hF b127) (tK_An (hT b400) (tK_An (hF b137) (tK_An (hF a_4_75_143) (tK_An (hF b224) trivial)))))))))))))))))) ⟨tab,mx⟩ (tK_memoJ1 hσ hq h0 (tK_An (hF b224) trivial) ⟨tab,mx⟩) hA
              ·
               have gG13 := tK_G13 hq b32 b117
               have b137 : ¬ (q 137=0) := gG13
               have gA1 := tK_A1 hq b12 b17 b22 b27 b32 b37 b104 b318 b338 b369 b400
               have b427 : ¬ (q 427=0) := gA1.1
               have b432 : ¬ (q 432=0) := gA1.2.1
               have b437 : ¬ (q 437=0) := gA1.2.2.1
               have b442 : ¬ (q 442=0) := gA1.2.2.2.1
               have b447 : ¬ (q 447=0) := gA1.2.2.2.2.1
               have b452 : ¬ (q 452=0) := gA1.2.2.2.2.2.1
               have b495 : q 495=0 := gA1.2.2.2.2.2.2
               by_cases a_4_75_143 : q 75=q 143
               ·
                have gC1 := tK_C1 hq b27 b22
                have b224 : q 224=0 := gC1.1 a_4_75_143
                exact tK_leafJ tK_r50 hσ hq h0 (tK_An (hF b12) (tK_An (hF b17) (tK_An (hF b22) (tK_An (hF b27) (tK_An (hF b32) (tK_An (hF b37) (tK_An (hF b104) (tK_An (hF b318) (tK_An (hT a_2_107_0) (tK_An (hF b112) (tK_An (hF b338) (tK_An (hT b117) (tK_An (hF b369) (tK_An (hF b127) (tK_An (hF b400) (tK_An (hF b137) (tK_An (hF b427) (tK_An (hF b432) (tK_An (hF b437) (tK_An (hF b442) (tK_An (hF b447) (tK_An (hF b452) (tK_An (hT b495) (tK_An (hT a_4_75_143) (tK_An (hT b224) trivial))))))))))))))))))))))))) ⟨tab,mx⟩ (tK_memoJ0 hσ hq h0 (tK_An (hT b224) trivial) ⟨tab,mx⟩) hA
               ·
                have gC1 := tK_C1 hq b27 b22
                have b224 : ¬ (q 224=0) := gC1.2 a_4_75_143
                exact tK_leafJ tK_r51 hσ hq h0 (tK_An (hF b12) (tK_An (hF b17) (tK_An (hF b22) (tK_An (hF b27) (tK_An (hF b32) (tK_An (hF b37) (tK_An (hF b104) (tK_An (hF b318) (tK_An (hT a_2_107_0) (tK_An (hF b112) (tK_An (hF b338) (tK_An (hT b117) (tK_An (hF b369) (tK_An (hF b127) (tK_An (hF b400) (tK_An (hF b137) (tK_An (hF b427) (tK_An (hF b432) (tK_An (hF b437) (tK_An (hF b442) (tK_An (hF b447) (tK_An (hF b452) (tK_An (hT b495) (tK_An (hF a_4_75_143) (tK_An (hF b224) trivial))))))))))))))))))))))))) ⟨tab,mx⟩ (tK_memoJ1 hσ hq h0 (tK_An (hF b224) trivial) ⟨tab,mx⟩) hA
            ·
             by_cases b369 : q 369=0
             ·
              by_cases b127 : q 127=0
              ·
               have gF23 := tK_F23 hq b37 b104 b369
               have b400 : ¬ (q 400=0) := gF23
               have gG23 := tK_G23 hq b37 b127
               have b137 : ¬ (q 137=0) := gG23
               by_cases a_4_75_143 : q 75=q 143
               ·
                have gC1 := tK_C1 hq b27 b22
                have b224 : q 224=0 := gC1.1 a_4_75_143
                exact tK_leafJ tK_r52 hσ hq h0 (tK_An (hF b12) (tK_An (hF b17) (tK_An (hF b22) (tK_An (hF b27) (tK_An (hF b32) (tK_An (hF b37) (tK_An (hF b104) (tK_An (hF b318) (tK_An (hT a_2_107_0) (tK_An (hF b112) (tK_An (hF b338) (tK_An (hF b117) (tK_An (hT b369) (tK_An (hT b127) (tK_An (hF b400) (tK_An (hF b137) (tK_An (hT a_4_75_143) (tK_An (hT b224) trivial)))))))))))))))))) ⟨tab,mx⟩ (tK_memoJ0 hσ hq h0 (tK_An (hT b224) trivial) ⟨tab,mx⟩) hA
               ·
                have gC1 := tK_C1 hq b27 b22
                have b224 : ¬ (q 224=0) := gC1.2 a_4_75_143
                exact tK_leafJ tK_r53 hσ hq h0 (tK_An (hF b12) (tK_An (hF b17) (tK_An (hF b22) (tK_An (hF b27) (tK_An (hF b32) (tK_An (hF b37) (tK_An (hF b104) (tK_An (hF b318) (tK_An (hT a_2_107_0) (tK_An (hF b112) (tK_An (hF b338) (tK_An (hF b117) (tK_An (hT b369) (tK_An (hT b127) (tK_An (hF b400) (tK_An (hF b137) (tK_An (hF a_4_75_143) (tK_An (hF b224) trivial)))))))))))))))))) ⟨tab,mx⟩ (tK_memoJ1 hσ hq h0 (tK_An (hF b224) trivial) ⟨tab,mx⟩) hA
              ·
               have gF23 := tK_F23 hq b37 b104 b369
               have b400 : ¬ (q 400=0) := gF23
               by_cases b137 : q 137=0
               ·
                by_cases a_4_75_143 : q 75=q 143
                ·
                 have gC1 := tK_C1 hq b27 b22
                 have b224 : q 224=0 := gC1.1 a_4_75_143
                 exact tK_leafJ tK_r54 hσ hq h0 (tK_An (hF b12) (tK_An (hF b17) (tK_An (hF b22) (tK_An (hF b27) (tK_An (hF b32) (tK_An (hF b37) (tK_An (hF b104) (tK_An (hF b318) (tK_An (hT a_2_107_0) (tK_An (hF b112) (tK_An (hF b338) (tK_An (hF b117) (tK_An (hT b369) (tK_An (hF b127) (tK_An (hF b400) (tK_An (hT b137) (tK_An (hT a_4_75_143) (tK_An (hT b224) trivial)))))))))))))))))) ⟨tab,mx⟩ (tK_memoJ0 hσ hq h0 (tK_An (hT b224) trivial) ⟨tab,mx⟩) hA
                ·
                 have gC1 := tK_C1 hq b27 b22
                 have b224 : ¬ (q 224=0) := gC1.2 a_4_75_143
                 exact tK_leafJ tK_r55 hσ hq h0 (tK_An (hF b12) (tK_An (hF b17) (tK_An (hF b22) (tK_An (hF b27) (tK_An (hF b32) (tK_An (hF b37) (tK_An (hF b104) (tK_An (hF b318) (tK_An (hT a_2_107_0) (tK_An (hF b112) (tK_An (hF b338) (tK_An (hF b117) (tK_An (hT b369) (tK_An (hF b127) (tK_An (hF b400) (tK_An (hT b137) (tK_An (hF a_4_75_143) (tK_An (hF b224) trivial)))))))))))))))))) ⟨tab,mx⟩ (tK_memoJ1 hσ hq h0 (tK_An (hF b224) trivial) ⟨tab,mx⟩) hA
               ·
                have gB1 := tK_B1 hq b12 b17 b22 b27 b32 b37 a_2_107_0 b112 b117 b127 b137
                have b234 : ¬ (q 234=0) := gB1.1
                have b239 : ¬ (q 239=0) := gB1.2.1
                have b244 : ¬ (q 244=0) := gB1.2.2.1
                have b249 : ¬ (q 249=0) := gB1.2.2.2.1
                have b254 : ¬ (q 254=0) := gB1.2.2.2.2.1
                have b259 : ¬ (q 259=0) := gB1.2.2.2.2.2.1
                have a_3_296_74 : q 296=q 74 := gB1.2.2.2.2.2.2.1
                have b298 : q 298=0 := gB1.2.2.2.2.2.2.2
                by_cases a_4_75_143 : q 75=q 143
                ·
                 have gC1 := tK_C1 hq b27 b22
                 have b224 : q 224=0 := gC1.1 a_4_75_143
                 exact tK_leafJ tK_r56 hσ hq h0 (tK_An (hF b12) (tK_An (hF b17) (tK_An (hF b22) (tK_An (hF b27) (tK_An (hF b32) (tK_An (hF b37) (tK_An (hF b104) (tK_An (hF b318) (tK_An (hT a_2_107_0) (tK_An (hF b112) (tK_An (hF b338) (tK_An (hF b117) (tK_An (hT b369) (tK_An (hF b127) (tK_An (hF b400) (tK_An (hF b137) (tK_An (hF b234) (tK_An (hF b239) (tK_An (hF b244) (tK_An (hF b249) (tK_An (hF b254) (tK_An (hF b259) (tK_An (hT a_3_296_74) (tK_An (hT b298) (tK_An (hT a_4_75_143) (tK_An (hT b224) trivial)))))))))))))))))))))))))) ⟨tab,mx⟩ (tK_memoJ0 hσ hq h0 (tK_An (hT b224) trivial) ⟨tab,mx⟩) hA
                ·
                 have gC1 := tK_C1 hq b27 b22
                 have b224 : ¬ (q 224=0) := gC1.2 a_4_75_143
                 exact tK_leafJ tK_r57 hσ hq h0 (tK_An (hF b12) (tK_An (hF b17) (tK_An (hF b22) (tK_An (hF b27) (tK_An (hF b32) (tK_An (hF b37) (tK_An (hF b104) (tK_An (hF b318) (tK_An (hT a_2_107_0) (tK_An (hF b112) (tK_An (hF b338) (tK_An (hF b117) (tK_An (hT b369) (tK_An (hF b127) (tK_An (hF b400) (tK_An (hF b137) (tK_An (hF b234) (tK_An (hF b239) (tK_An (hF b244) (tK_An (hF b249) (tK_An (hF b254) (tK_An (hF b259) (tK_An (hT a_3_296_74) (tK_An (hT b298) (tK_An (hF a_4_75_143) (tK_An (hF b224) trivial)))))))))))))))))))))))))) ⟨tab,mx⟩ (tK_memoJ1 hσ hq h0 (tK_An (hF b224) trivial) ⟨tab,mx⟩) hA
             ·
              by_cases b127 : q 127=0
              ·
               by_cases b400 : q 400=0
               ·
                have gG23 := tK_G23 hq b37 b127
                have b137 : ¬ (q 137=0) := gG23
                by_cases a_4_75_143 : q 75=q 143
                ·
                 have gC1 := tK_C1 hq b27 b22
                 have b224 : q 224=0 := gC1.1 a_4_75_143
                 exact tK_leafJ tK_r58 hσ hq h0 (tK_An (hF b12) (tK_An (hF b17) (tK_An (hF b22) (tK_An (hF b27) (tK_An (hF b32) (tK_An (hF b37) (tK_An (hF b104) (tK_An (hF b318) (tK_An (hT a_2_107_0) (tK_An (hF b112) (tK_An (hF b338) (tK_An (hF b117) (tK_An (hF b369) (tK_An (hT b127) (tK_An (hT b400) (tK_An (hF b137) (tK_An (hT a_4_75_143) (tK_An (hT b224) trivial)))))))))))))))))) ⟨tab,mx⟩ (tK_memoJ0 hσ hq h0 (tK_An (hT b224) trivial) ⟨tab,mx⟩) hA
                ·
                 have gC1 := tK_C1 hq b27 b22
                 have b224 : ¬ (q 224=0) := gC1.2 a_4_75_143
                 exact tK_leafJ tK_r59 hσ hq h0 (tK_An (hF b12) (tK_An (hF b17) (tK_An (hF b22) (tK_An (hF b27) (tK_An (hF b32) (tK_An (hF b37) (tK_An (hF b104) (tK_An (hF b318) (tK_An (hT a_2_107_0) (tK_An (hF b112) (tK_An (hF b338) (tK_An (hF b117) (tK_An (hF b369) (tK_An (hT b127) (tK_An (hT b400) (tK_An (hF b137) (tK_An (hF a_4_75_143) (tK_An (hF b224) trivial)))))))))))))))))) ⟨tab,mx⟩ (tK_memoJ1 hσ hq h0 (tK_An (hF b224) trivial) ⟨tab,mx⟩) hA
               ·
                have gG23 := tK_G23 hq b37 b127
                have b137 : ¬ (q 137=0) := gG23
                have gA1 := tK_A1 hq b12 b17 b22 b27 b32 b37 b104 b318 b338 b369 b400
                have b427 : ¬ (q 427=0) := gA1.1
                have b432 : ¬ (q 432=0) := gA1.2.1
                have b437 : ¬ (q 437=0) := gA1.2.2.1
                have b442 : ¬ (q 442=0) := gA1.2.2.2.1
                have b447 : ¬ (q 447=0) := gA1.2.2.2.2.1
                have b452 : ¬ (q 452=0) := gA1.2.2.2.2.2.1
                have b495 : q 495=0 := gA1.2.2.2.2.2.2
                by_cases a_4_75_143 : q 75=q 143
                ·
                 have gC1 := tK_C1 hq b27 b22
                 have b224 : q 224=0 := gC1.1 a_4_75_143
                 exact tK_leafJ tK_r60 hσ hq h0 (tK_An (hF b12) (tK_An (hF b17) (tK_An (hF b22) (tK_An (hF b27) (tK_An (hF b32) (tK_An (hF b37) (tK_An (hF b104) (tK_An (hF b318) (tK_An (hT a_2_107_0) (tK_An (hF b112) (tK_An (hF b338) (tK_An (hF b117) (tK_An (hF b369) (tK_An (hT b127) (tK_An (hF b400) (tK_An (hF b137) (tK_An (hF b427) (tK_An (hF b432) (tK_An (hF b437) (tK_An (hF b442) (tK_An (hF b447) (tK_An (hF b452) (tK_An (hT b495) (tK_An (hT a_4_75_143) (tK_An (hT b224) trivial))))))))))))))))))))))))) ⟨tab,mx⟩ (tK_memoJ0 hσ hq h0 (tK_An (hT b224) trivial) ⟨tab,mx⟩) hA
                ·
                 have gC1 := tK_C1 hq b27 b22
                 have b224 : ¬ (q 224=0) := gC1.2 a_4_75_143
                 exact tK_leafJ tK_r61 hσ hq h0 (tK_An (hF b12) (tK_An (hF b17) (tK_An (hF b22) (tK_An (hF b27) (tK_An (hF b32) (tK_An (hF b37) (tK_An (hF b104) (tK_An (hF b318) (tK_An (hT a_2_107_0) (tK_An (hF b112) (tK_An (hF b338) (tK_An (hF b117) (tK_An (hF b369) (tK_An (hT b127) (tK_An (hF b400) (tK_An (hF b137) (tK_An (hF b427) (tK_An (hF b432) (tK_An (hF b437) (tK_An (hF b442) (tK_An (hF b447) (tK_An (hF b452) (tK_An (hT b495) (tK_An (hF a_4_75_143) (tK_An (hF b224) trivial))))))))))))))))))))))))) ⟨tab,mx⟩ (tK_memoJ1 hσ hq h0 (tK_An (hF b224) trivial) ⟨tab,mx⟩) hA
              ·
               by_cases b400 : q 400=0
               ·
                by_cases b137 : q 137=0
                ·
                 by_cases a_4_75_143 : q 75=q 143
                 ·
                  have gC1 := tK_C1 hq b27 b22
                  have b224 : q 224=0 := gC1.1 a_4_75_143
                  exact tK_leafJ tK_r62 hσ hq h0 (tK_An (hF b12) (tK_An (hF b17) (tK_An (hF b22) (tK_An (hF b27) (tK_An (hF b32) (tK_An (hF b37) (tK_An (hF b104) (tK_An (hF b318) (tK_An (hT a_2_107_0) (tK_An (hF b112) (tK_An (hF b338) (tK_An (hF b117) (tK_An (hF b369) (tK_An (hF b127) (tK_An (hT b400) (tK_An (hT b137) (tK_An (hT a_4_75_143) (tK_An (hT b224) trivial)))))))))))))))))) ⟨tab,mx⟩ (tK_memoJ0 hσ hq h0 (tK_An (hT b224) trivial) ⟨tab,mx⟩) hA
                 ·
                  have gC1 := tK_C1 hq b27 b22
                  have b224 : ¬ (q 224=0) := gC1.2 a_4_75_143
                  exact tK_leafJ tK_r63 hσ hq h0 (tK_An (hF b12) (tK_An (hF b17) (tK_An (hF b22) (tK_An (hF b27) (tK_An (hF b32) (tK_An (hF b37) (tK_An (hF b104) (tK_An (hF b318) (tK_An (hT a_2_107_0) (tK_An (hF b112) (tK_An (hF b338) (tK_An (hF b117) (tK_An (hF b369) (tK_An (hF b127) (tK_An (hT b400) (tK_An (hT b137) (tK_An (hF a_4_75_143) (tK_An (hF b224) trivial)))))))))))))))))) ⟨tab,mx⟩ (tK_memoJ1 hσ hq h0 (tK_An (hF b224) trivial) ⟨tab,mx⟩) hA
                ·
                 have gB1 := tK_B1 hq b12 b17 b22 b27 b32 b37 a_2_107_0 b112 b117 b127 b137
                 have b234 : ¬ (q 234=0) := gB1.1
                 have b239 : ¬ (q 239=0) := gB1.2.1
                 have b244 : ¬ (q 244=0) := gB1.2.2.1
                 have b249 : ¬ (q 249=0) := gB1.2.2.2.1
                 have b254 : ¬ (q 254=0) := gB1.2.2.2.2.1
                 have b259 : ¬ (q 259=0) := gB1.2.2.2.2.2.1
                 have a_3_296_74 : q 296=q 74 := gB1.2.2.2.2.2.2.1
                 have b298 : q 298=0 := gB1.2.2.2.2.2.2.2
                 by_cases a_4_75_143 : q 75=q 143
                 ·
                  have gC1 := tK_C1 hq b27 b22
                  have b224 : q 224=0 := gC1.1 a_4_75_143
                  exact tK_leafJ tK_r64 hσ hq h0 (tK_An (hF b12) (tK_An (hF b17) (tK_An (hF b22) (tK_An (hF b27) (tK_An (hF b32) (tK_An (hF b37) (tK_An (hF b104) (tK_An (hF b318) (tK_An (hT a_2_107_0) (tK_An (hF b112) (tK_An (hF b338) (tK_An (hF b117) (tK_An (hF b369) (tK_An (hF b127) (tK_An (hT b400) (tK_An (hF b137) (tK_An (hF b234) (tK_An (hF b239) (tK_An (hF b244) (tK_An (hF b249) (tK_An (hF b254) (tK_An (hF b259) (tK_An (hT a_3_296_74) (tK_An (hT b298) (tK_An (hT a_4_75_143) (tK_An (hT b224) trivial)))))))))))))))))))))))))) ⟨tab,mx⟩ (tK_memoJ0 hσ hq h0 (tK_An (hT b224) trivial) ⟨tab,mx⟩) hA
                 ·
                  have gC1 := tK_C1 hq b27 b22
                  have b224 : ¬ (q 224=0) := gC1.2 a_4_75_143
                  exact tK_leafJ tK_r65 hσ hq h0 (tK_An (hF b12) (tK_An (hF b17) (tK_An (hF b22) (tK_An (hF b27) (tK_An (hF b32) (tK_An (hF b37) (tK_An (hF b104) (tK_An (hF b318) (tK_An (hT a_2_107_0) (tK_An (hF b112) (tK_An (hF b338) (tK_An (hF b117) (tK_An (hF b369) (tK_An (hF b127) (tK_An (hT b400) (tK_An (hF b137) (tK_An (hF b234) (tK_An (hF b239) (tK_An (hF b244) (tK_An (hF b249) (tK_An (hF b254) (tK_An (hF b259) (tK_An (hT a_3_296_74) (tK_An (hT b298) (tK_An (hF a_4_75_143) (tK_An (hF b224) trivial)))))))))))))))))))))))))) ⟨tab,mx⟩ (tK_memoJ1 hσ hq h0 (tK_An (hF b224) trivial) ⟨tab,mx⟩) hA
               ·
                by_cases b137 : q 137=0
                ·
                 have gA1 := tK_A1 hq b12 b17 b22 b27 b32 b37 b104 b318 b338 b369 b400
                 have b427 : ¬ (q 427=0) := gA1.1
                 have b432 : ¬ (q 432=0) := gA1.2.1
                 have b437 : ¬ (q 437=0) := gA1.2.2.1
                 have b442 : ¬ (q 442=0) := gA1.2.2.2.1
                 have b447 : ¬ (q 447=0) := gA1.2.2.2.2.1
                 have b452 : ¬ (q 452=0) := gA1.2.2.2.2.2.1
                 have b495 : q 495=0 := gA1.2.2.2.2.2.2
                 by_cases a_4_75_143 : q 75=q 143
                 ·
                  have gC1 := tK_C1 hq b27 b22
                  have b224 : q 224=0 := gC1.1 a_4_75_143
                  exact tK_leafJ tK_r66 hσ hq h0 (tK_An (hF b12) (tK_An (hF b17) (tK_An (hF b22) (tK_An (hF b27) (tK_An (hF b32) (tK_An (hF b37) (tK_An (hF b104) (tK_An (hF b318) (tK_An (hT a_2_107_0) (tK_An (hF b112) (tK_An (hF b338) (tK_An (hF b117) (tK_An (hF b369) (tK_An (hF b127) (tK_An (hF b400) (tK_An (hT b137) (tK_An (hF b427) (tK_An (hF b432) (tK_An (hF b437) (tK_An (hF b442) (tK_An (hF b447) (tK_An (hF b452) (tK_An (hT b495) (tK_An (hT a_4_75_143) (tK_An (hT b224) trivial))))))))))))))))))))))))) ⟨tab,mx⟩ (tK_memoJ0 hσ hq h0 (tK_An (hT b224) trivial) ⟨tab,mx⟩) hA
                 ·
                  have gC1 := tK_C1 hq b27 b22
                  have b224 : ¬ (q 224=0) := gC1.2 a_4_75_143
                  exact tK_leafJ tK_r67 hσ hq h0 (tK_An (hF b12) (tK_An (hF b17) (tK_An (hF b22) (tK_An (hF b27) (tK_An (hF b32) (tK_An (hF b37) (tK_An (hF b104) (tK_An (hF b318) (tK_An (hT a_2_107_0) (tK_An (hF b112) (tK_An (hF b338) (tK_An (hF b117) (tK_An (hF b369) (tK_An (hF b127) (tK_An (hF b400) (tK_An (hT b137) (tK_An (hF b427) (tK_An (hF b432) (tK_An (hF b437) (tK_An (hF b442) (tK_An (hF b447) (tK_An (hF b452) (tK_An (hT b495) (tK_An (hF a_4_75_143) (tK_An (hF b224) trivial))))))))))))))))))))))))) ⟨tab,mx⟩ (tK_memoJ1 hσ hq h0 (tK_An (hF b224) trivial) ⟨tab,mx⟩) hA
                ·
                 have gA1 := tK_A1 hq b12 b17 b22 b27 b32 b37 b104 b318 b338 b369 b400
                 have b427 : ¬ (q 427=0) := gA1.1
                 have b432 : ¬ (q 432=0) := gA1.2.1
                 have b437 : ¬ (q 437=0) := gA1.2.2.1
                 have b442 : ¬ (q 442=0) := gA1.2.2.2.1
                 have b447 : ¬ (q 447=0) := gA1.2.2.2.2.1
                 have b452 : ¬ (q 452=0) := gA1.2.2.2.2.2.1
                 have b495 : q 495=0 := gA1.2.2.2.2.2.2
                 have gB1 := tK_B1 hq b12 b17 b22 b27 b32 b37 a_2_107_0 b112 b117 b127 b137
                 have b234 : ¬ (q 234=0) := gB1.1
                 have b239 : ¬ (q 239=0) := gB1.2.1
                 have b244 : ¬ (q 244=0) := gB1.2.2.1
                 have b249 : ¬ (q 249=0) := gB1.2.2.2.1
                 have b254 : ¬ (q 254=0) := gB1.2.2.2.2.1
                 have b259 : ¬ (q 259=0) := gB1.2.2.2.2.2.1
                 have a_3_296_74 : q 296=q 74 := gB1.2.2.2.2.2.2.1
                 have b298 : q 298=0 := gB1.2.2.2.2.2.2.2
                 by_cases a_4_75_143 : q 75=q 143
                 ·
                  have gC1 := tK_C1 hq b27 b22
                  have b224 : q 224=0 := gC1.1 a_4_75_143
                  exact tK_leafJ tK_r68 hσ hq h0 (tK_An (hF b12) (tK_An (hF b17) (tK_An (hF b22) (tK_An (hF b27) (tK_An (hF b32) (tK_An (hF b37) (tK_An (hF b104) (tK_An (hF b318) (tK_An (hT a_2_107_0) (tK_An (hF b112) (tK_An (hF b338) (tK_An (hF b117) (tK_An (hF b369) (tK_An (hF b127) (tK_An (hF b400) (tK_An (hF b137) (tK_An (hF b427) (tK_An (hF b432) (tK_An (hF b437) (tK_An (hF b442) (tK_An (hF b447) (tK_An (hF b452) (tK_An (hT b495) (tK_An (hF b234) (tK_An (hF b239) (tK_An (hF b244) (tK_An (hF b249) (tK_An (hF b254) (tK_An (hF b259) (tK_An (hT a_3_296_74) (tK_An (hT b298) (tK_An (hT a_4_75_143) (tK_An (hT b224) trivial))))))))))))))))))))))))))))))))) ⟨tab,mx⟩ (tK_memoJ0 hσ hq h0 (tK_An (hT b224) trivial) ⟨tab,mx⟩) hA
                 ·
                  have gC1 := tK_C1 hq b27 b22
                  have b224 : ¬ (q 224=0) := gC1.2 a_4_75_143
                  exact tK_leafJ tK_r69 hσ hq h0 (tK_An (hF b12) (tK_An (hF b17) (tK_An (hF b22) (tK_An (hF b27) (tK_An (hF b32) (tK_An (hF b37) (tK_An (hF b104) (tK_An (hF b318) (tK_An (hT a_2_107_0) (tK_An (hF b112) (tK_An (hF b338) (tK_An (hF b117) (tK_An (hF b369) (tK_An (hF b127) (tK_An (hF b400) (tK_An (hF b137) (tK_An (hF b427) (tK_An (hF b432) (tK_An (hF b437) (tK_An (hF b442) (tK_An (hF b447) (tK_An (hF b452) (tK_An (hT b495) (tK_An (hF b234) (tK_An (hF b239) (tK_An (hF b244) (tK_An (hF b249) (tK_An (hF b254) (tK_An (hF b259) (tK_An (hT a_3_296_74) (tK_An (hT b298) (tK_An (hF a_4_75_143) (tK_An (hF b224) trivial))))))))))))))))))))))))))))))))) ⟨tab,mx⟩ (tK_memoJ1 hσ hq h0 (tK_An (hF b224) trivial) ⟨tab,mx⟩) hA
         ·
          by_cases b338 : q 338=0
          ·
           have gF12 := tK_F12 hq b22 b104 b338
           have b369 : ¬ (q 369=0) := gF12
           have gF13 := tK_F13 hq b32 b104 b338
           have b400 : ¬ (q 400=0) := gF13
           by_cases a_4_75_143 : q 75=q 143
           ·
            have gC1 := tK_C1 hq b27 b22
            have b224 : q 224=0 := gC1.1 a_4_75_143
            exact tK_leafJ tK_r70 hσ hq h0 (tK_An (hF b12) (tK_An (hF b17) (tK_An (hF b22) (tK_An (hF b27) (tK_An (hF b32) (tK_An (hF b37) (tK_An (hF b104) (tK_An (hF b318) (tK_An (hF a_2_107_0) (tK_An (hT b338) (tK_An (hF b369) (tK_An (hF b400) (tK_An (hT a_4_75_143) (tK_An (hT b224) trivial)))))))))))))) ⟨tab,mx⟩ (tK_memoJ0 hσ hq h0 (tK_An (hT b224) trivial) ⟨tab,mx⟩) hA
           ·
            have gC1 := tK_C1 hq b27 b22
            have b224 : ¬ (q 224=0) := gC1.2 a_4_75_143
            exact tK_leafJ tK_r71 hσ hq h0 (tK_An (hF b12) (tK_An (hF b17) (tK_An (hF b22) (tK_An (hF b27) (tK_An (hF b32) (tK_An (hF b37) (tK_An (hF b104) (tK_An (hF b318) (tK_An (hF a_2_107_0) (tK_An (hT b338) (tK_An (hF b369) (tK_An (hF b400) (tK_An (hF a_4_75_143) (tK_An (hF b224) trivial)))))))))))))) ⟨tab,mx⟩ (tK_memoJ1 hσ hq h0 (tK_An (hF b224) trivial) ⟨tab,mx⟩) hA
          ·
           by_cases b369 : q 369=0
           ·
            have gF23 := tK_F23 hq b37 b104 b369
            have b400 : ¬ (q 400=0) := gF23
            by_cases a_4_75_143 : q 75=q 143
            ·
             have gC1 := tK_C1 hq b27 b22
             have b224 : q 224=0 := gC1.1 a_4_75_143
             exact tK_leafJ tK_r72 hσ hq h0 (tK_An (hF b12) (tK_An (hF b17) (tK_An (hF b22) (tK_An (hF b27) (tK_An (hF b32) (tK_An (hF b37) (tK_An (hF b104) (tK_An (hF b318) (tK_An (hF a_2_107_0) (tK_An (hF b338) (tK_An (hT b369) (tK_An (hF b400) (tK_An (hT a_4_75_143) (tK_An (hT b224) trivial)))))))))))))) ⟨tab,mx⟩ (tK_memoJ0 hσ hq h0 (tK_An (hT b224) trivial) ⟨tab,mx⟩) hA
            ·
             have gC1 := tK_C1 hq b27 b22
             have b224 : ¬ (q 224=0) := gC1.2 a_4_75_143
             exact tK_leafJ tK_r73 hσ hq h0 (tK_An (hF b12) (tK_An (hF b17) (tK_An (hF b22) (tK_An (hF b27) (tK_An (hF b32) (tK_An (hF b37) (tK_An (hF b104) (tK_An (hF b318) (tK_An (hF a_2_107_0) (tK_An (hF b338) (tK_An (hT b369) (tK_An (hF b400) (tK_An (hF a_4_75_143) (tK_An (hF b224) trivial)))))))))))))) ⟨tab,mx⟩ (tK_memoJ1 hσ hq h0 (tK_An (hF b224) trivial) ⟨tab,mx⟩) hA
           ·
            by_cases b400 : q 400=0
            ·
             by_cases a_4_75_143 : q 75=q 143
             ·
              have gC1 := tK_C1 hq b27 b22
              have b224 : q 224=0 := gC1.1 a_4_75_143
              exact tK_leafJ tK_r74 hσ hq h0 (tK_An (hF b12) (tK_An (hF b17) (tK_An (hF b22) (tK_An (hF b27) (tK_An (hF b32) (tK_An (hF b37) (tK_An (hF b104) (tK_An (hF b318) (tK_An (hF a_2_107_0) (tK_An (hF b338) (tK_An (hF b369) (tK_An (hT b400) (tK_An (hT a_4_75_143) (tK_An (hT b224) trivial)))))))))))))) ⟨tab,mx⟩ (tK_memoJ0 hσ hq h0 (tK_An (hT b224) trivial) ⟨tab,mx⟩) hA
             ·
              have gC1 := tK_C1 hq b27 b22
              have b224 : ¬ (q 224=0) := gC1.2 a_4_75_143
              exact tK_leafJ tK_r75 hσ hq h0 (tK_An (hF b12) (tK_An (hF b17) (tK_An (hF b22) (tK_An (hF b27) (tK_An (hF b32) (tK_An (hF b37) (tK_An (hF b104) (tK_An (hF b318) (tK_An (hF a_2_107_0) (tK_An (hF b338) (tK_An (hF b369) (tK_An (hT b400) (tK_An (hF a_4_75_143) (tK_An (hF b224) trivial)))))))))))))) ⟨tab,mx⟩ (tK_memoJ1 hσ hq h0 (tK_An (hF b224) trivial) ⟨tab,mx⟩) hA
            ·
             have gA1 := tK_A1 hq b12 b17 b22 b27 b32 b37 b104 b318 b338 b369 b400
             have b427 : ¬ (q 427=0) := gA1.1
             have b432 : ¬ (q 432=0) := gA1.2.1
             have b437 : ¬ (q 437=0) := gA1.2.2.1
             have b442 : ¬ (q 442=0) := gA1.2.2.2.1
             have b447 : ¬ (q 447=0) := gA1.2.2.2.2.1
             have b452 : ¬ (q 452=0) := gA1.2.2.2.2.2.1
             have b495 : q 495=0 := gA1.2.2.2.2.2.2
             by_cases a_4_75_143 : q 75=q 143
             ·
              have gC1 := tK_C1 hq b27 b22
              have b224 : q 224=0 := gC1.1 a_4_75_143
              exact tK_leafJ tK_r76 hσ hq h0 (tK_An (hF b12) (tK_An (hF b17) (tK_An (hF b22) (tK_An (hF b27) (tK_An (hF b32) (tK_An (hF b37) (tK_An (hF b104) (tK_An (hF b318) (tK_An (hF a_2_107_0) (tK_An (hF b338) (tK_An (hF b369) (tK_An (hF b400) (tK_An (hF b427) (tK_An (hF b432) (tK_An (hF b437) (tK_An (hF b442) (tK_An (hF b447) (tK_An (hF b452) (tK_An (hT b495) (tK_An (hT a_4_75_143) (tK_An (hT b224) trivial))))))))))))))))))))) ⟨tab,mx⟩ (tK_memoJ0 hσ hq h0 (tK_An (hT b224) trivial) ⟨tab,mx⟩) hA
             ·
              have gC1 := tK_C1 hq b27 b22
              have b224 : ¬ (q 224=0) := gC1.2 a_4_75_143
              exact tK_leafJ tK_r77 hσ hq h0 (tK_An (hF b12) (tK_An (hF b17) (tK_An (hF b22) (tK_An (hF b27) (tK_An (hF b32) (tK_An (hF b37) (tK_An (hF b104) (tK_An (hF b318) (tK_An (hF a_2_107_0) (tK_An (hF b338) (tK_An (hF b369) (tK_An (hF b400) (tK_An (hF b427) (tK_An (hF b432) (tK_An (hF b437) (tK_An (hF b442) (tK_An (hF b447) (tK_An (hF b452) (tK_An (hT b495) (tK_An (hF a_4_75_143) (tK_An (hF b224) trivial))))))))))))))))))))) ⟨tab,mx⟩ (tK_memoJ1 hσ hq h0 (tK_An (hF b224) trivial) ⟨tab,mx⟩) hA
end Go.Proofs.YtibifijaanjekaaGreatDoor
