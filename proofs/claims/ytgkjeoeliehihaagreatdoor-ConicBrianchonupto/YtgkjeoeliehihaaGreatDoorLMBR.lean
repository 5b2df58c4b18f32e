/- The law, over its runs. -/
import Derived.Test.YtgkjeoeliehihaaGreatDoorLMBRB1
import Derived.Test.YtgkjeoeliehihaaGreatDoorLMBRB2
import Derived.Test.YtgkjeoeliehihaaGreatDoorLMBRB3
import Derived.Test.YtgkjeoeliehihaaGreatDoorLMBRB4
import Derived.Test.YtgkjeoeliehihaaGreatDoorLMBRB5
import Derived.Test.YtgkjeoeliehihaaGreatDoorLMBRB6
set_option maxHeartbeats 16000000
set_option maxRecDepth 100000
namespace Go.Proofs.YtgkjeoeliehihaaGreatDoor
open Go.RowKit Cx
variable {q : Nat→Rat} {σ : Nat→ByteArray}
theorem bR_An {a b : Prop} (x : a) (y : b) : a∧b := ⟨x,y⟩
theorem bR_leaf {M : Memo} {H : List (Nat × Nat × Nat × Nat)} {K : List (FuncId × List AC)} {k : Nat} {q : Nat→Rat} {σ : Nat→ByteArray} {args : List AV} {vs : List Value} {w : World} (hr : (callD (sx Tryz.prog bR_N H K bR_L bR_C bR_Z (prC [6])) bR_cs M k [] 3 args [] 0).map (·.1)=some (kB true)) (hσ : ∀ j,(σ j).size≤1048576) (hq : ∀ (a : Nat) nd,bR_N[a]? = some nd→q a=valN σ q nd) (h0 : ∀ a,bR_N.length≤a→q a=0) (hH : hAll q H) (hp : PreS w) (hM : MemoAll bR_N bR_L bR_C bR_Z q σ [6] w M) (hA : ∀ K,A2 (avOn (cOn (evS q σ) K (fun _ => none) w)) args vs) : Calls Tryz.prog 3 vs.toArray w fun e w' => Below w.heap.size w w'∧e=.returned (.bool true) :=
 run_toldD' k (hy_ofA hσ bR_wf bR_sz bR_lt bR_cn hq h0 hH) (by simp [closed_coned]) (by kernel_rfl) hp hM hr (hA K)
theorem bR_leafC {H : List (Nat × Nat × Nat × Nat)} {K : List (FuncId × List AC)} {k : Nat} {q : Nat→Rat} {σ : Nat→ByteArray} {args : List AV} {vs : List Value} {w : World} (hr : (callC (sx Tryz.prog bR_N H K bR_L bR_C bR_Z (prC [6])) bR_cs k [] 3 args [] 0).map (·.1)=some (kB true)) (hσ : ∀ j,(σ j).size≤1048576) (hq : ∀ (a : Nat) nd,bR_N[a]? = some nd→q a=valN σ q nd) (h0 : ∀ a,bR_N.length≤a→q a=0) (hH : hAll q H) (hp : PreS w) (hA : ∀ K,A2 (avOn (cOn (evS q σ) K (fun _ => none) w)) args vs) : Calls Tryz.prog 3 vs.toArray w fun e w' => Below w.heap.size w w'∧e=.returned (.bool true) :=
 run_toldC' k (hy_ofA hσ bR_wf bR_sz bR_lt bR_cn hq h0 hH) (by simp [closed_coned]) (by kernel_rfl) hr hp (hA K)
theorem bR_walk0 {w : World} {ka kb kc kd ke kf ux uz vax vaz vbx vbz vcx vcz vdx vdz vex vez y0 y1 : ByteArray} (ska : ka.size≤1048576) (skb : kb.size≤1048576) (skc : kc.size≤1048576) (skd : kd.size≤1048576) (ske : ke.size≤1048576) (skf : kf.size≤1048576) (sux : ux.size≤1048576) (suz : uz.size≤1048576) (svax : vax.size≤1048576) (svaz : vaz.size≤1048576) (svbx : vbx.size≤1048576) (svbz : vbz.size≤1048576) (svcx : vcx.size≤1048576) (svcz : vcz.size≤1048576) (svdx : vdx.size≤1048576) (svdz : vdz.size≤1048576) (svex : vex.size≤1048576) (svez : vez.size≤1048576) (sy0 : y0.size≤1048576) (sy1 : y1.size≤1048576) (tab : Tab w) (mx : MaxL w) {q : Nat→Rat} (hq : ∀ (a : Nat) nd,bR_N[a]? = some nd→q a=valN (sgOf [ka,kb,kc,kd,ke,kf,ux,uz,vax,vaz,vbx,vbz,vcx,vcz,vdx,vdz,vex,vez,y0,y1]) q nd) (h0 : ∀ a,bR_N.length≤a→q a=0) (hK : MemoAll bR_N bR_L bR_C bR_Z q (sgOf [ka,kb,kc,kd,ke,kf,ux,uz,vax,vaz,vbx,vbz,vcx,vcz,vdx,vdz,vex,vez,y0,y1]) [6] w [bR_O]) (hE : ¬ (q 14=0)→q 318=0) (hD : ¬ (q 14=0)→¬ (q 320=0)→¬ (q 322=0)→¬ (q 33=0)) :
  Calls Tryz.prog 3 #[.agg #[.string ka,.string kb,.string kc,.string kd,.string ke,.string kf],.agg #[.string ux,.string uz],.agg #[.string vax,.string vaz,.string vbx,.string vbz,.string vcx,.string vcz,.string vdx,.string vdz,.string vex,.string vez]] w fun e w' => Below w.heap.size w w'∧e=.returned (.bool true) := by
 have hσ : ∀ j,(sgOf [ka,kb,kc,kd,ke,kf,ux,uz,vax,vaz,vbx,vbz,vcx,vcz,vdx,vdz,vex,vez,y0,y1] j).size≤1048576 := sgOf_size (by simp [ska,skb,skc,skd,ske,skf,sux,suz,svax,svaz,svbx,svbz,svcx,svcz,svdx,svdz,svex,svez,sy0,sy1])
 have hA : ∀ K,A2 (avOn (cOn (evS q (sgOf [ka,kb,kc,kd,ke,kf,ux,uz,vax,vaz,vbx,vbz,vcx,vcz,vdx,vdz,vex,vez,y0,y1])) K (fun _ => none) w)) [(false,[(true,[.inr (2,0,0,0,0),.inr (2,1,0,0,0),.inr (2,2,0,0,0),.inr (2,3,0,0,0),.inr (2,4,0,0,0),.inr (2,5,0,0,0)])]),(false,[(true,[.inr (2,6,0,0,0),.inr (2,7,0,0,0)])]),(false,[(true,[.inr (2,8,0,0,0),.inr (2,9,0,0,0),.inr (2,10,0,0,0),.inr (2,11,0,0,0),.inr (2,12,0,0,0),.inr (2,13,0,0,0),.inr (2,14,0,0,0),.inr (2,15,0,0,0),.inr (2,16,0,0,0),.inr (2,17,0,0,0)])])] [.agg #[.string ka,.string kb,.string kc,.string kd,.string ke,.string kf],.agg #[.string ux,.string uz],.agg #[.string vax,.string vaz,.string vbx,.string vbz,.string vcx,.string vcz,.string vdx,.string vdz,.string vex,.string vez]] := fun K => ⟨⟨⟨[.string ka,.string kb,.string kc,.string kd,.string ke,.string kf],rfl,rfl,rfl,rfl,rfl,rfl,rfl,trivial⟩,trivial⟩,⟨⟨[.string ux,.string uz],rfl,rfl,rfl,trivial⟩,trivial⟩,⟨⟨[.string vax,.string vaz,.string vbx,.string vbz,.string vcx,.string vcz,.string vdx,.string vdz,.string vex,.string vez],rfl,rfl,rfl,rfl,rfl,rfl,rfl,rfl,rfl,rfl,rfl,trivial⟩,trivial⟩,trivial⟩
 have tm : PreS w := ⟨tab,mx⟩
 have mm := memo_app hK (bR_memoG hσ hq h0 tm)
 by_cases b14 : q 14=0
 ·
  exact bR_leaf bR_r0 hσ hq h0 (bR_An (hT b14) trivial) tm mm hA
 ·
  by_cases b40 : q 40=0
  ·
   exact bR_leaf bR_r1 hσ hq h0 (bR_An (hF b14) (bR_An (hT b40) trivial)) tm mm hA
  ·
   by_cases b67 : q 67=0
   ·
    by_cases b104 : q 104=0
    ·
     by_cases b98 : q 98=0
     ·
      exact bR_leaf bR_r2 hσ hq h0 (bR_An (hF b14) (bR_An (hF b40) (bR_An (hT b67) (bR_An (hT b104) (bR_An (hT b98) trivial))))) tm mm hA
     ·
      exact bR_leaf bR_r3 hσ hq h0 (bR_An (hF b14) (bR_An (hF b40) (bR_An (hT b67) (bR_An (hT b104) (bR_An (hF b98) trivial))))) tm mm hA
    ·
     by_cases b115 : q 115=0
     ·
      exact bR_leaf bR_r4 hσ hq h0 (bR_An (hF b14) (bR_An (hF b40) (bR_An (hT b67) (bR_An (hF b104) (bR_An (hT b115) trivial))))) tm mm hA
     ·
      by_cases b142 : q 142=0
      ·
       by_cases b136 : q 136=0
       ·
        exact bR_leaf bR_r5 hσ hq h0 (bR_An (hF b14) (bR_An (hF b40) (bR_An (hT b67) (bR_An (hF b104) (bR_An (hF b115) (bR_An (hT b142) (bR_An (hT b136) trivial))))))) tm mm hA
       ·
        exact bR_leaf bR_r6 hσ hq h0 (bR_An (hF b14) (bR_An (hF b40) (bR_An (hT b67) (bR_An (hF b104) (bR_An (hF b115) (bR_An (hT b142) (bR_An (hF b136) trivial))))))) tm mm hA
      ·
       by_cases b153 : q 153=0
       ·
        exact bR_leaf bR_r7 hσ hq h0 (bR_An (hF b14) (bR_An (hF b40) (bR_An (hT b67) (bR_An (hF b104) (bR_An (hF b115) (bR_An (hF b142) (bR_An (hT b153) trivial))))))) tm mm hA
       ·
        by_cases b180 : q 180=0
        ·
         by_cases b174 : q 174=0
         ·
          exact bR_leaf bR_r8 hσ hq h0 (bR_An (hF b14) (bR_An (hF b40) (bR_An (hT b67) (bR_An (hF b104) (bR_An (hF b115) (bR_An (hF b142) (bR_An (hF b153) (bR_An (hT b180) (bR_An (hT b174) trivial))))))))) tm mm hA
         ·
          exact bR_leaf bR_r9 hσ hq h0 (bR_An (hF b14) (bR_An (hF b40) (bR_An (hT b67) (bR_An (hF b104) (bR_An (hF b115) (bR_An (hF b142) (bR_An (hF b153) (bR_An (hT b180) (bR_An (hF b174) trivial))))))))) tm mm hA
        ·
         by_cases b191 : q 191=0
         ·
          exact bR_leaf bR_r10 hσ hq h0 (bR_An (hF b14) (bR_An (hF b40) (bR_An (hT b67) (bR_An (hF b104) (bR_An (hF b115) (bR_An (hF b142) (bR_An (hF b153) (bR_An (hF b180) (bR_An (hT b191) trivial))))))))) tm mm hA
         ·
          by_cases b218 : q 218=0
          ·
           by_cases b212 : q 212=0
           ·
            exact bR_leaf bR_r11 hσ hq h0 (bR_An (hF b14) (bR_An (hF b40) (bR_An (hT b67) (bR_An (hF b104) (bR_An (hF b115) (bR_An (hF b142) (bR_An (hF b153) (bR_An (hF b180) (bR_An (hF b191) (bR_An (hT b218) (bR_An (hT b212) trivial))))))))))) tm mm hA
           ·
            exact bR_leaf bR_r12 hσ hq h0 (bR_An (hF b14) (bR_An (hF b40) (bR_An (hT b67) (bR_An (hF b104) (bR_An (hF b115) (bR_An (hF b142) (bR_An (hF b153) (bR_An (hF b180) (bR_An (hF b191) (bR_An (hT b218) (bR_An (hF b212) trivial))))))))))) tm mm hA
          ·
           by_cases b229 : q 229=0
           ·
            exact bR_leaf bR_r13 hσ hq h0 (bR_An (hF b14) (bR_An (hF b40) (bR_An (hT b67) (bR_An (hF b104) (bR_An (hF b115) (bR_An (hF b142) (bR_An (hF b153) (bR_An (hF b180) (bR_An (hF b191) (bR_An (hF b218) (bR_An (hT b229) trivial))))))))))) tm mm hA
           ·
            by_cases b256 : q 256=0
            ·
             by_cases b250 : q 250=0
             ·
              exact bR_leaf bR_r14 hσ hq h0 (bR_An (hF b14) (bR_An (hF b40) (bR_An (hT b67) (bR_An (hF b104) (bR_An (hF b115) (bR_An (hF b142) (bR_An (hF b153) (bR_An (hF b180) (bR_An (hF b191) (bR_An (hF b218) (bR_An (hF b229) (bR_An (hT b256) (bR_An (hT b250) trivial))))))))))))) tm mm hA
             ·
              exact bR_leaf bR_r15 hσ hq h0 (bR_An (hF b14) (bR_An (hF b40) (bR_An (hT b67) (bR_An (hF b104) (bR_An (hF b115) (bR_An (hF b142) (bR_An (hF b153) (bR_An (hF b180) (bR_An (hF b191) (bR_An (hF b218) (bR_An (hF b229) (bR_An (hT b256) (bR_An (hF b250) trivial))))))))))))) tm mm hA
            ·
             by_cases b263 : q 263=0
             ·
              exact bR_leaf bR_r16 hσ hq h0 (bR_An (hF b14) (bR_An (hF b40) (bR_An (hT b67) (bR_An (hF b104) (bR_An (hF b115) (bR_An (hF b142) (bR_An (hF b153) (bR_An (hF b180) (bR_An (hF b191) (bR_An (hF b218) (bR_An (hF b229) (bR_An (hF b256) (bR_An (hT b263) trivial))))))))))))) tm mm hA
             ·
              by_cases b264 : q 264=0
              ·
               exact bR_leaf bR_r17 hσ hq h0 (bR_An (hF b14) (bR_An (hF b40) (bR_An (hT b67) (bR_An (hF b104) (bR_An (hF b115) (bR_An (hF b142) (bR_An (hF b153) (bR_An (hF b180) (bR_An (hF b191) (bR_An (hF b218) (bR_An (hF b229) (bR_An (hF b256) (bR_An (hF b263) (bR_An (hT b264) trivial)))))))))))))) tm mm hA
              ·
               by_cases b269 : q 269=0
               ·
                exact bR_leaf bR_r18 hσ hq h0 (bR_An (hF b14) (bR_An (hF b40) (bR_An (hT b67) (bR_An (hF b104) (bR_An (hF b115) (bR_An (hF b142) (bR_An (hF b153) (bR_An (hF b180) (bR_An (hF b191) (bR_An (hF b218) (bR_An (hF b229) (bR_An (hF b256) (bR_An (hF b263) (bR_An (hF b264) (bR_An (hT b269) trivial))))))))))))))) tm mm hA
               ·
                by_cases b270 : q 270=0
                ·
                 exact bR_leaf bR_r19 hσ hq h0 (bR_An (hF b14) (bR_An (hF b40) (bR_An (hT b67) (bR_An (hF b104) (bR_An (hF b115) (bR_An (hF b142) (bR_An (hF b153) (bR_An (hF b180) (bR_An (hF b191) (bR_An (hF b218) (bR_An (hF b229) (bR_An (hF b256) (bR_An (hF b263) (bR_An (hF b264) (bR_An (hF b269) (bR_An (hT b270) trivial)))))))))))))))) tm mm hA
                ·
                 by_cases b275 : q 275=0
                 ·
                  exact bR_leaf bR_r20 hσ hq h0 (bR_An (hF b14) (bR_An (hF b40) (bR_An (hT b67) (bR_An (hF b104) (bR_An (hF b115) (bR_An (hF b142) (bR_An (hF b153) (bR_An (hF b180) (bR_An (hF b191) (bR_An (hF b218) (bR_An (hF b229) (bR_An (hF b256) (bR_An (hF b263) (bR_An (hF b264) (bR_An (hF b269) (bR_An (hF b270) (bR_An (hT b275) trivial))))))))))))))))) tm mm hA
                 ·
                  by_cases b280 : q 280=0
                  ·
                   exact bR_leaf bR_r21 hσ hq h0 (bR_An (hF b14) (bR_An (hF b40) (bR_An (hT b67) (bR_An (hF b104) (bR_An (hF b115) (bR_An (hF b142) (bR_An (hF b153) (bR_An (hF b180) (bR_An (hF b191) (bR_An (hF b218) (bR_An (hF b229) (bR_An (hF b256) (bR_An (hF b263) (bR_An (hF b264) (bR_An (hF b269) (bR_An (hF b270) (bR_An (hF b275) (bR_An (hT b280) trivial)))))))))))))))))) tm mm hA
                  ·
                   by_cases b281 : q 281=0
                   ·
                    exact bR_leaf bR_r22 hσ hq h0 (bR_An (hF b14) (bR_An (hF b40) (bR_An (hT b67) (bR_An (hF b104) (bR_An (hF b115) (bR_An (hF b142) (bR_An (hF b153) (bR_An (hF b180) (bR_An (hF b191) (bR_An (hF b218) (bR_An (hF b229) (bR_An (hF b256) (bR_An (hF b263) (bR_An (hF b264) (bR_An (hF b269) (bR_An (hF b270) (bR_An (hF b275) (bR_An (hF b280) (bR_An (hT b281) trivial))))))))))))))))))) tm mm hA
                   ·
                    by_cases b286 : q 286=0
                    ·
                     exact bR_leaf bR_r23 hσ hq h0 (bR_An (hF b14) (bR_An (hF b40) (bR_An (hT b67) (bR_An (hF b104) (bR_An (hF b115) (bR_An (hF b142) (bR_An (hF b153) (bR_An (hF b180) (bR_An (hF b191) (bR_An (hF b218) (bR_An (hF b229) (bR_An (hF b256) (bR_An (hF b263) (bR_An (hF b264) (bR_An (hF b269) (bR_An (hF b270) (bR_An (hF b275) (bR_An (hF b280) (bR_An (hF b281) (bR_An (hT b286) trivial)))))))))))))))))))) tm mm hA
                    ·
                     by_cases b291 : q 291=0
                     ·
                      exact bR_leaf bR_r24 hσ hq h0 (bR_An (hF b14) (bR_An (hF b40) (bR_An (hT b67) (bR_An (hF b104) (bR_An (hF b115) (bR_An (hF b142) (bR_An (hF b153) (bR_An (hF b180) (bR_An (hF b191) (bR_An (hF b218) (bR_An (hF b229) (bR_An (hF b256) (bR_An (hF b263) (bR_An (hF b264) (bR_An (hF b269) (bR_An (hF b270) (bR_An (hF b275) (bR_An (hF b280) (bR_An (hF b281) (bR_An (hF b286) (bR_An (hT b291) trivial))))))))))))))))))))) tm mm hA
                     ·
                      by_cases b296 : q 296=0
                      ·
                       exact bR_leaf bR_r25 hσ hq h0 (bR_An (hF b14) (bR_An (hF b40) (bR_An (hT b67) (bR_An (hF b104) (bR_An (hF b115) (bR_An (hF b142) (bR_An (hF b153) (bR_An (hF b180) (bR_An (hF b191) (bR_An (hF b218) (bR_An (hF b229) (bR_An (hF b256) (bR_An (hF b263) (bR_An (hF b264) (bR_An (hF b269) (bR_An (hF b270) (bR_An (hF b275) (bR_An (hF b280) (bR_An (hF b281) (bR_An (hF b286) (bR_An (hF b291) (bR_An (hT b296) trivial)))))))))))))))))))))) tm mm hA
                      ·
                       by_cases b297 : q 297=0
                       ·
                        exact bR_leaf bR_r26 hσ hq h0 (bR_An (hF b14) (bR_An (hF b40) (bR_An (hT b67) (bR_An (hF b104) (bR_An (hF b115) (bR_An (hF b142) (bR_An (hF b153) (bR_An (hF b180) (bR_An (hF b191) (bR_An (hF b218) (bR_An (hF b229) (bR_An (hF b256) (bR_An (hF b263) (bR_An (hF b264) (bR_An (hF b269) (bR_An (hF b270) (bR_An (hF b275) (bR_An (hF b280) (bR_An (hF b281) (bR_An (hF b286) (bR_An (hF b291) (bR_An (hF b296) (bR_An (hT b297) trivial))))))))))))))))))))))) tm mm hA
                       ·
                        by_cases b302 : q 302=0
                        ·
                         exact bR_leaf bR_r27 hσ hq h0 (bR_An (hF b14) (bR_An (hF b40) (bR_An (hT b67) (bR_An (hF b104) (bR_An (hF b115) (bR_An (hF b142) (bR_An (hF b153) (bR_An (hF b180) (bR_An (hF b191) (bR_An (hF b218) (bR_An (hF b229) (bR_An (hF b256) (bR_An (hF b263) (bR_An (hF b264) (bR_An (hF b269) (bR_An (hF b270) (bR_An (hF b275) (bR_An (hF b280) (bR_An (hF b281) (bR_An (hF b286) (bR_An (hF b291) (bR_An (hF b296) (bR_An (hF b297) (bR_An (hT b302) trivial)))))))))))))))))))))))) tm mm hA
                        ·
                         by_cases b307 : q 307=0
                         ·
                          exact bR_leaf bR_r28 hσ hq h0 (bR_An (hF b14) (bR_An (hF b40) (bR_An (hT b67) (bR_An (hF b104) (bR_An (hF b115) (bR_An (hF b142) (bR_An (hF b153) (bR_An (hF b180) (bR_An (hF b191) (bR_An (hF b218) (bR_An (hF b229) (bR_An (hF b256) (bR_An (hF b263) (bR_An (hF b264) (bR_An (hF b269) (bR_An (hF b270) (bR_An (hF b275) (bR_An (hF b280) (bR_An (hF b281) (bR_An (hF b286) (bR_An (hF b291) (bR_An (hF b296) (bR_An (hF b297) (bR_An (hF b302) (bR_An (hT b307) trivial))))))))))))))))))))))))) tm mm hA
                         ·
                          by_cases b312 : q 312=0
                          ·
                           exact bR_leaf bR_r29 hσ hq h0 (bR_An (hF b14) (bR_An (hF b40) (bR_An (hT b67) (bR_An (hF b104) (bR_An (hF b115) (bR_An (hF b142) (bR_An (hF b153) (bR_An (hF b180) (bR_An (hF b191) (bR_An (hF b218) (bR_An (hF b229) (bR_An (hF b256) (bR_An (hF b263) (bR_An (hF b264) (bR_An (hF b269) (bR_An (hF b270) (bR_An (hF b275) (bR_An (hF b280) (bR_An (hF b281) (bR_An (hF b286) (bR_An (hF b291) (bR_An (hF b296) (bR_An (hF b297) (bR_An (hF b302) (bR_An (hF b307) (bR_An (hT b312) trivial)))))))))))))))))))))))))) tm mm hA
                          ·
                           by_cases b317 : q 317=0
                           ·
                            exact bR_leaf bR_r30 hσ hq h0 (bR_An (hF b14) (bR_An (hF b40) (bR_An (hT b67) (bR_An (hF b104) (bR_An (hF b115) (bR_An (hF b142) (bR_An (hF b153) (bR_An (hF b180) (bR_An (hF b191) (bR_An (hF b218) (bR_An (hF b229) (bR_An (hF b256) (bR_An (hF b263) (bR_An (hF b264) (bR_An (hF b269) (bR_An (hF b270) (bR_An (hF b275) (bR_An (hF b280) (bR_An (hF b281) (bR_An (hF b286) (bR_An (hF b291) (bR_An (hF b296) (bR_An (hF b297) (bR_An (hF b302) (bR_An (hF b307) (bR_An (hF b312) (bR_An (hT b317) trivial))))))))))))))))))))))))))) tm mm hA
                           ·
                            have ge := hE b14
                            have b318 : q 318=0 := ge
                            by_cases b320 : q 320=0
                            ·
                             exact bR_leaf bR_r31 hσ hq h0 (bR_An (hF b14) (bR_An (hF b40) (bR_An (hT b67) (bR_An (hF b104) (bR_An (hF b115) (bR_An (hF b142) (bR_An (hF b153) (bR_An (hF b180) (bR_An (hF b191) (bR_An (hF b218) (bR_An (hF b229) (bR_An (hF b256) (bR_An (hF b263) (bR_An (hF b264) (bR_An (hF b269) (bR_An (hF b270) (bR_An (hF b275) (bR_An (hF b280) (bR_An (hF b281) (bR_An (hF b286) (bR_An (hF b291) (bR_An (hF b296) (bR_An (hF b297) (bR_An (hF b302) (bR_An (hF b307) (bR_An (hF b312) (bR_An (hF b317) (bR_An (hT b318) (bR_An (hT b320) trivial))))))))))))))))))))))))))))) tm mm hA
                            ·
                             by_cases b322 : q 322=0
                             ·
                              exact bR_leaf bR_r32 hσ hq h0 (bR_An (hF b14) (bR_An (hF b40) (bR_An (hT b67) (bR_An (hF b104) (bR_An (hF b115) (bR_An (hF b142) (bR_An (hF b153) (bR_An (hF b180) (bR_An (hF b191) (bR_An (hF b218) (bR_An (hF b229) (bR_An (hF b256) (bR_An (hF b263) (bR_An (hF b264) (bR_An (hF b269) (bR_An (hF b270) (bR_An (hF b275) (bR_An (hF b280) (bR_An (hF b281) (bR_An (hF b286) (bR_An (hF b291) (bR_An (hF b296) (bR_An (hF b297) (bR_An (hF b302) (bR_An (hF b307) (bR_An (hF b312) (bR_An (hF b317) (bR_An (hT b318) (bR_An (hF b320) (bR_An (hT b322) trivial)))))))))))))))))))))))))))))) tm mm hA
                             ·
                              have gG0 := bR_pG0 hq b67 (hD b14 b320 b322)
                              have b325 : ¬ (q 325=0) := gG0
                              have gO1 := (bR_pO1 hq).trans (bR_pK1 hq b67 b104)
                              have b349 : q 349=0 := gO1
                              have gG1 := bR_pG1 hq b67 b104 (hD b14 b320 b322)
                              have b357 : ¬ (q 357=0) := gG1
                              have gO2 := (bR_pO2 hq).trans (bR_pK2 hq b67 b142)
                              have b381 : q 381=0 := gO2
                              have gG2 := bR_pG2 hq b67 b142 (hD b14 b320 b322)
                              have b389 : ¬ (q 389=0) := gG2
                              have gO3 := (bR_pO3 hq).trans (bR_pK3 hq b67 b180)
                              have b413 : q 413=0 := gO3
                              have gG3 := bR_pG3 hq b67 b180 (hD b14 b320 b322)
                              have b421 : ¬ (q 421=0) := gG3
                              have gO4 := (bR_pO4 hq).trans (bR_pK4 hq b67 b218)
                              have b445 : q 445=0 := gO4
                              have gG4 := bR_pG4 hq b67 b218 (hD b14 b320 b322)
                              have b453 : ¬ (q 453=0) := gG4
                              have gO5 := (bR_pO5 hq).trans (bR_pK5 hq b67 b256)
                              have b477 : q 477=0 := gO5
                              have gG5 := bR_pG5 hq b67 b256 (hD b14 b320 b322)
                              have b485 : ¬ (q 485=0) := gG5
                              have gl0 := bR_pl0 hq b325
                              have b491 : ¬ (q 491=0) := gl0
                              have gl1 := bR_pl1 hq b357
                              have b494 : ¬ (q 494=0) := gl1
                              by_cases b497 : q 497=0
                              ·
                               by_cases b650 : q 650=0
                               ·
                                have hH : hAll q bR_H33 := (bR_An (hF b14) (bR_An (hF b40) (bR_An (hT b67) (bR_An (hF b104) (bR_An (hF b115) (bR_An (hF b142) (bR_An (hF b153) (bR_An (hF b180) (bR_An (hF b191) (bR_An (hF b218) (bR_An (hF b229) (bR_An (hF b256) (bR_An (hF b263) (bR_An (hF b264) (bR_An (hF b269) (bR_An (hF b270) (bR_An (hF b275) (bR_An (hF b280) (bR_An (hF b281) (bR_An (hF b286) (bR_An (hF b291) (bR_An (hF b296) (bR_An (hF b297) (bR_An (hF b302) (bR_An (hF b307) (bR_An (hF b312) (bR_An (hF b317) (bR_An (hT b318) (bR_An (hF b320) (bR_An (hF b322) (bR_An (hF b325) (bR_An (hT b349) (bR_An (hF b357) (bR_An (hT b381) (bR_An (hF b389) (bR_An (hT b413) (bR_An (hF b421) (bR_An (hT b445) (bR_An (hF b453) (bR_An (hT b477) (bR_An (hF b485) (bR_An (hF b491) (bR_An (hF b494) (bR_An (hT b497) (bR_An (hT b650) trivial)))))))))))))))))))))))))))))))))))))))))))))
                                exact bR_leaf bR_r33 hσ hq h0 hH ⟨tab,mx⟩ (bR_memo33 hσ hq h0 hH ⟨tab,mx⟩ hK) hA
                               ·
                                have hH : hAll q bR_H34 := (bR_An (hF b14) (bR_An (hF b40) (bR_An (hT b67) (bR_An (hF b104) (bR_An (hF b115) (bR_An (hF b142) (bR_An (hF b153) (bR_An (hF b180) (bR_An (hF b191) (bR_An (hF b218) (bR_An (hF b229) (bR_An (hF b256) (bR_An (hF b263) (bR_An (hF b264) (bR_An (hF b269) (bR_An (hF b270) (bR_An (hF b275) (bR_An (hF b280) (bR_An (hF b281) (bR_An (hF b286) (bR_An (hF b291) (bR_An (hF b296) (bR_An (hF b297) (bR_An (hF b302) (bR_An (hF b307) (bR_An (hF b312) (bR_An (hF b317) (bR_An (hT b318) (bR_An (hF b320) (bR_An (hF b322) (bR_An (hF b325) (bR_An (hT b349) (bR_An (hF b357) (bR_An (hT b381) (bR_An (hF b389) (bR_An (hT b413) (bR_An (hF b421) (bR_An (hT b445) (bR_An (hF b453) (bR_An (hT b477) (bR_An (hF b485) (bR_An (hF b491) (bR_An (hF b494) (bR_An (hT b497) (bR_An (hF b650) trivial)))))))))))))))))))))))))))))))))))))))))))))
                                exact bR_leaf bR_r34 hσ hq h0 hH ⟨tab,mx⟩ (bR_memo34 hσ hq h0 hH ⟨tab,mx⟩ hK) hA
                              ·
                               have gl2 := bR_pl2 hq b389
                               have b509 : ¬ (q 509=0) := gl2
                               by_cases b512 : q 512=0
                               ·
                                have gb1 := fun k => (bR_pN12 hq b269) (tan_one (bR_pT1 hq) (bR_pT2 hq) (bR_pd hq (hD b14 b320 b322)) (bR_pL1 hq b357) (bR_pL2 hq b389) ((pol hq [] 3 512 (.S (.M (.v 358) (.v 391)) (.M (.v 359) (.v 390))) (by kernel_rfl)).symm.trans b512) ((pol hq [] 3 517 (.S (.M (.v 390) (.v 360)) (.M (.v 358) (.v 392))) (by kernel_rfl)).symm.trans ((sq2 (hq 645 _ rfl) (hq 646 _ rfl) (hq 647 _ rfl)).1 k).1) ((pol hq [] 3 518 (.S (.M (.v 391) (.v 360)) (.M (.v 359) (.v 392))) (by kernel_rfl)).symm.trans ((sq2 (hq 645 _ rfl) (hq 646 _ rfl) (hq 647 _ rfl)).1 k).2))
                                have b647 : ¬ (q 647=0) := gb1
                                have hH : hAll q bR_H35 := (bR_An (hF b14) (bR_An (hF b40) (bR_An (hT b67) (bR_An (hF b104) (bR_An (hF b115) (bR_An (hF b142) (bR_An (hF b153) (bR_An (hF b180) (bR_An (hF b191) (bR_An (hF b218) (bR_An (hF b229) (bR_An (hF b256) (bR_An (hF b263) (bR_An (hF b264) (bR_An (hF b269) (bR_An (hF b270) (bR_An (hF b275) (bR_An (hF b280) (bR_An (hF b281) (bR_An (hF b286) (bR_An (hF b291) (bR_An (hF b296) (bR_An (hF b297) (bR_An (hF b302) (bR_An (hF b307) (bR_An (hF b312) (bR_An (hF b317) (bR_An (hT b318) (bR_An (hF b320) (bR_An (hF b322) (bR_An (hF b325) (bR_An (hT b349) (bR_An (hF b357) (bR_An (hT b381) (bR_An (hF b389) (bR_An (hT b413) (bR_An (hF b421) (bR_An (hT b445) (bR_An (hF b453) (bR_An (hT b477) (bR_An (hF b485) (bR_An (hF b491) (bR_An (hF b494) (bR_An (hF b497) (bR_An (hF b509) (bR_An (hT b512) (bR_An (hF b647) trivial)))))))))))))))))))))))))))))))))))))))))))))))
                                exact bR_leaf bR_r35 hσ hq h0 hH ⟨tab,mx⟩ (bR_memo35 hσ hq h0 hH ⟨tab,mx⟩ hK) hA
                               ·
                                have gl3 := bR_pl3 hq b421
                                have b524 : ¬ (q 524=0) := gl3
                                by_cases b527 : q 527=0
                                ·
                                 have gb2 := fun k => (bR_pN23 hq b280) (tan_one (bR_pT2 hq) (bR_pT3 hq) (bR_pd hq (hD b14 b320 b322)) (bR_pL2 hq b389) (bR_pL3 hq b421) ((pol hq [] 3 527 (.S (.M (.v 390) (.v 423)) (.M (.v 391) (.v 422))) (by kernel_rfl)).symm.trans b527) ((pol hq [] 3 532 (.S (.M (.v 422) (.v 392)) (.M (.v 390) (.v 424))) (by kernel_rfl)).symm.trans ((sq2 (hq 642 _ rfl) (hq 643 _ rfl) (hq 644 _ rfl)).1 k).1) ((pol hq [] 3 533 (.S (.M (.v 423) (.v 392)) (.M (.v 391) (.v 424))) (by kernel_rfl)).symm.trans ((sq2 (hq 642 _ rfl) (hq 643 _ rfl) (hq 644 _ rfl)).1 k).2))
                                 have b644 : ¬ (q 644=0) := gb2
                                 have hH : hAll q bR_H36 := (bR_An (hF b14) (bR_An (hF b40) (bR_An (hT b67) (bR_An (hF b104) (bR_An (hF b115) (bR_An (hF b142) (bR_An (hF b153) (bR_An (hF b180) (bR_An (hF b191) (bR_An (hF b218) (bR_An (hF b229) (bR_An (hF b256) (bR_An (hF b263) (bR_An (hF b264) (bR_An (hF b269) (bR_An (hF b270) (bR_An (hF b275) (bR_An (hF b280) (bR_An (hF b281) (bR_An (hF b286) (bR_An (hF b291) (bR_An (hF b296) (bR_An (hF b297) (bR_An (hF b302) (bR_An (hF b307) (bR_An (hF b312) (bR_An (hF b317) (bR_An (hT b318) (bR_An (hF b320) (bR_An (hF b322) (bR_An (hF b325) (bR_An (hT b349) (bR_An (hF b357) (bR_An (hT b381) (bR_An (hF b389) (bR_An (hT b413) (bR_An (hF b421) (bR_An (hT b445) (bR_An (hF b453) (bR_An (hT b477) (bR_An (hF b485) (bR_An (hF b491) (bR_An (hF b494) (bR_An (hF b497) (bR_An (hF b509) (bR_An (hF b512) (bR_An (hF b524) (bR_An (hT b527) (bR_An (hF b644) trivial)))))))))))))))))))))))))))))))))))))))))))))))))
                                 exact bR_leaf bR_r36 hσ hq h0 hH ⟨tab,mx⟩ (bR_memo36 hσ hq h0 hH ⟨tab,mx⟩ hK) hA
                                ·
                                 have gl4 := bR_pl4 hq b453
                                 have b539 : ¬ (q 539=0) := gl4
                                 by_cases b542 : q 542=0
                                 ·
                                  have gb3 := fun k => (bR_pN34 hq b296) (tan_one (bR_pT3 hq) (bR_pT4 hq) (bR_pd hq (hD b14 b320 b322)) (bR_pL3 hq b421) (bR_pL4 hq b453) ((pol hq [] 3 542 (.S (.M (.v 422) (.v 455)) (.M (.v 423) (.v 454))) (by kernel_rfl)).symm.trans b542) ((pol hq [] 3 547 (.S (.M (.v 454) (.v 424)) (.M (.v 422) (.v 456))) (by kernel_rfl)).symm.trans ((sq2 (hq 639 _ rfl) (hq 640 _ rfl) (hq 641 _ rfl)).1 k).1) ((pol hq [] 3 548 (.S (.M (.v 455) (.v 424)) (.M (.v 423) (.v 456))) (by kernel_rfl)).symm.trans ((sq2 (hq 639 _ rfl) (hq 640 _ rfl) (hq 641 _ rfl)).1 k).2))
                                  have b641 : ¬ (q 641=0) := gb3
                                  have hH : hAll q bR_H37 := (bR_An (hF b14) (bR_An (hF b40) (bR_An (hT b67) (bR_An (hF b104) (bR_An (hF b115) (bR_An (hF b142) (bR_An (hF b153) (bR_An (hF b180) (bR_An (hF b191) (bR_An (hF b218) (bR_An (hF b229) (bR_An (hF b256) (bR_An (hF b263) (bR_An (hF b264) (bR_An (hF b269) (bR_An (hF b270) (bR_An (hF b275) (bR_An (hF b280) (bR_An (hF b281) (bR_An (hF b286) (bR_An (hF b291) (bR_An (hF b296) (bR_An (hF b297) (bR_An (hF b302) (bR_An (hF b307) (bR_An (hF b312) (bR_An (hF b317) (bR_An (hT b318) (bR_An (hF b320) (bR_An (hF b322) (bR_An (hF b325) (bR_An (hT b349) (bR_An (hF b357) (bR_An (hT b381) (bR_An (hF b389) (bR_An (hT b413) (bR_An (hF b421) (bR_An (hT b445) (bR_An (hF b453) (bR_An (hT b477) (bR_An (hF b485) (bR_An (hF b491) (bR_An (hF b494) (bR_An (hF b497) (bR_An (hF b509) (bR_An (hF b512) (bR_An (hF b524) (bR_An (hF b527) (bR_An (hF b539) (bR_An (hT b542) (bR_An (hF b641) trivial)))))))))))))))))))))))))))))))))))))))))))))))))))
                                  exact bR_leaf bR_r37 hσ hq h0 hH ⟨tab,mx⟩ (bR_memo37 hσ hq h0 hH ⟨tab,mx⟩ hK) hA
                                 ·
                                  have gl5 := bR_pl5 hq b485
                                  have b554 : ¬ (q 554=0) := gl5
                                  by_cases b557 : q 557=0
                                  ·
                                   have gb4 := fun k => (bR_pN45 hq b317) (tan_one (bR_pT4 hq) (bR_pT5 hq) (bR_pd hq (hD b14 b320 b322)) (bR_pL4 hq b453) (bR_pL5 hq b485) ((pol hq [] 3 557 (.S (.M (.v 454) (.v 487)) (.M (.v 455) (.v 486))) (by kernel_rfl)).symm.trans b557) ((pol hq [] 3 562 (.S (.M (.v 486) (.v 456)) (.M (.v 454) (.v 488))) (by kernel_rfl)).symm.trans ((sq2 (hq 636 _ rfl) (hq 637 _ rfl) (hq 638 _ rfl)).1 k).1) ((pol hq [] 3 563 (.S (.M (.v 487) (.v 456)) (.M (.v 455) (.v 488))) (by kernel_rfl)).symm.trans ((sq2 (hq 636 _ rfl) (hq 637 _ rfl) (hq 638 _ rfl)).1 k).2))
                                   have b638 : ¬ (q 638=0) := gb4
                                   have hH : hAll q bR_H38 := (bR_An (hF b14) (bR_An (hF b40) (bR_An (hT b67) (bR_An (hF b104) (bR_An (hF b115) (bR_An (hF b142) (bR_An (hF b153) (bR_An (hF b180) (bR_An (hF b191) (bR_An (hF b218) (bR_An (hF b229) (bR_An (hF b256) (bR_An (hF b263) (bR_An (hF b264) (bR_An (hF b269) (bR_An (hF b270) (bR_An (hF b275) (bR_An (hF b280) (bR_An (hF b281) (bR_An (hF b286) (bR_An (hF b291) (bR_An (hF b296) (bR_An (hF b297) (bR_An (hF b302) (bR_An (hF b307) (bR_An (hF b312) (bR_An (hF b317) (bR_An (hT b318) (bR_An (hF b320) (bR_An (hF b322) (bR_An (hF b325) (bR_An (hT b349) (bR_An (hF b357) (bR_An (hT b381) (bR_An (hF b389) (bR_An (hT b413) (bR_An (hF b421) (bR_An (hT b445) (bR_An (hF b453) (bR_An (hT b477) (bR_An (hF b485) (bR_An (hF b491) (bR_An (hF b494) (bR_An (hF b497) (bR_An (hF b509) (bR_An (hF b512) (bR_An (hF b524) (bR_An (hF b527) (bR_An (hF b539) (bR_An (hF b542) (bR_An (hF b554) (bR_An (hT b557) (bR_An (hF b638) trivial)))))))))))))))))))))))))))))))))))))))))))))))))))))
                                   exact bR_leaf bR_r38 hσ hq h0 hH ⟨tab,mx⟩ (bR_memo38 hσ hq h0 hH ⟨tab,mx⟩ hK) hA
                                  ·
                                   by_cases b569 : q 569=0
                                   ·
                                    by_cases b635 : q 635=0
                                    ·
                                     have hH : hAll q bR_H39 := (bR_An (hF b14) (bR_An (hF b40) (bR_An (hT b67) (bR_An (hF b104) (bR_An (hF b115) (bR_An (hF b142) (bR_An (hF b153) (bR_An (hF b180) (bR_An (hF b191) (bR_An (hF b218) (bR_An (hF b229) (bR_An (hF b256) (bR_An (hF b263) (bR_An (hF b264) (bR_An (hF b269) (bR_An (hF b270) (bR_An (hF b275) (bR_An (hF b280) (bR_An (hF b281) (bR_An (hF b286) (bR_An (hF b291) (bR_An (hF b296) (bR_An (hF b297) (bR_An (hF b302) (bR_An (hF b307) (bR_An (hF b312) (bR_An (hF b317) (bR_An (hT b318) (bR_An (hF b320) (bR_An (hF b322) (bR_An (hF b325) (bR_An (hT b349) (bR_An (hF b357) (bR_An (hT b381) (bR_An (hF b389) (bR_An (hT b413) (bR_An (hF b421) (bR_An (hT b445) (bR_An (hF b453) (bR_An (hT b477) (bR_An (hF b485) (bR_An (hF b491) (bR_An (hF b494) (bR_An (hF b497) (bR_An (hF b509) (bR_An (hF b512) (bR_An (hF b524) (bR_An (hF b527) (bR_An (hF b539) (bR_An (hF b542) (bR_An (hF b554) (bR_An (hF b557) (bR_An (hT b569) (bR_An (hT b635) trivial))))))))))))))))))))))))))))))))))))))))))))))))))))))
                                     exact bR_leaf bR_r39 hσ hq h0 hH ⟨tab,mx⟩ (bR_memo39 hσ hq h0 hH ⟨tab,mx⟩ hK) hA
                                    ·
                                     have hH : hAll q bR_H40 := (bR_An (hF b14) (bR_An (hF b40) (bR_An (hT b67) (bR_An (hF b104) (bR_An (hF b115) (bR_An (hF b142) (bR_An (hF b153) (bR_An (hF b180) (bR_An (hF b191) (bR_An (hF b218) (bR_An (hF b229) (bR_An (hF b256) (bR_An (hF b263) (bR_An (hF b264) (bR_An (hF b269) (bR_An (hF b270) (bR_An (hF b275) (bR_An (hF b280) (bR_An (hF b281) (bR_An (hF b286) (bR_An (hF b291) (bR_An (hF b296) (bR_An (hF b297) (bR_An (hF b302) (bR_An (hF b307) (bR_An (hF b312) (bR_An (hF b317) (bR_An (hT b318) (bR_An (hF b320) (bR_An (hF b322) (bR_An (hF b325) (bR_An (hT b349) (bR_An (hF b357) (bR_An (hT b381) (bR_An (hF b389) (bR_An (hT b413) (bR_An (hF b421) (bR_An (hT b445) (bR_An (hF b453) (bR_An (hT b477) (bR_An (hF b485) (bR_An (hF b491) (bR_An (hF b494) (bR_An (hF b497) (bR_An (hF b509) (bR_An (hF b512) (bR_An (hF b524) (bR_An (hF b527) (bR_An (hF b539) (bR_An (hF b542) (bR_An (hF b554) (bR_An (hF b557) (bR_An (hT b569) (bR_An (hF b635) trivial))))))))))))))))))))))))))))))))))))))))))))))))))))))
                                     exact bR_leaf bR_r40 hσ hq h0 hH ⟨tab,mx⟩ (bR_memo40 hσ hq h0 hH ⟨tab,mx⟩ hK) hA
                                   ·
                                    have gC0 := bR_pC0 hq b67 (hD b14 b320 b322) b104 b180 b218 b357 b421 b453 b497 b542 b275 b286 b296
                                    have b584 : ¬ (q 584=0) := gC0
                                    have gC1 := bR_pC1 hq b67 (hD b14 b320 b322) b104 b218 b256 b357 b453 b485 b512 b557 b286 b302 b317
                                    have b597 : ¬ (q 597=0) := gC1
                                    have gC2 := bR_pC2 hq b67 (hD b14 b320 b322) b142 b180 b256 b389 b421 b485 b527 b569 b280 b307 b312
                                    have b610 : ¬ (q 610=0) := gC2
                                    have gF := bR_pF hq b104 b142 b180 b218 b256 b325 b357 b389 b421 b453 b485 b497 b512 b527 b542 b557 b569
                                    have b632 : q 632=0 := gF
                                    have hH : hAll q bR_H41 := (bR_An (hF b14) (bR_An (hF b40) (bR_An (hT b67) (bR_An (hF b104) (bR_An (hF b115) (bR_An (hF b142) (bR_An (hF b153) (bR_An (hF b180) (bR_An (hF b191) (bR_An (hF b218) (bR_An (hF b229) (bR_An (hF b256) (bR_An (hF b263) (bR_An (hF b264) (bR_An (hF b269) (bR_An (hF b270) (bR_An (hF b275) (bR_An (hF b280) (bR_An (hF b281) (bR_An (hF b286) (bR_An (hF b291) (bR_An (hF b296) (bR_An (hF b297) (bR_An (hF b302) (bR_An (hF b307) (bR_An (hF b312) (bR_An (hF b317) (bR_An (hT b318) (bR_An (hF b320) (bR_An (hF b322) (bR_An (hF b325) (bR_An (hT b349) (bR_An (hF b357) (bR_An (hT b381) (bR_An (hF b389) (bR_An (hT b413) (bR_An (hF b421) (bR_An (hT b445) (bR_An (hF b453) (bR_An (hT b477) (bR_An (hF b485) (bR_An (hF b491) (bR_An (hF b494) (bR_An (hF b497) (bR_An (hF b509) (bR_An (hF b512) (bR_An (hF b524) (bR_An (hF b527) (bR_An (hF b539) (bR_An (hF b542) (bR_An (hF b554) (bR_An (hF b557) (bR_An (hF b569) (bR_An (hF b584) (bR_An (hF b597) (bR_An (hF b610) (bR_An (hT b632) trivial)))))))))))))))))))))))))))))))))))))))))))))))))))))))))
                                    exact bR_leaf bR_r41 hσ hq h0 hH ⟨tab,mx⟩ (bR_memo41 hσ hq h0 hH ⟨tab,mx⟩ hK) hA
   ·
    exact bR_leaf bR_r42 hσ hq h0 (bR_An (hF b14) (bR_An (hF b40) (bR_An (hF b67) trivial))) tm mm hA
theorem bR_small0 : (tellS ((0 : Int) : Rat)).size≤1048576 := by decide +kernel
theorem bR_small1 : (tellS ((1 : Int) : Rat)).size≤1048576 := by decide +kernel
theorem bR_small2 : (tellS ((2 : Int) : Rat)).size≤1048576 := by decide +kernel
theorem bR_small3 : (tellS ((3 : Int) : Rat)).size≤1048576 := by decide +kernel
theorem bR_small4 : (tellS ((4 : Int) : Rat)).size≤1048576 := by decide +kernel
theorem bR_small5 : (tellS ((5 : Int) : Rat)).size≤1048576 := by decide +kernel
theorem bR_small6 : (tellS ((6 : Int) : Rat)).size≤1048576 := by decide +kernel
theorem bR_sg {ka kb kc kd ke kf ux uz vax vaz vbx vbz vcx vcz vdx vdz vex vez y0 y1 : ByteArray} (ska : ka.size≤1048576) (skb : kb.size≤1048576) (skc : kc.size≤1048576) (skd : kd.size≤1048576) (ske : ke.size≤1048576) (skf : kf.size≤1048576) (sux : ux.size≤1048576) (suz : uz.size≤1048576) (svax : vax.size≤1048576) (svaz : vaz.size≤1048576) (svbx : vbx.size≤1048576) (svbz : vbz.size≤1048576) (svcx : vcx.size≤1048576) (svcz : vcz.size≤1048576) (svdx : vdx.size≤1048576) (svdz : vdz.size≤1048576) (svex : vex.size≤1048576) (svez : vez.size≤1048576) (sy0 : y0.size≤1048576) (sy1 : y1.size≤1048576) : ∀ j,(sgOf [ka,kb,kc,kd,ke,kf,ux,uz,vax,vaz,vbx,vbz,vcx,vcz,vdx,vdz,vex,vez,y0,y1] j).size≤1048576 := sgOf_size (by simp [ska,skb,skc,skd,ske,skf,sux,suz,svax,svaz,svbx,svbz,svcx,svcz,svdx,svdz,svex,svez,sy0,sy1])
theorem bR_same {q q' : Nat→Rat} {σ σ' : Nat→ByteArray} (H : bR_Q q σ) (H' : bR_Q q' σ') (i0 : q 0=q' 0) (i1 : q 1=q' 1) (i2 : q 2=q' 2) (i3 : q 3=q' 3) (i4 : q 4=q' 4) (i5 : q 5=q' 5) : q 14=q' 14∧q 26=q' 26∧q 33=q' 33∧q 35=q' 35 :=
 ⟨(show q 14=(((((q 0*q 0)+(q 1*q 1))+(q 2*q 2))+(q 3*q 3))+(q 4*q 4)) from pol H [] 6 14 (.A (.A (.A (.A (.M (.v 0) (.v 0)) (.M (.v 1) (.v 1))) (.M (.v 2) (.v 2))) (.M (.v 3) (.v 3))) (.M (.v 4) (.v 4))) (by kernel_rfl)).trans ((show (((((q 0*q 0)+(q 1*q 1))+(q 2*q 2))+(q 3*q 3))+(q 4*q 4))=(((((q' 0*q' 0)+(q' 1*q' 1))+(q' 2*q' 2))+(q' 3*q' 3))+(q' 4*q' 4)) by simp only [i0,i1,i2,i3,i4]).trans (show q' 14=(((((q' 0*q' 0)+(q' 1*q' 1))+(q' 2*q' 2))+(q' 3*q' 3))+(q' 4*q' 4)) from pol H' [] 6 14 (.A (.A (.A (.A (.M (.v 0) (.v 0)) (.M (.v 1) (.v 1))) (.M (.v 2) (.v 2))) (.M (.v 3) (.v 3))) (.M (.v 4) (.v 4))) (by kernel_rfl)).symm),(show q 26=(((q 0*2)*(q 2*2)) - (q 1*q 1)) from pol H [] 5 26 (.S (.M (.M (.v 0) .t) (.M (.v 2) .t)) (.M (.v 1) (.v 1))) (by kernel_rfl)).trans ((show (((q 0*2)*(q 2*2)) - (q 1*q 1))=(((q' 0*2)*(q' 2*2)) - (q' 1*q' 1)) by simp only [i0,i1,i2]).trans (show q' 26=(((q' 0*2)*(q' 2*2)) - (q' 1*q' 1)) from pol H' [] 5 26 (.S (.M (.M (.v 0) .t) (.M (.v 2) .t)) (.M (.v 1) (.v 1))) (by kernel_rfl)).symm),(show q 33=(((0+(((q 1*q 4) - (q 3*(q 2*2)))*q 3))+(((q 3*q 1) - ((q 0*2)*q 4))*q 4))+((((q 0*2)*(q 2*2)) - (q 1*q 1))*(q 5*2))) from pol H [] 9 33 (.A (.A (.A .z (.M (.S (.M (.v 1) (.v 4)) (.M (.v 3) (.M (.v 2) .t))) (.v 3))) (.M (.S (.M (.v 3) (.v 1)) (.M (.M (.v 0) .t) (.v 4))) (.v 4))) (.M (.S (.M (.M (.v 0) .t) (.M (.v 2) .t)) (.M (.v 1) (.v 1))) (.M (.v 5) .t))) (by kernel_rfl)).trans ((show (((0+(((q 1*q 4) - (q 3*(q 2*2)))*q 3))+(((q 3*q 1) - ((q 0*2)*q 4))*q 4))+((((q 0*2)*(q 2*2)) - (q 1*q 1))*(q 5*2)))=(((0+(((q' 1*q' 4) - (q' 3*(q' 2*2)))*q' 3))+(((q' 3*q' 1) - ((q' 0*2)*q' 4))*q' 4))+((((q' 0*2)*(q' 2*2)) - (q' 1*q' 1))*(q' 5*2))) by simp only [i0,i1,i2,i3,i4,i5]).trans (show q' 33=(((0+(((q' 1*q' 4) - (q' 3*(q' 2*2)))*q' 3))+(((q' 3*q' 1) - ((q' 0*2)*q' 4))*q' 4))+((((q' 0*2)*(q' 2*2)) - (q' 1*q' 1))*(q' 5*2))) from pol H' [] 9 33 (.A (.A (.A .z (.M (.S (.M (.v 1) (.v 4)) (.M (.v 3) (.M (.v 2) .t))) (.v 3))) (.M (.S (.M (.v 3) (.v 1)) (.M (.M (.v 0) .t) (.v 4))) (.v 4))) (.M (.S (.M (.M (.v 0) .t) (.M (.v 2) .t)) (.M (.v 1) (.v 1))) (.M (.v 5) .t))) (by kernel_rfl)).symm),(show q 35=((((0+(((q 1*q 4) - (q 3*(q 2*2)))*q 3))+(((q 3*q 1) - ((q 0*2)*q 4))*q 4))+((((q 0*2)*(q 2*2)) - (q 1*q 1))*(q 5*2)))*((q 0*2)+(q 2*2))) from pol H [] 10 35 (.M (.A (.A (.A .z (.M (.S (.M (.v 1) (.v 4)) (.M (.v 3) (.M (.v 2) .t))) (.v 3))) (.M (.S (.M (.v 3) (.v 1)) (.M (.M (.v 0) .t) (.v 4))) (.v 4))) (.M (.S (.M (.M (.v 0) .t) (.M (.v 2) .t)) (.M (.v 1) (.v 1))) (.M (.v 5) .t))) (.A (.M (.v 0) .t) (.M (.v 2) .t))) (by kernel_rfl)).trans ((show ((((0+(((q 1*q 4) - (q 3*(q 2*2)))*q 3))+(((q 3*q 1) - ((q 0*2)*q 4))*q 4))+((((q 0*2)*(q 2*2)) - (q 1*q 1))*(q 5*2)))*((q 0*2)+(q 2*2)))=((((0+(((q' 1*q' 4) - (q' 3*(q' 2*2)))*q' 3))+(((q' 3*q' 1) - ((q' 0*2)*q' 4))*q' 4))+((((q' 0*2)*(q' 2*2)) - (q' 1*q' 1))*(q' 5*2)))*((q' 0*2)+(q' 2*2))) by simp only [i0,i1,i2,i3,i4,i5]).trans (show q' 35=((((0+(((q' 1*q' 4) - (q' 3*(q' 2*2)))*q' 3))+(((q' 3*q' 1) - ((q' 0*2)*q' 4))*q' 4))+((((q' 0*2)*(q' 2*2)) - (q' 1*q' 1))*(q' 5*2)))*((q' 0*2)+(q' 2*2))) from pol H' [] 10 35 (.M (.A (.A (.A .z (.M (.S (.M (.v 1) (.v 4)) (.M (.v 3) (.M (.v 2) .t))) (.v 3))) (.M (.S (.M (.v 3) (.v 1)) (.M (.M (.v 0) .t) (.v 4))) (.v 4))) (.M (.S (.M (.M (.v 0) .t) (.M (.v 2) .t)) (.M (.v 1) (.v 1))) (.M (.v 5) .t))) (.A (.M (.v 0) .t) (.M (.v 2) .t))) (by kernel_rfl)).symm)⟩
theorem bR_weak {q : Nat→Rat} {σ : Nat→ByteArray} {K : List (FuncId × List AC)} {γ : Nat→Option Nat} {w : World} {n e : Int} {r : Value} (v0 : q 73=(n : Rat)) (v1 : q 74=(e : Rat)) (h : avOn (cOn (evS q σ) K γ w) (true,[(false,[.inl (.int .i64 n)]),(false,[.inl (.int .i64 e)])]) r) : avOn (cOn (evS q σ) K γ w) (true,[(false,[.inr (0,6,73,0,0)]),(false,[.inr (0,6,74,0,0)])]) r := by
 obtain ⟨us,er,h⟩ := h
 match us,h with
 | [a,b],⟨⟨h1,_⟩,⟨h2,_⟩,_⟩ =>
  refine ⟨[a,b],er,⟨?_,trivial⟩,⟨?_,trivial⟩,trivial⟩
  ·exact ⟨n,h1.1,v0.symm⟩
  ·exact ⟨e,h2.1,v1.symm⟩
theorem bR_walk {w : World} {ka kb kc kd ke kf ux uz vax vaz vbx vbz vcx vcz vdx vdz vex vez : ByteArray} (ska : ka.size≤1048576) (skb : kb.size≤1048576) (skc : kc.size≤1048576) (skd : kd.size≤1048576) (ske : ke.size≤1048576) (skf : kf.size≤1048576) (sux : ux.size≤1048576) (suz : uz.size≤1048576) (svax : vax.size≤1048576) (svaz : vaz.size≤1048576) (svbx : vbx.size≤1048576) (svbz : vbz.size≤1048576) (svcx : vcx.size≤1048576) (svcz : vcz.size≤1048576) (svdx : vdx.size≤1048576) (svdz : vdz.size≤1048576) (svex : vex.size≤1048576) (svez : vez.size≤1048576) (tab : Tab w) (mx : MaxL w) :
  Calls Tryz.prog 3 #[.agg #[.string ka,.string kb,.string kc,.string kd,.string ke,.string kf],.agg #[.string ux,.string uz],.agg #[.string vax,.string vaz,.string vbx,.string vbz,.string vcx,.string vcz,.string vdx,.string vdz,.string vex,.string vez]] w fun e w' => Below w.heap.size w w'∧e=.returned (.bool true) := by
 obtain ⟨p,hp,_⟩ := nodes_exist (sgOf [ka,kb,kc,kd,ke,kf,ux,uz,vax,vaz,vbx,vbz,vcx,vcz,vdx,vdz,vex,vez]) bR_N bR_wf
 by_cases b14 : p 14=0
 ·
  obtain ⟨q,hq,h0⟩ := nodes_exist (sgOf [ka,kb,kc,kd,ke,kf,ux,uz,vax,vaz,vbx,vbz,vcx,vcz,vdx,vdz,vex,vez,tellS ((0 : Int) : Rat),tellS ((5 : Int) : Rat)]) bR_N bR_wf
  have hs := bR_same hq hp ((hq 0 _ rfl).trans (hp 0 _ rfl).symm) ((hq 1 _ rfl).trans (hp 1 _ rfl).symm) ((hq 2 _ rfl).trans (hp 2 _ rfl).symm) ((hq 3 _ rfl).trans (hp 3 _ rfl).symm) ((hq 4 _ rfl).trans (hp 4 _ rfl).symm) ((hq 5 _ rfl).trans (hp 5 _ rfl).symm)
  have v0 : q 73=((0 : Int) : Rat) := (hq 73 _ rfl).trans (tell_rd _)
  have v1 : q 74=((5 : Int) : Rat) := (hq 74 _ rfl).trans (tell_rd _)
  have hH : hAll q bR_KH6 := (bR_An (hT (show q 14=0 by rw [hs.1]; exact b14)) trivial)
  have hσ : ∀ j,(sgOf [ka,kb,kc,kd,ke,kf,ux,uz,vax,vaz,vbx,vbz,vcx,vcz,vdx,vdz,vex,vez,tellS ((0 : Int) : Rat),tellS ((5 : Int) : Rat)] j).size≤1048576 := bR_sg ska skb skc skd ske skf sux suz svax svaz svbx svbz svcx svcz svdx svdz svex svez bR_small0 bR_small5
  have hK : MemoAll bR_N bR_L bR_C bR_Z q _ [6] w [bR_O] := memo_weak (memoAll_drop (M := [(5,[(false,[(true,[.inr (2,0,0,0,0),.inr (2,1,0,0,0),.inr (2,2,0,0,0),.inr (2,3,0,0,0),.inr (2,4,0,0,0),.inr (2,5,0,0,0)])])],(true,[(false,[.inl (.int .i64 (0))]),(false,[.inl (.int .i64 (5))])]))]) (i := 0) (hy_ofA hσ bR_wf bR_sz bR_lt bR_cn hq h0 hH) (by simp [closed_coned]) (by kernel_rfl) ⟨tab,mx⟩ bR_k6 memoAll_nil) (fun K γ w1 r hr => bR_weak v0 v1 hr)
  exact bR_walk0 ska skb skc skd ske skf sux suz svax svaz svbx svbz svcx svcz svdx svdz svex svez bR_small0 bR_small5 tab mx hq h0 hK (fun h => absurd (show q 14=0 by rw [hs.1]; exact b14) h) (fun h => absurd (show q 14=0 by rw [hs.1]; exact b14) h)
 ·
  by_cases b33 : p 33=0
  ·
   by_cases b26 : p 26=0
   ·
    obtain ⟨q,hq,h0⟩ := nodes_exist (sgOf [ka,kb,kc,kd,ke,kf,ux,uz,vax,vaz,vbx,vbz,vcx,vcz,vdx,vdz,vex,vez,tellS ((5 : Int) : Rat),tellS ((0 : Int) : Rat)]) bR_N bR_wf
    have hs := bR_same hq hp ((hq 0 _ rfl).trans (hp 0 _ rfl).symm) ((hq 1 _ rfl).trans (hp 1 _ rfl).symm) ((hq 2 _ rfl).trans (hp 2 _ rfl).symm) ((hq 3 _ rfl).trans (hp 3 _ rfl).symm) ((hq 4 _ rfl).trans (hp 4 _ rfl).symm) ((hq 5 _ rfl).trans (hp 5 _ rfl).symm)
    have v0 : q 73=((5 : Int) : Rat) := (hq 73 _ rfl).trans (tell_rd _)
    have v1 : q 74=((0 : Int) : Rat) := (hq 74 _ rfl).trans (tell_rd _)
    have hH : hAll q bR_KH5 := (bR_An (hF (show ¬ (q 14=0) by rw [hs.1]; exact b14)) (bR_An (hT (show q 33=0 by rw [hs.2.2.1]; exact b33)) (bR_An (hT (show q 26=0 by rw [hs.2.1]; exact b26)) trivial)))
    have hσ : ∀ j,(sgOf [ka,kb,kc,kd,ke,kf,ux,uz,vax,vaz,vbx,vbz,vcx,vcz,vdx,vdz,vex,vez,tellS ((5 : Int) : Rat),tellS ((0 : Int) : Rat)] j).size≤1048576 := bR_sg ska skb skc skd ske skf sux suz svax svaz svbx svbz svcx svcz svdx svdz svex svez bR_small5 bR_small0
    have hK : MemoAll bR_N bR_L bR_C bR_Z q _ [6] w [bR_O] := memo_weak (memoAll_drop (M := [(5,[(false,[(true,[.inr (2,0,0,0,0),.inr (2,1,0,0,0),.inr (2,2,0,0,0),.inr (2,3,0,0,0),.inr (2,4,0,0,0),.inr (2,5,0,0,0)])])],(true,[(false,[.inl (.int .i64 (5))]),(false,[.inl (.int .i64 (0))])]))]) (i := 0) (hy_ofA hσ bR_wf bR_sz bR_lt bR_cn hq h0 hH) (by simp [closed_coned]) (by kernel_rfl) ⟨tab,mx⟩ bR_k5 memoAll_nil) (fun K γ w1 r hr => bR_weak v0 v1 hr)
    exact bR_walk0 ska skb skc skd ske skf sux suz svax svaz svbx svbz svcx svcz svdx svdz svex svez bR_small5 bR_small0 tab mx hq h0 hK (fun _ => (show q 318=q 74 - q 28 from hq 318 _ rfl).trans (by rw [v1,show q 28=0 from (hq 28 _ rfl).trans bR_c28]; decide +kernel)) (fun _ _ h => absurd ((show q 322=q 73 - q 321 from hq 322 _ rfl).trans (by rw [v0,show q 321=5 from (hq 321 _ rfl).trans bR_c321]; decide +kernel)) h)
   ·
    obtain ⟨q,hq,h0⟩ := nodes_exist (sgOf [ka,kb,kc,kd,ke,kf,ux,uz,vax,vaz,vbx,vbz,vcx,vcz,vdx,vdz,vex,vez,tellS ((4 : Int) : Rat),tellS ((0 : Int) : Rat)]) bR_N bR_wf
    have hs := bR_same hq hp ((hq 0 _ rfl).trans (hp 0 _ rfl).symm) ((hq 1 _ rfl).trans (hp 1 _ rfl).symm) ((hq 2 _ rfl).trans (hp 2 _ rfl).symm) ((hq 3 _ rfl).trans (hp 3 _ rfl).symm) ((hq 4 _ rfl).trans (hp 4 _ rfl).symm) ((hq 5 _ rfl).trans (hp 5 _ rfl).symm)
    have v0 : q 73=((4 : Int) : Rat) := (hq 73 _ rfl).trans (tell_rd _)
    have v1 : q 74=((0 : Int) : Rat) := (hq 74 _ rfl).trans (tell_rd _)
    have hH : hAll q bR_KH4 := (bR_An (hF (show ¬ (q 14=0) by rw [hs.1]; exact b14)) (bR_An (hT (show q 33=0 by rw [hs.2.2.1]; exact b33)) (bR_An (hF (show ¬ (q 26=0) by rw [hs.2.1]; exact b26)) trivial)))
    have hσ : ∀ j,(sgOf [ka,kb,kc,kd,ke,kf,ux,uz,vax,vaz,vbx,vbz,vcx,vcz,vdx,vdz,vex,vez,tellS ((4 : Int) : Rat),tellS ((0 : Int) : Rat)] j).size≤1048576 := bR_sg ska skb skc skd ske skf sux suz svax svaz svbx svbz svcx svcz svdx svdz svex svez bR_small4 bR_small0
    have hK : MemoAll bR_N bR_L bR_C bR_Z q _ [6] w [bR_O] := memo_weak (memoAll_drop (M := [(5,[(false,[(true,[.inr (2,0,0,0,0),.inr (2,1,0,0,0),.inr (2,2,0,0,0),.inr (2,3,0,0,0),.inr (2,4,0,0,0),.inr (2,5,0,0,0)])])],(true,[(false,[.inl (.int .i64 (4))]),(false,[.inl (.int .i64 (0))])]))]) (i := 0) (hy_ofA hσ bR_wf bR_sz bR_lt bR_cn hq h0 hH) (by simp [closed_coned]) (by kernel_rfl) ⟨tab,mx⟩ bR_k4 memoAll_nil) (fun K γ w1 r hr => bR_weak v0 v1 hr)
    exact bR_walk0 ska skb skc skd ske skf sux suz svax svaz svbx svbz svcx svcz svdx svdz svex svez bR_small4 bR_small0 tab mx hq h0 hK (fun _ => (show q 318=q 74 - q 28 from hq 318 _ rfl).trans (by rw [v1,show q 28=0 from (hq 28 _ rfl).trans bR_c28]; decide +kernel)) (fun _ h _ => absurd ((show q 320=q 73 - q 319 from hq 320 _ rfl).trans (by rw [v0,show q 319=4 from (hq 319 _ rfl).trans bR_c319]; decide +kernel)) h)
  ·
   by_cases a_1_26_0 : p 26 < 0
   ·
    obtain ⟨q,hq,h0⟩ := nodes_exist (sgOf [ka,kb,kc,kd,ke,kf,ux,uz,vax,vaz,vbx,vbz,vcx,vcz,vdx,vdz,vex,vez,tellS ((2 : Int) : Rat),tellS ((0 : Int) : Rat)]) bR_N bR_wf
    have hs := bR_same hq hp ((hq 0 _ rfl).trans (hp 0 _ rfl).symm) ((hq 1 _ rfl).trans (hp 1 _ rfl).symm) ((hq 2 _ rfl).trans (hp 2 _ rfl).symm) ((hq 3 _ rfl).trans (hp 3 _ rfl).symm) ((hq 4 _ rfl).trans (hp 4 _ rfl).symm) ((hq 5 _ rfl).trans (hp 5 _ rfl).symm)
    have v0 : q 73=((2 : Int) : Rat) := (hq 73 _ rfl).trans (tell_rd _)
    have v1 : q 74=((0 : Int) : Rat) := (hq 74 _ rfl).trans (tell_rd _)
    have hH : hAll q bR_KH3 := (bR_An (hF (show ¬ (q 14=0) by rw [hs.1]; exact b14)) (bR_An (hF (show ¬ (q 33=0) by rw [hs.2.2.1]; exact b33)) (bR_An (hT (show q 26 < 0 by rw [hs.2.1]; exact a_1_26_0)) trivial)))
    have hσ : ∀ j,(sgOf [ka,kb,kc,kd,ke,kf,ux,uz,vax,vaz,vbx,vbz,vcx,vcz,vdx,vdz,vex,vez,tellS ((2 : Int) : Rat),tellS ((0 : Int) : Rat)] j).size≤1048576 := bR_sg ska skb skc skd ske skf sux suz svax svaz svbx svbz svcx svcz svdx svdz svex svez bR_small2 bR_small0
    have hK : MemoAll bR_N bR_L bR_C bR_Z q _ [6] w [bR_O] := memo_weak (memoAll_drop (M := [(5,[(false,[(true,[.inr (2,0,0,0,0),.inr (2,1,0,0,0),.inr (2,2,0,0,0),.inr (2,3,0,0,0),.inr (2,4,0,0,0),.inr (2,5,0,0,0)])])],(true,[(false,[.inl (.int .i64 (2))]),(false,[.inl (.int .i64 (0))])]))]) (i := 0) (hy_ofA hσ bR_wf bR_sz bR_lt bR_cn hq h0 hH) (by simp [closed_coned]) (by kernel_rfl) ⟨tab,mx⟩ bR_k3 memoAll_nil) (fun K γ w1 r hr => bR_weak v0 v1 hr)
    exact bR_walk0 ska skb skc skd ske skf sux suz svax svaz svbx svbz svcx svcz svdx svdz svex svez bR_small2 bR_small0 tab mx hq h0 hK (fun _ => (show q 318=q 74 - q 28 from hq 318 _ rfl).trans (by rw [v1,show q 28=0 from (hq 28 _ rfl).trans bR_c28]; decide +kernel)) (fun _ _ _ => (show ¬ (q 33=0) by rw [hs.2.2.1]; exact b33))
   ·
    by_cases b26 : p 26=0
    ·
     obtain ⟨q,hq,h0⟩ := nodes_exist (sgOf [ka,kb,kc,kd,ke,kf,ux,uz,vax,vaz,vbx,vbz,vcx,vcz,vdx,vdz,vex,vez,tellS ((3 : Int) : Rat),tellS ((0 : Int) : Rat)]) bR_N bR_wf
     have hs := bR_same hq hp ((hq 0 _ rfl).trans (hp 0 _ rfl).symm) ((hq 1 _ rfl).trans (hp 1 _ rfl).symm) ((hq 2 _ rfl).trans (hp 2 _ rfl).symm) ((hq 3 _ rfl).trans (hp 3 _ rfl).symm) ((hq 4 _ rfl).trans (hp 4 _ rfl).symm) ((hq 5 _ rfl).trans (hp 5 _ rfl).symm)
     have v0 : q 73=((3 : Int) : Rat) := (hq 73 _ rfl).trans (tell_rd _)
     have v1 : q 74=((0 : Int) : Rat) := (hq 74 _ rfl).trans (tell_rd _)
     have hH : hAll q bR_KH2 := (bR_An (hF (show ¬ (q 14=0) by rw [hs.1]; exact b14)) (bR_An (hF (show ¬ (q 33=0) by rw [hs.2.2.1]; exact b33)) (bR_An (hF (show ¬ (q 26 < 0) by rw [hs.2.1]; exact a_1_26_0)) (bR_An (hT (show q 26=0 by rw [hs.2.1]; exact b26)) trivial))))
     have hσ : ∀ j,(sgOf [ka,kb,kc,kd,ke,kf,ux,uz,vax,vaz,vbx,vbz,vcx,vcz,vdx,vdz,vex,vez,tellS ((3 : Int) : Rat),tellS ((0 : Int) : Rat)] j).size≤1048576 := bR_sg ska skb skc skd ske skf sux suz svax svaz svbx svbz svcx svcz svdx svdz svex svez bR_small3 bR_small0
     have hK : MemoAll bR_N bR_L bR_C bR_Z q _ [6] w [bR_O] := memo_weak (memoAll_drop (M := [(5,[(false,[(true,[.inr (2,0,0,0,0),.inr (2,1,0,0,0),.inr (2,2,0,0,0),.inr (2,3,0,0,0),.inr (2,4,0,0,0),.inr (2,5,0,0,0)])])],(true,[(false,[.inl (.int .i64 (3))]),(false,[.inl (.int .i64 (0))])]))]) (i := 0) (hy_ofA hσ bR_wf bR_sz bR_lt bR_cn hq h0 hH) (by simp [closed_coned]) (by kernel_rfl) ⟨tab,mx⟩ bR_k2 memoAll_nil) (fun K γ w1 r hr => bR_weak v0 v1 hr)
     exact bR_walk0 ska skb skc skd ske skf sux suz svax svaz svbx svbz svcx svcz svdx svdz svex svez bR_small3 bR_small0 tab mx hq h0 hK (fun _ => (show q 318=q 74 - q 28 from hq 318 _ rfl).trans (by rw [v1,show q 28=0 from (hq 28 _ rfl).trans bR_c28]; decide +kernel)) (fun _ _ _ => (show ¬ (q 33=0) by rw [hs.2.2.1]; exact b33))
    ·
     by_cases a_2_35_0 : 0 < p 35
     ·
      obtain ⟨q,hq,h0⟩ := nodes_exist (sgOf [ka,kb,kc,kd,ke,kf,ux,uz,vax,vaz,vbx,vbz,vcx,vcz,vdx,vdz,vex,vez,tellS ((6 : Int) : Rat),tellS ((0 : Int) : Rat)]) bR_N bR_wf
      have hs := bR_same hq hp ((hq 0 _ rfl).trans (hp 0 _ rfl).symm) ((hq 1 _ rfl).trans (hp 1 _ rfl).symm) ((hq 2 _ rfl).trans (hp 2 _ rfl).symm) ((hq 3 _ rfl).trans (hp 3 _ rfl).symm) ((hq 4 _ rfl).trans (hp 4 _ rfl).symm) ((hq 5 _ rfl).trans (hp 5 _ rfl).symm)
      have v0 : q 73=((6 : Int) : Rat) := (hq 73 _ rfl).trans (tell_rd _)
      have v1 : q 74=((0 : Int) : Rat) := (hq 74 _ rfl).trans (tell_rd _)
      have hH : hAll q bR_KH1 := (bR_An (hF (show ¬ (q 14=0) by rw [hs.1]; exact b14)) (bR_An (hF (show ¬ (q 33=0) by rw [hs.2.2.1]; exact b33)) (bR_An (hF (show ¬ (q 26 < 0) by rw [hs.2.1]; exact a_1_26_0)) (bR_An (hF (show ¬ (q 26=0) by rw [hs.2.1]; exact b26)) (bR_An (hT (show 0 < q 35 by rw [hs.2.2.2]; exact a_2_35_0)) trivial)))))
      have hσ : ∀ j,(sgOf [ka,kb,kc,kd,ke,kf,ux,uz,vax,vaz,vbx,vbz,vcx,vcz,vdx,vdz,vex,vez,tellS ((6 : Int) : Rat),tellS ((0 : Int) : Rat)] j).size≤1048576 := bR_sg ska skb skc skd ske skf sux suz svax svaz svbx svbz svcx svcz svdx svdz svex svez bR_small6 bR_small0
      have hK : MemoAll bR_N bR_L bR_C bR_Z q _ [6] w [bR_O] := memo_weak (memoAll_drop (M := [(5,[(false,[(true,[.inr (2,0,0,0,0),.inr (2,1,0,0,0),.inr (2,2,0,0,0),.inr (2,3,0,0,0),.inr (2,4,0,0,0),.inr (2,5,0,0,0)])])],(true,[(false,[.inl (.int .i64 (6))]),(false,[.inl (.int .i64 (0))])]))]) (i := 0) (hy_ofA hσ bR_wf bR_sz bR_lt bR_cn hq h0 hH) (by simp [closed_coned]) (by kernel_rfl) ⟨tab,mx⟩ bR_k1 memoAll_nil) (fun K γ w1 r hr => bR_weak v0 v1 hr)
      exact bR_walk0 ska skb skc skd ske skf sux suz svax svaz svbx svbz svcx svcz svdx svdz svex svez bR_small6 bR_small0 tab mx hq h0 hK (fun _ => (show q 318=q 74 - q 28 from hq 318 _ rfl).trans (by rw [v1,show q 28=0 from (hq 28 _ rfl).trans bR_c28]; decide +kernel)) (fun _ _ _ => (show ¬ (q 33=0) by rw [hs.2.2.1]; exact b33))
     ·
      obtain ⟨q,hq,h0⟩ := nodes_exist (sgOf [ka,kb,kc,kd,ke,kf,ux,uz,vax,vaz,vbx,vbz,vcx,vcz,vdx,vdz,vex,vez,tellS ((1 : Int) : Rat),tellS ((0 : Int) : Rat)]) bR_N bR_wf
      have hs := bR_same hq hp ((hq 0 _ rfl).trans (hp 0 _ rfl).symm) ((hq 1 _ rfl).trans (hp 1 _ rfl).symm) ((hq 2 _ rfl).trans (hp 2 _ rfl).symm) ((hq 3 _ rfl).trans (hp 3 _ rfl).symm) ((hq 4 _ rfl).trans (hp 4 _ rfl).symm) ((hq 5 _ rfl).trans (hp 5 _ rfl).symm)
      have v0 : q 73=((1 : Int) : Rat) := (hq 73 _ rfl).trans (tell_rd _)
      have v1 : q 74=((0 : Int) : Rat) := (hq 74 _ rfl).trans (tell_rd _)
      have hH : hAll q bR_KH0 := (bR_An (hF (show ¬ (q 14=0) by rw [hs.1]; exact b14)) (bR_An (hF (show ¬ (q 33=0) by rw [hs.2.2.1]; exact b33)) (bR_An (hF (show ¬ (q 26 < 0) by rw [hs.2.1]; exact a_1_26_0)) (bR_An (hF (show ¬ (q 26=0) by rw [hs.2.1]; exact b26)) (bR_An (hF (show ¬ (0 < q 35) by rw [hs.2.2.2]; exact a_2_35_0)) trivial)))))
      have hσ : ∀ j,(sgOf [ka,kb,kc,kd,ke,kf,ux,uz,vax,vaz,vbx,vbz,vcx,vcz,vdx,vdz,vex,vez,tellS ((1 : Int) : Rat),tellS ((0 : Int) : Rat)] j).size≤1048576 := bR_sg ska skb skc skd ske skf sux suz svax svaz svbx svbz svcx svcz svdx svdz svex svez bR_small1 bR_small0
      have hK : MemoAll bR_N bR_L bR_C bR_Z q _ [6] w [bR_O] := memo_weak (memoAll_drop (M := [(5,[(false,[(true,[.inr (2,0,0,0,0),.inr (2,1,0,0,0),.inr (2,2,0,0,0),.inr (2,3,0,0,0),.inr (2,4,0,0,0),.inr (2,5,0,0,0)])])],(true,[(false,[.inl (.int .i64 (1))]),(false,[.inl (.int .i64 (0))])]))]) (i := 0) (hy_ofA hσ bR_wf bR_sz bR_lt bR_cn hq h0 hH) (by simp [closed_coned]) (by kernel_rfl) ⟨tab,mx⟩ bR_k0 memoAll_nil) (fun K γ w1 r hr => bR_weak v0 v1 hr)
      exact bR_walk0 ska skb skc skd ske skf sux suz svax svaz svbx svbz svcx svcz svdx svdz svex svez bR_small1 bR_small0 tab mx hq h0 hK (fun _ => (show q 318=q 74 - q 28 from hq 318 _ rfl).trans (by rw [v1,show q 28=0 from (hq 28 _ rfl).trans bR_c28]; decide +kernel)) (fun _ _ _ => (show ¬ (q 33=0) by rw [hs.2.2.1]; exact b33))
end Go.Proofs.YtgkjeoeliehihaaGreatDoor
