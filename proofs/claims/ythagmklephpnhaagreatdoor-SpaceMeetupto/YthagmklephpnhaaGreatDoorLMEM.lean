/- The law, over its runs. -/
import Derived.Test.YthagmklephpnhaaGreatDoorLMEMB1
import Derived.Test.YthagmklephpnhaaGreatDoorLMEMB2
import Derived.Test.YthagmklephpnhaaGreatDoorLMEMB3
import Derived.Test.YthagmklephpnhaaGreatDoorLMEMB4
import Derived.Test.YthagmklephpnhaaGreatDoorLMEMB5
import Derived.Test.YthagmklephpnhaaGreatDoorLMEMB6
import Derived.Test.YthagmklephpnhaaGreatDoorLMEMB7
import Derived.Test.YthagmklephpnhaaGreatDoorLMEMB8
set_option maxHeartbeats 16000000
set_option maxRecDepth 100000
namespace Go.Proofs.YthagmklephpnhaaGreatDoor
open Go.RowKit Cx
variable {a b c d e f g j k l m n : Rat}
theorem Qa {a b : Prop} (x : a) (y : b) : a∧b := ⟨x,y⟩
theorem Qh {M : Xu} {H : List (Nat × Nat × Nat × Nat)} {K : List (FuncId × List AC)} {k : Nat} {q : Nat→Rat} {σ : Nat→ByteArray} {args : List AV} {vs : List Value} {w : World} (hr : (Ql (sx Tryz.prog eM_N H K QP QT QQ (prC [32])) Qu M k [] 7 args [] 0).map (·.1)=some (kB true)) (hσ : ∀ j,(σ j).size≤1048576) (hq : ∀ (a : Nat) nd,eM_N[a]? = some nd→q a=Zg σ q nd) (h0 : ∀ a,eM_N.length≤a→q a=0) (hH : Ww q H) (hp : Zf w) (hM : Zl eM_N QP QT QQ q σ [32] w M) (hA : ∀ K,A2 (avOn (cOn (evS q σ) K (fun _ => none) w)) args vs) : Calls Tryz.prog 7 vs.toArray w fun e w' => Below w.heap.size w w'∧e=.returned (.bool true) :=
 Wd k (YD hσ Lw eM_sz eM_lt eM_cn hq h0 hH) (by simp [Xb]) (by kernel_rfl) hp hM hr (hA K)
theorem eM_leafC {H : List (Nat × Nat × Nat × Nat)} {K : List (FuncId × List AC)} {k : Nat} {q : Nat→Rat} {σ : Nat→ByteArray} {args : List AV} {vs : List Value} {w : World} (hr : (QR (sx Tryz.prog eM_N H K QP QT QQ (prC [32])) Qu k [] 7 args [] 0).map (·.1)=some (kB true)) (hσ : ∀ j,(σ j).size≤1048576) (hq : ∀ (a : Nat) nd,eM_N[a]? = some nd→q a=Zg σ q nd) (h0 : ∀ a,eM_N.length≤a→q a=0) (hH : Ww q H) (hp : Zf w) (hA : ∀ K,A2 (avOn (cOn (evS q σ) K (fun _ => none) w)) args vs) : Calls Tryz.prog 7 vs.toArray w fun e w' => Below w.heap.size w w'∧e=.returned (.bool true) :=
 XB k (YD hσ Lw eM_sz eM_lt eM_cn hq h0 hH) (by simp [Xb]) (by kernel_rfl) hr hp (hA K)
theorem eM_walk {w : World} {ga gb gc gd ha hb hc hd ia ib ic id : ByteArray}  (sga : ga.size≤1048576) (sgb : gb.size≤1048576) (sgc : gc.size≤1048576) (sgd : gd.size≤1048576) (sha : ha.size≤1048576) (shb : hb.size≤1048576) (shc : hc.size≤1048576) (shd : hd.size≤1048576) (sia : ia.size≤1048576) (sib : ib.size≤1048576) (sic : ic.size≤1048576) (sid : id.size≤1048576) (tab : Tab w) (mx : MaxL w) :
  Calls Tryz.prog 7 #[.agg #[.string ga,.string gb,.string gc,.string gd],.agg #[.string ha,.string hb,.string hc,.string hd],.agg #[.string ia,.string ib,.string ic,.string id]] w fun e w' => Below w.heap.size w w'∧e=.returned (.bool true) := by
 have hσ : ∀ j,(Io [ga,gb,gc,gd,ha,hb,hc,hd,ia,ib,ic,id] j).size≤1048576 := WM (by simp [sga,sgb,sgc,sgd,sha,shb,shc,shd,sia,sib,sic,sid])
 obtain ⟨q,hq,h0⟩ := Uw (Io [ga,gb,gc,gd,ha,hb,hc,hd,ia,ib,ic,id]) eM_N Lw
 have hA : ∀ K,A2 (avOn (cOn (evS q (Io [ga,gb,gc,gd,ha,hb,hc,hd,ia,ib,ic,id])) K (fun _ => none) w)) [(false,[(true,[.inr (2,0,0,0,0),.inr (2,1,0,0,0),.inr (2,2,0,0,0),.inr (2,3,0,0,0)])]),(false,[(true,[.inr (2,4,0,0,0),.inr (2,5,0,0,0),.inr (2,6,0,0,0),.inr (2,7,0,0,0)])]),(false,[(true,[.inr (2,8,0,0,0),.inr (2,9,0,0,0),.inr (2,10,0,0,0),.inr (2,11,0,0,0)])])] [.agg #[.string ga,.string gb,.string gc,.string gd],.agg #[.string ha,.string hb,.string hc,.string hd],.agg #[.string ia,.string ib,.string ic,.string id]] := fun K => ⟨⟨⟨[.string ga,.string gb,.string gc,.string gd],rfl,rfl,rfl,rfl,rfl,trivial⟩,trivial⟩,⟨⟨[.string ha,.string hb,.string hc,.string hd],rfl,rfl,rfl,rfl,rfl,trivial⟩,trivial⟩,⟨⟨[.string ia,.string ib,.string ic,.string id],rfl,rfl,rfl,rfl,rfl,trivial⟩,trivial⟩,trivial⟩
 have tm : Zf w := ⟨tab,mx⟩
 have mm := eM_memoG hσ hq h0 tm
 by_cases b8 : q 8=0
 ·
  exact Qh eM_r0 hσ hq h0 (Qa (hT b8) trivial) tm mm hA
 ·
  have x0 := eM_fS00 hq b8
  by_cases b21 : q 21=0
  ·
   exact Qh eM_r1 hσ hq h0 (Qa (hF b8) (Qa (hT b21) trivial)) tm mm hA
  ·
   have x1 := eM_fS10 hq b21
   by_cases b34 : q 34=0
   ·
    exact Qh eM_r2 hσ hq h0 (Qa (hF b8) (Qa (hF b21) (Qa (hT b34) trivial))) tm mm hA
   ·
    have x2 := eM_pDD hq b8 b21 b34
    have x3 := eM_fS20 hq b34
    by_cases b54 : q 54=0
    ·
     have x4 := eM_fD1 hq b8 b21 b34 b54
     by_cases b95 : q 95=0
     ·
      have x5 := eM_fO1 hq b8 b21 b34 b95
      by_cases b100 : q 100=0
      ·
       have x6 := eM_fAB1 hq b8 b21 b100
       by_cases b114 : q 114=0
       ·
        have x7 := eM_fBD1 hq b8 b21 b114
        by_cases b128 : q 128=0
        ·
         have x8 := Ln hq b8 b34 b128
         by_cases b142 : q 142=0
         ·
          have x9 := Hn hq b8 b34 b142
          have gT := x2.1 b54
          have b157 : q 157=0 := gT
          by_cases b0 : q 0=0
          ·
           have b13 : q 13=0 := ((eM_pk0 x0 x4 x6 b0))
           have b26 : q 26=0 := ((eM_pk1 x0 x4 x8 b0))
           by_cases b1 : q 1=0
           ·
            have b14 : q 14=0 := ((eM_pk2 x0 x4 x6 b1))
            have b27 : q 27=0 := ((eM_pk3 x0 x4 x8 b1))
            have b2 : ¬ (q 2=0) := ((eM_pk4 x0 x4 b0 b1))
            have b15 : ¬ (q 15=0) := ((EG x1 x4 b13 b14))
            have b28 : ¬ (q 28=0) := ((Et x3 x4 b26 b27))
            have b173 : q 173=0 := (Qt (GU hq b28) b28 (eM_pk7 x4 x6 x7 x8 x9 b2))
            have b175 : q 175=0 := (Qt (PY hq b28) b28 (eM_pk8 x4 x6 x8 x9))
            exact Qh eM_r3 hσ hq h0 (Qa (hF b8) (Qa (hF b21) (Qa (hF b34) (Qa (hT b54) (Qa (hT b95) (Qa (hT b100) (Qa (hT b114) (Qa (hT b128) (Qa (hT b142) (Qa (hT b157) (Qa (hT b0) (Qa (hT b13) (Qa (hT b26) (Qa (hT b1) (Qa (hT b14) (Qa (hT b27) (Qa (hF b2) (Qa (hF b15) (Qa (hF b28) (Qa (hT b173) (Qa (hT b175) trivial))))))))))))))))))))) tm mm hA
           ·
            have b14 : ¬ (q 14=0) := ((FW x1 x4 x6 b1))
            have b27 : ¬ (q 27=0) := ((GM x3 x4 x8 b1))
            have b182 : q 182=0 := (Qt (QJ hq b27) b27 (NY x4 x6 x8 b1))
            have b189 : q 189=0 := (Qt (Zh hq b27) b27 (GD x4 x8))
            have b191 : q 191=0 := (Qt (ZD hq b27) b27 (eM_pk13 x4 x6 x7 x8 x9 b1))
            have b193 : q 193=0 := (Qt (ZH hq b27) b27 (eM_pk14 x4 x6 x8 x9))
            exact Qh eM_r4 hσ hq h0 (Qa (hF b8) (Qa (hF b21) (Qa (hF b34) (Qa (hT b54) (Qa (hT b95) (Qa (hT b100) (Qa (hT b114) (Qa (hT b128) (Qa (hT b142) (Qa (hT b157) (Qa (hT b0) (Qa (hT b13) (Qa (hT b26) (Qa (hF b1) (Qa (hF b14) (Qa (hF b27) (Qa (hT b182) (Qa (hT b189) (Qa (hT b191) (Qa (hT b193) trivial)))))))))))))))))))) tm mm hA
          ·
           have b13 : ¬ (q 13=0) := ((GP x1 x4 x6 b0))
           have b26 : ¬ (q 26=0) := ((GF x3 x4 x8 b0))
           have b198 : q 198=0 := (Qt (Jz hq b26) b26 (Lg x4 x6 x8 b0))
           have b205 : q 205=0 := (Qt (JV hq b26) b26 (IL x4 x8))
           have b200 : q 200=0 := (Qt (Jw hq b26) b26 (Hb x4 x6 x8 b0))
           have b207 : q 207=0 := (Qt (JM hq b26) b26 (GN x4 x8))
           have b209 : q 209=0 := (Qt (Zz hq b26) b26 (eM_pk21 x4 x6 x7 x8 x9 b0))
           have b211 : q 211=0 := (Qt (ZF hq b26) b26 (eM_pk22 x4 x6 x8 x9))
           exact Qh eM_r5 hσ hq h0 (Qa (hF b8) (Qa (hF b21) (Qa (hF b34) (Qa (hT b54) (Qa (hT b95) (Qa (hT b100) (Qa (hT b114) (Qa (hT b128) (Qa (hT b142) (Qa (hT b157) (Qa (hF b0) (Qa (hF b13) (Qa (hF b26) (Qa (hT b198) (Qa (hT b205) (Qa (hT b200) (Qa (hT b207) (Qa (hT b209) (Qa (hT b211) trivial))))))))))))))))))) tm mm hA
         ·
          have x10 := eM_fCD0 hq b8 b34 b142
          have gT := x2.1 b54
          have b157 : q 157=0 := gT
          by_cases b0 : q 0=0
          ·
           have b13 : q 13=0 := ((eM_pk23 x4 x6 x7 x10 b0))
           have b26 : q 26=0 := ((eM_pk24 x1 x4 x7 x8 x10 b0))
           by_cases b1 : q 1=0
           ·
            have b14 : q 14=0 := ((eM_pk25 x4 x6 x7 x10 b1))
            have b27 : q 27=0 := ((eM_pk26 x1 x4 x7 x8 x10 b1))
            have b2 : ¬ (q 2=0) := ((eM_pk27 x1 x4 x7 x10 b0 b1))
            have b15 : ¬ (q 15=0) := ((EG x1 x4 b13 b14))
            have b28 : ¬ (q 28=0) := ((Et x3 x4 b26 b27))
            have b173 : ¬ (q 173=0) := (Qo (GU hq b28) (eM_pk28 x4 x6 x7 x8 x10 b15))
            have b175 : ¬ (q 175=0) := (Qo (PY hq b28) (eM_pk29 x4 x6 x8 x10 b28))
            exact Qh eM_r6 hσ hq h0 (Qa (hF b8) (Qa (hF b21) (Qa (hF b34) (Qa (hT b54) (Qa (hT b95) (Qa (hT b100) (Qa (hT b114) (Qa (hT b128) (Qa (hF b142) (Qa (hT b157) (Qa (hT b0) (Qa (hT b13) (Qa (hT b26) (Qa (hT b1) (Qa (hT b14) (Qa (hT b27) (Qa (hF b2) (Qa (hF b15) (Qa (hF b28) (Qa (hF b173) (Qa (hF b175) trivial))))))))))))))))))))) tm mm hA
           ·
            have b14 : ¬ (q 14=0) := ((FW x1 x4 x6 b1))
            have b27 : ¬ (q 27=0) := ((GM x3 x4 x8 b1))
            have b182 : q 182=0 := (Qt (QJ hq b27) b27 (NY x4 x6 x8 b1))
            have b189 : q 189=0 := (Qt (Zh hq b27) b27 (GD x4 x8))
            have b191 : ¬ (q 191=0) := (Qo (ZD hq b27) (eM_pk30 x4 x6 x7 x8 x10 b14))
            have b193 : ¬ (q 193=0) := (Qo (ZH hq b27) (eM_pk31 x4 x6 x8 x10 b27))
            exact Qh eM_r7 hσ hq h0 (Qa (hF b8) (Qa (hF b21) (Qa (hF b34) (Qa (hT b54) (Qa (hT b95) (Qa (hT b100) (Qa (hT b114) (Qa (hT b128) (Qa (hF b142) (Qa (hT b157) (Qa (hT b0) (Qa (hT b13) (Qa (hT b26) (Qa (hF b1) (Qa (hF b14) (Qa (hF b27) (Qa (hT b182) (Qa (hT b189) (Qa (hF b191) (Qa (hF b193) trivial)))))))))))))))))))) tm mm hA
          ·
           have b13 : ¬ (q 13=0) := ((GP x1 x4 x6 b0))
           have b26 : ¬ (q 26=0) := ((GF x3 x4 x8 b0))
           have b198 : q 198=0 := (Qt (Jz hq b26) b26 (Lg x4 x6 x8 b0))
           have b205 : q 205=0 := (Qt (JV hq b26) b26 (IL x4 x8))
           have b200 : q 200=0 := (Qt (Jw hq b26) b26 (Hb x4 x6 x8 b0))
           have b207 : q 207=0 := (Qt (JM hq b26) b26 (GN x4 x8))
           have b209 : ¬ (q 209=0) := (Qo (Zz hq b26) (eM_pk32 x4 x6 x7 x8 x10 b13))
           have b211 : ¬ (q 211=0) := (Qo (ZF hq b26) (eM_pk33 x4 x6 x8 x10 (Zj (Jz hq b26) b198) (Zj (Jw hq b26) b200) (Qk (Zz hq b26) b26 b209)))
           exact Qh eM_r8 hσ hq h0 (Qa (hF b8) (Qa (hF b21) (Qa (hF b34) (Qa (hT b54) (Qa (hT b95) (Qa (hT b100) (Qa (hT b114) (Qa (hT b128) (Qa (hF b142) (Qa (hT b157) (Qa (hF b0) (Qa (hF b13) (Qa (hF b26) (Qa (hT b198) (Qa (hT b205) (Qa (hT b200) (Qa (hT b207) (Qa (hF b209) (Qa (hF b211) trivial))))))))))))))))))) tm mm hA
        ·
         have x11 := Lc hq b8 b34 b128
         have gT := x2.1 b54
         have b157 : q 157=0 := gT
         by_cases b0 : q 0=0
         ·
          have b13 : q 13=0 := ((eM_pk34 x4 x6 x11 b0))
          by_cases b26 : q 26=0
          ·
           by_cases b1 : q 1=0
           ·
            have b14 : q 14=0 := ((eM_pk35 x4 x6 x11 b1))
            have b27 : ¬ (q 27=0) := ((eM_pk36 x4 x11 b0 b26 b1))
            have b182 : ¬ (q 182=0) := (Qo (QJ hq b27) (FH x1 x4 b13 b14 b27))
            have b189 : ¬ (q 189=0) := (Qo (Zh hq b27) (TL x4 x11 (Qk (QJ hq b27) b27 b182)))
            have b247 : q 247=0 := (Qt (Xt hq b27 b189 (ZD hq b27) (ZH hq b27) (QJ hq b27) (Zh hq b27)) (Qk (Zh hq b27) b27 b189) (eM_pk39 x4 x7 b1 b14))
            exact Qh eM_r9 hσ hq h0 (Qa (hF b8) (Qa (hF b21) (Qa (hF b34) (Qa (hT b54) (Qa (hT b95) (Qa (hT b100) (Qa (hT b114) (Qa (hF b128) (Qa (hT b157) (Qa (hT b0) (Qa (hT b13) (Qa (hT b26) (Qa (hT b1) (Qa (hT b14) (Qa (hF b27) (Qa (hF b182) (Qa (hF b189) (Qa (hT b247) trivial)))))))))))))))))) tm mm hA
           ·
            have b14 : ¬ (q 14=0) := ((FW x1 x4 x6 b1))
            by_cases b27 : q 27=0
            ·
             have b254 : q 254=0 := (Qt (Xn hq b14) b14 (eM_pk40 x4 x6))
             have b261 : ¬ (q 261=0) := (Qo (Xs hq b14) (eM_pk41 x4 x11 b26 b14 b27))
             have b274 : q 274=0 := (Qt (Oj hq b14 b261 (WZ hq b14) (Ol hq b14) (Xn hq b14) (Xs hq b14)) (Qk (Xs hq b14) b14 b261) (eM_pk42 x4 x7 (Zj (Xn hq b14) b254)))
             exact Qh eM_r10 hσ hq h0 (Qa (hF b8) (Qa (hF b21) (Qa (hF b34) (Qa (hT b54) (Qa (hT b95) (Qa (hT b100) (Qa (hT b114) (Qa (hF b128) (Qa (hT b157) (Qa (hT b0) (Qa (hT b13) (Qa (hT b26) (Qa (hF b1) (Qa (hF b14) (Qa (hT b27) (Qa (hT b254) (Qa (hF b261) (Qa (hT b274) trivial)))))))))))))))))) tm mm hA
            ·
             have b182 : ¬ (q 182=0) := (Qo (QJ hq b27) (eM_pk43 x4 x6 x11 b13 b26 b14))
             have b189 : ¬ (q 189=0) := (Qo (Zh hq b27) (TL x4 x11 (Qk (QJ hq b27) b27 b182)))
             have b247 : q 247=0 := (Qt (Xt hq b27 b189 (ZD hq b27) (ZH hq b27) (QJ hq b27) (Zh hq b27)) (Qk (Zh hq b27) b27 b189) (eM_pk44 x4 x6 x7))
             exact Qh eM_r11 hσ hq h0 (Qa (hF b8) (Qa (hF b21) (Qa (hF b34) (Qa (hT b54) (Qa (hT b95) (Qa (hT b100) (Qa (hT b114) (Qa (hF b128) (Qa (hT b157) (Qa (hT b0) (Qa (hT b13) (Qa (hT b26) (Qa (hF b1) (Qa (hF b14) (Qa (hF b27) (Qa (hF b182) (Qa (hF b189) (Qa (hT b247) trivial)))))))))))))))))) tm mm hA
          ·
           have x12 := JV hq b26
           have x13 := Jz hq b26
           have x14 := Jw hq b26
           have x15 := JM hq b26
           by_cases b198 : q 198=0
           ·
            have b205 : q 205=0 := (Qt x12 b26 (Sj x1 x4 b13 b26 (Zj x13 b198)))
            have b200 : ¬ (q 200=0) := (Qo x14 (Ba x1 x4 b13 b26 (Zj x13 b198)))
            have b207 : ¬ (q 207=0) := (Qo x15 (To x4 x11 (Qk x14 b26 b200)))
            have b283 : q 283=0 := (Qt (Xr hq b26 b207 (Zz hq b26) (ZF hq b26) x14 x15) (Qk x15 b26 b207) (eM_pk48 x4 x7 b0 b13))
            exact Qh eM_r12 hσ hq h0 (Qa (hF b8) (Qa (hF b21) (Qa (hF b34) (Qa (hT b54) (Qa (hT b95) (Qa (hT b100) (Qa (hT b114) (Qa (hF b128) (Qa (hT b157) (Qa (hT b0) (Qa (hT b13) (Qa (hF b26) (Qa (hT b198) (Qa (hT b205) (Qa (hF b200) (Qa (hF b207) (Qa (hT b283) trivial))))))))))))))))) tm mm hA
           ·
            have b205 : ¬ (q 205=0) := (Qo x12 (Tv x4 x11 (Qk x13 b26 b198)))
            have b290 : q 290=0 := (Qt (Xp hq b26 b205 x14 x15 x13 x12) (Qk x12 b26 b205) (Yf x4))
            have b292 : q 292=0 := (Qt (Xm hq b26 b205 (Zz hq b26) (ZF hq b26) x13 x12) (Qk x12 b26 b205) (eM_pk51 x4 x7 b0 b13))
            exact Qh eM_r13 hσ hq h0 (Qa (hF b8) (Qa (hF b21) (Qa (hF b34) (Qa (hT b54) (Qa (hT b95) (Qa (hT b100) (Qa (hT b114) (Qa (hF b128) (Qa (hT b157) (Qa (hT b0) (Qa (hT b13) (Qa (hF b26) (Qa (hF b198) (Qa (hF b205) (Qa (hT b290) (Qa (hT b292) trivial)))))))))))))))) tm mm hA
         ·
          have b13 : ¬ (q 13=0) := ((GP x1 x4 x6 b0))
          have x16 := IE hq b13
          have x17 := Ic hq b13
          have x18 := Ix hq b13
          have x19 := Ih hq b13
          by_cases b26 : q 26=0
          ·
           have b297 : q 297=0 := (Qt x16 b13 (eM_pk52 x4 x6))
           by_cases b304 : q 304=0
           ·
            have b299 : q 299=0 := (Qt x17 b13 (eM_pk53 x4 x6))
            have b306 : ¬ (q 306=0) := (Qo x18 (eM_pk54 x4 x11 b13 (Zj x16 b297) (Zj x19 b304) (Zj x17 b299)))
            have b319 : q 319=0 := (Qt (WO hq b13 b306 (Vn hq b13) (Vx hq b13) x17 x18) (Qk x18 b13 b306) (eM_pk55 x4 x7 (Zj x17 b299)))
            exact Qh eM_r14 hσ hq h0 (Qa (hF b8) (Qa (hF b21) (Qa (hF b34) (Qa (hT b54) (Qa (hT b95) (Qa (hT b100) (Qa (hT b114) (Qa (hF b128) (Qa (hT b157) (Qa (hF b0) (Qa (hF b13) (Qa (hT b26) (Qa (hT b297) (Qa (hT b304) (Qa (hT b299) (Qa (hF b306) (Qa (hT b319) trivial))))))))))))))))) tm mm hA
           ·
            have b326 : q 326=0 := (Qt (WS hq b13 b304 x17 x18 x16 x19) (Qk x19 b13 b304) (IW x4))
            have b328 : q 328=0 := (Qt (WW hq b13 b304 (Vn hq b13) (Vx hq b13) x16 x19) (Qk x19 b13 b304) (eM_pk57 x4 x7 (Zj x16 b297)))
            exact Qh eM_r15 hσ hq h0 (Qa (hF b8) (Qa (hF b21) (Qa (hF b34) (Qa (hT b54) (Qa (hT b95) (Qa (hT b100) (Qa (hT b114) (Qa (hF b128) (Qa (hT b157) (Qa (hF b0) (Qa (hF b13) (Qa (hT b26) (Qa (hT b297) (Qa (hF b304) (Qa (hT b326) (Qa (hT b328) trivial)))))))))))))))) tm mm hA
          ·
           have x12 := JV hq b26
           have x13 := Jz hq b26
           have x14 := Jw hq b26
           have x15 := JM hq b26
           by_cases b198 : q 198=0
           ·
            have b205 : q 205=0 := (Qt x12 b26 (Hd x4 x6 b13 (Zj x13 b198)))
            have b200 : ¬ (q 200=0) := (Qo x14 (eM_pk59 x4 x6 x11 b13 (Zj x12 b205)))
            have b207 : ¬ (q 207=0) := (Qo x15 (To x4 x11 (Qk x14 b26 b200)))
            have b283 : q 283=0 := (Qt (Xr hq b26 b207 (Zz hq b26) (ZF hq b26) x14 x15) (Qk x15 b26 b207) (eM_pk60 x4 x6 x7))
            exact Qh eM_r16 hσ hq h0 (Qa (hF b8) (Qa (hF b21) (Qa (hF b34) (Qa (hT b54) (Qa (hT b95) (Qa (hT b100) (Qa (hT b114) (Qa (hF b128) (Qa (hT b157) (Qa (hF b0) (Qa (hF b13) (Qa (hF b26) (Qa (hT b198) (Qa (hT b205) (Qa (hF b200) (Qa (hF b207) (Qa (hT b283) trivial))))))))))))))))) tm mm hA
           ·
            have b205 : ¬ (q 205=0) := (Qo x12 (Tv x4 x11 (Qk x13 b26 b198)))
            have b290 : q 290=0 := (Qt (Xp hq b26 b205 x14 x15 x13 x12) (Qk x12 b26 b205) (Yf x4))
            have b292 : q 292=0 := (Qt (Xm hq b26 b205 (Zz hq b26) (ZF hq b26) x13 x12) (Qk x12 b26 b205) (eM_pk61 x4 x6 x7))
            exact Qh eM_r17 hσ hq h0 (Qa (hF b8) (Qa (hF b21) (Qa (hF b34) (Qa (hT b54) (Qa (hT b95) (Qa (hT b100) (Qa (hT b114) (Qa (hF b128) (Qa (hT b157) (Qa (hF b0) (Qa (hF b13) (Qa (hF b26) (Qa (hF b198) (Qa (hF b205) (Qa (hT b290) (Qa (hT b292) trivial)))))))))))))))) tm mm hA
       ·
        have x20 := eM_fBD0 hq b8 b21 b114
        have gT := x2.1 b54
        have b157 : q 157=0 := gT
        by_cases b0 : q 0=0
        ·
         have b13 : q 13=0 := ((eM_pk0 x0 x4 x6 b0))
         have b26 : q 26=0 := ((eM_pk62 x4 x5 x20 b0 b13))
         by_cases b1 : q 1=0
         ·
          have b14 : q 14=0 := ((eM_pk2 x0 x4 x6 b1))
          have b27 : q 27=0 := ((eM_pk63 x4 x5 x20 b1 b14))
          have b2 : ¬ (q 2=0) := ((eM_pk4 x0 x4 b0 b1))
          have b15 : ¬ (q 15=0) := ((EG x1 x4 b13 b14))
          have b28 : ¬ (q 28=0) := ((Et x3 x4 b26 b27))
          by_cases b173 : q 173=0
          ·
           have b175 : ¬ (q 175=0) := (Qo (PY hq b28) (eM_pk64 x4 x6 x20 b28 (Zj (GU hq b28) b173)))
           exact Qh eM_r18 hσ hq h0 (Qa (hF b8) (Qa (hF b21) (Qa (hF b34) (Qa (hT b54) (Qa (hT b95) (Qa (hT b100) (Qa (hF b114) (Qa (hT b157) (Qa (hT b0) (Qa (hT b13) (Qa (hT b26) (Qa (hT b1) (Qa (hT b14) (Qa (hT b27) (Qa (hF b2) (Qa (hF b15) (Qa (hF b28) (Qa (hT b173) (Qa (hF b175) trivial))))))))))))))))))) tm mm hA
          ·
           by_cases b175 : q 175=0
           ·
            exact Qh eM_r19 hσ hq h0 (Qa (hF b8) (Qa (hF b21) (Qa (hF b34) (Qa (hT b54) (Qa (hT b95) (Qa (hT b100) (Qa (hF b114) (Qa (hT b157) (Qa (hT b0) (Qa (hT b13) (Qa (hT b26) (Qa (hT b1) (Qa (hT b14) (Qa (hT b27) (Qa (hF b2) (Qa (hF b15) (Qa (hF b28) (Qa (hF b173) (Qa (hT b175) trivial))))))))))))))))))) tm mm hA
           ·
            exact Qh eM_r20 hσ hq h0 (Qa (hF b8) (Qa (hF b21) (Qa (hF b34) (Qa (hT b54) (Qa (hT b95) (Qa (hT b100) (Qa (hF b114) (Qa (hT b157) (Qa (hT b0) (Qa (hT b13) (Qa (hT b26) (Qa (hT b1) (Qa (hT b14) (Qa (hT b27) (Qa (hF b2) (Qa (hF b15) (Qa (hF b28) (Qa (hF b173) (Qa (hF b175) trivial))))))))))))))))))) tm mm hA
         ·
          have b14 : ¬ (q 14=0) := ((FW x1 x4 x6 b1))
          have b27 : ¬ (q 27=0) := ((eM_pk65 x3 x4 x5 x6 x20 b14))
          have b182 : q 182=0 := (Qt (QJ hq b27) b27 (eM_pk66 x4 x5 x6 x20))
          have b189 : q 189=0 := (Qt (Zh hq b27) b27 (eM_pk67 x4 x6 b14 (Zj (QJ hq b27) b182)))
          by_cases b191 : q 191=0
          ·
           have b193 : ¬ (q 193=0) := (Qo (ZH hq b27) (eM_pk68 x4 x6 x20 b27 (Zj (ZD hq b27) b191)))
           exact Qh eM_r21 hσ hq h0 (Qa (hF b8) (Qa (hF b21) (Qa (hF b34) (Qa (hT b54) (Qa (hT b95) (Qa (hT b100) (Qa (hF b114) (Qa (hT b157) (Qa (hT b0) (Qa (hT b13) (Qa (hT b26) (Qa (hF b1) (Qa (hF b14) (Qa (hF b27) (Qa (hT b182) (Qa (hT b189) (Qa (hT b191) (Qa (hF b193) trivial)))))))))))))))))) tm mm hA
          ·
           by_cases b193 : q 193=0
           ·
            exact Qh eM_r22 hσ hq h0 (Qa (hF b8) (Qa (hF b21) (Qa (hF b34) (Qa (hT b54) (Qa (hT b95) (Qa (hT b100) (Qa (hF b114) (Qa (hT b157) (Qa (hT b0) (Qa (hT b13) (Qa (hT b26) (Qa (hF b1) (Qa (hF b14) (Qa (hF b27) (Qa (hT b182) (Qa (hT b189) (Qa (hF b191) (Qa (hT b193) trivial)))))))))))))))))) tm mm hA
           ·
            exact Qh eM_r23 hσ hq h0 (Qa (hF b8) (Qa (hF b21) (Qa (hF b34) (Qa (hT b54) (Qa (hT b95) (Qa (hT b100) (Qa (hF b114) (Qa (hT b157) (Qa (hT b0) (Qa (hT b13) (Qa (hT b26) (Qa (hF b1) (Qa (hF b14) (Qa (hF b27) (Qa (hT b182) (Qa (hT b189) (Qa (hF b191) (Qa (hF b193) trivial)))))))))))))))))) tm mm hA
        ·
         have b13 : ¬ (q 13=0) := ((GP x1 x4 x6 b0))
         have b26 : ¬ (q 26=0) := ((eM_pk69 x3 x4 x5 x6 x20 b13))
         have b198 : q 198=0 := (Qt (Jz hq b26) b26 (eM_pk70 x4 x5 x6 x20))
         have b205 : q 205=0 := (Qt (JV hq b26) b26 (Hd x4 x6 b13 (Zj (Jz hq b26) b198)))
         have b200 : q 200=0 := (Qt (Jw hq b26) b26 (eM_pk71 x4 x5 x6 x20))
         have b207 : q 207=0 := (Qt (JM hq b26) b26 (eM_pk72 x4 x6 b13 (Zj (Jw hq b26) b200)))
         by_cases b209 : q 209=0
         ·
          have b211 : ¬ (q 211=0) := (Qo (ZF hq b26) (eM_pk73 x4 x6 x20 b26 (Zj (Zz hq b26) b209)))
          exact Qh eM_r24 hσ hq h0 (Qa (hF b8) (Qa (hF b21) (Qa (hF b34) (Qa (hT b54) (Qa (hT b95) (Qa (hT b100) (Qa (hF b114) (Qa (hT b157) (Qa (hF b0) (Qa (hF b13) (Qa (hF b26) (Qa (hT b198) (Qa (hT b205) (Qa (hT b200) (Qa (hT b207) (Qa (hT b209) (Qa (hF b211) trivial))))))))))))))))) tm mm hA
         ·
          by_cases b211 : q 211=0
          ·
           exact Qh eM_r25 hσ hq h0 (Qa (hF b8) (Qa (hF b21) (Qa (hF b34) (Qa (hT b54) (Qa (hT b95) (Qa (hT b100) (Qa (hF b114) (Qa (hT b157) (Qa (hF b0) (Qa (hF b13) (Qa (hF b26) (Qa (hT b198) (Qa (hT b205) (Qa (hT b200) (Qa (hT b207) (Qa (hF b209) (Qa (hT b211) trivial))))))))))))))))) tm mm hA
          ·
           exact Qh eM_r26 hσ hq h0 (Qa (hF b8) (Qa (hF b21) (Qa (hF b34) (Qa (hT b54) (Qa (hT b95) (Qa (hT b100) (Qa (hF b114) (Qa (hT b157) (Qa (hF b0) (Qa (hF b13) (Qa (hF b26) (Qa (hT b198) (Qa (hT b205) (Qa (hT b200) (Qa (hT b207) (Qa (hF b209) (Qa (hF b211) trivial))))))))))))))))) tm mm hA
      ·
       have x21 := eM_fAB0 hq b8 b21 b100
       by_cases b128 : q 128=0
       ·
        have x8 := Ln hq b8 b34 b128
        have b142 : q 142=0 := ((Eu hq b8 b34).2 (eM_pk74 x4 x5 x21 x8))
        have x9 := Hn hq b8 b34 b142
        have gT := x2.1 b54
        have b157 : q 157=0 := gT
        by_cases b0 : q 0=0
        ·
         by_cases b13 : q 13=0
         ·
          have b26 : q 26=0 := ((LK x4 x21 b0 b13))
          by_cases b1 : q 1=0
          ·
           have b14 : ¬ (q 14=0) := ((Hg x4 x21 b0 b13 b1))
           have b27 : q 27=0 := ((eM_pk77 x4 x21 x8 b1))
           have b254 : ¬ (q 254=0) := (Qo (Xn hq b14) (eM_pk78 x4 x21 b0 b1 b14))
           have b261 : ¬ (q 261=0) := (Qo (Xs hq b14) (Sa x3 x4 b14 b27 (Qk (Xn hq b14) b14 b254)))
           have b274 : q 274=0 := (Qt (Oj hq b14 b261 (WZ hq b14) (Ol hq b14) (Xn hq b14) (Xs hq b14)) (Qk (Xs hq b14) b14 b261) (eM_pk80 x4 x9 b1 b27))
           exact Qh eM_r27 hσ hq h0 (Qa (hF b8) (Qa (hF b21) (Qa (hF b34) (Qa (hT b54) (Qa (hT b95) (Qa (hF b100) (Qa (hT b128) (Qa (hT b142) (Qa (hT b157) (Qa (hT b0) (Qa (hT b13) (Qa (hT b26) (Qa (hT b1) (Qa (hF b14) (Qa (hT b27) (Qa (hF b254) (Qa (hF b261) (Qa (hT b274) trivial)))))))))))))))))) tm mm hA
          ·
           by_cases b14 : q 14=0
           ·
            have b27 : ¬ (q 27=0) := ((GM x3 x4 x8 b1))
            have b182 : ¬ (q 182=0) := (Qo (QJ hq b27) (Ll x4 x21 b13 b14 b27))
            have b189 : q 189=0 := (Qt (Zh hq b27) b27 (GD x4 x8))
            have b364 : q 364=0 := (Qt (RO hq b27 b182 (ZH hq b27) (ZD hq b27) (Zh hq b27) (QJ hq b27)) (Qk (QJ hq b27) b27 b182) (Ld x4 x9 (Zj (Zh hq b27) b189)))
            exact Qh eM_r28 hσ hq h0 (Qa (hF b8) (Qa (hF b21) (Qa (hF b34) (Qa (hT b54) (Qa (hT b95) (Qa (hF b100) (Qa (hT b128) (Qa (hT b142) (Qa (hT b157) (Qa (hT b0) (Qa (hT b13) (Qa (hT b26) (Qa (hF b1) (Qa (hT b14) (Qa (hF b27) (Qa (hF b182) (Qa (hT b189) (Qa (hT b364) trivial)))))))))))))))))) tm mm hA
           ·
            have b27 : ¬ (q 27=0) := ((GM x3 x4 x8 b1))
            have b182 : ¬ (q 182=0) := (Qo (QJ hq b27) (eM_pk83 x4 x21 x8 b13 b26 b27))
            have b189 : q 189=0 := (Qt (Zh hq b27) b27 (GD x4 x8))
            have b364 : q 364=0 := (Qt (RO hq b27 b182 (ZH hq b27) (ZD hq b27) (Zh hq b27) (QJ hq b27)) (Qk (QJ hq b27) b27 b182) (Ld x4 x9 (Zj (Zh hq b27) b189)))
            exact Qh eM_r29 hσ hq h0 (Qa (hF b8) (Qa (hF b21) (Qa (hF b34) (Qa (hT b54) (Qa (hT b95) (Qa (hF b100) (Qa (hT b128) (Qa (hT b142) (Qa (hT b157) (Qa (hT b0) (Qa (hT b13) (Qa (hT b26) (Qa (hF b1) (Qa (hF b14) (Qa (hF b27) (Qa (hF b182) (Qa (hT b189) (Qa (hT b364) trivial)))))))))))))))))) tm mm hA
         ·
          have x19 := Ih hq b13
          have x16 := IE hq b13
          have x17 := Ic hq b13
          have x18 := Ix hq b13
          have b26 : q 26=0 := ((eM_pk84 x4 x21 x8 b0))
          by_cases b297 : q 297=0
          ·
           have b304 : q 304=0 := (Qt x19 b13 (Hz x4 x21 (Zj x16 b297)))
           have b299 : ¬ (q 299=0) := (Qo x17 (Lz x4 x21 b13 (Zj x16 b297)))
           have b306 : ¬ (q 306=0) := (Qo x18 (Ss x3 x4 b13 b26 (Qk x17 b13 b299)))
           have b319 : q 319=0 := (Qt (WO hq b13 b306 (Vn hq b13) (Vx hq b13) x17 x18) (Qk x18 b13 b306) (eM_pk88 x4 x9 b0 b26))
           exact Qh eM_r30 hσ hq h0 (Qa (hF b8) (Qa (hF b21) (Qa (hF b34) (Qa (hT b54) (Qa (hT b95) (Qa (hF b100) (Qa (hT b128) (Qa (hT b142) (Qa (hT b157) (Qa (hT b0) (Qa (hF b13) (Qa (hT b26) (Qa (hT b297) (Qa (hT b304) (Qa (hF b299) (Qa (hF b306) (Qa (hT b319) trivial))))))))))))))))) tm mm hA
          ·
           have b304 : ¬ (q 304=0) := (Qo x19 (Sr x3 x4 b13 b26 (Qk x16 b13 b297)))
           have b326 : q 326=0 := (Qt (WS hq b13 b304 x17 x18 x16 x19) (Qk x19 b13 b304) (IW x4))
           have b328 : q 328=0 := (Qt (WW hq b13 b304 (Vn hq b13) (Vx hq b13) x16 x19) (Qk x19 b13 b304) (eM_pk90 x4 x9 b0 b26))
           exact Qh eM_r31 hσ hq h0 (Qa (hF b8) (Qa (hF b21) (Qa (hF b34) (Qa (hT b54) (Qa (hT b95) (Qa (hF b100) (Qa (hT b128) (Qa (hT b142) (Qa (hT b157) (Qa (hT b0) (Qa (hF b13) (Qa (hT b26) (Qa (hF b297) (Qa (hF b304) (Qa (hT b326) (Qa (hT b328) trivial)))))))))))))))) tm mm hA
        ·
         by_cases b13 : q 13=0
         ·
          have b26 : ¬ (q 26=0) := ((GF x3 x4 x8 b0))
          have x12 := JV hq b26
          have x14 := Jw hq b26
          have x13 := Jz hq b26
          have x15 := JM hq b26
          by_cases b198 : q 198=0
          ·
           have b205 : q 205=0 := (Qt x12 b26 (IL x4 x8))
           have b200 : ¬ (q 200=0) := (Qo x14 (Hu x4 x21 b13 b26 (Zj x13 b198)))
           have b207 : q 207=0 := (Qt x15 b26 (GN x4 x8))
           have b373 : q 373=0 := (Qt (Tw hq b26 b200 (ZF hq b26) (Zz hq b26) x15 x14) (Qk x14 b26 b200) (Lf x4 x9 (Zj x15 b207)))
           exact Qh eM_r32 hσ hq h0 (Qa (hF b8) (Qa (hF b21) (Qa (hF b34) (Qa (hT b54) (Qa (hT b95) (Qa (hF b100) (Qa (hT b128) (Qa (hT b142) (Qa (hT b157) (Qa (hF b0) (Qa (hT b13) (Qa (hF b26) (Qa (hT b198) (Qa (hT b205) (Qa (hF b200) (Qa (hT b207) (Qa (hT b373) trivial))))))))))))))))) tm mm hA
          ·
           have b205 : q 205=0 := (Qt x12 b26 (IL x4 x8))
           have b380 : q 380=0 := (Qt (RU hq b26 b198 x15 x14 x12 x13) (Qk x13 b26 b198) (GJ x4))
           have b382 : q 382=0 := (Qt (Kd hq b26 b198 (ZF hq b26) (Zz hq b26) x12 x13) (Qk x13 b26 b198) (LM x4 x9 (Zj x12 b205)))
           exact Qh eM_r33 hσ hq h0 (Qa (hF b8) (Qa (hF b21) (Qa (hF b34) (Qa (hT b54) (Qa (hT b95) (Qa (hF b100) (Qa (hT b128) (Qa (hT b142) (Qa (hT b157) (Qa (hF b0) (Qa (hT b13) (Qa (hF b26) (Qa (hF b198) (Qa (hT b205) (Qa (hT b380) (Qa (hT b382) trivial)))))))))))))))) tm mm hA
         ·
          have b26 : ¬ (q 26=0) := ((GF x3 x4 x8 b0))
          have x12 := JV hq b26
          have x14 := Jw hq b26
          have x13 := Jz hq b26
          have x15 := JM hq b26
          by_cases b198 : q 198=0
          ·
           have b205 : q 205=0 := (Qt x12 b26 (IL x4 x8))
           have b200 : ¬ (q 200=0) := (Qo x14 (eM_pk95 x4 x21 x8 b26 (Zj x13 b198)))
           have b207 : q 207=0 := (Qt x15 b26 (GN x4 x8))
           have b373 : q 373=0 := (Qt (Tw hq b26 b200 (ZF hq b26) (Zz hq b26) x15 x14) (Qk x14 b26 b200) (Lf x4 x9 (Zj x15 b207)))
           exact Qh eM_r34 hσ hq h0 (Qa (hF b8) (Qa (hF b21) (Qa (hF b34) (Qa (hT b54) (Qa (hT b95) (Qa (hF b100) (Qa (hT b128) (Qa (hT b142) (Qa (hT b157) (Qa (hF b0) (Qa (hF b13) (Qa (hF b26) (Qa (hT b198) (Qa (hT b205) (Qa (hF b200) (Qa (hT b207) (Qa (hT b373) trivial))))))))))))))))) tm mm hA
          ·
           have b205 : q 205=0 := (Qt x12 b26 (IL x4 x8))
           have b380 : q 380=0 := (Qt (RU hq b26 b198 x15 x14 x12 x13) (Qk x13 b26 b198) (GJ x4))
           have b382 : q 382=0 := (Qt (Kd hq b26 b198 (ZF hq b26) (Zz hq b26) x12 x13) (Qk x13 b26 b198) (LM x4 x9 (Zj x12 b205)))
           exact Qh eM_r35 hσ hq h0 (Qa (hF b8) (Qa (hF b21) (Qa (hF b34) (Qa (hT b54) (Qa (hT b95) (Qa (hF b100) (Qa (hT b128) (Qa (hT b142) (Qa (hT b157) (Qa (hF b0) (Qa (hF b13) (Qa (hF b26) (Qa (hF b198) (Qa (hT b205) (Qa (hT b380) (Qa (hT b382) trivial)))))))))))))))) tm mm hA
       ·
        have x11 := Lc hq b8 b34 b128
        have gT := x2.1 b54
        have b157 : q 157=0 := gT
        by_cases b0 : q 0=0
        ·
         by_cases b13 : q 13=0
         ·
          have b26 : q 26=0 := ((LK x4 x21 b0 b13))
          by_cases b1 : q 1=0
          ·
           have b14 : ¬ (q 14=0) := ((Hg x4 x21 b0 b13 b1))
           have b27 : ¬ (q 27=0) := ((eM_pk96 x4 x11 b1 b14))
           have x22 := Zh hq b27
           by_cases b182 : q 182=0
           ·
            have b189 : ¬ (q 189=0) := (Qo x22 (eM_pk97 x4 x11 b0 b1 b27))
            have b247 : q 247=0 := (Qt (Xt hq b27 b189 (ZD hq b27) (ZH hq b27) (QJ hq b27) x22) (Qk x22 b27 b189) (RQ x4 x5))
            exact Qh eM_r36 hσ hq h0 (Qa (hF b8) (Qa (hF b21) (Qa (hF b34) (Qa (hT b54) (Qa (hT b95) (Qa (hF b100) (Qa (hF b128) (Qa (hT b157) (Qa (hT b0) (Qa (hT b13) (Qa (hT b26) (Qa (hT b1) (Qa (hF b14) (Qa (hF b27) (Qa (hT b182) (Qa (hF b189) (Qa (hT b247) trivial))))))))))))))))) tm mm hA
           ·
            have b189 : ¬ (q 189=0) := (Qo x22 (TL x4 x11 (Qk (QJ hq b27) b27 b182)))
            have b247 : q 247=0 := (Qt (Xt hq b27 b189 (ZD hq b27) (ZH hq b27) (QJ hq b27) x22) (Qk x22 b27 b189) (RQ x4 x5))
            exact Qh eM_r37 hσ hq h0 (Qa (hF b8) (Qa (hF b21) (Qa (hF b34) (Qa (hT b54) (Qa (hT b95) (Qa (hF b100) (Qa (hF b128) (Qa (hT b157) (Qa (hT b0) (Qa (hT b13) (Qa (hT b26) (Qa (hT b1) (Qa (hF b14) (Qa (hF b27) (Qa (hF b182) (Qa (hF b189) (Qa (hT b247) trivial))))))))))))))))) tm mm hA
          ·
           by_cases b14 : q 14=0
           ·
            by_cases b27 : q 27=0
            ·
             have b389 : ¬ (q 389=0) := (Qo (On hq b1) (eM_pk99 x4 x21 b13 b1 b14))
             have b396 : ¬ (q 396=0) := (Qo (Og hq b1) (eM_pk100 x4 x11 (Qk (On hq b1) b1 b389)))
             have b409 : q 409=0 := (Qt (Ma hq b1 b396 (Ec hq b1) (CJ hq b1) (On hq b1) (Og hq b1)) (Qk (Og hq b1) b1 b396) (eM_pk101 x4 x5))
             exact Qh eM_r38 hσ hq h0 (Qa (hF b8) (Qa (hF b21) (Qa (hF b34) (Qa (hT b54) (Qa (hT b95) (Qa (hF b100) (Qa (hF b128) (Qa (hT b157) (Qa (hT b0) (Qa (hT b13) (Qa (hT b26) (Qa (hF b1) (Qa (hT b14) (Qa (hT b27) (Qa (hF b389) (Qa (hF b396) (Qa (hT b409) trivial))))))))))))))))) tm mm hA
            ·
             have b182 : ¬ (q 182=0) := (Qo (QJ hq b27) (Ll x4 x21 b13 b14 b27))
             have b189 : ¬ (q 189=0) := (Qo (Zh hq b27) (TL x4 x11 (Qk (QJ hq b27) b27 b182)))
             have b247 : q 247=0 := (Qt (Xt hq b27 b189 (ZD hq b27) (ZH hq b27) (QJ hq b27) (Zh hq b27)) (Qk (Zh hq b27) b27 b189) (RQ x4 x5))
             exact Qh eM_r39 hσ hq h0 (Qa (hF b8) (Qa (hF b21) (Qa (hF b34) (Qa (hT b54) (Qa (hT b95) (Qa (hF b100) (Qa (hF b128) (Qa (hT b157) (Qa (hT b0) (Qa (hT b13) (Qa (hT b26) (Qa (hF b1) (Qa (hT b14) (Qa (hF b27) (Qa (hF b182) (Qa (hF b189) (Qa (hT b247) trivial))))))))))))))))) tm mm hA
           ·
            by_cases b27 : q 27=0
            ·
             have b254 : ¬ (q 254=0) := (Qo (Xn hq b14) (eM_pk102 x4 x21 b0 b13))
             have b261 : ¬ (q 261=0) := (Qo (Xs hq b14) (eM_pk103 x4 x11 b14 b27 (Qk (Xn hq b14) b14 b254)))
             have b274 : q 274=0 := (Qt (Oj hq b14 b261 (WZ hq b14) (Ol hq b14) (Xn hq b14) (Xs hq b14)) (Qk (Xs hq b14) b14 b261) (eM_pk104 x4 x5))
             exact Qh eM_r40 hσ hq h0 (Qa (hF b8) (Qa (hF b21) (Qa (hF b34) (Qa (hT b54) (Qa (hT b95) (Qa (hF b100) (Qa (hF b128) (Qa (hT b157) (Qa (hT b0) (Qa (hT b13) (Qa (hT b26) (Qa (hF b1) (Qa (hF b14) (Qa (hT b27) (Qa (hF b254) (Qa (hF b261) (Qa (hT b274) trivial))))))))))))))))) tm mm hA
            ·
             have x22 := Zh hq b27
             by_cases b182 : q 182=0
             ·
              have b189 : ¬ (q 189=0) := (Qo x22 (eM_pk105 x4 x11 b0 b26))
              have b247 : q 247=0 := (Qt (Xt hq b27 b189 (ZD hq b27) (ZH hq b27) (QJ hq b27) x22) (Qk x22 b27 b189) (RQ x4 x5))
              exact Qh eM_r41 hσ hq h0 (Qa (hF b8) (Qa (hF b21) (Qa (hF b34) (Qa (hT b54) (Qa (hT b95) (Qa (hF b100) (Qa (hF b128) (Qa (hT b157) (Qa (hT b0) (Qa (hT b13) (Qa (hT b26) (Qa (hF b1) (Qa (hF b14) (Qa (hF b27) (Qa (hT b182) (Qa (hF b189) (Qa (hT b247) trivial))))))))))))))))) tm mm hA
             ·
              have b189 : ¬ (q 189=0) := (Qo x22 (TL x4 x11 (Qk (QJ hq b27) b27 b182)))
              have b247 : q 247=0 := (Qt (Xt hq b27 b189 (ZD hq b27) (ZH hq b27) (QJ hq b27) x22) (Qk x22 b27 b189) (RQ x4 x5))
              exact Qh eM_r42 hσ hq h0 (Qa (hF b8) (Qa (hF b21) (Qa (hF b34) (Qa (hT b54) (Qa (hT b95) (Qa (hF b100) (Qa (hF b128) (Qa (hT b157) (Qa (hT b0) (Qa (hT b13) (Qa (hT b26) (Qa (hF b1) (Qa (hF b14) (Qa (hF b27) (Qa (hF b182) (Qa (hF b189) (Qa (hT b247) trivial))))))))))))))))) tm mm hA
         ·
          have b26 : ¬ (q 26=0) := ((eM_pk106 x4 x11 b0 b13))
          have x15 := JM hq b26
          have x12 := JV hq b26
          have x23 := Zz hq b26
          have x24 := ZF hq b26
          have x14 := Jw hq b26
          have x13 := Jz hq b26
          by_cases b198 : q 198=0
          ·
           by_cases b205 : q 205=0
           ·
            by_cases b200 : q 200=0
            ·
             have b207 : ¬ (q 207=0) := (Qo x15 (Mx x4 x11 b26 (Zj x12 b205)))
             have b283 : q 283=0 := (Qt (Xr hq b26 b207 x23 x24 x14 x15) (Qk x15 b26 b207) (Ik x4 x5))
             exact Qh eM_r43 hσ hq h0 (Qa (hF b8) (Qa (hF b21) (Qa (hF b34) (Qa (hT b54) (Qa (hT b95) (Qa (hF b100) (Qa (hF b128) (Qa (hT b157) (Qa (hT b0) (Qa (hF b13) (Qa (hF b26) (Qa (hT b198) (Qa (hT b205) (Qa (hT b200) (Qa (hF b207) (Qa (hT b283) trivial)))))))))))))))) tm mm hA
            ·
             have b207 : ¬ (q 207=0) := (Qo x15 (To x4 x11 (Qk x14 b26 b200)))
             have b283 : q 283=0 := (Qt (Xr hq b26 b207 x23 x24 x14 x15) (Qk x15 b26 b207) (Ik x4 x5))
             exact Qh eM_r44 hσ hq h0 (Qa (hF b8) (Qa (hF b21) (Qa (hF b34) (Qa (hT b54) (Qa (hT b95) (Qa (hF b100) (Qa (hF b128) (Qa (hT b157) (Qa (hT b0) (Qa (hF b13) (Qa (hF b26) (Qa (hT b198) (Qa (hT b205) (Qa (hF b200) (Qa (hF b207) (Qa (hT b283) trivial)))))))))))))))) tm mm hA
           ·
            have b290 : q 290=0 := (Qt (Xp hq b26 b205 x14 x15 x13 x12) (Qk x12 b26 b205) (Yf x4))
            have b292 : q 292=0 := (Qt (Xm hq b26 b205 x23 x24 x13 x12) (Qk x12 b26 b205) (Is x4 x5))
            exact Qh eM_r45 hσ hq h0 (Qa (hF b8) (Qa (hF b21) (Qa (hF b34) (Qa (hT b54) (Qa (hT b95) (Qa (hF b100) (Qa (hF b128) (Qa (hT b157) (Qa (hT b0) (Qa (hF b13) (Qa (hF b26) (Qa (hT b198) (Qa (hF b205) (Qa (hT b290) (Qa (hT b292) trivial))))))))))))))) tm mm hA
          ·
           have b205 : ¬ (q 205=0) := (Qo x12 (Tv x4 x11 (Qk x13 b26 b198)))
           have b290 : q 290=0 := (Qt (Xp hq b26 b205 x14 x15 x13 x12) (Qk x12 b26 b205) (Yf x4))
           have b292 : q 292=0 := (Qt (Xm hq b26 b205 x23 x24 x13 x12) (Qk x12 b26 b205) (Is x4 x5))
           exact Qh eM_r46 hσ hq h0 (Qa (hF b8) (Qa (hF b21) (Qa (hF b34) (Qa (hT b54) (Qa (hT b95) (Qa (hF b100) (Qa (hF b128) (Qa (hT b157) (Qa (hT b0) (Qa (hF b13) (Qa (hF b26) (Qa (hF b198) (Qa (hF b205) (Qa (hT b290) (Qa (hT b292) trivial))))))))))))))) tm mm hA
        ·
         have x25 := Mt hq b0
         have x26 := CK hq b0
         have x27 := CA hq b0
         have x28 := CS hq b0
         by_cases b13 : q 13=0
         ·
          by_cases b26 : q 26=0
          ·
           by_cases b414 : q 414=0
           ·
            have b421 : q 421=0 := (Qt x25 b0 (eM_pk110 x4 x21 (Zj x26 b414)))
            have b416 : ¬ (q 416=0) := (Qo x27 (eM_pk111 x4 x21 b0 (Zj x26 b414)))
            have b423 : ¬ (q 423=0) := (Qo x28 (eM_pk112 x4 x11 (Qk x27 b0 b416)))
            have b436 : q 436=0 := (Qt (MX hq b0 b423 (Tc hq b0) (RT hq b0) x27 x28) (Qk x28 b0 b423) (eM_pk113 x4 x5))
            exact Qh eM_r47 hσ hq h0 (Qa (hF b8) (Qa (hF b21) (Qa (hF b34) (Qa (hT b54) (Qa (hT b95) (Qa (hF b100) (Qa (hF b128) (Qa (hT b157) (Qa (hF b0) (Qa (hT b13) (Qa (hT b26) (Qa (hT b414) (Qa (hT b421) (Qa (hF b416) (Qa (hF b423) (Qa (hT b436) trivial)))))))))))))))) tm mm hA
           ·
            have b421 : ¬ (q 421=0) := (Qo x25 (eM_pk114 x4 x11 (Qk x26 b0 b414)))
            have b443 : q 443=0 := (Qt (Ea hq b0 b421 x27 x28 x26 x25) (Qk x25 b0 b421) (Mu x4))
            have b445 : q 445=0 := (Qt (CZ hq b0 b421 (Tc hq b0) (RT hq b0) x26 x25) (Qk x25 b0 b421) (eM_pk116 x4 x5))
            exact Qh eM_r48 hσ hq h0 (Qa (hF b8) (Qa (hF b21) (Qa (hF b34) (Qa (hT b54) (Qa (hT b95) (Qa (hF b100) (Qa (hF b128) (Qa (hT b157) (Qa (hF b0) (Qa (hT b13) (Qa (hT b26) (Qa (hF b414) (Qa (hF b421) (Qa (hT b443) (Qa (hT b445) trivial))))))))))))))) tm mm hA
          ·
           have x12 := JV hq b26
           have x13 := Jz hq b26
           have x14 := Jw hq b26
           have x15 := JM hq b26
           by_cases b198 : q 198=0
           ·
            have b205 : q 205=0 := (Qt x12 b26 (eM_pk117 x4 x21 b13 b26 (Zj x13 b198)))
            have b200 : ¬ (q 200=0) := (Qo x14 (Hu x4 x21 b13 b26 (Zj x13 b198)))
            have b207 : ¬ (q 207=0) := (Qo x15 (To x4 x11 (Qk x14 b26 b200)))
            have b283 : q 283=0 := (Qt (Xr hq b26 b207 (Zz hq b26) (ZF hq b26) x14 x15) (Qk x15 b26 b207) (Ik x4 x5))
            exact Qh eM_r49 hσ hq h0 (Qa (hF b8) (Qa (hF b21) (Qa (hF b34) (Qa (hT b54) (Qa (hT b95) (Qa (hF b100) (Qa (hF b128) (Qa (hT b157) (Qa (hF b0) (Qa (hT b13) (Qa (hF b26) (Qa (hT b198) (Qa (hT b205) (Qa (hF b200) (Qa (hF b207) (Qa (hT b283) trivial)))))))))))))))) tm mm hA
           ·
            have b205 : ¬ (q 205=0) := (Qo x12 (Tv x4 x11 (Qk x13 b26 b198)))
            have b290 : q 290=0 := (Qt (Xp hq b26 b205 x14 x15 x13 x12) (Qk x12 b26 b205) (Yf x4))
            have b292 : q 292=0 := (Qt (Xm hq b26 b205 (Zz hq b26) (ZF hq b26) x13 x12) (Qk x12 b26 b205) (Is x4 x5))
            exact Qh eM_r50 hσ hq h0 (Qa (hF b8) (Qa (hF b21) (Qa (hF b34) (Qa (hT b54) (Qa (hT b95) (Qa (hF b100) (Qa (hF b128) (Qa (hT b157) (Qa (hF b0) (Qa (hT b13) (Qa (hF b26) (Qa (hF b198) (Qa (hF b205) (Qa (hT b290) (Qa (hT b292) trivial))))))))))))))) tm mm hA
         ·
          have x19 := Ih hq b13
          have x16 := IE hq b13
          have x17 := Ic hq b13
          have x18 := Ix hq b13
          by_cases b26 : q 26=0
          ·
           by_cases b297 : q 297=0
           ·
            have b304 : q 304=0 := (Qt x19 b13 (Hz x4 x21 (Zj x16 b297)))
            have b299 : ¬ (q 299=0) := (Qo x17 (Lz x4 x21 b13 (Zj x16 b297)))
            have b306 : ¬ (q 306=0) := (Qo x18 (eM_pk118 x4 x11 b13 b26 (Qk x17 b13 b299)))
            have b319 : q 319=0 := (Qt (WO hq b13 b306 (Vn hq b13) (Vx hq b13) x17 x18) (Qk x18 b13 b306) (eM_pk119 x4 x5))
            exact Qh eM_r51 hσ hq h0 (Qa (hF b8) (Qa (hF b21) (Qa (hF b34) (Qa (hT b54) (Qa (hT b95) (Qa (hF b100) (Qa (hF b128) (Qa (hT b157) (Qa (hF b0) (Qa (hF b13) (Qa (hT b26) (Qa (hT b297) (Qa (hT b304) (Qa (hF b299) (Qa (hF b306) (Qa (hT b319) trivial)))))))))))))))) tm mm hA
           ·
            have b304 : ¬ (q 304=0) := (Qo x19 (eM_pk120 x4 x11 b13 b26 (Qk x16 b13 b297)))
            have b326 : q 326=0 := (Qt (WS hq b13 b304 x17 x18 x16 x19) (Qk x19 b13 b304) (IW x4))
            have b328 : q 328=0 := (Qt (WW hq b13 b304 (Vn hq b13) (Vx hq b13) x16 x19) (Qk x19 b13 b304) (eM_pk121 x4 x5))
            exact Qh eM_r52 hσ hq h0 (Qa (hF b8) (Qa (hF b21) (Qa (hF b34) (Qa (hT b54) (Qa (hT b95) (Qa (hF b100) (Qa (hF b128) (Qa (hT b157) (Qa (hF b0) (Qa (hF b13) (Qa (hT b26) (Qa (hF b297) (Qa (hF b304) (Qa (hT b326) (Qa (hT b328) trivial))))))))))))))) tm mm hA
          ·
           have x15 := JM hq b26
           have x12 := JV hq b26
           have x23 := Zz hq b26
           have x24 := ZF hq b26
           have x14 := Jw hq b26
           have x13 := Jz hq b26
           by_cases b198 : q 198=0
           ·
            by_cases b205 : q 205=0
            ·
             by_cases b200 : q 200=0
             ·
              have b207 : ¬ (q 207=0) := (Qo x15 (Mx x4 x11 b26 (Zj x12 b205)))
              have b283 : q 283=0 := (Qt (Xr hq b26 b207 x23 x24 x14 x15) (Qk x15 b26 b207) (Ik x4 x5))
              exact Qh eM_r53 hσ hq h0 (Qa (hF b8) (Qa (hF b21) (Qa (hF b34) (Qa (hT b54) (Qa (hT b95) (Qa (hF b100) (Qa (hF b128) (Qa (hT b157) (Qa (hF b0) (Qa (hF b13) (Qa (hF b26) (Qa (hT b198) (Qa (hT b205) (Qa (hT b200) (Qa (hF b207) (Qa (hT b283) trivial)))))))))))))))) tm mm hA
             ·
              have b207 : ¬ (q 207=0) := (Qo x15 (To x4 x11 (Qk x14 b26 b200)))
              have b283 : q 283=0 := (Qt (Xr hq b26 b207 x23 x24 x14 x15) (Qk x15 b26 b207) (Ik x4 x5))
              exact Qh eM_r54 hσ hq h0 (Qa (hF b8) (Qa (hF b21) (Qa (hF b34) (Qa (hT b54) (Qa (hT b95) (Qa (hF b100) (Qa (hF b128) (Qa (hT b157) (Qa (hF b0) (Qa (hF b13) (Qa (hF b26) (Qa (hT b198) (Qa (hT b205) (Qa (hF b200) (Qa (hF b207) (Qa (hT b283) trivial)))))))))))))))) tm mm hA
            ·
             have b290 : q 290=0 := (Qt (Xp hq b26 b205 x14 x15 x13 x12) (Qk x12 b26 b205) (Yf x4))
             have b292 : q 292=0 := (Qt (Xm hq b26 b205 x23 x24 x13 x12) (Qk x12 b26 b205) (Is x4 x5))
             exact Qh eM_r55 hσ hq h0 (Qa (hF b8) (Qa (hF b21) (Qa (hF b34) (Qa (hT b54) (Qa (hT b95) (Qa (hF b100) (Qa (hF b128) (Qa (hT b157) (Qa (hF b0) (Qa (hF b13) (Qa (hF b26) (Qa (hT b198) (Qa (hF b205) (Qa (hT b290) (Qa (hT b292) trivial))))))))))))))) tm mm hA
           ·
            have b205 : ¬ (q 205=0) := (Qo x12 (Tv x4 x11 (Qk x13 b26 b198)))
            have b290 : q 290=0 := (Qt (Xp hq b26 b205 x14 x15 x13 x12) (Qk x12 b26 b205) (Yf x4))
            have b292 : q 292=0 := (Qt (Xm hq b26 b205 x23 x24 x13 x12) (Qk x12 b26 b205) (Is x4 x5))
            exact Qh eM_r56 hσ hq h0 (Qa (hF b8) (Qa (hF b21) (Qa (hF b34) (Qa (hT b54) (Qa (hT b95) (Qa (hF b100) (Qa (hF b128) (Qa (hT b157) (Qa (hF b0) (Qa (hF b13) (Qa (hF b26) (Qa (hF b198) (Qa (hF b205) (Qa (hT b290) (Qa (hT b292) trivial))))))))))))))) tm mm hA
     ·
      have x29 := eM_fO0 hq b8 b21 b34 b95
      have gT := x2.1 b54
      have b157 : q 157=0 := gT
      by_cases b0 : q 0=0
      ·
       by_cases b13 : q 13=0
       ·
        by_cases b26 : q 26=0
        ·
         by_cases b1 : q 1=0
         ·
          by_cases b14 : q 14=0
          ·
           have b27 : ¬ (q 27=0) := ((eM_pk122 x4 x29 b0 b13 b26 b1 b14))
           have b182 : ¬ (q 182=0) := (Qo (QJ hq b27) (FH x1 x4 b13 b14 b27))
           have b189 : ¬ (q 189=0) := (Qo (Zh hq b27) (Cc x0 x4 b1 b27 (Qk (QJ hq b27) b27 b182)))
           have b247 : ¬ (q 247=0) := (Qo (Xt hq b27 b189 (ZD hq b27) (ZH hq b27) (QJ hq b27) (Zh hq b27)) (Oe x4 x29 (Qk (Zh hq b27) b27 b189)))
           exact Qh eM_r57 hσ hq h0 (Qa (hF b8) (Qa (hF b21) (Qa (hF b34) (Qa (hT b54) (Qa (hF b95) (Qa (hT b157) (Qa (hT b0) (Qa (hT b13) (Qa (hT b26) (Qa (hT b1) (Qa (hT b14) (Qa (hF b27) (Qa (hF b182) (Qa (hF b189) (Qa (hF b247) trivial))))))))))))))) tm mm hA
          ·
           by_cases b27 : q 27=0
           ·
            have b254 : ¬ (q 254=0) := (Qo (Xn hq b14) (eM_pk125 x0 x4 b0 b1 b14))
            have b261 : ¬ (q 261=0) := (Qo (Xs hq b14) (Sa x3 x4 b14 b27 (Qk (Xn hq b14) b14 b254)))
            have b274 : ¬ (q 274=0) := (Qo (Oj hq b14 b261 (WZ hq b14) (Ol hq b14) (Xn hq b14) (Xs hq b14)) (Pi x4 x29 (Qk (Xs hq b14) b14 b261)))
            exact Qh eM_r58 hσ hq h0 (Qa (hF b8) (Qa (hF b21) (Qa (hF b34) (Qa (hT b54) (Qa (hF b95) (Qa (hT b157) (Qa (hT b0) (Qa (hT b13) (Qa (hT b26) (Qa (hT b1) (Qa (hF b14) (Qa (hT b27) (Qa (hF b254) (Qa (hF b261) (Qa (hF b274) trivial))))))))))))))) tm mm hA
           ·
            have x22 := Zh hq b27
            by_cases b182 : q 182=0
            ·
             have b189 : ¬ (q 189=0) := (Qo x22 (CN x4 x29 b0 b13 b26 b27 (Zj (QJ hq b27) b182)))
             have b247 : ¬ (q 247=0) := (Qo (Xt hq b27 b189 (ZD hq b27) (ZH hq b27) (QJ hq b27) x22) (Oe x4 x29 (Qk x22 b27 b189)))
             exact Qh eM_r59 hσ hq h0 (Qa (hF b8) (Qa (hF b21) (Qa (hF b34) (Qa (hT b54) (Qa (hF b95) (Qa (hT b157) (Qa (hT b0) (Qa (hT b13) (Qa (hT b26) (Qa (hT b1) (Qa (hF b14) (Qa (hF b27) (Qa (hT b182) (Qa (hF b189) (Qa (hF b247) trivial))))))))))))))) tm mm hA
            ·
             have b189 : ¬ (q 189=0) := (Qo x22 (Cc x0 x4 b1 b27 (Qk (QJ hq b27) b27 b182)))
             have b247 : ¬ (q 247=0) := (Qo (Xt hq b27 b189 (ZD hq b27) (ZH hq b27) (QJ hq b27) x22) (Oe x4 x29 (Qk x22 b27 b189)))
             exact Qh eM_r60 hσ hq h0 (Qa (hF b8) (Qa (hF b21) (Qa (hF b34) (Qa (hT b54) (Qa (hF b95) (Qa (hT b157) (Qa (hT b0) (Qa (hT b13) (Qa (hT b26) (Qa (hT b1) (Qa (hF b14) (Qa (hF b27) (Qa (hF b182) (Qa (hF b189) (Qa (hF b247) trivial))))))))))))))) tm mm hA
         ·
          by_cases b14 : q 14=0
          ·
           by_cases b27 : q 27=0
           ·
            have b389 : ¬ (q 389=0) := (Qo (On hq b1) (eM_pk128 x1 x4 b13 b1 b14))
            have b396 : ¬ (q 396=0) := (Qo (Og hq b1) (eM_pk129 x3 x4 b14 b27 (Qk (On hq b1) b1 b389)))
            have b409 : ¬ (q 409=0) := (Qo (Ma hq b1 b396 (Ec hq b1) (CJ hq b1) (On hq b1) (Og hq b1)) (eM_pk130 x4 x29 (Qk (Og hq b1) b1 b396)))
            exact Qh eM_r61 hσ hq h0 (Qa (hF b8) (Qa (hF b21) (Qa (hF b34) (Qa (hT b54) (Qa (hF b95) (Qa (hT b157) (Qa (hT b0) (Qa (hT b13) (Qa (hT b26) (Qa (hF b1) (Qa (hT b14) (Qa (hT b27) (Qa (hF b389) (Qa (hF b396) (Qa (hF b409) trivial))))))))))))))) tm mm hA
           ·
            have b182 : ¬ (q 182=0) := (Qo (QJ hq b27) (FH x1 x4 b13 b14 b27))
            by_cases b189 : q 189=0
            ·
             have b364 : ¬ (q 364=0) := (Qo (RO hq b27 b182 (ZH hq b27) (ZD hq b27) (Zh hq b27) (QJ hq b27)) (Ee x4 x29 (Qk (QJ hq b27) b27 b182)))
             exact Qh eM_r62 hσ hq h0 (Qa (hF b8) (Qa (hF b21) (Qa (hF b34) (Qa (hT b54) (Qa (hF b95) (Qa (hT b157) (Qa (hT b0) (Qa (hT b13) (Qa (hT b26) (Qa (hF b1) (Qa (hT b14) (Qa (hF b27) (Qa (hF b182) (Qa (hT b189) (Qa (hF b364) trivial))))))))))))))) tm mm hA
            ·
             have b247 : ¬ (q 247=0) := (Qo (Xt hq b27 b189 (ZD hq b27) (ZH hq b27) (QJ hq b27) (Zh hq b27)) (Oe x4 x29 (Qk (Zh hq b27) b27 b189)))
             exact Qh eM_r63 hσ hq h0 (Qa (hF b8) (Qa (hF b21) (Qa (hF b34) (Qa (hT b54) (Qa (hF b95) (Qa (hT b157) (Qa (hT b0) (Qa (hT b13) (Qa (hT b26) (Qa (hF b1) (Qa (hT b14) (Qa (hF b27) (Qa (hF b182) (Qa (hF b189) (Qa (hF b247) trivial))))))))))))))) tm mm hA
          ·
           have x30 := Xs hq b14
           have x31 := Xn hq b14
           by_cases b27 : q 27=0
           ·
            by_cases b254 : q 254=0
            ·
             have b261 : ¬ (q 261=0) := (Qo x30 (eM_pk132 x4 x29 b0 b13 b26 b14 (Zj x31 b254)))
             have b274 : ¬ (q 274=0) := (Qo (Oj hq b14 b261 (WZ hq b14) (Ol hq b14) x31 x30) (Pi x4 x29 (Qk x30 b14 b261)))
             exact Qh eM_r64 hσ hq h0 (Qa (hF b8) (Qa (hF b21) (Qa (hF b34) (Qa (hT b54) (Qa (hF b95) (Qa (hT b157) (Qa (hT b0) (Qa (hT b13) (Qa (hT b26) (Qa (hF b1) (Qa (hF b14) (Qa (hT b27) (Qa (hT b254) (Qa (hF b261) (Qa (hF b274) trivial))))))))))))))) tm mm hA
            ·
             have b261 : ¬ (q 261=0) := (Qo x30 (Sa x3 x4 b14 b27 (Qk x31 b14 b254)))
             have b274 : ¬ (q 274=0) := (Qo (Oj hq b14 b261 (WZ hq b14) (Ol hq b14) x31 x30) (Pi x4 x29 (Qk x30 b14 b261)))
             exact Qh eM_r65 hσ hq h0 (Qa (hF b8) (Qa (hF b21) (Qa (hF b34) (Qa (hT b54) (Qa (hF b95) (Qa (hT b157) (Qa (hT b0) (Qa (hT b13) (Qa (hT b26) (Qa (hF b1) (Qa (hF b14) (Qa (hT b27) (Qa (hF b254) (Qa (hF b261) (Qa (hF b274) trivial))))))))))))))) tm mm hA
           ·
            have x22 := Zh hq b27
            have x32 := QJ hq b27
            by_cases b182 : q 182=0
            ·
             have b189 : ¬ (q 189=0) := (Qo x22 (CN x4 x29 b0 b13 b26 b27 (Zj x32 b182)))
             have b247 : ¬ (q 247=0) := (Qo (Xt hq b27 b189 (ZD hq b27) (ZH hq b27) x32 x22) (Oe x4 x29 (Qk x22 b27 b189)))
             exact Qh eM_r66 hσ hq h0 (Qa (hF b8) (Qa (hF b21) (Qa (hF b34) (Qa (hT b54) (Qa (hF b95) (Qa (hT b157) (Qa (hT b0) (Qa (hT b13) (Qa (hT b26) (Qa (hF b1) (Qa (hF b14) (Qa (hF b27) (Qa (hT b182) (Qa (hF b189) (Qa (hF b247) trivial))))))))))))))) tm mm hA
            ·
             by_cases b189 : q 189=0
             ·
              have b364 : ¬ (q 364=0) := (Qo (RO hq b27 b182 (ZH hq b27) (ZD hq b27) x22 x32) (Ee x4 x29 (Qk x32 b27 b182)))
              exact Qh eM_r67 hσ hq h0 (Qa (hF b8) (Qa (hF b21) (Qa (hF b34) (Qa (hT b54) (Qa (hF b95) (Qa (hT b157) (Qa (hT b0) (Qa (hT b13) (Qa (hT b26) (Qa (hF b1) (Qa (hF b14) (Qa (hF b27) (Qa (hF b182) (Qa (hT b189) (Qa (hF b364) trivial))))))))))))))) tm mm hA
             ·
              have b247 : ¬ (q 247=0) := (Qo (Xt hq b27 b189 (ZD hq b27) (ZH hq b27) x32 x22) (Oe x4 x29 (Qk x22 b27 b189)))
              exact Qh eM_r68 hσ hq h0 (Qa (hF b8) (Qa (hF b21) (Qa (hF b34) (Qa (hT b54) (Qa (hF b95) (Qa (hT b157) (Qa (hT b0) (Qa (hT b13) (Qa (hT b26) (Qa (hF b1) (Qa (hF b14) (Qa (hF b27) (Qa (hF b182) (Qa (hF b189) (Qa (hF b247) trivial))))))))))))))) tm mm hA
        ·
         have x12 := JV hq b26
         have x13 := Jz hq b26
         have x14 := Jw hq b26
         have x15 := JM hq b26
         by_cases b198 : q 198=0
         ·
          have b205 : q 205=0 := (Qt x12 b26 (Sj x1 x4 b13 b26 (Zj x13 b198)))
          have b200 : ¬ (q 200=0) := (Qo x14 (Ba x1 x4 b13 b26 (Zj x13 b198)))
          have b207 : ¬ (q 207=0) := (Qo x15 (Cg x0 x4 b0 b26 (Qk x14 b26 b200)))
          have b283 : ¬ (q 283=0) := (Qo (Xr hq b26 b207 (Zz hq b26) (ZF hq b26) x14 x15) (Om x4 x29 (Qk x15 b26 b207)))
          exact Qh eM_r69 hσ hq h0 (Qa (hF b8) (Qa (hF b21) (Qa (hF b34) (Qa (hT b54) (Qa (hF b95) (Qa (hT b157) (Qa (hT b0) (Qa (hT b13) (Qa (hF b26) (Qa (hT b198) (Qa (hT b205) (Qa (hF b200) (Qa (hF b207) (Qa (hF b283) trivial)))))))))))))) tm mm hA
         ·
          have b205 : ¬ (q 205=0) := (Qo x12 (Mo x0 x4 b0 b26 (Qk x13 b26 b198)))
          have b290 : q 290=0 := (Qt (Xp hq b26 b205 x14 x15 x13 x12) (Qk x12 b26 b205) (Yf x4))
          have b292 : ¬ (q 292=0) := (Qo (Xm hq b26 b205 (Zz hq b26) (ZF hq b26) x13 x12) (WT x4 x29 (Qk x12 b26 b205)))
          exact Qh eM_r70 hσ hq h0 (Qa (hF b8) (Qa (hF b21) (Qa (hF b34) (Qa (hT b54) (Qa (hF b95) (Qa (hT b157) (Qa (hT b0) (Qa (hT b13) (Qa (hF b26) (Qa (hF b198) (Qa (hF b205) (Qa (hT b290) (Qa (hF b292) trivial))))))))))))) tm mm hA
       ·
        have x19 := Ih hq b13
        have x16 := IE hq b13
        have x17 := Ic hq b13
        have x18 := Ix hq b13
        by_cases b26 : q 26=0
        ·
         by_cases b297 : q 297=0
         ·
          have b304 : q 304=0 := (Qt x19 b13 (eM_pk137 x0 x4 b0 b26 (Zj x16 b297)))
          have b299 : ¬ (q 299=0) := (Qo x17 (eM_pk138 x0 x4 b0 b13 (Zj x16 b297)))
          have b306 : ¬ (q 306=0) := (Qo x18 (Ss x3 x4 b13 b26 (Qk x17 b13 b299)))
          have b319 : ¬ (q 319=0) := (Qo (WO hq b13 b306 (Vn hq b13) (Vx hq b13) x17 x18) (Pv x4 x29 (Qk x18 b13 b306)))
          exact Qh eM_r71 hσ hq h0 (Qa (hF b8) (Qa (hF b21) (Qa (hF b34) (Qa (hT b54) (Qa (hF b95) (Qa (hT b157) (Qa (hT b0) (Qa (hF b13) (Qa (hT b26) (Qa (hT b297) (Qa (hT b304) (Qa (hF b299) (Qa (hF b306) (Qa (hF b319) trivial)))))))))))))) tm mm hA
         ·
          have b304 : ¬ (q 304=0) := (Qo x19 (Sr x3 x4 b13 b26 (Qk x16 b13 b297)))
          have b326 : q 326=0 := (Qt (WS hq b13 b304 x17 x18 x16 x19) (Qk x19 b13 b304) (IW x4))
          have b328 : ¬ (q 328=0) := (Qo (WW hq b13 b304 (Vn hq b13) (Vx hq b13) x16 x19) (Pa x4 x29 (Qk x19 b13 b304)))
          exact Qh eM_r72 hσ hq h0 (Qa (hF b8) (Qa (hF b21) (Qa (hF b34) (Qa (hT b54) (Qa (hF b95) (Qa (hT b157) (Qa (hT b0) (Qa (hF b13) (Qa (hT b26) (Qa (hF b297) (Qa (hF b304) (Qa (hT b326) (Qa (hF b328) trivial))))))))))))) tm mm hA
        ·
         have x15 := JM hq b26
         have x13 := Jz hq b26
         have x12 := JV hq b26
         have x14 := Jw hq b26
         have x23 := Zz hq b26
         have x24 := ZF hq b26
         by_cases b198 : q 198=0
         ·
          by_cases b205 : q 205=0
          ·
           by_cases b200 : q 200=0
           ·
            have b207 : ¬ (q 207=0) := (Qo x15 (CC x4 x29 b26 (Zj x13 b198) (Zj x12 b205) (Zj x14 b200)))
            have b283 : ¬ (q 283=0) := (Qo (Xr hq b26 b207 x23 x24 x14 x15) (Om x4 x29 (Qk x15 b26 b207)))
            exact Qh eM_r73 hσ hq h0 (Qa (hF b8) (Qa (hF b21) (Qa (hF b34) (Qa (hT b54) (Qa (hF b95) (Qa (hT b157) (Qa (hT b0) (Qa (hF b13) (Qa (hF b26) (Qa (hT b198) (Qa (hT b205) (Qa (hT b200) (Qa (hF b207) (Qa (hF b283) trivial)))))))))))))) tm mm hA
           ·
            have b207 : ¬ (q 207=0) := (Qo x15 (Cg x0 x4 b0 b26 (Qk x14 b26 b200)))
            have b283 : ¬ (q 283=0) := (Qo (Xr hq b26 b207 x23 x24 x14 x15) (Om x4 x29 (Qk x15 b26 b207)))
            exact Qh eM_r74 hσ hq h0 (Qa (hF b8) (Qa (hF b21) (Qa (hF b34) (Qa (hT b54) (Qa (hF b95) (Qa (hT b157) (Qa (hT b0) (Qa (hF b13) (Qa (hF b26) (Qa (hT b198) (Qa (hT b205) (Qa (hF b200) (Qa (hF b207) (Qa (hF b283) trivial)))))))))))))) tm mm hA
          ·
           have b290 : q 290=0 := (Qt (Xp hq b26 b205 x14 x15 x13 x12) (Qk x12 b26 b205) (Yf x4))
           have b292 : ¬ (q 292=0) := (Qo (Xm hq b26 b205 x23 x24 x13 x12) (WT x4 x29 (Qk x12 b26 b205)))
           exact Qh eM_r75 hσ hq h0 (Qa (hF b8) (Qa (hF b21) (Qa (hF b34) (Qa (hT b54) (Qa (hF b95) (Qa (hT b157) (Qa (hT b0) (Qa (hF b13) (Qa (hF b26) (Qa (hT b198) (Qa (hF b205) (Qa (hT b290) (Qa (hF b292) trivial))))))))))))) tm mm hA
         ·
          have b205 : ¬ (q 205=0) := (Qo x12 (Mo x0 x4 b0 b26 (Qk x13 b26 b198)))
          have b290 : q 290=0 := (Qt (Xp hq b26 b205 x14 x15 x13 x12) (Qk x12 b26 b205) (Yf x4))
          have b292 : ¬ (q 292=0) := (Qo (Xm hq b26 b205 x23 x24 x13 x12) (WT x4 x29 (Qk x12 b26 b205)))
          exact Qh eM_r76 hσ hq h0 (Qa (hF b8) (Qa (hF b21) (Qa (hF b34) (Qa (hT b54) (Qa (hF b95) (Qa (hT b157) (Qa (hT b0) (Qa (hF b13) (Qa (hF b26) (Qa (hF b198) (Qa (hF b205) (Qa (hT b290) (Qa (hF b292) trivial))))))))))))) tm mm hA
      ·
       have x25 := Mt hq b0
       have x26 := CK hq b0
       have x27 := CA hq b0
       have x28 := CS hq b0
       by_cases b13 : q 13=0
       ·
        by_cases b26 : q 26=0
        ·
         by_cases b414 : q 414=0
         ·
          have b421 : q 421=0 := (Qt x25 b0 (eM_pk142 x1 x4 b13 b26 (Zj x26 b414)))
          have b416 : ¬ (q 416=0) := (Qo x27 (eM_pk143 x1 x4 b0 b13 (Zj x26 b414)))
          have b423 : ¬ (q 423=0) := (Qo x28 (eM_pk144 x3 x4 b13 b26 (Qk x27 b0 b416)))
          have b436 : ¬ (q 436=0) := (Qo (MX hq b0 b423 (Tc hq b0) (RT hq b0) x27 x28) (eM_pk145 x4 x29 (Qk x28 b0 b423)))
          exact Qh eM_r77 hσ hq h0 (Qa (hF b8) (Qa (hF b21) (Qa (hF b34) (Qa (hT b54) (Qa (hF b95) (Qa (hT b157) (Qa (hF b0) (Qa (hT b13) (Qa (hT b26) (Qa (hT b414) (Qa (hT b421) (Qa (hF b416) (Qa (hF b423) (Qa (hF b436) trivial)))))))))))))) tm mm hA
         ·
          have b421 : ¬ (q 421=0) := (Qo x25 (eM_pk146 x3 x4 b13 b26 (Qk x26 b0 b414)))
          have b443 : q 443=0 := (Qt (Ea hq b0 b421 x27 x28 x26 x25) (Qk x25 b0 b421) (Mu x4))
          have b445 : ¬ (q 445=0) := (Qo (CZ hq b0 b421 (Tc hq b0) (RT hq b0) x26 x25) (eM_pk147 x4 x29 (Qk x25 b0 b421)))
          exact Qh eM_r78 hσ hq h0 (Qa (hF b8) (Qa (hF b21) (Qa (hF b34) (Qa (hT b54) (Qa (hF b95) (Qa (hT b157) (Qa (hF b0) (Qa (hT b13) (Qa (hT b26) (Qa (hF b414) (Qa (hF b421) (Qa (hT b443) (Qa (hF b445) trivial))))))))))))) tm mm hA
        ·
         have x12 := JV hq b26
         have x13 := Jz hq b26
         have x14 := Jw hq b26
         have x24 := ZF hq b26
         have x23 := Zz hq b26
         have x15 := JM hq b26
         by_cases b198 : q 198=0
         ·
          have b205 : q 205=0 := (Qt x12 b26 (Sj x1 x4 b13 b26 (Zj x13 b198)))
          have b200 : ¬ (q 200=0) := (Qo x14 (Ba x1 x4 b13 b26 (Zj x13 b198)))
          by_cases b207 : q 207=0
          ·
           have b373 : ¬ (q 373=0) := (Qo (Tw hq b26 b200 x24 x23 x15 x14) (Mr x4 x29 (Qk x14 b26 b200)))
           exact Qh eM_r79 hσ hq h0 (Qa (hF b8) (Qa (hF b21) (Qa (hF b34) (Qa (hT b54) (Qa (hF b95) (Qa (hT b157) (Qa (hF b0) (Qa (hT b13) (Qa (hF b26) (Qa (hT b198) (Qa (hT b205) (Qa (hF b200) (Qa (hT b207) (Qa (hF b373) trivial)))))))))))))) tm mm hA
          ·
           have b283 : ¬ (q 283=0) := (Qo (Xr hq b26 b207 x23 x24 x14 x15) (Om x4 x29 (Qk x15 b26 b207)))
           exact Qh eM_r80 hσ hq h0 (Qa (hF b8) (Qa (hF b21) (Qa (hF b34) (Qa (hT b54) (Qa (hF b95) (Qa (hT b157) (Qa (hF b0) (Qa (hT b13) (Qa (hF b26) (Qa (hT b198) (Qa (hT b205) (Qa (hF b200) (Qa (hF b207) (Qa (hF b283) trivial)))))))))))))) tm mm hA
         ·
          by_cases b205 : q 205=0
          ·
           have b380 : q 380=0 := (Qt (RU hq b26 b198 x15 x14 x12 x13) (Qk x13 b26 b198) (GJ x4))
           have b382 : ¬ (q 382=0) := (Qo (Kd hq b26 b198 x24 x23 x12 x13) (MG x4 x29 (Qk x13 b26 b198)))
           exact Qh eM_r81 hσ hq h0 (Qa (hF b8) (Qa (hF b21) (Qa (hF b34) (Qa (hT b54) (Qa (hF b95) (Qa (hT b157) (Qa (hF b0) (Qa (hT b13) (Qa (hF b26) (Qa (hF b198) (Qa (hT b205) (Qa (hT b380) (Qa (hF b382) trivial))))))))))))) tm mm hA
          ·
           have b290 : q 290=0 := (Qt (Xp hq b26 b205 x14 x15 x13 x12) (Qk x12 b26 b205) (Yf x4))
           have b292 : ¬ (q 292=0) := (Qo (Xm hq b26 b205 x23 x24 x13 x12) (WT x4 x29 (Qk x12 b26 b205)))
           exact Qh eM_r82 hσ hq h0 (Qa (hF b8) (Qa (hF b21) (Qa (hF b34) (Qa (hT b54) (Qa (hF b95) (Qa (hT b157) (Qa (hF b0) (Qa (hT b13) (Qa (hF b26) (Qa (hF b198) (Qa (hF b205) (Qa (hT b290) (Qa (hF b292) trivial))))))))))))) tm mm hA
       ·
        have x18 := Ix hq b13
        have x16 := IE hq b13
        have x19 := Ih hq b13
        have x17 := Ic hq b13
        have x33 := Vn hq b13
        have x34 := Vx hq b13
        by_cases b26 : q 26=0
        ·
         by_cases b297 : q 297=0
         ·
          by_cases b304 : q 304=0
          ·
           by_cases b299 : q 299=0
           ·
            have b306 : ¬ (q 306=0) := (Qo x18 (eM_pk150 x4 x29 b13 (Zj x16 b297) (Zj x19 b304) (Zj x17 b299)))
            have b319 : ¬ (q 319=0) := (Qo (WO hq b13 b306 x33 x34 x17 x18) (Pv x4 x29 (Qk x18 b13 b306)))
            exact Qh eM_r83 hσ hq h0 (Qa (hF b8) (Qa (hF b21) (Qa (hF b34) (Qa (hT b54) (Qa (hF b95) (Qa (hT b157) (Qa (hF b0) (Qa (hF b13) (Qa (hT b26) (Qa (hT b297) (Qa (hT b304) (Qa (hT b299) (Qa (hF b306) (Qa (hF b319) trivial)))))))))))))) tm mm hA
           ·
            have b306 : ¬ (q 306=0) := (Qo x18 (Ss x3 x4 b13 b26 (Qk x17 b13 b299)))
            have b319 : ¬ (q 319=0) := (Qo (WO hq b13 b306 x33 x34 x17 x18) (Pv x4 x29 (Qk x18 b13 b306)))
            exact Qh eM_r84 hσ hq h0 (Qa (hF b8) (Qa (hF b21) (Qa (hF b34) (Qa (hT b54) (Qa (hF b95) (Qa (hT b157) (Qa (hF b0) (Qa (hF b13) (Qa (hT b26) (Qa (hT b297) (Qa (hT b304) (Qa (hF b299) (Qa (hF b306) (Qa (hF b319) trivial)))))))))))))) tm mm hA
          ·
           have b326 : q 326=0 := (Qt (WS hq b13 b304 x17 x18 x16 x19) (Qk x19 b13 b304) (IW x4))
           have b328 : ¬ (q 328=0) := (Qo (WW hq b13 b304 x33 x34 x16 x19) (Pa x4 x29 (Qk x19 b13 b304)))
           exact Qh eM_r85 hσ hq h0 (Qa (hF b8) (Qa (hF b21) (Qa (hF b34) (Qa (hT b54) (Qa (hF b95) (Qa (hT b157) (Qa (hF b0) (Qa (hF b13) (Qa (hT b26) (Qa (hT b297) (Qa (hF b304) (Qa (hT b326) (Qa (hF b328) trivial))))))))))))) tm mm hA
         ·
          have b304 : ¬ (q 304=0) := (Qo x19 (Sr x3 x4 b13 b26 (Qk x16 b13 b297)))
          have b326 : q 326=0 := (Qt (WS hq b13 b304 x17 x18 x16 x19) (Qk x19 b13 b304) (IW x4))
          have b328 : ¬ (q 328=0) := (Qo (WW hq b13 b304 x33 x34 x16 x19) (Pa x4 x29 (Qk x19 b13 b304)))
          exact Qh eM_r86 hσ hq h0 (Qa (hF b8) (Qa (hF b21) (Qa (hF b34) (Qa (hT b54) (Qa (hF b95) (Qa (hT b157) (Qa (hF b0) (Qa (hF b13) (Qa (hT b26) (Qa (hF b297) (Qa (hF b304) (Qa (hT b326) (Qa (hF b328) trivial))))))))))))) tm mm hA
        ·
         have x15 := JM hq b26
         have x13 := Jz hq b26
         have x12 := JV hq b26
         have x14 := Jw hq b26
         have x23 := Zz hq b26
         have x24 := ZF hq b26
         by_cases b198 : q 198=0
         ·
          by_cases b205 : q 205=0
          ·
           by_cases b200 : q 200=0
           ·
            have b207 : ¬ (q 207=0) := (Qo x15 (CC x4 x29 b26 (Zj x13 b198) (Zj x12 b205) (Zj x14 b200)))
            have b283 : ¬ (q 283=0) := (Qo (Xr hq b26 b207 x23 x24 x14 x15) (Om x4 x29 (Qk x15 b26 b207)))
            exact Qh eM_r87 hσ hq h0 (Qa (hF b8) (Qa (hF b21) (Qa (hF b34) (Qa (hT b54) (Qa (hF b95) (Qa (hT b157) (Qa (hF b0) (Qa (hF b13) (Qa (hF b26) (Qa (hT b198) (Qa (hT b205) (Qa (hT b200) (Qa (hF b207) (Qa (hF b283) trivial)))))))))))))) tm mm hA
           ·
            by_cases b207 : q 207=0
            ·
             have b373 : ¬ (q 373=0) := (Qo (Tw hq b26 b200 x24 x23 x15 x14) (Mr x4 x29 (Qk x14 b26 b200)))
             exact Qh eM_r88 hσ hq h0 (Qa (hF b8) (Qa (hF b21) (Qa (hF b34) (Qa (hT b54) (Qa (hF b95) (Qa (hT b157) (Qa (hF b0) (Qa (hF b13) (Qa (hF b26) (Qa (hT b198) (Qa (hT b205) (Qa (hF b200) (Qa (hT b207) (Qa (hF b373) trivial)))))))))))))) tm mm hA
            ·
             have b283 : ¬ (q 283=0) := (Qo (Xr hq b26 b207 x23 x24 x14 x15) (Om x4 x29 (Qk x15 b26 b207)))
             exact Qh eM_r89 hσ hq h0 (Qa (hF b8) (Qa (hF b21) (Qa (hF b34) (Qa (hT b54) (Qa (hF b95) (Qa (hT b157) (Qa (hF b0) (Qa (hF b13) (Qa (hF b26) (Qa (hT b198) (Qa (hT b205) (Qa (hF b200) (Qa (hF b207) (Qa (hF b283) trivial)))))))))))))) tm mm hA
          ·
           have b290 : q 290=0 := (Qt (Xp hq b26 b205 x14 x15 x13 x12) (Qk x12 b26 b205) (Yf x4))
           have b292 : ¬ (q 292=0) := (Qo (Xm hq b26 b205 x23 x24 x13 x12) (WT x4 x29 (Qk x12 b26 b205)))
           exact Qh eM_r90 hσ hq h0 (Qa (hF b8) (Qa (hF b21) (Qa (hF b34) (Qa (hT b54) (Qa (hF b95) (Qa (hT b157) (Qa (hF b0) (Qa (hF b13) (Qa (hF b26) (Qa (hT b198) (Qa (hF b205) (Qa (hT b290) (Qa (hF b292) trivial))))))))))))) tm mm hA
         ·
          by_cases b205 : q 205=0
          ·
           have b380 : q 380=0 := (Qt (RU hq b26 b198 x15 x14 x12 x13) (Qk x13 b26 b198) (GJ x4))
           have b382 : ¬ (q 382=0) := (Qo (Kd hq b26 b198 x24 x23 x12 x13) (MG x4 x29 (Qk x13 b26 b198)))
           exact Qh eM_r91 hσ hq h0 (Qa (hF b8) (Qa (hF b21) (Qa (hF b34) (Qa (hT b54) (Qa (hF b95) (Qa (hT b157) (Qa (hF b0) (Qa (hF b13) (Qa (hF b26) (Qa (hF b198) (Qa (hT b205) (Qa (hT b380) (Qa (hF b382) trivial))))))))))))) tm mm hA
          ·
           have b290 : q 290=0 := (Qt (Xp hq b26 b205 x14 x15 x13 x12) (Qk x12 b26 b205) (Yf x4))
           have b292 : ¬ (q 292=0) := (Qo (Xm hq b26 b205 x23 x24 x13 x12) (WT x4 x29 (Qk x12 b26 b205)))
           exact Qh eM_r92 hσ hq h0 (Qa (hF b8) (Qa (hF b21) (Qa (hF b34) (Qa (hT b54) (Qa (hF b95) (Qa (hT b157) (Qa (hF b0) (Qa (hF b13) (Qa (hF b26) (Qa (hF b198) (Qa (hF b205) (Qa (hT b290) (Qa (hF b292) trivial))))))))))))) tm mm hA
    ·
     have gN := fun h => b54 (x2.2 h)
     have b157 : ¬ (q 157=0) := gN
     have gR0 := eM_pR0 hq b8 (eM_pC hq b54).1
     have b455 : q 455=0 := gR0
     have gR1 := eM_pR1 hq b21 (eM_pC hq b54).2.1
     have b461 : q 461=0 := gR1
     have gR2 := eM_pR2 hq b34 (eM_pC hq b54).2.2
     have b467 : q 467=0 := gR2
     exact Qh eM_r93 hσ hq h0 (Qa (hF b8) (Qa (hF b21) (Qa (hF b34) (Qa (hF b54) (Qa (hF b157) (Qa (hT b455) (Qa (hT b461) (Qa (hT b467) trivial)))))))) tm mm hA
end Go.Proofs.YthagmklephpnhaaGreatDoor
