/- The law, over its runs. -/
import Derived.Test.YtmdfngmjoaigjaaGreatDoorLMQOB1
import Derived.Test.YtmdfngmjoaigjaaGreatDoorLMQOB2
set_option maxHeartbeats 16000000
set_option maxRecDepth 100000
namespace Go.Proofs.YtmdfngmjoaigjaaGreatDoor
open Go.RowKit Cx
variable {q : Nat→Rat} {σ : Nat→ByteArray}
theorem Qe {a b : Prop} (x : a) (y : b) : a∧b := ⟨x,y⟩
theorem JT {M : JP} {H : List (Nat × Nat × Nat × Nat)} {K : List (FuncId × List AC)} {k : Nat} {q : Nat→Rat} {σ : Nat→ByteArray} {args : List AV} {vs : List Value} {w : World} (hr : (Zp (sx Tryz.prog qO_N H K Ya Yg Yb (prC [11])) JE M k [] 4 args [] 0).map (·.1)=some (kB true)) (hσ : ∀ j,(σ j).size≤1048576) (hq : ∀ (a : Nat) nd,qO_N[a]? = some nd→q a=Zr σ q nd) (h0 : ∀ a,qO_N.length≤a→q a=0) (hH : Xs q H) (hp : Zy w) (hM : Zw qO_N Ya Yg Yb q σ [11] w M) (hA : ∀ K,A2 (avOn (cOn (evS q σ) K (fun _ => none) w)) args vs) : Calls Tryz.prog 4 vs.toArray w fun e w' => Below w.heap.size w w'∧e=.returned (.bool true) :=
 On k (Vt hσ Aw qO_sz qO_lt qO_cn hq h0 hH) (by simp [ZK]) (by kernel_rfl) hp hM hr (hA K)
theorem qO_leafC {H : List (Nat × Nat × Nat × Nat)} {K : List (FuncId × List AC)} {k : Nat} {q : Nat→Rat} {σ : Nat→ByteArray} {args : List AV} {vs : List Value} {w : World} (hr : (ZC (sx Tryz.prog qO_N H K Ya Yg Yb (prC [11])) JE k [] 4 args [] 0).map (·.1)=some (kB true)) (hσ : ∀ j,(σ j).size≤1048576) (hq : ∀ (a : Nat) nd,qO_N[a]? = some nd→q a=Zr σ q nd) (h0 : ∀ a,qO_N.length≤a→q a=0) (hH : Xs q H) (hp : Zy w) (hA : ∀ K,A2 (avOn (cOn (evS q σ) K (fun _ => none) w)) args vs) : Calls Tryz.prog 4 vs.toArray w fun e w' => Below w.heap.size w w'∧e=.returned (.bool true) :=
 Vs k (Vt hσ Aw qO_sz qO_lt qO_cn hq h0 hH) (by simp [ZK]) (by kernel_rfl) hr hp (hA K)
theorem qO_walk {w : World} {ta tb tc td te tf tg th ti : ByteArray}  (sta : ta.size≤1048576) (stb : tb.size≤1048576) (stc : tc.size≤1048576) (std : td.size≤1048576) (ste : te.size≤1048576) (stf : tf.size≤1048576) (stg : tg.size≤1048576) (sth : th.size≤1048576) (sti : ti.size≤1048576) (tab : Tab w) (mx : MaxL w) :
  Calls Tryz.prog 4 #[.agg #[.string ta,.string tb,.string tc,.string td,.string te,.string tf,.string tg,.string th,.string ti]] w fun e w' => Below w.heap.size w w'∧e=.returned (.bool true) := by
 have hσ : ∀ j,(RY [ta,tb,tc,td,te,tf,tg,th,ti] j).size≤1048576 := IF (by simp [sta,stb,stc,std,ste,stf,stg,sth,sti])
 obtain ⟨q,hq,h0⟩ := Wo (RY [ta,tb,tc,td,te,tf,tg,th,ti]) qO_N Aw
 have hA : ∀ K,A2 (avOn (cOn (evS q (RY [ta,tb,tc,td,te,tf,tg,th,ti])) K (fun _ => none) w)) [(false,[(true,[.inr (2,0,0,0,0),.inr (2,1,0,0,0),.inr (2,2,0,0,0),.inr (2,3,0,0,0),.inr (2,4,0,0,0),.inr (2,5,0,0,0),.inr (2,6,0,0,0),.inr (2,7,0,0,0),.inr (2,8,0,0,0)])])] [.agg #[.string ta,.string tb,.string tc,.string td,.string te,.string tf,.string tg,.string th,.string ti]] := fun K => ⟨⟨⟨[.string ta,.string tb,.string tc,.string td,.string te,.string tf,.string tg,.string th,.string ti],rfl,rfl,rfl,rfl,rfl,rfl,rfl,rfl,rfl,rfl,trivial⟩,trivial⟩,trivial⟩
 have E10 : q 10=0 := (hq 10 _ rfl).trans Xp
 have E50 : q 50=q 0*q 6 := hq 50 _ rfl
 have E51 : q 51=q 1*q 7 := hq 51 _ rfl
 have E52 : q 52=q 2*q 8 := hq 52 _ rfl
 have E53 : q 53=q 50+q 51 := hq 53 _ rfl
 have E54 : q 54=q 53+q 52 := hq 54 _ rfl
 have E77 : q 77=q 6*q 0 := hq 77 _ rfl
 have E78 : q 78=q 7*q 1 := hq 78 _ rfl
 have E79 : q 79=q 8*q 2 := hq 79 _ rfl
 have E80 : q 80=q 77+q 78 := hq 80 _ rfl
 have E81 : q 81=q 80+q 79 := hq 81 _ rfl
 by_cases b17 : q 17=0
 ·
  by_cases b40 : q 40=0
  ·
   by_cases b49 : q 49=0
   ·
    by_cases b67 : q 67=0
    ·
     by_cases b76 : q 76=0
     ·
      by_cases b91 : q 91=0
      ·
       by_cases a_2_96_0 : 0 < q 96
       ·
        by_cases b241 : q 241=0
        ·
         have gz242 := ((Uh hq).trans (QH (QF hq b17) (Qx hq b49) (Qy hq b76) (Qz hq b40) (QG hq b91) (QE hq b67) (show _ from (QM hq) ▸ a_2_96_0) ((Qw hq).symm.trans b241)).1.1)
         have b242 : q 242=0 := gz242
         have gz243 := ((Ut hq).trans (QH (QF hq b17) (Qx hq b49) (Qy hq b76) (Qz hq b40) (QG hq b91) (QE hq b67) (show _ from (QM hq) ▸ a_2_96_0) ((Qw hq).symm.trans b241)).1.2.1)
         have b243 : q 243=0 := gz243
         have gz244 := ((Ui hq).trans (QH (QF hq b17) (Qx hq b49) (Qy hq b76) (Qz hq b40) (QG hq b91) (QE hq b67) (show _ from (QM hq) ▸ a_2_96_0) ((Qw hq).symm.trans b241)).1.2.2)
         have b244 : q 244=0 := gz244
         have gc10 := qO_pc10 hq
         have b10 : q 10=0 := gc10
         have gz524 := ((Vp hq).trans (QH (QF hq b17) (Qx hq b49) (Qy hq b76) (Qz hq b40) (QG hq b91) (QE hq b67) (show _ from (QM hq) ▸ a_2_96_0) ((Qw hq).symm.trans b241)).1.1)
         have b524 : q 524=0 := gz524
         by_cases b525 : q 525=0
         ·
          have gz526 := ((UO hq).trans ((QH (QF hq b17) (Qx hq b49) (Qy hq b76) (Qz hq b40) (QG hq b91) (QE hq b67) (show _ from (QM hq) ▸ a_2_96_0) ((Qw hq).symm.trans b241)).2.1 ((Xx hq).symm.trans b525)).1)
          have b526 : q 526=0 := gz526
          have gz527 := ((Uo hq).trans ((QH (QF hq b17) (Qx hq b49) (Qy hq b76) (Qz hq b40) (QG hq b91) (QE hq b67) (show _ from (QM hq) ▸ a_2_96_0) ((Qw hq).symm.trans b241)).2.1 ((Xx hq).symm.trans b525)).2)
          have b527 : q 527=0 := gz527
          have gz800 := ((Vj hq).trans (QH (QF hq b17) (Qx hq b49) (Qy hq b76) (Qz hq b40) (QG hq b91) (QE hq b67) (show _ from (QM hq) ▸ a_2_96_0) ((Qw hq).symm.trans b241)).1.2.1)
          have b800 : q 800=0 := gz800
          have gz801 := ((Vo hq).trans ((QH (QF hq b17) (Qx hq b49) (Qy hq b76) (Qz hq b40) (QG hq b91) (QE hq b67) (show _ from (QM hq) ▸ a_2_96_0) ((Qw hq).symm.trans b241)).2.1 ((Xx hq).symm.trans b525)).1)
          have b801 : q 801=0 := gz801
          by_cases b802 : q 802=0
          ·
           have gz803 := ((Uc hq).trans ((QH (QF hq b17) (Qx hq b49) (Qy hq b76) (Qz hq b40) (QG hq b91) (QE hq b67) (show _ from (QM hq) ▸ a_2_96_0) ((Qw hq).symm.trans b241)).2.2 ((Yq hq).symm.trans b802)).2)
           have b803 : q 803=0 := gz803
           have gz1070 := ((Vi hq).trans (QH (QF hq b17) (Qx hq b49) (Qy hq b76) (Qz hq b40) (QG hq b91) (QE hq b67) (show _ from (QM hq) ▸ a_2_96_0) ((Qw hq).symm.trans b241)).1.2.2)
           have b1070 : q 1070=0 := gz1070
           have gz1071 := ((Vh hq).trans ((QH (QF hq b17) (Qx hq b49) (Qy hq b76) (Qz hq b40) (QG hq b91) (QE hq b67) (show _ from (QM hq) ▸ a_2_96_0) ((Qw hq).symm.trans b241)).2.1 ((Xx hq).symm.trans b525)).2)
           have b1071 : q 1071=0 := gz1071
           have gz1072 := ((Vn hq).trans ((QH (QF hq b17) (Qx hq b49) (Qy hq b76) (Qz hq b40) (QG hq b91) (QE hq b67) (show _ from (QM hq) ▸ a_2_96_0) ((Qw hq).symm.trans b241)).2.2 ((Yq hq).symm.trans b802)).2)
           have b1072 : q 1072=0 := gz1072
           have gw2 := qO_pw2 hq (Uz hq) ((Qw hq).symm.trans b241) ((Xx hq).symm.trans b525) ((Yq hq).symm.trans b802)
           have b1073 : ¬ (q 1073=0) := gw2
           have gd1 := (show 0 < q 32 from (FP hq).symm ▸ a_2_96_0)
           have a_2_32_0 : 0 < q 32 := gd1
           have gl34x1 := YO hq b17
           have a_3_34_16 : q 34=q 16 := gl34x1
           have gl42x1 := Vz hq b40
           have a_3_42_10 : q 42=q 10 := gl42x1
           have gl54x1 := Tw hq b91
           have a_3_54_10 : q 54=q 10 := gl54x1
           have gl59x1 := UY hq b40
           have a_3_59_10 : q 59=q 10 := gl59x1
           have gl61x1 := Oj hq b49
           have a_3_61_16 : q 61=q 16 := gl61x1
           have gl69x1 := IQ hq b67
           have a_3_69_10 : q 69=q 10 := gl69x1
           have gl81x1 := Tz hq b91
           have a_3_81_10 : q 81=q 10 := gl81x1
           have gl86x1 := IJ hq b67
           have a_3_86_10 : q 86=q 10 := gl86x1
           have gl88x1 := Ty hq b76
           have a_3_88_16 : q 88=q 16 := gl88x1
           have gn3 := (OW hq (QF hq b17) (Qx hq b49) (Qy hq b76) (Qz hq b40) (QG hq b91) (QE hq b67) (show _ from (QM hq) ▸ a_2_96_0) ((Qw hq).symm.trans b241) ((Vi hq).trans (QH (QF hq b17) (Qx hq b49) (Qy hq b76) (Qz hq b40) (QG hq b91) (QE hq b67) (show _ from (QM hq) ▸ a_2_96_0) ((Qw hq).symm.trans b241)).1.2.2) (Vh hq) (Vn hq) (Uz hq) b1073 (OT hq (WJ hq b1073)) (OU hq)).hn
           have b1092 : ¬ (q 1092=0) := gn3
           have gv1074 := qO_pv1074 hq ((Vi hq).trans (QH (QF hq b17) (Qx hq b49) (Qy hq b76) (Qz hq b40) (QG hq b91) (QE hq b67) (show _ from (QM hq) ▸ a_2_96_0) ((Qw hq).symm.trans b241)).1.2.2)
           have b1074 : q 1074=0 := gv1074
           have gv1075 := qO_pv1075 hq ((Vh hq).trans ((QH (QF hq b17) (Qx hq b49) (Qy hq b76) (Qz hq b40) (QG hq b91) (QE hq b67) (show _ from (QM hq) ▸ a_2_96_0) ((Qw hq).symm.trans b241)).2.1 ((Xx hq).symm.trans b525)).2)
           have b1075 : q 1075=0 := gv1075
           have gv1076 := qO_pv1076 hq ((Vn hq).trans ((QH (QF hq b17) (Qx hq b49) (Qy hq b76) (Qz hq b40) (QG hq b91) (QE hq b67) (show _ from (QM hq) ▸ a_2_96_0) ((Qw hq).symm.trans b241)).2.2 ((Yq hq).symm.trans b802)).2)
           have b1076 : q 1076=0 := gv1076
           have gv1077 := qO_pv1077 hq (WJ hq b1073)
           have b1077 : ¬ (q 1077=0) := gv1077
           have gi1077 := qO_pi1077 hq (WJ hq b1073)
           have a_3_1077_16 : q 1077=q 16 := gi1077
           have ge1144 := qO_pe1144 hq (OW hq (QF hq b17) (Qx hq b49) (Qy hq b76) (Qz hq b40) (QG hq b91) (QE hq b67) (show _ from (QM hq) ▸ a_2_96_0) ((Qw hq).symm.trans b241) ((Vi hq).trans (QH (QF hq b17) (Qx hq b49) (Qy hq b76) (Qz hq b40) (QG hq b91) (QE hq b67) (show _ from (QM hq) ▸ a_2_96_0) ((Qw hq).symm.trans b241)).1.2.2) (Vh hq) (Vn hq) (Uz hq) b1073 (OT hq (WJ hq b1073)) (OU hq))
           have a_3_1144_0 : q 1144=q 0 := ge1144
           have ge1188 := qO_pe1188 hq (OW hq (QF hq b17) (Qx hq b49) (Qy hq b76) (Qz hq b40) (QG hq b91) (QE hq b67) (show _ from (QM hq) ▸ a_2_96_0) ((Qw hq).symm.trans b241) ((Vi hq).trans (QH (QF hq b17) (Qx hq b49) (Qy hq b76) (Qz hq b40) (QG hq b91) (QE hq b67) (show _ from (QM hq) ▸ a_2_96_0) ((Qw hq).symm.trans b241)).1.2.2) (Vh hq) (Vn hq) (Uz hq) b1073 (OT hq (WJ hq b1073)) (OU hq))
           have a_3_1188_1 : q 1188=q 1 := ge1188
           have ge1230 := qO_pe1230 hq (OW hq (QF hq b17) (Qx hq b49) (Qy hq b76) (Qz hq b40) (QG hq b91) (QE hq b67) (show _ from (QM hq) ▸ a_2_96_0) ((Qw hq).symm.trans b241) ((Vi hq).trans (QH (QF hq b17) (Qx hq b49) (Qy hq b76) (Qz hq b40) (QG hq b91) (QE hq b67) (show _ from (QM hq) ▸ a_2_96_0) ((Qw hq).symm.trans b241)).1.2.2) (Vh hq) (Vn hq) (Uz hq) b1073 (OT hq (WJ hq b1073)) (OU hq))
           have a_3_1230_2 : q 1230=q 2 := ge1230
           have ge1145 := qO_pe1145 hq (OW hq (QF hq b17) (Qx hq b49) (Qy hq b76) (Qz hq b40) (QG hq b91) (QE hq b67) (show _ from (QM hq) ▸ a_2_96_0) ((Qw hq).symm.trans b241) ((Vi hq).trans (QH (QF hq b17) (Qx hq b49) (Qy hq b76) (Qz hq b40) (QG hq b91) (QE hq b67) (show _ from (QM hq) ▸ a_2_96_0) ((Qw hq).symm.trans b241)).1.2.2) (Vh hq) (Vn hq) (Uz hq) b1073 (OT hq (WJ hq b1073)) (OU hq))
           have a_3_1145_3 : q 1145=q 3 := ge1145
           have ge1189 := qO_pe1189 hq (OW hq (QF hq b17) (Qx hq b49) (Qy hq b76) (Qz hq b40) (QG hq b91) (QE hq b67) (show _ from (QM hq) ▸ a_2_96_0) ((Qw hq).symm.trans b241) ((Vi hq).trans (QH (QF hq b17) (Qx hq b49) (Qy hq b76) (Qz hq b40) (QG hq b91) (QE hq b67) (show _ from (QM hq) ▸ a_2_96_0) ((Qw hq).symm.trans b241)).1.2.2) (Vh hq) (Vn hq) (Uz hq) b1073 (OT hq (WJ hq b1073)) (OU hq))
           have a_3_1189_4 : q 1189=q 4 := ge1189
           have ge1231 := qO_pe1231 hq (OW hq (QF hq b17) (Qx hq b49) (Qy hq b76) (Qz hq b40) (QG hq b91) (QE hq b67) (show _ from (QM hq) ▸ a_2_96_0) ((Qw hq).symm.trans b241) ((Vi hq).trans (QH (QF hq b17) (Qx hq b49) (Qy hq b76) (Qz hq b40) (QG hq b91) (QE hq b67) (show _ from (QM hq) ▸ a_2_96_0) ((Qw hq).symm.trans b241)).1.2.2) (Vh hq) (Vn hq) (Uz hq) b1073 (OT hq (WJ hq b1073)) (OU hq))
           have a_3_1231_5 : q 1231=q 5 := ge1231
           have ge1146 := qO_pe1146 hq (OW hq (QF hq b17) (Qx hq b49) (Qy hq b76) (Qz hq b40) (QG hq b91) (QE hq b67) (show _ from (QM hq) ▸ a_2_96_0) ((Qw hq).symm.trans b241) ((Vi hq).trans (QH (QF hq b17) (Qx hq b49) (Qy hq b76) (Qz hq b40) (QG hq b91) (QE hq b67) (show _ from (QM hq) ▸ a_2_96_0) ((Qw hq).symm.trans b241)).1.2.2) (Vh hq) (Vn hq) (Uz hq) b1073 (OT hq (WJ hq b1073)) (OU hq))
           have a_3_1146_6 : q 1146=q 6 := ge1146
           have ge1190 := qO_pe1190 hq (OW hq (QF hq b17) (Qx hq b49) (Qy hq b76) (Qz hq b40) (QG hq b91) (QE hq b67) (show _ from (QM hq) ▸ a_2_96_0) ((Qw hq).symm.trans b241) ((Vi hq).trans (QH (QF hq b17) (Qx hq b49) (Qy hq b76) (Qz hq b40) (QG hq b91) (QE hq b67) (show _ from (QM hq) ▸ a_2_96_0) ((Qw hq).symm.trans b241)).1.2.2) (Vh hq) (Vn hq) (Uz hq) b1073 (OT hq (WJ hq b1073)) (OU hq))
           have a_3_1190_7 : q 1190=q 7 := ge1190
           have ge1232 := qO_pe1232 hq (OW hq (QF hq b17) (Qx hq b49) (Qy hq b76) (Qz hq b40) (QG hq b91) (QE hq b67) (show _ from (QM hq) ▸ a_2_96_0) ((Qw hq).symm.trans b241) ((Vi hq).trans (QH (QF hq b17) (Qx hq b49) (Qy hq b76) (Qz hq b40) (QG hq b91) (QE hq b67) (show _ from (QM hq) ▸ a_2_96_0) ((Qw hq).symm.trans b241)).1.2.2) (Vh hq) (Vn hq) (Uz hq) b1073 (OT hq (WJ hq b1073)) (OU hq))
           have a_3_1232_8 : q 1232=q 8 := ge1232
           have hH : Xs q qO_H0 := (Qe (hT b17) (Qe (hT b40) (Qe (hT b49) (Qe (hT b67) (Qe (hT b76) (Qe (hT b91) (Qe (hT a_2_96_0) (Qe (hT b241) (Qe (hT b242) (Qe (hT b243) (Qe (hT b244) (Qe (hT b10) (Qe (hT b524) (Qe (hT b525) (Qe (hT b526) (Qe (hT b527) (Qe (hT b800) (Qe (hT b801) (Qe (hT b802) (Qe (hT b803) (Qe (hT b1070) (Qe (hT b1071) (Qe (hT b1072) (Qe (hF b1073) (Qe (hT a_2_32_0) (Qe (hT a_3_34_16) (Qe (hT a_3_42_10) (Qe (hT a_3_54_10) (Qe (hT a_3_59_10) (Qe (hT a_3_61_16) (Qe (hT a_3_69_10) (Qe (hT a_3_81_10) (Qe (hT a_3_86_10) (Qe (hT a_3_88_16) (Qe (hF b1092) (Qe (hT b1074) (Qe (hT b1075) (Qe (hT b1076) (Qe (hF b1077) (Qe (hT a_3_1077_16) (Qe (hT a_3_1144_0) (Qe (hT a_3_1188_1) (Qe (hT a_3_1230_2) (Qe (hT a_3_1145_3) (Qe (hT a_3_1189_4) (Qe (hT a_3_1231_5) (Qe (hT a_3_1146_6) (Qe (hT a_3_1190_7) (Qe (hT a_3_1232_8) trivial)))))))))))))))))))))))))))))))))))))))))))))))))
           exact JT qO_r0 hσ hq h0 hH ⟨tab,mx⟩ (Ja hσ hq h0 ⟨tab,mx⟩) hA
          ·
           have gd1 := (show 0 < q 32 from (FP hq).symm ▸ a_2_96_0)
           have a_2_32_0 : 0 < q 32 := gd1
           have gl34x1 := YO hq b17
           have a_3_34_16 : q 34=q 16 := gl34x1
           have gl42x1 := Vz hq b40
           have a_3_42_10 : q 42=q 10 := gl42x1
           have gl54x1 := Tw hq b91
           have a_3_54_10 : q 54=q 10 := gl54x1
           have gl59x1 := UY hq b40
           have a_3_59_10 : q 59=q 10 := gl59x1
           have gl61x1 := Oj hq b49
           have a_3_61_16 : q 61=q 16 := gl61x1
           have gl69x1 := IQ hq b67
           have a_3_69_10 : q 69=q 10 := gl69x1
           have gl81x1 := Tz hq b91
           have a_3_81_10 : q 81=q 10 := gl81x1
           have gl86x1 := IJ hq b67
           have a_3_86_10 : q 86=q 10 := gl86x1
           have gl88x1 := Ty hq b76
           have a_3_88_16 : q 88=q 16 := gl88x1
           have gn2 := (Ic hq (QF hq b17) (Qx hq b49) (Qy hq b76) (Qz hq b40) (QG hq b91) (QE hq b67) (show _ from (QM hq) ▸ a_2_96_0) ((Qw hq).symm.trans b241) ((Vj hq).trans (QH (QF hq b17) (Qx hq b49) (Qy hq b76) (Qz hq b40) (QG hq b91) (QE hq b67) (show _ from (QM hq) ▸ a_2_96_0) ((Qw hq).symm.trans b241)).1.2.1) (Vo hq) (Yq hq) (Uc hq) b802 (Io hq (WN hq b802)) (Ih hq)).hn
           have b822 : ¬ (q 822=0) := gn2
           have gv804 := qO_pv804 hq ((Vj hq).trans (QH (QF hq b17) (Qx hq b49) (Qy hq b76) (Qz hq b40) (QG hq b91) (QE hq b67) (show _ from (QM hq) ▸ a_2_96_0) ((Qw hq).symm.trans b241)).1.2.1)
           have b804 : q 804=0 := gv804
           have gv805 := qO_pv805 hq ((Vo hq).trans ((QH (QF hq b17) (Qx hq b49) (Qy hq b76) (Qz hq b40) (QG hq b91) (QE hq b67) (show _ from (QM hq) ▸ a_2_96_0) ((Qw hq).symm.trans b241)).2.1 ((Xx hq).symm.trans b525)).1)
           have b805 : q 805=0 := gv805
           have gv806 := qO_pv806 hq (WN hq b802)
           have b806 : ¬ (q 806=0) := gv806
           have gi806 := qO_pi806 hq (WN hq b802)
           have a_3_806_16 : q 806=q 16 := gi806
           have ge874 := qO_pe874 hq (Ic hq (QF hq b17) (Qx hq b49) (Qy hq b76) (Qz hq b40) (QG hq b91) (QE hq b67) (show _ from (QM hq) ▸ a_2_96_0) ((Qw hq).symm.trans b241) ((Vj hq).trans (QH (QF hq b17) (Qx hq b49) (Qy hq b76) (Qz hq b40) (QG hq b91) (QE hq b67) (show _ from (QM hq) ▸ a_2_96_0) ((Qw hq).symm.trans b241)).1.2.1) (Vo hq) (Yq hq) (Uc hq) b802 (Io hq (WN hq b802)) (Ih hq))
           have a_3_874_0 : q 874=q 0 := ge874
           have ge918 := qO_pe918 hq (Ic hq (QF hq b17) (Qx hq b49) (Qy hq b76) (Qz hq b40) (QG hq b91) (QE hq b67) (show _ from (QM hq) ▸ a_2_96_0) ((Qw hq).symm.trans b241) ((Vj hq).trans (QH (QF hq b17) (Qx hq b49) (Qy hq b76) (Qz hq b40) (QG hq b91) (QE hq b67) (show _ from (QM hq) ▸ a_2_96_0) ((Qw hq).symm.trans b241)).1.2.1) (Vo hq) (Yq hq) (Uc hq) b802 (Io hq (WN hq b802)) (Ih hq))
           have a_3_918_1 : q 918=q 1 := ge918
           have ge960 := qO_pe960 hq (Ic hq (QF hq b17) (Qx hq b49) (Qy hq b76) (Qz hq b40) (QG hq b91) (QE hq b67) (show _ from (QM hq) ▸ a_2_96_0) ((Qw hq).symm.trans b241) ((Vj hq).trans (QH (QF hq b17) (Qx hq b49) (Qy hq b76) (Qz hq b40) (QG hq b91) (QE hq b67) (show _ from (QM hq) ▸ a_2_96_0) ((Qw hq).symm.trans b241)).1.2.1) (Vo hq) (Yq hq) (Uc hq) b802 (Io hq (WN hq b802)) (Ih hq))
           have a_3_960_2 : q 960=q 2 := ge960
           have ge875 := qO_pe875 hq (Ic hq (QF hq b17) (Qx hq b49) (Qy hq b76) (Qz hq b40) (QG hq b91) (QE hq b67) (show _ from (QM hq) ▸ a_2_96_0) ((Qw hq).symm.trans b241) ((Vj hq).trans (QH (QF hq b17) (Qx hq b49) (Qy hq b76) (Qz hq b40) (QG hq b91) (QE hq b67) (show _ from (QM hq) ▸ a_2_96_0) ((Qw hq).symm.trans b241)).1.2.1) (Vo hq) (Yq hq) (Uc hq) b802 (Io hq (WN hq b802)) (Ih hq))
           have a_3_875_3 : q 875=q 3 := ge875
           have ge919 := qO_pe919 hq (Ic hq (QF hq b17) (Qx hq b49) (Qy hq b76) (Qz hq b40) (QG hq b91) (QE hq b67) (show _ from (QM hq) ▸ a_2_96_0) ((Qw hq).symm.trans b241) ((Vj hq).trans (QH (QF hq b17) (Qx hq b49) (Qy hq b76) (Qz hq b40) (QG hq b91) (QE hq b67) (show _ from (QM hq) ▸ a_2_96_0) ((Qw hq).symm.trans b241)).1.2.1) (Vo hq) (Yq hq) (Uc hq) b802 (Io hq (WN hq b802)) (Ih hq))
           have a_3_919_4 : q 919=q 4 := ge919
           have ge961 := qO_pe961 hq (Ic hq (QF hq b17) (Qx hq b49) (Qy hq b76) (Qz hq b40) (QG hq b91) (QE hq b67) (show _ from (QM hq) ▸ a_2_96_0) ((Qw hq).symm.trans b241) ((Vj hq).trans (QH (QF hq b17) (Qx hq b49) (Qy hq b76) (Qz hq b40) (QG hq b91) (QE hq b67) (show _ from (QM hq) ▸ a_2_96_0) ((Qw hq).symm.trans b241)).1.2.1) (Vo hq) (Yq hq) (Uc hq) b802 (Io hq (WN hq b802)) (Ih hq))
           have a_3_961_5 : q 961=q 5 := ge961
           have ge876 := qO_pe876 hq (Ic hq (QF hq b17) (Qx hq b49) (Qy hq b76) (Qz hq b40) (QG hq b91) (QE hq b67) (show _ from (QM hq) ▸ a_2_96_0) ((Qw hq).symm.trans b241) ((Vj hq).trans (QH (QF hq b17) (Qx hq b49) (Qy hq b76) (Qz hq b40) (QG hq b91) (QE hq b67) (show _ from (QM hq) ▸ a_2_96_0) ((Qw hq).symm.trans b241)).1.2.1) (Vo hq) (Yq hq) (Uc hq) b802 (Io hq (WN hq b802)) (Ih hq))
           have a_3_876_6 : q 876=q 6 := ge876
           have ge920 := qO_pe920 hq (Ic hq (QF hq b17) (Qx hq b49) (Qy hq b76) (Qz hq b40) (QG hq b91) (QE hq b67) (show _ from (QM hq) ▸ a_2_96_0) ((Qw hq).symm.trans b241) ((Vj hq).trans (QH (QF hq b17) (Qx hq b49) (Qy hq b76) (Qz hq b40) (QG hq b91) (QE hq b67) (show _ from (QM hq) ▸ a_2_96_0) ((Qw hq).symm.trans b241)).1.2.1) (Vo hq) (Yq hq) (Uc hq) b802 (Io hq (WN hq b802)) (Ih hq))
           have a_3_920_7 : q 920=q 7 := ge920
           have ge962 := qO_pe962 hq (Ic hq (QF hq b17) (Qx hq b49) (Qy hq b76) (Qz hq b40) (QG hq b91) (QE hq b67) (show _ from (QM hq) ▸ a_2_96_0) ((Qw hq).symm.trans b241) ((Vj hq).trans (QH (QF hq b17) (Qx hq b49) (Qy hq b76) (Qz hq b40) (QG hq b91) (QE hq b67) (show _ from (QM hq) ▸ a_2_96_0) ((Qw hq).symm.trans b241)).1.2.1) (Vo hq) (Yq hq) (Uc hq) b802 (Io hq (WN hq b802)) (Ih hq))
           have a_3_962_8 : q 962=q 8 := ge962
           have hH : Xs q qO_H1 := (Qe (hT b17) (Qe (hT b40) (Qe (hT b49) (Qe (hT b67) (Qe (hT b76) (Qe (hT b91) (Qe (hT a_2_96_0) (Qe (hT b241) (Qe (hT b242) (Qe (hT b243) (Qe (hT b244) (Qe (hT b10) (Qe (hT b524) (Qe (hT b525) (Qe (hT b526) (Qe (hT b527) (Qe (hT b800) (Qe (hT b801) (Qe (hF b802) (Qe (hT a_2_32_0) (Qe (hT a_3_34_16) (Qe (hT a_3_42_10) (Qe (hT a_3_54_10) (Qe (hT a_3_59_10) (Qe (hT a_3_61_16) (Qe (hT a_3_69_10) (Qe (hT a_3_81_10) (Qe (hT a_3_86_10) (Qe (hT a_3_88_16) (Qe (hF b822) (Qe (hT b804) (Qe (hT b805) (Qe (hF b806) (Qe (hT a_3_806_16) (Qe (hT a_3_874_0) (Qe (hT a_3_918_1) (Qe (hT a_3_960_2) (Qe (hT a_3_875_3) (Qe (hT a_3_919_4) (Qe (hT a_3_961_5) (Qe (hT a_3_876_6) (Qe (hT a_3_920_7) (Qe (hT a_3_962_8) trivial)))))))))))))))))))))))))))))))))))))))))))
           exact JT qO_r1 hσ hq h0 hH ⟨tab,mx⟩ (Ja hσ hq h0 ⟨tab,mx⟩) hA
         ·
          have gd1 := (show 0 < q 32 from (FP hq).symm ▸ a_2_96_0)
          have a_2_32_0 : 0 < q 32 := gd1
          have gl34x1 := YO hq b17
          have a_3_34_16 : q 34=q 16 := gl34x1
          have gl42x1 := Vz hq b40
          have a_3_42_10 : q 42=q 10 := gl42x1
          have gl54x1 := Tw hq b91
          have a_3_54_10 : q 54=q 10 := gl54x1
          have gl59x1 := UY hq b40
          have a_3_59_10 : q 59=q 10 := gl59x1
          have gl61x1 := Oj hq b49
          have a_3_61_16 : q 61=q 16 := gl61x1
          have gl69x1 := IQ hq b67
          have a_3_69_10 : q 69=q 10 := gl69x1
          have gl81x1 := Tz hq b91
          have a_3_81_10 : q 81=q 10 := gl81x1
          have gl86x1 := IJ hq b67
          have a_3_86_10 : q 86=q 10 := gl86x1
          have gl88x1 := Ty hq b76
          have a_3_88_16 : q 88=q 16 := gl88x1
          have gn1 := (Ie hq (QF hq b17) (Qx hq b49) (Qy hq b76) (Qz hq b40) (QG hq b91) (QE hq b67) (show _ from (QM hq) ▸ a_2_96_0) ((Qw hq).symm.trans b241) ((Vp hq).trans (QH (QF hq b17) (Qx hq b49) (Qy hq b76) (Qz hq b40) (QG hq b91) (QE hq b67) (show _ from (QM hq) ▸ a_2_96_0) ((Qw hq).symm.trans b241)).1.1) (Xx hq) (UO hq) (Uo hq) b525 (OX hq (WP hq b525)) (Im hq)).hn
          have b546 : ¬ (q 546=0) := gn1
          have gv528 := qO_pv528 hq ((Vp hq).trans (QH (QF hq b17) (Qx hq b49) (Qy hq b76) (Qz hq b40) (QG hq b91) (QE hq b67) (show _ from (QM hq) ▸ a_2_96_0) ((Qw hq).symm.trans b241)).1.1)
          have b528 : q 528=0 := gv528
          have gv529 := qO_pv529 hq (WP hq b525)
          have b529 : ¬ (q 529=0) := gv529
          have gi529 := qO_pi529 hq (WP hq b525)
          have a_3_529_16 : q 529=q 16 := gi529
          have ge598 := qO_pe598 hq (Ie hq (QF hq b17) (Qx hq b49) (Qy hq b76) (Qz hq b40) (QG hq b91) (QE hq b67) (show _ from (QM hq) ▸ a_2_96_0) ((Qw hq).symm.trans b241) ((Vp hq).trans (QH (QF hq b17) (Qx hq b49) (Qy hq b76) (Qz hq b40) (QG hq b91) (QE hq b67) (show _ from (QM hq) ▸ a_2_96_0) ((Qw hq).symm.trans b241)).1.1) (Xx hq) (UO hq) (Uo hq) b525 (OX hq (WP hq b525)) (Im hq))
          have a_3_598_0 : q 598=q 0 := ge598
          have ge642 := qO_pe642 hq (Ie hq (QF hq b17) (Qx hq b49) (Qy hq b76) (Qz hq b40) (QG hq b91) (QE hq b67) (show _ from (QM hq) ▸ a_2_96_0) ((Qw hq).symm.trans b241) ((Vp hq).trans (QH (QF hq b17) (Qx hq b49) (Qy hq b76) (Qz hq b40) (QG hq b91) (QE hq b67) (show _ from (QM hq) ▸ a_2_96_0) ((Qw hq).symm.trans b241)).1.1) (Xx hq) (UO hq) (Uo hq) b525 (OX hq (WP hq b525)) (Im hq))
          have a_3_642_1 : q 642=q 1 := ge642
          have ge684 := qO_pe684 hq (Ie hq (QF hq b17) (Qx hq b49) (Qy hq b76) (Qz hq b40) (QG hq b91) (QE hq b67) (show _ from (QM hq) ▸ a_2_96_0) ((Qw hq).symm.trans b241) ((Vp hq).trans (QH (QF hq b17) (Qx hq b49) (Qy hq b76) (Qz hq b40) (QG hq b91) (QE hq b67) (show _ from (QM hq) ▸ a_2_96_0) ((Qw hq).symm.trans b241)).1.1) (Xx hq) (UO hq) (Uo hq) b525 (OX hq (WP hq b525)) (Im hq))
          have a_3_684_2 : q 684=q 2 := ge684
          have ge599 := qO_pe599 hq (Ie hq (QF hq b17) (Qx hq b49) (Qy hq b76) (Qz hq b40) (QG hq b91) (QE hq b67) (show _ from (QM hq) ▸ a_2_96_0) ((Qw hq).symm.trans b241) ((Vp hq).trans (QH (QF hq b17) (Qx hq b49) (Qy hq b76) (Qz hq b40) (QG hq b91) (QE hq b67) (show _ from (QM hq) ▸ a_2_96_0) ((Qw hq).symm.trans b241)).1.1) (Xx hq) (UO hq) (Uo hq) b525 (OX hq (WP hq b525)) (Im hq))
          have a_3_599_3 : q 599=q 3 := ge599
          have ge643 := qO_pe643 hq (Ie hq (QF hq b17) (Qx hq b49) (Qy hq b76) (Qz hq b40) (QG hq b91) (QE hq b67) (show _ from (QM hq) ▸ a_2_96_0) ((Qw hq).symm.trans b241) ((Vp hq).trans (QH (QF hq b17) (Qx hq b49) (Qy hq b76) (Qz hq b40) (QG hq b91) (QE hq b67) (show _ from (QM hq) ▸ a_2_96_0) ((Qw hq).symm.trans b241)).1.1) (Xx hq) (UO hq) (Uo hq) b525 (OX hq (WP hq b525)) (Im hq))
          have a_3_643_4 : q 643=q 4 := ge643
          have ge685 := qO_pe685 hq (Ie hq (QF hq b17) (Qx hq b49) (Qy hq b76) (Qz hq b40) (QG hq b91) (QE hq b67) (show _ from (QM hq) ▸ a_2_96_0) ((Qw hq).symm.trans b241) ((Vp hq).trans (QH (QF hq b17) (Qx hq b49) (Qy hq b76) (Qz hq b40) (QG hq b91) (QE hq b67) (show _ from (QM hq) ▸ a_2_96_0) ((Qw hq).symm.trans b241)).1.1) (Xx hq) (UO hq) (Uo hq) b525 (OX hq (WP hq b525)) (Im hq))
          have a_3_685_5 : q 685=q 5 := ge685
          have ge600 := qO_pe600 hq (Ie hq (QF hq b17) (Qx hq b49) (Qy hq b76) (Qz hq b40) (QG hq b91) (QE hq b67) (show _ from (QM hq) ▸ a_2_96_0) ((Qw hq).symm.trans b241) ((Vp hq).trans (QH (QF hq b17) (Qx hq b49) (Qy hq b76) (Qz hq b40) (QG hq b91) (QE hq b67) (show _ from (QM hq) ▸ a_2_96_0) ((Qw hq).symm.trans b241)).1.1) (Xx hq) (UO hq) (Uo hq) b525 (OX hq (WP hq b525)) (Im hq))
          have a_3_600_6 : q 600=q 6 := ge600
          have ge644 := qO_pe644 hq (Ie hq (QF hq b17) (Qx hq b49) (Qy hq b76) (Qz hq b40) (QG hq b91) (QE hq b67) (show _ from (QM hq) ▸ a_2_96_0) ((Qw hq).symm.trans b241) ((Vp hq).trans (QH (QF hq b17) (Qx hq b49) (Qy hq b76) (Qz hq b40) (QG hq b91) (QE hq b67) (show _ from (QM hq) ▸ a_2_96_0) ((Qw hq).symm.trans b241)).1.1) (Xx hq) (UO hq) (Uo hq) b525 (OX hq (WP hq b525)) (Im hq))
          have a_3_644_7 : q 644=q 7 := ge644
          have ge686 := qO_pe686 hq (Ie hq (QF hq b17) (Qx hq b49) (Qy hq b76) (Qz hq b40) (QG hq b91) (QE hq b67) (show _ from (QM hq) ▸ a_2_96_0) ((Qw hq).symm.trans b241) ((Vp hq).trans (QH (QF hq b17) (Qx hq b49) (Qy hq b76) (Qz hq b40) (QG hq b91) (QE hq b67) (show _ from (QM hq) ▸ a_2_96_0) ((Qw hq).symm.trans b241)).1.1) (Xx hq) (UO hq) (Uo hq) b525 (OX hq (WP hq b525)) (Im hq))
          have a_3_686_8 : q 686=q 8 := ge686
          have hH : Xs q qO_H2 := (Qe (hT b17) (Qe (hT b40) (Qe (hT b49) (Qe (hT b67) (Qe (hT b76) (Qe (hT b91) (Qe (hT a_2_96_0) (Qe (hT b241) (Qe (hT b242) (Qe (hT b243) (Qe (hT b244) (Qe (hT b10) (Qe (hT b524) (Qe (hF b525) (Qe (hT a_2_32_0) (Qe (hT a_3_34_16) (Qe (hT a_3_42_10) (Qe (hT a_3_54_10) (Qe (hT a_3_59_10) (Qe (hT a_3_61_16) (Qe (hT a_3_69_10) (Qe (hT a_3_81_10) (Qe (hT a_3_86_10) (Qe (hT a_3_88_16) (Qe (hF b546) (Qe (hT b528) (Qe (hF b529) (Qe (hT a_3_529_16) (Qe (hT a_3_598_0) (Qe (hT a_3_642_1) (Qe (hT a_3_684_2) (Qe (hT a_3_599_3) (Qe (hT a_3_643_4) (Qe (hT a_3_685_5) (Qe (hT a_3_600_6) (Qe (hT a_3_644_7) (Qe (hT a_3_686_8) trivial)))))))))))))))))))))))))))))))))))))
          exact JT qO_r2 hσ hq h0 hH ⟨tab,mx⟩ (Ja hσ hq h0 ⟨tab,mx⟩) hA
        ·
         have gd1 := (show 0 < q 32 from (FP hq).symm ▸ a_2_96_0)
         have a_2_32_0 : 0 < q 32 := gd1
         have gl34x1 := YO hq b17
         have a_3_34_16 : q 34=q 16 := gl34x1
         have gl42x1 := Vz hq b40
         have a_3_42_10 : q 42=q 10 := gl42x1
         have gl54x1 := Tw hq b91
         have a_3_54_10 : q 54=q 10 := gl54x1
         have gl59x1 := UY hq b40
         have a_3_59_10 : q 59=q 10 := gl59x1
         have gl61x1 := Oj hq b49
         have a_3_61_16 : q 61=q 16 := gl61x1
         have gl69x1 := IQ hq b67
         have a_3_69_10 : q 69=q 10 := gl69x1
         have gl81x1 := Tz hq b91
         have a_3_81_10 : q 81=q 10 := gl81x1
         have gl86x1 := IJ hq b67
         have a_3_86_10 : q 86=q 10 := gl86x1
         have gl88x1 := Ty hq b76
         have a_3_88_16 : q 88=q 16 := gl88x1
         have gn0 := (Il hq (QF hq b17) (Qx hq b49) (Qy hq b76) (Qz hq b40) (QG hq b91) (QE hq b67) (show _ from (QM hq) ▸ a_2_96_0) (Qw hq) (Uh hq) (Ut hq) (Ui hq) b241 (Ig hq (WR hq b241)) (Ii hq)).hn
         have b263 : ¬ (q 263=0) := gn0
         have gv245 := qO_pv245 hq (WR hq b241)
         have b245 : ¬ (q 245=0) := gv245
         have gi245 := qO_pi245 hq (WR hq b241)
         have a_3_245_16 : q 245=q 16 := gi245
         have ge315 := qO_pe315 hq (Il hq (QF hq b17) (Qx hq b49) (Qy hq b76) (Qz hq b40) (QG hq b91) (QE hq b67) (show _ from (QM hq) ▸ a_2_96_0) (Qw hq) (Uh hq) (Ut hq) (Ui hq) b241 (Ig hq (WR hq b241)) (Ii hq))
         have a_3_315_0 : q 315=q 0 := ge315
         have ge359 := qO_pe359 hq (Il hq (QF hq b17) (Qx hq b49) (Qy hq b76) (Qz hq b40) (QG hq b91) (QE hq b67) (show _ from (QM hq) ▸ a_2_96_0) (Qw hq) (Uh hq) (Ut hq) (Ui hq) b241 (Ig hq (WR hq b241)) (Ii hq))
         have a_3_359_1 : q 359=q 1 := ge359
         have ge401 := qO_pe401 hq (Il hq (QF hq b17) (Qx hq b49) (Qy hq b76) (Qz hq b40) (QG hq b91) (QE hq b67) (show _ from (QM hq) ▸ a_2_96_0) (Qw hq) (Uh hq) (Ut hq) (Ui hq) b241 (Ig hq (WR hq b241)) (Ii hq))
         have a_3_401_2 : q 401=q 2 := ge401
         have ge316 := qO_pe316 hq (Il hq (QF hq b17) (Qx hq b49) (Qy hq b76) (Qz hq b40) (QG hq b91) (QE hq b67) (show _ from (QM hq) ▸ a_2_96_0) (Qw hq) (Uh hq) (Ut hq) (Ui hq) b241 (Ig hq (WR hq b241)) (Ii hq))
         have a_3_316_3 : q 316=q 3 := ge316
         have ge360 := qO_pe360 hq (Il hq (QF hq b17) (Qx hq b49) (Qy hq b76) (Qz hq b40) (QG hq b91) (QE hq b67) (show _ from (QM hq) ▸ a_2_96_0) (Qw hq) (Uh hq) (Ut hq) (Ui hq) b241 (Ig hq (WR hq b241)) (Ii hq))
         have a_3_360_4 : q 360=q 4 := ge360
         have ge402 := qO_pe402 hq (Il hq (QF hq b17) (Qx hq b49) (Qy hq b76) (Qz hq b40) (QG hq b91) (QE hq b67) (show _ from (QM hq) ▸ a_2_96_0) (Qw hq) (Uh hq) (Ut hq) (Ui hq) b241 (Ig hq (WR hq b241)) (Ii hq))
         have a_3_402_5 : q 402=q 5 := ge402
         have ge317 := qO_pe317 hq (Il hq (QF hq b17) (Qx hq b49) (Qy hq b76) (Qz hq b40) (QG hq b91) (QE hq b67) (show _ from (QM hq) ▸ a_2_96_0) (Qw hq) (Uh hq) (Ut hq) (Ui hq) b241 (Ig hq (WR hq b241)) (Ii hq))
         have a_3_317_6 : q 317=q 6 := ge317
         have ge361 := qO_pe361 hq (Il hq (QF hq b17) (Qx hq b49) (Qy hq b76) (Qz hq b40) (QG hq b91) (QE hq b67) (show _ from (QM hq) ▸ a_2_96_0) (Qw hq) (Uh hq) (Ut hq) (Ui hq) b241 (Ig hq (WR hq b241)) (Ii hq))
         have a_3_361_7 : q 361=q 7 := ge361
         have ge403 := qO_pe403 hq (Il hq (QF hq b17) (Qx hq b49) (Qy hq b76) (Qz hq b40) (QG hq b91) (QE hq b67) (show _ from (QM hq) ▸ a_2_96_0) (Qw hq) (Uh hq) (Ut hq) (Ui hq) b241 (Ig hq (WR hq b241)) (Ii hq))
         have a_3_403_8 : q 403=q 8 := ge403
         have hH : Xs q qO_H3 := (Qe (hT b17) (Qe (hT b40) (Qe (hT b49) (Qe (hT b67) (Qe (hT b76) (Qe (hT b91) (Qe (hT a_2_96_0) (Qe (hF b241) (Qe (hT a_2_32_0) (Qe (hT a_3_34_16) (Qe (hT a_3_42_10) (Qe (hT a_3_54_10) (Qe (hT a_3_59_10) (Qe (hT a_3_61_16) (Qe (hT a_3_69_10) (Qe (hT a_3_81_10) (Qe (hT a_3_86_10) (Qe (hT a_3_88_16) (Qe (hF b263) (Qe (hF b245) (Qe (hT a_3_245_16) (Qe (hT a_3_315_0) (Qe (hT a_3_359_1) (Qe (hT a_3_401_2) (Qe (hT a_3_316_3) (Qe (hT a_3_360_4) (Qe (hT a_3_402_5) (Qe (hT a_3_317_6) (Qe (hT a_3_361_7) (Qe (hT a_3_403_8) trivial))))))))))))))))))))))))))))))
         exact JT qO_r3 hσ hq h0 hH ⟨tab,mx⟩ (Ja hσ hq h0 ⟨tab,mx⟩) hA
       ·
        have gd0 := (fun h => a_2_96_0 ((FP hq) ▸ h))
        have a_2_32_0 : ¬ (0 < q 32) := gd0
        have hH : Xs q qO_H4 := (Qe (hT b17) (Qe (hT b40) (Qe (hT b49) (Qe (hT b67) (Qe (hT b76) (Qe (hT b91) (Qe (hF a_2_96_0) (Qe (hF a_2_32_0) trivial))))))))
        exact JT qO_r4 hσ hq h0 hH ⟨tab,mx⟩ (Ja hσ hq h0 ⟨tab,mx⟩) hA
      ·
       by_cases a_2_32_0 : 0 < q 32
       ·
        have gl34x1 := YO hq b17
        have a_3_34_16 : q 34=q 16 := gl34x1
        have gl42x1 := Vz hq b40
        have a_3_42_10 : q 42=q 10 := gl42x1
        have gl54x0 := qO_pl54x0 hq b91
        have a_3_54_10 : ¬ (q 54=q 10) := gl54x0
        have hH : Xs q qO_H5 := (Qe (hT b17) (Qe (hT b40) (Qe (hT b49) (Qe (hT b67) (Qe (hT b76) (Qe (hF b91) (Qe (hT a_2_32_0) (Qe (hT a_3_34_16) (Qe (hT a_3_42_10) (Qe (hF a_3_54_10) trivial))))))))))
        exact JT qO_r5 hσ hq h0 hH ⟨tab,mx⟩ (Ja hσ hq h0 ⟨tab,mx⟩) hA
       ·
        have hH : Xs q qO_H6 := (Qe (hT b17) (Qe (hT b40) (Qe (hT b49) (Qe (hT b67) (Qe (hT b76) (Qe (hF b91) (Qe (hF a_2_32_0) trivial)))))))
        exact JT qO_r6 hσ hq h0 hH ⟨tab,mx⟩ (Ja hσ hq h0 ⟨tab,mx⟩) hA
     ·
      by_cases a_2_32_0 : 0 < q 32
      ·
       have gl34x1 := YO hq b17
       have a_3_34_16 : q 34=q 16 := gl34x1
       have gl42x1 := Vz hq b40
       have a_3_42_10 : q 42=q 10 := gl42x1
       by_cases a_3_54_10 : q 54=q 10
       ·
        have gl59x1 := UY hq b40
        have a_3_59_10 : q 59=q 10 := gl59x1
        have gl61x1 := Oj hq b49
        have a_3_61_16 : q 61=q 16 := gl61x1
        have gl69x1 := IQ hq b67
        have a_3_69_10 : q 69=q 10 := gl69x1
        have a_3_81_10 : q 81=q 10 := qO_f1 E10 E50 E51 E52 E53 E54 E77 E78 E79 E80 E81 a_3_54_10
        have gl86x1 := IJ hq b67
        have a_3_86_10 : q 86=q 10 := gl86x1
        have gl88x0 := qO_pl88x0 hq b76
        have a_3_88_16 : ¬ (q 88=q 16) := gl88x0
        have hH : Xs q qO_H7 := (Qe (hT b17) (Qe (hT b40) (Qe (hT b49) (Qe (hT b67) (Qe (hF b76) (Qe (hT a_2_32_0) (Qe (hT a_3_34_16) (Qe (hT a_3_42_10) (Qe (hT a_3_54_10) (Qe (hT a_3_59_10) (Qe (hT a_3_61_16) (Qe (hT a_3_69_10) (Qe (hT a_3_81_10) (Qe (hT a_3_86_10) (Qe (hF a_3_88_16) trivial)))))))))))))))
        exact JT qO_r7 hσ hq h0 hH ⟨tab,mx⟩ (Ja hσ hq h0 ⟨tab,mx⟩) hA
       ·
        have hH : Xs q qO_H8 := (Qe (hT b17) (Qe (hT b40) (Qe (hT b49) (Qe (hT b67) (Qe (hF b76) (Qe (hT a_2_32_0) (Qe (hT a_3_34_16) (Qe (hT a_3_42_10) (Qe (hF a_3_54_10) trivial)))))))))
        exact JT qO_r8 hσ hq h0 hH ⟨tab,mx⟩ (Ja hσ hq h0 ⟨tab,mx⟩) hA
      ·
       have hH : Xs q qO_H9 := (Qe (hT b17) (Qe (hT b40) (Qe (hT b49) (Qe (hT b67) (Qe (hF b76) (Qe (hF a_2_32_0) trivial))))))
       exact JT qO_r9 hσ hq h0 hH ⟨tab,mx⟩ (Ja hσ hq h0 ⟨tab,mx⟩) hA
    ·
     by_cases a_2_32_0 : 0 < q 32
     ·
      have gl34x1 := YO hq b17
      have a_3_34_16 : q 34=q 16 := gl34x1
      have gl42x1 := Vz hq b40
      have a_3_42_10 : q 42=q 10 := gl42x1
      by_cases a_3_54_10 : q 54=q 10
      ·
       have gl59x1 := UY hq b40
       have a_3_59_10 : q 59=q 10 := gl59x1
       have gl61x1 := Oj hq b49
       have a_3_61_16 : q 61=q 16 := gl61x1
       have gl69x0 := qO_pl69x0 hq b67
       have a_3_69_10 : ¬ (q 69=q 10) := gl69x0
       have hH : Xs q qO_H10 := (Qe (hT b17) (Qe (hT b40) (Qe (hT b49) (Qe (hF b67) (Qe (hT a_2_32_0) (Qe (hT a_3_34_16) (Qe (hT a_3_42_10) (Qe (hT a_3_54_10) (Qe (hT a_3_59_10) (Qe (hT a_3_61_16) (Qe (hF a_3_69_10) trivial)))))))))))
       exact JT qO_r10 hσ hq h0 hH ⟨tab,mx⟩ (Ja hσ hq h0 ⟨tab,mx⟩) hA
      ·
       have hH : Xs q qO_H11 := (Qe (hT b17) (Qe (hT b40) (Qe (hT b49) (Qe (hF b67) (Qe (hT a_2_32_0) (Qe (hT a_3_34_16) (Qe (hT a_3_42_10) (Qe (hF a_3_54_10) trivial))))))))
       exact JT qO_r11 hσ hq h0 hH ⟨tab,mx⟩ (Ja hσ hq h0 ⟨tab,mx⟩) hA
     ·
      have hH : Xs q qO_H12 := (Qe (hT b17) (Qe (hT b40) (Qe (hT b49) (Qe (hF b67) (Qe (hF a_2_32_0) trivial)))))
      exact JT qO_r12 hσ hq h0 hH ⟨tab,mx⟩ (Ja hσ hq h0 ⟨tab,mx⟩) hA
   ·
    by_cases a_2_32_0 : 0 < q 32
    ·
     have gl34x1 := YO hq b17
     have a_3_34_16 : q 34=q 16 := gl34x1
     have gl42x1 := Vz hq b40
     have a_3_42_10 : q 42=q 10 := gl42x1
     by_cases a_3_54_10 : q 54=q 10
     ·
      have gl59x1 := UY hq b40
      have a_3_59_10 : q 59=q 10 := gl59x1
      have gl61x0 := qO_pl61x0 hq b49
      have a_3_61_16 : ¬ (q 61=q 16) := gl61x0
      have hH : Xs q qO_H13 := (Qe (hT b17) (Qe (hT b40) (Qe (hF b49) (Qe (hT a_2_32_0) (Qe (hT a_3_34_16) (Qe (hT a_3_42_10) (Qe (hT a_3_54_10) (Qe (hT a_3_59_10) (Qe (hF a_3_61_16) trivial)))))))))
      exact JT qO_r13 hσ hq h0 hH ⟨tab,mx⟩ (Ja hσ hq h0 ⟨tab,mx⟩) hA
     ·
      have hH : Xs q qO_H14 := (Qe (hT b17) (Qe (hT b40) (Qe (hF b49) (Qe (hT a_2_32_0) (Qe (hT a_3_34_16) (Qe (hT a_3_42_10) (Qe (hF a_3_54_10) trivial)))))))
      exact JT qO_r14 hσ hq h0 hH ⟨tab,mx⟩ (Ja hσ hq h0 ⟨tab,mx⟩) hA
    ·
     have hH : Xs q qO_H15 := (Qe (hT b17) (Qe (hT b40) (Qe (hF b49) (Qe (hF a_2_32_0) trivial))))
     exact JT qO_r15 hσ hq h0 hH ⟨tab,mx⟩ (Ja hσ hq h0 ⟨tab,mx⟩) hA
  ·
   by_cases a_2_32_0 : 0 < q 32
   ·
    have gl34x1 := YO hq b17
    have a_3_34_16 : q 34=q 16 := gl34x1
    have gl42x0 := qO_pl42x0 hq b40
    have a_3_42_10 : ¬ (q 42=q 10) := gl42x0
    have hH : Xs q qO_H16 := (Qe (hT b17) (Qe (hF b40) (Qe (hT a_2_32_0) (Qe (hT a_3_34_16) (Qe (hF a_3_42_10) trivial)))))
    exact JT qO_r16 hσ hq h0 hH ⟨tab,mx⟩ (Ja hσ hq h0 ⟨tab,mx⟩) hA
   ·
    have hH : Xs q qO_H17 := (Qe (hT b17) (Qe (hF b40) (Qe (hF a_2_32_0) trivial)))
    exact JT qO_r17 hσ hq h0 hH ⟨tab,mx⟩ (Ja hσ hq h0 ⟨tab,mx⟩) hA
 ·
  by_cases a_2_32_0 : 0 < q 32
  ·
   have gl34x0 := qO_pl34x0 hq b17
   have a_3_34_16 : ¬ (q 34=q 16) := gl34x0
   have hH : Xs q qO_H18 := (Qe (hF b17) (Qe (hT a_2_32_0) (Qe (hF a_3_34_16) trivial)))
   exact JT qO_r18 hσ hq h0 hH ⟨tab,mx⟩ (Ja hσ hq h0 ⟨tab,mx⟩) hA
  ·
   have hH : Xs q qO_H19 := (Qe (hF b17) (Qe (hF a_2_32_0) trivial))
   exact JT qO_r19 hσ hq h0 hH ⟨tab,mx⟩ (Ja hσ hq h0 ⟨tab,mx⟩) hA
end Go.Proofs.YtmdfngmjoaigjaaGreatDoor
