/- Part 2 of the walks and of the mathematics under them: BE BF BG BH. -/
import Derived.Test.YtnhplfjlhdpgoaaGreatDoorA1
import Derived.Deep.AppendSrc
import Derived.Deep.DeepBigQuietO
set_option maxHeartbeats 16000000
set_option maxRecDepth 100000
/- BE -/
namespace Go.Proofs.YtnhplfjlhdpgoaaGreatDoor
open Go.RowKit Cx
theorem OM {P : Program} {w : World} {ops : Array Oper} {rest : List Oper} {o : Oper} {a : Act} {Q : Exit→Act→World→Prop}
  (hg : o.guard=none) (s x : Operand) (t : TypeId) (hop : o.op=Op.call { callee := Callee.builtin Builtin.append,args := #[s,x],argTypes := #[t,t] })
  (vs vx v : Value) (hs : a.eval s=vs) (hx : a.eval x=vx) (hrun : ∀ ty,(Builtin.append_ #[t,t] ty #[vs,vx]).run P w=.ok v w) (hk : wpList P ops Q rest (a.put o.dst v) w) :
  wpList P ops Q (o :: rest) a w := by
 refine wpList_plain hg fun K hK' => ?_
 unfold Oper.wp
 simp [execOp,hop,resolve,invoke,builtin,hs,hx,hrun,Result.andThen]
 exact hK' _ _ hk
theorem DK (cap : Nat) (w : World) :
  Calls Tryz.prog 96 #[.slice none 0 cap] w fun e w' => e=.returned (.slice none 0 0)∧w'=w := by
 obtain ⟨i0,hi,hz0,hz1,hz2⟩ := info_parts Tryz.infoU32
 have hrun : ∀ ty,(Builtin.append_ #[31,31] ty #[.slice none 0 0,.slice none 0 cap]).run Tryz.prog w=.ok (.slice none 0 0) w := by
  intro ty
  have hs : Src Tryz.prog i0.size 31 (.slice none 0 cap) 0 [] w := Src.ofNil w Tryz.underlying31 cap
  rcases hs.kind with ⟨e',hk⟩ | hk <;> simp [Builtin.append_,run_underlying Tryz.underlying31,sizeOf,typeInfo,hi,hs.len,hs.cells]
 go_enter Tryz.func96,Tryz.ntmps96
 go_wp2_with (at_builtin; refine OM rfl _ _ 31 rfl _ _ _ rfl rfl hrun ?_)
 go_ret
 exact ⟨rfl,rfl⟩
theorem OH (ad : Addr) (cap : Nat) (l : List Nat) (w : World) (hl : l.length≤1099511627776) (hs : ∀ j,j < l.length→w.cell? (ad.add j)=some (.int .u32 (nth l j : Int))) (hlim : Lim l) :
  Calls Tryz.prog 96 #[.slice (some ad) l.length cap] w fun e w' => Below w.heap.size w w'∧∃ v,e=.returned v∧NatV w' v l := by
 obtain ⟨i0,hi,hz0,hz1,hz2⟩ := info_parts Tryz.infoU32
 have hown : w.ownsRow w.heap.size 128 1 (.slice none 0 0) 0 [] := ⟨rfl,Or.inl ⟨rfl,rfl⟩⟩
 have hnews : ∀ j u,(l.map fun x : Nat => Value.int .u32 (x : Int))[j]? = some u→w.cell? (ad.add j)=some u := by
  intro j u hj
  rw [List.getElem?_map,Option.map_eq_some_iff] at hj
  obtain ⟨x,hx,rfl⟩ := hj
  obtain ⟨hjl,hx⟩ := List.getElem?_eq_some_iff.1 hx
  rw [hs j hjl,Xx hjl,hx]
 have h1 : ∀ u ∈ (l.map fun x : Nat => Value.int .u32 (x : Int)),u.oneCell'=true := by
  intro u hu
  obtain ⟨x,_,rfl⟩ := List.mem_map.1 hu
  rfl
 have HS : Hid (∀ j u,(l.map fun x : Nat => Value.int .u32 (x : Int))[j]? = some u→w.cell? (ad.add j)=some u) := hnews
 clear hnews hs
 go_enter Tryz.func96,Tryz.ntmps96
 go_wp2_with (at_builtin; refine wpList_append_own _ rfl _ _ 31 rfl w.heap.size 128 i0 (.int .u32 0) 1 4 Tryz.underlying31 hi hz0 hz1 hz2 rfl (by decide) (.slice none 0 0) 0 [] rfl hown ad l.length cap (l.map fun x : Nat => Value.int .u32 (x : Int)) rfl (by simp) HS.out h1 (by unfold maxLen; omega) (by omega) (by simp) ?_; intro v' w1 hown1 hgrow hnil)
 go_ret
 simp only [Nat.zero_add,List.nil_append] at hown1
 have hb : Below w.heap.size w w1 := (Below.refl _ w).grown hgrow (by simp) (fun k hk => by simp [Value.ownBlock] at hk)
 refine ⟨hb,v',rfl,?_⟩
 by_cases e : v'=.slice none 0 0
 ·subst e
  rcases hown1.2 with ⟨_,h0⟩ | ⟨g,cap,cur,h0,_⟩
  ·have e1 : l=[] := List.length_eq_zero_iff.mp h0
   subst e1
   exact NatV.nil _ _ _
  ·cases h0
 ·obtain ⟨g,cap',rfl,hb,hc,hm,hrow⟩ := RN hown1 e
  exact ⟨hlim,Or.inr ⟨g,0,cap',rfl,hc,hm,hrow.lt,hrow.seg⟩⟩
theorem Xa {w : World} {va : Value} {a : Nat} (ha : NatN w va a) (hla : Small a) :
  Calls Tryz.prog 96 #[va] w fun e w' => Below w.heap.size w w'∧∃ v,e=.returned v∧NatN w' v a := by
 obtain ⟨l,⟨hlim,⟨rfl,ao,cap,rfl⟩ | ⟨b,off,cap,rfl,hc,hm,hlt,hs⟩⟩,ta,rfl⟩ := ha
 ·cases ao with
  | none =>
   refine (DK cap w).mono ?_
   rintro e w' ⟨rfl,rfl⟩
   exact ⟨Below.refl _ _,_,rfl,[],NatV.nil _ _ _,ta,rfl⟩
  | some ad =>
   refine (OH ad cap [] w (by simp) (fun j hj => absurd hj (by simp)) hlim).mono ?_
   rintro e w' ⟨hb,v,rfl,h⟩
   exact ⟨hb,v,rfl,[],h,ta,rfl⟩
 ·refine (OH ⟨b,off,none⟩ cap l w (hla.len ta) (fun j hj => ?_) hlim).mono ?_
  ·have := hs j hj
   simp only [Addr.add]
   split
   ·rename_i e; rw [e] at this ⊢; exact this
   ·exact this
  ·rintro e w' ⟨hb,v,rfl,h⟩
   exact ⟨hb,v,rfl,l,h,ta,rfl⟩
end Go.Proofs.YtnhplfjlhdpgoaaGreatDoor
/- BF -/
namespace Go.Proofs.YtnhplfjlhdpgoaaGreatDoor
open Go.RowKit Cx
theorem Ka {w : World} {ao : Option Addr} {ca b1 o1 : Nat} {la : List Nat} (ha : Sl w 31 ao ca la b1 o1) (hla : la.length≤1099511627776) (m : Nat) (hm : la.length=m+1) (ht : nth la m ≠ 0) :
  Calls Tryz.prog 137 #[.slice ao la.length ca] w fun e w' => w'=w∧∃ n : Nat,e=.returned (.int .i64 ((m*32+n : Nat) : Int))∧1≤n∧n≤32∧2 ^ (n - 1)≤nth la m∧nth la m < 2 ^ n := by
 have HA : Hid (Sl w 31 ao ca la b1 o1) := ha
 clear ha
 have xa : ((la.length : Int) == 0)=false := beq_eq_false_iff_ne.mpr (by omega)
 have hi : ((la.length : Int) - 1)=(m : Int) := by omega
 have hia := HA.out.idx m (by omega)
 have hca := HA.out.seg m (by omega)
 have hxa := QF HA.out.lim m
 obtain ⟨x,hx⟩ : ∃ x,x=nth la m := ⟨_,rfl⟩
 rw [← hx] at hca hxa ht ⊢
 clear hx
 have HM : Hid (la.length=m+1) := hm
 clear hm
 go_enter Tryz.func137,Tryz.ntmps137
 go_wp2
 go_loop [3,4] (fun n t => ∃ k : Nat,n=.int .i64 (k : Int)∧t=.int .u32 ((x / 2 ^ k : Nat) : Int)∧(1≤k→2 ^ (k - 1)≤x)) (fun _ t => (intOf t).toNat)
 case atStart => exact ⟨0,rfl,by simp,fun h => absurd h (by omega)⟩
 case round =>
  obtain ⟨k,rfl,rfl,hk⟩ := hrel
  have hk32 : k≤32 := by
   rcases Nat.lt_or_ge 32 k with h | h
   ·have h1 := hk (by omega)
    have h2 : 2 ^ 32≤2 ^ (k - 1) := Nat.pow_le_pow_right (by omega) (by omega)
    omega
   ·exact h
  obtain ⟨y,hy⟩ : ∃ y,y=x / 2 ^ k := ⟨_,rfl⟩
  rw [← hy]
  have hyx : y < 4294967296 := by rw [hy]; exact Nat.lt_of_le_of_lt (Nat.div_le_self _ _) hxa
  have HY : Hid (y=x / 2 ^ k) := hy
  have HK : Hid (1≤k→2 ^ (k - 1)≤x) := hk
  clear hy hk
  by_cases h0 : y=0
  ·subst h0
   go_wp2
   go_ret
   have h1 : x < 2 ^ k := by
    have h2 := HY.out
    rcases Nat.div_eq_zero_iff.1 h2.symm with h3 | h3
    ·have := Nat.two_pow_pos k; omega
    ·exact h3
   have hk1 : 1≤k := by
    rcases Nat.eq_zero_or_pos k with h | h
    ·subst h; simp at h1; omega
    ·exact h
   exact ⟨rfl,k,by go_num,hk1,hk32,HK.out hk1,h1⟩
  ·have hne : ((y : Int) != 0)=true := by rw [bne_iff_ne]; omega
   go_wp2
   go_round
   case rel =>
    refine ⟨k+1,by go_num,?_,fun _ => ?_⟩
    ·rw [Nat.pow_succ,← Nat.div_div_eq_div_mul,← HY.out]; go_num
    ·have h3 := HY.out
     have h4 : 1≤x / 2 ^ k := by omega
     rw [Nat.add_sub_cancel]
     exact (Nat.one_le_div_iff (Nat.two_pow_pos k)).1 h4
   case measure => simp [intOf]; omega
theorem Rd (n j : Nat) : nth (List.replicate n 0) j=0 := by
 rcases Nat.lt_or_ge j n with h | h
 ·rw [Xx (by simpa using h),List.getElem_replicate]
 ·exact QL (by simpa using h)
theorem PM {w : World} {ao : Option Addr} {ca b1 o1 sh : Nat} {la : List Nat} (ha : Sl w 31 ao ca la b1 o1) (hla : la.length≤1099511627776) (hne : la.length ≠ 0) (hsh : sh < 32) :
  Calls Tryz.prog 138 #[.slice ao la.length ca,.int .u64 sh] w fun e w' => Below w.heap.size w w'∧∃ v,e=.returned v∧NatN w' v (val la*2 ^ sh) := by
 have hmk := Zy (t := 31) (by kernel_rfl) (la.length+1) (by omega)
 have ec : ((la.length+1 : Nat) : Int)=(la.length : Int)+1 := by omega
 rw [ec] at hmk
 clear ec
 have HA : Hid (Sl w 31 ao ca la b1 o1) := ha
 clear ha
 have xa : ((la.length : Int) == 0)=false := beq_eq_false_iff_ne.mpr (by omega)
 have xd : (sh : Int) / 32=0 := by omega
 have xm : (sh : Int) % 32=sh := by omega
 go_enter Tryz.func138,Tryz.ntmps138
 go_wp2
 go_loopw [8] (fun i wr => ∃ (k : Nat) (cur : List Nat),k≤la.length∧i=.int .i64 k∧Row wr w.heap.size cur∧cur.length=la.length+1∧Lim cur∧nth cur k < 2 ^ sh∧(∀ j,k < j→nth cur j=0)∧val (cur.take k)+nth cur k*pw k=val (la.take k)*2 ^ sh∧Below w.heap.size w wr) (fun i _ => la.length - (intOf i).toNat)
 case atStart => exact ⟨0,List.replicate (la.length+1) 0,Nat.zero_le _,rfl,Row.new _ _,by simp,Zi _,by rw [Rd]; exact Nat.two_pow_pos _,fun j _ => Rd _ _,by rw [Rd]; simp [val],Qh _ _⟩
 case round =>
  obtain ⟨k,cur,hk,rfl,hrow,hcl,hcm,hcy,hz,hval,hbel⟩ := hrel
  have HV : Hid (val (cur.take k)+nth cur k*pw k=val (la.take k)*2 ^ sh) := hval
  have HL : Hid (cur.length=la.length+1) := hcl
  have HZ : Hid (∀ j,k < j→nth cur j=0) := hz
  clear hval hcl hz
  by_cases hlt : k < la.length
  ·have hia := HA.out.idx k hlt
   have hca := (hbel.cell (p := ⟨b1,o1+k,none⟩) (HA.out.lt (by omega))).trans (HA.out.seg k hlt)
   have hxa := QF HA.out.lim k
   have hcc := hrow.cell (j := k) (by rw [HL.out]; omega)
   have hcd := hrow.cell (j := k+1) (by rw [HL.out]; omega)
   rw [HZ.out (k+1) (by omega)] at hcd
   have hfz := hrow.frozen k
   have hfy := hrow.frozen (k+1)
   obtain ⟨cy,hcye⟩ : ∃ cy,cy=nth cur k := ⟨_,rfl⟩
   rw [← hcye] at hcc hcy
   have HCY : Hid (cy=nth cur k) := hcye
   clear hcye
   obtain ⟨m1,hm1⟩ : ∃ m1,m1=nth la k*2 ^ sh := ⟨_,rfl⟩
   have h2p := Um hsh
   have hcy2 : cy < 4294967296 := by omega
   have hb1 : m1≤9223372034707292160 := by
    rw [hm1]
    exact Nat.le_trans (Nat.mul_le_mul (show nth la k≤4294967295 by omega) h2p) (by omega)
   have hr1 : (nth la k : Int)*2 ^ sh=(m1 : Int) := by rw [hm1,Int.natCast_mul,Int.natCast_pow]; rfl
   have ho1 : bits .or .u32 (cy : Int) ((m1 : Int) % 4294967296)=((m1 % 4294967296+cy : Nat) : Int) := by
    have := u32_or_nat cy (m1 % 4294967296) (by omega) (by omega)
    rw [hm1] at this ⊢
    rw [Nat.or_comm,Ea hsh hcy] at this
    exact this
   have ho2 : bits .or .u32 0 ((m1 : Int) / 4294967296)=((m1 / 4294967296 : Nat) : Int) := by
    have := u32_or_nat 0 (m1 / 4294967296) (by omega) (by omega)
    rw [Nat.zero_or] at this
    exact this
   have HM : Hid (m1=nth la k*2 ^ sh) := hm1
   have HLT : Hid (m1 % 4294967296+cy < 4294967296) := by show m1 % 4294967296+cy < 4294967296; rw [hm1]; exact CI hsh hcy
   have HCL : Hid (m1 / 4294967296 < 2 ^ sh) := by
    show m1 / 4294967296 < 2 ^ sh
    rw [Nat.div_lt_iff_lt_mul (by omega),hm1,Nat.mul_comm (2 ^ sh)]
    exact Nat.mul_lt_mul_of_pos_right hxa (Nat.two_pow_pos _)
   clear hm1 h2p
   go_wp2
   go_roundw
   case rel =>
    refine ⟨k+1,(cur.set k (m1 % 4294967296+cy)).set (k+1) (m1 / 4294967296),by omega,by go_num,(hrow.set' _ _ rfl).set' _ _ rfl,by rw [List.length_set,List.length_set,HL.out],(hcm.set HLT.out).set (by omega),?_,?_,?_,(hbel.setCell (Nat.le_refl _) _).setCell (Nat.le_refl _) _⟩
    ·rw [ZS (by rw [List.length_set,HL.out]; omega)]; exact HCL.out
    ·intro j hj
     rw [Zb (by omega),Zb (by omega)]
     exact HZ.out j (by omega)
    ·have h1 := HV.out
     rw [← HCY.out] at h1
     rw [ZS (by rw [List.length_set,HL.out]; omega),List.take_set_of_le (Nat.le_refl _),Qo (by rw [HL.out]; omega),Qf,Qx]
     exact Pu _ _ _ _ _ _ _ h1 HM.out
   case measure => simp [intOf]; omega
  ·obtain rfl : k=la.length := by omega
   go_wp2_with fail
   refine (ZA hrow hcm HL.out (by omega)).mono ?_
   rintro e w' ⟨rfl,v',rfl,hv'⟩
   go_wp2
   go_ret
   refine ⟨hbel,v',rfl,?_⟩
   have h1 := HV.out
   rw [List.take_length,Nat.mul_comm (nth cur la.length),← Qf,List.take_of_length_le (by rw [HL.out]; omega)] at h1
   rw [h1] at hv'
   exact hv'
end Go.Proofs.YtnhplfjlhdpgoaaGreatDoor
/- BG -/
namespace Go.Proofs.YtnhplfjlhdpgoaaGreatDoor
open Go.RowKit Cx
theorem SH (ao : Option Addr) (ca sh : Nat) (w : World) :
  Calls Tryz.prog 138 #[.slice ao 0 ca,.int .u64 sh] w fun e w' => e=.returned (.slice none 0 0)∧w'=w := by
 go_enter Tryz.func138,Tryz.ntmps138
 go_wp2
 go_ret
 exact ⟨rfl,rfl⟩
theorem WR {w : World} {va : Value} {a sh : Nat} (ha : NatN w va a) (hla : Small a) (hsh : sh < 32) :
  Calls Tryz.prog 138 #[va,.int .u64 sh] w fun e w' => Below w.heap.size w w'∧∃ v,e=.returned v∧NatN w' v (a*2 ^ sh) := by
 obtain ⟨la,ha,ta,rfl⟩ := ha
 obtain ⟨ao,ca,b1,o1,rfl,sa⟩ := ha.sl32
 by_cases h1 : la.length=0
 ·have e1 : la=[] := List.length_eq_zero_iff.mp h1
  subst e1
  refine (SH ao ca sh w).mono ?_
  rintro e w' ⟨rfl,rfl⟩
  exact ⟨Below.refl _ _,_,rfl,[],NatV.nil _ _ _,Or.inl rfl,by simp [val]⟩
 exact PM sa (hla.len ta) h1 hsh
theorem Wq (S V l0 A L P r x L1 : Nat) (h : S*V+l0=A+L*P) (e : S*r+L=x+4294967296*L1) : S*(V+P*r)+l0=A+P*x+L1*(4294967296*P) := by
 have h2 : P*(S*r)+P*L=P*x+P*(4294967296*L1) := by rw [← Nat.mul_add,← Nat.mul_add,e]
 have h3 : P*(4294967296*L1)=L1*(4294967296*P) := by rw [Nat.mul_left_comm,Nat.mul_comm P L1,Nat.mul_left_comm]
 have h4 : S*(V+P*r)=S*V+P*(S*r) := by rw [Nat.mul_add,Nat.mul_left_comm]
 have h5 : P*L=L*P := Nat.mul_comm _ _
 omega
theorem SC {sh x y : Nat} (hsh : sh < 32) (hx : x < 4294967296) : 2 ^ sh*((y*4294967296+x) / 2 ^ sh % 4294967296)+x % 2 ^ sh=x+4294967296*(y % 2 ^ sh) := by
 obtain ⟨t,ht⟩ : ∃ t,4294967296=2 ^ sh*t := ⟨2 ^ (32 - sh),by rw [← Nat.pow_add,show sh+(32 - sh)=32 from by omega]⟩
 have hS := Nat.two_pow_pos sh
 obtain ⟨S,hSe⟩ : ∃ S,S=2 ^ sh := ⟨_,rfl⟩
 rw [← hSe] at ht hS ⊢
 have e1 : (y*4294967296+x) / S=y*t+x / S := by
  rw [ht,Nat.mul_left_comm,Nat.add_comm,Nat.add_mul_div_left _ _ hS,Nat.add_comm]
 have hxt : x / S < t := (Nat.div_lt_iff_lt_mul hS).2 (by rw [Nat.mul_comm,← ht]; exact hx)
 have e2 : (y*t+x / S) % 4294967296=y % S*t+x / S := by
  have hy := Nat.div_add_mod y S
  have e3 : y*t+x / S=(y % S*t+x / S)+4294967296*(y / S) := by
   have : y*t=S*(y / S)*t+y % S*t := by rw [← Nat.add_mul,hy]
   have h6 : S*(y / S)*t=4294967296*(y / S) := by rw [ht,Nat.mul_right_comm]
   omega
  rw [e3,Nat.add_mul_mod_self_left]
  refine Nat.mod_eq_of_lt ?_
  have h7 : y % S+1≤S := Nat.mod_lt _ hS
  have h8 := Nat.mul_le_mul_right t h7
  rw [Nat.add_mul,Nat.one_mul,← ht] at h8
  omega
 rw [e1,e2]
 have hx2 := Nat.div_add_mod x S
 have h9 : S*(y % S*t+x / S)=4294967296*(y % S)+S*(x / S) := by
  rw [Nat.mul_add,ht,Nat.mul_left_comm,Nat.mul_comm (y % S)]
 omega
theorem Gz {w : World} {ao : Option Addr} {ca b1 o1 sh : Nat} {la : List Nat} (ha : Sl w 31 ao ca la b1 o1) (hla : la.length≤1099511627776) (hne : 0 < la.length) (hsh : sh < 32) :
  Calls Tryz.prog 139 #[.slice ao la.length ca,.int .u64 sh] w fun e w' => Below w.heap.size w w'∧∃ v,e=.returned v∧NatN w' v (val la / 2 ^ sh) := by
 have hmk := Zy (t := 31) (by kernel_rfl) la.length (by omega)
 have HA : Hid (Sl w 31 ao ca la b1 o1) := ha
 clear ha
 have xe : ¬ la=[] := by intro e; subst e; simp at hne
 have xd : (sh : Int) / 32=0 := by omega
 have xm : (sh : Int) % 32=sh := by omega
 go_enter Tryz.func139,Tryz.ntmps139
 go_wp2
 go_loopw [8] (fun i wr => ∃ (k : Nat) (cur : List Nat),k≤la.length∧i=.int .i64 k∧Row wr w.heap.size cur∧cur.length=la.length∧Lim cur∧2 ^ sh*val (cur.take k)+nth la 0 % 2 ^ sh=val (la.take k)+nth la k % 2 ^ sh*pw k∧Below w.heap.size w wr) (fun i _ => la.length - (intOf i).toNat)
 case atStart => exact ⟨0,List.replicate la.length 0,Nat.zero_le _,rfl,Row.new _ _,by simp,Zi _,by simp [val,pw],Qh _ _⟩
 case round =>
  obtain ⟨k,cur,hk,rfl,hrow,hcl,hcm,hval,hbel⟩ := hrel
  have HV : Hid (2 ^ sh*val (cur.take k)+nth la 0 % 2 ^ sh=val (la.take k)+nth la k % 2 ^ sh*pw k) := hval
  have HL : Hid (cur.length=la.length) := hcl
  clear hval hcl
  by_cases hlt : k < la.length
  ·have hia := HA.out.idx k hlt
   have hca := (hbel.cell (p := ⟨b1,o1+k,none⟩) (HA.out.lt (by omega))).trans (HA.out.seg k hlt)
   have hxa := QF HA.out.lim k
   have hcc := hrow.cell (j := k) (by rw [HL.out]; omega)
   have hfz := hrow.frozen k
   by_cases hlt2 : k+1 < la.length
   ·have hib : ∀ wx,(Instr.indexAt 31 (.slice ao la.length ca) (.int .i64 ((k : Int)+1))).run Tryz.prog wx=.ok (.pointer (some ⟨b1,o1+(k+1),none⟩)) wx := HA.out.idx (k+1) hlt2
    have hcb := (hbel.cell (p := ⟨b1,o1+(k+1),none⟩) (HA.out.lt (by omega))).trans (HA.out.seg (k+1) hlt2)
    have hxb := QF HA.out.lim (k+1)
    have hor := MX (nth la (k+1)) (nth la k) hxb hxa
    obtain ⟨q,hq⟩ : ∃ q,q=(nth la (k+1)*4294967296+nth la k) / 2 ^ sh := ⟨_,rfl⟩
    have hq1 : ((nth la (k+1) : Int)*4294967296+(nth la k : Int)) / 2 ^ sh=(q : Int) := by rw [hq,Int.natCast_ediv,Int.natCast_pow,Int.natCast_add,Int.natCast_mul]; rfl
    have HQ : Hid (q=(nth la (k+1)*4294967296+nth la k) / 2 ^ sh) := hq
    clear hq
    go_wp2
    go_roundw
    case rel =>
     refine ⟨k+1,cur.set k (q % 4294967296),by omega,by go_num,hrow.set' _ _ (by go_num),by rw [List.length_set,HL.out],hcm.set (by omega),?_,hbel.setCell (Nat.le_refl _) _⟩
     rw [Qo (by rw [HL.out]; omega),Qf,Qx,HQ.out]
     exact Wq _ _ _ _ _ _ _ _ _ HV.out (SC hsh hxa)
    case measure => simp [intOf]; omega
   ·obtain ⟨q,hq⟩ : ∃ q,q=nth la k / 2 ^ sh := ⟨_,rfl⟩
    have hq1 : ((nth la k : Int)) / 2 ^ sh=(q : Int) := by rw [hq,Int.natCast_ediv,Int.natCast_pow]; rfl
    have hql : q < 4294967296 := by rw [hq]; exact Nat.lt_of_le_of_lt (Nat.div_le_self _ _) hxa
    have HQ : Hid (q=nth la k / 2 ^ sh) := hq
    clear hq
    go_wp2
    go_roundw
    case rel =>
     refine ⟨k+1,cur.set k q,by omega,by go_num,hrow.set' _ _ (by go_num),by rw [List.length_set,HL.out],hcm.set (by omega),?_,hbel.setCell (Nat.le_refl _) _⟩
     rw [Qo (by rw [HL.out]; omega),Qf,Qx,QL (l := la) (k := k+1) (by omega),HQ.out]
     have h1 := SC (y := 0) hsh hxa
     rw [Nat.zero_mul,Nat.zero_add,Nat.mod_eq_of_lt (Nat.lt_of_le_of_lt (Nat.div_le_self _ _) hxa)] at h1
     exact Wq _ _ _ _ _ _ _ _ _ HV.out h1
    case measure => simp [intOf]; omega
  ·obtain rfl : k=la.length := by omega
   go_wp2_with fail
   refine (ZA hrow hcm HL.out (by omega)).mono ?_
   rintro e w' ⟨rfl,v',rfl,hv'⟩
   go_wp2
   go_ret
   refine ⟨hbel,v',rfl,?_⟩
   have h1 := HV.out
   rw [List.take_length,QL (l := la) (k := la.length) (Nat.le_refl _),Nat.zero_mod,Nat.zero_mul,Nat.add_zero,List.take_of_length_le (by rw [HL.out]; omega)] at h1
   have h2 : val cur=val la / 2 ^ sh := by
    rw [← h1,Nat.mul_add_div (Nat.two_pow_pos _),Nat.div_eq_of_lt (Nat.mod_lt _ (Nat.two_pow_pos _)),Nat.add_zero]
   rw [h2] at hv'
   exact hv'
theorem Dm (ao : Option Addr) (ca sh : Nat) (w : World) (hsh : sh < 32) :
  Calls Tryz.prog 139 #[.slice ao 0 ca,.int .u64 sh] w fun e w' => e=.returned (.slice none 0 0)∧w'=w := by
 have xd : (sh : Int) / 32=0 := by omega
 have xm : (sh : Int) % 32=sh := by omega
 go_enter Tryz.func139,Tryz.ntmps139
 go_wp2
 go_ret
 exact ⟨rfl,rfl⟩
theorem Gi {w : World} {va : Value} {a sh : Nat} (ha : NatN w va a) (hla : Small a) (hsh : sh < 32) :
  Calls Tryz.prog 139 #[va,.int .u64 sh] w fun e w' => Below w.heap.size w w'∧∃ v,e=.returned v∧NatN w' v (a / 2 ^ sh) := by
 obtain ⟨la,ha,ta,rfl⟩ := ha
 obtain ⟨ao,ca,b1,o1,rfl,sa⟩ := ha.sl32
 by_cases h1 : la.length=0
 ·have e1 : la=[] := List.length_eq_zero_iff.mp h1
  subst e1
  refine (Dm ao ca sh w hsh).mono ?_
  rintro e w' ⟨rfl,rfl⟩
  exact ⟨Below.refl _ _,_,rfl,[],NatV.nil _ _ _,Or.inl rfl,by simp [val]⟩
 exact Gz sa (hla.len ta) (by omega) hsh
end Go.Proofs.YtnhplfjlhdpgoaaGreatDoor
/- BH -/
namespace Go.Proofs.YtnhplfjlhdpgoaaGreatDoor
open Go.RowKit Cx
theorem FD {w : World} {ao bo : Option Addr} {ca cb n m a b : Nat} (ha : NatN w (.slice ao n ca) a) (hb : NatN w (.slice bo m cb) b) (sa : Small a) (sb : Small b) (h : a < b) (hm : m ≠ 0) :
  Calls Tryz.prog 100 #[.slice ao n ca,.slice bo m cb] w fun e w' => Below w.heap.size w w'∧∃ v1 v2,e=.returned (.tuple #[v1,v2])∧NatN w' v1 (a / b)∧NatN w' v2 (a % b) := by
 have HC : Hid _ := Xt ha hb sa sb
 have HA : Hid (NatN w (.slice ao n ca) a) := ha
 have HS : Hid (Small a) := sa
 clear ha hb sa sb
 have xa : ((m : Int) == 0)=false := beq_eq_false_iff_ne.mpr (by omega)
 go_enter Tryz.func100,Tryz.ntmps100
 go_wp2_with fail
 refine Calls.mono HC.out ?_
 rintro e w1 ⟨hb1,c,rfl,hc1,hc2⟩
 have hc : c < 0 := hc1.2 h
 clear hc1 hc2
 go_wp2_with fail
 refine (Xa (HA.out.below hb1) HS.out).mono ?_
 rintro e w2 ⟨hb2,v,rfl,hv⟩
 go_wp2
 go_ret2
 exact ⟨hb1.trans (hb2.mono hb1.size),_,_,rfl,by rw [Nat.div_eq_of_lt h]; exact ⟨[],NatV.nil _ _ _,Or.inl rfl,rfl⟩,by rw [Nat.mod_eq_of_lt h]; exact hv⟩
theorem Fe {w : World} {ao bo : Option Addr} {ca cb n m a b : Nat} (ha : NatN w (.slice ao n ca) a) (hb : NatN w (.slice bo m cb) b) (sa : Small a) (sb : Small b) (h : b≤a) (hb0 : 0 < b) (hm : m ≠ 0) (hn : n≤2) (ha64 : a < 18446744073709551616) :
  Calls Tryz.prog 100 #[.slice ao n ca,.slice bo m cb] w fun e w' => Below w.heap.size w w'∧∃ v1 v2,e=.returned (.tuple #[v1,v2])∧NatN w' v1 (a / b)∧NatN w' v2 (a % b) := by
 have HC : Hid _ := Xt ha hb sa sb
 have HA : Hid (NatN w (.slice ao n ca) a) := ha
 have HB : Hid (NatN w (.slice bo m cb) b) := hb
 clear ha hb sa sb
 have xa : ((m : Int) == 0)=false := beq_eq_false_iff_ne.mpr (by omega)
 go_enter Tryz.func100,Tryz.ntmps100
 go_wp2_with fail
 refine Calls.mono HC.out ?_
 rintro e w1 ⟨hbl,c,rfl,hc1,hc2⟩
 have hc : ¬ c < 0 := fun h => by have := hc1.1 h; omega
 clear hc1 hc2
 go_wp2_with fail
 refine (Jf (HA.out.below hbl) ha64).mono ?_
 rintro e w2 ⟨rfl,hw2⟩
 have hw3 := hw2.symm; subst hw3; clear hw2
 go_wp2_with fail
 refine (Jf (HB.out.below hbl) (by omega)).mono ?_
 rintro e w2 ⟨rfl,hw2⟩
 have hw3 := hw2.symm; subst hw3; clear hw2
 have hq : (a : Int) / (b : Int)=((a / b : Nat) : Int) := (Int.natCast_ediv _ _).symm
 have hr : (a : Int) % (b : Int)=((a % b : Nat) : Int) := (Int.natCast_emod _ _).symm
 have lq : a / b < 18446744073709551616 := Nat.lt_of_le_of_lt (Nat.div_le_self _ _) ha64
 have lr : a % b < 18446744073709551616 := Nat.lt_of_le_of_lt (Nat.mod_le _ _) ha64
 have HLQ : Hid (a / b < 18446744073709551616) := lq
 have HLR : Hid (a % b < 18446744073709551616) := lr
 obtain ⟨q,hqq⟩ : ∃ q,q=a / b := ⟨_,rfl⟩
 obtain ⟨r,hrr⟩ : ∃ r,r=a % b := ⟨_,rfl⟩
 rw [← hqq] at hq HLQ
 rw [← hrr] at hr HLR
 clear lq lr
 have HE : Hid (q=a / b∧r=a % b) := And.intro hqq hrr
 have hwq : IntKind.u64.wrap (q : Int)=(q : Int) := by rw [IntKind.wrap_u64]; have := HLQ.out; omega
 have hwr : IntKind.u64.wrap (r : Int)=(r : Int) := by rw [IntKind.wrap_u64]; have := HLR.out; omega
 have htm : (a : Int).tmod (b : Int)=(r : Int) := by rw [Int.tmod_eq_emod_of_nonneg (by omega)]; exact hr
 clear hqq hrr
 go_wp2_with fail
 go_region_with (first
  | (go_at_call_of 91 (Value.int IntKind.u64 (q : Int)); refine (ZL q _ HLQ.out).mono ?_; rintro e w3 ⟨hb3,v1,rfl,hv1⟩)
  | (go_at_call_of 91 (Value.int IntKind.u64 (r : Int)); refine (ZL r _ HLR.out).mono ?_; rintro e w4 ⟨hb4,v2,rfl,hv2⟩))
 all_goals
  go_wp2
  go_ret2
  have hb5 : Below w.heap.size w w3 := (Below.drew hbl).trans (hb3.mono (by exact hbl.size))
  have hb6 : Below w.heap.size w w4 := hb5.trans (hb4.mono hb5.size)
  rw [HE.out.1] at hv1
  rw [HE.out.2] at hv2
  exact ⟨hb6,v1,v2,rfl,hv1.below hb4,hv2⟩
theorem FZ {w : World} {ao bo : Option Addr} {ca cb n a x b2 o2 : Nat} (ha : NatN w (.slice ao n ca) a) (hb : Sl w 31 bo cb [x] b2 o2) (hbn : NatN w (.slice bo 1 cb) x) (sa : Small a) (sb : Small x) (h : x≤a) (hx0 : 0 < x) (hn : 3≤n) :
  Calls Tryz.prog 100 #[.slice ao n ca,.slice bo 1 cb] w fun e w' => Below w.heap.size w w'∧∃ v1 v2,e=.returned (.tuple #[v1,v2])∧NatN w' v1 (a / x)∧NatN w' v2 (a % x) := by
 have hx : x < 4294967296 := hb.lim.head
 have hia : ∀ wx,(Instr.indexAt 31 (.slice bo 1 cb) (.int .i64 0)).run Tryz.prog wx=.ok (.pointer (some ⟨b2,o2,none⟩)) wx := hb.idx 0 (by simp)
 have hca : w.cell? ⟨b2,o2,none⟩=some (.int .u32 (x : Int)) := hb.seg 0 (by simp)
 have hlt : b2 < w.heap.size := hb.lt (by simp)
 have HC : Hid _ := Xt ha hbn sa sb
 have HA : Hid (NatN w (.slice ao n ca) a) := ha
 have HS : Hid (Small a) := sa
 clear ha hbn sa sb hb
 go_enter Tryz.func100,Tryz.ntmps100
 go_wp2_with fail
 refine Calls.mono HC.out ?_
 rintro e w1 ⟨hbl,c,rfl,hc1,hc2⟩
 have hc : ¬ c < 0 := fun h => by have := hc1.1 h; omega
 clear hc1 hc2
 have hca1 := (hbl.cell (p := ⟨b2,o2,none⟩) hlt).trans hca
 clear hca
 go_wp2_with fail
 refine (KO (HA.out.below hbl) HS.out hx0 hx).mono ?_
 rintro e w2 ⟨hb2,v1,rfl,hv1⟩
 have lr : a % x < 4294967296 := Nat.lt_trans (Nat.mod_lt _ hx0) hx
 obtain ⟨r,hr⟩ : ∃ r,r=a % x := ⟨_,rfl⟩
 rw [← hr] at lr
 have hr2 : (a : Int) % (x : Int)=(r : Int) := by rw [hr]; exact (Int.natCast_emod _ _).symm
 have HR : Hid (r=a % x) := hr
 clear hr
 have hrow : Row (w2.alloc (.cells #[.int .u32 (r : Int)] 128)) w2.heap.size [r] := Row.new w2 [r]
 have HV1 : Hid (NatN w2 v1 (a / x)) := hv1
 clear hv1
 go_wp2_with fail
 refine (ZA hrow (n := 1) (Lim.cons (by omega) Lim.nil) rfl (by omega)).mono ?_
 rintro e w' ⟨rfl,v',rfl,hv'⟩
 go_wp2
 go_ret2
 have hb3 : Below w.heap.size w w2 := hbl.trans (hb2.mono hbl.size)
 refine ⟨hb3.trans ((Qh _ _).mono hb3.size),v1,v',rfl,HV1.out.below (Qh _ _),?_⟩
 rw [← HR.out]
 have e1 : val [r]=r := by simp [val]
 rw [e1] at hv'
 exact hv'
end Go.Proofs.YtnhplfjlhdpgoaaGreatDoor
