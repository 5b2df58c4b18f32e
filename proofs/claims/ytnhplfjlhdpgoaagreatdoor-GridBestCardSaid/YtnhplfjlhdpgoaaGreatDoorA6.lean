/- Part 6 of the walks and of the mathematics under them: NumK NumL NumM NumN MathQ QA QB MathR QC QD MathT MathP MathU MathV WA BK BL. -/
import Derived.Test.YtnhplfjlhdpgoaaGreatDoorA4
import Derived.Test.YtnhplfjlhdpgoaaGreatDoorASh
import Derived.Lib.ItoaNum
import Derived.Test.YtnhplfjlhdpgoaaGreatDoorA1
import Derived.Deep.RegionWith
import Derived.Deep.RegionHeld3
import Derived.Deep.DrawnRows
import Derived.Deep.LoopGhost
import Derived.Lib.IndexLaws
import Derived.Lib.Strings
set_option maxHeartbeats 16000000
set_option maxRecDepth 100000
/- NumK -/
namespace Go.Proofs.YtnhplfjlhdpgoaaGreatDoor
open Go.RowKit Cx
theorem Ie (x : Nat) (w : World) (h0 : 0 < x) (h1 : x < 4294967296) :
  ∃ sh : Nat,sh < 32∧2147483648≤x*2 ^ sh∧x*2 ^ sh < 4294967296∧Calls Tryz.prog 166 #[.int .u32 x] w fun e w' => e=.returned (.int .i64 sh)∧w'=w := by
 have hb := Lib.bitLenAux_bounds 64 x (by omega) (by omega)
 have hle := Lib.bitLen_le x 32 (by omega) (by omega)
 have e : Lib.bitLen x=Lib.bitLenAux 64 x := rfl
 rw [← e] at hb
 obtain ⟨L,hL⟩ : ∃ L,Lib.bitLen x=L := ⟨_,rfl⟩
 rw [hL] at hb hle
 obtain ⟨hb1,hb2,hb3⟩ := hb
 refine ⟨32 - L,by omega,?_,?_,?_⟩
 ·have : 2 ^ (L - 1)*2 ^ (32 - L)≤x*2 ^ (32 - L) := Nat.mul_le_mul_right _ hb2
  rw [← Nat.pow_add,show L - 1+(32 - L)=31 from by omega] at this
  exact this
 ·have : x*2 ^ (32 - L) < 2 ^ L*2 ^ (32 - L) := Nat.mul_lt_mul_of_pos_right hb3 (Nat.two_pow_pos _)
  rw [← Nat.pow_add,show L+(32 - L)=32 from by omega] at this
  exact this
 ·have := Tryz.bits_LeadingZeros32 (x : Int) w (by omega) (by omega)
  rw [Int.toNat_natCast,hL,show (32 - (L : Int))=((32 - L : Nat) : Int) from by omega] at this
  exact this
def Blk (w : World) (g : Nat) (cs : Array Value) (t : TypeId) : Prop := w.heap[g]? = some (.cells cs t (0,0))
theorem Blk.cell {w : World} {g : Nat} {cs : Array Value} {t : TypeId} (h : Blk w g cs t) (j : Nat) : w.cell? ⟨g,j,none⟩=cs[j]? := by
 unfold Blk at h
 simp [World.cell?,h]
theorem Blk.frozen {w : World} {g : Nat} {cs : Array Value} {t : TypeId} (h : Blk w g cs t) (j : Nat) : w.frozen? ⟨g,j,none⟩=false := by
 unfold Blk at h
 simp [World.frozen?,h]
theorem Blk.set {w : World} {g : Nat} {cs : Array Value} {t : TypeId} (h : Blk w g cs t) (j : Nat) (v : Value) : Blk (w.setCell ⟨g,j,none⟩ v) g (cs.setIfInBounds j v) t := by
 unfold Blk at h ⊢
 rw [heap_setCell_same w g j _ _ _ h]
theorem Blk.below {w w' : World} {g B : Nat} {cs : Array Value} {t : TypeId} (h : Blk w g cs t) (hb : Below B w w') (hg : g < B) : Blk w' g cs t := by
 unfold Blk at h ⊢
 rw [hb.block g hg,h]
theorem Blk.new (w : World) (cs : Array Value) (t : TypeId) : Blk (w.alloc (.cells cs t)) w.heap.size cs t := by
 show (w.heap.push _)[w.heap.size]? = _
 simp
theorem Blk.lt {w : World} {g : Nat} {cs : Array Value} {t : TypeId} (h : Blk w g cs t) : g < w.heap.size := by
 unfold Blk at h
 by_cases hg : g < w.heap.size
 ·exact hg
 ·rw [Array.getElem?_eq_none (by omega)] at h; cases h
def TM (a b A0 A1 B0 B1 : Nat) (ev : Bool) : Prop :=
 B0=0 ∨ (A0 < 4294967296∧A1 < 4294967296∧B0 < 4294967296∧B1 < 4294967296∧(if ev then A0*B1=A1*B0+1 else A1*B0=A0*B1+1) ∧
  ∃ r0 r1,(if ev then A0*a=B0*b+r0 else B0*b=A0*a+r0)∧(if ev then B1*b=A1*a+r1 else A1*a=B1*b+r1)∧r1 < r0∧r0≤b)
theorem TO {a b x0 y0 x y A0 A1 A2 B0 B1 B2 : Nat} {ev : Bool} (h : Cx.Steps a b x0 y0 x y A0 A1 A2 B0 B1 B2 ev) : TM a b A0 A1 B0 B1 ev := by
 rcases h.later with ⟨_,_,_,_,h0,_⟩ | ⟨h1,h2,h3,r1,h4,h5,h6⟩
 ·exact Or.inl h0
 ·rcases h6 with h6 | ⟨h7,h8,r0,h9,h10,h11⟩
  ·exact Or.inl h6
  ·exact Or.inr ⟨h7,by omega,h8,h2,h3,r0,r1,h9,h4,h10,h11⟩
theorem Cv {w : World} {ao bo : Option Addr} {ca cb b1 o1 sh x0 y0 : Nat} {la lb : List Nat} (ha : Sl w 56 ao ca la b1 o1) (hla : la.length≤1099511627776) (h3 : 3≤la.length)
  (hlz : ∀ wx,Calls Tryz.prog 166 #[.int .u32 (nth la (la.length - 1))] wx fun e w' => e=.returned (.int .i64 sh)∧w'=wx)
  (hl1 : ∀ wx,Below w.heap.size w wx→Calls Tryz.prog 187 #[.slice ao la.length ca,.int .i64 la.length,.int .i64 sh] wx fun e w' => Below wx.heap.size wx w'∧e=.returned (.int .u64 x0))
  (hl2 : ∀ wx,Below w.heap.size w wx→Calls Tryz.prog 187 #[.slice bo lb.length cb,.int .i64 la.length,.int .i64 sh] wx fun e w' => Below wx.heap.size wx w'∧e=.returned (.int .u64 y0))
  {S D : Nat} (hB : Bits (val la) (val lb) S D x0 y0) (hyx : y0≤x0) :
  Calls Tryz.prog 170 #[.slice ao la.length ca,.slice bo lb.length cb] w fun e w' => Below w.heap.size w w'∧∃ (A0 A1 B0 B1 : Nat) (ev : Bool),e=.returned (.agg #[.int .u64 A0,.int .u64 A1,.int .u64 B0,.int .u64 B1,.bool ev])∧TM (val la) (val lb) A0 A1 B0 B1 ev := by
 have hia : ∀ wx,(Instr.indexAt 56 (.slice ao la.length ca) (.int .i64 ((la.length : Int) - 1))).run Tryz.prog wx=.ok (.pointer (some ⟨b1,o1+(la.length - 1),none⟩)) wx := fun wx => by
  have := ha.idx (la.length - 1) (by omega) wx
  rwa [show ((la.length - 1 : Nat) : Int)=(la.length : Int) - 1 from by omega] at this
 have hca := ha.seg (la.length - 1) (by omega)
 have hblt := ha.lt (by omega)
 have HZ : Hid (∀ wx,Calls Tryz.prog 166 #[.int .u32 (nth la (la.length - 1))] wx fun e w' => e=.returned (.int .i64 sh)∧w'=wx) := hlz
 have H1 : Hid (∀ wx,Below w.heap.size w wx→Calls Tryz.prog 187 #[.slice ao la.length ca,.int .i64 la.length,.int .i64 sh] wx fun e w' => Below wx.heap.size wx w'∧e=.returned (.int .u64 x0)) := hl1
 have H2 : Hid (∀ wx,Below w.heap.size w wx→Calls Tryz.prog 187 #[.slice bo lb.length cb,.int .i64 la.length,.int .i64 sh] wx fun e w' => Below wx.heap.size wx w'∧e=.returned (.int .u64 y0)) := hl2
 have HB : Hid (Bits (val la) (val lb) S D x0 y0) := hB
 clear hlz hl1 hl2 hB ha
 go_enter Tryz.func170,Tryz.ntmps170
 go_wp2_with fail
 refine (HZ.out _).mono ?_
 rintro e w1 ⟨rfl,rfl⟩
 clear hca hia
 go_wp2_with fail
 refine (H1.out _ (Qh _ _)).mono ?_
 rintro e w1 ⟨hb1,rfl⟩
 have hw1 : Below w.heap.size w w1 := (Qh w _).trans (hb1.mono (by simp))
 have hc0 := hb1.size
 go_wp2_with fail
 refine (H2.out _ hw1).mono ?_
 rintro e w2 ⟨hb2,rfl⟩
 have hw2 : Below w.heap.size w w2 := hw1.trans (hb2.mono hw1.size)
 have hblk : Blk w2 w.heap.size #[.int .u64 0,.int .u64 0,.int .u64 0,.int .u64 0,.bool false] 188 :=
  ((Blk.new w _ _).below hb1 (by simp)).below hb2 (by simp at hc0; omega)
 have hsz2 : w.heap.size < w2.heap.size := by
  have := hb2.size
  simp at hc0
  omega
 have HBLK : Hid (Blk w2 w.heap.size #[.int .u64 0,.int .u64 0,.int .u64 0,.int .u64 0,.bool false] 188) := hblk
 have HW2 : Hid (Below w.heap.size w w2) := hw2
 clear hblk hw2 hb1 hb2 hw1 hc0 H1 H2 HZ
 go_wp2
 go_loopw [6,7,9,10] (fun vx vy va vb wr => ∃ (x y A0 A1 A2 B0 B1 B2 : Nat) (ev : Bool),vx=.int .u64 x∧vy=.int .u64 y∧va=.int .u64 A2∧vb=.int .u64 B2∧Blk wr w2.heap.size #[.int .u64 A0,.int .u64 A1,.int .u64 B0,.int .u64 B1,.bool ev] 188∧Below w2.heap.size w2 wr∧Cx.Steps (val la) (val lb) x0 y0 x y A0 A1 A2 B0 B1 B2 ev∧x < 18446744073709551616∧A2 < 18446744073709551616∧B2 < 18446744073709551616∧A1 < 4294967296∧B1 < 4294967296) (fun _ vy _ _ _ => (intOf vy).toNat)
 case atStart => exact ⟨x0,y0,0,1,0,0,0,1,false,rfl,rfl,rfl,rfl,Blk.new _ _ _,Qh _ _,Cx.Steps.start _ _ _ _ hyx,HB.out.hx,by omega,by omega,by omega,by omega⟩
 case round =>
  obtain ⟨x,y,A0,A1,A2,B0,B1,B2,ev,rfl,rfl,rfl,rfl,hblk,hbel,hst,hx,hA2,hB2,hA1,hB1⟩ := hrel
  have HST : Hid (Cx.Steps (val la) (val lb) x0 y0 x y A0 A1 A2 B0 B1 B2 ev) := hst
  clear hst
  have c0 : wr.cell? ⟨w2.heap.size,0,none⟩=some (.int .u64 A0) := hblk.cell 0
  have c1 : wr.cell? ⟨w2.heap.size,1,none⟩=some (.int .u64 A1) := hblk.cell 1
  have c2 : wr.cell? ⟨w2.heap.size,2,none⟩=some (.int .u64 B0) := hblk.cell 2
  have c3 : wr.cell? ⟨w2.heap.size,3,none⟩=some (.int .u64 B1) := hblk.cell 3
  have c4 : wr.cell? ⟨w2.heap.size,4,none⟩=some (.bool ev) := hblk.cell 4
  have f0 := hblk.frozen 0
  have f1 := hblk.frozen 1
  have f2 := hblk.frozen 2
  have f3 := hblk.frozen 3
  have f4 := hblk.frozen 4
  have hle : y≤x := HST.out.lt
  have hab : A2≤B2 := HST.out.ab
  have hpos : 1≤B2 := HST.out.pos
  by_cases ht1 : B2≤y
  ·have hsh2 : B2 < 4294967296 := HST.out.short HB.out.hx ht1
   by_cases ht2 : B1+B2≤x - y
   ·have HN : Hid (Cx.Steps (val la) (val lb) x0 y0 y (x % y) A1 A2 (A1+x / y*A2) B1 B2 (B1+x / y*B2) (!ev)) := HST.out.step HB.out ht1 ht2
    have hfit : B1+x / y*B2 < 18446744073709551616 := HN.out.fits HB.out.hx (by omega)
    have hab' : A1+x / y*A2≤B1+x / y*B2 := HN.out.ab
    obtain ⟨qq,hq⟩ : ∃ qq,qq=x / y := ⟨_,rfl⟩
    obtain ⟨rr,hr⟩ : ∃ rr,rr=x % y := ⟨_,rfl⟩
    have HN2 : Hid (Cx.Steps (val la) (val lb) x0 y0 y rr A1 A2 (A1+qq*A2) B1 B2 (B1+qq*B2) (!ev)) := by
     have := HN.out
     rw [← hq,← hr] at this
     exact this
    rw [← hq] at hfit hab'
    have hq1 : (x : Int) / (y : Int)=(qq : Int) := by rw [hq]; exact (Int.natCast_ediv _ _).symm
    have hr1 : (x : Int) % (y : Int)=(rr : Int) := by rw [hr]; exact (Int.natCast_emod _ _).symm
    have hrl : rr < y := by rw [hr]; exact Nat.mod_lt _ (by omega)
    have HQ : Hid (qq≤x) := by show qq≤x; rw [hq]; exact Nat.div_le_self _ _
    have hqx : qq≤x := HQ.out
    clear hq hr HN
    obtain ⟨m1,hm1⟩ : ∃ m1,m1=qq*A2 := ⟨_,rfl⟩
    obtain ⟨m2,hm2⟩ : ∃ m2,m2=qq*B2 := ⟨_,rfl⟩
    have hp1 : (qq : Int)*(A2 : Int)=(m1 : Int) := by rw [hm1]; exact (Int.natCast_mul _ _).symm
    have hp2 : (qq : Int)*(B2 : Int)=(m2 : Int) := by rw [hm2]; exact (Int.natCast_mul _ _).symm
    rw [← hm1] at hab'
    rw [← hm2] at hfit hab'
    have HM : Hid (m1=qq*A2∧m2=qq*B2) := ⟨hm1,hm2⟩
    clear hm1 hm2
    go_wp2
    go_quiet (fail)
    go_wp2
    go_roundw
    case rel =>
     have := HN2.out
     rw [← HM.out.1,← HM.out.2] at this
     exact ⟨y,rr,A1,A2,A1+m1,B1,B2,B1+m2,!ev,rfl,by rw [hr1],by go_num,by go_num,((((Blk.set (w := wr.drewN _) hblk 0 _).set 1 _).set 2 _).set 3 _).set 4 _,(((((QM hbel _).setCell (Nat.le_refl _) _).setCell (Nat.le_refl _) _).setCell (Nat.le_refl _) _).setCell (Nat.le_refl _) _).setCell (Nat.le_refl _) _,this,by omega,by omega,by omega,by omega,by omega⟩
    case measure => simp only [intOf,hr1]; simp; omega
   ·have hrb := HBLK.out.below hbel hsz2
    have e0 : wr.cell? ⟨w.heap.size,0,none⟩=some (.int .u64 0) := hrb.cell 0
    have e1 : wr.cell? ⟨w.heap.size,1,none⟩=some (.int .u64 0) := hrb.cell 1
    have e2 : wr.cell? ⟨w.heap.size,2,none⟩=some (.int .u64 0) := hrb.cell 2
    have e3 : wr.cell? ⟨w.heap.size,3,none⟩=some (.int .u64 0) := hrb.cell 3
    have e4 : wr.cell? ⟨w.heap.size,4,none⟩=some (.bool false) := hrb.cell 4
    have g0 := hrb.frozen 0
    have g1 := hrb.frozen 1
    have g2 := hrb.frozen 2
    have g3 := hrb.frozen 3
    have g4 := hrb.frozen 4
    go_wp2
    have hbl : Below w.heap.size w wr := HW2.out.trans (hbel.mono (by omega))
    have hfin := ((((hrb.set 0 (.int .u64 A0)).set 1 (.int .u64 A1)).set 2 (.int .u64 B0)).set 3 (.int .u64 B1)).set 4 (.bool ev)
    have k0 := hfin.cell 0
    have k1 := hfin.cell 1
    have k2 := hfin.cell 2
    have k3 := hfin.cell 3
    have k4 := hfin.cell 4
    exact bodyPost_ret (v := .agg #[.int .u64 A0,.int .u64 A1,.int .u64 B0,.int .u64 B1,.bool ev]) (by simp [results,Tryz.results170,go_sem,k0,k1,k2,k3,k4]) rfl ⟨((((hbl.setCell (Nat.le_refl _) _).setCell (Nat.le_refl _) _).setCell (Nat.le_refl _) _).setCell (Nat.le_refl _) _).setCell (Nat.le_refl _) _,A0,A1,B0,B1,ev,rfl,TO HST.out⟩
  ·have hrb := HBLK.out.below hbel hsz2
   have e0 : wr.cell? ⟨w.heap.size,0,none⟩=some (.int .u64 0) := hrb.cell 0
   have e1 : wr.cell? ⟨w.heap.size,1,none⟩=some (.int .u64 0) := hrb.cell 1
   have e2 : wr.cell? ⟨w.heap.size,2,none⟩=some (.int .u64 0) := hrb.cell 2
   have e3 : wr.cell? ⟨w.heap.size,3,none⟩=some (.int .u64 0) := hrb.cell 3
   have e4 : wr.cell? ⟨w.heap.size,4,none⟩=some (.bool false) := hrb.cell 4
   have g0 := hrb.frozen 0
   have g1 := hrb.frozen 1
   have g2 := hrb.frozen 2
   have g3 := hrb.frozen 3
   have g4 := hrb.frozen 4
   go_wp2
   have hbl : Below w.heap.size w wr := HW2.out.trans (hbel.mono (by omega))
   have hfin := ((((hrb.set 0 (.int .u64 A0)).set 1 (.int .u64 A1)).set 2 (.int .u64 B0)).set 3 (.int .u64 B1)).set 4 (.bool ev)
   have k0 := hfin.cell 0
   have k1 := hfin.cell 1
   have k2 := hfin.cell 2
   have k3 := hfin.cell 3
   have k4 := hfin.cell 4
   exact bodyPost_ret (v := .agg #[.int .u64 A0,.int .u64 A1,.int .u64 B0,.int .u64 B1,.bool ev]) (by simp [results,Tryz.results170,go_sem,k0,k1,k2,k3,k4]) rfl ⟨((((hbl.setCell (Nat.le_refl _) _).setCell (Nat.le_refl _) _).setCell (Nat.le_refl _) _).setCell (Nat.le_refl _) _).setCell (Nat.le_refl _) _,A0,A1,B0,B1,ev,rfl,TO HST.out⟩
theorem KS {l : List Nat} {n : Nat} : nth l n*pw n≤val l := by
 by_cases h : n < l.length
 ·rw [Xm l (n+1) (by omega),Qf,Nat.mul_comm]
  have := Nat.zero_le (pw (n+1)*val (l.drop (n+1)))
  omega
 ·rw [QL (by omega),Nat.zero_mul]; exact Nat.zero_le _
theorem Uf {l : List Nat} (hl : Lim l) (h : 0 < l.length) : val l < (nth l (l.length - 1)+1)*pw (l.length - 1) := by
 have h1 := Qf l (l.length - 1)
 rw [List.take_of_length_le (by omega)] at h1
 have h2 := Jl hl (l.length - 1)
 rw [h1,Nat.add_mul,Nat.one_mul,Nat.mul_comm (nth l (l.length - 1))]
 omega
theorem FF {w : World} {va vb : Value} {a b : Nat} {la lb : List Nat} (ha : NatV w va la) (hb : NatV w vb lb) (ta : Trim la) (ea : val la=a) (eb : val lb=b) (hla : la.length≤1099511627776) (h3 : 3≤la.length) (hlb : lb.length≤la.length) (hle : b≤a) :
  Calls Tryz.prog 170 #[va,vb] w fun e w' => Below w.heap.size w w'∧∃ (A0 A1 B0 B1 : Nat) (ev : Bool),e=.returned (.agg #[.int .u64 A0,.int .u64 A1,.int .u64 B0,.int .u64 B1,.bool ev])∧TM a b A0 A1 B0 B1 ev := by
 subst ea eb
 have hlimA := ha.1
 have hlimB := hb.1
 have hpos : 0 < nth la (la.length - 1) := by
  rcases ta with h | h
  ·rw [h] at h3; simp at h3
  ·omega
 have hx := QF hlimA (la.length - 1)
 obtain ⟨sh,hsh,hs1,hs2,_⟩ := Ie (nth la (la.length - 1)) w hpos hx
 have hlz : ∀ wx,Calls Tryz.prog 166 #[.int .u32 (nth la (la.length - 1))] wx fun e w' => e=.returned (.int .i64 sh)∧w'=wx := by
  intro wx
  obtain ⟨sh',hsh',hs1',hs2',hc⟩ := Ie (nth la (la.length - 1)) wx hpos hx
  have : sh'=sh := by
   have key : ∀ p q : Nat,p < q→2147483648≤nth la (la.length - 1)*2 ^ p→nth la (la.length - 1)*2 ^ q < 4294967296→False := by
    intro p q hpq h1 h2
    have h4 : 2 ^ (p+1)≤2 ^ q := Nat.pow_le_pow_right (by omega) hpq
    have h5 := Nat.mul_le_mul_left (nth la (la.length - 1)) h4
    rw [Nat.pow_succ,← Nat.mul_assoc] at h5
    omega
   rcases Nat.lt_trichotomy sh' sh with h | h | h
   ·exact (key sh' sh h hs1' hs2).elim
   ·exact h
   ·exact (key sh sh' h hs1 hs2').elim
  rw [this] at hc
  exact hc
 have hvt := Uf hlimA (by omega)
 have hp1 := Xv (la.length - 1)
 have hS := Nat.two_pow_pos sh
 have htopB : nth lb (la.length - 1)≤nth la (la.length - 1) := by
  have h1 := KS (l := lb) (n := la.length - 1)
  have h2 : nth lb (la.length - 1)*pw (la.length - 1) < (nth la (la.length - 1)+1)*pw (la.length - 1) := by omega
  have := Nat.lt_of_mul_lt_mul_right h2
  omega
 have hsB : nth lb (la.length - 1)*2 ^ sh < 4294967296 := Nat.lt_of_le_of_lt (Nat.mul_le_mul_right _ htopB) hs2
 obtain ⟨al,hal,ha1⟩ := MA (n := la.length) hlimA (Nat.le_refl _) h3 hsh
 obtain ⟨be,hbe,hb1⟩ := MA (n := la.length) hlimB hlb h3 hsh
 obtain ⟨x0,hx0e⟩ : ∃ x0,x0=(nth la (la.length - 1)*4294967296+nth la (la.length - 2))*2 ^ sh+nth la (la.length - 3)*2 ^ sh / 4294967296 := ⟨_,rfl⟩
 obtain ⟨y0,hy0e⟩ : ∃ y0,y0=(nth lb (la.length - 1)*4294967296+nth lb (la.length - 2))*2 ^ sh+nth lb (la.length - 3)*2 ^ sh / 4294967296 := ⟨_,rfl⟩
 rw [← hx0e] at ha1
 rw [← hy0e] at hb1
 have hsa : ∀ wx,Below w.heap.size w wx→Calls Tryz.prog 187 #[va,.int .i64 la.length,.int .i64 sh] wx fun e w' => Below wx.heap.size wx w'∧e=.returned (.int .u64 x0) := by
  intro wx hx
  obtain ⟨ao,ca,b1,o1,e,s⟩ := (ha.below hx).slN
  rw [e,hx0e]
  exact Pz s (Nat.le_refl _) hla h3 hsh hs2
 have hsb : ∀ wx,Below w.heap.size w wx→Calls Tryz.prog 187 #[vb,.int .i64 la.length,.int .i64 sh] wx fun e w' => Below wx.heap.size wx w'∧e=.returned (.int .u64 y0) := by
  intro wx hx
  obtain ⟨ao,ca,b1,o1,e,s⟩ := (hb.below hx).slN
  rw [e,hy0e]
  exact Pz s hlb hla h3 hsh hsB
 clear hx0e hy0e
 have hD := Xv (la.length - 2)
 have hx0 : x0 < 18446744073709551616 := by
  have h1 : (nth la (la.length - 1)+1)*2 ^ sh≤4294967296 := by
   have hW := Xb hsh
   rw [hW] at hs2 ⊢
   exact Nat.mul_le_mul_right _ (Nat.lt_of_mul_lt_mul_right hs2)
  have e1 : pw (la.length - 1)=4294967296*pw (la.length - 2) := by
   rw [show la.length - 1=(la.length - 2)+1 from by omega,Qx]
  have h2 : val la*2 ^ sh < (nth la (la.length - 1)+1)*pw (la.length - 1)*2 ^ sh := Nat.mul_lt_mul_of_pos_right hvt hS
  have h3' : (nth la (la.length - 1)+1)*pw (la.length - 1)*2 ^ sh≤18446744073709551616*pw (la.length - 2) := by
   rw [e1]
   have : (nth la (la.length - 1)+1)*(4294967296*pw (la.length - 2))*2 ^ sh=((nth la (la.length - 1)+1)*2 ^ sh)*(4294967296*pw (la.length - 2)) := by
    generalize 2 ^ sh=S
    generalize pw (la.length - 2)=P
    generalize nth la (la.length - 1)=t
    grind
   rw [this]
   have := Nat.mul_le_mul_right (4294967296*pw (la.length - 2)) h1
   omega
  have h4 : x0*pw (la.length - 2) < 18446744073709551616*pw (la.length - 2) := by omega
  exact Nat.lt_of_mul_lt_mul_right h4
 have hyx : y0≤x0 := by
  have h1 : val lb*2 ^ sh≤val la*2 ^ sh := Nat.mul_le_mul_right _ hle
  have h2 : y0*pw (la.length - 2) < (x0+1)*pw (la.length - 2) := by
   rw [Nat.add_mul,Nat.one_mul]; omega
  have := Nat.lt_of_mul_lt_mul_right h2
  omega
 obtain ⟨ao,ca,b1,o1,rfl,sa⟩ := ha.slN
 obtain ⟨bo,cb,b2,o2,rfl,sb⟩ := hb.slN
 exact Cv sa hla h3 hlz hsa hsb (S := 2 ^ sh) (D := pw (la.length - 2)) ⟨⟨al,hal,ha1⟩,⟨be,hbe,hb1⟩,hS,hx0,hle⟩ hyx
end Go.Proofs.YtnhplfjlhdpgoaaGreatDoor
/- NumL -/
namespace Go.Proofs.YtnhplfjlhdpgoaaGreatDoor
open Go.RowKit Cx
attribute [local go_sem ↓] Go.wp_at_zero Go.wp_at_succ
theorem Qd {p : Prop} (h : p) : Hid p := h
theorem lz_same {x sh : Nat} (hpos : 0 < x) (hx : x < 4294967296) (hs1 : 2147483648≤x*2 ^ sh) (hs2 : x*2 ^ sh < 4294967296) :
  ∀ wx,Calls Tryz.prog 166 #[.int .u32 x] wx fun e w' => e=.returned (.int .i64 sh)∧w'=wx := by
 intro wx
 obtain ⟨sh',hsh',hs1',hs2',hc⟩ := Ie x wx hpos hx
 have : sh'=sh := by
  have key : ∀ p q : Nat,p < q→2147483648≤x*2 ^ p→x*2 ^ q < 4294967296→False := by
   intro p q hpq h1 h2
   have h4 : 2 ^ (p+1)≤2 ^ q := Nat.pow_le_pow_right (by omega) hpq
   have h5 := Nat.mul_le_mul_left x h4
   rw [Nat.pow_succ,← Nat.mul_assoc] at h5
   omega
  rcases Nat.lt_trichotomy sh' sh with h | h | h
  ·exact (key sh' sh h hs1' hs2).elim
  ·exact h
  ·exact (key sh sh' h hs1 hs2').elim
 rw [this] at hc
 exact hc
theorem Only.row {g g' : Nat} {w w' : World} {l : List Nat} (h : Only g w w') (hr : Row w g' l) (hne : g' ≠ g) : Row w' g' l := by
 obtain ⟨sp,hr⟩ := hr
 exact ⟨sp,by rw [h.block g' hne,hr]⟩
theorem EY {w : World} {g g' : Nat} {l : List Nat} (h : Row w g l) (hne : g' ≠ g) (j : Nat) (v : Value) : Row (w.setCell ⟨g',j,none⟩ v) g l := by
 obtain ⟨sp,h⟩ := h
 exact ⟨sp,by rw [Below.heap_setCell _ _ _ _ (by exact fun e => hne e.symm),h]⟩
theorem top_of {v : List Nat} {n : Nat} (hv : Lim v) (hn : v.length=n) (h : 2147483648*pw (n - 1)≤val v) (h0 : 0 < n) : 2147483648≤nth v (n - 1) := by
 have h1 := Uf hv (by omega)
 rw [hn] at h1
 have h2 : 2147483648*pw (n - 1) < (nth v (n - 1)+1)*pw (n - 1) := by omega
 have := Nat.lt_of_mul_lt_mul_right h2
 omega
theorem IQ {w : World} {g o cu cv gv ov n : Nat} {p u s v : List Nat} (hr : Row w g (p ++ u ++ s)) (ho : p.length=o) (hu : Lim u) (hv : Lim v) (hsv : Seg w gv ov v) (hne : gv ≠ g) (h2 : 2≤n) (hn : v.length=n) (hun : u.length=n+1) (hm : n≤1099511627772)
  (hlead : 2147483648≤nth v (n - 1)) (hq : val u < 4294967296*val v) :
  Calls Tryz.prog 168 #[.slice (some ⟨g,o,none⟩) (n+1) cu,.slice (some ⟨gv,ov,none⟩) n cv] w fun e w' => e=.returned (.int .u32 (val u / val v : Nat))∧Only g w w'∧∃ u' : List Nat,Row w' g (p ++ u' ++ s)∧Lim u'∧u'.length=n+1∧val u'=val u % val v := by
 subst ho
 obtain ⟨m,rfl⟩ : ∃ m,n=m+2 := ⟨n - 2,by omega⟩
 exact Ti hr hu hv hsv hne hn hun (by omega) hlead hq
theorem Th {w : World} {ao bo : Option Addr} {ca cb b2 o2 n sh : Nat} {la lb : List Nat} (hb : Sl w 56 bo cb lb b2 o2) (hla : la.length≤1099511627770) (hn : lb.length=n) (h2 : 2≤n) (hnl : n≤la.length)
  (hlz : ∀ wx,Calls Tryz.prog 166 #[.int .u32 (nth lb (n - 1))] wx fun e w' => e=.returned (.int .i64 sh)∧w'=wx)
  (hsa : ∀ wx,Below w.heap.size w wx→Calls Tryz.prog 167 #[.slice ao la.length ca,.int .i64 sh] wx fun e w' => Below wx.heap.size wx w'∧e=.returned (.slice (some ⟨wx.heap.size,0,none⟩) (la.length+1) (la.length+1))∧∃ l',Row w' wx.heap.size l'∧Lim l'∧l'.length=la.length+1∧val l'=val la*2 ^ sh)
  (hsb : ∀ wx,Below w.heap.size w wx→Calls Tryz.prog 167 #[.slice bo n cb,.int .i64 sh] wx fun e w' => Below wx.heap.size wx w'∧e=.returned (.slice (some ⟨wx.heap.size,0,none⟩) (n+1) (n+1))∧∃ l',Row w' wx.heap.size l'∧Lim l'∧l'.length=n+1∧val l'=val lb*2 ^ sh)
  (hsh : sh < 32) (hbn : val lb*2 ^ sh < pw n) (htop : 2147483648*pw (n - 1)≤val lb*2 ^ sh)
  (hst : ∀ l1,Lim l1→l1.length=la.length+1→val l1=val la*2 ^ sh→val (l1.drop (la.length - n+1)) < val lb*2 ^ sh) :
  Calls Tryz.prog 147 #[.slice ao la.length ca,.slice bo n cb] w fun e w' => Below w.heap.size w w'∧∃ v1 v2,e=.returned (.tuple #[v1,v2])∧NatN w' v1 (val la / val lb)∧NatN w' v2 (val la % val lb) := by
 have hia : ∀ wx,(Instr.indexAt 56 (.slice bo n cb) (.int .i64 ((n : Int) - 1))).run Tryz.prog wx=.ok (.pointer (some ⟨b2,o2+(n - 1),none⟩)) wx := fun wx => by
  have := hb.idx (n - 1) (by omega) wx
  rwa [hn,show ((n - 1 : Nat) : Int)=(n : Int) - 1 from by omega] at this
 have hca := hb.seg (n - 1) (by omega)
 have HZ : Hid (∀ wx,Calls Tryz.prog 166 #[.int .u32 (nth lb (n - 1))] wx fun e w' => e=.returned (.int .i64 sh)∧w'=wx) := hlz
 have HSA := Qd hsa
 have HSB := Qd hsb
 have HN : Hid (lb.length=n) := hn
 have HSH : Hid (sh < 32) := hsh
 have HBN : Hid (val lb*2 ^ sh < pw n) := hbn
 have HTOP : Hid (2147483648*pw (n - 1)≤val lb*2 ^ sh) := htop
 have HST := Qd hst
 clear hlz hsa hsb hn hbn htop hst
 go_enter Tryz.func147,Tryz.ntmps147
 go_wp2_with fail
 refine (HZ.out _).mono ?_
 rintro e w1 ⟨rfl,hw1⟩
 have hw2 := hw1.symm; subst hw2; clear hw1
 go_wp2_with fail
 go_region_with (first
  | (go_at_call_of 167 (Value.slice ao la.length ca); refine (HSA.out _ ?_).mono ?_; exact (Below.refl _ _).drew; rintro e w1 ⟨hb1,rfl,l1,hr1,hl1,hn1,hv1⟩; have hw1 : Below w.heap.size w w1 := (Below.refl _ _).drew.trans hb1)
  | (go_at_call_of 167 (Value.slice bo n cb); refine (HSB.out _ ?_).mono ?_; exact hw1; rintro e w2 ⟨hb2,rfl,l2,hr2,hl2,hn2,hv2⟩))
 have HV1 : Hid (val l1=val la*2 ^ sh) := hv1
 have HV2 : Hid (val l2=val lb*2 ^ sh) := hv2
 have HN1 : Hid (l1.length=la.length+1) := hn1
 have HN2 : Hid (l2.length=n+1) := hn2
 have hsz1 : w.heap.size < w1.heap.size := hr1.lt
 have hru : Row w2 w.heap.size l1 := Row.below (by exact hr1) hb2 hsz1
 have hw2 : Below w.heap.size w w2 := hw1.trans (hb2.mono (by omega))
 have hsz2 : w1.heap.size < w2.heap.size := hr2.lt
 have hbv : val lb*2 ^ sh < pw n := HBN.out
 have HSV : Hid (Seg w2 w1.heap.size 0 (l2.take n)) := hr2.seg.pre n
 have HVV : Hid (val (l2.take n)=val lb*2 ^ sh) := by
  show val (l2.take n)=val lb*2 ^ sh
  rw [YK (by rw [HV2.out]; exact hbv),HV2.out]
 have HLV : Hid (Lim (l2.take n)) := hl2.take n
 have HLD : Hid (2147483648≤nth (l2.take n) (n - 1)) := by
  show 2147483648≤nth (l2.take n) (n - 1)
  exact top_of HLV.out (by simp [HN2.out]) (by rw [HVV.out]; exact HTOP.out) (by omega)
 clear hv1 hv2 hn1 hn2 hia hca hb1 hr1 hb2 hr2 hw1 HZ HSA HSB hbv
 have hmk := Zy (t := 56) (by kernel_rfl) (la.length - n+1) (by omega)
 have ec : ((la.length - n+1 : Nat) : Int)=(la.length : Int) - n+1 := by omega
 rw [ec] at hmk
 clear ec
 go_wp2
 go_loopw [10] (fun i wr => ∃ (k : Nat) (cu cq : List Nat),k≤la.length - n+1∧i=.int .i64 ((k : Int) - 1)∧Row wr w.heap.size cu∧Row wr w2.heap.size cq∧cq.length=la.length - n+1∧Div (val la*2 ^ sh) (val lb*2 ^ sh) n k cu cq∧Seg wr w1.heap.size 0 (l2.take n)∧Below w.heap.size w wr) (fun i _ => (intOf i+1).toNat)
 case atStart =>
  refine ⟨la.length - n+1,l1,List.replicate (la.length - n+1) 0,Nat.le_refl _,by go_num,hru.below (Qh _ _) (by omega),Row.new _ _,by simp,⟨hl1,Zi _,by simp [HN1.out]; omega,?_,?_⟩,HSV.out.below (Qh _ _) hsz2,hw2.trans ((Qh _ _).mono (by omega))⟩
  ·rw [List.drop_of_length_le (by simp),HV1.out,Us,Nat.mul_zero,Nat.mul_zero,Nat.zero_add]
  ·exact HST.out l1 hl1 HN1.out HV1.out
 case round =>
  obtain ⟨k,cu,cq,hk,rfl,hrow,hrq,hql,hdiv,hseg,hbel⟩ := hrel
  have HD : Hid (Div (val la*2 ^ sh) (val lb*2 ^ sh) n k cu cq) := hdiv
  have HQL : Hid (cq.length=la.length - n+1) := hql
  clear hdiv hql hru
  by_cases h0 : k=0
  ·subst h0
   have hvq : val cq=val la / val lb∧val cu=(val la % val lb)*2 ^ sh := HD.out.last (Nat.two_pow_pos _) (by have := Xv (n - 1); have := HTOP.out; rcases Nat.eq_zero_or_pos (val lb) with h | h; (· rw [h] at this; simp at this; omega); (· exact h))
   have HVQ := Qd hvq
   have hcu : val cu < pw n := by
    have := HD.out.high
    rw [List.drop_zero] at this
    exact Nat.lt_trans this HBN.out
   have HCU := Qd hcu
   have hlenU := Qd HD.out.lenU
   clear hvq hcu
   go_wp2_with fail
   go_region_with (first
    | (go_at_call 146; refine (YQ (w := wr.drew) (by exact hrq) HD.out.limQ HQL.out (by omega)).mono ?_; rintro e w5 ⟨hw5,v1,rfl,hv1⟩; have hw6 := hw5.symm; subst hw6; clear hw5)
    | (go_at_call 169; refine (IP (l := cu.take n) (sh := sh) ?_ ?_ HSH.out).mono ?_; exact NatV.ofRow (w := wr.drew) (by exact hrow) HD.out.limU (by rw [hlenU.out]; omega) (by rw [hlenU.out,HQL.out]; omega) (by unfold maxLen; omega); (simp; omega); rintro e w7 ⟨hb7,v2,rfl,hv2⟩))
   all_goals
    go_wp2
    go_ret2
    have hb8 : Below w.heap.size w w7 := (Below.drew hbel).trans (hb7.mono hbel.size)
    rw [YK HCU.out,HVQ.out.2,Nat.mul_div_cancel _ (Nat.two_pow_pos _)] at hv2
    rw [HVQ.out.1] at hv1
    exact ⟨hb8,v1,v2,rfl,hv1.below hb7,hv2⟩
  ·obtain ⟨m,rfl⟩ : ∃ m,k=m+1 := ⟨k - 1,by omega⟩
   rw [show (((m+1 : Nat) : Int) - 1)=(m : Int) from by omega]
   have hcc := hrq.cell (j := m) (by rw [HQL.out]; omega)
   have hfz := hrq.frozen m
   go_wp2_with fail
   rw [show m+n+1 - m=n+1 from by omega]
   have hm : m < cq.length := by rw [HQL.out]; omega
   obtain ⟨e1,e2,e3,e4⟩ := HD.out.window hm HBN.out
   have hB0 : 0 < val lb*2 ^ sh := by have := Xv (n - 1); have := HTOP.out; omega
   have hlenU := HD.out.lenU
   have htl : (cu.take m).length=m := by simp; omega
   refine (IQ (p := cu.take m) (u := (cu.drop m).take (n+1)) (s := cu.drop (m+n+1)) (v := l2.take n) (by rw [← Wg]; exact hrow) htl ((HD.out.limU.drop m).take _) HLV.out hseg (by omega) h2 (by simp [HN2.out]) e4 (by omega) HLD.out (by rw [HVV.out]; exact e2)).mono ?_
   rintro e w4 ⟨rfl,honly,u',hrow2,hlu,hul,hvu⟩
   rw [HVV.out] at hvu ⊢
   have HN3 : Hid (Div (val la*2 ^ sh) (val lb*2 ^ sh) n m (cu.take m ++ u' ++ cu.drop (m+n+1)) (cq.set m (val ((cu.drop m).take (n+1)) / (val lb*2 ^ sh)))) := HD.out.next hm HBN.out hB0 hlu hul hvu
   have hq : val ((cu.drop m).take (n+1)) / (val lb*2 ^ sh) < 4294967296 := by
    rw [Nat.div_lt_iff_lt_mul hB0]; exact e2
   have hcc2 := (honly.cell (p := ⟨w2.heap.size,m,none⟩) (by show w2.heap.size ≠ w.heap.size; omega)).trans hcc
   have hrq2 : Row w4 w2.heap.size cq := honly.row hrq (by omega)
   have hfz2 := hrq2.frozen m
   have hseg2 : Hid (Seg w4 w1.heap.size 0 (l2.take n)) := fun j hj => (honly.cell (p := ⟨w1.heap.size,0+j,none⟩) (by show w1.heap.size ≠ w.heap.size; omega)).trans (hseg j hj)
   have hbel2 : Below w.heap.size w w4 := honly.below hbel (Nat.le_refl _)
   clear hcc hfz e1 e2 e3 e4 hvu hul hlenU htl hseg hbel hrow hrq
   generalize val ((cu.drop m).take (n+1)) / (val lb*2 ^ sh)=q at *
   go_wp2
   go_roundw
   case rel =>
    refine ⟨m,_,cq.set m q,by omega,rfl,?_,hrq2.set' _ _ rfl,by rw [List.length_set,HQL.out],HN3.out,?_,hbel2.setCell (by show w.heap.size≤w2.heap.size; omega) _⟩
    ·exact EY hrow2 (by omega) _ _
    ·intro j hj
     rw [World.cell?_setCell_other _ _ _ _ (by simp; try omega)]
     exact hseg2.out j hj
   case measure => simp [intOf]
theorem IW {w : World} {va vb : Value} {a b : Nat} {la lb : List Nat} (ha : NatV w va la) (hb : NatV w vb lb) (tb : Trim lb) (ea : val la=a) (eb : val lb=b) (hla : la.length≤1099511627770) (h2 : 2≤lb.length) (hlb : lb.length≤la.length) :
  Calls Tryz.prog 147 #[va,vb] w fun e w' => Below w.heap.size w w'∧∃ v1 v2,e=.returned (.tuple #[v1,v2])∧NatN w' v1 (a / b)∧NatN w' v2 (a % b) := by
 subst ea eb
 have hlimB := hb.1
 have hlimA := ha.1
 have hpos : 0 < nth lb (lb.length - 1) := by
  rcases tb with h | h
  ·rw [h] at h2; simp at h2
  ·omega
 have hx := QF hlimB (lb.length - 1)
 obtain ⟨sh,hsh,hs1,hs2,_⟩ := Ie (nth lb (lb.length - 1)) w hpos hx
 have hlz := lz_same hpos hx hs1 hs2
 have hvt := Uf hlimB (by omega)
 have hS := Nat.two_pow_pos sh
 have hbn : val lb*2 ^ sh < pw lb.length := by
  have h1 : (nth lb (lb.length - 1)+1)*2 ^ sh≤4294967296 := by
   have hW := Xb hsh
   rw [hW] at hs2 ⊢
   exact Nat.mul_le_mul_right _ (Nat.lt_of_mul_lt_mul_right hs2)
  have h2' : val lb*2 ^ sh < (nth lb (lb.length - 1)+1)*pw (lb.length - 1)*2 ^ sh := Nat.mul_lt_mul_of_pos_right hvt hS
  have e1 : pw lb.length=4294967296*pw (lb.length - 1) := by
   rw [show lb.length=(lb.length - 1)+1 from by omega,Qx]; simp
  have e2 : (nth lb (lb.length - 1)+1)*pw (lb.length - 1)*2 ^ sh=((nth lb (lb.length - 1)+1)*2 ^ sh)*pw (lb.length - 1) := by
   rw [Nat.mul_assoc,Nat.mul_comm (pw _),← Nat.mul_assoc]
  have := Nat.mul_le_mul_right (pw (lb.length - 1)) h1
  rw [e1]
  omega
 have htop : 2147483648*pw (lb.length - 1)≤val lb*2 ^ sh := by
  have h1 := KS (l := lb) (n := lb.length - 1)
  have h3 := Nat.mul_le_mul_right (2 ^ sh) h1
  have h4 := Nat.mul_le_mul_right (pw (lb.length - 1)) hs1
  have e2 : nth lb (lb.length - 1)*pw (lb.length - 1)*2 ^ sh=(nth lb (lb.length - 1)*2 ^ sh)*pw (lb.length - 1) := by
   rw [Nat.mul_assoc,Nat.mul_comm (pw _),← Nat.mul_assoc]
  omega
 have hst : ∀ l1,Lim l1→l1.length=la.length+1→val l1=val la*2 ^ sh→val (l1.drop (la.length - lb.length+1)) < val lb*2 ^ sh := by
  intro l1 h1 hl1 hv1
  have hs := Xm l1 (la.length - lb.length+1) (by omega)
  have hA := ZB hlimA
  have hA2 : val la*2 ^ sh < pw la.length*2 ^ sh := Nat.mul_lt_mul_of_pos_right hA hS
  have e1 : pw la.length=pw (la.length - lb.length+1)*pw (lb.length - 1) := by
   rw [← DS]; congr 1; omega
  have hP := Xv (la.length - lb.length+1)
  have hb1 := JX tb (by intro e; rw [e] at h2; simp at h2)
  have hb2 := Nat.mul_le_mul_right (2 ^ sh) hb1
  have h3 : pw (la.length - lb.length+1)*val (l1.drop (la.length - lb.length+1)) < pw (la.length - lb.length+1)*(pw (lb.length - 1)*2 ^ sh) := by
   rw [← Nat.mul_assoc,← e1]
   omega
  have := Nat.lt_of_mul_lt_mul_left h3
  omega
 have hsa : ∀ wx,Below w.heap.size w wx→Calls Tryz.prog 167 #[va,.int .i64 sh] wx fun e w' => Below wx.heap.size wx w'∧e=.returned (.slice (some ⟨wx.heap.size,0,none⟩) (la.length+1) (la.length+1))∧∃ l',Row w' wx.heap.size l'∧Lim l'∧l'.length=la.length+1∧val l'=val la*2 ^ sh :=
  fun wx hx => UE (ha.below hx) (by omega) hsh
 have hsb : ∀ wx,Below w.heap.size w wx→Calls Tryz.prog 167 #[vb,.int .i64 sh] wx fun e w' => Below wx.heap.size wx w'∧e=.returned (.slice (some ⟨wx.heap.size,0,none⟩) (lb.length+1) (lb.length+1))∧∃ l',Row w' wx.heap.size l'∧Lim l'∧l'.length=lb.length+1∧val l'=val lb*2 ^ sh :=
  fun wx hx => UE (hb.below hx) (by omega) hsh
 obtain ⟨ao,ca,b1,o1,rfl,sa⟩ := ha.slN
 obtain ⟨bo,cb,b2,o2,rfl,sb⟩ := hb.slN
 exact Th sb hla rfl h2 hlb hlz hsa hsb hsh hbn htop hst
end Go.Proofs.YtnhplfjlhdpgoaaGreatDoor
/- NumM -/
namespace Go.Proofs.YtnhplfjlhdpgoaaGreatDoor
open Go.RowKit Cx
attribute [local go_sem ↓] Go.wp_at_zero Go.wp_at_succ
theorem NatN.nil (w : World) (ao : Option Addr) (cap : Nat) : NatN w (.slice ao 0 cap) 0 := ⟨[],NatV.nil _ _ _,Or.inl rfl,rfl⟩
theorem FI {w : World} {va vb : Value} {a b : Nat} (ha : NatN w va a) (hb : NatN w vb b) (sa : Small a) (sb : Small b) (h : a < b) :
  Calls Tryz.prog 107 #[va,vb] w fun e w' => Below w.heap.size w w'∧∃ v1 v2,e=.returned (.tuple #[v1,v2])∧NatN w' v1 (a / b)∧NatN w' v2 (a % b) := by
 have HC := Qd (ZI ha hb sa sb)
 have HA := Qd ha
 have HH := Qd h
 clear ha hb sa sb h
 go_enter Tryz.func107,Tryz.ntmps107
 go_wp2_with fail
 refine Calls.mono HC.out ?_
 rintro e w1 ⟨hb1,c,rfl,hc1,hc2⟩
 have hc : c < 0 := hc1.2 HH.out
 clear hc1 hc2
 go_wp2
 go_ret2
 exact ⟨hb1,_,_,rfl,by rw [Nat.div_eq_of_lt HH.out]; exact NatN.nil _ _ _,by rw [Nat.mod_eq_of_lt HH.out]; exact HA.out.below hb1⟩
theorem CJ {w : World} {va vb : Value} {a : Nat} (ha : NatN w va a) (hb : NatN w vb 1) (sa : Small a) (sb : Small 1) (h : 1≤a) :
  Calls Tryz.prog 107 #[va,vb] w fun e w' => Below w.heap.size w w'∧∃ v1 v2,e=.returned (.tuple #[v1,v2])∧NatN w' v1 (a / 1)∧NatN w' v2 (a % 1) := by
 have HC := Qd (ZI ha hb sa sb)
 have HA := Qd ha
 have HB := Qd hb
 have HH := Qd h
 clear ha hb sa sb h
 go_enter Tryz.func107,Tryz.ntmps107
 go_wp2_with fail
 refine Calls.mono HC.out ?_
 rintro e w1 ⟨hb1,c,rfl,hc1,hc2⟩
 have hc : ¬ c < 0 := fun h => by have := hc1.1 h; have := HH.out; omega
 clear hc1 hc2
 go_wp2_with fail
 refine (Zj (HB.out.below hb1)).mono ?_
 rw [show decide (1=1)=true from rfl]
 rintro e w2 ⟨rfl,hw2⟩
 have hw3 := hw2.symm; subst hw3; clear hw2
 go_wp2
 go_ret2
 exact ⟨hb1,_,_,rfl,by rw [Nat.div_one]; exact HA.out.below hb1,by rw [Nat.mod_one]; exact NatN.nil _ _ _⟩
theorem Fb {w : World} {ao bo : Option Addr} {ca cb a b n m : Nat} (ha : NatN w (.slice ao n ca) a) (hb : NatN w (.slice bo m cb) b) (sa : Small a) (sb : Small b) (h : b≤a) (hb1 : 1 < b) (hn : n≤2) (ha64 : a < 18446744073709551616) :
  Calls Tryz.prog 107 #[.slice ao n ca,.slice bo m cb] w fun e w' => Below w.heap.size w w'∧∃ v1 v2,e=.returned (.tuple #[v1,v2])∧NatN w' v1 (a / b)∧NatN w' v2 (a % b) := by
 have HC := Qd (ZI ha hb sa sb)
 have HA := Qd ha
 have HB := Qd hb
 clear ha hb sa sb
 go_enter Tryz.func107,Tryz.ntmps107
 go_wp2_with fail
 refine Calls.mono HC.out ?_
 rintro e w1 ⟨hbl,c,rfl,hc1,hc2⟩
 have hc : ¬ c < 0 := fun h => by have := hc1.1 h; omega
 clear hc1 hc2
 go_wp2_with fail
 refine (Zj (HB.out.below hbl)).mono ?_
 rw [show decide (b=1)=false from decide_eq_false (by omega)]
 rintro e w2 ⟨rfl,hw2⟩
 have hw3 := hw2.symm; subst hw3; clear hw2
 go_wp2_with fail
 refine (Yg (HA.out.below hbl) ha64).mono ?_
 rintro e w2 ⟨rfl,hw2⟩
 have hw3 := hw2.symm; subst hw3; clear hw2
 go_wp2_with fail
 refine (Yg (HB.out.below hbl) (by omega)).mono ?_
 rintro e w2 ⟨rfl,hw2⟩
 have hw3 := hw2.symm; subst hw3; clear hw2
 have hq : (a : Int) / (b : Int)=((a / b : Nat) : Int) := (Int.natCast_ediv _ _).symm
 have hr : (a : Int) % (b : Int)=((a % b : Nat) : Int) := (Int.natCast_emod _ _).symm
 have lq : a / b < 18446744073709551616 := Nat.lt_of_le_of_lt (Nat.div_le_self _ _) ha64
 have lr : a % b < 18446744073709551616 := Nat.lt_of_le_of_lt (Nat.mod_le _ _) ha64
 have HLQ := Qd lq
 have HLR := Qd lr
 obtain ⟨q,hqq⟩ : ∃ q,q=a / b := ⟨_,rfl⟩
 obtain ⟨r,hrr⟩ : ∃ r,r=a % b := ⟨_,rfl⟩
 rw [← hqq] at hq HLQ
 rw [← hrr] at hr HLR
 clear lq lr
 have HE := Qd (And.intro hqq hrr)
 have hwq : IntKind.u64.wrap (q : Int)=(q : Int) := by rw [IntKind.wrap_u64]; have := HLQ.out; omega
 have hwr : IntKind.u64.wrap (r : Int)=(r : Int) := by rw [IntKind.wrap_u64]; have := HLR.out; omega
 have htm : (a : Int).tmod (b : Int)=(r : Int) := by rw [Int.tmod_eq_emod_of_nonneg (by omega)]; exact hr
 clear hqq hrr
 go_wp2_with fail
 go_region_with (first
  | (go_at_call_of 123 (Value.int IntKind.u64 (q : Int)); refine (Xj q _ HLQ.out).mono ?_; rintro e w3 ⟨hb3,v1,rfl,hv1⟩)
  | (go_at_call_of 123 (Value.int IntKind.u64 (r : Int)); refine (Xj r _ HLR.out).mono ?_; rintro e w4 ⟨hb4,v2,rfl,hv2⟩))
 all_goals
  go_wp2
  go_ret2
  have hb5 : Below w.heap.size w w3 := (Below.drew hbl).trans (hb3.mono (by exact hbl.size))
  have hb6 : Below w.heap.size w w4 := hb5.trans (hb4.mono hb5.size)
  rw [HE.out.1] at hv1
  rw [HE.out.2] at hv2
  exact ⟨hb6,v1,v2,rfl,hv1.below hb4,hv2⟩
theorem Bi {w : World} {ao bo : Option Addr} {ca cb x b2 o2 : Nat} {la : List Nat} (hla : NatV w (.slice ao la.length ca) la) (ta : Trim la) (hb : Sl w 56 bo cb [x] b2 o2) (hbn : NatN w (.slice bo 1 cb) x) (sa : Small (val la)) (sb : Small x) (h : x≤val la) (hx1 : 1 < x) (hn : 3≤la.length) :
  Calls Tryz.prog 107 #[.slice ao la.length ca,.slice bo 1 cb] w fun e w' => Below w.heap.size w w'∧∃ v1 v2,e=.returned (.tuple #[v1,v2])∧NatN w' v1 (val la / x)∧NatN w' v2 (val la % x) := by
 have hx : x < 4294967296 := hb.lim.head
 have hia : ∀ wx,(Instr.indexAt 56 (.slice bo 1 cb) (.int .i64 0)).run Tryz.prog wx=.ok (.pointer (some ⟨b2,o2,none⟩)) wx := hb.idx 0 (by simp)
 have hca : w.cell? ⟨b2,o2,none⟩=some (.int .u32 (x : Int)) := hb.seg 0 (by simp)
 have hlt : b2 < w.heap.size := hb.lt (by simp)
 have HLEN := Qd (sa.len ta)
 have HC := Qd (ZI (⟨la,hla,ta,rfl⟩ : NatN w (.slice ao la.length ca) (val la)) hbn sa sb)
 have HA := Qd hla
 have HB := Qd hbn
 clear hbn sa sb hla ta hb
 have hl0 : la.length≤1099511627776 := HLEN.out
 go_enter Tryz.func107,Tryz.ntmps107
 go_wp2_with fail
 refine Calls.mono HC.out ?_
 rintro e w1 ⟨hbl,c,rfl,hc1,hc2⟩
 have hc : ¬ c < 0 := fun h => by have := hc1.1 h; omega
 clear hc1 hc2
 have hca1 := (hbl.cell (p := ⟨b2,o2,none⟩) hlt).trans hca
 clear hca
 go_wp2_with fail
 refine (Zj (HB.out.below hbl)).mono ?_
 rw [show decide (x=1)=false from decide_eq_false (by omega)]
 rintro e w2 ⟨rfl,hw2⟩
 have hw3 := hw2.symm; subst hw3; clear hw2
 go_wp2_with fail
 refine (Ro (HA.out.below hbl) HLEN.out).mono ?_
 rintro e w2 ⟨hb2,hcase⟩
 rcases hcase with ⟨rfl,_⟩ | ⟨g,cap',rfl,hg,hgc,hcm,hrow⟩
 ·simp at hn
 have hbl2 : Below w.heap.size w w2 := hbl.trans (hb2.mono hbl.size)
 have hca2 := (hb2.cell (p := ⟨b2,o2,none⟩) (by have := hbl.size; exact Nat.lt_of_lt_of_le hlt this)).trans hca1
 clear hca1
 go_wp2_with fail
 refine (Uc (n := la.length) (d := x) hrow HA.out.1 (Nat.le_refl _) HLEN.out (by omega) hx).mono ?_
 rintro e w3 ⟨rfl,honly,l',hrow',hlim',hlen',hval'⟩
 rw [List.take_length] at hval' ⊢
 have lr : val la % x < 4294967296 := by have := Nat.mod_lt (val la) (show 0 < x by omega); omega
 obtain ⟨r,hrr⟩ : ∃ r,r=val la % x := ⟨_,rfl⟩
 rw [← hrr] at lr ⊢
 have HR := Qd hrr
 clear hrr
 have hb3 : Below w.heap.size w w3 := honly.below hbl2 (by have := hbl.size; omega)
 have HLE := Qd hlen'
 have HVA := Qd hval'
 clear hlen' hval' hca2
 go_wp2_with fail
 refine (Kt (l := l'.take la.length) (by exact NatV.ofRow hrow' hlim' (by rw [HLE.out]; exact Nat.le_refl _) (by rw [HLE.out]; exact hgc) hcm)).mono ?_
 rintro e w4 ⟨hw4,v1,rfl,hv1⟩
 have hw5 := hw4.symm; subst hw5; clear hw4
 go_wp2_with fail
 refine (Xj r _ (by omega)).mono ?_
 rintro e w6 ⟨hb6,v2,rfl,hv2⟩
 go_wp2
 go_ret2
 rw [HR.out] at hv2
 have hv1' : NatN w3 v1 (val la / x) := ⟨_,hv1,YJ _,by rw [Vt,HVA.out]⟩
 exact ⟨hb3.trans (hb6.mono hb3.size),v1,v2,rfl,hv1'.below hb6,hv2⟩
theorem Cr {w : World} {ao bo : Option Addr} {ca cb : Nat} {la lb : List Nat} (hla : NatV w (.slice ao la.length ca) la) (ta : Trim la) (hlb : NatV w (.slice bo lb.length cb) lb) (tb : Trim lb) (sa : Small (val la)) (sb : Small (val lb)) (h : val lb≤val la) (hn : 3≤la.length) (hm : 2≤lb.length) (hlen : lb.length≤la.length) :
  Calls Tryz.prog 107 #[.slice ao la.length ca,.slice bo lb.length cb] w fun e w' => Below w.heap.size w w'∧∃ v1 v2,e=.returned (.tuple #[v1,v2])∧NatN w' v1 (val la / val lb)∧NatN w' v2 (val la % val lb) := by
 have hbn : NatN w (.slice bo lb.length cb) (val lb) := ⟨lb,hlb,tb,rfl⟩
 have hb1 : 1 < val lb := by
  have h1 := JX tb (by intro e; rw [e] at hm; simp at hm)
  have h2 := YH (show 1≤lb.length - 1 by omega)
  have h3 : pw 1=4294967296 := by simp [pw]
  omega
 have HLEN := Qd (sa.len0 ta)
 have HC := Qd (ZI (⟨la,hla,ta,rfl⟩ : NatN w (.slice ao la.length ca) (val la)) hbn sa sb)
 have HA := Qd hla
 have HB := Qd hlb
 have HBN := Qd hbn
 have HTB := Qd tb
 clear hbn sa sb hla ta hlb tb
 have hl0 : la.length≤1099511627770 := HLEN.out
 have hne1 : ((lb.length : Int) == 1)=false := by rw [beq_eq_false_iff_ne]; omega
 go_enter Tryz.func107,Tryz.ntmps107
 go_wp2_with fail
 refine Calls.mono HC.out ?_
 rintro e w1 ⟨hbl,c,rfl,hc1,hc2⟩
 have hc : ¬ c < 0 := fun h => by have := hc1.1 h; omega
 clear hc1 hc2
 go_wp2_with fail
 refine (Zj (HBN.out.below hbl)).mono ?_
 rw [show decide (val lb=1)=false from decide_eq_false (by omega)]
 rintro e w2 ⟨rfl,hw2⟩
 have hw3 := hw2.symm; subst hw3; clear hw2
 go_wp2_with fail
 refine (IW (HA.out.below hbl) (HB.out.below hbl) HTB.out rfl rfl HLEN.out hm hlen).mono ?_
 rintro e w2 ⟨hb2,v1,v2,rfl,hv1,hv2⟩
 go_wp2
 go_ret2
 exact ⟨hbl.trans (hb2.mono hbl.size),v1,v2,rfl,hv1,hv2⟩
theorem Yq {w : World} {va vb : Value} {a b : Nat} (ha : NatN w va a) (hb : NatN w vb b) (sa : Small a) (sb : Small b) (hb0 : 0 < b) :
  Calls Tryz.prog 107 #[va,vb] w fun e w' => Below w.heap.size w w'∧∃ v1 v2,e=.returned (.tuple #[v1,v2])∧NatN w' v1 (a / b)∧NatN w' v2 (a % b) := by
 by_cases h : a < b
 ·exact FI ha hb sa sb h
 by_cases h1 : b=1
 ·subst h1
  exact CJ ha hb sa sb (by omega)
 have ha' := ha
 have hb' := hb
 obtain ⟨la,hla,ta,ea⟩ := ha
 obtain ⟨lb,hlb,tb,eb⟩ := hb
 obtain ⟨ao,ca,b1,o1,rfl,sla⟩ := hla.slN
 obtain ⟨bo,cb,b2,o2,rfl,slb⟩ := hlb.slN
 by_cases hn : la.length≤2
 ·have hlt := ZB hla.1
  have h3 := YH hn
  have h4 : pw 2=18446744073709551616 := by simp [pw]
  exact Fb ha' hb' sa sb (by omega) (by omega) hn (by omega)
 ·by_cases hm : lb.length=1
  ·obtain ⟨x,rfl⟩ : ∃ x,lb=[x] := by
    match lb,hm with
    | [x],_ => exact ⟨x,rfl⟩
   have ex : x=b := by rw [← eb]; simp [val]
   subst ex
   subst ea
   exact Bi hla ta slb hb' sa sb (by omega) (by omega) (by omega)
  ·have hl2 : 2≤lb.length := by
    match lb,hm,eb with
    | [],_,eb => simp [val] at eb; omega
    | [_],hm,_ => simp at hm
    | _ :: _ :: _,_,_ => simp
   have hlen : lb.length≤la.length := by
    rcases Nat.lt_or_ge la.length lb.length with hc | hc
    ·have := ZZ hla.1 tb hc
     omega
    ·exact hc
   subst ea eb
   exact Cr hla ta hlb tb sa sb (by omega) (by omega) hl2 hlen
theorem ZY {w : World} {va vb : Value} {a b : Nat} (ha : NatN w va a) (hb : NatN w vb b) (sa : Small a) (sb : Small b) (hb0 : 0 < b) :
  Calls Tryz.prog 112 #[va,vb] w fun e w' => Below w.heap.size w w'∧∃ v,e=.returned v∧NatN w' v (a / b) := by
 have HC := Qd (Yq ha hb sa sb hb0)
 clear ha hb sa sb hb0
 go_enter Tryz.func112,Tryz.ntmps112
 go_wp2_with fail
 refine Calls.mono HC.out ?_
 rintro e w1 ⟨hbl,v1,v2,rfl,hv1,hv2⟩
 go_wp2
 go_ret
 exact ⟨hbl,v1,rfl,hv1⟩
end Go.Proofs.YtnhplfjlhdpgoaaGreatDoor
/- NumN -/
namespace Go.Proofs.YtnhplfjlhdpgoaaGreatDoor
open Go.RowKit Cx
attribute [local go_sem ↓] Go.wp_at_zero Go.wp_at_succ
def Leapt (a b a' b' : Nat) : Prop := Nat.gcd a' b'=Nat.gcd a b∧b'≤a'∧b' < b∧a'≤b
theorem XP {w : World} {g t : Nat} {A0 A1 B0 B1 : Nat} {ev : Bool} (h : Blk w g #[.int .u64 A0,.int .u64 A1,.int .u64 B0,.int .u64 B1,.bool ev] t) :
  w.cell? ⟨g,0,none⟩=some (.int .u64 A0)∧w.cell? ⟨g,1,none⟩=some (.int .u64 A1)∧w.cell? ⟨g,2,none⟩=some (.int .u64 B0)∧w.cell? ⟨g,3,none⟩=some (.int .u64 B1) :=
 ⟨h.cell 0,h.cell 1,h.cell 2,h.cell 3⟩
theorem Nl {w : World} {va vb : Value} {a b : Nat} (ha : NatN w va a) (hb : NatN w vb b) (sa : Small a) (sb : Small b) (hb0 : 0 < b)
  (hg : Calls Tryz.prog 170 #[va,vb] w fun e w' => Below w.heap.size w w'∧∃ (A0 A1 B0 B1 : Nat) (ev : Bool),e=.returned (.agg #[.int .u64 A0,.int .u64 A1,.int .u64 B0,.int .u64 B1,.bool ev])∧TM a b A0 A1 B0 B1 ev) :
  Calls Tryz.prog 148 #[va,vb] w fun e w' => Below w.heap.size w w'∧∃ v1 v2 a' b',e=.returned (.tuple #[v1,v2])∧NatN w' v1 a'∧NatN w' v2 b'∧Leapt a b a' b' := by
 have HG := Qd hg
 have HA := Qd ha
 have HB := Qd hb
 have SA := Qd sa
 have SB := Qd sb
 clear hg ha hb sa sb
 go_enter Tryz.func148,Tryz.ntmps148
 go_wp2_with fail
 refine Calls.mono HG.out ?_
 rintro e w1 ⟨hb1,A0,A1,B0,B1,ev,rfl,hgs⟩
 have HGS := Qd hgs
 clear hgs
 have hbk : Blk (w1.alloc (.cells #[.int .u64 A0,.int .u64 A1,.int .u64 B0,.int .u64 B1,.bool ev] 188)) w1.heap.size #[.int .u64 A0,.int .u64 A1,.int .u64 B0,.int .u64 B1,.bool ev] 188 := Blk.new _ _ _
 have HBK := Qd hbk
 clear hbk
 have hb2 : Below w.heap.size w (w1.alloc (.cells #[.int .u64 A0,.int .u64 A1,.int .u64 B0,.int .u64 B1,.bool ev] 188)) := hb1.trans ((Qh _ _).mono hb1.size)
 have HB2 := Qd hb2
 clear hb2
 by_cases h0 : B0=0
 ·have h0b : ((B0 : Int) == 0)=true := by rw [beq_iff_eq]; omega
  clear h0
  go_wp2_with fail
  refine (Yq (HA.out.below HB2.out) (HB.out.below HB2.out) SA.out SB.out hb0).mono ?_
  rintro e w3 ⟨hb3,v1,v2,rfl,hv1,hv2⟩
  go_wp2
  go_ret2
  have hb4 : Below w.heap.size w w3 := HB2.out.trans (hb3.mono HB2.out.size)
  refine ⟨hb4,_,_,b,a % b,rfl,HB.out.below hb4,hv2,?_⟩
  have := Nat.mod_lt a hb0
  refine ⟨?_,by omega,this,Nat.le_refl _⟩
  rw [Nat.gcd_comm b,← Nat.gcd_rec,Nat.gcd_comm]
 ·have h0b : ((B0 : Int) == 0)=false := by rw [beq_eq_false_iff_ne]; omega
  have hgs := HGS.out
  rcases hgs with h | ⟨l0,l1,l2,l3,hdet,r0,r1,hr0,hr1,hlt,hle2⟩
  ·exact absurd h h0
  have m0 : IntKind.u32.wrap (A0 : Int)=(A0 : Int) := by rw [IntKind.wrap_u32]; omega
  have m1 : IntKind.u32.wrap (A1 : Int)=(A1 : Int) := by rw [IntKind.wrap_u32]; omega
  have m2 : IntKind.u32.wrap (B0 : Int)=(B0 : Int) := by rw [IntKind.wrap_u32]; omega
  have m3 : IntKind.u32.wrap (B1 : Int)=(B1 : Int) := by rw [IntKind.wrap_u32]; omega
  have n0 : (A0 : Int) % 4294967296=(A0 : Int) := by omega
  have n1 : (A1 : Int) % 4294967296=(A1 : Int) := by omega
  have n2 : (B0 : Int) % 4294967296=(B0 : Int) := by omega
  have n3 : (B1 : Int) % 4294967296=(B1 : Int) := by omega
  clear h0
  cases ev
  ·simp at hdet hr0 hr1
   have HF := Qd (And.intro hdet (And.intro hr0 hr1))
   clear hdet hr0 hr1
   go_wp2_with fail
   obtain ⟨c0,c1,c2,c3⟩ := XP HBK.out
   go_region_held3 (fun w' => w'.cell? ⟨w1.heap.size,0,none⟩=some (.int .u64 A0)∧w'.cell? ⟨w1.heap.size,1,none⟩=some (.int .u64 A1)∧w'.cell? ⟨w1.heap.size,2,none⟩=some (.int .u64 B0)∧w'.cell? ⟨w1.heap.size,3,none⟩=some (.int .u64 B1)) (first | go_keep | exact hk3 | exact hk4)
    (first
     | (go_at_call_of 171 (Value.int IntKind.u32 (B0 : Int)); refine (JW (a := b) (b := a) (u := B0) (v := A0) ?_ ?_ SB.out SA.out l2 l0 ?_).mono ?_; exact HB.out.below (by exact HB2.out.drew); exact HA.out.below (by exact HB2.out.drew); (have := HF.out.2.1; omega); rintro e w3 ⟨hb3,v1,rfl,hv1⟩; have hbl3 : Below w.heap.size w w3 := HB2.out.drew.trans (hb3.mono (by exact HB2.out.size)); have hk3 := XP (Blk.below (by exact HBK.out) hb3 (by simp)))
     | (go_at_call_of 171 (Value.int IntKind.u32 (B1 : Int)); refine (JW (a := a) (b := b) (u := A1) (v := B1) ?_ ?_ SA.out SB.out l1 l3 ?_).mono ?_; exact HA.out.below hbl3; exact HB.out.below hbl3; (have := HF.out.2.2; omega); rintro e w4 ⟨hb4,v2,rfl,hv2⟩; have hbl4 : Below w.heap.size w w4 := hbl3.trans (hb4.mono hbl3.size); have hk4 := XP (Blk.below (Blk.below (by exact HBK.out) hb3 (by simp)) hb4 (by have := hb3.size; simp at this; omega)))
     )
   all_goals
    go_wp2
    go_ret2
    obtain ⟨hdet,hr0,hr1⟩ := HF.out
    have e1 : B0*b - A0*a=r0 := by omega
    have e2 : A1*a - B1*b=r1 := by omega
    rw [e1] at hv1
    rw [e2] at hv2
    exact ⟨hbl4,v1,v2,r0,r1,rfl,hv1.below hb4,hv2,by rw [Pn (a := b) (b := a) (A0 := B0) (A1 := B1) (B0 := A0) (B1 := A1) (by rw [Nat.mul_comm B0,Nat.mul_comm B1]; exact hdet) hr0 hr1,Nat.gcd_comm],by omega,by omega,hle2⟩
  ·simp at hdet hr0 hr1
   have HF := Qd (And.intro hdet (And.intro hr0 hr1))
   clear hdet hr0 hr1
   go_wp2_with fail
   obtain ⟨c0,c1,c2,c3⟩ := XP HBK.out
   go_region_held3 (fun w' => w'.cell? ⟨w1.heap.size,0,none⟩=some (.int .u64 A0)∧w'.cell? ⟨w1.heap.size,1,none⟩=some (.int .u64 A1)∧w'.cell? ⟨w1.heap.size,2,none⟩=some (.int .u64 B0)∧w'.cell? ⟨w1.heap.size,3,none⟩=some (.int .u64 B1)) (first | go_keep | exact hk3 | exact hk4)
    (first
     | (go_at_call_of 171 (Value.int IntKind.u32 (B0 : Int)); refine (JW (a := a) (b := b) (u := A0) (v := B0) ?_ ?_ SA.out SB.out l0 l2 ?_).mono ?_; exact HA.out.below (by exact HB2.out.drew); exact HB.out.below (by exact HB2.out.drew); (have := HF.out.2.1; omega); rintro e w3 ⟨hb3,v1,rfl,hv1⟩; have hbl3 : Below w.heap.size w w3 := HB2.out.drew.trans (hb3.mono (by exact HB2.out.size)); have hk3 := XP (Blk.below (by exact HBK.out) hb3 (by simp)))
     | (go_at_call_of 171 (Value.int IntKind.u32 (B1 : Int)); refine (JW (a := b) (b := a) (u := B1) (v := A1) ?_ ?_ SB.out SA.out l3 l1 ?_).mono ?_; exact HB.out.below hbl3; exact HA.out.below hbl3; (have := HF.out.2.2; omega); rintro e w4 ⟨hb4,v2,rfl,hv2⟩; have hbl4 : Below w.heap.size w w4 := hbl3.trans (hb4.mono hbl3.size); have hk4 := XP (Blk.below (Blk.below (by exact HBK.out) hb3 (by simp)) hb4 (by have := hb3.size; simp at this; omega)))
     )
   all_goals
    go_wp2
    go_ret2
    obtain ⟨hdet,hr0,hr1⟩ := HF.out
    have e1 : A0*a - B0*b=r0 := by omega
    have e2 : B1*b - A1*a=r1 := by omega
    rw [e1] at hv1
    rw [e2] at hv2
    exact ⟨hbl4,v1,v2,r0,r1,rfl,hv1.below hb4,hv2,Pn hdet hr0 hr1,by omega,by omega,hle2⟩
theorem CK {w : World} {va vb : Value} {a b : Nat} (ha : NatN w va a) (hb : NatN w vb b) (sa : Small a) (sb : Small b) (hle : b≤a) (hbig : 18446744073709551616≤b) :
  Calls Tryz.prog 148 #[va,vb] w fun e w' => Below w.heap.size w w'∧∃ v1 v2 a' b',e=.returned (.tuple #[v1,v2])∧NatN w' v1 a'∧NatN w' v2 b'∧Leapt a b a' b' := by
 have ha' := ha
 have hb' := hb
 obtain ⟨la,hla,ta,ea⟩ := ha
 obtain ⟨lb,hlb,tb,eb⟩ := hb
 subst ea eb
 have h4 : pw 2=18446744073709551616 := by simp [pw]
 have hlen : lb.length≤la.length := by
  rcases Nat.lt_or_ge la.length lb.length with hc | hc
  ·have := ZZ hla.1 tb hc
   omega
  ·exact hc
 have h3 : 3≤lb.length := by
  rcases Nat.lt_or_ge lb.length 3 with hc | hc
  ·have h1 := ZB hlb.1
   have h2 := YH (show lb.length≤2 by omega)
   omega
  ·exact hc
 exact Nl ha' hb' sa sb (by omega) (FF hla hlb ta rfl rfl (sa.len ta) (by omega) hlen hle)
theorem ZG {a b : Nat} (h : Small a) (hb : b≤a) : Small b := ⟨Nat.lt_of_le_of_lt hb h.lt⟩
theorem QH {w : World} {v : Value} {n : Nat} (h : NatN w v n) : ∃ ao len cap,v=.slice ao len cap∧len≤9223372036854775807∧(2 < len ↔ 18446744073709551616≤n)∧(len=0 ↔ n=0) := by
 obtain ⟨l,hl,t,rfl⟩ := h
 have h4 : pw 2=18446744073709551616 := by simp [pw]
 have hz : l.length=0 ↔ val l=0 := by
  constructor
  ·intro h; rw [List.length_eq_zero_iff.1 h]; rfl
  ·intro h; rw [Oc t h]; rfl
 have hb : 2 < l.length ↔ 18446744073709551616≤val l := by
  constructor
  ·intro h
   have h1 := JX t (by intro e; rw [e] at h; simp at h)
   have h2 := YH (show 2≤l.length - 1 by omega)
   omega
  ·intro h
   rcases Nat.lt_or_ge 2 l.length with hc | hc
   ·exact hc
   ·have h1 := ZB hl.1
    have h2 := YH hc
    omega
 obtain ⟨hlim,⟨rfl,ao,cap,rfl⟩ | ⟨b,off,cap,rfl,hc,hm,hlt,hs⟩⟩ := hl
 ·exact ⟨ao,0,cap,rfl,by omega,hb,hz⟩
 ·unfold maxLen at hm
  exact ⟨_,l.length,cap,rfl,by omega,hb,hz⟩
theorem UJ {w : World} {va vb : Value} {a b : Nat} (ha : NatN w va a) (hb : NatN w vb b) (sa : Small a) (sb : Small b) :
  Calls Tryz.prog 111 #[va,vb] w fun e w' => Below w.heap.size w w'∧∃ v,e=.returned v∧NatN w' v (Nat.gcd a b) := by
 have HC := Qd (ZI ha hb sa sb)
 have HA := Qd ha
 have HB := Qd hb
 have SA := Qd sa
 have SB := Qd sb
 clear ha hb sa sb
 go_enter Tryz.func111,Tryz.ntmps111
 go_wp2_with fail
 refine Calls.mono HC.out ?_
 rintro e w1 ⟨hb1,c,rfl,hc1,hc2⟩
 clear hc2
 have HC1 := Qd hc1
 clear hc1
 rcases Decidable.em (c < 0) with hc | hc
 all_goals
  go_wp2
  go_loopg [0,1] (a+b) (fun k x y wr => ∃ A B : Nat,NatN wr x A∧NatN wr y B∧B≤A∧Nat.gcd A B=Nat.gcd a b∧A+B≤k∧Small A∧Small B∧Below w.heap.size w wr)
  case atStart =>
   first
   | exact ⟨b,a,HB.out.below hb1,HA.out.below hb1,Nat.le_of_lt (HC1.out.1 hc),Nat.gcd_comm _ _,by omega,SB.out,SA.out,hb1⟩
   | exact ⟨a,b,HA.out.below hb1,HB.out.below hb1,Nat.le_of_not_lt (fun h => by have := HC1.out.2 h; omega),rfl,Nat.le_refl _,SA.out,SB.out,hb1⟩
  case round =>
   obtain ⟨A,B,hA,hB,hle,hg,hk,sA,sB,hbl⟩ := hrel
   have HHA := Qd hA
   have HHB := Qd hB
   have HG := Qd hg
   have HSA := Qd sA
   have HSB := Qd sB
   obtain ⟨bo,n,cb,rfl,hnm,hbig,hnz⟩ := QH hB
   have HN := Qd (And.intro hbig hnz)
   clear hA hB hg sA sB hbig hnz
   by_cases h2 : 2 < n
   ·go_wp2_with fail
    refine (CK HHA.out HHB.out HSA.out HSB.out hle (HN.out.1.1 h2)).mono ?_
    rintro e w2 ⟨hb2,v1,v2,A',B',rfl,hv1,hv2,hl1,hl2,hl3,hl4⟩
    go_wp2
    go_roundg (A'+B')
    case measure => omega
    case rel => exact ⟨A',B',hv1,hv2,hl2,hl1.trans HG.out,Nat.le_refl _,ZG HSB.out (by omega),ZG HSB.out (by omega),hbl.trans (hb2.mono hbl.size)⟩
   ·by_cases h0 : n=0
    ·have hb0 : B=0 := HN.out.2.1 h0
     subst h0
     go_wp2
     go_ret
     refine ⟨hbl,_,rfl,?_⟩
     rw [← HG.out,hb0,Nat.gcd_zero_right]
     exact HHA.out
    ·have h0b : ((n : Int) == 0)=false := by rw [beq_eq_false_iff_ne]; omega
     have hB0 : 0 < B := Nat.pos_of_ne_zero fun e => h0 (HN.out.2.2 e)
     by_cases h1 : B=1
     ·go_wp2_with fail
      refine (Zj HHB.out).mono ?_
      rw [show decide (B=1)=true from decide_eq_true h1]
      rintro e w2 ⟨rfl,hw2⟩
      have hw3 := hw2.symm; subst hw3; clear hw2
      go_wp2
      go_ret
      refine ⟨hbl,_,rfl,?_⟩
      rw [← HG.out,h1,Nat.gcd_one_right]
      rw [h1] at HHB
      exact HHB.out
     ·have hB64 : B < 18446744073709551616 := Nat.lt_of_not_le fun e => h2 (HN.out.1.2 e)
      have HH1 := Qd h1
      clear h1
      go_wp2_with fail
      refine (Zj HHB.out).mono ?_
      rw [show decide (B=1)=false from decide_eq_false HH1.out]
      rintro e w2 ⟨rfl,hw2⟩
      have hw3 := hw2.symm; subst hw3; clear hw2
      go_wp2_with fail
      refine (Yq HHA.out HHB.out HSA.out HSB.out hB0).mono ?_
      rintro e w2 ⟨hb2,v1,v2,rfl,hv1,hv2⟩
      go_wp2_with fail
      refine (Yg (HHB.out.below hb2) hB64).mono ?_
      rintro e w3 ⟨rfl,hw2⟩
      have hw3 := hw2.symm; subst hw3; clear hw2
      have hml := Nat.mod_lt A hB0
      go_wp2_with fail
      refine (Yg hv2 (by omega)).mono ?_
      rintro e w3 ⟨rfl,hw2⟩
      have hw3 := hw2.symm; subst hw3; clear hw2
      obtain ⟨r,hr⟩ : ∃ r,r=A % B := ⟨_,rfl⟩
      rw [← hr] at hml ⊢
      have HR := Qd hr
      clear hr
      go_wp2_with fail
      refine (Kf B r _ hB64 (by omega)).mono ?_
      rintro e w4 ⟨rfl,q4,hw4⟩
      have hgl : Nat.gcd B r≤B := Nat.le_of_dvd hB0 (Nat.gcd_dvd_left _ _)
      have HGE : Hid (Nat.gcd B r=Nat.gcd a b) := by
       show Nat.gcd B r=Nat.gcd a b
       rw [HR.out,Nat.gcd_comm B,← Nat.gcd_rec,Nat.gcd_comm,HG.out]
      obtain ⟨gg,hgg⟩ : ∃ gg,gg=Nat.gcd B r := ⟨_,rfl⟩
      rw [← hgg] at hgl HGE ⊢
      clear hgg
      have hb4 : Below w.heap.size w w4 := by
       rw [hw4]; exact QM (hbl.trans (hb2.mono hbl.size)) _
      clear hw4
      go_wp2_with fail
      refine (Xj gg _ (by omega)).mono ?_
      rintro e w5 ⟨hb5,v5,rfl,hv5⟩
      go_wp2
      go_ret
      rw [HGE.out] at hv5
      exact ⟨hb4.trans (hb5.mono hb4.size),v5,rfl,hv5⟩
end Go.Proofs.YtnhplfjlhdpgoaaGreatDoor
/- MathQ -/
namespace Cx
theorem pw_two (m : Nat) : pw m=2 ^ (32*m) := by
 unfold pw
 rw [show (4294967296 : Nat)=2 ^ 32 from rfl,← Nat.pow_mul]
theorem lt_pw {n k m : Nat} (h : n < 2 ^ k) (hk : k≤32*m) : n < pw m := by
 rw [pw_two]
 exact Nat.lt_of_lt_of_le h (Nat.pow_le_pow_right (by omega) hk)
theorem Qs {n k : Nat} (h : n < 2 ^ k) (hk : k≤35184372088640) : Small n := ⟨lt_pw h (by omega)⟩
def sg (neg : Bool) (u : Nat) : Int := if neg then -(u : Int) else (u : Int)
theorem Uz (neg : Bool) (u : Nat) : (sg neg u).natAbs=u := by cases neg <;> simp [sg]
def fr (neg : Bool) (u l : Nat) (hl : l ≠ 0) (hc : Nat.Coprime u l) : Rat := ⟨sg neg u,l,hl,by rw [Uz]; exact hc⟩
theorem WX {neg : Bool} {u l : Nat} {hl : l ≠ 0} {hc : Nat.Coprime u l} {n : Int} {d : Nat} (hd : d ≠ 0) (h : sg neg u*d=n*l) : fr neg u l hl hc=mkRat n d := by
 have e : fr neg u l hl hc=mkRat (sg neg u) l := by
  unfold fr
  rw [Rat.mk_eq_mkRat]
 rw [e,Rat.mkRat_eq_iff hl hd]
 exact h
theorem Oy (q : Rat) : sg (decide (q.num < 0)) q.num.natAbs=q.num := by
 unfold sg
 by_cases h : q.num < 0
 ·simp [h]; omega
 ·simp [h]; omega
theorem AZ {an bn : Int} {al bl : Nat} (ha : Nat.Coprime an.natAbs al) (hb : Nat.Coprime bn.natAbs bl) (hal : al ≠ 0) {N : Int} (hN : N=an*(bl / Nat.gcd al bl : Nat)+bn*(al / Nat.gcd al bl : Nat)) :
  Nat.Coprime (N.natAbs / Nat.gcd N.natAbs (Nat.gcd al bl)) (al / Nat.gcd al bl*(bl / Nat.gcd N.natAbs (Nat.gcd al bl))) := by
 have hg : 0 < Nat.gcd al bl := Nat.gcd_pos_of_pos_left _ (Nat.pos_of_ne_zero hal)
 obtain ⟨g,hgd⟩ : ∃ g,g=Nat.gcd al bl := ⟨_,rfl⟩
 have ga : g ∣ al := by rw [hgd]; exact Nat.gcd_dvd_left _ _
 have gb : g ∣ bl := by rw [hgd]; exact Nat.gcd_dvd_right _ _
 rw [← hgd] at hg hN ⊢
 obtain ⟨x,hx⟩ := ga
 obtain ⟨y,hy⟩ := gb
 have ex : al / g=x := by rw [hx]; exact Nat.mul_div_cancel_left _ hg
 have ey : bl / g=y := by rw [hy]; exact Nat.mul_div_cancel_left _ hg
 have hxy : Nat.Coprime x y := by
  have := Nat.coprime_div_gcd_div_gcd (m := al) (n := bl) (by rw [← hgd]; exact hg)
  rwa [← hgd,ex,ey] at this
 rw [ex] at hN ⊢
 rw [ey] at hN
 have hax : Nat.Coprime an.natAbs x := Nat.Coprime.coprime_mul_left_right (k := g) (by rw [← hx]; exact ha)
 have hby : Nat.Coprime bn.natAbs y := Nat.Coprime.coprime_mul_left_right (k := g) (by rw [← hy]; exact hb)
 have hNx : Nat.Coprime N.natAbs x := by
  have h1 : Nat.Coprime (an.natAbs*y) x := Nat.Coprime.mul_left hax hxy.symm
  have : Nat.gcd N.natAbs x ∣ an.natAbs*y := by
   have d1 : ((Nat.gcd N.natAbs x : Nat) : Int) ∣ N := Int.dvd_natAbs.1 (Int.natCast_dvd_natCast.2 (Nat.gcd_dvd_left _ _))
   have d2 : ((Nat.gcd N.natAbs x : Nat) : Int) ∣ bn*x := Int.dvd_mul_of_dvd_right (Int.natCast_dvd_natCast.2 (Nat.gcd_dvd_right _ _))
   have d3 : ((Nat.gcd N.natAbs x : Nat) : Int) ∣ an*y := by
    have := Int.dvd_sub d1 d2
    have e : N - bn*x=an*y := by rw [hN,Int.add_sub_cancel]
    rwa [e] at this
   have := Int.natAbs_dvd_natAbs.2 d3
   simpa [Int.natAbs_mul] using this
  exact Nat.eq_one_of_dvd_one (by
   have h2 := Nat.dvd_gcd this (Nat.gcd_dvd_right N.natAbs x)
   rwa [h1] at h2)
 have hNy : Nat.Coprime N.natAbs y := by
  have h1 : Nat.Coprime (bn.natAbs*x) y := Nat.Coprime.mul_left hby hxy
  have : Nat.gcd N.natAbs y ∣ bn.natAbs*x := by
   have d1 : ((Nat.gcd N.natAbs y : Nat) : Int) ∣ N := Int.dvd_natAbs.1 (Int.natCast_dvd_natCast.2 (Nat.gcd_dvd_left _ _))
   have d2 : ((Nat.gcd N.natAbs y : Nat) : Int) ∣ an*y := Int.dvd_mul_of_dvd_right (Int.natCast_dvd_natCast.2 (Nat.gcd_dvd_right _ _))
   have d3 : ((Nat.gcd N.natAbs y : Nat) : Int) ∣ bn*x := by
    have := Int.dvd_sub d1 d2
    have e : N - an*y=bn*x := by rw [hN,Int.add_comm,Int.add_sub_cancel]
    rwa [e] at this
   have := Int.natAbs_dvd_natAbs.2 d3
   simpa [Int.natAbs_mul] using this
  exact Nat.eq_one_of_dvd_one (by
   have h2 := Nat.dvd_gcd this (Nat.gcd_dvd_right N.natAbs y)
   rwa [h1] at h2)
 obtain ⟨h,hh⟩ : ∃ h,h=Nat.gcd N.natAbs g := ⟨_,rfl⟩
 have hpos : 0 < h := by rw [hh]; exact Nat.gcd_pos_of_pos_right _ hg
 have hcop : Nat.Coprime (N.natAbs / h) (g / h) := by
  have := Nat.coprime_div_gcd_div_gcd (m := N.natAbs) (n := g) (by rw [← hh]; exact hpos)
  rwa [← hh] at this
 have hdg : h ∣ g := by rw [hh]; exact Nat.gcd_dvd_right _ _
 have hdN : h ∣ N.natAbs := by rw [hh]; exact Nat.gcd_dvd_left _ _
 rw [← hh]
 have e : bl / h=g / h*y := by
  rw [hy]
  obtain ⟨z,hz⟩ := hdg
  rw [hz,Nat.mul_assoc,Nat.mul_div_cancel_left _ hpos,Nat.mul_div_cancel_left _ hpos]
 rw [e]
 have c1 : Nat.Coprime (N.natAbs / h) x := Nat.Coprime.coprime_dvd_left (Nat.div_dvd_of_dvd hdN) hNx
 have c2 : Nat.Coprime (N.natAbs / h) y := Nat.Coprime.coprime_dvd_left (Nat.div_dvd_of_dvd hdN) hNy
 exact Nat.Coprime.mul_right c1 (Nat.Coprime.mul_right hcop c2)
end Cx
/- QA -/
namespace Go.Proofs.YtnhplfjlhdpgoaaGreatDoor
open Go.RowKit Cx
def QV (w : World) (v : Value) (q : Rat) : Prop :=
 ∃ vu vl,v=.agg #[.bool (decide (q.num < 0)),vu,vl]∧NatN w vu q.num.natAbs∧NatN w vl (if q.den=1 then 0 else q.den)
theorem QV.below {w w' : World} {v : Value} {q : Rat} (h : QV w v q) (hb : Below w.heap.size w w') : QV w' v q := by
 obtain ⟨vu,vl,e,h1,h2⟩ := h
 exact ⟨vu,vl,e,h1.below hb,h2.below hb⟩
theorem Blk.three {w : World} {g : Nat} {a b c : Value} {t : TypeId} (h : Blk w g #[a,b,c] t) :
  w.cell? ⟨g,0,none⟩=some a∧w.cell? ⟨g,1,none⟩=some b∧w.cell? ⟨g,2,none⟩=some c∧w.frozen? ⟨g,0,none⟩=false∧w.frozen? ⟨g,1,none⟩=false∧w.frozen? ⟨g,2,none⟩=false :=
 ⟨h.cell 0,h.cell 1,h.cell 2,h.frozen 0,h.frozen 1,h.frozen 2⟩
theorem Blk.three_set {w : World} {g : Nat} {a b c : Value} {t : TypeId} (h : Blk w g #[a,b,c] t) (x y z : Value) :
  (((w.setCell ⟨g,0,none⟩ x).setCell ⟨g,1,none⟩ y).setCell ⟨g,2,none⟩ z).cell? ⟨g,0,none⟩=some x∧(((w.setCell ⟨g,0,none⟩ x).setCell ⟨g,1,none⟩ y).setCell ⟨g,2,none⟩ z).cell? ⟨g,1,none⟩=some y∧(((w.setCell ⟨g,0,none⟩ x).setCell ⟨g,1,none⟩ y).setCell ⟨g,2,none⟩ z).cell? ⟨g,2,none⟩=some z ∧
   ∀ B w0,Below B w0 w→B≤g→Below B w0 (((w.setCell ⟨g,0,none⟩ x).setCell ⟨g,1,none⟩ y).setCell ⟨g,2,none⟩ z) := by
 have hs := ((h.set 0 x).set 1 y).set 2 z
 exact ⟨hs.cell 0,hs.cell 1,hs.cell 2,fun B w0 hb hB => ((hb.setCell hB _).setCell hB _).setCell hB _⟩
def NoLimb (cs : Array Value) : Prop := ∀ (j : Nat) (x : Int),cs[j]? ≠ some (Value.int .u32 x)
theorem NoLimb.set {cs : Array Value} (h : NoLimb cs) (j : Nat) {v : Value} (hv : ∀ x,v ≠ .int .u32 x) : NoLimb (cs.setIfInBounds j v) := by
 intro k x e
 rw [Array.getElem?_setIfInBounds] at e
 split at e
 ·split at e
  ·exact hv x (by simpa using e)
  ·cases e
 ·exact h k x e
theorem NatV.other {w : World} {v : Value} {l : List Nat} {g t : Nat} {cs : Array Value} (h : NatV w v l) (hb : Blk w g cs t) (hno : NoLimb cs) (j : Nat) (x : Value) : NatV (w.setCell ⟨g,j,none⟩ x) v l := by
 obtain ⟨hl,hc | ⟨b,off,cap,rfl,hc,hm,hlt,hs⟩⟩ := h
 ·exact ⟨hl,Or.inl hc⟩
 ·refine ⟨hl,Or.inr ⟨b,off,cap,rfl,hc,hm,by simpa [World.setCell] using hlt,?_⟩⟩
  intro k hk
  by_cases e : b=g
  ·subst e
   have h1 := hs k hk
   rw [hb.cell] at h1
   exact absurd h1 (hno _ _)
  ·rw [World.cell?_setCell_other _ _ _ _ (by simp; try (intro h; exact absurd h.symm (by simpa using e)))]
   exact hs k hk
theorem NatN.other {w : World} {v : Value} {n : Nat} {g t : Nat} {cs : Array Value} (h : NatN w v n) (hb : Blk w g cs t) (hno : NoLimb cs) (j : Nat) (x : Value) : NatN (w.setCell ⟨g,j,none⟩ x) v n := by
 obtain ⟨l,h1,h2,h3⟩ := h
 exact ⟨l,h1.other hb hno j x,h2,h3⟩
theorem noLimb3 (b : Bool) (a1 a2 : Option Addr) (l1 c1 l2 c2 : Nat) : NoLimb #[.bool b,.slice a1 l1 c1,.slice a2 l2 c2] := by
 intro j x e
 match j,e with
 | 0,e => simp at e
 | 1,e => simp at e
 | 2,e => simp at e
 | j+3,e => simp at e
theorem NatN.three {w : World} {v : Value} {n : Nat} {g t : Nat} {b b' : Bool} {a1 a2 a1' a2' : Option Addr} {l1 c1 l2 c2 l1' c1' l2' c2' : Nat} (h : NatN w v n) (hb : Blk w g #[.bool b,.slice a1 l1 c1,.slice a2 l2 c2] t) :
  NatN (((w.setCell ⟨g,0,none⟩ (.bool b')).setCell ⟨g,1,none⟩ (.slice a1' l1' c1')).setCell ⟨g,2,none⟩ (.slice a2' l2' c2')) v n := by
 have n0 := noLimb3 b a1 a2 l1 c1 l2 c2
 have n1 := n0.set 0 (v := .bool b') (fun x => by simp)
 have n2 := n1.set 1 (v := .slice a1' l1' c1') (fun x => by simp)
 exact ((h.other hb n0 0 _).other (hb.set 0 _) n1 1 _).other ((hb.set 0 _).set 1 _) n2 2 _
theorem QV.three {w : World} {v : Value} {q : Rat} {g t : Nat} {b b' : Bool} {a1 a2 a1' a2' : Option Addr} {l1 c1 l2 c2 l1' c1' l2' c2' : Nat} (h : QV w v q) (hb : Blk w g #[.bool b,.slice a1 l1 c1,.slice a2 l2 c2] t) :
  QV (((w.setCell ⟨g,0,none⟩ (.bool b')).setCell ⟨g,1,none⟩ (.slice a1' l1' c1')).setCell ⟨g,2,none⟩ (.slice a2' l2' c2')) v q := by
 obtain ⟨vu,vl,e,h1,h2⟩ := h
 exact ⟨vu,vl,e,h1.three hb,h2.three hb⟩
theorem CL {w : World} {n : Bool} {vu vl : Value} {d : Nat} (h : NatN w vl (if d=1 then 0 else d)) (hd : d ≠ 0) :
  Calls Tryz.prog 106 #[.agg #[.bool n,vu,vl]] w fun e w' => Below w.heap.size w w'∧∃ v,e=.returned v∧NatN w' v d := by
 have HV := Qd h
 obtain ⟨ao,len,cap,rfl,hm,_,hz⟩ := QH h
 clear h
 by_cases h1 : d=1
 ·subst h1
  rw [if_pos rfl] at hz HV
  have h0 : len=0 := hz.2 rfl
  subst h0
  clear hz
  go_enter Tryz.func106,Tryz.ntmps106
  go_wp2_with fail
  refine (Wx _).mono ?_
  rintro e w1 ⟨hb1,v,rfl,hv⟩
  go_wp2
  go_ret
  exact ⟨(Qh _ _).trans (hb1.mono (by simp)),v,rfl,hv⟩
 ·rw [if_neg h1] at hz HV
  have hne : ((len : Int) == 0)=false := by rw [beq_eq_false_iff_ne]; intro e; exact hd (hz.1 (by omega))
  clear hz
  have HH := Qd h1
  clear h1
  go_enter Tryz.func106,Tryz.ntmps106
  go_wp2
  go_ret
  exact ⟨Qh _ _,_,rfl,HV.out.below (Qh _ _)⟩
theorem Zr {w : World} {v : Value} {q : Rat} (h : QV w v q) :
  Calls Tryz.prog 106 #[v] w fun e w' => Below w.heap.size w w'∧∃ v',e=.returned v'∧NatN w' v' q.den := by
 obtain ⟨vu,vl,rfl,h1,h2⟩ := h
 exact CL h2 q.den_nz
theorem Ol {w : World} {v : Value} {q : Rat} (h : QV w v q) :
  Calls Tryz.prog 62 #[v] w fun e w' => Below w.heap.size w w'∧e=.returned (.int .i64 (if q.num=0 then 0 else if q.num < 0 then -1 else 1)) := by
 obtain ⟨vu,vl,rfl,h1,h2⟩ := h
 clear h2
 obtain ⟨ao,len,cap,rfl,hm,_,hz⟩ := QH h1
 clear h1
 by_cases h0 : q.num=0
 ·have hl : len=0 := hz.2 (by rw [h0]; rfl)
  subst hl
  rw [if_pos h0]
  clear hz h0
  go_enter Tryz.func62,Tryz.ntmps62
  go_wp2
  go_ret
  exact ⟨Qh _ _,rfl⟩
 ·rw [if_neg h0]
  have hne : ((len : Int) == 0)=false := by rw [beq_eq_false_iff_ne]; intro e; have := hz.1 (by omega); omega
  clear hz h0
  by_cases hn : q.num < 0
  ·rw [if_pos hn,decide_eq_true hn]
   clear hn
   go_enter Tryz.func62,Tryz.ntmps62
   go_wp2
   go_ret
   exact ⟨Qh _ _,rfl⟩
  ·rw [if_neg hn,decide_eq_false hn]
   clear hn
   go_enter Tryz.func62,Tryz.ntmps62
   go_wp2
   go_ret
   exact ⟨Qh _ _,rfl⟩
theorem qv_fr {w : World} {neg : Bool} {u l : Nat} {hl : l ≠ 0} {hc : Nat.Coprime u l} {vu vl : Value} (hu : u ≠ 0) (h1 : NatN w vu u) (h2 : NatN w vl (if l=1 then 0 else l)) : QV w (.agg #[.bool neg,vu,vl]) (fr neg u l hl hc) := by
 refine ⟨vu,vl,?_,?_,h2⟩
 ·have : decide ((fr neg u l hl hc).num < 0)=neg := by
   show decide (sg neg u < 0)=neg
   cases neg <;> simp [sg] <;> omega
  rw [this]
 ·show NatN w vu (sg neg u).natAbs
  rw [Uz]; exact h1
theorem qv_zero {w : World} {neg : Bool} {l : Nat} {hl : l ≠ 0} {hc : Nat.Coprime 0 l} : QV w (.agg #[.bool false,.slice none 0 0,.slice none 0 0]) (fr neg 0 l hl hc) := by
 have hl1 : l=1 := by simpa [Nat.Coprime] using hc
 subst hl1
 refine ⟨.slice none 0 0,.slice none 0 0,?_,?_,?_⟩
 ·have : decide ((fr neg 0 1 hl hc).num < 0)=false := by
   show decide (sg neg 0 < 0)=false
   cases neg <;> simp [sg]
  rw [this]
 ·show NatN w (.slice none 0 0) (sg neg 0).natAbs
  rw [Uz]; exact NatN.nil _ _ _
 ·exact NatN.nil _ _ _
theorem Jj {w : World} {neg : Bool} {vu vl : Value} {u l : Nat} (hu : NatN w vu u) (hv : NatN w vl l) (hl : l ≠ 0) (hc : Nat.Coprime u l) :
  Calls Tryz.prog 104 #[.bool neg,vu,vl] w fun e w' => Below w.heap.size w w'∧∃ v,e=.returned v∧QV w' v (fr neg u l hl hc) := by
 have HU := Qd hu
 have HV := Qd hv
 obtain ⟨ao,len,cap,rfl,hm,_,hz⟩ := QH hu
 obtain ⟨ao2,len2,cap2,rfl,_,_,_⟩ := QH hv
 clear hu hv
 have hb := Qh w (.cells #[.bool false,.slice none 0 0,.slice none 0 0] 58)
 have HB := Qd hb
 clear hb
 by_cases h0 : u=0
 ·have hl0 : len=0 := hz.2 h0
  subst h0
  subst hl0
  clear hz
  go_enter Tryz.func104,Tryz.ntmps104
  go_wp2
  exact bodyPost_ret (v := .agg #[.bool false,.slice none 0 0,.slice none 0 0]) (by simp [results,Tryz.results104,go_sem]) rfl ⟨HB.out,_,rfl,qv_zero⟩
 ·have hne : ((len : Int) == 0)=false := by rw [beq_eq_false_iff_ne]; intro e; exact h0 (hz.1 (by omega))
  clear hz
  have H0 := Qd h0
  clear h0
  by_cases h1 : l=1
  ·have H1 := Qd h1
   clear h1
   go_enter Tryz.func104,Tryz.ntmps104
   go_wp2_with fail
   refine (Zj (HV.out.below HB.out)).mono ?_
   rw [show decide (l=1)=true from decide_eq_true H1.out]
   rintro e w1 ⟨rfl,hw1⟩
   have hw2 := hw1.symm; subst hw2; clear hw1
   go_wp2
   exact bodyPost_ret (v := .agg #[.bool neg,.slice ao len cap,.slice none 0 0]) (by simp [results,Tryz.results104,go_sem]) rfl ⟨Qh _ _,_,rfl,qv_fr H0.out (HU.out.below (Qh _ _)) (by rw [if_pos H1.out]; exact NatN.nil _ _ _)⟩
  ·have H1 := Qd h1
   clear h1
   go_enter Tryz.func104,Tryz.ntmps104
   go_wp2_with fail
   refine (Zj (HV.out.below HB.out)).mono ?_
   rw [show decide (l=1)=false from decide_eq_false H1.out]
   rintro e w1 ⟨rfl,hw1⟩
   have hw2 := hw1.symm; subst hw2; clear hw1
   go_wp2
   exact bodyPost_ret (v := .agg #[.bool neg,.slice ao len cap,.slice ao2 len2 cap2]) (by simp [results,Tryz.results104,go_sem]) rfl ⟨Qh _ _,_,rfl,qv_fr H0.out (HU.out.below (Qh _ _)) (by rw [if_neg H1.out]; exact HV.out.below (Qh _ _))⟩
theorem WT {w : World} {neg : Bool} {vu vl : Value} {u l : Nat} (hu : NatN w vu u) (hv : NatN w vl l) (su : Small u) (sl : Small l) :
  Calls Tryz.prog 69 #[.bool neg,vu,vl] w fun e w' => Below w.heap.size w w'∧∃ v,e=.returned v∧QV w' v (mkRat (sg neg u) l) := by
 have HU := Qd hu
 have HV := Qd hv
 have SU := Qd su
 have SL := Qd sl
 obtain ⟨ao2,len2,cap2,rfl,hm,_,hz⟩ := QH hv
 clear hu hv su sl
 have hb := Qh w (.cells #[.bool false,.slice none 0 0,.slice none 0 0] 58)
 have HB := Qd hb
 clear hb
 by_cases h0 : l=0
 ·have hl0 : len2=0 := hz.2 h0
  subst h0
  subst hl0
  clear hz
  go_enter Tryz.func69,Tryz.ntmps69
  go_wp2
  refine bodyPost_ret (v := .agg #[.bool false,.slice none 0 0,.slice none 0 0]) (by simp [results,Tryz.results69,go_sem]) rfl ⟨HB.out,_,rfl,?_⟩
  rw [Rat.mkRat_zero]
  exact ⟨_,_,rfl,NatN.nil _ _ _,NatN.nil _ _ _⟩
 ·have hne : ((len2 : Int) == 0)=false := by rw [beq_eq_false_iff_ne]; intro e; exact h0 (hz.1 (by omega))
  clear hz
  have H0 := Qd h0
  clear h0
  have hgp : 0 < Nat.gcd u l := Nat.gcd_pos_of_pos_right _ (Nat.pos_of_ne_zero H0.out)
  have hgs : Small (Nat.gcd u l) := ZG SL.out (Nat.le_of_dvd (Nat.pos_of_ne_zero H0.out) (Nat.gcd_dvd_right _ _))
  have hcop : Nat.Coprime (u / Nat.gcd u l) (l / Nat.gcd u l) := Nat.coprime_div_gcd_div_gcd hgp
  have hl' : l / Nat.gcd u l ≠ 0 := by
   have := Nat.div_pos (Nat.le_of_dvd (Nat.pos_of_ne_zero H0.out) (Nat.gcd_dvd_right u l)) hgp
   omega
  have HF := Qd (And.intro hgp (And.intro hgs (And.intro hcop hl')))
  have heq : fr neg (u / Nat.gcd u l) (l / Nat.gcd u l) hl' hcop=mkRat (sg neg u) l := by
   apply WX H0.out
   have e1 : (u / Nat.gcd u l)*l=u*(l / Nat.gcd u l) := by
    obtain ⟨x,hx⟩ := Nat.gcd_dvd_left u l
    obtain ⟨y,hy⟩ := Nat.gcd_dvd_right u l
    generalize Nat.gcd u l=g at *
    subst hx hy
    rw [Nat.mul_div_cancel_left _ hgp,Nat.mul_div_cancel_left _ hgp,Nat.mul_left_comm,Nat.mul_assoc]
   cases neg
   ·simp only [sg]; simp; exact_mod_cast e1
   ·simp only [sg]; simp only [if_true,Int.neg_mul]; congr 1; exact_mod_cast e1
  have HE := Qd heq
  clear hgp hgs
  have HU0 := Qd (HU.out.below HB.out)
  have HV0 := Qd (HV.out.below HB.out)
  have HK := Qd (Blk.new w #[.bool false,.slice none 0 0,.slice none 0 0] 58)
  go_enter Tryz.func69,Tryz.ntmps69
  go_wp2_with fail
  refine (UJ HU0.out HV0.out SU.out SL.out).mono ?_
  rintro e w1 ⟨hb1,vg,rfl,hvg⟩
  go_wp2_with fail
  refine (ZY (HU0.out.below hb1) hvg SU.out HF.out.2.1 HF.out.1).mono ?_
  rintro e w2 ⟨hb2,v1,rfl,hv1⟩
  have hbl2 := hb1.trans (hb2.mono hb1.size)
  go_wp2_with fail
  refine (ZY (HV0.out.below hbl2) (hvg.below hb2) SL.out HF.out.2.1 HF.out.1).mono ?_
  rintro e w3 ⟨hb3,v2,rfl,hv2⟩
  have hbl3 := hbl2.trans (hb3.mono hbl2.size)
  go_wp2_with fail
  refine (Jj (hv1.below hb3) hv2 hl' hcop).mono ?_
  rintro e w4 ⟨hb4,v,rfl,hv⟩
  have hbl4 := hbl3.trans (hb4.mono hbl3.size)
  rw [HE.out] at hv
  have HQ := Qd hv
  obtain ⟨vu',vl',rfl,hn1,hn2⟩ := hv
  obtain ⟨ao3,len3,cap3,rfl,_,_,_⟩ := QH hn1
  obtain ⟨ao4,len4,cap4,rfl,_,_,_⟩ := QH hn2
  have hk4 := HK.out.below hbl4 (by simp)
  obtain ⟨c0,c1,c2,f0,f1,f2⟩ := hk4.three
  have HB4 := Qd (HB.out.trans (hbl4.mono HB.out.size))
  clear hb1 hb2 hb3 hb4 hbl2 hbl3 hvg hv1 hv2 hn1 hn2
  go_wp2
  obtain ⟨k0,k1,k2,hlow⟩ := hk4.three_set (.bool (decide ((mkRat (sg neg u) l).num < 0))) (.slice ao3 len3 cap3) (.slice ao4 len4 cap4)
  exact bodyPost_ret (v := .agg #[.bool (decide ((mkRat (sg neg u) l).num < 0)),.slice ao3 len3 cap3,.slice ao4 len4 cap4]) (by simp [results,Tryz.results69,go_sem,k0,k1,k2]) rfl ⟨hlow _ _ HB4.out (Nat.le_refl _),_,rfl,HQ.out.three hk4⟩
end Go.Proofs.YtnhplfjlhdpgoaaGreatDoor
/- QB -/
namespace Go.Proofs.YtnhplfjlhdpgoaaGreatDoor
open Go.RowKit Cx
attribute [local go_sem ↓] Go.wp_at_zero Go.wp_at_succ
theorem Tm {w : World} {an bn : Bool} {va vb : Value} {a b : Nat} (ha : NatN w va a) (hb : NatN w vb b) (sa : Small a) (sb : Small b) :
  Calls Tryz.prog 140 #[.bool an,va,.bool bn,vb] w fun e w' => Below w.heap.size w w'∧∃ neg v n,e=.returned (.tuple #[.bool neg,v])∧NatN w' v n∧sg neg n=sg an a+sg bn b := by
 have HC := Qd (ZI ha hb sa sb)
 have HA := Qd ha
 have HB := Qd hb
 have SA := Qd sa
 have SB := Qd sb
 clear ha hb sa sb
 cases an <;> cases bn
 ·go_enter Tryz.func140,Tryz.ntmps140
  go_wp2_with fail
  refine (Rk HA.out HB.out SA.out SB.out).mono ?_
  rintro e w1 ⟨hb1,v,rfl,hv⟩
  go_wp2
  go_ret2
  exact ⟨hb1,false,v,a+b,rfl,hv,by simp [sg]⟩
 ·go_enter Tryz.func140,Tryz.ntmps140
  go_wp2_with fail
  refine Calls.mono HC.out ?_
  rintro e w1 ⟨hb1,c,rfl,hc1,_⟩
  rcases Decidable.em (c < 0) with hc | hc
  ·have hlt := Qd (hc1.1 hc)
   clear hc1
   go_wp2_with fail
   refine (XA (HB.out.below hb1) (HA.out.below hb1) SB.out SA.out (Nat.le_of_lt hlt.out)).mono ?_
   rintro e w2 ⟨hb2,v,rfl,hv⟩
   go_wp2
   go_ret2
   exact ⟨hb1.trans (hb2.mono hb1.size),true,v,b - a,rfl,hv,by have := hlt.out; simp [sg]; omega⟩
  ·have hle : Hid (b≤a) := by
    show b≤a
    rcases Nat.lt_or_ge a b with h | h
    ·exact absurd (hc1.2 h) hc
    ·exact h
   clear hc1
   go_wp2_with fail
   refine (XA (HA.out.below hb1) (HB.out.below hb1) SA.out SB.out hle.out).mono ?_
   rintro e w2 ⟨hb2,v,rfl,hv⟩
   go_wp2
   go_ret2
   exact ⟨hb1.trans (hb2.mono hb1.size),false,v,a - b,rfl,hv,by have := hle.out; simp [sg]; omega⟩
 ·go_enter Tryz.func140,Tryz.ntmps140
  go_wp2_with fail
  refine Calls.mono HC.out ?_
  rintro e w1 ⟨hb1,c,rfl,hc1,_⟩
  rcases Decidable.em (c < 0) with hc | hc
  ·have hlt := Qd (hc1.1 hc)
   clear hc1
   go_wp2_with fail
   refine (XA (HB.out.below hb1) (HA.out.below hb1) SB.out SA.out (Nat.le_of_lt hlt.out)).mono ?_
   rintro e w2 ⟨hb2,v,rfl,hv⟩
   go_wp2
   go_ret2
   exact ⟨hb1.trans (hb2.mono hb1.size),false,v,b - a,rfl,hv,by have := hlt.out; simp [sg]; omega⟩
  ·have hle : Hid (b≤a) := by
    show b≤a
    rcases Nat.lt_or_ge a b with h | h
    ·exact absurd (hc1.2 h) hc
    ·exact h
   clear hc1
   go_wp2_with fail
   refine (XA (HA.out.below hb1) (HB.out.below hb1) SA.out SB.out hle.out).mono ?_
   rintro e w2 ⟨hb2,v,rfl,hv⟩
   go_wp2
   go_ret2
   exact ⟨hb1.trans (hb2.mono hb1.size),true,v,a - b,rfl,hv,by have := hle.out; simp [sg]; omega⟩
 ·go_enter Tryz.func140,Tryz.ntmps140
  go_wp2_with fail
  refine (Rk HA.out HB.out SA.out SB.out).mono ?_
  rintro e w1 ⟨hb1,v,rfl,hv⟩
  go_wp2
  go_ret2
  exact ⟨hb1,true,v,a+b,rfl,hv,by simp [sg]; omega⟩
end Go.Proofs.YtnhplfjlhdpgoaaGreatDoor
/- MathR -/
namespace Cx
theorem Gf (s : Bool) (u v : Nat) : sg s (u*v)=sg s u*v := by
 cases s
 ·simp [sg]
 ·simp only [sg,if_true,Int.natCast_mul,Int.neg_mul]
theorem sg_div (s : Bool) {u h : Nat} (hd : h ∣ u) : sg s (u / h)*h=sg s u := by
 rw [← Gf,Nat.div_mul_cancel hd]
theorem plus_fr (a b : Rat) {neg : Bool} {n : Nat} (hN : sg neg n=a.num*(b.den / Nat.gcd a.den b.den : Nat)+b.num*(a.den / Nat.gcd a.den b.den : Nat)) :
  ∃ hl hc,fr neg (n / Nat.gcd n (Nat.gcd a.den b.den)) (a.den / Nat.gcd a.den b.den*(b.den / Nat.gcd n (Nat.gcd a.den b.den))) hl hc=a+b := by
 have hc := AZ a.reduced b.reduced a.den_nz hN
 rw [Uz] at hc
 have hg : 0 < Nat.gcd a.den b.den := Nat.gcd_pos_of_pos_left _ (Nat.pos_of_ne_zero a.den_nz)
 have ga := Nat.gcd_dvd_left a.den b.den
 have gb := Nat.gcd_dvd_right a.den b.den
 have hh : 0 < Nat.gcd n (Nat.gcd a.den b.den) := Nat.gcd_pos_of_pos_right _ hg
 have hdn := Nat.gcd_dvd_left n (Nat.gcd a.den b.den)
 have hdg := Nat.gcd_dvd_right n (Nat.gcd a.den b.den)
 have hdb : Nat.gcd n (Nat.gcd a.den b.den) ∣ b.den := Nat.dvd_trans hdg gb
 have hx : 0 < a.den / Nat.gcd a.den b.den := Nat.div_pos (Nat.le_of_dvd (Nat.pos_of_ne_zero a.den_nz) ga) hg
 have hy : 0 < b.den / Nat.gcd n (Nat.gcd a.den b.den) := Nat.div_pos (Nat.le_of_dvd (Nat.pos_of_ne_zero b.den_nz) hdb) hh
 have hl : a.den / Nat.gcd a.den b.den*(b.den / Nat.gcd n (Nat.gcd a.den b.den)) ≠ 0 := Nat.ne_of_gt (Nat.mul_pos hx hy)
 refine ⟨hl,hc,?_⟩
 have hab : a.den*b.den ≠ 0 := Nat.mul_ne_zero a.den_nz b.den_nz
 have e : a+b=mkRat (a.num*b.den+b.num*a.den) (a.den*b.den) := by
  rw [Rat.add_def,Rat.normalize_eq_mkRat]
 rw [e]
 apply WX hab
 have e1 := sg_div neg hdn
 obtain ⟨x,hxx⟩ := ga
 obtain ⟨y,hyy⟩ := gb
 obtain ⟨z,hzz⟩ := hdb
 generalize hgg : Nat.gcd a.den b.den=g at *
 generalize hhh : Nat.gcd n g=h at *
 have ex : a.den / g=x := by rw [hxx]; exact Nat.mul_div_cancel_left _ hg
 have ey : b.den / g=y := by rw [hyy]; exact Nat.mul_div_cancel_left _ hg
 have ez : b.den / h=z := by rw [hzz]; exact Nat.mul_div_cancel_left _ hh
 rw [ex,ez]
 rw [ex,ey] at hN
 rw [hN] at e1
 have hbi : (b.den : Int)=(h : Int)*z := by exact_mod_cast hzz
 have hbj : (b.den : Int)=(g : Int)*y := by exact_mod_cast hyy
 have hai : (a.den : Int)=(g : Int)*x := by exact_mod_cast hxx
 have hcast : ((a.den*b.den : Nat) : Int)=(a.den : Int)*b.den := Int.natCast_mul _ _
 have hcast2 : ((x*z : Nat) : Int)=(x : Int)*z := Int.natCast_mul _ _
 rw [hcast,hcast2]
 generalize sg neg (n / h)=s at *
 generalize (x : Int)=X at *
 generalize (y : Int)=Y at *
 generalize (z : Int)=Z at *
 generalize (h : Int)=H at *
 generalize (g : Int)=G at *
 generalize (a.den : Int)=AD at *
 generalize (b.den : Int)=BD at *
 generalize a.num=AN at *
 generalize b.num=BN at *
 clear hc hN hdn hdg hx hy hl hab e hcast hcast2 ex ey ez hxx hyy hzz hgg hhh hg hh
 subst hai
 have k1 : s*(G*X*BD)=s*H*(G*X*Z) := by rw [hbi]; grind
 rw [k1,e1,hbj]
 grind
theorem LO (a b : Rat) :
  ∃ hl hc,fr (decide (a.num < 0) != decide (b.num < 0)) (a.num.natAbs / Nat.gcd a.num.natAbs b.den*(b.num.natAbs / Nat.gcd b.num.natAbs a.den)) (a.den / Nat.gcd b.num.natAbs a.den*(b.den / Nat.gcd a.num.natAbs b.den)) hl hc=a*b := by
 have hg : 0 < Nat.gcd a.num.natAbs b.den := Nat.gcd_pos_of_pos_right _ (Nat.pos_of_ne_zero b.den_nz)
 have hh : 0 < Nat.gcd b.num.natAbs a.den := Nat.gcd_pos_of_pos_right _ (Nat.pos_of_ne_zero a.den_nz)
 have ga := Nat.gcd_dvd_left a.num.natAbs b.den
 have gb := Nat.gcd_dvd_right a.num.natAbs b.den
 have ha := Nat.gcd_dvd_left b.num.natAbs a.den
 have hb := Nat.gcd_dvd_right b.num.natAbs a.den
 have c1 : Nat.Coprime (a.num.natAbs / Nat.gcd a.num.natAbs b.den) (b.den / Nat.gcd a.num.natAbs b.den) := Nat.coprime_div_gcd_div_gcd hg
 have c2 : Nat.Coprime (b.num.natAbs / Nat.gcd b.num.natAbs a.den) (a.den / Nat.gcd b.num.natAbs a.den) := Nat.coprime_div_gcd_div_gcd hh
 have c3 : Nat.Coprime (a.num.natAbs / Nat.gcd a.num.natAbs b.den) (a.den / Nat.gcd b.num.natAbs a.den) :=
  Nat.Coprime.coprime_dvd_left (Nat.div_dvd_of_dvd ga) (Nat.Coprime.coprime_dvd_right (Nat.div_dvd_of_dvd hb) a.reduced)
 have c4 : Nat.Coprime (b.num.natAbs / Nat.gcd b.num.natAbs a.den) (b.den / Nat.gcd a.num.natAbs b.den) :=
  Nat.Coprime.coprime_dvd_left (Nat.div_dvd_of_dvd ha) (Nat.Coprime.coprime_dvd_right (Nat.div_dvd_of_dvd gb) b.reduced)
 have hc := Nat.Coprime.mul_left (Nat.Coprime.mul_right c3 c1) (Nat.Coprime.mul_right c2 c4)
 have p1 : 0 < a.den / Nat.gcd b.num.natAbs a.den := Nat.div_pos (Nat.le_of_dvd (Nat.pos_of_ne_zero a.den_nz) hb) hh
 have p2 : 0 < b.den / Nat.gcd a.num.natAbs b.den := Nat.div_pos (Nat.le_of_dvd (Nat.pos_of_ne_zero b.den_nz) gb) hg
 refine ⟨Nat.ne_of_gt (Nat.mul_pos p1 p2),hc,?_⟩
 have e : a*b=mkRat (a.num*b.num) (a.den*b.den) := by
  rw [Rat.mul_def,Rat.normalize_eq_mkRat]
 rw [e]
 apply WX (Nat.mul_ne_zero a.den_nz b.den_nz)
 obtain ⟨x,hx⟩ := ga
 obtain ⟨y,hy⟩ := gb
 obtain ⟨z,hz⟩ := ha
 obtain ⟨t,ht⟩ := hb
 generalize hgg : Nat.gcd a.num.natAbs b.den=g at *
 generalize hhh : Nat.gcd b.num.natAbs a.den=h at *
 have ex : a.num.natAbs / g=x := by rw [hx]; exact Nat.mul_div_cancel_left _ hg
 have ey : b.den / g=y := by rw [hy]; exact Nat.mul_div_cancel_left _ hg
 have ez : b.num.natAbs / h=z := by rw [hz]; exact Nat.mul_div_cancel_left _ hh
 have et : a.den / h=t := by rw [ht]; exact Nat.mul_div_cancel_left _ hh
 rw [ex,ey,ez,et]
 have ea := Oy a
 have eb := Oy b
 rw [hx,Nat.mul_comm,Gf] at ea
 rw [hz,Nat.mul_comm,Gf] at eb
 have ed : ((a.den*b.den : Nat) : Int)=(h : Int)*t*(g*y) := by rw [ht,hy]; simp
 have ef : ((t*y : Nat) : Int)=(t : Int)*y := Int.natCast_mul _ _
 have hab : a.num*b.num=sg (decide (a.num < 0)) x*g*(sg (decide (b.num < 0)) z*h) := by rw [ea,eb]
 rw [ed,ef]
 have es : sg (decide (a.num < 0) != decide (b.num < 0)) (x*z)=sg (decide (a.num < 0)) x*sg (decide (b.num < 0)) z := by
  cases decide (a.num < 0) <;> cases decide (b.num < 0) <;> simp [sg,Int.mul_neg,Int.neg_mul]
 rw [es,hab]
 generalize sg (decide (a.num < 0)) x=X
 generalize sg (decide (b.num < 0)) z=Z
 grind
end Cx
/- QC -/
namespace Go.Proofs.YtnhplfjlhdpgoaaGreatDoor
open Go.RowKit Cx
attribute [local go_sem ↓] Go.wp_at_zero Go.wp_at_succ
theorem Qt {w : World} {g h t u : Nat} {a b c d e f : Value} (h1 : Blk w g #[a,b,c] t) (h2 : Blk w h #[d,e,f] u) :
  w.cell? ⟨g,0,none⟩=some a∧w.cell? ⟨g,1,none⟩=some b∧w.cell? ⟨g,2,none⟩=some c∧w.cell? ⟨h,0,none⟩=some d∧w.cell? ⟨h,1,none⟩=some e∧w.cell? ⟨h,2,none⟩=some f :=
 ⟨h1.cell 0,h1.cell 1,h1.cell 2,h2.cell 0,h2.cell 1,h2.cell 2⟩
structure QS (k : Nat) (q : Rat) : Prop where
 num : q.num.natAbs < 2 ^ k
 den : q.den < 2 ^ k
theorem Xe {x y m n : Nat} (h1 : x < m) (h2 : y < n) : x*y < m*n := Nat.mul_lt_mul'' h1 h2
theorem EX {w : World} {na nb : Bool} {ua la ub lb : Option Addr} {lua cua lla cla lub cub llb clb : Nat} {a b : Rat}
  (ha : QV w (.agg #[.bool na,.slice ua lua cua,.slice la lla cla]) a) (hb : QV w (.agg #[.bool nb,.slice ub lub cub,.slice lb llb clb]) b)
  (ea : na=decide (a.num < 0)) (eb : nb=decide (b.num < 0)) (hua : NatN w (.slice ua lua cua) a.num.natAbs) (hub : NatN w (.slice ub lub cub) b.num.natAbs)
  (s1 : Small a.den) (s2 : Small b.den) (s3 : Small (a.num.natAbs*(b.den / Nat.gcd a.den b.den))) (s4 : Small (b.num.natAbs*(a.den / Nat.gcd a.den b.den)))
  (s5 : Small a.num.natAbs) (s6 : Small b.num.natAbs) (s7 : ∀ n,n≤a.num.natAbs*(b.den / Nat.gcd a.den b.den)+b.num.natAbs*(a.den / Nat.gcd a.den b.den)→Small n) :
  Calls Tryz.prog 103 #[.agg #[.bool na,.slice ua lua cua,.slice la lla cla],.agg #[.bool nb,.slice ub lub cub,.slice lb llb clb]] w fun e w' => Below w.heap.size w w'∧∃ v,e=.returned v∧QV w' v (a+b) := by
 have HB0 : Hid (Below w.heap.size w (((w.alloc (.cells #[.bool na,.slice ua lua cua,.slice la lla cla] 58)).alloc (.cells #[.bool nb,.slice ub lub cub,.slice lb llb clb] 58)).alloc (.cells #[.bool false,.slice none 0 0,.slice none 0 0] 58))) := ((Qh w _).alloc (by simp) _).alloc (by simp; omega) _
 have HKA : Hid (Blk (((w.alloc (.cells #[.bool na,.slice ua lua cua,.slice la lla cla] 58)).alloc (.cells #[.bool nb,.slice ub lub cub,.slice lb llb clb] 58)).alloc (.cells #[.bool false,.slice none 0 0,.slice none 0 0] 58)) w.heap.size #[.bool na,.slice ua lua cua,.slice la lla cla] 58) := (((Blk.new w _ _).below (Qh _ _) (by simp)).below (Qh _ _) (by simp; omega))
 have HKB : Hid (Blk (((w.alloc (.cells #[.bool na,.slice ua lua cua,.slice la lla cla] 58)).alloc (.cells #[.bool nb,.slice ub lub cub,.slice lb llb clb] 58)).alloc (.cells #[.bool false,.slice none 0 0,.slice none 0 0] 58)) (w.heap.size+1) #[.bool nb,.slice ub lub cub,.slice lb llb clb] 58) := by
  have := (Blk.new (w.alloc (.cells #[.bool na,.slice ua lua cua,.slice la lla cla] 58)) #[.bool nb,.slice ub lub cub,.slice lb llb clb] 58).below (Qh _ (.cells #[.bool false,.slice none 0 0,.slice none 0 0] 58)) (by simp)
  exact Qd (by simpa using this)
 have HKR : Hid (Blk (((w.alloc (.cells #[.bool na,.slice ua lua cua,.slice la lla cla] 58)).alloc (.cells #[.bool nb,.slice ub lub cub,.slice lb llb clb] 58)).alloc (.cells #[.bool false,.slice none 0 0,.slice none 0 0] 58)) (w.heap.size+1+1) #[.bool false,.slice none 0 0,.slice none 0 0] 58) := by
  have := Blk.new ((w.alloc (.cells #[.bool na,.slice ua lua cua,.slice la lla cla] 58)).alloc (.cells #[.bool nb,.slice ub lub cub,.slice lb llb clb] 58)) #[.bool false,.slice none 0 0,.slice none 0 0] 58
  exact Qd (by simpa using this)
 have HA := Qd (ha.below HB0.out)
 have HB := Qd (hb.below HB0.out)
 have HUA := Qd (hua.below HB0.out)
 have HUB := Qd (hub.below HB0.out)
 have S1 := Qd s1
 have S2 := Qd s2
 have S3 := Qd s3
 have S4 := Qd s4
 have S5 := Qd s5
 have S6 := Qd s6
 have S7 := Qd s7
 have EA := Qd ea
 have EB := Qd eb
 clear ha hb hua hub s1 s2 s3 s4 s5 s6 s7 ea eb
 have G0 : Hid (0 < Nat.gcd a.den b.den) := Nat.gcd_pos_of_pos_left _ (Nat.pos_of_ne_zero a.den_nz)
 have GS : Hid (Small (Nat.gcd a.den b.den)) := ZG S1.out (Nat.le_of_dvd (Nat.pos_of_ne_zero a.den_nz) (Nat.gcd_dvd_left _ _))
 have SAL : Hid (Small (a.den / Nat.gcd a.den b.den)) := ZG S1.out (Nat.div_le_self _ _)
 have SBL : Hid (Small (b.den / Nat.gcd a.den b.den)) := ZG S2.out (Nat.div_le_self _ _)
 go_enter Tryz.func103,Tryz.ntmps103
 go_wp2_with fail
 obtain ⟨z0,z1,z2,z3,z4,z5⟩ := Qt HKA.out HKB.out
 go_region_held3 (fun w' => w'.cell? ⟨w.heap.size,0,none⟩=some (.bool na)∧w'.cell? ⟨w.heap.size,1,none⟩=some (.slice ua lua cua)∧w'.cell? ⟨w.heap.size,2,none⟩=some (.slice la lla cla)∧w'.cell? ⟨w.heap.size+1,0,none⟩=some (.bool nb)∧w'.cell? ⟨w.heap.size+1,1,none⟩=some (.slice ub lub cub)∧w'.cell? ⟨w.heap.size+1,2,none⟩=some (.slice lb llb clb)) (first | go_keep | exact hk1 | exact hk2 | exact hk3)
  (first
   | (go_at_call_of 106 (Value.agg #[Value.bool na,Value.slice ua lua cua,Value.slice la lla cla]); refine (Zr (w := (((w.alloc (.cells #[.bool na,.slice ua lua cua,.slice la lla cla] 58)).alloc (.cells #[.bool nb,.slice ub lub cub,.slice lb llb clb] 58)).alloc (.cells #[.bool false,.slice none 0 0,.slice none 0 0] 58)).drew) (HA.out.below (Below.drew (Below.refl _ _)))).mono ?_; rintro e w1 ⟨hb1,v1,rfl,hv1⟩; have hbl1 : Below (((w.alloc (.cells #[.bool na,.slice ua lua cua,.slice la lla cla] 58)).alloc (.cells #[.bool nb,.slice ub lub cub,.slice lb llb clb] 58)).alloc (.cells #[.bool false,.slice none 0 0,.slice none 0 0] 58)).heap.size (((w.alloc (.cells #[.bool na,.slice ua lua cua,.slice la lla cla] 58)).alloc (.cells #[.bool nb,.slice ub lub cub,.slice lb llb clb] 58)).alloc (.cells #[.bool false,.slice none 0 0,.slice none 0 0] 58)) w1 := (Below.drew (Below.refl _ (((w.alloc (.cells #[.bool na,.slice ua lua cua,.slice la lla cla] 58)).alloc (.cells #[.bool nb,.slice ub lub cub,.slice lb llb clb] 58)).alloc (.cells #[.bool false,.slice none 0 0,.slice none 0 0] 58)))).trans hb1; have hk1 := Qt (HKA.out.below hbl1 (by simp; omega)) (HKB.out.below hbl1 (by simp)))
   | (go_at_call_of 106 (Value.agg #[Value.bool nb,Value.slice ub lub cub,Value.slice lb llb clb]); refine (Zr (HB.out.below hbl1)).mono ?_; rintro e w2 ⟨hb2,v2,rfl,hv2⟩; have hbl2 := hbl1.trans (hb2.mono hbl1.size); have hk2 := Qt (HKA.out.below hbl2 (by simp; omega)) (HKB.out.below hbl2 (by simp)))
   | (go_at_call 111; refine (UJ (hv1.below hb2) hv2 S1.out S2.out).mono ?_; rintro e w3 ⟨hb3,vg,rfl,hvg⟩; have hbl3 := hbl2.trans (hb3.mono hbl2.size); have hk3 := Qt (HKA.out.below hbl3 (by simp; omega)) (HKB.out.below hbl3 (by simp)))
   )
 clear z0 z1 z2 z3 z4 z5 hk1 hk2 hv1 hv2 hb1 hb2 hb3 hbl1 hbl2
 obtain ⟨z0,z1,z2,z3,z4,z5⟩ := hk3
 go_wp2_with fail
 go_region_held3 (fun w' => w'.cell? ⟨w.heap.size,0,none⟩=some (.bool na)∧w'.cell? ⟨w.heap.size,1,none⟩=some (.slice ua lua cua)∧w'.cell? ⟨w.heap.size,2,none⟩=some (.slice la lla cla)∧w'.cell? ⟨w.heap.size+1,0,none⟩=some (.bool nb)∧w'.cell? ⟨w.heap.size+1,1,none⟩=some (.slice ub lub cub)∧w'.cell? ⟨w.heap.size+1,2,none⟩=some (.slice lb llb clb)) (first | go_keep | exact hk4 | exact hk5 | exact hk6 | exact hk7)
  (first
   | (go_at_call_of 106 (Value.agg #[Value.bool na,Value.slice ua lua cua,Value.slice la lla cla]); refine (Zr (w := w3.drew) (HA.out.below (Below.drew hbl3))).mono ?_; rintro e w4 ⟨hb4,v4,rfl,hv4⟩; have hc4 : Below w3.heap.size w3 w4 := (Below.drew (Below.refl _ w3)).trans hb4; have hbl4 := hbl3.trans (hc4.mono hbl3.size); have hk4 := Qt (HKA.out.below hbl4 (by simp; omega)) (HKB.out.below hbl4 (by simp)))
   | (go_at_call_of 112 (v4); refine (ZY hv4 (hvg.below hc4) S1.out GS.out G0.out).mono ?_; rintro e w5 ⟨hb5,vx,rfl,hvx⟩; have hbl5 := hbl4.trans (hb5.mono hbl4.size); have hk5 := Qt (HKA.out.below hbl5 (by simp; omega)) (HKB.out.below hbl5 (by simp)); have hvg5 := (hvg.below hc4).below hb5)
   | (go_at_call_of 106 (Value.agg #[Value.bool nb,Value.slice ub lub cub,Value.slice lb llb clb]); refine (Zr (HB.out.below hbl5)).mono ?_; rintro e w6 ⟨hb6,v6,rfl,hv6⟩; have hbl6 := hbl5.trans (hb6.mono hbl5.size); have hk6 := Qt (HKA.out.below hbl6 (by simp; omega)) (HKB.out.below hbl6 (by simp)))
   | (go_at_call_of 112 (v6); refine (ZY hv6 (hvg5.below hb6) S2.out GS.out G0.out).mono ?_; rintro e w7 ⟨hb7,vy,rfl,hvy⟩; have hbl7 := hbl6.trans (hb7.mono hbl6.size); have hk7 := Qt (HKA.out.below hbl7 (by simp; omega)) (HKB.out.below hbl7 (by simp)))
   )
 have hvg7 := (hvg5.below hb6).below hb7
 have hvx7 := (hvx.below hb6).below hb7
 clear hvg hvg5 hvx hc4 z0 z1 z2 z3 z4 z5 hk4 hk5 hk6 hv4 hv6 hb4 hb5 hb6 hb7 hbl4 hbl5 hbl6 hbl3
 obtain ⟨z0,z1,z2,z3,z4,z5⟩ := hk7
 go_wp2_with fail
 go_region_held3 (fun w' => w'.cell? ⟨w.heap.size,0,none⟩=some (.bool na)∧w'.cell? ⟨w.heap.size,1,none⟩=some (.slice ua lua cua)∧w'.cell? ⟨w.heap.size,2,none⟩=some (.slice la lla cla)∧w'.cell? ⟨w.heap.size+1,0,none⟩=some (.bool nb)∧w'.cell? ⟨w.heap.size+1,1,none⟩=some (.slice ub lub cub)∧w'.cell? ⟨w.heap.size+1,2,none⟩=some (.slice lb llb clb)) (first | go_keep | exact hk8 | exact hk9 | exact hkA)
  (first
   | (go_at_call_of 108 (vy); refine (Ji (w := w7.drew) (HUA.out.below (Below.drew hbl7)) (hvy.below (Below.drew (Below.refl _ _))) S5.out SBL.out).mono ?_; rintro e w8 ⟨hb8,v8,rfl,hv8⟩; have hc8 : Below w7.heap.size w7 w8 := (Below.drew (Below.refl _ w7)).trans hb8; have hbl8 := hbl7.trans (hc8.mono hbl7.size); have hk8 := Qt (HKA.out.below hbl8 (by simp; omega)) (HKB.out.below hbl8 (by simp)))
   | (go_at_call_of 108 (vx); refine (Ji (HUB.out.below hbl8) (hvx7.below hc8) S6.out SAL.out).mono ?_; rintro e w9 ⟨hb9,v9,rfl,hv9⟩; have hbl9 := hbl8.trans (hb9.mono hbl8.size); have hk9 := Qt (HKA.out.below hbl9 (by simp; omega)) (HKB.out.below hbl9 (by simp)))
   | (go_at_call 140; refine (Tm (hv8.below hb9) hv9 S3.out S4.out).mono ?_; rintro e wA ⟨hbA,neg,vn,n,rfl,hvn,hsum⟩; have hblA := hbl9.trans (hbA.mono hbl9.size); have hkA := Qt (HKA.out.below hblA (by simp; omega)) (HKB.out.below hblA (by simp)))
   )
 have hvgA := ((hvg7.below hc8).below hb9).below hbA
 have hvxA := ((hvx7.below hc8).below hb9).below hbA
 have HSUM : Hid (sg neg n=a.num*(b.den / Nat.gcd a.den b.den : Nat)+b.num*(a.den / Nat.gcd a.den b.den : Nat)) := by
  show sg neg n=_
  rw [hsum,Gf,Gf,EA.out,EB.out,Oy,Oy]
 have SN : Hid (Small n) := S7.out n (by
  have h1 := congrArg Int.natAbs hsum
  rw [Uz] at h1
  have h2 := Int.natAbs_add_le (sg na (a.num.natAbs*(b.den / Nat.gcd a.den b.den))) (sg nb (b.num.natAbs*(a.den / Nat.gcd a.den b.den)))
  rw [Uz,Uz] at h2
  omega)
 clear hvg7 hvx7 hc8 z0 z1 z2 z3 z4 z5 hk8 hk9 hv8 hv9 hb8 hb9 hbA hbl7 hbl8 hbl9 hsum hvy
 go_wp2_with fail
 refine (UJ hvn hvgA SN.out GS.out).mono ?_
 rintro e wB ⟨hbB,vh,rfl,hvh⟩
 have hblB := hblA.trans (hbB.mono hblA.size)
 have hkB := Qt (HKA.out.below hblB (by simp; omega)) (HKB.out.below hblB (by simp))
 have hvnB := hvn.below hbB
 have hvxB := hvxA.below hbB
 clear hvn hvgA hvxA hbB hkA
 have H0 : Hid (0 < Nat.gcd n (Nat.gcd a.den b.den)) := Nat.gcd_pos_of_pos_right _ G0.out
 have HS : Hid (Small (Nat.gcd n (Nat.gcd a.den b.den))) := ZG GS.out (Nat.le_of_dvd G0.out (Nat.gcd_dvd_right _ _))
 obtain ⟨hl,hcop,hfin⟩ := plus_fr a b HSUM.out
 have HFIN := Qd hfin
 clear hfin
 obtain ⟨z0,z1,z2,z3,z4,z5⟩ := hkB
 have SBH : Hid (Small (b.den / Nat.gcd n (Nat.gcd a.den b.den))) := ZG S2.out (Nat.div_le_self _ _)
 go_wp2_with fail
 go_region_held3 (fun w' => w'.cell? ⟨w.heap.size+1,0,none⟩=some (.bool nb)∧w'.cell? ⟨w.heap.size+1,1,none⟩=some (.slice ub lub cub)∧w'.cell? ⟨w.heap.size+1,2,none⟩=some (.slice lb llb clb)) (first | go_keep | exact hkC.2.2.2 | exact hkD.2.2.2 | exact hkE.2.2.2 | exact hkF.2.2.2 | exact hkG.2.2.2)
  (first
   | (go_at_call_of 112 (vn); refine (ZY (w := wB.drew) (hvnB.below (Below.drew (Below.refl _ _))) (hvh.below (Below.drew (Below.refl _ _))) SN.out HS.out H0.out).mono ?_; rintro e wC ⟨hbC,vC,rfl,hvC⟩; have hcC : Below wB.heap.size wB wC := (Below.drew (Below.refl _ wB)).trans hbC; have hblC := hblB.trans (hcC.mono hblB.size); have hkC := Qt (HKA.out.below hblC (by simp; omega)) (HKB.out.below hblC (by simp)))
   | (go_at_call_of 106 (Value.agg #[Value.bool nb,Value.slice ub lub cub,Value.slice lb llb clb]); refine (Zr (HB.out.below hblC)).mono ?_; rintro e wD ⟨hbD,vD,rfl,hvD⟩; have hblD := hblC.trans (hbD.mono hblC.size); have hkD := Qt (HKA.out.below hblD (by simp; omega)) (HKB.out.below hblD (by simp)); have hvhD := (hvh.below hcC).below hbD)
   | (go_at_call_of 112 (vD); refine (ZY hvD hvhD S2.out HS.out H0.out).mono ?_; rintro e wE ⟨hbE,vE,rfl,hvE⟩; have hblE := hblD.trans (hbE.mono hblD.size); have hkE := Qt (HKA.out.below hblE (by simp; omega)) (HKB.out.below hblE (by simp)); have hvxE := ((hvxB.below hcC).below hbD).below hbE)
   | (go_at_call 108; refine (Ji hvxE hvE SAL.out SBH.out).mono ?_; rintro e wF ⟨hbF,vF,rfl,hvF⟩; have hblF := hblE.trans (hbF.mono hblE.size); have hkF := Qt (HKA.out.below hblF (by simp; omega)) (HKB.out.below hblF (by simp)); have hvCF := ((hvC.below hbD).below hbE).below hbF)
   | (go_at_call 104; refine (Jj hvCF hvF hl hcop).mono ?_; rintro e wG ⟨hbG,vG,rfl,hvG⟩; have hblG := hblF.trans (hbG.mono hblF.size); have hkG := Qt (HKA.out.below hblG (by simp; omega)) (HKB.out.below hblG (by simp)); rw [HFIN.out] at hvG; have HQ := Qd hvG; obtain ⟨vu',vl',rfl,hn1,hn2⟩ := hvG; obtain ⟨ao3,len3,cap3,rfl,_,_,_⟩ := QH hn1; obtain ⟨ao4,len4,cap4,rfl,_,_,_⟩ := QH hn2; have hkr := HKR.out.below hblG (by simp); obtain ⟨r0,r1,r2,f0,f1,f2⟩ := hkr.three)
   )
 all_goals
  go_wp2
  obtain ⟨k0,k1,k2,hlow⟩ := hkr.three_set (.bool (decide ((a+b).num < 0))) (.slice ao3 len3 cap3) (.slice ao4 len4 cap4)
  exact bodyPost_ret (v := .agg #[.bool (decide ((a+b).num < 0)),.slice ao3 len3 cap3,.slice ao4 len4 cap4]) (by simp [results,Tryz.results103,go_sem,k0,k1,k2]) rfl ⟨hlow _ _ (HB0.out.trans (hblG.mono HB0.out.size)) (by omega),_,rfl,HQ.out.three hkr⟩
theorem YI {w : World} {va vb : Value} {a b : Rat} {k l : Nat} (ha : QV w va a) (hb : QV w vb b) (fa : QS k a) (fb : QS l b) (hk : k+l+1≤35184372088640) :
  Calls Tryz.prog 103 #[va,vb] w fun e w' => Below w.heap.size w w'∧∃ v,e=.returned v∧QV w' v (a+b) := by
 have ha' := ha
 have hb' := hb
 obtain ⟨ua,la,rfl,h1,h2⟩ := ha
 obtain ⟨ub,lb,rfl,h3,h4⟩ := hb
 obtain ⟨a1,n1,c1,rfl,_,_,_⟩ := QH h1
 obtain ⟨a2,n2,c2,rfl,_,_,_⟩ := QH h2
 obtain ⟨a3,n3,c3,rfl,_,_,_⟩ := QH h3
 obtain ⟨a4,n4,c4,rfl,_,_,_⟩ := QH h4
 have m1 : a.num.natAbs*(b.den / Nat.gcd a.den b.den) < 2 ^ (k+l) := by
  rw [Nat.pow_add]
  exact Nat.lt_of_le_of_lt (Nat.mul_le_mul_left _ (Nat.div_le_self _ _)) (Xe fa.num fb.den)
 have m2 : b.num.natAbs*(a.den / Nat.gcd a.den b.den) < 2 ^ (k+l) := by
  rw [Nat.pow_add,Nat.mul_comm (2 ^ k)]
  exact Nat.lt_of_le_of_lt (Nat.mul_le_mul_left _ (Nat.div_le_self _ _)) (Xe fb.num fa.den)
 refine EX ha' hb' rfl rfl h1 h3 (Qs fa.den (by omega)) (Qs fb.den (by omega)) (Qs m1 (by omega)) (Qs m2 (by omega)) (Qs fa.num (by omega)) (Qs fb.num (by omega)) ?_
 intro n hn
 refine Qs (k := k+l+1) ?_ hk
 rw [Nat.pow_succ]
 omega
end Go.Proofs.YtnhplfjlhdpgoaaGreatDoor
/- QD -/
namespace Go.Proofs.YtnhplfjlhdpgoaaGreatDoor
open Go.RowKit Cx
attribute [local go_sem ↓] Go.wp_at_zero Go.wp_at_succ
theorem neg_fr (q : Rat) : ∃ hl hc,fr (!(decide (q.num < 0))) q.num.natAbs q.den hl hc=-q := by
 refine ⟨q.den_nz,q.reduced,?_⟩
 have e : -q=mkRat (-q.num) q.den := by
  have := Rat.neg_mkRat q.num q.den
  rw [Rat.mkRat_self] at this
  exact this
 rw [e]
 apply WX q.den_nz
 congr 1
 unfold sg
 by_cases h : q.num < 0
 ·simp [h]; omega
 ·simp [h]; omega
theorem Lx (q : Rat) (h : q.num ≠ 0) : ∃ hl hc,fr (decide (q.num < 0)) q.den q.num.natAbs hl hc=q⁻¹ := by
 have hn : q.num.natAbs ≠ 0 := by omega
 refine ⟨hn,Nat.Coprime.symm q.reduced,?_⟩
 have e1 : fr (decide (q.num < 0)) q.den q.num.natAbs hn (Nat.Coprime.symm q.reduced)=mkRat (sg (decide (q.num < 0)) q.den) q.num.natAbs := WX hn rfl
 rw [e1]
 have hq : q=mkRat q.num q.den := (Rat.mkRat_self q).symm
 have hm : q*mkRat (sg (decide (q.num < 0)) q.den) q.num.natAbs=1 := by
  conv => lhs; arg 1; rw [hq]
  rw [Rat.mkRat_mul_mkRat]
  have e2 : (1 : Rat)=mkRat 1 1 := by rfl
  rw [e2,Rat.mkRat_eq_iff (Nat.mul_ne_zero q.den_nz hn) (by omega)]
  have e3 : q.num*sg (decide (q.num < 0)) q.den=((q.den*q.num.natAbs : Nat) : Int) := by
   rw [Int.natCast_mul]
   unfold sg
   by_cases hs : q.num < 0
   ·simp only [hs,decide_true,if_true]
    have : (q.num.natAbs : Int)=-q.num := by omega
    rw [this,Int.mul_neg,Int.mul_neg,Int.mul_comm]
   ·simp only [hs,decide_false]
    have : (q.num.natAbs : Int)=q.num := by omega
    rw [this,Int.mul_comm]
    rfl
  rw [e3]
  simp
 have hq0 : q ≠ 0 := by
  intro e
  rw [e] at h
  exact h rfl
 generalize mkRat (sg (decide (q.num < 0)) q.den) q.num.natAbs=x at *
 grind
theorem Blk.cells3 {w : World} {g t : Nat} {a b c : Value} (h : Blk w g #[a,b,c] t) : w.cell? ⟨g,0,none⟩=some a∧w.cell? ⟨g,1,none⟩=some b∧w.cell? ⟨g,2,none⟩=some c := ⟨h.cell 0,h.cell 1,h.cell 2⟩
theorem Blk.other {w : World} {g g' t : Nat} {cs : Array Value} (h : Blk w g cs t) (hne : g' ≠ g) (j : Nat) (v : Value) : Blk (w.setCell ⟨g',j,none⟩ v) g cs t := by
 unfold Blk at h ⊢
 rw [Below.heap_setCell _ _ _ _ (by exact fun e => hne e.symm),h]
theorem Blk.other3 {w : World} {g g' t : Nat} {cs : Array Value} (h : Blk w g cs t) (hne : g' ≠ g) (x y z : Value) : Blk (((w.setCell ⟨g',0,none⟩ x).setCell ⟨g',1,none⟩ y).setCell ⟨g',2,none⟩ z) g cs t :=
 ((h.other hne _ _).other hne _ _).other hne _ _
theorem GF {w : World} {na : Bool} {ua la : Option Addr} {lua cua lla cla : Nat} {a : Rat}
  (ha : QV w (.agg #[.bool na,.slice ua lua cua,.slice la lla cla]) a) (ea : na=decide (a.num < 0)) (hua : NatN w (.slice ua lua cua) a.num.natAbs) :
  Calls Tryz.prog 110 #[.agg #[.bool na,.slice ua lua cua,.slice la lla cla]] w fun e w' => Below w.heap.size w w'∧∃ v,e=.returned v∧QV w' v (-a) := by
 have HB0 : Hid (Below w.heap.size w ((w.alloc (.cells #[.bool na,.slice ua lua cua,.slice la lla cla] 58)).alloc (.cells #[.bool false,.slice none 0 0,.slice none 0 0] 58))) := (Qh w _).alloc (by simp) _
 have HKA : Hid (Blk ((w.alloc (.cells #[.bool na,.slice ua lua cua,.slice la lla cla] 58)).alloc (.cells #[.bool false,.slice none 0 0,.slice none 0 0] 58)) w.heap.size #[.bool na,.slice ua lua cua,.slice la lla cla] 58) := (Blk.new w _ _).below (Qh _ _) (by simp)
 have HKR : Hid (Blk ((w.alloc (.cells #[.bool na,.slice ua lua cua,.slice la lla cla] 58)).alloc (.cells #[.bool false,.slice none 0 0,.slice none 0 0] 58)) (w.heap.size+1) #[.bool false,.slice none 0 0,.slice none 0 0] 58) := by
  have := Blk.new (w.alloc (.cells #[.bool na,.slice ua lua cua,.slice la lla cla] 58)) #[.bool false,.slice none 0 0,.slice none 0 0] 58
  exact Qd (by simpa using this)
 have HA := Qd (ha.below HB0.out)
 have HUA := Qd (hua.below HB0.out)
 have EA := Qd ea
 clear ha hua ea
 obtain ⟨hl,hcop,hfin⟩ := neg_fr a
 rw [← EA.out] at hfin
 have HFIN := Qd hfin
 clear hfin
 go_enter Tryz.func110,Tryz.ntmps110
 go_wp2_with fail
 obtain ⟨z0,z1,z2,_,_,_⟩ := HKA.out.three
 go_region_held3 (fun w' => w'.cell? ⟨w.heap.size,0,none⟩=some (.bool na)∧w'.cell? ⟨w.heap.size,1,none⟩=some (.slice ua lua cua)∧w'.cell? ⟨w.heap.size,2,none⟩=some (.slice la lla cla)) (first | go_keep | exact hk1 | exact hk2 | exact hk3)
  (first
   | (go_at_call 106; refine (Zr (w := ((w.alloc (.cells #[.bool na,.slice ua lua cua,.slice la lla cla] 58)).alloc (.cells #[.bool false,.slice none 0 0,.slice none 0 0] 58)).drew) (HA.out.below (Below.drew (Below.refl _ _)))).mono ?_; rintro e w1 ⟨hb1,v1,rfl,hv1⟩; have hbl1 : Below ((w.alloc (.cells #[.bool na,.slice ua lua cua,.slice la lla cla] 58)).alloc (.cells #[.bool false,.slice none 0 0,.slice none 0 0] 58)).heap.size ((w.alloc (.cells #[.bool na,.slice ua lua cua,.slice la lla cla] 58)).alloc (.cells #[.bool false,.slice none 0 0,.slice none 0 0] 58)) w1 := (Below.drew (Below.refl _ ((w.alloc (.cells #[.bool na,.slice ua lua cua,.slice la lla cla] 58)).alloc (.cells #[.bool false,.slice none 0 0,.slice none 0 0] 58)))).trans hb1; have hk1 := (HKA.out.below hbl1 (by simp; omega)).cells3)
   | (go_at_call 104; refine (Jj (HUA.out.below hbl1) hv1 hl hcop).mono ?_; rintro e w2 ⟨hb2,v2,rfl,hv2⟩; have hbl2 := hbl1.trans (hb2.mono hbl1.size); have hk2 := (HKA.out.below hbl2 (by simp; omega)).cells3; rw [HFIN.out] at hv2; obtain ⟨rr,hrr⟩ : ∃ rr : Rat,rr=-a := ⟨_,rfl⟩; rw [← hrr] at hv2; have HRR := Qd hrr; clear hrr; have HQ := Qd hv2; obtain ⟨vu',vl',rfl,hn1,hn2⟩ := hv2; obtain ⟨ao3,len3,cap3,rfl,_,_,_⟩ := QH hn1; obtain ⟨ao4,len4,cap4,rfl,_,_,_⟩ := QH hn2; have hkr := HKR.out.below hbl2 (by simp); obtain ⟨r0,r1,r2,f0,f1,f2⟩ := hkr.three; have hk3 := ((HKA.out.below hbl2 (by simp; omega)).other3 (g' := w.heap.size+1) (by omega) (.bool (decide (rr.num < 0))) (.slice ao3 len3 cap3) (.slice ao4 len4 cap4)).cells3)
   )
 all_goals
  go_wp2
  obtain ⟨k0,k1,k2,hlow⟩ := hkr.three_set (.bool (decide (rr.num < 0))) (.slice ao3 len3 cap3) (.slice ao4 len4 cap4)
  exact bodyPost_ret (v := .agg #[.bool (decide (rr.num < 0)),.slice ao3 len3 cap3,.slice ao4 len4 cap4]) (by simp [results,Tryz.results110,go_sem,k0,k1,k2]) rfl ⟨hlow _ _ (HB0.out.trans (hbl2.mono HB0.out.size)) (by omega),_,rfl,by rw [← HRR.out]; exact HQ.out.three hkr⟩
theorem Wf {w : World} {va : Value} {a : Rat} (ha : QV w va a) :
  Calls Tryz.prog 110 #[va] w fun e w' => Below w.heap.size w w'∧∃ v,e=.returned v∧QV w' v (-a) := by
 have ha' := ha
 obtain ⟨ua,la,rfl,h1,h2⟩ := ha
 obtain ⟨a1,n1,c1,rfl,_,_,_⟩ := QH h1
 obtain ⟨a2,n2,c2,rfl,_,_,_⟩ := QH h2
 exact GF ha' rfl h1
theorem Mh {w : World} {na nb : Bool} {ua la ub lb : Option Addr} {lua cua lla cla lub cub llb clb : Nat} {a b : Rat}
  (ha : QV w (.agg #[.bool na,.slice ua lua cua,.slice la lla cla]) a) (hb : QV w (.agg #[.bool nb,.slice ub lub cub,.slice lb llb clb]) b) {k l : Nat} (fa : QS k a) (fb : QS l (-b)) (hk : k+l+1≤35184372088640) :
  Calls Tryz.prog 64 #[.agg #[.bool na,.slice ua lua cua,.slice la lla cla],.agg #[.bool nb,.slice ub lub cub,.slice lb llb clb]] w fun e w' => Below w.heap.size w w'∧∃ v,e=.returned v∧QV w' v (a+-b) := by
 have HB0 : Hid (Below w.heap.size w (((w.alloc (.cells #[.bool na,.slice ua lua cua,.slice la lla cla] 58)).alloc (.cells #[.bool nb,.slice ub lub cub,.slice lb llb clb] 58)).alloc (.cells #[.bool false,.slice none 0 0,.slice none 0 0] 58))) := ((Qh w _).alloc (by simp) _).alloc (by simp; omega) _
 have HKA : Hid (Blk (((w.alloc (.cells #[.bool na,.slice ua lua cua,.slice la lla cla] 58)).alloc (.cells #[.bool nb,.slice ub lub cub,.slice lb llb clb] 58)).alloc (.cells #[.bool false,.slice none 0 0,.slice none 0 0] 58)) w.heap.size #[.bool na,.slice ua lua cua,.slice la lla cla] 58) := (((Blk.new w _ _).below (Qh _ _) (by simp)).below (Qh _ _) (by simp; omega))
 have HKB : Hid (Blk (((w.alloc (.cells #[.bool na,.slice ua lua cua,.slice la lla cla] 58)).alloc (.cells #[.bool nb,.slice ub lub cub,.slice lb llb clb] 58)).alloc (.cells #[.bool false,.slice none 0 0,.slice none 0 0] 58)) (w.heap.size+1) #[.bool nb,.slice ub lub cub,.slice lb llb clb] 58) := by
  have := (Blk.new (w.alloc (.cells #[.bool na,.slice ua lua cua,.slice la lla cla] 58)) #[.bool nb,.slice ub lub cub,.slice lb llb clb] 58).below (Qh _ (.cells #[.bool false,.slice none 0 0,.slice none 0 0] 58)) (by simp)
  exact Qd (by simpa using this)
 have HKR : Hid (Blk (((w.alloc (.cells #[.bool na,.slice ua lua cua,.slice la lla cla] 58)).alloc (.cells #[.bool nb,.slice ub lub cub,.slice lb llb clb] 58)).alloc (.cells #[.bool false,.slice none 0 0,.slice none 0 0] 58)) (w.heap.size+1+1) #[.bool false,.slice none 0 0,.slice none 0 0] 58) := by
  have := Blk.new ((w.alloc (.cells #[.bool na,.slice ua lua cua,.slice la lla cla] 58)).alloc (.cells #[.bool nb,.slice ub lub cub,.slice lb llb clb] 58)) #[.bool false,.slice none 0 0,.slice none 0 0] 58
  exact Qd (by simpa using this)
 have HA := Qd (ha.below HB0.out)
 have HB := Qd (hb.below HB0.out)
 clear ha hb
 have FA := Qd fa
 have FB := Qd fb
 have HK := Qd hk
 clear fa fb hk
 go_enter Tryz.func64,Tryz.ntmps64
 go_wp2_with fail
 obtain ⟨z0,z1,z2,z3,z4,z5⟩ := Qt HKA.out HKB.out
 go_region_held3 (fun w' => w'.cell? ⟨w.heap.size,0,none⟩=some (.bool na)∧w'.cell? ⟨w.heap.size,1,none⟩=some (.slice ua lua cua)∧w'.cell? ⟨w.heap.size,2,none⟩=some (.slice la lla cla)∧w'.cell? ⟨w.heap.size+1,0,none⟩=some (.bool nb)∧w'.cell? ⟨w.heap.size+1,1,none⟩=some (.slice ub lub cub)∧w'.cell? ⟨w.heap.size+1,2,none⟩=some (.slice lb llb clb)) (first | go_keep | exact hk1 | exact hk2 | exact hkS)
  (first
   | (go_at_call 110; refine (Wf (w := (((w.alloc (.cells #[.bool na,.slice ua lua cua,.slice la lla cla] 58)).alloc (.cells #[.bool nb,.slice ub lub cub,.slice lb llb clb] 58)).alloc (.cells #[.bool false,.slice none 0 0,.slice none 0 0] 58)).drew) (HB.out.below (Below.drew (Below.refl _ _)))).mono ?_; rintro e w1 ⟨hb1,v1,rfl,hv1⟩; have hbl1 : Below (((w.alloc (.cells #[.bool na,.slice ua lua cua,.slice la lla cla] 58)).alloc (.cells #[.bool nb,.slice ub lub cub,.slice lb llb clb] 58)).alloc (.cells #[.bool false,.slice none 0 0,.slice none 0 0] 58)).heap.size (((w.alloc (.cells #[.bool na,.slice ua lua cua,.slice la lla cla] 58)).alloc (.cells #[.bool nb,.slice ub lub cub,.slice lb llb clb] 58)).alloc (.cells #[.bool false,.slice none 0 0,.slice none 0 0] 58)) w1 := (Below.drew (Below.refl _ (((w.alloc (.cells #[.bool na,.slice ua lua cua,.slice la lla cla] 58)).alloc (.cells #[.bool nb,.slice ub lub cub,.slice lb llb clb] 58)).alloc (.cells #[.bool false,.slice none 0 0,.slice none 0 0] 58)))).trans hb1; have hk1 := Qt (HKA.out.below hbl1 (by simp; omega)) (HKB.out.below hbl1 (by simp)))
   | (go_at_call 103; refine (YI (HA.out.below hbl1) hv1 FA.out FB.out HK.out).mono ?_; rintro e w2 ⟨hb2,v2,rfl,hv2⟩; have hbl2 := hbl1.trans (hb2.mono hbl1.size); have hk2 := Qt (HKA.out.below hbl2 (by simp; omega)) (HKB.out.below hbl2 (by simp)); obtain ⟨rr,hrr⟩ : ∃ rr : Rat,rr=a+-b := ⟨_,rfl⟩; rw [← hrr] at hv2; have HRR := Qd hrr; clear hrr; have HQ := Qd hv2; obtain ⟨vu',vl',rfl,hn1,hn2⟩ := hv2; obtain ⟨ao3,len3,cap3,rfl,_,_,_⟩ := QH hn1; obtain ⟨ao4,len4,cap4,rfl,_,_,_⟩ := QH hn2; have hkr := HKR.out.below hbl2 (by simp); obtain ⟨r0,r1,r2,f0,f1,f2⟩ := hkr.three; have hkS := Qt ((HKA.out.below hbl2 (by simp; omega)).other3 (g' := w.heap.size+1+1) (by omega) (.bool (decide (rr.num < 0))) (.slice ao3 len3 cap3) (.slice ao4 len4 cap4)) ((HKB.out.below hbl2 (by simp)).other3 (g' := w.heap.size+1+1) (by omega) (.bool (decide (rr.num < 0))) (.slice ao3 len3 cap3) (.slice ao4 len4 cap4)))
   )
 all_goals
  go_wp2
  obtain ⟨k0,k1,k2,hlow⟩ := hkr.three_set (.bool (decide (rr.num < 0))) (.slice ao3 len3 cap3) (.slice ao4 len4 cap4)
  exact bodyPost_ret (v := .agg #[.bool (decide (rr.num < 0)),.slice ao3 len3 cap3,.slice ao4 len4 cap4]) (by simp [results,Tryz.results64,go_sem,k0,k1,k2]) rfl ⟨hlow _ _ (HB0.out.trans (hbl2.mono HB0.out.size)) (by omega),_,rfl,by rw [← HRR.out]; exact HQ.out.three hkr⟩
theorem QS.neg {k : Nat} {q : Rat} (h : QS k q) : QS k (-q) := ⟨by show (-q.num).natAbs < 2 ^ k; rw [Int.natAbs_neg]; exact h.num,h.den⟩
theorem Wm {w : World} {va vb : Value} {a b : Rat} {k l : Nat} (ha : QV w va a) (hb : QV w vb b) (fa : QS k a) (fb : QS l b) (hk : k+l+1≤35184372088640) :
  Calls Tryz.prog 64 #[va,vb] w fun e w' => Below w.heap.size w w'∧∃ v,e=.returned v∧QV w' v (a - b) := by
 have ha' := ha
 have hb' := hb
 obtain ⟨ua,la,rfl,h1,h2⟩ := ha
 obtain ⟨ub,lb,rfl,h3,h4⟩ := hb
 obtain ⟨a1,n1,c1,rfl,_,_,_⟩ := QH h1
 obtain ⟨a2,n2,c2,rfl,_,_,_⟩ := QH h2
 obtain ⟨a3,n3,c3,rfl,_,_,_⟩ := QH h3
 obtain ⟨a4,n4,c4,rfl,_,_,_⟩ := QH h4
 rw [Rat.sub_eq_add_neg]
 exact Mh ha' hb' fa fb.neg hk
theorem CO {w : World} {na nb : Bool} {ua la ub lb : Option Addr} {lua cua lla cla lub cub llb clb : Nat} {a b : Rat}
  (ha : QV w (.agg #[.bool na,.slice ua lua cua,.slice la lla cla]) a) (hb : QV w (.agg #[.bool nb,.slice ub lub cub,.slice lb llb clb]) b) (ea : na=decide (a.num < 0)) (eb : nb=decide (b.num < 0)) (hua : NatN w (.slice ua lua cua) a.num.natAbs) (hub : NatN w (.slice ub lub cub) b.num.natAbs)
  (s1 : Small a.den) (s2 : Small b.den) (s5 : Small a.num.natAbs) (s6 : Small b.num.natAbs) :
  Calls Tryz.prog 65 #[.agg #[.bool na,.slice ua lua cua,.slice la lla cla],.agg #[.bool nb,.slice ub lub cub,.slice lb llb clb]] w fun e w' => Below w.heap.size w w'∧∃ v,e=.returned v∧QV w' v (a*b) := by
 have HB0 : Hid (Below w.heap.size w (((w.alloc (.cells #[.bool na,.slice ua lua cua,.slice la lla cla] 58)).alloc (.cells #[.bool nb,.slice ub lub cub,.slice lb llb clb] 58)).alloc (.cells #[.bool false,.slice none 0 0,.slice none 0 0] 58))) := ((Qh w _).alloc (by simp) _).alloc (by simp; omega) _
 have HKA : Hid (Blk (((w.alloc (.cells #[.bool na,.slice ua lua cua,.slice la lla cla] 58)).alloc (.cells #[.bool nb,.slice ub lub cub,.slice lb llb clb] 58)).alloc (.cells #[.bool false,.slice none 0 0,.slice none 0 0] 58)) w.heap.size #[.bool na,.slice ua lua cua,.slice la lla cla] 58) := (((Blk.new w _ _).below (Qh _ _) (by simp)).below (Qh _ _) (by simp; omega))
 have HKB : Hid (Blk (((w.alloc (.cells #[.bool na,.slice ua lua cua,.slice la lla cla] 58)).alloc (.cells #[.bool nb,.slice ub lub cub,.slice lb llb clb] 58)).alloc (.cells #[.bool false,.slice none 0 0,.slice none 0 0] 58)) (w.heap.size+1) #[.bool nb,.slice ub lub cub,.slice lb llb clb] 58) := by
  have := (Blk.new (w.alloc (.cells #[.bool na,.slice ua lua cua,.slice la lla cla] 58)) #[.bool nb,.slice ub lub cub,.slice lb llb clb] 58).below (Qh _ (.cells #[.bool false,.slice none 0 0,.slice none 0 0] 58)) (by simp)
  exact Qd (by simpa using this)
 have HKR : Hid (Blk (((w.alloc (.cells #[.bool na,.slice ua lua cua,.slice la lla cla] 58)).alloc (.cells #[.bool nb,.slice ub lub cub,.slice lb llb clb] 58)).alloc (.cells #[.bool false,.slice none 0 0,.slice none 0 0] 58)) (w.heap.size+1+1) #[.bool false,.slice none 0 0,.slice none 0 0] 58) := by
  have := Blk.new ((w.alloc (.cells #[.bool na,.slice ua lua cua,.slice la lla cla] 58)).alloc (.cells #[.bool nb,.slice ub lub cub,.slice lb llb clb] 58)) #[.bool false,.slice none 0 0,.slice none 0 0] 58
  exact Qd (by simpa using this)
 have HA := Qd (ha.below HB0.out)
 have HB := Qd (hb.below HB0.out)
 clear ha hb
 have HUA := Qd (hua.below HB0.out)
 have HUB := Qd (hub.below HB0.out)
 have S1 := Qd s1
 have S2 := Qd s2
 have S5 := Qd s5
 have S6 := Qd s6
 have EA := Qd ea
 have EB := Qd eb
 clear hua hub s1 s2 s5 s6 ea eb
 have G0 : Hid (0 < Nat.gcd a.num.natAbs b.den) := Nat.gcd_pos_of_pos_right _ (Nat.pos_of_ne_zero b.den_nz)
 have H0 : Hid (0 < Nat.gcd b.num.natAbs a.den) := Nat.gcd_pos_of_pos_right _ (Nat.pos_of_ne_zero a.den_nz)
 have GS : Hid (Small (Nat.gcd a.num.natAbs b.den)) := ZG S2.out (Nat.le_of_dvd (Nat.pos_of_ne_zero b.den_nz) (Nat.gcd_dvd_right _ _))
 have HS : Hid (Small (Nat.gcd b.num.natAbs a.den)) := ZG S1.out (Nat.le_of_dvd (Nat.pos_of_ne_zero a.den_nz) (Nat.gcd_dvd_right _ _))
 obtain ⟨hl,hcop,hfin⟩ := LO a b
 rw [← EA.out,← EB.out] at hfin
 change fr (!(na == nb)) _ _ _ _=_ at hfin
 have HFIN := Qd hfin
 clear hfin
 go_enter Tryz.func65,Tryz.ntmps65
 go_wp2_with fail
 obtain ⟨z0,z1,z2,z3,z4,z5⟩ := Qt HKA.out HKB.out
 go_region_held3 (fun w' => w'.cell? ⟨w.heap.size,0,none⟩=some (.bool na)∧w'.cell? ⟨w.heap.size,1,none⟩=some (.slice ua lua cua)∧w'.cell? ⟨w.heap.size,2,none⟩=some (.slice la lla cla)∧w'.cell? ⟨w.heap.size+1,0,none⟩=some (.bool nb)∧w'.cell? ⟨w.heap.size+1,1,none⟩=some (.slice ub lub cub)∧w'.cell? ⟨w.heap.size+1,2,none⟩=some (.slice lb llb clb)) (first | go_keep | exact hk1 | exact hk2 | exact hk3 | exact hk4)
  (first
   | (go_at_call_of 106 (Value.agg #[Value.bool nb,Value.slice ub lub cub,Value.slice lb llb clb]); refine (Zr (w := (((w.alloc (.cells #[.bool na,.slice ua lua cua,.slice la lla cla] 58)).alloc (.cells #[.bool nb,.slice ub lub cub,.slice lb llb clb] 58)).alloc (.cells #[.bool false,.slice none 0 0,.slice none 0 0] 58)).drew) (HB.out.below (Below.drew (Below.refl _ _)))).mono ?_; rintro e w1 ⟨hb1,v1,rfl,hv1⟩; have hbl1 : Below (((w.alloc (.cells #[.bool na,.slice ua lua cua,.slice la lla cla] 58)).alloc (.cells #[.bool nb,.slice ub lub cub,.slice lb llb clb] 58)).alloc (.cells #[.bool false,.slice none 0 0,.slice none 0 0] 58)).heap.size (((w.alloc (.cells #[.bool na,.slice ua lua cua,.slice la lla cla] 58)).alloc (.cells #[.bool nb,.slice ub lub cub,.slice lb llb clb] 58)).alloc (.cells #[.bool false,.slice none 0 0,.slice none 0 0] 58)) w1 := (Below.drew (Below.refl _ (((w.alloc (.cells #[.bool na,.slice ua lua cua,.slice la lla cla] 58)).alloc (.cells #[.bool nb,.slice ub lub cub,.slice lb llb clb] 58)).alloc (.cells #[.bool false,.slice none 0 0,.slice none 0 0] 58)))).trans hb1; have hk1 := Qt (HKA.out.below hbl1 (by simp; omega)) (HKB.out.below hbl1 (by simp)))
   | (go_at_call_of 111 (v1); refine (UJ (HUA.out.below hbl1) hv1 S5.out S2.out).mono ?_; rintro e w2 ⟨hb2,vg,rfl,hvg⟩; have hbl2 := hbl1.trans (hb2.mono hbl1.size); have hk2 := Qt (HKA.out.below hbl2 (by simp; omega)) (HKB.out.below hbl2 (by simp)))
   | (go_at_call_of 106 (Value.agg #[Value.bool na,Value.slice ua lua cua,Value.slice la lla cla]); refine (Zr (HA.out.below hbl2)).mono ?_; rintro e w3 ⟨hb3,v3,rfl,hv3⟩; have hbl3 := hbl2.trans (hb3.mono hbl2.size); have hk3 := Qt (HKA.out.below hbl3 (by simp; omega)) (HKB.out.below hbl3 (by simp)))
   | (go_at_call_of 111 (v3); refine (UJ (HUB.out.below hbl3) hv3 S6.out S1.out).mono ?_; rintro e w4 ⟨hb4,vh,rfl,hvh⟩; have hbl4 := hbl3.trans (hb4.mono hbl3.size); have hk4 := Qt (HKA.out.below hbl4 (by simp; omega)) (HKB.out.below hbl4 (by simp)))
   )
 have hvg4 := (hvg.below hb3).below hb4
 clear hvg hv1 hv3 hb1 hb2 hb3 hb4 hbl1 hbl2 hbl3 hk1 hk2 hk3 z0 z1 z2 z3 z4 z5
 obtain ⟨z0,z1,z2,z3,z4,z5⟩ := hk4
 go_wp2_with fail
 go_region_held3 (fun w' => w'.cell? ⟨w.heap.size,0,none⟩=some (.bool na)∧w'.cell? ⟨w.heap.size,1,none⟩=some (.slice ua lua cua)∧w'.cell? ⟨w.heap.size,2,none⟩=some (.slice la lla cla)∧w'.cell? ⟨w.heap.size+1,0,none⟩=some (.bool nb)∧w'.cell? ⟨w.heap.size+1,1,none⟩=some (.slice ub lub cub)∧w'.cell? ⟨w.heap.size+1,2,none⟩=some (.slice lb llb clb)) (first | go_keep | exact hk5 | exact hk6 | exact hk7)
  (first
   | (go_at_call_of 112 (vg); refine (ZY (w := w4.drew) (HUA.out.below (Below.drew hbl4)) (hvg4.below (Below.drew (Below.refl _ _))) S5.out GS.out G0.out).mono ?_; rintro e w5 ⟨hb5,vx,rfl,hvx⟩; have hc5 : Below w4.heap.size w4 w5 := (Below.drew (Below.refl _ w4)).trans hb5; have hbl5 := hbl4.trans (hc5.mono hbl4.size); have hk5 := Qt (HKA.out.below hbl5 (by simp; omega)) (HKB.out.below hbl5 (by simp)))
   | (go_at_call_of 112 (vh); refine (ZY (HUB.out.below hbl5) (hvh.below hc5) S6.out HS.out H0.out).mono ?_; rintro e w6 ⟨hb6,vz,rfl,hvz⟩; have hbl6 := hbl5.trans (hb6.mono hbl5.size); have hk6 := Qt (HKA.out.below hbl6 (by simp; omega)) (HKB.out.below hbl6 (by simp)))
   | (go_at_call 108; refine (Ji (hvx.below hb6) hvz (ZG S5.out (Nat.div_le_self _ _)) (ZG S6.out (Nat.div_le_self _ _))).mono ?_; rintro e w7 ⟨hb7,vu,rfl,hvu⟩; have hbl7 := hbl6.trans (hb7.mono hbl6.size); have hk7 := Qt (HKA.out.below hbl7 (by simp; omega)) (HKB.out.below hbl7 (by simp)))
   )
 have hvg7 := ((hvg4.below hc5).below hb6).below hb7
 have hvh7 := ((hvh.below hc5).below hb6).below hb7
 clear hvg4 hvh hvx hvz hb5 hb6 hb7 hc5 hbl4 hbl5 hbl6 hk5 hk6 z0 z1 z2 z3 z4 z5
 obtain ⟨z0,z1,z2,z3,z4,z5⟩ := hk7
 go_wp2_with fail
 go_region_held3 (fun w' => w'.cell? ⟨w.heap.size,0,none⟩=some (.bool na)∧w'.cell? ⟨w.heap.size,1,none⟩=some (.slice ua lua cua)∧w'.cell? ⟨w.heap.size,2,none⟩=some (.slice la lla cla)∧w'.cell? ⟨w.heap.size+1,0,none⟩=some (.bool nb)∧w'.cell? ⟨w.heap.size+1,1,none⟩=some (.slice ub lub cub)∧w'.cell? ⟨w.heap.size+1,2,none⟩=some (.slice lb llb clb)) (first | go_keep | exact hk8 | exact hk9 | exact hkA | exact hkB | exact hkC)
  (first
   | (go_at_call_of 106 (Value.agg #[Value.bool na,Value.slice ua lua cua,Value.slice la lla cla]); refine (Zr (w := w7.drew) (HA.out.below (Below.drew hbl7))).mono ?_; rintro e w8 ⟨hb8,v8,rfl,hv8⟩; have hc8 : Below w7.heap.size w7 w8 := (Below.drew (Below.refl _ w7)).trans hb8; have hbl8 := hbl7.trans (hc8.mono hbl7.size); have hk8 := Qt (HKA.out.below hbl8 (by simp; omega)) (HKB.out.below hbl8 (by simp)))
   | (go_at_call_of 112 (v8); refine (ZY hv8 (hvh7.below hc8) S1.out HS.out H0.out).mono ?_; rintro e w9 ⟨hb9,vt,rfl,hvt⟩; have hbl9 := hbl8.trans (hb9.mono hbl8.size); have hk9 := Qt (HKA.out.below hbl9 (by simp; omega)) (HKB.out.below hbl9 (by simp)))
   | (go_at_call_of 106 (Value.agg #[Value.bool nb,Value.slice ub lub cub,Value.slice lb llb clb]); refine (Zr (HB.out.below hbl9)).mono ?_; rintro e wA ⟨hbA,vA,rfl,hvA⟩; have hblA := hbl9.trans (hbA.mono hbl9.size); have hkA := Qt (HKA.out.below hblA (by simp; omega)) (HKB.out.below hblA (by simp)))
   | (go_at_call_of 112 (vA); refine (ZY hvA (((hvg7.below hc8).below hb9).below hbA) S2.out GS.out G0.out).mono ?_; rintro e wB ⟨hbB,vy,rfl,hvy⟩; have hblB := hblA.trans (hbB.mono hblA.size); have hkB := Qt (HKA.out.below hblB (by simp; omega)) (HKB.out.below hblB (by simp)))
   | (go_at_call 108; refine (Ji ((hvt.below hbA).below hbB) hvy (ZG S1.out (Nat.div_le_self _ _)) (ZG S2.out (Nat.div_le_self _ _))).mono ?_; rintro e wC ⟨hbC,vl,rfl,hvl⟩; have hblC := hblB.trans (hbC.mono hblB.size); have hkC := Qt (HKA.out.below hblC (by simp; omega)) (HKB.out.below hblC (by simp)))
   )
 have hvuC := ((((hvu.below hc8).below hb9).below hbA).below hbB).below hbC
 clear hvg7 hvh7 hvu hvt hvy hv8 hvA hb8 hb9 hbA hbB hbC hc8 hbl7 hbl8 hbl9 hblA hblB hk8 hk9 hkA hkB z0 z1 z2 z3 z4 z5
 obtain ⟨z0,z1,z2,z3,z4,z5⟩ := hkC
 go_wp2_with fail
 refine (Jj hvuC hvl hl hcop).mono ?_
 rintro e wD ⟨hbD,vD,rfl,hvD⟩
 have hblD := hblC.trans (hbD.mono hblC.size)
 have hkD := Qt (HKA.out.below hblD (by simp; omega)) (HKB.out.below hblD (by simp))
 rw [HFIN.out] at hvD
 obtain ⟨rr,hrr⟩ : ∃ rr : Rat,rr=a*b := ⟨_,rfl⟩
 rw [← hrr] at hvD
 have HRR := Qd hrr
 clear hrr
 have HQ := Qd hvD
 obtain ⟨vu',vl',rfl,hn1,hn2⟩ := hvD
 obtain ⟨ao3,len3,cap3,rfl,_,_,_⟩ := QH hn1
 obtain ⟨ao4,len4,cap4,rfl,_,_,_⟩ := QH hn2
 have hkr := HKR.out.below hblD (by simp)
 obtain ⟨r0,r1,r2,f0,f1,f2⟩ := hkr.three
 go_wp2
 obtain ⟨k0,k1,k2,hlow⟩ := hkr.three_set (.bool (decide (rr.num < 0))) (.slice ao3 len3 cap3) (.slice ao4 len4 cap4)
 exact bodyPost_ret (v := .agg #[.bool (decide (rr.num < 0)),.slice ao3 len3 cap3,.slice ao4 len4 cap4]) (by simp [results,Tryz.results65,go_sem,k0,k1,k2]) rfl ⟨hlow _ _ (HB0.out.trans (hblD.mono HB0.out.size)) (by omega),_,rfl,by rw [← HRR.out]; exact HQ.out.three hkr⟩
theorem XZ {w : World} {va vb : Value} {a b : Rat} {k l : Nat} (ha : QV w va a) (hb : QV w vb b) (fa : QS k a) (fb : QS l b) (hk : k+l+1≤35184372088640) :
  Calls Tryz.prog 65 #[va,vb] w fun e w' => Below w.heap.size w w'∧∃ v,e=.returned v∧QV w' v (a*b) := by
 have ha' := ha
 have hb' := hb
 obtain ⟨ua,la,rfl,h1,h2⟩ := ha
 obtain ⟨ub,lb,rfl,h3,h4⟩ := hb
 obtain ⟨a1,n1,c1,rfl,_,_,_⟩ := QH h1
 obtain ⟨a2,n2,c2,rfl,_,_,_⟩ := QH h2
 obtain ⟨a3,n3,c3,rfl,_,_,_⟩ := QH h3
 obtain ⟨a4,n4,c4,rfl,_,_,_⟩ := QH h4
 exact CO ha' hb' rfl rfl h1 h3 (Qs fa.den (by omega)) (Qs fb.den (by omega)) (Qs fa.num (by omega)) (Qs fb.num (by omega))
theorem Cz {w : World} {na nb : Bool} {ua la ub lb : Option Addr} {lua cua lla cla lub cub llb clb : Nat} {a b : Rat}
  (ha : QV w (.agg #[.bool na,.slice ua lua cua,.slice la lla cla]) a) (hb : QV w (.agg #[.bool nb,.slice ub lub cub,.slice lb llb clb]) b) (eb : nb=decide (b.num < 0)) (hub : NatN w (.slice ub lub cub) b.num.natAbs) (hb0 : b.num ≠ 0) {k l : Nat} (fa : QS k a) (fb : QS l b⁻¹) (hk : k+l+1≤35184372088640) :
  Calls Tryz.prog 118 #[.agg #[.bool na,.slice ua lua cua,.slice la lla cla],.agg #[.bool nb,.slice ub lub cub,.slice lb llb clb]] w fun e w' => Below w.heap.size w w'∧∃ v,e=.returned v∧QV w' v (a*b⁻¹) := by
 have HB0 : Hid (Below w.heap.size w (((w.alloc (.cells #[.bool na,.slice ua lua cua,.slice la lla cla] 58)).alloc (.cells #[.bool nb,.slice ub lub cub,.slice lb llb clb] 58)).alloc (.cells #[.bool false,.slice none 0 0,.slice none 0 0] 58))) := ((Qh w _).alloc (by simp) _).alloc (by simp; omega) _
 have HKA : Hid (Blk (((w.alloc (.cells #[.bool na,.slice ua lua cua,.slice la lla cla] 58)).alloc (.cells #[.bool nb,.slice ub lub cub,.slice lb llb clb] 58)).alloc (.cells #[.bool false,.slice none 0 0,.slice none 0 0] 58)) w.heap.size #[.bool na,.slice ua lua cua,.slice la lla cla] 58) := (((Blk.new w _ _).below (Qh _ _) (by simp)).below (Qh _ _) (by simp; omega))
 have HKB : Hid (Blk (((w.alloc (.cells #[.bool na,.slice ua lua cua,.slice la lla cla] 58)).alloc (.cells #[.bool nb,.slice ub lub cub,.slice lb llb clb] 58)).alloc (.cells #[.bool false,.slice none 0 0,.slice none 0 0] 58)) (w.heap.size+1) #[.bool nb,.slice ub lub cub,.slice lb llb clb] 58) := by
  have := (Blk.new (w.alloc (.cells #[.bool na,.slice ua lua cua,.slice la lla cla] 58)) #[.bool nb,.slice ub lub cub,.slice lb llb clb] 58).below (Qh _ (.cells #[.bool false,.slice none 0 0,.slice none 0 0] 58)) (by simp)
  exact Qd (by simpa using this)
 have HKR : Hid (Blk (((w.alloc (.cells #[.bool na,.slice ua lua cua,.slice la lla cla] 58)).alloc (.cells #[.bool nb,.slice ub lub cub,.slice lb llb clb] 58)).alloc (.cells #[.bool false,.slice none 0 0,.slice none 0 0] 58)) (w.heap.size+1+1) #[.bool false,.slice none 0 0,.slice none 0 0] 58) := by
  have := Blk.new ((w.alloc (.cells #[.bool na,.slice ua lua cua,.slice la lla cla] 58)).alloc (.cells #[.bool nb,.slice ub lub cub,.slice lb llb clb] 58)) #[.bool false,.slice none 0 0,.slice none 0 0] 58
  exact Qd (by simpa using this)
 have HA := Qd (ha.below HB0.out)
 have HB := Qd (hb.below HB0.out)
 clear ha hb
 have HUB := Qd (hub.below HB0.out)
 have hne : ((lub : Int) == 0)=false := by
  obtain ⟨ao,len,cap,e,_,_,hz⟩ := QH hub
  cases e
  rw [beq_eq_false_iff_ne]; intro e; have := hz.1 (by omega); omega
 have EB := Qd eb
 have FA := Qd fa
 have FB := Qd fb
 have HK := Qd hk
 obtain ⟨hl,hcop,hfin⟩ := Lx b hb0
 rw [← eb] at hfin
 have HFIN := Qd hfin
 clear hub eb fa fb hk hfin hb0
 go_enter Tryz.func118,Tryz.ntmps118
 obtain ⟨z0,z1,z2,z3,z4,z5⟩ := Qt HKA.out HKB.out
 go_wp2_with fail
 go_region_held3 (fun w' => w'.cell? ⟨w.heap.size,0,none⟩=some (.bool na)∧w'.cell? ⟨w.heap.size,1,none⟩=some (.slice ua lua cua)∧w'.cell? ⟨w.heap.size,2,none⟩=some (.slice la lla cla)∧w'.cell? ⟨w.heap.size+1,0,none⟩=some (.bool nb)∧w'.cell? ⟨w.heap.size+1,1,none⟩=some (.slice ub lub cub)∧w'.cell? ⟨w.heap.size+1,2,none⟩=some (.slice lb llb clb)) (first | go_keep | exact hk1 | exact hk2 | exact hk3 | exact hkS)
  (first
   | (go_at_call 106; refine (Zr (w := (((w.alloc (.cells #[.bool na,.slice ua lua cua,.slice la lla cla] 58)).alloc (.cells #[.bool nb,.slice ub lub cub,.slice lb llb clb] 58)).alloc (.cells #[.bool false,.slice none 0 0,.slice none 0 0] 58)).drew) (HB.out.below (Below.drew (Below.refl _ _)))).mono ?_; rintro e w1 ⟨hb1,v1,rfl,hv1⟩; have hbl1 : Below (((w.alloc (.cells #[.bool na,.slice ua lua cua,.slice la lla cla] 58)).alloc (.cells #[.bool nb,.slice ub lub cub,.slice lb llb clb] 58)).alloc (.cells #[.bool false,.slice none 0 0,.slice none 0 0] 58)).heap.size (((w.alloc (.cells #[.bool na,.slice ua lua cua,.slice la lla cla] 58)).alloc (.cells #[.bool nb,.slice ub lub cub,.slice lb llb clb] 58)).alloc (.cells #[.bool false,.slice none 0 0,.slice none 0 0] 58)) w1 := (Below.drew (Below.refl _ (((w.alloc (.cells #[.bool na,.slice ua lua cua,.slice la lla cla] 58)).alloc (.cells #[.bool nb,.slice ub lub cub,.slice lb llb clb] 58)).alloc (.cells #[.bool false,.slice none 0 0,.slice none 0 0] 58)))).trans hb1; have hk1 := Qt (HKA.out.below hbl1 (by simp; omega)) (HKB.out.below hbl1 (by simp)))
   | (go_at_call 104; refine (Jj hv1 (HUB.out.below hbl1) hl hcop).mono ?_; rintro e w2 ⟨hb2,v2,rfl,hv2⟩; rw [HFIN.out] at hv2; have hbl2 := hbl1.trans (hb2.mono hbl1.size); have hk2 := Qt (HKA.out.below hbl2 (by simp; omega)) (HKB.out.below hbl2 (by simp)))
   | (go_at_call 65; refine (XZ (HA.out.below hbl2) hv2 FA.out FB.out HK.out).mono ?_; rintro e w3 ⟨hb3,v3,rfl,hv3⟩; have hbl3 := hbl2.trans (hb3.mono hbl2.size); have hk3 := Qt (HKA.out.below hbl3 (by simp; omega)) (HKB.out.below hbl3 (by simp)); obtain ⟨rr,hrr⟩ : ∃ rr : Rat,rr=a*b⁻¹ := ⟨_,rfl⟩; rw [← hrr] at hv3; have HRR := Qd hrr; clear hrr; have HQ := Qd hv3; obtain ⟨vu',vl',rfl,hn1,hn2⟩ := hv3; obtain ⟨ao3,len3,cap3,rfl,_,_,_⟩ := QH hn1; obtain ⟨ao4,len4,cap4,rfl,_,_,_⟩ := QH hn2; have hkr := HKR.out.below hbl3 (by simp); obtain ⟨r0,r1,r2,f0,f1,f2⟩ := hkr.three; have hkS := Qt ((HKA.out.below hbl3 (by simp; omega)).other3 (g' := w.heap.size+1+1) (by omega) (.bool (decide (rr.num < 0))) (.slice ao3 len3 cap3) (.slice ao4 len4 cap4)) ((HKB.out.below hbl3 (by simp)).other3 (g' := w.heap.size+1+1) (by omega) (.bool (decide (rr.num < 0))) (.slice ao3 len3 cap3) (.slice ao4 len4 cap4)))
   )
 all_goals
  go_wp2
  obtain ⟨k0,k1,k2,hlow⟩ := hkr.three_set (.bool (decide (rr.num < 0))) (.slice ao3 len3 cap3) (.slice ao4 len4 cap4)
  exact bodyPost_ret (v := .agg #[.bool (decide (rr.num < 0)),.slice ao3 len3 cap3,.slice ao4 len4 cap4]) (by simp [results,Tryz.results118,go_sem,k0,k1,k2]) rfl ⟨hlow _ _ (HB0.out.trans (hbl3.mono HB0.out.size)) (by omega),_,rfl,by rw [← HRR.out]; exact HQ.out.three hkr⟩
theorem Cy {w : World} {na nb : Bool} {ua la ub lb : Option Addr} {lua cua lla cla cub llb clb : Nat} :
  Calls Tryz.prog 118 #[.agg #[.bool na,.slice ua lua cua,.slice la lla cla],.agg #[.bool nb,.slice ub 0 cub,.slice lb llb clb]] w fun e w' => Below w.heap.size w w'∧∃ v,e=.returned v∧QV w' v 0 := by
 go_enter Tryz.func118,Tryz.ntmps118
 go_wp2
 exact bodyPost_ret (v := .agg #[.bool false,.slice none 0 0,.slice none 0 0]) (by simp [results,Tryz.results118,go_sem]) rfl ⟨((Qh w _).alloc (by simp) _).alloc (by simp; omega) _,_,rfl,⟨.slice none 0 0,.slice none 0 0,rfl,NatN.nil _ _ _,NatN.nil _ _ _⟩⟩
theorem QS.inv {k : Nat} {q : Rat} (h : QS k q) (h0 : q.num ≠ 0) : QS k q⁻¹ := by
 obtain ⟨hl,hc,e⟩ := Lx q h0
 rw [← e]
 refine ⟨?_,h.num⟩
 show (sg _ _).natAbs < _
 rw [Uz]; exact h.den
theorem RQ {w : World} {va vb : Value} {a b : Rat} {k l : Nat} (ha : QV w va a) (hb : QV w vb b) (fa : QS k a) (fb : QS l b) (hk : k+l+1≤35184372088640) :
  Calls Tryz.prog 118 #[va,vb] w fun e w' => Below w.heap.size w w'∧∃ v,e=.returned v∧QV w' v (a / b) := by
 have ha' := ha
 have hb' := hb
 obtain ⟨ua,la,rfl,h1,h2⟩ := ha
 obtain ⟨ub,lb,rfl,h3,h4⟩ := hb
 obtain ⟨a1,n1,c1,rfl,_,_,_⟩ := QH h1
 obtain ⟨a2,n2,c2,rfl,_,_,_⟩ := QH h2
 obtain ⟨a3,n3,c3,rfl,_,_,_⟩ := QH h3
 obtain ⟨a4,n4,c4,rfl,_,_,_⟩ := QH h4
 rw [Rat.div_def]
 by_cases h0 : b.num=0
 ·have hb0 : b=0 := Rat.num_eq_zero.1 h0
  have hz : n3=0 := by
   obtain ⟨ao,len,cap,e,_,_,hz⟩ := QH h3
   cases e
   exact hz.2 (by rw [h0]; rfl)
  subst hz
  have e : a*b⁻¹=0 := by rw [hb0,Rat.inv_zero,Rat.mul_zero]
  rw [e]
  exact Cy
 ·exact Cz ha' hb' rfl h3 h0 fa (fb.inv h0) hk
end Go.Proofs.YtnhplfjlhdpgoaaGreatDoor
/- MathT -/
namespace Cx
def dg (c : UInt8) : Bool := decide (48≤c.toNat) && decide (c.toNat≤57)
def ZP (l : List UInt8) : Bool := !l.isEmpty && l.all dg
def dv (l : List UInt8) : Nat := l.foldl (fun a c => a*10+(c.toNat - 48)) 0
theorem Lg : dv []=0 := rfl
theorem DR (l : List UInt8) (c : UInt8) : dv (l ++ [c])=dv l*10+(c.toNat - 48) := by
 unfold dv; rw [List.foldl_append]; rfl
theorem dv_from (l : List UInt8) (a : Nat) : l.foldl (fun a c => a*10+(c.toNat - 48)) a=a*10 ^ l.length+dv l := by
 induction l generalizing a with
 | nil => simp [Lg]
 | cons c l ih =>
  have e : dv (c :: l)=l.foldl (fun a c => a*10+(c.toNat - 48)) (0*10+(c.toNat - 48)) := rfl
  rw [e,List.foldl_cons,ih,ih (0*10+(c.toNat - 48)),List.length_cons,Nat.pow_succ]
  generalize 10 ^ l.length=P
  grind
theorem PF (l m : List UInt8) : dv (l ++ m)=dv l*10 ^ m.length+dv m := by
 have e : dv (l ++ m)=m.foldl (fun a c => a*10+(c.toNat - 48)) (dv l) := by unfold dv; rw [List.foldl_append]
 rw [e,dv_from]
theorem Fg (c : UInt8) (l : List UInt8) : dv (c :: l)=(c.toNat - 48)*10 ^ l.length+dv l := by
 have := PF [c] l
 simpa [dv] using this
theorem PH {c : UInt8} (h : dg c=true) : 48≤c.toNat∧c.toNat≤57 := by
 unfold dg at h; simpa using h
theorem MU {l : List UInt8} (h : l.all dg=true) : dv l < 10 ^ l.length := by
 induction l with
 | nil => simp [Lg]
 | cons c l ih =>
  simp only [List.all_cons,Bool.and_eq_true] at h
  have h1 := ih h.2
  have h2 := PH h.1
  rw [Fg,List.length_cons,Nat.pow_succ]
  have h3 : (c.toNat - 48)*10 ^ l.length≤9*10 ^ l.length := Nat.mul_le_mul_right _ (by omega)
  omega
theorem Ox {l : List UInt8} {k : Nat} (h : k < l.length) : l.take (k+1)=l.take k ++ [l[k]] := List.take_succ_eq_append_getElem h
end Cx
/- MathP -/
namespace Cx
open Go
def JP (l : List UInt8) : Option Nat := if Lib.indexByte l 47 < 0 then none else some (Lib.indexByte l 47).toNat
def JV (l : List UInt8) : List UInt8 := match JP l with | none => l | some i => l.take i
def Zz (l : List UInt8) : List UInt8 := match JP l with | none => [49] | some i => l.drop (i+1)
def Ur (l : List UInt8) : Bool := Lib.hasPrefix l [45]
def QI (l : List UInt8) : List UInt8 := Lib.trimPrefix l [45]
def rd (l : List UInt8) : Rat := if ZP (JV (QI l)) && ZP (Zz (QI l)) then mkRat (sg (Ur l) (dv (JV (QI l)))) (dv (Zz (QI l))) else 0
end Cx
namespace Go.Proofs.YtnhplfjlhdpgoaaGreatDoor
open Go Cx
theorem JJ {l : List UInt8} (h : ZP l=true) : l.all dg=true := by
 unfold ZP at h; simp only [Bool.and_eq_true] at h; exact h.2
end Go.Proofs.YtnhplfjlhdpgoaaGreatDoor
/- MathU -/
namespace Cx
def rv : List Nat→Nat
 | [] => 0
 | x :: l => x+1000000000*rv l
theorem Ee (l : List Nat) (x : Nat) : rv (l ++ [x])=rv l+1000000000 ^ l.length*x := by
 induction l with
 | nil => simp [rv]
 | cons y l ih =>
  rw [List.cons_append,rv,rv,ih,List.length_cons,Nat.pow_succ]
  generalize 1000000000 ^ l.length=P
  grind
structure Runs (rs : List Nat) : Prop where
 lt : ∀ x ∈ rs,x < 1000000000
 top : rs=[] ∨ rs.getLast? ≠ some 0
theorem Ax {n m A V : Nat} (h : 1000000000 ^ n*A≤V) (hA : 0 < A) (hV : V < pw m) : n≤2*m := by
 have h1 : 2 ^ (29*n)≤1000000000 ^ n := by
  rw [Nat.pow_mul]; exact Nat.pow_le_pow_left (by omega) _
 have h2 : 1000000000 ^ n≤1000000000 ^ n*A := Nat.le_mul_of_pos_right _ hA
 have h3 : pw m=2 ^ (32*m) := by
  unfold pw; rw [Nat.pow_mul]
 rw [h3] at hV
 have h4 : 2 ^ (29*n) < 2 ^ (32*m) := by omega
 have := (Nat.pow_lt_pow_iff_right (by omega)).1 h4
 omega
theorem LZ {V A : Nat} {rs : List Nat} (h : rv rs+1000000000 ^ rs.length*A=V) : rv (rs ++ [A % 1000000000])+1000000000 ^ (rs ++ [A % 1000000000]).length*(A / 1000000000)=V := by
 rw [Ee,List.length_append,List.length_singleton,Nat.pow_succ,← h]
 have e := Nat.mod_add_div A 1000000000
 generalize A % 1000000000=a at *
 generalize A / 1000000000=b at *
 subst e
 generalize 1000000000 ^ rs.length=P
 grind
end Cx
/- MathV -/
namespace Cx
open Go
theorem WO {u : Nat} (h : u < 10) : Lib.decDigits u=[UInt8.ofNat (48+u)] := Lib.decDigits_one h
theorem TK {u : Nat} (h : ¬ u < 10) : Lib.decDigits u=Lib.decDigits (u / 10) ++ [UInt8.ofNat (48+u % 10)] := by
 rw [Lib.decDigits,dif_neg h]
def Mi : Nat→Nat→List UInt8
 | 0,_ => []
 | k+1,r => Mi k (r / 10) ++ [UInt8.ofNat (48+r % 10)]
theorem Ew (k : Nat) : Mi k 0=List.replicate k 48 := by
 induction k with
 | zero => rfl
 | succ k ih =>
  show Mi k (0 / 10) ++ [UInt8.ofNat (48+0 % 10)]=_
  rw [Nat.zero_div,ih,List.replicate_succ']
  rfl
theorem Hb (k r : Nat) (h : Lib.nDigits r≤k) : Mi k r=List.replicate (k - (Lib.decDigits r).length) 48 ++ Lib.decDigits r := by
 induction k generalizing r with
 | zero => have := Lib.nDigits_pos r; omega
 | succ k ih =>
  show Mi k (r / 10) ++ [UInt8.ofNat (48+r % 10)]=_
  rw [Lib.decDigits_length]
  by_cases hr : r < 10
  ·rw [Lib.nDigits_small hr,WO hr,Nat.div_eq_of_lt hr,Ew,Nat.mod_eq_of_lt hr,Nat.add_sub_cancel]
  ·rw [Lib.nDigits_big hr] at h ⊢
   rw [ih (r / 10) (by omega),TK hr,Lib.decDigits_length,List.append_assoc,Nat.add_sub_add_right]
theorem dec_pad (k x r : Nat) (hx : 0 < x) (hr : r < 10 ^ k) : Lib.decDigits (r+10 ^ k*x)=Lib.decDigits x ++ Mi k r := by
 induction k generalizing r with
 | zero =>
  have : r=0 := by simpa using hr
  subst this
  simp [Mi]
 | succ k ih =>
  have hp : 0 < 10 ^ k := Nat.pow_pos (by decide)
  have hle : 1*1≤10 ^ k*x := Nat.mul_le_mul hp hx
  rw [Nat.pow_succ] at hr ⊢
  have e : r+10 ^ k*10*x=r+10*(10 ^ k*x) := by
   generalize 10 ^ k=P; grind
  rw [e]
  have hbig : ¬ (r+10*(10 ^ k*x) < 10) := by omega
  rw [TK hbig,show (r+10*(10 ^ k*x)) / 10=r / 10+10 ^ k*x by omega,show (r+10*(10 ^ k*x)) % 10=r % 10 by omega,ih (r / 10) (by omega),List.append_assoc]
  rfl
theorem Vb {u : Nat} (h : u < 10) : (UInt8.ofNat (48+u)).toNat=48+u := by
 simp; omega
theorem Fq (u : Nat) : (Lib.decDigits u).all dg=true := by
 induction u using Nat.strongRecOn with
 | ind u ih =>
  by_cases h : u < 10
  ·rw [WO h]
   simp only [List.all_cons,List.all_nil,Bool.and_true]
   unfold dg; rw [Vb h]; simp; omega
  ·rw [TK h,List.all_append,ih (u / 10) (by omega)]
   simp only [List.all_cons,List.all_nil,Bool.and_true,Bool.true_and]
   unfold dg; rw [Vb (Nat.mod_lt _ (by decide))]; simp; omega
theorem Hn (u : Nat) : Lib.decDigits u ≠ [] := by
 intro e
 have := Lib.decDigits_length u
 have := Lib.nDigits_pos u
 rw [e] at *
 simp at *
 omega
theorem KK (u : Nat) : ZP (Lib.decDigits u)=true := by
 unfold ZP
 rw [Fq]
 have := Hn u
 cases h : Lib.decDigits u with
 | nil => exact absurd h this
 | cons a b => rfl
theorem CA (u : Nat) : dv (Lib.decDigits u)=u := by
 induction u using Nat.strongRecOn with
 | ind u ih =>
  by_cases h : u < 10
  ·rw [WO h]
   show 0*10+((UInt8.ofNat (48+u)).toNat - 48)=u
   rw [Vb h]; omega
  ·rw [TK h,DR,ih (u / 10) (by omega),Vb (Nat.mod_lt _ (by decide))]
   omega
def tx (q : Rat) : List UInt8 :=
 (if q.num < 0 then [45] else []) ++ (Lib.decDigits q.num.natAbs ++ (if q.den=1 then [] else 47 :: Lib.decDigits q.den))
theorem no_byte {l : List UInt8} (h : l.all dg=true) {c : UInt8} (hc : dg c=false) : c ∉ l := by
 intro hm
 rw [List.all_eq_true] at h
 rw [h c hm] at hc
 cases hc
theorem Cs {l : List UInt8} {c : UInt8} (h : c ∉ l) : Lib.indexByte l c=-1 := by
 induction l with
 | nil => rfl
 | cons b l ih =>
  rw [List.mem_cons,not_or] at h
  have hb : (b == c)=false := by rw [beq_eq_false_iff_ne]; exact fun e => h.1 e.symm
  rw [Lib.indexByte,hb,ih h.2]
  rfl
theorem CS {a b : List UInt8} {c : UInt8} (h : c ∉ a) : Lib.indexByte (a ++ c :: b) c=(a.length : Int) := by
 induction a with
 | nil => simp [Lib.indexByte]
 | cons x l ih =>
  rw [List.mem_cons,not_or] at h
  have hb : (x == c)=false := by rw [beq_eq_false_iff_ne]; exact fun e => h.1 e.symm
  have h1 : (((l.length : Nat) : Int) == -1)=false := by rw [beq_eq_false_iff_ne]; omega
  rw [List.cons_append,Lib.indexByte,hb,ih h.2,h1,List.length_cons]
  rfl
theorem KQ {l : List UInt8} (h : (47 : UInt8) ∉ l) : JP l=none := by
 unfold JP
 rw [Cs h]
 rfl
theorem Cp {a b : List UInt8} (h : (47 : UInt8) ∉ a) : JP (a ++ 47 :: b)=some a.length := by
 unfold JP
 rw [CS h,if_neg (by omega)]
 rfl
theorem Iy (l : List UInt8) : Ur (45 :: l)=true∧QI (45 :: l)=l := by
 constructor
 ·simp [Ur,Lib.hasPrefix]
 ·simp [QI,Lib.trimPrefix,Lib.hasPrefix]
theorem Kx {c : UInt8} (l : List UInt8) (h : c ≠ 45) : Ur (c :: l)=false∧QI (c :: l)=c :: l := by
 have : (45 : UInt8) ≠ c := fun e => h e.symm
 constructor
 ·simp [Ur,Lib.hasPrefix,List.isPrefixOf,this]
 ·simp [QI,Lib.trimPrefix,Lib.hasPrefix,this]
theorem Sm {s : List UInt8} {neg : Bool} {u d : Nat} (h1 : Ur s=neg) (h2 : QI s=Lib.decDigits u ++ (if d=1 then [] else 47 :: Lib.decDigits d)) : rd s=mkRat (sg neg u) d := by
 have hno : (47 : UInt8) ∉ Lib.decDigits u := no_byte (Fq u) (by decide)
 unfold rd
 rw [h1,h2]
 by_cases hd : d=1
 ·subst hd
  rw [if_pos rfl,List.append_nil]
  have e1 : JV (Lib.decDigits u)=Lib.decDigits u := by unfold JV; rw [KQ hno]
  have e2 : Zz (Lib.decDigits u)=[49] := by unfold Zz; rw [KQ hno]
  rw [e1,e2,KK,CA]
  rfl
 ·rw [if_neg hd]
  have hb := Cp (b := Lib.decDigits d) hno
  have e1 : JV (Lib.decDigits u ++ 47 :: Lib.decDigits d)=Lib.decDigits u := by
   unfold JV; rw [hb]; simp
  have e2 : Zz (Lib.decDigits u ++ 47 :: Lib.decDigits d)=Lib.decDigits d := by
   unfold Zz; rw [hb]
   show List.drop (_+1) _=_
   rw [show Lib.decDigits u ++ 47 :: Lib.decDigits d=(Lib.decDigits u ++ [47]) ++ Lib.decDigits d by simp]
   exact List.drop_left' (by simp)
  rw [e1,e2,KK,KK,CA,CA]
  rfl
theorem Sy (q : Rat) : rd (tx q)=q := by
 have e : mkRat (sg (decide (q.num < 0)) q.num.natAbs) q.den=q := by rw [Oy,Rat.mkRat_self]
 by_cases h : q.num < 0
 ·have ht : tx q=45 :: (Lib.decDigits q.num.natAbs ++ (if q.den=1 then [] else 47 :: Lib.decDigits q.den)) := by unfold tx; rw [if_pos h]; rfl
  rw [ht,Sm (neg := true) (u := q.num.natAbs) (d := q.den) (Iy _).1 (Iy _).2]
  rw [decide_eq_true h] at e
  exact e
 ·have ht : tx q=Lib.decDigits q.num.natAbs ++ (if q.den=1 then [] else 47 :: Lib.decDigits q.den) := by unfold tx; rw [if_neg h]; rfl
  obtain ⟨c,l,hc⟩ : ∃ c l,Lib.decDigits q.num.natAbs=c :: l := by
   cases hh : Lib.decDigits q.num.natAbs with
   | nil => exact absurd hh (Hn _)
   | cons a b => exact ⟨a,b,rfl⟩
  have hc45 : c ≠ 45 := by
   intro e'
   have := Fq q.num.natAbs
   rw [hc] at this
   subst e'
   simp [dg] at this
  have hp := Kx (c := c) (l ++ (if q.den=1 then [] else 47 :: Lib.decDigits q.den)) hc45
  rw [← List.cons_append,← hc,← ht] at hp
  rw [Sm (neg := false) (u := q.num.natAbs) (d := q.den) hp.1 (by rw [hp.2,ht])]
  rw [decide_eq_false h] at e
  exact e
theorem Xl {k u : Nat} (h : u < 2 ^ k) : Lib.nDigits u≤k+1 := by
 induction u using Nat.strongRecOn generalizing k with
 | ind u ih =>
  by_cases h10 : u < 10
  ·rw [Lib.nDigits_small h10]; omega
  ·rw [Lib.nDigits_big h10]
   match k,h with
   | 0,h => simp at h; omega
   | k+1,h =>
    have := ih (u / 10) (by omega) (k := k) (by rw [Nat.pow_succ] at h; omega)
    omega
theorem tx_len {k : Nat} {q : Rat} (h : Go.Proofs.YtnhplfjlhdpgoaaGreatDoor.QS k q) : (tx q).length≤2*k+4 := by
 unfold tx
 rw [List.length_append,List.length_append,Lib.decDigits_length]
 have h1 := Xl h.num
 have h2 := Xl h.den
 have h3 : (if q.num < 0 then ([45] : List UInt8) else []).length≤1 := by split <;> simp
 have h4 : (if q.den=1 then [] else 47 :: Lib.decDigits q.den).length≤k+2 := by
  split
  ·simp
  ·rw [List.length_cons,Lib.decDigits_length]; omega
 omega
theorem ten_two (n : Nat) : 10 ^ n≤2 ^ (4*n) := by
 rw [Nat.pow_mul]; exact Nat.pow_le_pow_left (by decide) _
theorem CN {n : Int} {d : Nat} (hd : d ≠ 0) : (mkRat n d).num.natAbs≤n.natAbs∧(mkRat n d).den≤d := by
 obtain ⟨m,hm,h1,h2⟩ := Rat.mkRat_num_den hd (n' := (mkRat n d).num) (d' := (mkRat n d).den) (z' := (mkRat n d).den_nz) (c := (mkRat n d).reduced) rfl
 have hm1 : 1≤m := Nat.pos_of_ne_zero hm
 constructor
 ·have : n.natAbs=(mkRat n d).num.natAbs*m := by
   conv => lhs; rw [h1]
   rw [Int.natAbs_mul]; rfl
  rw [this]; exact Nat.le_mul_of_pos_right _ hm1
 ·conv => rhs; rw [h2]
  exact Nat.le_mul_of_pos_right _ hm1
end Cx
namespace Go.Proofs.YtnhplfjlhdpgoaaGreatDoor
open Go Cx
theorem QS.mono {k l : Nat} {q : Rat} (h : QS k q) (hk : k≤l) : QS l q :=
 ⟨Nat.lt_of_lt_of_le h.num (Nat.pow_le_pow_right (by decide) hk),Nat.lt_of_lt_of_le h.den (Nat.pow_le_pow_right (by decide) hk)⟩
theorem QS.pos {k : Nat} {q : Rat} (h : QS k q) : 0 < k := by
 rcases Nat.eq_zero_or_pos k with rfl | h0
 ·have := h.den
  have := q.den_nz
  simp at *
  omega
 ·exact h0
theorem QS.zero : QS 1 0 := ⟨by decide,by decide⟩
theorem QS.mkr {n : Int} {d k : Nat} (hn : n.natAbs < 2 ^ (k+1)) (hd : d < 2 ^ (k+1)) : QS (k+1) (mkRat n d) := by
 by_cases h0 : d=0
 ·subst h0
  rw [Rat.mkRat_zero]
  exact QS.zero.mono (by omega)
 ·have := CN (n := n) h0
  exact ⟨by omega,by omega⟩
theorem QS.mul {k l : Nat} {a b : Rat} (h1 : QS k a) (h2 : QS l b) : QS (k+l) (a*b) := by
 have e : a*b=mkRat (a.num*b.num) (a.den*b.den) := by
  rw [Rat.mul_def,Rat.normalize_eq_mkRat]
 have hk := h1.pos
 obtain ⟨m,hm⟩ : ∃ m,k+l=m+1 := ⟨k+l - 1,by omega⟩
 rw [e,hm]
 apply QS.mkr
 ·rw [← hm,Int.natAbs_mul,Nat.pow_add]; exact Xe h1.num h2.num
 ·rw [← hm,Nat.pow_add]; exact Xe h1.den h2.den
theorem QS.add {k l : Nat} {a b : Rat} (h1 : QS k a) (h2 : QS l b) : QS (k+l+1) (a+b) := by
 have e : a+b=mkRat (a.num*b.den+b.num*a.den) (a.den*b.den) := by
  rw [Rat.add_def,Rat.normalize_eq_mkRat]
 rw [e]
 have p1 := Xe h1.num h2.den
 have p2 := Xe h2.num h1.den
 have p3 := Xe h1.den h2.den
 have n1 : (a.num*b.den+b.num*a.den).natAbs≤a.num.natAbs*b.den+b.num.natAbs*a.den := by
  refine Nat.le_trans (Int.natAbs_add_le _ _) ?_
  rw [Int.natAbs_mul,Int.natAbs_mul]
  exact Nat.le_refl _
 apply QS.mkr
 ·rw [Nat.pow_succ,Nat.pow_add]
  rw [Nat.mul_comm (2 ^ l)] at p2
  omega
 ·rw [Nat.pow_succ,Nat.pow_add]
  have : 0 < 2 ^ k*2 ^ l := Nat.mul_pos (Nat.pow_pos (by decide)) (Nat.pow_pos (by decide))
  omega
theorem QS.sub {k l : Nat} {a b : Rat} (h1 : QS k a) (h2 : QS l b) : QS (k+l+1) (a - b) := by
 rw [Rat.sub_eq_add_neg]
 exact h1.add ⟨by show (-b.num).natAbs < 2 ^ l; rw [Int.natAbs_neg]; exact h2.num,h2.den⟩
theorem Mo {l : List UInt8} (h : ZP l=true) : dv l < 2 ^ (4*l.length) := Nat.lt_of_lt_of_le (MU (JJ h)) (ten_two _)
theorem up_len (l : List UInt8) : (JV l).length≤l.length := by
 unfold JV
 split
 ·exact Nat.le_refl _
 ·rw [List.length_take]; exact Nat.min_le_right _ _
theorem low_len (l : List UInt8) : (Zz l).length≤l.length+1 := by
 unfold Zz
 split
 ·simp
 ·rw [List.length_drop]; omega
theorem La (l : List UInt8) : (QI l).length≤l.length := by
 unfold QI Lib.trimPrefix
 split
 ·simp
 ·simp
theorem QS.rd (l : List UInt8) : QS (4*l.length+5) (rd l) := by
 unfold Cx.rd
 split
 ·rename_i h
  rw [Bool.and_eq_true] at h
  have h1 := Mo h.1
  have h2 := Mo h.2
  have h3 := up_len (QI l)
  have h4 := low_len (QI l)
  have h5 := La l
  apply QS.mkr
  ·rw [Uz]; exact Nat.lt_of_lt_of_le h1 (Nat.pow_le_pow_right (by decide) (by omega))
  ·exact Nat.lt_of_lt_of_le h2 (Nat.pow_le_pow_right (by decide) (by omega))
 ·exact QS.zero.mono (by omega)
end Go.Proofs.YtnhplfjlhdpgoaaGreatDoor
/- WA -/
namespace Go.Proofs.YtnhplfjlhdpgoaaGreatDoor
open Go.RowKit Cx
structure C3 where
 n : Bool
 u : Option Addr
 nu : Nat
 cu : Nat
 l : Option Addr
 nl : Nat
 cl : Nat
theorem JC {w : World} {v : Value} {q : Rat} (h : QV w v q) : ∃ c : C3,v=.agg #[.bool c.n,.slice c.u c.nu c.cu,.slice c.l c.nl c.cl] := by
 obtain ⟨vu,vl,rfl,h1,h2⟩ := h
 obtain ⟨a1,n1,c1,rfl,_,_,_⟩ := QH h1
 obtain ⟨a2,n2,c2,rfl,_,_,_⟩ := QH h2
 exact ⟨⟨_,a1,n1,c1,a2,n2,c2⟩,rfl⟩
theorem SM (w : World) : QV w (.agg #[.bool false,.slice none 0 0,.slice none 0 0]) 0 := ⟨.slice none 0 0,.slice none 0 0,rfl,NatN.nil _ _ _,NatN.nil _ _ _⟩
def WV (w : World) (v : Value) (x y : Rat) : Prop :=
 ∃ c d : C3,v=.agg #[.bool c.n,.slice c.u c.nu c.cu,.slice c.l c.nl c.cl,.bool d.n,.slice d.u d.nu d.cu,.slice d.l d.nl d.cl]∧QV w (.agg #[.bool c.n,.slice c.u c.nu c.cu,.slice c.l c.nl c.cl]) x∧QV w (.agg #[.bool d.n,.slice d.u d.nu d.cu,.slice d.l d.nl d.cl]) y
structure Stays (w w' : World) : Prop where
 qv : ∀ {v : Value} {q : Rat},QV w v q→QV w' v q
theorem Stays.trans {a b c : World} (h : Stays a b) (k : Stays b c) : Stays a c := ⟨fun x => k.qv (h.qv x)⟩
def Qm : Value→Bool
 | .int .u32 _ => false
 | _ => true
theorem Yv {cs : Array Value} (h : cs.all Qm=true) : NoLimb cs := by
 intro j x e
 rw [Array.all_eq_true] at h
 obtain ⟨hj,e'⟩ := Array.getElem?_eq_some_iff.1 e
 have := h j hj
 rw [e'] at this
 cases this
theorem Stays.set {w : World} {g t : Nat} {cs : Array Value} (hb : Blk w g cs t) (hno : cs.all Qm=true) (j : Nat) (x : Value) : Stays w (w.setCell ⟨g,j,none⟩ x) :=
 ⟨fun ⟨vu,vl,e,h1,h2⟩ => ⟨vu,vl,e,h1.other hb (Yv hno) j x,h2.other hb (Yv hno) j x⟩⟩
theorem Xc {cs : Array Value} (h : cs.all Qm=true) (j : Nat) {v : Value} (hv : Qm v=true) : (cs.setIfInBounds j v).all Qm=true := by
 rw [Array.all_eq_true] at h ⊢
 intro i hi
 rw [Array.getElem_setIfInBounds]
 split
 ·exact hv
 ·exact h i (by simpa using hi)
theorem Below.set {B g : Nat} {a w : World} (h : Below B a w) (hB : B≤g) (j : Nat) (x : Value) : Below B a (w.setCell ⟨g,j,none⟩ x) := h.setCell hB _
theorem Blk.all2 {w : World} {g : Nat} {c0 c1 : Value} {t : TypeId} (h : Blk w g #[c0,c1] t) : w.cell? ⟨g,0,none⟩=some c0∧w.cell? ⟨g,1,none⟩=some c1∧w.frozen? ⟨g,0,none⟩=false∧w.frozen? ⟨g,1,none⟩=false :=
 ⟨h.cell 0,h.cell 1,h.frozen 0,h.frozen 1⟩
theorem Blk.all3 {w : World} {g : Nat} {c0 c1 c2 : Value} {t : TypeId} (h : Blk w g #[c0,c1,c2] t) : w.cell? ⟨g,0,none⟩=some c0∧w.cell? ⟨g,1,none⟩=some c1∧w.cell? ⟨g,2,none⟩=some c2∧w.frozen? ⟨g,0,none⟩=false∧w.frozen? ⟨g,1,none⟩=false∧w.frozen? ⟨g,2,none⟩=false :=
 ⟨h.cell 0,h.cell 1,h.cell 2,h.frozen 0,h.frozen 1,h.frozen 2⟩
theorem Blk.put3 {w : World} {g : Nat} {c0 c1 c2 : Value} {t : TypeId} (h : Blk w g #[c0,c1,c2] t) (x0 x1 x2 : Value) : Blk (((w.setCell ⟨g,0,none⟩ x0).setCell ⟨g,1,none⟩ x1).setCell ⟨g,2,none⟩ x2) g #[x0,x1,x2] t := by
 have h0 : Blk (w.setCell ⟨g,0,none⟩ x0) g #[x0,c1,c2] t := h.set 0 x0
 have h1 : Blk ((w.setCell ⟨g,0,none⟩ x0).setCell ⟨g,1,none⟩ x1) g #[x0,x1,c2] t := h0.set 1 x1
 have h2 : Blk (((w.setCell ⟨g,0,none⟩ x0).setCell ⟨g,1,none⟩ x1).setCell ⟨g,2,none⟩ x2) g #[x0,x1,x2] t := h1.set 2 x2
 exact h2
theorem Blk.off3 {w : World} {g g' t : Nat} {cs : Array Value} (h : Blk w g' cs t) (hne : g ≠ g') (x0 x1 x2 : Value) : Blk (((w.setCell ⟨g,0,none⟩ x0).setCell ⟨g,1,none⟩ x1).setCell ⟨g,2,none⟩ x2) g' cs t := (((h.other hne 0 x0).other hne 1 x1).other hne 2 x2)
theorem Below.put3 {B g : Nat} {a w : World} (h : Below B a w) (hB : B≤g) (x0 x1 x2 : Value) : Below B a (((w.setCell ⟨g,0,none⟩ x0).setCell ⟨g,1,none⟩ x1).setCell ⟨g,2,none⟩ x2) := (Below.set (Below.set (Below.set h hB 0 x0) hB 1 x1) hB 2 x2)
theorem Stays.put3 {w : World} {g t : Nat} {cs : Array Value} (h0 : Blk w g cs t) (a0 : cs.all Qm=true) (x0 x1 x2 : Value) (k0 : Qm x0=true) (k1 : Qm x1=true) (k2 : Qm x2=true) : Stays w (((w.setCell ⟨g,0,none⟩ x0).setCell ⟨g,1,none⟩ x1).setCell ⟨g,2,none⟩ x2) := by
 have h1 := h0.set 0 x0
 have a1 := Xc a0 0 k0
 have h2 := h1.set 1 x1
 have a2 := Xc a1 1 k1
 have h3 := h2.set 2 x2
 have a3 := Xc a2 2 k2
 exact (((Stays.set h0 a0 0 x0).trans (Stays.set h1 a1 1 x1)).trans (Stays.set h2 a2 2 x2))
theorem Blk.all6 {w : World} {g : Nat} {c0 c1 c2 c3 c4 c5 : Value} {t : TypeId} (h : Blk w g #[c0,c1,c2,c3,c4,c5] t) : w.cell? ⟨g,0,none⟩=some c0∧w.cell? ⟨g,1,none⟩=some c1∧w.cell? ⟨g,2,none⟩=some c2∧w.cell? ⟨g,3,none⟩=some c3∧w.cell? ⟨g,4,none⟩=some c4∧w.cell? ⟨g,5,none⟩=some c5∧w.frozen? ⟨g,0,none⟩=false∧w.frozen? ⟨g,1,none⟩=false∧w.frozen? ⟨g,2,none⟩=false∧w.frozen? ⟨g,3,none⟩=false∧w.frozen? ⟨g,4,none⟩=false∧w.frozen? ⟨g,5,none⟩=false :=
 ⟨h.cell 0,h.cell 1,h.cell 2,h.cell 3,h.cell 4,h.cell 5,h.frozen 0,h.frozen 1,h.frozen 2,h.frozen 3,h.frozen 4,h.frozen 5⟩
theorem Blk.put6 {w : World} {g : Nat} {c0 c1 c2 c3 c4 c5 : Value} {t : TypeId} (h : Blk w g #[c0,c1,c2,c3,c4,c5] t) (x0 x1 x2 x3 x4 x5 : Value) : Blk ((((((w.setCell ⟨g,0,none⟩ x0).setCell ⟨g,1,none⟩ x1).setCell ⟨g,2,none⟩ x2).setCell ⟨g,3,none⟩ x3).setCell ⟨g,4,none⟩ x4).setCell ⟨g,5,none⟩ x5) g #[x0,x1,x2,x3,x4,x5] t := by
 have h0 : Blk (w.setCell ⟨g,0,none⟩ x0) g #[x0,c1,c2,c3,c4,c5] t := h.set 0 x0
 have h1 : Blk ((w.setCell ⟨g,0,none⟩ x0).setCell ⟨g,1,none⟩ x1) g #[x0,x1,c2,c3,c4,c5] t := h0.set 1 x1
 have h2 : Blk (((w.setCell ⟨g,0,none⟩ x0).setCell ⟨g,1,none⟩ x1).setCell ⟨g,2,none⟩ x2) g #[x0,x1,x2,c3,c4,c5] t := h1.set 2 x2
 have h3 : Blk ((((w.setCell ⟨g,0,none⟩ x0).setCell ⟨g,1,none⟩ x1).setCell ⟨g,2,none⟩ x2).setCell ⟨g,3,none⟩ x3) g #[x0,x1,x2,x3,c4,c5] t := h2.set 3 x3
 have h4 : Blk (((((w.setCell ⟨g,0,none⟩ x0).setCell ⟨g,1,none⟩ x1).setCell ⟨g,2,none⟩ x2).setCell ⟨g,3,none⟩ x3).setCell ⟨g,4,none⟩ x4) g #[x0,x1,x2,x3,x4,c5] t := h3.set 4 x4
 have h5 : Blk ((((((w.setCell ⟨g,0,none⟩ x0).setCell ⟨g,1,none⟩ x1).setCell ⟨g,2,none⟩ x2).setCell ⟨g,3,none⟩ x3).setCell ⟨g,4,none⟩ x4).setCell ⟨g,5,none⟩ x5) g #[x0,x1,x2,x3,x4,x5] t := h4.set 5 x5
 exact h5
theorem Blk.off6 {w : World} {g g' t : Nat} {cs : Array Value} (h : Blk w g' cs t) (hne : g ≠ g') (x0 x1 x2 x3 x4 x5 : Value) : Blk ((((((w.setCell ⟨g,0,none⟩ x0).setCell ⟨g,1,none⟩ x1).setCell ⟨g,2,none⟩ x2).setCell ⟨g,3,none⟩ x3).setCell ⟨g,4,none⟩ x4).setCell ⟨g,5,none⟩ x5) g' cs t := ((((((h.other hne 0 x0).other hne 1 x1).other hne 2 x2).other hne 3 x3).other hne 4 x4).other hne 5 x5)
theorem Below.put6 {B g : Nat} {a w : World} (h : Below B a w) (hB : B≤g) (x0 x1 x2 x3 x4 x5 : Value) : Below B a ((((((w.setCell ⟨g,0,none⟩ x0).setCell ⟨g,1,none⟩ x1).setCell ⟨g,2,none⟩ x2).setCell ⟨g,3,none⟩ x3).setCell ⟨g,4,none⟩ x4).setCell ⟨g,5,none⟩ x5) := (Below.set (Below.set (Below.set (Below.set (Below.set (Below.set h hB 0 x0) hB 1 x1) hB 2 x2) hB 3 x3) hB 4 x4) hB 5 x5)
theorem Stays.put6 {w : World} {g t : Nat} {cs : Array Value} (h0 : Blk w g cs t) (a0 : cs.all Qm=true) (x0 x1 x2 x3 x4 x5 : Value) (k0 : Qm x0=true) (k1 : Qm x1=true) (k2 : Qm x2=true) (k3 : Qm x3=true) (k4 : Qm x4=true) (k5 : Qm x5=true) : Stays w ((((((w.setCell ⟨g,0,none⟩ x0).setCell ⟨g,1,none⟩ x1).setCell ⟨g,2,none⟩ x2).setCell ⟨g,3,none⟩ x3).setCell ⟨g,4,none⟩ x4).setCell ⟨g,5,none⟩ x5) := by
 have h1 := h0.set 0 x0
 have a1 := Xc a0 0 k0
 have h2 := h1.set 1 x1
 have a2 := Xc a1 1 k1
 have h3 := h2.set 2 x2
 have a3 := Xc a2 2 k2
 have h4 := h3.set 3 x3
 have a4 := Xc a3 3 k3
 have h5 := h4.set 4 x4
 have a5 := Xc a4 4 k4
 have h6 := h5.set 5 x5
 have a6 := Xc a5 5 k5
 exact ((((((Stays.set h0 a0 0 x0).trans (Stays.set h1 a1 1 x1)).trans (Stays.set h2 a2 2 x2)).trans (Stays.set h3 a3 3 x3)).trans (Stays.set h4 a4 4 x4)).trans (Stays.set h5 a5 5 x5))
theorem PN (w : World) (s0 : Array Value) (t0 : TypeId) :
  Below w.heap.size w (w.alloc (.cells s0 t0))∧Blk (w.alloc (.cells s0 t0)) (w.heap.size) s0 t0∧(w.alloc (.cells s0 t0)).heap.size=w.heap.size+1 := by
 have b0 : Blk (w.alloc (.cells s0 t0)) (w.heap.size) s0 t0 := by simpa using Blk.new w s0 t0
 exact ⟨(Qh w _),b0,by simp⟩
theorem boxes2 (w : World) (s0 s1 : Array Value) (t0 t1 : TypeId) :
  Below w.heap.size w ((w.alloc (.cells s0 t0)).alloc (.cells s1 t1))∧Blk ((w.alloc (.cells s0 t0)).alloc (.cells s1 t1)) (w.heap.size) s0 t0∧Blk ((w.alloc (.cells s0 t0)).alloc (.cells s1 t1)) (w.heap.size+1) s1 t1∧((w.alloc (.cells s0 t0)).alloc (.cells s1 t1)).heap.size=w.heap.size+1+1 := by
 have b0 : Blk (w.alloc (.cells s0 t0)) (w.heap.size) s0 t0 := by simpa using Blk.new w s0 t0
 have b1 : Blk ((w.alloc (.cells s0 t0)).alloc (.cells s1 t1)) (w.heap.size+1) s1 t1 := by simpa using Blk.new (w.alloc (.cells s0 t0)) s1 t1
 have b0 := b0.below (Qh (w.alloc (.cells s0 t0)) (.cells s1 t1)) (by simp; try omega)
 exact ⟨((Qh w _).alloc (by simp; try omega) _),b0,b1,by simp⟩
theorem Lu (w : World) (s0 s1 s2 : Array Value) (t0 t1 t2 : TypeId) :
  Below w.heap.size w (((w.alloc (.cells s0 t0)).alloc (.cells s1 t1)).alloc (.cells s2 t2))∧Blk (((w.alloc (.cells s0 t0)).alloc (.cells s1 t1)).alloc (.cells s2 t2)) (w.heap.size) s0 t0∧Blk (((w.alloc (.cells s0 t0)).alloc (.cells s1 t1)).alloc (.cells s2 t2)) (w.heap.size+1) s1 t1∧Blk (((w.alloc (.cells s0 t0)).alloc (.cells s1 t1)).alloc (.cells s2 t2)) (w.heap.size+1+1) s2 t2∧(((w.alloc (.cells s0 t0)).alloc (.cells s1 t1)).alloc (.cells s2 t2)).heap.size=w.heap.size+1+1+1 := by
 have b0 : Blk (w.alloc (.cells s0 t0)) (w.heap.size) s0 t0 := by simpa using Blk.new w s0 t0
 have b1 : Blk ((w.alloc (.cells s0 t0)).alloc (.cells s1 t1)) (w.heap.size+1) s1 t1 := by simpa using Blk.new (w.alloc (.cells s0 t0)) s1 t1
 have b0 := b0.below (Qh (w.alloc (.cells s0 t0)) (.cells s1 t1)) (by simp; try omega)
 have b2 : Blk (((w.alloc (.cells s0 t0)).alloc (.cells s1 t1)).alloc (.cells s2 t2)) (w.heap.size+1+1) s2 t2 := by simpa using Blk.new ((w.alloc (.cells s0 t0)).alloc (.cells s1 t1)) s2 t2
 have b0 := b0.below (Qh ((w.alloc (.cells s0 t0)).alloc (.cells s1 t1)) (.cells s2 t2)) (by simp; try omega)
 have b1 := b1.below (Qh ((w.alloc (.cells s0 t0)).alloc (.cells s1 t1)) (.cells s2 t2)) (by simp; try omega)
 exact ⟨(((Qh w _).alloc (by simp; try omega) _).alloc (by simp; try omega) _),b0,b1,b2,by simp⟩
end Go.Proofs.YtnhplfjlhdpgoaaGreatDoor
/- BK -/
namespace Go.Proofs.YtnhplfjlhdpgoaaGreatDoor
open Go.RowKit Cx
attribute [local go_sem ↓] Go.wp_at_zero Go.wp_at_succ
structure At2 (w : World) (g o : Nat) : Prop where
 c0 : ∃ x,w.cell? ⟨g,o,none⟩=some x
 c1 : ∃ x,w.cell? ⟨g,o+1,none⟩=some x
 f0 : w.frozen? ⟨g,o,none⟩=false
 f1 : w.frozen? ⟨g,o+1,none⟩=false
 lt : g < w.heap.size
theorem Ic {w w' : World} {p : Addr} (hb : Below w.heap.size w w') (h : p.block < w.heap.size) : w'.frozen? p=w.frozen? p := by
 simp [World.frozen?,hb.block p.block h]
theorem At2.below {w w' : World} {g o : Nat} (h : At2 w g o) (hb : Below w.heap.size w w') : At2 w' g o := by
 obtain ⟨⟨x0,h0⟩,⟨x1,h1⟩,f0,f1,hl⟩ := h
 refine ⟨⟨x0,by rw [hb.cell (p := ⟨g,o,none⟩) hl]; exact h0⟩,⟨x1,by rw [hb.cell (p := ⟨g,o+1,none⟩) hl]; exact h1⟩,?_,?_,Nat.lt_of_lt_of_le hl hb.size⟩
 ·rw [Ic hb (p := ⟨g,o,none⟩) hl]; exact f0
 ·rw [Ic hb (p := ⟨g,o+1,none⟩) hl]; exact f1
def IV (w : World) (p : Value) (z : Int) : Prop :=
 ∃ g o ao n c,p=.pointer (some ⟨g,o,none⟩)∧w.cell? ⟨g,o,none⟩=some (.bool (decide (z < 0)))∧w.cell? ⟨g,o+1,none⟩=some (.slice ao n c)∧NatN w (.slice ao n c) z.natAbs∧g < w.heap.size
theorem IV.below {w w' : World} {p : Value} {z : Int} (h : IV w p z) (hb : Below w.heap.size w w') : IV w' p z := by
 obtain ⟨g,o,ao,n,c,rfl,h0,h1,h2,hl⟩ := h
 exact ⟨g,o,ao,n,c,rfl,(hb.cell (p := ⟨g,o,none⟩) hl).trans h0,(hb.cell (p := ⟨g,o+1,none⟩) hl).trans h1,h2.below hb,Nat.lt_of_lt_of_le hl hb.size⟩
def Gave (w : World) (g o : Nat) (z : Int) (w' : World) : Prop :=
 ∃ w1 ao n c,Below w.heap.size w w1∧w'=(w1.setCell ⟨g,o+1,none⟩ (.slice ao n c)).setCell ⟨g,o,none⟩ (.bool (decide (z < 0)))∧NatN w1 (.slice ao n c) z.natAbs
theorem Xd {w : World} {g o n : Nat} {ao : Option Addr} {c : Nat} (neg : Bool) (h : At2 w g o) :
  Calls Tryz.prog 54 #[.pointer (some ⟨g,o,none⟩),.bool neg,.slice ao n c] w fun e w' => e=.returned (.pointer (some ⟨g,o,none⟩))∧w'=(w.setCell ⟨g,o+1,none⟩ (.slice ao n c)).setCell ⟨g,o,none⟩ (.bool (neg && decide (0 < n))) := by
 obtain ⟨⟨x0,h0⟩,⟨x1,h1⟩,f0,f1,hl⟩ := h
 have k0 : ∀ v,(w.setCell ⟨g,o+1,none⟩ v).cell? ⟨g,o,none⟩=some x0 := fun v => by
  rw [World.cell?_setCell_other _ _ _ _ (by simp)]; exact h0
 have k1 : ∀ v,(w.setCell ⟨g,o+1,none⟩ v).frozen? ⟨g,o,none⟩=false := fun v => by
  simpa using f0
 cases neg
 ·go_enter Tryz.func54,Tryz.ntmps54
  go_wp2
  go_ret
  exact ⟨rfl,rfl⟩
 ·go_enter Tryz.func54,Tryz.ntmps54
  go_wp2
  go_ret
  exact ⟨rfl,by simp⟩
theorem Ri {n : Nat} : decide ((n : Int) < 0)=false := by simp
theorem UU {w : World} {g o : Nat} (x : Nat) (hx : x < 9223372036854775808) (h : At2 w g o) :
  Calls Tryz.prog 53 #[.pointer (some ⟨g,o,none⟩),.int .i64 x] w fun e w' => e=.returned (.pointer (some ⟨g,o,none⟩))∧Gave w g o x w' := by
 have H := Qb h
 clear h
 go_enter Tryz.func53,Tryz.ntmps53
 go_wp2_with fail
 refine (ZL x w (by omega)).mono ?_
 rintro e w1 ⟨hb1,v1,rfl,hv1⟩
 obtain ⟨ao,n,c,rfl,hn,_,_⟩ := Zf hv1
 have HV := Qb hv1
 have HB := Qb hb1
 clear hv1 hb1
 go_wp2_with fail
 refine (Xd (n := n) (ao := ao) (c := c) false (H.out.below HB.out)).mono ?_
 rintro e w2 ⟨rfl,rfl⟩
 go_wp2
 go_ret
 exact ⟨rfl,w1,ao,n,c,HB.out,by rw [Ri],HV.out⟩
def YU (w : World) (g : Nat) : Prop := ∃ cs t,Blk w g cs t∧cs.all Qm=true
theorem NatN.two {w : World} {v : Value} {n g i j : Nat} {x y : Value} (h : NatN w v n) (hh : YU w g) (hx : Qm x=true) : NatN ((w.setCell ⟨g,i,none⟩ x).setCell ⟨g,j,none⟩ y) v n := by
 obtain ⟨cs,t,hb,hno⟩ := hh
 exact (h.other hb (Yv hno) i x).other (hb.set i x) (Yv (Xc hno i hx)) j y
def Own2 (w : World) (g : Nat) (z : Int) : Prop :=
 ∃ ao n c,Blk w g #[.bool (decide (z < 0)),.slice ao n c] 33∧NatN w (.slice ao n c) z.natAbs
theorem Own2.below {w w' : World} {g : Nat} {z : Int} (h : Own2 w g z) (hb : Below w.heap.size w w') : Own2 w' g z := by
 obtain ⟨ao,n,c,h0,h1⟩ := h
 exact ⟨ao,n,c,h0.below hb h0.lt,h1.below hb⟩
theorem Own2.iv {w : World} {g : Nat} {z : Int} (h : Own2 w g z) : IV w (.pointer (some ⟨g,0,none⟩)) z := by
 obtain ⟨ao,n,c,h0,h1⟩ := h
 exact ⟨g,0,ao,n,c,rfl,h0.cell 0,h0.cell 1,h1,h0.lt⟩
theorem At2.blk {w : World} {g : Nat} {x0 x1 : Value} {t : TypeId} (h : Blk w g #[x0,x1] t) : At2 w g 0 := ⟨⟨_,h.cell 0⟩,⟨_,h.cell 1⟩,h.frozen 0,h.frozen 1,h.lt⟩
theorem Gave.own {w w' : World} {g : Nat} {z : Int} {b : Bool} {a : Option Addr} {n c : Nat} (h : Gave w g 0 z w') (hb : Blk w g #[.bool b,.slice a n c] 33) : Own2 w' g z∧∀ B,B≤g→B≤w.heap.size→Below B w w' := by
 obtain ⟨w1,ao,n',c',hbl,rfl,hn⟩ := h
 have hb1 := hb.below hbl hb.lt
 refine ⟨⟨ao,n',c',?_,hn.two ⟨_,_,hb1,by simp [Qm]⟩ rfl⟩,fun B h1 h2 => ?_⟩
 ·have := (hb1.set 1 (.slice ao n' c')).set 0 (.bool (decide (z < 0)))
  simpa using this
 ·exact Below.set (Below.set (hbl.mono h2) h1 _ _) h1 _ _
theorem Jq (x : Nat) (hx : x < 9223372036854775808) (w : World) :
  Calls Tryz.prog 21 #[.int .i64 x] w fun e w' => Below w.heap.size w w'∧∃ g,e=.returned (.pointer (some ⟨g,0,none⟩))∧w.heap.size≤g∧Own2 w' g x := by
 have hk := Blk.new w #[.bool false,.slice none 0 0] 33
 have hb := Qh w (.cells #[.bool false,.slice none 0 0] 33)
 go_enter Tryz.func21,Tryz.ntmps21
 go_wp2_with fail
 refine (UU x hx (At2.blk hk)).mono ?_
 rintro e w2 ⟨rfl,hg⟩
 obtain ⟨ho,hbl⟩ := hg.own hk
 have HO := Qb ho
 have HB := Qb (hb.trans (hbl _ (Nat.le_refl _) hb.size))
 clear ho hbl hg hk hb
 go_wp2
 go_ret
 exact ⟨HB.out,w.heap.size,rfl,Nat.le_refl _,HO.out⟩
theorem Wo {z : Int} {n : Nat} (b : Bool) (h : n=0 ↔ z.natAbs=0) (hb : z ≠ 0→b=decide (z < 0)) : (b && decide (0 < n))=decide (z < 0) := by
 by_cases h0 : z=0
 ·have : n=0 := h.2 (by omega)
  subst this
  subst h0
  simp
 ·have : 0 < n := by omega
  rw [hb h0]
  simp [this]
def YX (p : Value) (g : Nat) : Prop := ∀ g1 o1 t,p=.pointer (some ⟨g1,o1,t⟩)→g1 ≠ g
theorem Jw {w : World} {g g' i j k : Nat} {v0 v1 : Value} (hne : g' ≠ g) : ((w.setCell ⟨g,i,none⟩ v0).setCell ⟨g,j,none⟩ v1).cell? ⟨g',k,none⟩=w.cell? ⟨g',k,none⟩ := by
 have h : ∀ (w : World) (i : Nat) (x : Value),(w.setCell ⟨g,i,none⟩ x).cell? ⟨g',k,none⟩=w.cell? ⟨g',k,none⟩ := fun w i x => World.cell?_setCell_other _ _ _ _ (by first | exact fun e => hne (congrArg Addr.block e) | exact fun e => hne (congrArg Addr.block e).symm)
 rw [h,h]
theorem LU {x y : Int} (h : x*y ≠ 0) : (!decide (x < 0) == decide (y < 0))=decide (x*y < 0) := by
 have hx : x ≠ 0 := fun e => h (by rw [e,Int.zero_mul])
 have hy : y ≠ 0 := fun e => h (by rw [e,Int.mul_zero])
 rcases Int.lt_or_lt_of_ne hx with h1 | h1 <;> rcases Int.lt_or_lt_of_ne hy with h2 | h2
 ·have := Int.mul_pos_of_neg_of_neg h1 h2
  simp [h1,h2,Int.not_lt.2 (Int.le_of_lt this)]
 ·have := Int.mul_neg_of_neg_of_pos h1 h2
  simp [h1,Int.not_lt.2 (Int.le_of_lt h2),this]
 ·have := Int.mul_neg_of_pos_of_neg h1 h2
  simp [h2,Int.not_lt.2 (Int.le_of_lt h1),this]
 ·have := Int.mul_pos h1 h2
  simp [Int.not_lt.2 (Int.le_of_lt h1),Int.not_lt.2 (Int.le_of_lt h2),Int.not_lt.2 (Int.le_of_lt this)]
theorem IA {w : World} {g o : Nat} {px py : Value} {x y : Int} (h : At2 w g o) (hx : IV w px x) (hy : IV w py y) (ax : YX px g) (ay : YX py g) (sx : Small x.natAbs) (sy : Small y.natAbs) :
  Calls Tryz.prog 22 #[.pointer (some ⟨g,o,none⟩),px,py] w fun e w' => e=.returned (.pointer (some ⟨g,o,none⟩))∧Gave w g o (x*y) w' := by
 obtain ⟨g1,o1,a1,n1,c1,rfl,x0,x1,x2,xl⟩ := hx
 obtain ⟨g2,o2,a2,n2,c2,rfl,y0,y1,y2,yl⟩ := hy
 have H := Qb h
 have HX := Qb x2
 have HY := Qb y2
 have SX := Qb sx
 have SY := Qb sy
 have HS : Hid (∀ w',Below w.heap.size w w'→w'.cell? ⟨g1,o1,none⟩=some (.bool (decide (x < 0)))∧w'.cell? ⟨g1,o1+1,none⟩=some (.slice a1 n1 c1)∧w'.cell? ⟨g2,o2,none⟩=some (.bool (decide (y < 0)))∧w'.cell? ⟨g2,o2+1,none⟩=some (.slice a2 n2 c2)) := fun w' hb => ⟨(hb.cell (p := ⟨g1,o1,none⟩) xl).trans x0,(hb.cell (p := ⟨g1,o1+1,none⟩) xl).trans x1,(hb.cell (p := ⟨g2,o2,none⟩) yl).trans y0,(hb.cell (p := ⟨g2,o2+1,none⟩) yl).trans y1⟩
 have HSS : Hid (∀ w',Below w.heap.size w w'→∀ v0 v1 : Value,((w'.setCell ⟨g,o+1,none⟩ v0).setCell ⟨g,o,none⟩ v1).cell? ⟨g1,o1,none⟩=some (.bool (decide (x < 0)))∧((w'.setCell ⟨g,o+1,none⟩ v0).setCell ⟨g,o,none⟩ v1).cell? ⟨g1,o1+1,none⟩=some (.slice a1 n1 c1)∧((w'.setCell ⟨g,o+1,none⟩ v0).setCell ⟨g,o,none⟩ v1).cell? ⟨g2,o2,none⟩=some (.bool (decide (y < 0)))∧((w'.setCell ⟨g,o+1,none⟩ v0).setCell ⟨g,o,none⟩ v1).cell? ⟨g2,o2+1,none⟩=some (.slice a2 n2 c2)) := fun w' hb v0 v1 => by
  have h1 := ax g1 o1 none rfl
  have h2 := ay g2 o2 none rfl
  obtain ⟨e1,e2,e3,e4⟩ := HS.out w' hb
  exact ⟨(Jw h1).trans e1,(Jw h1).trans e2,(Jw h2).trans e3,(Jw h2).trans e4⟩
 clear h x2 y2 sx sy xl yl ax ay
 go_enter Tryz.func22,Tryz.ntmps22
 go_wp2_with fail
 go_region_held3 (fun w' => w'.cell? ⟨g1,o1,none⟩=some (.bool (decide (x < 0)))∧w'.cell? ⟨g1,o1+1,none⟩=some (.slice a1 n1 c1)∧w'.cell? ⟨g2,o2,none⟩=some (.bool (decide (y < 0)))∧w'.cell? ⟨g2,o2+1,none⟩=some (.slice a2 n2 c2)) (first | go_keep | exact hs1 | exact hkS)
  (first
   | (go_at_call 55; refine (OP (w := w.drew) (HX.out.below (Below.drew (Below.refl _ _))) (HY.out.below (Below.drew (Below.refl _ _))) SX.out SY.out).mono ?_; rintro e w1 ⟨hb1,v1,rfl,hv1⟩; obtain ⟨ao,n,c,rfl,hn,hnb,hnz⟩ := Zf hv1; have hbl1 : Below w.heap.size w w1 := (Below.drew (Below.refl _ w)).trans hb1; have hs1 := HS.out w1 hbl1)
   | (go_at_call 54; refine (Xd (n := n) (ao := ao) (c := c) _ (H.out.below hbl1)).mono ?_; rintro e w2 ⟨rfl,rfl⟩; have hkS := HSS.out w1 hbl1 (.slice ao n c) (.bool ((!decide (x < 0) == decide (y < 0)) && decide (0 < n))))
   )
 all_goals
  go_wp2
  go_ret
  refine ⟨rfl,w1,ao,n,c,hbl1,?_,by rw [Int.natAbs_mul]; exact hv1⟩
  rw [Wo (z := x*y) _ (by rw [Int.natAbs_mul]; exact hnz) LU]
end Go.Proofs.YtnhplfjlhdpgoaaGreatDoor
/- BL -/
namespace Go.Proofs.YtnhplfjlhdpgoaaGreatDoor
open Go.RowKit Cx
attribute [local go_sem ↓] Go.wp_at_zero Go.wp_at_succ
theorem Ys {w : World} {g o : Nat} {px : Value} {x : Int} (h : At2 w g o) (hx : IV w px x) (ax : YX px g) (sx : Small x.natAbs) :
  Calls Tryz.prog 41 #[.pointer (some ⟨g,o,none⟩),px] w fun e w' => e=.returned (.pointer (some ⟨g,o,none⟩))∧Gave w g o x w' := by
 obtain ⟨g1,o1,a1,n1,c1,rfl,x0,x1,x2,xl⟩ := hx
 have H := Qb h
 have HX := Qb x2
 have SX := Qb sx
 have HS : Hid (∀ w',Below w.heap.size w w'→w'.cell? ⟨g1,o1,none⟩=some (.bool (decide (x < 0)))∧w'.cell? ⟨g1,o1+1,none⟩=some (.slice a1 n1 c1)) := fun w' hb => ⟨(hb.cell (p := ⟨g1,o1,none⟩) xl).trans x0,(hb.cell (p := ⟨g1,o1+1,none⟩) xl).trans x1⟩
 have HSS : Hid (∀ w',Below w.heap.size w w'→∀ v0 v1 : Value,((w'.setCell ⟨g,o+1,none⟩ v0).setCell ⟨g,o,none⟩ v1).cell? ⟨g1,o1,none⟩=some (.bool (decide (x < 0)))∧((w'.setCell ⟨g,o+1,none⟩ v0).setCell ⟨g,o,none⟩ v1).cell? ⟨g1,o1+1,none⟩=some (.slice a1 n1 c1)) := fun w' hb v0 v1 => by
  have h1 := ax g1 o1 none rfl
  obtain ⟨e1,e2⟩ := HS.out w' hb
  exact ⟨(Jw h1).trans e1,(Jw h1).trans e2⟩
 clear h x2 sx xl ax
 go_enter Tryz.func41,Tryz.ntmps41
 go_wp2_with fail
 go_region_held3 (fun w' => w'.cell? ⟨g1,o1,none⟩=some (.bool (decide (x < 0)))∧w'.cell? ⟨g1,o1+1,none⟩=some (.slice a1 n1 c1)) (first | go_keep | exact hs1 | exact hkS)
  (first
   | (go_at_call 96; refine (Xa (w := w.drew) (HX.out.below (Below.drew (Below.refl _ _))) SX.out).mono ?_; rintro e w1 ⟨hb1,v1,rfl,hv1⟩; obtain ⟨ao,n,c,rfl,hn,hnb,hnz⟩ := Zf hv1; have hbl1 : Below w.heap.size w w1 := (Below.drew (Below.refl _ w)).trans hb1; have hs1 := HS.out w1 hbl1)
   | (go_at_call 54; refine (Xd (n := n) (ao := ao) (c := c) _ (H.out.below hbl1)).mono ?_; rintro e w2 ⟨rfl,rfl⟩; have hkS := HSS.out w1 hbl1 (.slice ao n c) (.bool (decide (x < 0) && decide (0 < n))))
   )
 all_goals
  go_wp2
  go_ret
  refine ⟨rfl,w1,ao,n,c,hbl1,?_,hv1⟩
  rw [Wo (z := x) _ hnz (fun _ => rfl)]
theorem Da {w : World} {va vb : Value} {a b : Nat} (s : Bool) (ha : NatN w va a) (hb : NatN w vb b) (sa : Small a) (sb : Small b) :
  Calls Tryz.prog 134 #[.bool s,va,.bool s,vb] w fun e w' => Below w.heap.size w w'∧∃ v,e=.returned (.tuple #[.bool s,v])∧NatN w' v (a+b) := by
 have HA := Qb ha
 have HB := Qb hb
 have SA := Qb sa
 have SB := Qb sb
 clear ha hb sa sb
 have hs : (s == s)=true := by simp
 go_enter Tryz.func134,Tryz.ntmps134
 go_wp2_with fail
 refine (Il HA.out HB.out SA.out SB.out).mono ?_
 rintro e w1 ⟨hb1,v1,rfl,hv1⟩
 go_wp2
 go_ret2
 exact ⟨hb1,v1,rfl,hv1⟩
theorem PY {w : World} {va vb : Value} {a b : Nat} (s : Bool) (ha : NatN w va a) (hb : NatN w vb b) (sa : Small a) (sb : Small b) :
  Calls Tryz.prog 134 #[.bool s,va,.bool (!s),vb] w fun e w' => Below w.heap.size w w'∧((b≤a∧∃ v,e=.returned (.tuple #[.bool s,v])∧NatN w' v (a - b)) ∨ (a < b∧∃ v,e=.returned (.tuple #[.bool (!s),v])∧NatN w' v (b - a))) := by
 have HC := Qb (Xt ha hb sa sb)
 have HA := Qb ha
 have HB := Qb hb
 have SA := Qb sa
 have SB := Qb sb
 clear ha hb sa sb
 have hs : (s == !s)=false := by cases s <;> rfl
 go_enter Tryz.func134,Tryz.ntmps134
 go_wp2_with fail
 refine Calls.mono HC.out ?_
 rintro e w1 ⟨hb1,c,rfl,hc1,hc2⟩
 have HA1 := Qb (HA.out.below hb1)
 have HB1 := Qb (HB.out.below hb1)
 by_cases hlt : a < b
 ·have hc : c < 0 := hc1.2 hlt
  clear hc1 hc2
  go_wp2_with fail
  refine (Ij HB1.out HA1.out SB.out (Nat.le_of_lt hlt)).mono ?_
  rintro e w2 ⟨hb2,v2,rfl,hv2⟩
  go_wp2
  go_ret2
  exact ⟨hb1.trans (hb2.mono hb1.size),Or.inr ⟨hlt,v2,rfl,hv2⟩⟩
 ·have hc : 0≤c := Int.not_lt.1 (fun h => hlt (hc1.1 h))
  clear hc1 hc2
  go_wp2_with fail
  refine (Ij HA1.out HB1.out SA.out (Nat.le_of_not_lt hlt)).mono ?_
  rintro e w2 ⟨hb2,v2,rfl,hv2⟩
  go_wp2
  go_ret2
  exact ⟨hb1.trans (hb2.mono hb1.size),Or.inl ⟨Nat.le_of_not_lt hlt,v2,rfl,hv2⟩⟩
def sv (s : Bool) (a : Nat) : Int := if s then -(a : Int) else a
theorem sv_abs (x : Int) : sv (decide (x < 0)) x.natAbs=x := by
 unfold sv
 by_cases h : x < 0
 ·rw [if_pos (decide_eq_true h)]; omega
 ·rw [if_neg (by simpa using h)]; omega
theorem sv_not (x : Int) : sv (!decide (x < 0)) x.natAbs=-x := by
 unfold sv
 by_cases h : x < 0
 ·rw [if_neg (by simpa using h)]; omega
 ·rw [if_pos (by simpa using h)]; omega
theorem Pw (s : Bool) (a : Nat) : (sv s a).natAbs=a := by
 cases s <;> simp [sv]
theorem sv_neg {s : Bool} {a : Nat} (h : sv s a ≠ 0) : s=decide (sv s a < 0) := by
 cases s
 ·simp [sv]
 ·simp [sv] at h ⊢
  omega
theorem Fo {w : World} {va vb : Value} {a b : Nat} (s t : Bool) (ha : NatN w va a) (hb : NatN w vb b) (sa : Small a) (sb : Small b) :
  Calls Tryz.prog 134 #[.bool s,va,.bool t,vb] w fun e w' => Below w.heap.size w w'∧∃ r v n,e=.returned (.tuple #[.bool r,v])∧NatN w' v n∧sv r n=sv s a+sv t b := by
 by_cases h : t=s
 ·subst h
  refine (Da t ha hb sa sb).mono ?_
  rintro e w' ⟨hb,v,rfl,hv⟩
  refine ⟨hb,t,v,_,rfl,hv,?_⟩
  cases t <;> simp [sv] <;> omega
 ·have ht : t=!s := by cases s <;> cases t <;> simp_all
  subst ht
  refine (PY s ha hb sa sb).mono ?_
  rintro e w' ⟨hb,⟨hle,v,rfl,hv⟩ | ⟨hlt,v,rfl,hv⟩⟩
  ·refine ⟨hb,s,v,_,rfl,hv,?_⟩
   cases s <;> simp [sv] <;> omega
  ·refine ⟨hb,!s,v,_,rfl,hv,?_⟩
   cases s <;> simp [sv] <;> omega
theorem DL {w : World} {g o : Nat} {px py : Value} {x y : Int} (h : At2 w g o) (hx : IV w px x) (hy : IV w py y) (ax : YX px g) (ay : YX py g) (sx : Small x.natAbs) (sy : Small y.natAbs) :
  Calls Tryz.prog 95 #[.pointer (some ⟨g,o,none⟩),px,py] w fun e w' => e=.returned (.pointer (some ⟨g,o,none⟩))∧Gave w g o (x - y) w' := by
 obtain ⟨g1,o1,a1,n1,c1,rfl,x0,x1,x2,xl⟩ := hx
 obtain ⟨g2,o2,a2,n2,c2,rfl,y0,y1,y2,yl⟩ := hy
 have H := Qb h
 have HX := Qb x2
 have HY := Qb y2
 have SX := Qb sx
 have SY := Qb sy
 have HS : Hid (∀ w',Below w.heap.size w w'→w'.cell? ⟨g1,o1,none⟩=some (.bool (decide (x < 0)))∧w'.cell? ⟨g1,o1+1,none⟩=some (.slice a1 n1 c1)∧w'.cell? ⟨g2,o2,none⟩=some (.bool (decide (y < 0)))∧w'.cell? ⟨g2,o2+1,none⟩=some (.slice a2 n2 c2)) := fun w' hb => ⟨(hb.cell (p := ⟨g1,o1,none⟩) xl).trans x0,(hb.cell (p := ⟨g1,o1+1,none⟩) xl).trans x1,(hb.cell (p := ⟨g2,o2,none⟩) yl).trans y0,(hb.cell (p := ⟨g2,o2+1,none⟩) yl).trans y1⟩
 have HSS : Hid (∀ w',Below w.heap.size w w'→∀ v0 v1 : Value,((w'.setCell ⟨g,o+1,none⟩ v0).setCell ⟨g,o,none⟩ v1).cell? ⟨g1,o1,none⟩=some (.bool (decide (x < 0)))∧((w'.setCell ⟨g,o+1,none⟩ v0).setCell ⟨g,o,none⟩ v1).cell? ⟨g1,o1+1,none⟩=some (.slice a1 n1 c1)∧((w'.setCell ⟨g,o+1,none⟩ v0).setCell ⟨g,o,none⟩ v1).cell? ⟨g2,o2,none⟩=some (.bool (decide (y < 0)))∧((w'.setCell ⟨g,o+1,none⟩ v0).setCell ⟨g,o,none⟩ v1).cell? ⟨g2,o2+1,none⟩=some (.slice a2 n2 c2)) := fun w' hb v0 v1 => by
  have h1 := ax g1 o1 none rfl
  have h2 := ay g2 o2 none rfl
  obtain ⟨e1,e2,e3,e4⟩ := HS.out w' hb
  exact ⟨(Jw h1).trans e1,(Jw h1).trans e2,(Jw h2).trans e3,(Jw h2).trans e4⟩
 clear h x2 y2 sx sy xl yl ax ay
 go_enter Tryz.func95,Tryz.ntmps95
 go_wp2_with fail
 go_region_held3 (fun w' => w'.cell? ⟨g1,o1,none⟩=some (.bool (decide (x < 0)))∧w'.cell? ⟨g1,o1+1,none⟩=some (.slice a1 n1 c1)∧w'.cell? ⟨g2,o2,none⟩=some (.bool (decide (y < 0)))∧w'.cell? ⟨g2,o2+1,none⟩=some (.slice a2 n2 c2)) (first | go_keep | exact hs1 | exact hkS)
  (first
   | (go_at_call 134; refine (Fo (w := w.drew) (decide (x < 0)) (!decide (y < 0)) (HX.out.below (Below.drew (Below.refl _ _))) (HY.out.below (Below.drew (Below.refl _ _))) SX.out SY.out).mono ?_; rintro e w1 ⟨hb1,r,v1,k,rfl,hv1,hsv⟩; obtain ⟨ao,n,c,rfl,hn,hnb,hnz⟩ := Zf hv1; have hbl1 : Below w.heap.size w w1 := (Below.drew (Below.refl _ w)).trans hb1; have hs1 := HS.out w1 hbl1; rw [sv_abs,sv_not] at hsv)
   | (go_at_call 54; refine (Xd (n := n) (ao := ao) (c := c) r (H.out.below hbl1)).mono ?_; rintro e w2 ⟨rfl,rfl⟩; have hkS := HSS.out w1 hbl1 (.slice ao n c) (.bool (r && decide (0 < n))))
   )
 all_goals
  go_wp2
  go_ret
  have hz : sv r k=x - y := by rw [hsv]; try omega
  refine ⟨rfl,w1,ao,n,c,hbl1,?_,by rw [← hz,Pw]; exact hv1⟩
  rw [← hz,Wo (z := sv r k) r (by rw [Pw]; exact hnz) sv_neg]
end Go.Proofs.YtnhplfjlhdpgoaaGreatDoor
