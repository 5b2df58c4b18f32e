/- Part 6 of the walks and of the mathematics under them: TC TD TE TF TG TH WG QSD MathX WK WL BA BB BC BD BE BF BG BH. -/
import Derived.Test.YtgkjeoeliehihaaGreatDoorA5
import Derived.Test.YtgkjeoeliehihaaGreatDoorASh
import Derived.Lib.IndexLaws
import Derived.Lib.ItoaMem
import Derived.Lib.OthersKept
import Derived.Test.YtgkjeoeliehihaaGreatDoorA2
import Derived.Test.YtgkjeoeliehihaaGreatDoorA3
import Derived.Deep.AppendSrc
import Derived.Deep.DeepBigQuietO
set_option maxHeartbeats 16000000
set_option maxRecDepth 100000
/- TC -/
namespace Go.Proofs.YtgkjeoeliehihaaGreatDoor
open Go.RowKit Cx
theorem make_cap {t : TypeId} (ht : Tryz.prog.underlying t=some (.slice 148)) (n : Nat) (hn : n≤70368744177664) (w : World) :
  (Instr.makeSlice t (.int .i64 0) (.int .i64 n)).run Tryz.prog w=.ok (.slice (some ⟨w.heap.size,0,none⟩) 0 n) (w.alloc (.cells (rowOf (List.replicate n 0)) 148)) := by
 obtain ⟨i,hi,hz0,hz1,hz2⟩ := info_parts Tryz.infoU32
 have h := run_make (P := Tryz.prog) w t 148 i (.int .u32 0) ht hi hz0 .i64 .i64 0 n (by omega) (by omega) (by rw [hz2]; omega) (by omega)
 rw [hz1] at h
 rw [← made_row]
 simpa using h
theorem RowC.new (w : World) (n : Nat) : RowC (w.alloc (.cells (rowOf (List.replicate n 0)) 148)) w.heap.size n [] :=
 by
 refine ⟨rowOf (List.replicate n 0),?_,by simp [rowOf]⟩
 show (w.heap.push _)[w.heap.size]? = _
 simp [rowOf]
theorem bytes_take (u : ByteArray) (n : Nat) : (u.extract 0 n).data.toList=u.data.toList.take n := by
 simp [ByteArray.data_extract,Array.toList_extract,List.extract]
theorem bytes_drop (u : ByteArray) (n : Nat) : (u.extract n u.size).data.toList=u.data.toList.drop n := by
 simp [ByteArray.data_extract,Array.toList_extract,List.extract]
 exact List.take_of_length_le (by simp)
theorem read_round {V u : Nat} {l : List UInt8} {n r X : Nat} (hn : n≤l.length) (hu : u=l.length) (h9 : V=0 ∨ n=9) (hr : dv (l.take n)=r) (h : V*10 ^ u+dv l=X) : (V*1000000000+r)*10 ^ (u - n)+dv (l.drop n)=X := by
 have e := dv_append (l.take n) (l.drop n)
 rw [List.take_append_drop,List.length_drop,hr,← hu] at e
 rw [← h,e]
 rcases h9 with rfl | rfl
 ·simp
 ·have : 10 ^ u=1000000000*10 ^ (u - 9) := by
   rw [show (1000000000 : Nat)=10 ^ 9 from rfl,← Nat.pow_add]; congr 1; omega
  rw [this,Nat.add_mul,Nat.mul_assoc,Nat.add_assoc]
theorem dv_dropZero (l : List UInt8) : dv (l.dropWhile (· == 48))=dv l := by
 induction l with
 | nil => rfl
 | cons c l ih =>
  by_cases h : c=48
  ·subst h
   rw [List.dropWhile_cons_of_pos (by rfl),ih,dv_cons]
   simp
  ·rw [List.dropWhile_cons_of_neg (by simpa using h)]
theorem trimmed (s : ByteArray) (hd : s.data.toList.all dg=true) : ∃ t : ByteArray,t=⟨(Lib.trimLeftB s.data.toList 48).toArray⟩∧t.size≤s.size∧Hid (t.data.toList.all dg=true)∧Hid (dv t.data.toList=dv s.data.toList) := by
 refine ⟨_,rfl,?_,?_,?_⟩
 ·show (List.toArray (Lib.trimLeftB s.data.toList 48)).size≤s.data.size
  have := (List.dropWhile_sublist (l := s.data.toList) (· == 48)).length_le
  simpa [Lib.trimLeftB] using this
 ·show (Lib.trimLeftB s.data.toList 48).all dg=true
  exact List.all_eq_true.2 fun x hx => List.all_eq_true.1 hd x ((List.dropWhile_sublist _).subset hx)
 ·exact dv_dropZero _
theorem readNat_calls (s : ByteArray) (w : World) (hs : s.size≤4294967296) (hd : s.data.toList.all dg=true) :
  Calls Tryz.prog 80 #[.string s] w fun e w' => Below w.heap.size w w'∧∃ v,e=.returned v∧NatN w' v (dv s.data.toList) := by
 have HD := hideIt hd
 clear hd
 go_enter Tryz.func80,Tryz.ntmps80
 go_wp2_with fail
 refine (Tryz.strings_TrimLeft_one s 48 (by decide) w).mono ?_
 rintro e w1 ⟨rfl,hw1⟩
 subst hw1
 have HT : ∃ t : ByteArray,t=⟨(Lib.trimLeftB s.data.toList 48).toArray⟩∧t.size≤s.size∧Hid (t.data.toList.all dg=true)∧Hid (dv t.data.toList=dv s.data.toList) := trimmed s HD.out
 obtain ⟨t,et,htl,HD1,HV1⟩ := HT
 rw [← et]
 clear et
 have hmk := make_cap (t := 52) (by kernel_rfl) (t.size / 9+1) (by omega)
 have ec : ((t.size / 9+1 : Nat) : Int)=(t.size : Int) / 9+1 := by omega
 rw [ec] at hmk
 clear ec
 go_wp2
 go_loopg [0,3] t.size (fun k x y wr => ∃ (u : ByteArray) (l : List Nat) (g cap : Nat),x=.string u∧y=.slice (some ⟨g,0,none⟩) l.length cap∧u.size≤k∧l.length+u.size≤t.size∧u.data.toList.all dg=true∧RowC wr g cap l∧cap≤maxLen∧Lim l∧Trim l∧(val l=0 ∨ u.size % 9=0)∧val l*10 ^ u.size+dv u.data.toList=dv s.data.toList∧Below w1.heap.size w1 wr∧w1.heap.size≤g)
 case atStart =>
  exact ⟨t,[],w1.heap.size,t.size / 9+1,rfl,rfl,Nat.le_refl _,by simp,HD1.out,RowC.new _ _,by unfold maxLen; omega,fun x hx => by simp at hx,Or.inl rfl,Or.inl rfl,by rw [HV1.out]; simp [val],below_new _ _,Nat.le_refl _⟩
 case round =>
  obtain ⟨u,l,g,cap,rfl,rfl,huk,hlu,hdu,hrow,hcap,hlim,htr,hnine,hval,hbel,hg⟩ := hrel
  have H1 := hideIt hdu
  have H2 := hideIt hrow
  have H3 := hideIt hcap
  have H4 := hideIt hlim
  have H5 := hideIt htr
  have H6 := hideIt hnine
  have H7 := hideIt hval
  clear hdu hrow hcap hlim htr hnine hval
  by_cases h0 : u.size=0
  ·have hu : u=⟨#[]⟩ := by
    have : u.data=#[] := Array.eq_empty_of_size_eq_zero h0
    cases u; simp at this; simp [this]
   subst hu
   go_wp2
   go_ret
   refine ⟨hbel,_,rfl,l,?_,H5.out,?_⟩
   ·exact ⟨H4.out,Or.inr ⟨g,0,cap,rfl,H2.out.le,H3.out,H2.out.row.lt,H2.out.row.seg⟩⟩
   ·have := H7.out
    rw [show (⟨#[]⟩ : ByteArray).size=0 from rfl,Nat.pow_zero,Nat.mul_one] at this
    exact this
  ·have hne : u.toList.isEmpty=false := by
    rw [ByteArray.toList_eq,List.isEmpty_eq_false_iff]
    intro e
    have := congrArg List.length e
    simp at this
    exact h0 (by rw [this]; rfl)
   go_wp2_with fail
   have hn9 : (u.size - 1) % 9+1≤u.size := by omega
   have htk : (u.extract 0 ((u.size - 1) % 9+1)).data.toList=u.data.toList.take ((u.size - 1) % 9+1) := bytes_take u _
   have htd : (u.extract 0 ((u.size - 1) % 9+1)).data.toList.all dg=true := by
    rw [htk]; exact List.all_eq_true.2 fun x hx => List.all_eq_true.1 H1.out x (List.mem_of_mem_take hx)
   have hts : (u.extract 0 ((u.size - 1) % 9+1)).size≤9 := by rw [ByteArray.size_extract]; omega
   refine (readRun_calls _ wr hts htd).mono ?_
   rintro e w2 ⟨rfl,hw2⟩
   have hw3 := hw2.symm; subst hw3; clear hw2
   have hrl := dv_lt htd
   have hrl2 : dv (u.extract 0 ((u.size - 1) % 9+1)).data.toList < 1000000000 := by
    have h1 : (u.extract 0 ((u.size - 1) % 9+1)).data.toList.length≤9 := by simpa using hts
    exact Nat.lt_of_lt_of_le hrl (pow_nine h1)
   rw [htk] at hrl2
   rw [htk]
   clear hrl htd hts htk
   have HR := hideIt hrl2
   clear hrl2
   generalize er : dv (u.data.toList.take ((u.size - 1) % 9+1))=r at *
   have HE := hideIt er
   clear er
   go_wp2_with fail
   refine (appendRun_calls H2.out H4.out (by omega) H3.out HR.out).mono ?_
   rintro e w3 ⟨g',cap',l',rfl,hrow',hlim',htr',hval',hlen',hcap',hfr⟩
   obtain ⟨hb3,hg3⟩ := hfr w1.heap.size w1 hbel hg
   have K1 := hideIt hrow'
   have K2 := hideIt hlim'
   have K3 := hideIt htr'
   have K4 := hideIt hval'
   have K5 := hideIt hcap'
   clear hrow' hlim' htr' hval' hcap' hfr
   go_wp2
   have hsz : (u.extract ((u.size - 1) % 9+1) u.size).size=u.size - ((u.size - 1) % 9+1) := by rw [ByteArray.size_extract]; omega
   go_roundg (u.size - ((u.size - 1) % 9+1))
   case measure => omega
   case rel =>
    refine ⟨_,l',g',cap',rfl,rfl,by rw [hsz]; exact Nat.le_refl _,by rw [hsz]; omega,?_,K1.out,K5.out,K2.out,K3.out H5.out,Or.inr (by rw [hsz]; omega),?_,hb3,hg3⟩
    ·rw [bytes_drop]; exact List.all_eq_true.2 fun x hx => List.all_eq_true.1 H1.out x (List.mem_of_mem_drop hx)
    ·rw [bytes_drop,K4.out,hsz]
     exact read_round (by simpa using hn9) (by simp) (H6.out.imp_right fun h => by omega) HE.out H7.out
end Go.Proofs.YtgkjeoeliehihaaGreatDoor
/- TD -/
namespace Go.Proofs.YtgkjeoeliehihaaGreatDoor
open Go.RowKit Cx
theorem barAt_lt {l : List UInt8} {i : Nat} (h : barAt l=some i) : i < l.length∧Lib.indexByte l 47=(i : Int) := by
 unfold barAt at h
 split at h
 ·cases h
 ·rename_i hn
  cases h
  have e : Lib.indexByte l 47=((Lib.indexByte l 47).toNat : Int) := by omega
  refine ⟨?_,e⟩
  have := (Lib.indexByte_some (l := l) (c := 47) e).1
  exact (List.getElem?_eq_some_iff.1 this).1
theorem liteCut_calls (s : ByteArray) (w : World) (hs : s.size≤4294967296) :
  Calls Tryz.prog 110 #[.string s,.string ⟨#[47]⟩] w fun e w' => (w'=w ∨ w'=w.drew)∧∃ a b : ByteArray,e=.returned (.tuple #[.string a,.string b,.bool (barAt s.data.toList).isSome])∧a.data.toList=upOf s.data.toList∧(∀ i,barAt s.data.toList=some i→b.data.toList=s.data.toList.drop (i+1)) := by
 go_enter Tryz.func110,Tryz.ntmps110
 go_wp2_with fail
 refine (Tryz.stringslite_Index_one s 47 w).mono ?_
 rintro e w1 ⟨rfl,hw1⟩
 have hw2 := hw1.symm; subst hw2; clear hw1
 rcases hb : barAt s.data.toList with _ | i
 ·have hneg : Lib.indexByte s.data.toList 47 < 0 := by
   unfold barAt at hb
   split at hb
   ·assumption
   ·cases hb
  have HB := hideIt hb
  clear hb
  generalize Lib.indexByte s.data.toList 47=z at *
  go_wp2
  go_ret3
  exact ⟨Or.inl rfl,s,⟨#[]⟩,by rw [HB.out]; rfl,by unfold upOf; rw [HB.out],fun i h => by rw [HB.out] at h; cases h⟩
 ·obtain ⟨hi,he⟩ := barAt_lt hb
  rw [he]
  have hi2 : i < s.size := by simpa using hi
  have HB := hideIt hb
  clear hb he hi
  go_wp2
  go_region
  go_wp2
  go_ret3
  refine ⟨Or.inr rfl,_,_,by rw [HB.out]; rfl,?_,?_⟩
  ·unfold upOf; rw [HB.out,bytes_take]
  ·intro j h
   rw [HB.out] at h
   cases h
   rw [bytes_drop]
theorem cut_calls (s : ByteArray) (w : World) (hs : s.size≤4294967296) :
  Calls Tryz.prog 77 #[.string s,.string ⟨#[47]⟩] w fun e w' => (w'=w ∨ w'=w.drew)∧∃ a b : ByteArray,e=.returned (.tuple #[.string a,.string b,.bool (barAt s.data.toList).isSome])∧a.data.toList=upOf s.data.toList∧(∀ i,barAt s.data.toList=some i→b.data.toList=s.data.toList.drop (i+1)) := by
 go_enter Tryz.func77,Tryz.ntmps77
 go_wp2_with fail
 refine (liteCut_calls s w hs).mono ?_
 rintro e w1 ⟨hw,a,b,rfl,h1,h2⟩
 go_wp2
 go_ret3
 exact ⟨hw,a,b,rfl,h1,h2⟩
theorem tail_bytes (s : ByteArray) : ∃ t : ByteArray,(⟨(Lib.trimPrefix s.data.toList (⟨#[45]⟩ : ByteArray).data.toList).toArray⟩ : ByteArray)=t∧t.data.toList=tailOf s.data.toList∧t.size≤s.size := by
 refine ⟨_,rfl,rfl,?_⟩
 show (List.toArray (Lib.trimPrefix s.data.toList [45])).size≤s.data.size
 unfold Lib.trimPrefix
 split
 ·simp
 ·simp
theorem ten_pw (n : Nat) : 10 ^ n≤pw n := by
 induction n with
 | zero => exact Nat.le_refl _
 | succ n ih => rw [pw_succ,Nat.pow_succ]; omega
theorem dv_small {l : List UInt8} (h : l.all dg=true) (hl : l.length≤4294967296) : Small (dv l) :=
 ⟨Nat.lt_of_lt_of_le (dv_lt h) (Nat.le_trans (ten_pw _) (pw_le (by omega)))⟩
theorem read_calls (s : ByteArray) (w : World) (hs : s.size≤4294967296) :
  Calls Tryz.prog 44 #[.string s] w fun e w' => Below w.heap.size w w'∧∃ v,e=.returned v∧QV w' v (rd s.data.toList) := by
 have HB := hideIt (below_new w (.cells #[.bool false,.slice none 0 0,.slice none 0 0] 54))
 have HK := hideIt (Blk.new w #[.bool false,.slice none 0 0,.slice none 0 0] 54)
 go_enter Tryz.func44,Tryz.ntmps44
 go_wp2_with fail
 generalize hw0 : w.alloc (.cells #[.bool false,.slice none 0 0,.slice none 0 0] 54)=w0 at *
 refine (Tryz.strings_CutPrefix s ⟨#[45]⟩ w0).mono ?_
 rintro e w1 ⟨rfl,hw1⟩
 have hw2 := hw1.symm; subst hw2; clear hw1
 obtain ⟨t,et,ht,htl⟩ := tail_bytes s
 rw [et]
 clear et
 have HT := hideIt ht
 clear ht
 go_wp2_with fail
 refine (cut_calls t w0 (by omega)).mono ?_
 rintro e w1 ⟨hw1,a,b,rfl,ha,hb⟩
 have hb1 : Hid (Below w0.heap.size w0 w1) := by
  rcases hw1 with rfl | rfl
  ·exact Below.refl _ _
  ·exact Below.drew (Below.refl _ _)
 clear hw1
 rw [HT.out] at ha hb
 rw [HT.out]
 have HA := hideIt ha
 have HBB := hideIt hb
 clear ha hb
 have hal : a.size≤4294967296 := by
  have h1 : a.data.toList.length≤(tailOf s.data.toList).length := by
   rw [HA.out]; unfold upOf; split
   ·exact Nat.le_refl _
   ·rw [List.length_take]; exact Nat.min_le_right _ _
  rw [← HT.out] at h1
  simp at h1
  omega
 have hk1 := HK.out.below hb1.out (by rw [← hw0]; simp)
 have HB1 := hideIt (HB.out.trans (hb1.out.mono HB.out.size))
 rcases hbar : barAt (tailOf s.data.toList) with _ | i
 ·obtain ⟨low,elow,hlow,hll⟩ : ∃ low : ByteArray,(⟨#[49]⟩ : ByteArray)=low∧Hid (low.data.toList=lowOf (tailOf s.data.toList))∧low.size≤4294967296 := by
   refine ⟨_,rfl,?_,by decide⟩
   show _=_
   unfold lowOf; rw [hbar]
  clear hbar HBB
  go_wp2_with fail
  rw [elow]
  clear elow
  refine (isDigits_calls a w1 (by omega)).mono ?_
  rintro e w2 ⟨rfl,hw2⟩
  have hw3 := hw2.symm; subst hw3; clear hw2
  rw [HA.out]
  by_cases d1 : digs (upOf (tailOf s.data.toList))=true
  ·rw [d1]
   go_wp2_with fail
   refine (isDigits_calls low w1 (by omega)).mono ?_
   rintro e w2 ⟨rfl,hw2⟩
   have hw3 := hw2.symm; subst hw3; clear hw2
   rw [hlow.out]
   by_cases d2 : digs (lowOf (tailOf s.data.toList))=true
   ·rw [d2]
    have hrd : rd s.data.toList=mkRat (sg (ngOf s.data.toList) (dv (upOf (tailOf s.data.toList)))) (dv (lowOf (tailOf s.data.toList))) := by
     unfold rd; rw [d1,d2]; rfl
    have HRD := hideIt hrd
    clear hrd
    have D1 := hideIt (digs_all d1)
    have D2 := hideIt (digs_all d2)
    clear d1 d2
    go_wp2_with fail
    refine (readNat_calls a w1 hal (by rw [HA.out]; exact D1.out)).mono ?_
    rintro e w2 ⟨hb2,v1,rfl,hv1⟩
    rw [HA.out] at hv1
    have N1 := hideIt hv1
    clear hv1
    go_wp2_with fail
    refine (readNat_calls low w2 hll (by rw [hlow.out]; exact D2.out)).mono ?_
    rintro e w3 ⟨hb3,v2,rfl,hv2⟩
    rw [hlow.out] at hv2
    have N2 := hideIt hv2
    clear hv2
    go_wp2_with fail
    refine (reduced_calls (neg := ngOf s.data.toList) (N1.out.below hb3) N2.out (dv_small D1.out (by rw [← HA.out]; simpa using hal)) (dv_small D2.out (by rw [← hlow.out]; simpa using hll))).mono ?_
    rintro e w4 ⟨hb4,v,rfl,hv⟩
    rw [← HRD.out] at hv
    have hbl3 := hb2.trans (hb3.mono hb2.size)
    have hbl4 := hbl3.trans (hb4.mono hbl3.size)
    have HQ := hideIt hv
    obtain ⟨vu',vl',rfl,hn1,hn2⟩ := hv
    obtain ⟨ao3,len3,cap3,rfl,_,_,_⟩ := len_big hn1
    obtain ⟨ao4,len4,cap4,rfl,_,_,_⟩ := len_big hn2
    have hk4 := hk1.below hbl4 hk1.lt
    obtain ⟨c0,c1,c2,f0,f1,f2⟩ := hk4.three
    have HB4 := hideIt (HB1.out.trans (hbl4.mono HB1.out.size))
    clear hb2 hb3 hb4 hbl3 hbl4 hn1 hn2
    obtain ⟨rr,hrr⟩ : ∃ rr : Rat,rr=rd s.data.toList := ⟨_,rfl⟩
    rw [← hrr] at HQ ⊢
    have HRR := hideIt hrr
    clear hrr
    go_wp2
    obtain ⟨k0,k1,k2,hlow3⟩ := hk4.three_set (.bool (decide (rr.num < 0))) (.slice ao3 len3 cap3) (.slice ao4 len4 cap4)
    exact bodyPost_ret (v := .agg #[.bool (decide (rr.num < 0)),.slice ao3 len3 cap3,.slice ao4 len4 cap4]) (by simp [results,Tryz.results44,go_sem,k0,k1,k2]) rfl ⟨hlow3 _ _ HB4.out (Nat.le_refl _),_,rfl,by rw [← HRR.out]; exact HQ.out.three hk4⟩
   ·have d2' : digs (lowOf (tailOf s.data.toList))=false := by simpa using d2
    have hrd : rd s.data.toList=0 := by unfold rd; rw [d1,d2']; rfl
    rw [d2']
    have HRD := hideIt hrd
    clear hrd d1 d2 d2'
    obtain ⟨c0,c1,c2,f0,f1,f2⟩ := hk1.three
    go_wp2
    obtain ⟨k0,k1,k2,hlow3⟩ := hk1.three_set (.bool false) (.slice none 0 0) (.slice none 0 0)
    refine bodyPost_ret (v := .agg #[.bool false,.slice none 0 0,.slice none 0 0]) (by simp [results,Tryz.results44,go_sem,k0,k1,k2]) rfl ⟨hlow3 _ _ HB1.out (Nat.le_refl _),_,rfl,?_⟩
    rw [HRD.out]
    exact ⟨_,_,rfl,NatN.nil _ _ _,NatN.nil _ _ _⟩
  ·have d1' : digs (upOf (tailOf s.data.toList))=false := by simpa using d1
   have hrd : rd s.data.toList=0 := by unfold rd; rw [d1']; rfl
   rw [d1']
   have HRD := hideIt hrd
   clear hrd d1 d1'
   obtain ⟨c0,c1,c2,f0,f1,f2⟩ := hk1.three
   go_wp2
   obtain ⟨k0,k1,k2,hlow3⟩ := hk1.three_set (.bool false) (.slice none 0 0) (.slice none 0 0)
   refine bodyPost_ret (v := .agg #[.bool false,.slice none 0 0,.slice none 0 0]) (by simp [results,Tryz.results44,go_sem,k0,k1,k2]) rfl ⟨hlow3 _ _ HB1.out (Nat.le_refl _),_,rfl,?_⟩
   rw [HRD.out]
   exact ⟨_,_,rfl,NatN.nil _ _ _,NatN.nil _ _ _⟩
 ·obtain ⟨low,elow,hlow,hll⟩ : ∃ low : ByteArray,b=low∧Hid (low.data.toList=lowOf (tailOf s.data.toList))∧low.size≤4294967296 := by
   refine ⟨_,rfl,?_,?_⟩
   ·show _=_
    rw [HBB.out i hbar]; unfold lowOf; rw [hbar]
   ·have h1 : b.data.toList.length≤(tailOf s.data.toList).length := by
     rw [HBB.out i hbar]; simp
    rw [← HT.out] at h1
    simp at h1
    omega
  subst elow
  clear hbar HBB
  go_wp2_with fail
  refine (isDigits_calls a w1 (by omega)).mono ?_
  rintro e w2 ⟨rfl,hw2⟩
  have hw3 := hw2.symm; subst hw3; clear hw2
  rw [HA.out]
  by_cases d1 : digs (upOf (tailOf s.data.toList))=true
  ·rw [d1]
   go_wp2_with fail
   refine (isDigits_calls b w1 (by omega)).mono ?_
   rintro e w2 ⟨rfl,hw2⟩
   have hw3 := hw2.symm; subst hw3; clear hw2
   rw [hlow.out]
   by_cases d2 : digs (lowOf (tailOf s.data.toList))=true
   ·rw [d2]
    have hrd : rd s.data.toList=mkRat (sg (ngOf s.data.toList) (dv (upOf (tailOf s.data.toList)))) (dv (lowOf (tailOf s.data.toList))) := by
     unfold rd; rw [d1,d2]; rfl
    have HRD := hideIt hrd
    clear hrd
    have D1 := hideIt (digs_all d1)
    have D2 := hideIt (digs_all d2)
    clear d1 d2
    go_wp2_with fail
    refine (readNat_calls a w1 hal (by rw [HA.out]; exact D1.out)).mono ?_
    rintro e w2 ⟨hb2,v1,rfl,hv1⟩
    rw [HA.out] at hv1
    have N1 := hideIt hv1
    clear hv1
    go_wp2_with fail
    refine (readNat_calls b w2 hll (by rw [hlow.out]; exact D2.out)).mono ?_
    rintro e w3 ⟨hb3,v2,rfl,hv2⟩
    rw [hlow.out] at hv2
    have N2 := hideIt hv2
    clear hv2
    go_wp2_with fail
    refine (reduced_calls (neg := ngOf s.data.toList) (N1.out.below hb3) N2.out (dv_small D1.out (by rw [← HA.out]; simpa using hal)) (dv_small D2.out (by rw [← hlow.out]; simpa using hll))).mono ?_
    rintro e w4 ⟨hb4,v,rfl,hv⟩
    rw [← HRD.out] at hv
    have hbl3 := hb2.trans (hb3.mono hb2.size)
    have hbl4 := hbl3.trans (hb4.mono hbl3.size)
    have HQ := hideIt hv
    obtain ⟨vu',vl',rfl,hn1,hn2⟩ := hv
    obtain ⟨ao3,len3,cap3,rfl,_,_,_⟩ := len_big hn1
    obtain ⟨ao4,len4,cap4,rfl,_,_,_⟩ := len_big hn2
    have hk4 := hk1.below hbl4 hk1.lt
    obtain ⟨c0,c1,c2,f0,f1,f2⟩ := hk4.three
    have HB4 := hideIt (HB1.out.trans (hbl4.mono HB1.out.size))
    clear hb2 hb3 hb4 hbl3 hbl4 hn1 hn2
    obtain ⟨rr,hrr⟩ : ∃ rr : Rat,rr=rd s.data.toList := ⟨_,rfl⟩
    rw [← hrr] at HQ ⊢
    have HRR := hideIt hrr
    clear hrr
    go_wp2
    obtain ⟨k0,k1,k2,hlow3⟩ := hk4.three_set (.bool (decide (rr.num < 0))) (.slice ao3 len3 cap3) (.slice ao4 len4 cap4)
    exact bodyPost_ret (v := .agg #[.bool (decide (rr.num < 0)),.slice ao3 len3 cap3,.slice ao4 len4 cap4]) (by simp [results,Tryz.results44,go_sem,k0,k1,k2]) rfl ⟨hlow3 _ _ HB4.out (Nat.le_refl _),_,rfl,by rw [← HRR.out]; exact HQ.out.three hk4⟩
   ·have d2' : digs (lowOf (tailOf s.data.toList))=false := by simpa using d2
    have hrd : rd s.data.toList=0 := by unfold rd; rw [d1,d2']; rfl
    rw [d2']
    have HRD := hideIt hrd
    clear hrd d1 d2 d2'
    obtain ⟨c0,c1,c2,f0,f1,f2⟩ := hk1.three
    go_wp2
    obtain ⟨k0,k1,k2,hlow3⟩ := hk1.three_set (.bool false) (.slice none 0 0) (.slice none 0 0)
    refine bodyPost_ret (v := .agg #[.bool false,.slice none 0 0,.slice none 0 0]) (by simp [results,Tryz.results44,go_sem,k0,k1,k2]) rfl ⟨hlow3 _ _ HB1.out (Nat.le_refl _),_,rfl,?_⟩
    rw [HRD.out]
    exact ⟨_,_,rfl,NatN.nil _ _ _,NatN.nil _ _ _⟩
  ·have d1' : digs (upOf (tailOf s.data.toList))=false := by simpa using d1
   have hrd : rd s.data.toList=0 := by unfold rd; rw [d1']; rfl
   rw [d1']
   have HRD := hideIt hrd
   clear hrd d1 d1'
   obtain ⟨c0,c1,c2,f0,f1,f2⟩ := hk1.three
   go_wp2
   obtain ⟨k0,k1,k2,hlow3⟩ := hk1.three_set (.bool false) (.slice none 0 0) (.slice none 0 0)
   refine bodyPost_ret (v := .agg #[.bool false,.slice none 0 0,.slice none 0 0]) (by simp [results,Tryz.results44,go_sem,k0,k1,k2]) rfl ⟨hlow3 _ _ HB1.out (Nat.le_refl _),_,rfl,?_⟩
   rw [HRD.out]
   exact ⟨_,_,rfl,NatN.nil _ _ _,NatN.nil _ _ _⟩
end Go.Proofs.YtgkjeoeliehihaaGreatDoor
/- TE -/
namespace Go.Proofs.YtgkjeoeliehihaaGreatDoor
open Go.RowKit Cx
theorem owns_only {w w' : World} {g B n : Nat} {v : Value} {xs : List Value} (h : w.ownsRow B 148 1 v n xs) (ho : Only g w w') (hg : g < B) : w'.ownsRow B 148 1 v n xs := by
 obtain ⟨h1,h2 | ⟨g',cap,cur,rfl,hb,hh,hc⟩⟩ := h
 ·exact ⟨h1,Or.inl h2⟩
 ·exact ⟨h1,Or.inr ⟨g',cap,cur,rfl,hb,by rw [ho.block g' (by omega),hh],hc⟩⟩
theorem owns_below {w w' : World} {B n : Nat} {v : Value} {xs : List Value} (h : w.ownsRow B 148 1 v n xs) (ho : Below w.heap.size w w') : w'.ownsRow B 148 1 v n xs := by
 obtain ⟨h1,h2 | ⟨g',cap,cur,rfl,hb,hh,hc⟩⟩ := h
 ·exact ⟨h1,Or.inl h2⟩
 ·refine ⟨h1,Or.inr ⟨g',cap,cur,rfl,hb,?_,hc⟩⟩
  have : g' < w.heap.size := by
   by_cases e : g' < w.heap.size
   ·exact e
   ·rw [Array.getElem?_eq_none (by omega)] at hh; cases hh
  rw [ho.block g' this,hh]
theorem runs_walk {w : World} {v : Value} {l0 : List Nat} (h : NatV w v l0) (ht : Trim l0) (hl : l0.length≤1099511627770) :
  Calls Tryz.prog 141 #[v] w fun e w' => Below w.heap.size w w'∧∃ v' rs,e=.returned v'∧NatV w' v' rs∧Runs rs∧rv rs=val l0∧rs.length≤2*l0.length+1 := by
 obtain ⟨i0,hi,hz0,hz1,hz2⟩ := info_parts Tryz.infoU32
 have HH := hideIt h
 have HT := hideIt ht
 have hlim0 := hideIt h.1
 have hvs : ∃ ao cap,v=.slice ao l0.length cap := by
  obtain ⟨_,⟨rfl,ao,cap,rfl⟩ | ⟨b,off,cap,rfl,_⟩⟩ := h
  ·exact ⟨ao,cap,rfl⟩
  ·exact ⟨_,cap,rfl⟩
 obtain ⟨ao0,cap0,rfl⟩ := hvs
 clear h ht
 go_enter Tryz.func141,Tryz.ntmps141
 go_wp2_with fail
 refine (clone_calls HH.out (by omega)).mono ?_
 rintro e w1 ⟨hb1,⟨rfl,rfl⟩ | ⟨g,cap,rfl,hg,hcl,hcm,hrow⟩⟩
 ·go_wp2
  go_loopg [0,3] 0 (fun k va vr wr => va=.slice none 0 0∧vr=.slice none 0 0∧wr=w1)
  case atStart => exact ⟨rfl,rfl,rfl⟩
  case round =>
   obtain ⟨rfl,rfl,rfl⟩ := hrel
   go_wp2
   go_ret
   exact ⟨hb1,_,[],rfl,⟨fun x hx => by simp at hx,Or.inl ⟨rfl,_,_,rfl⟩⟩,⟨fun x hx => by simp at hx,Or.inl rfl⟩,rfl,Nat.zero_le _⟩
 ·have HR := hideIt hrow
  clear hrow
  go_wp2
  go_loopg [0,3] (val l0) (fun k va vr wr => ∃ (l : List Nat) (n : Nat) (rs : List Nat),va=.slice (some ⟨g,0,none⟩) n cap∧n≤l.length∧l.length=l0.length∧Row wr g l∧Lim l∧Trim (l.take n)∧val (l.take n)≤k∧(∀ x ∈ rs,x < 1000000000)∧rv rs+1000000000 ^ rs.length*val (l.take n)=val l0∧(val (l.take n)=0→rs=[] ∨ rs.getLast? ≠ some 0)∧wr.ownsRow w1.heap.size 148 1 vr rs.length (rs.map fun x : Nat => Value.int .u32 (x : Int))∧Below w.heap.size w wr∧w1.heap.size≤wr.heap.size∧rs.length≤2*l0.length+1)
  case atStart =>
   have e : l0.take l0.length=l0 := List.take_length
   exact ⟨l0,l0.length,[],rfl,Nat.le_refl _,rfl,HR.out,hlim0.out,by rw [e]; exact HT.out,by rw [e]; exact Nat.le_refl _,fun x hx => by simp at hx,by rw [e]; simp [rv],fun _ => Or.inl rfl,⟨rfl,Or.inl ⟨rfl,rfl⟩⟩,hb1,Nat.le_refl _,Nat.zero_le _⟩
  case round =>
   obtain ⟨l,n,rs,rfl,hn,hll,hrow,hlim,htr,hk,hrs,hval,htop,hown,hbel,hsz,hrl⟩ := hrel
   have hgl : g < w1.heap.size := HR.out.lt
   have H1 := hideIt hrow
   have H2 := hideIt hlim
   have H3 := hideIt htr
   have H4 := hideIt hrs
   have H5 := hideIt hval
   have H6 := hideIt htop
   have H7 := hideIt hown
   clear hrow hlim htr hrs hval htop hown
   by_cases h0 : n=0
   ·subst h0
    go_wp2
    go_ret
    have h50 := H5.out
    have h60 := H6.out
    rw [List.take_zero,val_nil,Nat.mul_zero,Nat.add_zero] at h50
    rw [List.take_zero,val_nil] at h60
    refine ⟨hbel,_,rs,rfl,?_,⟨H4.out,h60 rfl⟩,h50,hrl⟩
    have hlr : Lim rs := fun x hx => by have := H4.out x hx; omega
    by_cases e : rs=[]
    ·subst e
     rcases H7.out.2 with ⟨e1,_⟩ | ⟨g',c',cur,e1,_⟩
     ·exact ⟨hlr,Or.inl ⟨rfl,_,_,e1⟩⟩
     ·exact ⟨hlr,Or.inl ⟨rfl,_,_,e1⟩⟩
    ·obtain ⟨g',c',e1,hg',hm',hr'⟩ := rowC_of_owns rfl H7.out (fun e2 => by
      rcases H7.out.2 with ⟨_,e3⟩ | ⟨g',c',cur,e3,_⟩
      ·exact e (List.length_eq_zero_iff.1 e3)
      ·have e4 := e2.symm.trans e3
       cases e4)
     exact ⟨hlr,Or.inr ⟨g',0,c',e1,hr'.le,hm',hr'.row.lt,hr'.row.seg⟩⟩
   ·have hApos : Hid (0 < val (l.take n)) := by
     have h1 := trim_pos H3.out (by intro e; have := congrArg List.length e; rw [List.length_take,List.length_nil] at this; omega)
     exact Nat.lt_of_lt_of_le (pw_pos _) h1
    go_wp2_with fail
    refine (divideLimb_calls (cap := cap) H1.out H2.out hn (by omega) (by decide : 0 < 1000000000) (by decide)).mono ?_
    rintro e w2 ⟨rfl,honly,l',hrow',hlim',hlen',hv'⟩
    have hle2 : Hid (rs.length≤2*l0.length) := runs_len (by have := H5.out; omega) hApos.out (val_lt hlim0.out)
    obtain ⟨r,hr⟩ : ∃ r,r=val (l.take n) % 1000000000 := ⟨_,rfl⟩
    have hr9 : r < 1000000000 := by rw [hr]; exact Nat.mod_lt _ (by decide)
    rw [← hr]
    have K0 := hideIt hr
    have K1 := hideIt hrow'
    have K2 := hideIt hlim'
    have K3 := hideIt hv'
    have hs2 : w1.heap.size≤w2.heap.size := by rw [honly.size]; exact hsz
    have K4 := hideIt (honly.below hbel (by omega : w.heap.size≤g))
    have hown := owns_below (owns_only H7.out honly hgl) (below_new w2 (.cells #[.int .u32 (r : Int)] 148))
    have hnews : ∀ j u,([Value.int .u32 (r : Int)] : List Value)[j]? = some u→(w2.alloc (.cells #[.int .u32 (r : Int)] 148)).cell? (Addr.add ⟨w2.heap.size,0,none⟩ j)=some u := by
     intro j u hj
     match j,hj with
     | 0,hj => simp at hj; subst hj; simp [Addr.add]
    have HNW := hideIt hnews
    have HO := hideIt hown
    clear hnews hr hrow' hlim' hv' hown
    go_wp2_with (at_builtin; refine wpList_append_own _ rfl _ _ 51 rfl w1.heap.size 148 i0 (.int .u32 0) 1 4 Tryz.underlying51 hi hz0 hz1 hz2 rfl (by decide) _ rs.length (rs.map fun x : Nat => Value.int .u32 (x : Int)) rfl HO.out ⟨w2.heap.size,0,none⟩ 1 1 [.int .u32 (r : Int)] rfl rfl HNW.out (by intro u hu; simp at hu; subst hu; rfl) (by unfold maxLen; omega) (by omega) (by simp; omega) ?_; intro v' w3 hown1 hgrow hnil)
    have hnb : ∀ i,i < w1.heap.size→w3.heap[i]? = w2.heap[i]? := by
     intro i hi'
     have h1 := hgrow.block i (by simp; omega) (by
      rcases H7.out.2 with ⟨e1,_⟩ | ⟨g',c',cur,e1,hb',_⟩
      ·rw [e1]; simp [go_sem,Value.ownBlock]
      ·rw [e1]; simp [go_sem,Value.ownBlock]; omega)
     rw [h1,(below_new w2 _).block i (by omega)]
    have hgs := hgrow.size
    have hb3 : Hid (Below w.heap.size w w3) := by
     have hb2 : Below w.heap.size w (w2.alloc (.cells #[.int .u32 (r : Int)] 148)) := K4.out.alloc (by have := hb1.size; omega) _
     exact ⟨hgrow.os.trans hb2.os,hgrow.tape.trans hb2.tape,hgrow.output.trans hb2.output,Nat.le_trans hb2.size hgrow.size,fun i hi' => by rw [hnb i (by have := hb1.size; omega),K4.out.block i hi']⟩
    have hs3 : w1.heap.size≤w3.heap.size := by simp at hgs; omega
    have hrow3 : Hid (Row w3 g l') := by
     obtain ⟨sp,h⟩ := K1.out
     exact ⟨sp,by rw [hnb g hgl,h]⟩
    rw [show (List.map (fun x : Nat => Value.int .u32 (x : Int)) rs ++ [Value.int .u32 (r : Int)])=(rs ++ [r]).map (fun x : Nat => Value.int .u32 (x : Int)) from by simp,show rs.length+1=(rs ++ [r]).length from by simp] at hown1
    have HO1 := hideIt hown1
    clear hown1 hgrow hnil hnb hgs
    have hnl : (l'.take n).length=n := by rw [List.length_take]; omega
    have htrim := trim_some g 0 cap (l'.take n) w3 (by omega) hcm (hrow3.out.seg.pre n)
    rw [hnl] at htrim
    refine htrim.mono ?_
    rintro e w4 ⟨rfl,hw4⟩
    have hw5 := hw4.symm; subst hw5; clear hw4 htrim
    have hsl := sig_le (l'.take n)
    have hst : l'.take (sig (l'.take n))=strip (l'.take n) := by
     unfold strip; rw [List.take_take,Nat.min_eq_left (by omega)]
    have hvn : val (l'.take (sig (l'.take n)))=val (l.take n) / 1000000000 := by rw [hst,val_strip,K3.out]
    have HST := hideIt hst
    have HVN := hideIt hvn
    clear hst hvn
    generalize sig (l'.take n)=m at *
    go_wp2
    go_roundg (val (l.take n) / 1000000000)
    case measure =>
     have := hApos.out
     omega
    case rel =>
     refine ⟨l',m,rs ++ [r],rfl,by omega,by omega,hrow3.out,K2.out,by rw [HST.out]; exact strip_trim _,by rw [HVN.out]; exact Nat.le_refl _,?_,?_,?_,HO1.out,hb3.out,hs3,?_⟩
     ·intro x hx
      rcases List.mem_append.1 hx with hx | hx
      ·exact H4.out x hx
      ·rw [List.mem_singleton.1 hx]; exact hr9
     ·rw [HVN.out,K0.out]; exact rv_round H5.out
     ·intro h0'
      right
      rw [HVN.out] at h0'
      rw [List.getLast?_concat]
      have := hApos.out
      have := K0.out
      intro e
      cases e
      omega
     ·rw [List.length_append,List.length_singleton]
      have := hle2.out
      omega
end Go.Proofs.YtgkjeoeliehihaaGreatDoor
/- TF -/
namespace Go.Proofs.YtgkjeoeliehihaaGreatDoor
open Go.RowKit Cx Go.Sort
def Tab (w : World) : Prop := Lib.TabIs Tryz.prog w "internal/strconv.uint64pow10" .u64 Lib.pow10Tab
theorem Tab.below {w w' : World} (h : Tab w) (hb : Below w.heap.size w w') : Tab w' := by
 unfold Tab Lib.TabIs World.var? at *
 cases hg : (Tryz.prog).globalNamed "internal/strconv.uint64pow10" with
 | none => simp [hg] at h
 | some g =>
  simp only [hg,Option.bind_some] at h ⊢
  have hlt : g < w.heap.size := by
   rcases Nat.lt_or_ge g w.heap.size with h' | h'
   ·exact h'
   ·rw [Array.getElem?_eq_none h'] at h; simp at h
  rw [hb.block g hlt]
  exact h
theorem holds0 (w : World) (T : TypeId) (nd : Nat) (hs : nd≤24) : Holds (fun (b : UInt8) => Value.int .u8 (b.toNat : Int)) (w.alloc (.cells Lib.zeros24 T)) w.heap.size 0 (Array.replicate nd (0 : UInt8)) := fun j hj => by
 have hj' : j < nd := by simpa using hj
 refine ⟨?_,World.frozen?_alloc_new _ _ _ _⟩
 rw [World.cell?_alloc_new,Lib.zeros24_at _ (by omega),getElem!_pos _ j hj]
 simp
theorem fmt_small (u : Nat) (hu : u < 100) (w : World) :
  Calls Tryz.prog 164 #[.int .u64 u,.int .i64 10] w fun e w' => e=.returned (.string ⟨(Lib.decDigits u).toArray⟩)∧Below w.heap.size w w' := by
 go_enter Tryz.func164,Tryz.ntmps164
 go_wp2_with fail
 refine (Tryz.internal_strconv_small u hu _).mono ?_
 rintro e w' ⟨rfl,hw⟩
 have hw2 := hw.symm; subst hw2; clear hw
 go_wp2
 go_ret
 exact ⟨rfl,Below.refl _ _⟩
theorem fmt_big (u : Nat) (hu : 100≤u) (hu2 : u < 4294967296) (w : World) (ht : Tab w) :
  Calls Tryz.prog 164 #[.int .u64 u,.int .i64 10] w fun e w' => e=.returned (.string ⟨(Lib.decDigits u).toArray⟩)∧Below w.heap.size w w' := by
 have hu64 : u < 18446744073709551616 := by omega
 have hnd20 : Lib.nDigits u≤20 := by have := Lib.numDigits_eq u (by omega) hu64; split at this <;> omega
 have hal : (Tryz.prog).arrayLen 222=24 := by simp [Program.arrayLen,Tryz.underlying222]
 have hsl1 : ∀ W,(Instr.sliceAt 222 (.pointer (some ⟨w.heap.size,0,none⟩)) none (some (.int .i64 (Lib.nDigits u : Int))) none).run Tryz.prog W=.ok (.slice (some ⟨w.heap.size,0,none⟩) (Lib.nDigits u) 24) W := fun W => by
  rw [run_sliceAt_array_h W 222 ⟨w.heap.size,0,none⟩ (by simp [Program.arrayLen,Program.elem,Tryz.underlying222]) .i64 (Lib.nDigits u : Int) (by omega) (by rw [hal]; omega)]
  go_simp
 have hH0 := holds0 w 222 (Lib.nDigits u) (by omega)
 have hfmt := Tryz.internal_strconv_formatBase10 w.heap.size 0 24 u (Array.replicate (Lib.nDigits u) 0) (w.alloc (.cells Lib.zeros24 222)) hH0 (by rw [Array.size_replicate]; exact Lib.lt_pow_nDigits u) hu64 (by rw [Array.size_replicate]; omega)
 rw [Array.size_replicate] at hfmt
 have HH0 := hideIt hH0
 have HT := hideIt (Lib.tabIs_alloc ht (.cells Lib.zeros24 222))
 have HF := hideIt hfmt
 clear hH0 hal ht hfmt
 go_enter Tryz.func164,Tryz.ntmps164
 go_wp2_with fail
 refine (Tryz.internal_strconv_numDigits u (by omega) hu64 _ HT.out).mono ?_
 rintro e w' ⟨rfl,hw⟩
 have hw2 := hw.symm; subst hw2; clear hw
 go_wp2_with fail
 refine Calls.mono HF.out ?_
 rintro e w' ⟨rfl,k,v',dk,hw,hF⟩
 have hw2 := hw.symm; subst hw2; clear hw
 have hcv : (convert 182 9 (.slice (some ⟨w.heap.size,0,none⟩) (Lib.nDigits u) 24)).run Tryz.prog ((putRow (fun (b : UInt8) => Value.int .u8 (b.toNat : Int)) (w.alloc (.cells Lib.zeros24 222)) w.heap.size 0 dk).drewN k)=.ok (.string ⟨(Lib.decDigits u).toArray⟩) ((putRow (fun (b : UInt8) => Value.int .u8 (b.toNat : Int)) (w.alloc (.cells Lib.zeros24 222)) w.heap.size 0 dk).drewN k) := by
  have h := run_convert_bytes_back (P := Tryz.prog) ((putRow (fun (b : UInt8) => Value.int .u8 (b.toNat : Int)) (w.alloc (.cells Lib.zeros24 222)) w.heap.size 0 dk).drewN k) 182 9 5 ⟨w.heap.size,0,none⟩ 24 (Lib.decDigits u) Tryz.underlying182 Tryz.underlying5 Tryz.underlying9 (fun j hj => by
   rw [Lib.row_is_numeral hF j hj,Lib.add_plain,World.cell?_drewN]
   exact cell?_putRow (fun (b : UInt8) => Value.int .u8 (b.toNat : Int)) _ w.heap.size 0 _ dk HH0.out (by rw [hF.size,Array.size_replicate]) j (by rw [hF.size]; rw [Lib.decDigits_length] at hj; exact hj))
  rw [Lib.decDigits_length] at h
  exact h
 go_wp2
 go_ret
 refine ⟨rfl,?_⟩
 obtain ⟨os,_,e⟩ := putRow_grow_new (fun (b : UInt8) => Value.int .u8 (b.toNat : Int)) w #[.cells Lib.zeros24 222] w.heap.size 0 dk (Nat.le_refl _)
 rw [alloc_eq_grow,e]
 refine belowDrewN ?_ k
 refine ⟨rfl,rfl,rfl,?_,?_⟩
 ·simp [grow]
 ·intro i hi
  simp [grow,Array.getElem?_append_left hi]
theorem fmt_calls (u : Nat) (hu : u < 4294967296) (w : World) (ht : Tab w) :
  Calls Tryz.prog 142 #[.int .u64 u,.int .i64 10] w fun e w' => e=.returned (.string ⟨(Lib.decDigits u).toArray⟩)∧Below w.heap.size w w' := by
 have h : Calls Tryz.prog 164 #[.int .u64 u,.int .i64 10] w fun e w' => e=.returned (.string ⟨(Lib.decDigits u).toArray⟩)∧Below w.heap.size w w' := by
  rcases Nat.lt_or_ge u 100 with h | h
  ·exact fmt_small u h w
  ·exact fmt_big u h hu w ht
 have H := hideIt h
 clear h ht
 go_enter Tryz.func142,Tryz.ntmps142
 go_wp2_with fail
 refine Calls.mono H.out ?_
 rintro e w' ⟨rfl,hb⟩
 go_wp2
 go_ret
 exact ⟨rfl,hb⟩
def Bld (B b : Nat) (l : List UInt8) (w : World) : Prop := Lib.IsBuilderF 184 5 B b (Lib.byteCells l) w
theorem bld_write (B b : Nat) (l : List UInt8) (s : ByteArray) (w : World) (h : Bld B b l w) (hlen : l.length+s.size≤140737488355328) (hBw : B≤w.heap.size) :
  Calls Tryz.prog 143 #[.pointer (some ⟨b,0,none⟩),.string s] w fun e w' => e=.returned (.tuple #[.int .i64 s.size,.nilIface])∧Bld B b (l ++ s.data.toList) w'∧Below B w w' := by
 refine (Any.Builder_WriteString_k { Tryz.lays105 with } Tryz.Builder_Extra_105 B b (Lib.byteCells l) s w h (by rw [Lib.byteCells_length]; exact hlen) hBw).mono ?_
 rintro e w' ⟨rfl,h1,h2,_⟩
 refine ⟨rfl,Or.inr ?_,h2⟩
 have e1 : Lib.byteCells l ++ Lib.strCells s=Lib.byteCells (l ++ s.data.toList) := by rw [Lib.strCells_eq]; simp [Lib.byteCells]
 rw [e1] at h1
 exact h1
theorem bld_string (B b : Nat) (l : List UInt8) (w : World) (h : Bld B b l w) (hBw : B≤w.heap.size) :
  Calls Tryz.prog 145 #[.pointer (some ⟨b,0,none⟩)] w fun e w' => e=.returned (.string ⟨l.toArray⟩)∧Below B w w' := by
 refine (Tryz.Builder_String_any_f B b l w h hBw).mono ?_
 rintro e w' ⟨rfl,_,h2⟩
 exact ⟨rfl,h2⟩
theorem bld_new (w : World) : Bld w.heap.size w.heap.size [] (w.alloc (.cells #[.pointer none,.slice none 0 0] 184)) := by
 refine Or.inl ⟨Nat.le_refl _,.slice none 0 0,?_,⟨rfl,Or.inl ⟨rfl,rfl⟩⟩,?_⟩
 ·show (w.heap.push _)[w.heap.size]? = _
  simp
 ·simp [Value.ownBlock]
theorem Bld.below {B b : Nat} {l : List UInt8} {w w' : World} (h : Bld B b l w) (hb : Below w.heap.size w w') : Bld B b l w' := by
 have one : ∀ p,Lib.BuilderAtF 184 5 B b p (Lib.byteCells l) w→Lib.BuilderAtF 184 5 B b p (Lib.byteCells l) w' := by
  rintro p ⟨h1,v,h2,h3,h4⟩
  have lt : ∀ {g : Nat} {o : Obj},w.heap[g]? = some o→g < w.heap.size := by
   intro g o e
   by_cases e' : g < w.heap.size
   ·exact e'
   ·rw [Array.getElem?_eq_none (by omega)] at e; cases e
  refine ⟨h1,v,by rw [hb.block b (lt h2),h2],⟨h3.1,?_⟩,h4⟩
  rcases h3.2 with h | ⟨g',cap,cur,fz,rfl,h5,h6,h7⟩
  ·exact Or.inl h
  ·exact Or.inr ⟨g',cap,cur,fz,rfl,h5,by rw [hb.block g' (lt h6),h6],h7⟩
 rcases h with h | h
 ·exact Or.inl (one _ h)
 ·exact Or.inr (one _ h)
end Go.Proofs.YtgkjeoeliehihaaGreatDoor
/- TG -/
namespace Go.Proofs.YtgkjeoeliehihaaGreatDoor
open Go.RowKit Cx
def bytesFrom (rs : List Nat) (k : Nat) : List UInt8 := if k=rs.length then [] else Lib.decDigits (rv (rs.drop k))
theorem rv_pos {rs : List Nat} (h : Runs rs) {k : Nat} (hk : k < rs.length) : 0 < rv (rs.drop k) := by
 have h1 : rs.drop k ≠ [] := by
  intro e
  have := congrArg List.length e
  rw [List.length_drop] at this
  simp at this
  omega
 obtain ⟨a,x,e⟩ : ∃ a x,rs.drop k=a ++ [x] := ⟨_,_,(List.dropLast_concat_getLast h1).symm⟩
 have hx : rs.getLast? = some x := by
  have e2 : rs=rs.take k ++ (a ++ [x]) := by rw [← e,List.take_append_drop]
  rw [e2,← List.append_assoc,List.getLast?_concat]
 have hx0 : x ≠ 0 := by
  intro e0
  rcases h.top with h2 | h2
  ·rw [h2] at hk; simp at hk
  ·exact h2 (by rw [hx,e0])
 rw [e,rv_snoc]
 have : 0 < 1000000000 ^ a.length*x := Nat.mul_pos (Nat.pow_pos (by decide)) (Nat.pos_of_ne_zero hx0)
 omega
theorem runs_lt {rs : List Nat} (h : Runs rs) {m : Nat} (hm : m < rs.length) : nth rs m < 1000000000 := by
 rw [nth_get hm]; exact h.lt _ (List.getElem_mem hm)
theorem nd9 {x : Nat} (h : x < 1000000000) : Lib.nDigits x≤9 := by
 rcases Nat.lt_or_ge 9 (Lib.nDigits x) with h9 | h9
 ·have h1 : ∀ (k u : Nat),k < Lib.nDigits u→10 ^ k≤u ∨ u=0 ∨ k=0 := by
   intro k
   induction k with
   | zero => intro u _; exact Or.inr (Or.inr rfl)
   | succ k ih =>
    intro u hu
    by_cases h10 : u < 10
    ·rw [Lib.nDigits_small h10] at hu; omega
    ·rw [Lib.nDigits_big h10] at hu
     rcases ih (u / 10) (by omega) with h | h | h
     ·left; rw [Nat.pow_succ]; omega
     ·omega
     ·subst h; left; omega
  rcases h1 9 x h9 with h | h | h
  ·omega
  ·subst h; rw [Lib.nDigits_small (by decide)] at h9; omega
  ·omega
 ·exact h9
theorem bytes_first {rs : List Nat} {m : Nat} (hm : m+1=rs.length) : bytesFrom rs (m+1) ++ Lib.decDigits (nth rs m)=bytesFrom rs m := by
 unfold bytesFrom
 rw [if_pos hm,if_neg (by omega),List.nil_append]
 have e : rs.drop m=[nth rs m] := by
  rw [List.drop_eq_getElem_cons (by omega),nth_get (by omega)]
  rw [List.drop_eq_nil_of_le (by omega)]
 rw [e]
 simp [rv]
theorem bytes_next {rs : List Nat} (h : Runs rs) {m : Nat} (hm : m+1 < rs.length) : bytesFrom rs (m+1) ++ List.replicate (9 - Lib.nDigits (nth rs m)) 48 ++ Lib.decDigits (nth rs m)=bytesFrom rs m := by
 unfold bytesFrom
 rw [if_neg (by omega),if_neg (by omega)]
 have e : rs.drop m=nth rs m :: rs.drop (m+1) := by
  rw [List.drop_eq_getElem_cons (by omega),nth_get (by omega)]
 have h9 := runs_lt h (m := m) (by omega)
 have := dec_pad 9 (rv (rs.drop (m+1))) (nth rs m) (rv_pos h hm) h9
 rw [e,rv,this,padk_dec 9 _ (nd9 h9),Lib.decDigits_length,List.append_assoc]
theorem repeat_zero (c : Nat) : (Lib.repeatL [48] c)=List.replicate c 48 := by
 induction c with
 | zero => rfl
 | succ c ih => rw [Lib.repeatL,ih,List.replicate_succ]; rfl
theorem natText_walk {w : World} {v : Value} {l0 : List Nat} (h : NatV w v l0) (ht : Trim l0) (hl : l0.length≤1099511627770) (tab : Tab w) :
  Calls Tryz.prog 108 #[v] w fun e w' => Below w.heap.size w w'∧∃ s : ByteArray,e=.returned (.string s)∧s.data.toList=Lib.decDigits (val l0) := by
 have HV := hideIt h
 have HT := hideIt ht
 have HTAB := hideIt tab
 clear h ht tab
 go_enter Tryz.func108,Tryz.ntmps108
 go_wp2_with fail
 refine (runs_walk HV.out HT.out hl).mono ?_
 rintro e w1 ⟨hb1,v',rs,rfl,hrs,hruns,hval,hlen⟩
 have htab1 := hideIt (HTAB.out.below hb1)
 have HR := hideIt hruns
 have HVAL := hideIt hval
 have HB1 := hideIt hb1
 have HRS := hideIt hrs
 have hvs : ∃ ao cap,v'=.slice ao rs.length cap := by
  obtain ⟨_,⟨rfl,ao,cap,rfl⟩ | ⟨b,off,cap,rfl,_⟩⟩ := hrs
  ·exact ⟨ao,cap,rfl⟩
  ·exact ⟨_,cap,rfl⟩
 obtain ⟨ao,cap,rfl⟩ := hvs
 clear hrs hruns hval hb1 HTAB
 by_cases h0 : rs.length=0
 ·rw [h0]
  go_wp2
  go_ret
  have : rs=[] := List.length_eq_zero_iff.1 h0
  subst this
  refine ⟨HB1.out,_,rfl,?_⟩
  rw [← HVAL.out,show rv []=0 from rfl,dec_small (by decide)]
  rfl
 ·have hne : ((rs.length : Int) == 0)=false := by rw [beq_eq_false_iff_ne]; omega
  have hbN := hideIt (bld_new w1)
  obtain ⟨ao',cap',b1,o1,e,hsl⟩ := HRS.out.sl Tryz.underlying51 Tryz.sizeOf148
  cases e
  have HSL := hideIt hsl
  clear hsl
  go_wp2
  go_loopw [5] (fun i wr => ∃ k : Nat,k≤rs.length∧i=.int .i64 ((k : Int) - 1)∧Bld w1.heap.size w1.heap.size (bytesFrom rs k) wr∧(bytesFrom rs k).length≤9*(rs.length - k)∧Below w1.heap.size w1 wr) (fun i _ => (intOf i+1).toNat)
  case atStart =>
   refine ⟨rs.length,Nat.le_refl _,rfl,?_,?_,below_new _ _⟩
   ·unfold bytesFrom; rw [if_pos rfl]; exact hbN.out
   ·unfold bytesFrom; rw [if_pos rfl]; simp
  case round =>
   obtain ⟨k,hk,rfl,hbld,hbl,hbel⟩ := hrel
   have HBLD := hideIt hbld
   have hsz := hideIt hbel.size
   clear hbld
   by_cases hk0 : k=0
   ·subst hk0
    go_wp2_with fail
    refine (bld_string _ _ _ _ HBLD.out hsz.out).mono ?_
    rintro e w5 ⟨rfl,hb5⟩
    go_wp2
    go_ret
    refine ⟨HB1.out.trans ((hbel.trans hb5).mono HB1.out.size),_,rfl,?_⟩
    unfold bytesFrom
    rw [if_neg (by omega),List.drop_zero,HVAL.out]
   ·obtain ⟨m,rfl⟩ : ∃ m,k=m+1 := ⟨k - 1,by omega⟩
    rw [show (((m+1 : Nat) : Int) - 1)=(m : Int) from by omega]
    have hia := HSL.out.idx m (by omega)
    have hca := (hbel.cell (p := ⟨b1,o1+m,none⟩) (HSL.out.lt (by omega))).trans (HSL.out.seg m (by omega))
    have hx9 := runs_lt HR.out (m := m) (by omega)
    have hd9 := nd9 hx9
    have HN1 := hideIt (fun h => bytes_first (rs := rs) (m := m) h)
    have HN2 := hideIt (fun h => bytes_next HR.out (m := m) h)
    generalize nth rs m=x at *
    go_wp2_with fail
    refine (fmt_calls x (by omega) _ (htab1.out.below hbel)).mono ?_
    rintro e w2 ⟨rfl,hb2⟩
    have hts : (⟨(Lib.decDigits x).toArray⟩ : ByteArray).size=Lib.nDigits x := by
     show (Lib.decDigits x).toArray.size=_
     rw [List.size_toArray,Lib.decDigits_length]
    obtain ⟨t,ht,htl,hts⟩ : ∃ t : ByteArray,(⟨(Lib.decDigits x).toArray⟩ : ByteArray)=t∧Hid (t.data.toList=Lib.decDigits x)∧t.size=Lib.nDigits x := ⟨_,rfl,rfl,hts⟩
    rw [ht]
    clear ht
    have hbel2 := hbel.trans (hb2.mono hsz.out)
    have HBLD2 := hideIt (HBLD.out.below hb2)
    have hsz2 := hideIt hbel2.size
    by_cases hlast : m+1=rs.length
    ·have hcond : ¬ (m : Int) < (rs.length : Int) - 1 := by omega
     go_wp2_with fail
     refine (bld_write _ _ _ t _ HBLD2.out (by omega) hsz2.out).mono ?_
     rintro e w3 ⟨rfl,hbld3,hb3⟩
     have HBLD3 := hideIt hbld3
     clear hbld3
     go_wp2
     go_roundw
     case rel =>
      have e := HN1.out hlast
      refine ⟨m,by omega,by go_num,?_,?_,hbel2.trans hb3⟩
      ·rw [← e,← htl.out]; exact HBLD3.out
      ·rw [← e,List.length_append,Lib.decDigits_length]; omega
     case measure => simp [intOf]
    ·have hcond : (m : Int) < (rs.length : Int) - 1 := by omega
     have hd : (9 : Int) - (Lib.nDigits x : Nat)=((9 - Lib.nDigits x : Nat) : Int) := by omega
     have hzs : (⟨(Lib.repeatL (⟨#[48]⟩ : ByteArray).data.toList (9 - Lib.nDigits x)).toArray⟩ : ByteArray).size=9 - Lib.nDigits x := by
      show (Lib.repeatL [48] (9 - Lib.nDigits x)).toArray.size=_
      rw [List.size_toArray,repeat_zero,List.length_replicate]
     go_wp2_with fail
     refine (Tryz.strings_Repeat ⟨#[48]⟩ (9 - Lib.nDigits x) w2 (by omega) (by
      show 1*(9 - Lib.nDigits x)≤140737488355328
      omega)).mono ?_
     rintro e w3 ⟨rfl,hb3⟩
     obtain ⟨z,hz,hzl,hzs⟩ : ∃ z : ByteArray,(⟨(Lib.repeatL (⟨#[48]⟩ : ByteArray).data.toList (9 - Lib.nDigits x)).toArray⟩ : ByteArray)=z∧Hid (z.data.toList=List.replicate (9 - Lib.nDigits x) 48)∧z.size=9 - Lib.nDigits x := ⟨_,rfl,repeat_zero _,hzs⟩
     rw [hz]
     clear hz
     have hbel3 := hbel2.trans (hb3.mono hsz2.out)
     have HBLD3 := hideIt (HBLD2.out.below hb3)
     have hsz3 := hideIt hbel3.size
     go_wp2_with fail
     refine (bld_write _ _ _ z _ HBLD3.out (by omega) hsz3.out).mono ?_
     rintro e w4 ⟨rfl,hbld4,hb4⟩
     have HBLD4 := hideIt hbld4
     clear hbld4
     have hbel4 := hbel3.trans hb4
     have hsz4 := hideIt hbel4.size
     go_wp2_with fail
     refine (bld_write _ _ _ t _ HBLD4.out (by rw [List.length_append,hzl.out,List.length_replicate]; omega) hsz4.out).mono ?_
     rintro e w5 ⟨rfl,hbld5,hb5⟩
     have HBLD5 := hideIt hbld5
     clear hbld5
     go_wp2
     go_roundw
     case rel =>
      have e := HN2.out (by omega)
      refine ⟨m,by omega,by go_num,?_,?_,hbel4.trans hb5⟩
      ·rw [← e,← htl.out,← hzl.out]; exact HBLD5.out
      ·rw [← e,List.length_append,List.length_append,Lib.decDigits_length,List.length_replicate]; omega
     case measure => simp [intOf]
theorem natText_calls {w : World} {v : Value} {n : Nat} (h : NatN w v n) (hs : Small n) (tab : Tab w) :
  Calls Tryz.prog 108 #[v] w fun e w' => Below w.heap.size w w'∧∃ s : ByteArray,e=.returned (.string s)∧s.data.toList=Lib.decDigits n := by
 obtain ⟨l,hl,ht,rfl⟩ := h
 exact natText_walk hl ht (hs.len0 ht) tab
end Go.Proofs.YtgkjeoeliehihaaGreatDoor
/- TH -/
namespace Go.Proofs.YtgkjeoeliehihaaGreatDoor
open Go.RowKit Cx
attribute [local go_sem ↓] Go.wp_at_zero Go.wp_at_succ
theorem text_walk {w : World} {c : C3} {q : Rat} (h : QV w (.agg #[.bool c.n,.slice c.u c.nu c.cu,.slice c.l c.nl c.cl]) q) {k : Nat} (f : QS k q) (hk : k≤35184372088640) (tab : Tab w) :
  Calls Tryz.prog 75 #[.agg #[.bool c.n,.slice c.u c.nu c.cu,.slice c.l c.nl c.cl]] w fun e w' => Below w.heap.size w w'∧∃ s : ByteArray,e=.returned (.string s)∧s.data.toList=tx q := by
 obtain ⟨hb0,hk0,hsz⟩ := boxes1 w #[.bool c.n,.slice c.u c.nu c.cu,.slice c.l c.nl c.cl] 54
 have HB0 := hideIt hb0
 have HSZ := hideIt hsz
 have HK0 := hideIt hk0
 have HTAB := hideIt (tab.below hb0)
 have SU := hideIt (small_two f.num hk)
 have SL := hideIt (small_two f.den hk)
 have N1 := hideIt (nDigits_two f.num)
 have N2 := hideIt (nDigits_two f.den)
 obtain ⟨vu,vl,e,h1,h2⟩ := h
 have H1 := hideIt (h1.below hb0)
 have H2 := hideIt (h2.below hb0)
 obtain ⟨a2,n2,c2,e2,_,_,hz⟩ := len_big h2
 have hn : c.n=decide (q.num < 0)∧vu=.slice c.u c.nu c.cu∧vl=.slice c.l c.nl c.cl := by
  simp only [Value.agg.injEq,Array.mk.injEq,List.cons.injEq,Value.bool.injEq,and_true] at e
  exact ⟨e.1,e.2.1.symm,e.2.2.symm⟩
 obtain ⟨hn,rfl,rfl⟩ := hn
 cases e2
 clear e hb0 hsz hk0 tab f h1 h2
 obtain ⟨z0,z1,z2,_,_,_⟩ := HK0.out.all3
 have HN := hideIt hn
 have hlow : Hid (c.nl=0 ↔ q.den=1) := by
  show _ ↔ _
  rw [hz]
  split
  ·rename_i h; simp [h]
  ·rename_i h; have := q.den_nz; simp [h,this]
 clear hz hn
 go_enter Tryz.func75,Tryz.ntmps75
 go_wp2_with fail
 generalize (w.alloc (.cells #[.bool c.n,.slice c.u c.nu c.cu,.slice c.l c.nl c.cl] 54))=W0 at *
 refine (natText_calls H1.out SU.out HTAB.out).mono ?_
 rintro e w1 ⟨hb1,s1,rfl,hs1⟩
 have hl1 : s1.size≤k+1 := by
  have h := congrArg List.length hs1
  rw [Lib.decDigits_length] at h
  have h' : s1.size=s1.data.toList.length := by simp
  have := N1.out
  omega
 have HS1 := hideIt hs1
 clear hs1
 have hk1 := HK0.out.below hb1 (by rw [HSZ.out]; omega)
 obtain ⟨y0,y1,y2,_,_,_⟩ := hk1.all3
 have hcn : c.n=true ∨ c.n=false := by cases c.n <;> simp
 have hcl : c.nl=0 ∨ ((c.nl : Int) != 0)=true := by
  rcases Nat.eq_zero_or_pos c.nl with h | h
  ·exact Or.inl h
  ·right; simp; omega
 rcases hcn with hcn | hcn
 ·have hq : Hid (q.num < 0) := by have h := HN.out; rw [hcn] at h; show q.num < 0; exact of_decide_eq_true h.symm
  rw [hcn] at y0
  rcases hcl with hcl | hcl
  ·have hd : Hid (q.den=1) := hlow.out.1 hcl
   rw [hcl] at y2
   go_wp2
   go_ret
   refine ⟨HB0.out.trans (hb1.mono HB0.out.size),_,rfl,?_⟩
   unfold tx
   rw [if_pos hq.out,if_pos hd.out,List.append_nil,← HS1.out]
   simp
  ·have hd : Hid (¬ q.den=1) := fun e => by have := hlow.out.2 e; rw [this] at hcl; simp at hcl
   have h2 := H2.out
   rw [if_neg hd.out] at h2
   have H2' := hideIt h2
   clear h2
   go_wp2_with fail
   refine (natText_calls (H2'.out.below hb1) SL.out (HTAB.out.below hb1)).mono ?_
   rintro e w2 ⟨hb2,s2,rfl,hs2⟩
   have hl2 : s2.size≤k+1 := by
    have h := congrArg List.length hs2
    rw [Lib.decDigits_length] at h
    have h' : s2.size=s2.data.toList.length := by simp
    have := N2.out
    omega
   have HS2 := hideIt hs2
   clear hs2
   go_wp2
   go_ret
   refine ⟨HB0.out.trans ((hb1.trans (hb2.mono hb1.size)).mono HB0.out.size),_,rfl,?_⟩
   unfold tx
   rw [if_pos hq.out,if_neg hd.out,← HS1.out,← HS2.out]
   simp
 ·have hq : Hid (¬ q.num < 0) := by have h := HN.out; rw [hcn] at h; show ¬ q.num < 0; exact of_decide_eq_false h.symm
  rw [hcn] at y0
  rcases hcl with hcl | hcl
  ·have hd : Hid (q.den=1) := hlow.out.1 hcl
   rw [hcl] at y2
   go_wp2
   go_ret
   refine ⟨HB0.out.trans (hb1.mono HB0.out.size),_,rfl,?_⟩
   unfold tx
   rw [if_neg (Int.not_lt.2 hq.out),if_pos hd.out,List.append_nil,← HS1.out]
   rfl
  ·have hd : Hid (¬ q.den=1) := fun e => by have := hlow.out.2 e; rw [this] at hcl; simp at hcl
   have h2 := H2.out
   rw [if_neg hd.out] at h2
   have H2' := hideIt h2
   clear h2
   go_wp2_with fail
   refine (natText_calls (H2'.out.below hb1) SL.out (HTAB.out.below hb1)).mono ?_
   rintro e w2 ⟨hb2,s2,rfl,hs2⟩
   have hl2 : s2.size≤k+1 := by
    have h := congrArg List.length hs2
    rw [Lib.decDigits_length] at h
    have h' : s2.size=s2.data.toList.length := by simp
    have := N2.out
    omega
   have HS2 := hideIt hs2
   clear hs2
   go_wp2
   go_ret
   refine ⟨HB0.out.trans ((hb1.trans (hb2.mono hb1.size)).mono HB0.out.size),_,rfl,?_⟩
   unfold tx
   rw [if_neg (Int.not_lt.2 hq.out),if_neg hd.out,← HS1.out,← HS2.out]
   simp
theorem text_calls {w : World} {v : Value} {q : Rat} (h : QV w v q) {k : Nat} (f : QS k q) (hk : k≤35184372088640) (tab : Tab w) :
  Calls Tryz.prog 75 #[v] w fun e w' => Below w.heap.size w w'∧∃ s : ByteArray,e=.returned (.string s)∧s.data.toList=tx q := by
 obtain ⟨c,rfl⟩ := qv_open h
 exact text_walk h f hk tab
end Go.Proofs.YtgkjeoeliehihaaGreatDoor
/- WG -/
namespace Go.Proofs.YtgkjeoeliehihaaGreatDoor
open Go.RowKit Cx
attribute [local go_sem ↓] Go.wp_at_zero Go.wp_at_succ
theorem fr_nat (n : Nat) (hl : (1 : Nat) ≠ 0) (hc : Nat.Coprime n 1) : fr false n 1 hl hc=(n : Rat) := by
 have := fr_eq (neg := false) (u := n) (l := 1) (hl := hl) (hc := hc) (n := (n : Int)) (d := 1) (by decide) (by simp [sg])
 rw [this,Rat.mkRat_one]
 rfl
theorem int_calls (n : Nat) (hn : n < 9223372036854775808) (w : World) :
  Calls Tryz.prog 40 #[.int .i64 n] w fun e w' => Below w.heap.size w w'∧∃ v,e=.returned v∧QV w' v (n : Rat) := by
 obtain ⟨hb0,hk0,hsz⟩ := boxes1 w #[.bool false,.slice none 0 0,.slice none 0 0] 54
 have HB0 := hideIt hb0
 have HSZ := hideIt hsz
 have HK0 := hideIt hk0
 clear hb0 hsz hk0
 go_enter Tryz.func40,Tryz.ntmps40
 go_wp2_with fail
 generalize (w.alloc (.cells #[.bool false,.slice none 0 0,.slice none 0 0] 54))=W0 at *
 refine (natOf_calls n W0 (by omega)).mono ?_
 rintro e w1 ⟨hb1,v1,rfl,hv1⟩
 go_wp2_with fail
 refine (one_calls w1).mono ?_
 rintro e w2 ⟨hb2,v2,rfl,hv2⟩
 go_wp2_with fail
 refine (ready_calls (neg := false) (hv1.below hb2) hv2 (by decide) (Nat.coprime_one_right n)).mono ?_
 rintro e w3 ⟨hb3,v3,rfl,hv3⟩
 rw [fr_nat] at hv3
 obtain ⟨d3,rfl⟩ := qv_open hv3
 have hbl2 := hb1.trans (hb2.mono hb1.size)
 have hbl3 := hbl2.trans (hb3.mono hbl2.size)
 have hkr := HK0.out.below hbl3 (by rw [HSZ.out]; omega)
 obtain ⟨r0,r1,r2,f0,f1,f2⟩ := hkr.all3
 have HV := hideIt hv3
 clear hv1 hv2 hv3
 go_wp2
 obtain ⟨k0,k1,k2,_,_,_⟩ := (hkr.put3 (.bool d3.n) (.slice d3.u d3.nu d3.cu) (.slice d3.l d3.nl d3.cl)).all3
 refine bodyPost_ret (v := .agg #[.bool d3.n,.slice d3.u d3.nu d3.cu,.slice d3.l d3.nl d3.cl]) (by simp [results,Tryz.results40,go_sem,k0,k1,k2]) rfl ⟨Below.put3 (HB0.out.trans (hbl3.mono HB0.out.size)) (by omega) _ _ _,_,rfl,?_⟩
 exact (Stays.put3 hkr (by simp [notLimb]) (.bool d3.n) (.slice d3.u d3.nu d3.cu) (.slice d3.l d3.nl d3.cl) rfl rfl rfl).qv HV.out
theorem str_len (a : ByteArray) : a.data.toList.length=a.size := by simp
end Go.Proofs.YtgkjeoeliehihaaGreatDoor
/- QSD -/
namespace Go.Proofs.YtgkjeoeliehihaaGreatDoor
open Go.RowKit Cx
theorem QS.div {k l : Nat} {a b : Rat} (h1 : QS k a) (h2 : QS l b) : QS (k+l) (a / b) := by
 rw [Rat.div_def]
 by_cases h0 : b.num=0
 ·rw [Rat.num_eq_zero.1 h0,Rat.inv_zero,Rat.mul_zero]
  exact QS.zero.mono (by have := h1.pos; omega)
 ·exact h1.mul (h2.inv h0)
end Go.Proofs.YtgkjeoeliehihaaGreatDoor
/- MathX -/
namespace Cx
open Go
def gN (qs : List Rat) : Nat := qs.foldl (fun g q => Nat.gcd g q.num.natAbs) 0
def lD (qs : List Rat) : Nat := qs.foldl (fun m q => m*(q.den / Nat.gcd m q.den)) 1
def fb : List Rat→Bool
 | [] => false
 | q :: r => if q.num=0 then fb r else decide (q.num < 0)
def pl (G M : Nat) (flip : Bool) (q : Rat) : Rat := ((sg (decide (q.num < 0) != flip) (q.num.natAbs / G*(M / q.den)) : Int) : Rat)
def plain (qs : List Rat) : List Rat := qs.map (pl (gN qs) (lD qs) (fb qs))
theorem gN_take {qs : List Rat} {k : Nat} (h : k < qs.length) : gN (qs.take (k+1))=Nat.gcd (gN (qs.take k)) (qs[k]).num.natAbs := by
 unfold gN; rw [List.take_succ_eq_append_getElem h,List.foldl_append]; rfl
theorem lD_take {qs : List Rat} {k : Nat} (h : k < qs.length) : lD (qs.take (k+1))=lD (qs.take k)*((qs[k]).den / Nat.gcd (lD (qs.take k)) (qs[k]).den) := by
 unfold lD; rw [List.take_succ_eq_append_getElem h,List.foldl_append]; rfl
theorem lD_pos (qs : List Rat) : 0 < lD qs := by
 unfold lD
 have : ∀ (l : List Rat) (m : Nat),0 < m→0 < l.foldl (fun m q => m*(q.den / Nat.gcd m q.den)) m := by
  intro l
  induction l with
  | nil => intro m h; exact h
  | cons q l ih =>
   intro m h
   refine ih _ (Nat.mul_pos h ?_)
   exact Nat.div_pos (Nat.le_of_dvd (Nat.pos_of_ne_zero q.den_nz) (Nat.gcd_dvd_right _ _)) (Nat.gcd_pos_of_pos_left _ h)
 exact this qs 1 (by decide)
theorem foldg_dvd (l : List Rat) (g : Nat) : (l.foldl (fun g q => Nat.gcd g q.num.natAbs) g) ∣ g∧∀ q ∈ l,(l.foldl (fun g q => Nat.gcd g q.num.natAbs) g) ∣ q.num.natAbs := by
 induction l generalizing g with
 | nil => exact ⟨Nat.dvd_refl _,fun q hq => by simp at hq⟩
 | cons a l ih =>
  obtain ⟨h1,h2⟩ := ih (Nat.gcd g a.num.natAbs)
  refine ⟨Nat.dvd_trans h1 (Nat.gcd_dvd_left _ _),fun q hq => ?_⟩
  rcases List.mem_cons.1 hq with rfl | hq
  ·exact Nat.dvd_trans h1 (Nat.gcd_dvd_right _ _)
  ·exact h2 q hq
theorem gN_dvd {qs : List Rat} {q : Rat} (h : q ∈ qs) : gN qs ∣ q.num.natAbs := (foldg_dvd qs 0).2 q h
theorem foldl_dvd (l : List Rat) (m : Nat) : m ∣ (l.foldl (fun m q => m*(q.den / Nat.gcd m q.den)) m)∧∀ q ∈ l,q.den ∣ (l.foldl (fun m q => m*(q.den / Nat.gcd m q.den)) m) := by
 induction l generalizing m with
 | nil => exact ⟨Nat.dvd_refl _,fun q hq => by simp at hq⟩
 | cons a l ih =>
  obtain ⟨h1,h2⟩ := ih (m*(a.den / Nat.gcd m a.den))
  refine ⟨Nat.dvd_trans (Nat.dvd_mul_right _ _) h1,fun q hq => ?_⟩
  rcases List.mem_cons.1 hq with rfl | hq
  ·refine Nat.dvd_trans ?_ h1
   have : Nat.gcd m q.den ∣ m := Nat.gcd_dvd_left _ _
   obtain ⟨c,hc⟩ := this
   obtain ⟨d,hd⟩ := Nat.gcd_dvd_right m q.den
   have hg : 0 < Nat.gcd m q.den := Nat.gcd_pos_of_pos_right _ (Nat.pos_of_ne_zero q.den_nz)
   generalize Nat.gcd m q.den=g at *
   rw [hd,Nat.mul_div_cancel_left _ hg,hc]
   exact ⟨c,by grind⟩
  ·exact h2 q hq
theorem lD_dvd {qs : List Rat} {q : Rat} (h : q ∈ qs) : q.den ∣ lD qs := (foldl_dvd qs 1).2 q h
theorem gN_pos {qs : List Rat} {q : Rat} (h : q ∈ qs) (h0 : q.num ≠ 0) : 0 < gN qs := by
 rcases Nat.eq_zero_or_pos (gN qs) with e | e
 ·have := gN_dvd h
  rw [e] at this
  have := Nat.eq_zero_of_zero_dvd this
  omega
 ·exact e
theorem gN_lt {K : Nat} {qs : List Rat} (h : ∀ q ∈ qs,Go.Proofs.YtgkjeoeliehihaaGreatDoor.QS K q) : gN qs < 2 ^ K := by
 rcases Nat.eq_zero_or_pos (gN qs) with e | e
 ·rw [e]; exact Nat.pow_pos (by decide)
 ·have : ∃ q ∈ qs,q.num ≠ 0 := by
   apply Classical.byContradiction
   intro hno
   have hall : ∀ q ∈ qs,q.num=0 := fun q hq => Classical.byContradiction fun hn => hno ⟨q,hq,hn⟩
   have hz : ∀ (l : List Rat),(∀ q ∈ l,q.num=0)→l.foldl (fun g q => Nat.gcd g q.num.natAbs) 0=0 := by
    intro l
    induction l with
    | nil => intro _; rfl
    | cons a l ih =>
     intro hl
     rw [List.foldl_cons,hl a (List.mem_cons_self ..)]
     exact ih fun q hq => hl q (List.mem_cons_of_mem _ hq)
   have := hz qs hall
   unfold gN at e
   omega
  obtain ⟨q,hq,hn⟩ := this
  exact Nat.lt_of_le_of_lt (Nat.le_of_dvd (by omega) (gN_dvd hq)) (h q hq).num
theorem lD_le {K : Nat} {qs : List Rat} (h : ∀ q ∈ qs,Go.Proofs.YtgkjeoeliehihaaGreatDoor.QS K q) : ∀ k,lD (qs.take k)≤2 ^ (k*K)
 | 0 => by simp [lD]
 | k+1 => by
  have ih := lD_le h k
  by_cases hk : k < qs.length
  ·rw [lD_take hk,Nat.succ_mul,Nat.pow_add]
   refine Nat.mul_le_mul ih (Nat.le_trans (Nat.div_le_self _ _) (Nat.le_of_lt (h _ (List.getElem_mem hk)).den))
  ·rw [List.take_of_length_le (by omega)]
   rw [List.take_of_length_le (by omega)] at ih
   exact Nat.le_trans ih (Nat.pow_le_pow_right (by decide) (by rw [Nat.succ_mul]; omega))
theorem pl_zero (G M : Nat) (flip : Bool) {q : Rat} (h : q.num=0) : pl G M flip q=0 := by
 unfold pl
 rw [h]
 simp [sg]
def fac (qs : List Rat) : Rat := mkRat (sg (fb qs) (lD qs)) (gN qs)
theorem pl_mul {qs : List Rat} {q : Rat} (h : q ∈ qs) : pl (gN qs) (lD qs) (fb qs) q=q*fac qs := by
 by_cases h0 : q.num=0
 ·rw [pl_zero _ _ _ h0,Rat.num_eq_zero.1 h0,Rat.zero_mul]
 ·have hg := gN_pos h h0
  obtain ⟨a,ha⟩ := gN_dvd h
  obtain ⟨b,hb⟩ := lD_dvd h
  have hd : 0 < q.den := Nat.pos_of_ne_zero q.den_nz
  unfold pl fac
  generalize gN qs=G at *
  generalize lD qs=M at *
  rw [ha,Nat.mul_div_cancel_left _ hg,hb,Nat.mul_div_cancel_left _ hd]
  have eq : q=mkRat (sg (decide (q.num < 0)) (G*a)) q.den := by rw [← ha,sg_num,Rat.mkRat_self]
  have e1 : ((sg (decide (q.num < 0) != fb qs) (a*b) : Int) : Rat)=mkRat (sg (decide (q.num < 0) != fb qs) (a*b)) 1 := (Rat.mkRat_one _).symm
  rw [e1]
  conv => rhs; lhs; rw [eq]
  rw [Rat.mkRat_mul_mkRat,Rat.mkRat_eq_iff (by decide) (Nat.mul_ne_zero q.den_nz (by omega))]
  generalize decide (q.num < 0)=s
  generalize fb qs=t
  have c1 : ((q.den*G : Nat) : Int)=(q.den : Int)*G := Int.natCast_mul _ _
  rw [c1]
  have m1 : ((a*b : Nat) : Int)=(a : Int)*b := Int.natCast_mul _ _
  have m2 : ((G*a : Nat) : Int)=(G : Int)*a := Int.natCast_mul _ _
  have m3 : ((q.den*b : Nat) : Int)=(q.den : Int)*b := Int.natCast_mul _ _
  generalize (q.den : Int)=D at *
  cases s <;> cases t <;> simp only [sg,bne_self_eq_false,Bool.false_eq_true,if_false,if_true,m1,m2,m3,Bool.true_bne,Bool.false_bne,Bool.not_false] <;> grind
theorem fac_ne {qs : List Rat} {q : Rat} (h : q ∈ qs) (h0 : q ≠ 0) : fac qs ≠ 0 := by
 have hn : q.num ≠ 0 := fun e => h0 (Rat.num_eq_zero.1 e)
 have hg := gN_pos h hn
 have hl := lD_pos qs
 unfold fac
 intro e
 rw [Rat.mkRat_eq_zero (by omega)] at e
 cases fb qs <;> simp [sg] at e <;> omega
theorem plain_eq (qs : List Rat) : plain qs=qs.map (fun q => q*fac qs) := by
 unfold plain
 exact List.map_congr_left fun q hq => pl_mul hq
end Cx
/- WK -/
namespace Go.Proofs.YtgkjeoeliehihaaGreatDoor
open Go.RowKit Cx
attribute [local go_sem ↓] Go.wp_at_zero Go.wp_at_succ
theorem qv_parts {w : World} {c : C3} {q : Rat} (h : QV w (.agg #[.bool c.n,.slice c.u c.nu c.cu,.slice c.l c.nl c.cl]) q) :
  c.n=decide (q.num < 0)∧NatN w (.slice c.u c.nu c.cu) q.num.natAbs∧NatN w (.slice c.l c.nl c.cl) (if q.den=1 then 0 else q.den) := by
 obtain ⟨vu,vl,e,h1,h2⟩ := h
 simp only [Value.agg.injEq,Array.mk.injEq,List.cons.injEq,Value.bool.injEq,and_true] at e
 obtain ⟨e0,e1,e2⟩ := e
 subst e1
 subst e2
 exact ⟨e0,h1,h2⟩
theorem fb_drop {qs : List Rat} : ∀ {k : Nat},(∀ j (hj : j < qs.length),j < k→(qs[j]'hj).num=0)→fb qs=fb (qs.drop k) := by
 induction qs with
 | nil => intro k _; simp
 | cons q r ih =>
  intro k h
  match k with
  | 0 => rfl
  | k+1 =>
   have h0 := h 0 (by simp) (by omega)
   rw [List.drop_succ_cons]
   have h0' : q.num=0 := h0
   rw [fb,if_pos h0']
   exact ih fun j hj hk => h (j+1) (by simpa using hj) (by omega)
theorem firstBelow_walk {w : World} {b off cap : Nat} {qs : List Rat} (h : QRow w (.slice (some ⟨b,off,none⟩) qs.length cap) qs) (hn : qs.length≤1000000) :
  Calls Tryz.prog 116 #[.slice (some ⟨b,off,none⟩) qs.length cap] w fun e w' => Below w.heap.size w w'∧e=.returned (.bool (fb qs)) := by
 have HR := hideIt h
 clear h
 obtain ⟨r,hr⟩ : ∃ r,r=fb qs := ⟨_,rfl⟩
 rw [← hr]
 have HRR := hideIt hr
 clear hr
 go_enter Tryz.func116,Tryz.ntmps116
 go_wp2
 go_loopw [7] (fun i wr => ∃ k : Nat,k≤qs.length∧i=.int .i64 (k : Int)∧(∀ j (hj : j < qs.length),j < k→(qs[j]'hj).num=0)∧Below w.heap.size w wr) (fun i _ => qs.length - (intOf i).toNat)
 case atStart => exact ⟨0,Nat.zero_le _,rfl,fun j _ h => absurd h (by omega),Below.refl _ _⟩
 case round =>
  obtain ⟨k,hkl,rfl,hz,hbel⟩ := hrel
  have HZ := hideIt hz
  clear hz
  by_cases hend : k=qs.length
  ·subst hend
   go_wp2
   go_ret
   refine ⟨hbel,?_⟩
   rw [HRR.out,fb_drop HZ.out,List.drop_length]
   rfl
  ·have hlt : k < qs.length := by omega
   have hidx := qrow_idx (b := b) (off := off) (cap := cap) hlt
   obtain ⟨b',off',cap',e,hbl,hcells⟩ := HR.out
   cases e
   obtain ⟨d,d0,d1,d2,hd⟩ := hcells k hlt
   have HD := hideIt (hd.below hbel)
   have z0 := (hbel.cell (p := ⟨b,off+k*3,none⟩) hbl).trans d0
   have z1 := (hbel.cell (p := ⟨b,off+k*3+1,none⟩) hbl).trans d1
   have z2 := (hbel.cell (p := ⟨b,off+k*3+2,none⟩) hbl).trans d2
   have hsz' := hideIt hbel.size
   obtain ⟨hn1,_,_⟩ := qv_parts hd
   have HN := hideIt hn1
   clear d0 d1 d2 hd hcells hn1
   go_wp2_with fail
   have hbn := below_new wr (.cells #[.bool d.n,.slice d.u d.nu d.cu,.slice d.l d.nl d.cl] 54)
   have hkn := Blk.new wr #[.bool d.n,.slice d.u d.nu d.cu,.slice d.l d.nl d.cl] 54
   refine (sign_calls (HD.out.below hbn)).mono ?_
   rintro e w2 ⟨hb2,rfl⟩
   have hk2 := hkn.below hb2 hkn.lt
   obtain ⟨y0,y1,y2,_,_,_⟩ := hk2.all3
   have hbw := hbel.trans ((hbn.trans (hb2.mono hbn.size)).mono hsz'.out)
   by_cases h0 : (qs[k]'hlt).num=0
   ·rw [if_pos h0]
    have H0 := hideIt h0
    clear h0
    go_wp2
    go_roundw
    case rel =>
     refine ⟨k+1,hlt,by go_num,fun j hj hjk => ?_,hbw⟩
     by_cases e : j=k
     ·subst e; exact H0.out
     ·exact HZ.out j hj (by omega)
    case measure => simp [intOf]; omega
   ·rw [if_neg h0]
    have hne : ((if (qs[k]'hlt).num < 0 then (-1 : Int) else 1) != 0)=true := by split <;> rfl
    generalize (if (qs[k]'hlt).num < 0 then (-1 : Int) else 1)=z at *
    have H0 := hideIt h0
    clear h0
    go_wp2
    go_ret
    refine ⟨hbw,?_⟩
    rw [HRR.out,fb_drop HZ.out,List.drop_eq_getElem_cons hlt,fb,if_neg H0.out,HN.out]
    rfl
theorem firstBelow_calls {w : World} {v : Value} {qs : List Rat} (h : QRow w v qs) (hn : qs.length≤1000000) :
  Calls Tryz.prog 116 #[v] w fun e w' => Below w.heap.size w w'∧e=.returned (.bool (fb qs)) := by
 have h' := h
 obtain ⟨b,off,cap,rfl,_⟩ := h
 exact firstBelow_walk h' hn
def QBlk (w : World) (g : Nat) (qs : List Rat) : Prop :=
 ∃ cs : Array Value,Blk w g cs 54∧cs.all notLimb=true∧cs.size=qs.length*3∧∀ (j : Nat) (hj : j < qs.length),∃ c : C3,
  cs[j*3]? = some (.bool c.n)∧cs[j*3+1]? = some (.slice c.u c.nu c.cu)∧cs[j*3+2]? = some (.slice c.l c.nl c.cl)∧QV w (.agg #[.bool c.n,.slice c.u c.nu c.cu,.slice c.l c.nl c.cl]) (qs[j]'hj)
theorem QBlk.lt {w : World} {g : Nat} {qs : List Rat} (h : QBlk w g qs) : g < w.heap.size := by
 obtain ⟨cs,h,_⟩ := h
 exact h.lt
theorem QBlk.below {w w' : World} {g : Nat} {qs : List Rat} (h : QBlk w g qs) (hb : Below w.heap.size w w') : QBlk w' g qs := by
 obtain ⟨cs,h1,h2,h3,h4⟩ := h
 refine ⟨cs,h1.below hb h1.lt,h2,h3,fun j hj => ?_⟩
 obtain ⟨c,e0,e1,e2,hq⟩ := h4 j hj
 exact ⟨c,e0,e1,e2,hq.below hb⟩
theorem QBlk.facts {w : World} {g : Nat} {qs : List Rat} (h : QBlk w g qs) {k : Nat} (hk : k < qs.length) :
  ∃ c : C3,w.cell? ⟨g,k*3,none⟩=some (.bool c.n)∧w.cell? ⟨g,k*3+1,none⟩=some (.slice c.u c.nu c.cu)∧w.cell? ⟨g,k*3+2,none⟩=some (.slice c.l c.nl c.cl)∧w.frozen? ⟨g,k*3,none⟩=false∧w.frozen? ⟨g,k*3+1,none⟩=false∧w.frozen? ⟨g,k*3+2,none⟩=false := by
 obtain ⟨cs,h1,h2,h3,h4⟩ := h
 obtain ⟨c,e0,e1,e2,_⟩ := h4 k hk
 exact ⟨c,by rw [h1.cell]; exact e0,by rw [h1.cell]; exact e1,by rw [h1.cell]; exact e2,h1.frozen _,h1.frozen _,h1.frozen _⟩
theorem QBlk.put {w : World} {g : Nat} {qs : List Rat} (h : QBlk w g qs) {k : Nat} (hk : k < qs.length) {d : C3} {q : Rat} (hq : QV w (.agg #[.bool d.n,.slice d.u d.nu d.cu,.slice d.l d.nl d.cl]) q) :
  QBlk (((w.setCell ⟨g,k*3,none⟩ (.bool d.n)).setCell ⟨g,k*3+1,none⟩ (.slice d.u d.nu d.cu)).setCell ⟨g,k*3+2,none⟩ (.slice d.l d.nl d.cl)) g (qs.set k q)∧Stays w (((w.setCell ⟨g,k*3,none⟩ (.bool d.n)).setCell ⟨g,k*3+1,none⟩ (.slice d.u d.nu d.cu)).setCell ⟨g,k*3+2,none⟩ (.slice d.l d.nl d.cl)) := by
 obtain ⟨cs,h1,h2,h3,h4⟩ := h
 have b1 := h1.set (k*3) (.bool d.n)
 have b2 := b1.set (k*3+1) (.slice d.u d.nu d.cu)
 have b3 := b2.set (k*3+2) (.slice d.l d.nl d.cl)
 have a1 := all_set h2 (k*3) (v := .bool d.n) rfl
 have a2 := all_set a1 (k*3+1) (v := .slice d.u d.nu d.cu) rfl
 have a3 := all_set a2 (k*3+2) (v := .slice d.l d.nl d.cl) rfl
 have hst := ((Stays.set h1 h2 (k*3) (.bool d.n)).trans (Stays.set b1 a1 (k*3+1) (.slice d.u d.nu d.cu))).trans (Stays.set b2 a2 (k*3+2) (.slice d.l d.nl d.cl))
 refine ⟨⟨_,b3,a3,by simp [h3],fun j hj => ?_⟩,hst⟩
 have hj' : j < qs.length := by simpa using hj
 by_cases e : j=k
 ·subst e
  refine ⟨d,?_,?_,?_,?_⟩
  ·simp [Array.getElem?_setIfInBounds,h3]; omega
  ·simp [Array.getElem?_setIfInBounds,h3]; omega
  ·simp [Array.getElem?_setIfInBounds,h3]; omega
  ·rw [List.getElem_set_self]; exact hst.qv hq
 ·obtain ⟨c,e0,e1,e2,hc⟩ := h4 j hj'
  refine ⟨c,?_,?_,?_,?_⟩
  ·simp only [Array.getElem?_setIfInBounds]
   rw [if_neg (by omega),if_neg (by omega),if_neg (by omega)]; exact e0
  ·simp only [Array.getElem?_setIfInBounds]
   rw [if_neg (by omega),if_neg (by omega),if_neg (by omega)]; exact e1
  ·simp only [Array.getElem?_setIfInBounds]
   rw [if_neg (by omega),if_neg (by omega),if_neg (by omega)]; exact e2
  ·rw [List.getElem_set_ne (by omega)]; exact hst.qv hc
end Go.Proofs.YtgkjeoeliehihaaGreatDoor
/- WL -/
namespace Go.Proofs.YtgkjeoeliehihaaGreatDoor
open Go.RowKit Cx
attribute [local go_sem ↓] Go.wp_at_zero Go.wp_at_succ
theorem Tryz.infoQ : (Tryz.prog.info? 54).map (fun i => (i.zero,i.size,i.bytes))=some (some (.agg #[.bool false,.slice none 0 0,.slice none 0 0]),3,56) := by kernel_rfl
theorem make_qs (n : Nat) (hn : n≤1000000) (w : World) :
  (Instr.makeSlice 126 (.int .i64 n) (.int .i64 n)).run Tryz.prog w=.ok (.slice (some ⟨w.heap.size,0,none⟩) n n) (w.alloc (.cells (madeCells #[.bool false,.slice none 0 0,.slice none 0 0] (n*3)) 54)) := by
 obtain ⟨i,hi,hz0,hz1,hz2⟩ := info_parts Tryz.infoQ
 have h := run_make (P := Tryz.prog) w 126 54 i (.agg #[.bool false,.slice none 0 0,.slice none 0 0]) Tryz.underlying126 hi hz0 .i64 .i64 n n (by omega) (by omega) (by rw [hz2]; omega) (by omega)
 rw [hz1] at h
 simpa [Value.cells] using h
theorem made_at (n j r : Nat) (hj : j < n) (hr : r < 3) : (madeCells #[.bool false,.slice none 0 0,.slice none 0 0] (n*3))[j*3+r]? = #[Value.bool false,.slice none 0 0,.slice none 0 0][r]? := by
 have h1 : j*3+r < n*3 := by omega
 have h2 : (j*3+r) % 3=r := by omega
 match r,hr with
 | 0,_ => simp [madeCells,show j*3 < n*3 by omega]
 | 1,_ => simp [madeCells,h1,h2]
 | 2,_ => simp [madeCells,h1,h2]
theorem qblk_made (w : World) (n : Nat) : QBlk (w.alloc (.cells (madeCells #[.bool false,.slice none 0 0,.slice none 0 0] (n*3)) 54)) w.heap.size (List.replicate n 0) := by
 refine ⟨_,Blk.new _ _ _,?_,?_,fun j hj => ?_⟩
 ·rw [Array.all_eq_true]
  intro i hi
  have h3 : i % 3 < 3 := Nat.mod_lt _ (by decide)
  simp only [size_madeCells] at hi
  have := made_at n (i / 3) (i % 3) (by omega) h3
  rw [show i / 3*3+i % 3=i by omega] at this
  obtain ⟨_,e⟩ := Array.getElem?_eq_some_iff.1 (this.trans (Array.getElem?_eq_getElem (by simpa using h3)))
  rw [e]
  match i % 3,h3 with
  | 0,_ => rfl
  | 1,_ => rfl
  | 2,_ => rfl
 ·simp [size_madeCells]
 ·have hj' : j < n := by simpa using hj
  refine ⟨⟨false,none,0,0,none,0,0⟩,made_at n j 0 hj' (by decide),made_at n j 1 hj' (by decide),made_at n j 2 hj' (by decide),?_⟩
  rw [List.getElem_replicate]
  exact qv_zero0 _
theorem Stays.nat {w w' : World} (h : Stays w w') {v : Value} {n : Nat} (k : NatN w v n) : NatN w' v n := by
 have hq : QV w (.agg #[.bool (decide (((n : Nat) : Rat).num < 0)),v,.slice none 0 0]) ((n : Nat) : Rat) := by
  refine ⟨v,.slice none 0 0,rfl,?_,?_⟩
  ·simpa using k
  ·simpa using NatN.nil w none 0
 obtain ⟨vu,vl,e,h1,_⟩ := h.qv hq
 simp only [Value.agg.injEq,Array.mk.injEq,List.cons.injEq,and_true,true_and] at e
 obtain ⟨rfl,_⟩ := e
 simpa using h1
theorem fr_int (neg : Bool) (u : Nat) (hl : (1 : Nat) ≠ 0) (hc : Nat.Coprime u 1) : fr neg u 1 hl hc=((sg neg u : Int) : Rat) := by
 have := fr_eq (neg := neg) (u := u) (l := 1) (hl := hl) (hc := hc) (n := sg neg u) (d := 1) (by decide) rfl
 rw [this,Rat.mkRat_one]
def mix (qs : List Rat) (k : Nat) : List Rat := (plain qs).take k ++ List.replicate (qs.length - k) 0
theorem plain_len (qs : List Rat) : (plain qs).length=qs.length := by simp [plain]
theorem mix_len (qs : List Rat) (k : Nat) (h : k≤qs.length) : (mix qs k).length=qs.length := by
 unfold mix; rw [List.length_append,List.length_take,List.length_replicate,plain_len]; omega
theorem mix_set {qs : List Rat} {k : Nat} (h : k < qs.length) : (mix qs k).set k (pl (gN qs) (lD qs) (fb qs) (qs[k]))=mix qs (k+1) := by
 unfold mix
 have hl : ((plain qs).take k).length=k := by rw [List.length_take,plain_len]; omega
 rw [List.set_append,if_neg (by omega),hl,Nat.sub_self]
 rw [show qs.length - k=(qs.length - (k+1))+1 by omega,List.replicate_succ,List.set_cons_zero]
 rw [List.take_succ_eq_append_getElem (by rw [plain_len]; exact h),List.append_assoc]
 congr 1
 simp [plain]
theorem mix_same {qs : List Rat} {k : Nat} (h : k < qs.length) (h0 : (qs[k]).num=0) : mix qs k=mix qs (k+1) := by
 rw [← mix_set h,pl_zero _ _ _ h0]
 unfold mix
 have hl : ((plain qs).take k).length=k := by rw [List.length_take,plain_len]; omega
 rw [List.set_append,if_neg (by omega),hl,Nat.sub_self]
 rw [show qs.length - k=(qs.length - (k+1))+1 by omega,List.replicate_succ,List.set_cons_zero]
theorem mix_zero (qs : List Rat) : mix qs 0=List.replicate qs.length 0 := by simp [mix]
theorem mix_all (qs : List Rat) : mix qs qs.length=plain qs := by
 unfold mix; rw [List.take_of_length_le (by rw [plain_len]; exact Nat.le_refl _)]; simp
theorem plain_walk {w : World} {b off cap : Nat} {qs : List Rat} (h : QRow w (.slice (some ⟨b,off,none⟩) qs.length cap) qs) {K : Nat} (f : ∀ q ∈ qs,QS K q) (hn : qs.length≤1000000) (hk : qs.length*K+K+2≤35184372088640) :
  Calls Tryz.prog 85 #[.slice (some ⟨b,off,none⟩) qs.length cap] w fun e w' => Below w.heap.size w w'∧∃ g,e=.returned (.slice (some ⟨g,0,none⟩) qs.length qs.length)∧QBlk w' g (plain qs)∧w.heap.size≤g := by
 have HR := hideIt h
 have F := hideIt f
 have HK := hideIt hk
 clear h f hk
 have SM : Hid (∀ q ∈ qs,Small q.num.natAbs∧Small q.den) := fun q hq => ⟨small_two (F.out q hq).num (by have := HK.out; omega),small_two (F.out q hq).den (by have := HK.out; omega)⟩
 have SG : Hid (∀ k,Small (gN (qs.take k))) := fun k => small_two (gN_lt (qs := qs.take k) fun q hq => F.out q (List.mem_of_mem_take hq)) (by have := HK.out; omega)
 have SL : Hid (∀ k,k≤qs.length→Small (lD (qs.take k))) := fun k hk => by
  have h1 := lD_le F.out k
  have h2 : k*K≤qs.length*K := Nat.mul_le_mul_right _ hk
  exact small_two (k := k*K+1) (Nat.lt_of_le_of_lt h1 (Nat.pow_lt_pow_right (by decide) (by omega))) (by have := HK.out; omega)
 go_enter Tryz.func85,Tryz.ntmps85
 go_wp2_with fail
 refine (one_calls _).mono ?_
 rintro e w1 ⟨hb1,v1,rfl,hv1⟩
 have HV1 := hideIt hv1
 have HB1 := hideIt hb1
 clear hv1 hb1
 go_wp2
 go_loopw [3,4,14] (fun vu vl i wr => ∃ k : Nat,k≤qs.length∧i=.int .i64 (k : Int)∧NatN wr vu (gN (qs.take k))∧NatN wr vl (lD (qs.take k))∧Below w.heap.size w wr) (fun _ _ i _ => qs.length - (intOf i).toNat)
 case atStart =>
  refine ⟨0,Nat.zero_le _,rfl,?_,?_,HB1.out⟩
  ·exact NatN.nil _ _ _
  ·exact HV1.out
 case round =>
  obtain ⟨k,hkl,rfl,hu,hl,hbel⟩ := hrel
  have HU := hideIt hu
  have HL := hideIt hl
  have hsz' := hideIt hbel.size
  clear hu hl
  by_cases hend : k=qs.length
  ·subst hend
   have hmk := make_qs qs.length hn
   rw [List.take_length] at HU HL
   go_wp2_with fail
   have hbn := below_new wr (.cells (madeCells #[.bool false,.slice none 0 0,.slice none 0 0] (qs.length*3)) 54)
   have hqn := qblk_made wr qs.length
   have hbel1 := hbel.trans (hbn.mono hsz'.out)
   refine (firstBelow_calls (HR.out.below hbel1) hn).mono ?_
   rintro e w2 ⟨hb2,rfl⟩
   have HQB := hideIt (hqn.below hb2)
   have hbw := hbn.trans (hb2.mono hbn.size)
   have HU2 := hideIt (HU.out.below hbw)
   have HL2 := hideIt (HL.out.below hbw)
   have hbel2 := hideIt (hbel.trans (hbw.mono hsz'.out))
   clear hqn hmk
   obtain ⟨g,hg⟩ : ∃ g,g=wr.heap.size := ⟨_,rfl⟩
   rw [← hg] at HQB ⊢
   have HGE : Hid (w.heap.size≤g) := by rw [hg]; exact hsz'.out
   clear hg hbn hbel1 hb2 hbw
   have HLP : Hid (lD qs ≠ 0) := Nat.ne_of_gt (lD_pos qs)
   have SLA : Hid (Small (lD qs)) := by have := SL.out qs.length (Nat.le_refl _); rwa [List.take_length] at this
   have SGA : Hid (Small (gN qs)) := by have := SG.out qs.length; rwa [List.take_length] at this
   go_wp2
   go_loopw [39] (fun i wx => ∃ k : Nat,k≤qs.length∧i=.int .i64 (k : Int)∧QBlk wx g (mix qs k)∧NatN wx u3 (gN qs)∧NatN wx u4 (lD qs)∧Below w.heap.size w wx) (fun i _ => qs.length - (intOf i).toNat)
   case atStart => exact ⟨0,Nat.zero_le _,rfl,by rw [mix_zero]; exact HQB.out,HU2.out,HL2.out,hbel2.out⟩
   case round =>
    rename World => wx
    obtain ⟨k,hkl,rfl,hqb,hu,hl,hbel⟩ := hrel
    have HQ := hideIt hqb
    have HU := hideIt hu
    have HL := hideIt hl
    have hszx := hideIt hbel.size
    have hgl := hideIt hqb.lt
    clear hqb hu hl
    by_cases hend : k=qs.length
    ·subst hend
     go_wp2
     go_ret
     refine ⟨hbel,g,rfl,?_,HGE.out⟩
     have := HQ.out
     rw [mix_all] at this
     exact this
    ·have hlt : k < qs.length := by omega
     have hidx := qrow_idx (b := b) (off := off) (cap := cap) hlt
     have hidx2 := qrow_idx (b := g) (off := 0) (cap := qs.length) hlt
     rw [Nat.zero_add] at hidx2
     obtain ⟨b',off',cap',e,hbl,hcells⟩ := HR.out
     cases e
     obtain ⟨d,d0,d1,d2,hd⟩ := hcells k hlt
     have HD := hideIt (hd.below hbel)
     have z0 := (hbel.cell (p := ⟨b,off+k*3,none⟩) hbl).trans d0
     have z1 := (hbel.cell (p := ⟨b,off+k*3+1,none⟩) hbl).trans d1
     have z2 := (hbel.cell (p := ⟨b,off+k*3+2,none⟩) hbl).trans d2
     have HDU := hideIt (qv_parts (hd.below hbel)).2.1
     have HDN := hideIt (qv_parts (hd.below hbel)).1
     have S1 := hideIt (SM.out _ (List.getElem_mem hlt))
     have HMS := hideIt (mix_set hlt)
     have HM0 := hideIt (fun h => mix_same hlt h)
     have HDV := hideIt (lD_dvd (List.getElem_mem hlt))
     have HGP := hideIt (fun h => gN_pos (List.getElem_mem hlt) h)
     have HML := hideIt (mix_len qs k hkl)
     clear d0 d1 d2 hd hcells
     generalize qs[k]'hlt=q at *
     go_wp2_with fail
     have hbn := below_new wx (.cells #[.bool d.n,.slice d.u d.nu d.cu,.slice d.l d.nl d.cl] 54)
     have hkn := Blk.new wx #[.bool d.n,.slice d.u d.nu d.cu,.slice d.l d.nl d.cl] 54
     refine (sign_calls (HD.out.below hbn)).mono ?_
     rintro e w3 ⟨hb3,rfl⟩
     have hbw := hbn.trans (hb3.mono hbn.size)
     have HK3 := hideIt (hkn.below hb3 hkn.lt)
     have hlt3 : Hid (wx.heap.size < w3.heap.size) := HK3.out.lt
     have HD3 := hideIt (HD.out.below hbw)
     have HU3 := hideIt (HU.out.below hbw)
     have HL3 := hideIt (HL.out.below hbw)
     have HDU3 := hideIt (HDU.out.below hbw)
     have HQ3 := hideIt (HQ.out.below hbw)
     have hbel3 := hideIt (hbel.trans (hbw.mono hszx.out))
     by_cases h0 : q.num=0
     ·rw [if_pos h0]
      have H0 := hideIt h0
      clear h0
      go_wp2
      go_roundw
      case rel =>
       refine ⟨k+1,hlt,by go_num,?_,HU3.out,HL3.out,hbel3.out⟩
       rw [← HM0.out H0.out]
       exact HQ3.out
      case measure => simp [intOf]; omega
     ·rw [if_neg h0]
      have hne : ((if q.num < 0 then (-1 : Int) else 1) != 0)=true := by split <;> rfl
      generalize (if q.num < 0 then (-1 : Int) else 1)=z at *
      have H0 := hideIt h0
      have hG0 : Hid (0 < gN qs) := HGP.out h0
      have S5 : Hid (Small (q.num.natAbs / gN qs)) := small_le S1.out.1 (Nat.div_le_self _ _)
      have S6 : Hid (Small (lD qs / q.den)) := small_le SLA.out (Nat.div_le_self _ _)
      have hD0 : Hid (0 < q.den) := Nat.pos_of_ne_zero q.den_nz
      clear h0 z0 z1 z2
      obtain ⟨z0,z1,z2,_,_,_⟩ := HK3.out.all3
      go_wp2_with fail
      go_region_held3 (fun w' => w'.cell? ⟨wx.heap.size,0,none⟩=some (.bool d.n)∧w'.cell? ⟨wx.heap.size,1,none⟩=some (.slice d.u d.nu d.cu)∧w'.cell? ⟨wx.heap.size,2,none⟩=some (.slice d.l d.nl d.cl)) (first | go_keep | exact hs4 | exact hs5 | exact hs6 | exact hs7 | exact hs8 | exact hs9 | exact hkS)
       (first
        | (go_at_call 68; refine (ready_calls (neg := d.n != fb qs) (hv7.below hb8) hv8 (by decide) (Nat.coprime_one_right _)).mono ?_; rintro e w9 ⟨hb9,v9,rfl,hv9⟩; rw [fr_int] at hv9; have hbl9 := hbl8.trans (hb9.mono hbl8.size); have hs9 := (HK3.out.below hbl9 hlt3.out).cells3; obtain ⟨d9,rfl⟩ := qv_open hv9; have hq9 := HQ3.out.below hbl9; obtain ⟨_,x0,x1,x2,y0,y1,y2⟩ := hq9.facts (k := k) (by rw [HML.out]; exact hlt); have hkS := (((HK3.out.below hbl9 hlt3.out).other (g' := g) (Nat.ne_of_lt hgl.out) (k*3) (.bool d9.n)).other (g' := g) (Nat.ne_of_lt hgl.out) (k*3+1) (.slice d9.u d9.nu d9.cu)).other (g' := g) (Nat.ne_of_lt hgl.out) (k*3+2) (.slice d9.l d9.nl d9.cl) |>.cells3)
        | (go_at_call 70; refine (one_calls _).mono ?_; rintro e w8 ⟨hb8,v8,rfl,hv8⟩; have hbl8 := hbl7.trans (hb8.mono hbl7.size); have hs8 := (HK3.out.below hbl8 hlt3.out).cells3)
        | (go_at_call 73; refine (multiply_calls ((hv4.below hb5).below hb6) hv6 S5.out S6.out).mono ?_; rintro e w7 ⟨hb7,v7,rfl,hv7⟩; have hbl7 := hbl6.trans (hb7.mono hbl6.size); have hs7 := (HK3.out.below hbl7 hlt3.out).cells3)
        | (have hx := hv5; go_at_call 74; refine (over_calls (HL3.out.below hbl5) hv5 SLA.out S1.out.2 hD0.out).mono ?_; rintro e w6 ⟨hb6,v6,rfl,hv6⟩; have hbl6 := hbl5.trans (hb6.mono hbl5.size); have hs6 := (HK3.out.below hbl6 hlt3.out).cells3)
        | (go_at_call 72; refine (lower_calls (HD3.out.below hbl4)).mono ?_; rintro e w5 ⟨hb5,v5,rfl,hv5⟩; have hbl5 := hbl4.trans (hb5.mono hbl4.size); have hs5 := (HK3.out.below hbl5 hlt3.out).cells3)
        | (go_at_call 74; refine (over_calls (w := w3.drew) (HDU3.out.below (Below.drew (Below.refl _ _))) (HU3.out.below (Below.drew (Below.refl _ _))) S1.out.1 SGA.out hG0.out).mono ?_; rintro e w4 ⟨hb4,v4,rfl,hv4⟩; have hbl4 : Below w3.heap.size w3 w4 := (Below.drew (Below.refl _ w3)).trans hb4; have hs4 := (HK3.out.below hbl4 hlt3.out).cells3)
        )
      all_goals
       go_wp2
       go_roundw
       case rel =>
        obtain ⟨hput,hst⟩ := hq9.put (k := k) (by rw [HML.out]; exact hlt) hv9
        have hge := HGE.out
        refine ⟨k+1,hlt,by go_num,?_,hst.nat (HU3.out.below hbl9),hst.nat (HL3.out.below hbl9),Below.set (Below.set (Below.set (hbel3.out.trans (hbl9.mono hbel3.out.size)) hge _ _) hge _ _) hge _ _⟩
        rw [← HMS.out]
        have e : ((sg (d.n != fb qs) (q.num.natAbs / gN qs*(lD qs / q.den)) : Int) : Rat)=pl (gN qs) (lD qs) (fb qs) q := by rw [HDN.out]; rfl
        rw [e] at hput
        exact hput
       case measure => simp [intOf]; omega
  ·have hlt : k < qs.length := by omega
   have hidx := qrow_idx (b := b) (off := off) (cap := cap) hlt
   obtain ⟨b',off',cap',e,hbl,hcells⟩ := HR.out
   cases e
   obtain ⟨d,d0,d1,d2,hd⟩ := hcells k hlt
   have HD := hideIt (hd.below hbel)
   have z0 := (hbel.cell (p := ⟨b,off+k*3,none⟩) hbl).trans d0
   have z1 := (hbel.cell (p := ⟨b,off+k*3+1,none⟩) hbl).trans d1
   have z2 := (hbel.cell (p := ⟨b,off+k*3+2,none⟩) hbl).trans d2
   have hdu := (qv_parts (hd.below hbel)).2.1
   have HDU := hideIt hdu
   have S1 := hideIt (SM.out _ (List.getElem_mem hlt))
   have S2 := hideIt (SG.out k)
   have S3 := hideIt (SL.out k hkl)
   have HG := hideIt (gN_take hlt)
   have HLD := hideIt (lD_take hlt)
   clear d0 d1 d2 hd hcells hdu
   have hgp : Hid (0 < Nat.gcd (lD (qs.take k)) (qs[k]'hlt).den) := Nat.gcd_pos_of_pos_left _ (lD_pos _)
   have S4 : Hid (Small (Nat.gcd (lD (qs.take k)) (qs[k]'hlt).den)) := small_le S1.out.2 (Nat.le_of_dvd (Nat.pos_of_ne_zero (qs[k]'hlt).den_nz) (Nat.gcd_dvd_right _ _))
   have S5 : Hid (Small ((qs[k]'hlt).den / Nat.gcd (lD (qs.take k)) (qs[k]'hlt).den)) := small_le S1.out.2 (Nat.div_le_self _ _)
   generalize qs[k]'hlt=q at *
   generalize lD (qs.take k)=M at *
   generalize gN (qs.take k)=G at *
   go_wp2_with fail
   have hbn := below_new wr (.cells #[.bool d.n,.slice d.u d.nu d.cu,.slice d.l d.nl d.cl] 54)
   have hkn := Blk.new wr #[.bool d.n,.slice d.u d.nu d.cu,.slice d.l d.nl d.cl] 54
   refine (gcd_walk (HU.out.below hbn) (HDU.out.below hbn) S2.out S1.out.1).mono ?_
   rintro e w2 ⟨hb2,vg,rfl,hvg⟩
   have hbw := hbn.trans (hb2.mono hbn.size)
   have HK2 := hideIt (hkn.below hb2 hkn.lt)
   have HD2 := hideIt (HD.out.below hbw)
   have HL2 := hideIt (HL.out.below hbw)
   have HGV := hideIt hvg
   have hlt2 : Hid (wr.heap.size < w2.heap.size) := HK2.out.lt
   clear hvg z0 z1 z2
   obtain ⟨z0,z1,z2,_,_,_⟩ := HK2.out.all3
   go_wp2_with fail
   go_region_held3 (fun w' => w'.cell? ⟨wr.heap.size,0,none⟩=some (.bool d.n)∧w'.cell? ⟨wr.heap.size,1,none⟩=some (.slice d.u d.nu d.cu)∧w'.cell? ⟨wr.heap.size,2,none⟩=some (.slice d.l d.nl d.cl)) (first | go_keep | exact hs3 | exact hs4 | exact hs5 | exact hs6 | exact hs7)
    (first
     | (go_at_call 73; refine (multiply_calls ((HL2.out.below hbl6)) hv6 S3.out S5.out).mono ?_; rintro e w7 ⟨hb7,v7,rfl,hv7⟩; have hbl7 := hbl6.trans (hb7.mono hbl6.size); have hs7 := (HK2.out.below hbl7 hlt2.out).cells3)
     | (go_at_call 74; refine (over_calls ((hv3.below hb4).below hb5) hv5 S1.out.2 S4.out hgp.out).mono ?_; rintro e w6 ⟨hb6,v6,rfl,hv6⟩; have hbl6 := hbl5.trans (hb6.mono hbl5.size); have hs6 := (HK2.out.below hbl6 hlt2.out).cells3)
     | (go_at_call 71; refine (gcd_walk (HL2.out.below hbl4) hv4 S3.out S1.out.2).mono ?_; rintro e w5 ⟨hb5,v5,rfl,hv5⟩; have hbl5 := hbl4.trans (hb5.mono hbl4.size); have hs5 := (HK2.out.below hbl5 hlt2.out).cells3)
     | (have hx := hv3; go_at_call 72; refine (lower_calls (HD2.out.below hbl3)).mono ?_; rintro e w4 ⟨hb4,v4,rfl,hv4⟩; have hbl4 := hbl3.trans (hb4.mono hbl3.size); have hs4 := (HK2.out.below hbl4 hlt2.out).cells3)
     | (go_at_call 72; refine (lower_calls (w := w2.drew) (HD2.out.below (Below.drew (Below.refl _ _)))).mono ?_; rintro e w3 ⟨hb3,v3,rfl,hv3⟩; have hbl3 : Below w2.heap.size w2 w3 := (Below.drew (Below.refl _ w2)).trans hb3; have hs3 := (HK2.out.below hbl3 hlt2.out).cells3)
     )
   all_goals
    go_wp2
    go_roundw
    case rel =>
     refine ⟨k+1,hlt,by go_num,?_,?_,hbel.trans ((hbw.trans (hbl7.mono hbw.size)).mono hsz'.out)⟩
     ·rw [HG.out]; exact HGV.out.below hbl7
     ·rw [HLD.out]; exact hv7
    case measure => simp [intOf]; omega
end Go.Proofs.YtgkjeoeliehihaaGreatDoor
/- BA -/
namespace Go.Proofs.YtgkjeoeliehihaaGreatDoor
open Go.RowKit Cx
theorem NatV.sl32 {w : World} {v : Value} {l : List Nat} (h : NatV w v l) : ∃ ao cap b off,v=.slice ao l.length cap∧Sl w 51 ao cap l b off :=
 h.sl Tryz.underlying51 Tryz.sizeOf148
theorem bigTrim_some (b off cap : Nat) (l : List Nat) (w : World) (hcap : l.length≤cap) (hm : cap≤maxLen) (hs : Seg w b off l) :
  Calls Tryz.prog 154 #[.slice (some ⟨b,off,none⟩) l.length cap] w fun e w' => e=.returned (.slice (some ⟨b,off,none⟩) (sig l) cap)∧w'=w := by
 unfold maxLen at hm
 go_enter Tryz.func154,Tryz.ntmps154
 go_wp2
 go_loop [3] (fun v => ∃ n : Nat,n≤l.length∧(∀ k,n≤k→nth l k=0)∧v=.int .i64 (n : Int)) (fun v => (intOf v).toNat)
 case atStart => exact ⟨l.length,Nat.le_refl _,fun k hk => nth_beyond hk,rfl⟩
 case round =>
  obtain ⟨n,hn,hz,rfl⟩ := hrel
  have HZ : Hid (∀ k,n≤k→nth l k=0) := hz
  clear hz
  by_cases h0 : n=0
  ·subst h0
   go_wp2
   go_ret
   exact ⟨by rw [sig_unique (Nat.zero_le _) HZ.out (Or.inl rfl)]; rfl,rfl⟩
  ·obtain ⟨m,rfl⟩ : ∃ m,n=m+1 := ⟨n - 1,by omega⟩
   have hc := hs m (by omega)
   by_cases hx : nth l m=0
   ·rw [hx] at hc
    go_wp2
    go_round
    case rel => exact ⟨m,by omega,fun k hk => by by_cases e : k=m; (· rw [e]; exact hx); (· exact HZ.out k (by omega)),by go_num⟩
    case measure => simp [intOf]
   ·have hb : ((nth l m : Int) == 0)=false := by simp; omega
    go_wp2
    go_ret
    exact ⟨by rw [sig_unique hn HZ.out (Or.inr hx)]; rfl,rfl⟩
theorem bigTrim_none (ao : Option Addr) (cap : Nat) (w : World) :
  Calls Tryz.prog 154 #[.slice ao 0 cap] w fun e w' => e=.returned (.slice ao 0 cap)∧w'=w := by
 go_enter Tryz.func154,Tryz.ntmps154
 go_wp2
 go_loop [3] (fun v => v=.int .i64 0) (fun _ => 0)
 case atStart => rfl
 case round =>
  subst hrel
  go_wp2
  go_ret
  exact ⟨rfl,rfl⟩
theorem bigTrim_calls {w : World} {v : Value} {l : List Nat} (h : NatV w v l) :
  Calls Tryz.prog 154 #[v] w fun e w' => w'=w∧∃ v',e=.returned v'∧NatV w v' (strip l) := by
 obtain ⟨hl,h | ⟨b,off,cap,rfl,hc,hm,hlt,hs⟩⟩ := h
 ·obtain ⟨rfl,ao,cap,rfl⟩ := h
  refine (bigTrim_none ao cap w).mono ?_
  rintro e w' ⟨rfl,rfl⟩
  exact ⟨rfl,_,rfl,NatV.nil _ _ _⟩
 ·refine (bigTrim_some b off cap l w hc hm hs).mono ?_
  rintro e w' ⟨rfl,rfl⟩
  refine ⟨rfl,_,rfl,hl.strip,Or.inr ⟨b,off,cap,by rw [strip_length],?_,hm,hlt,hs.pre _⟩⟩
  rw [strip_length]; have := sig_le l; omega
theorem bigTrim_row {w : World} {g n : Nat} {l : List Nat} (h : Row w g l) (hl : Lim l) (hn : l.length=n) (hm : n≤9223372036854775807) :
  Calls Tryz.prog 154 #[.slice (some ⟨g,0,none⟩) n n] w fun e w' => w'=w∧∃ v',e=.returned v'∧NatN w v' (val l) := by
 subst hn
 have hv := NatV.ofRow h hl (Nat.le_refl _) (Nat.le_refl _) (by unfold maxLen; omega)
 rw [List.take_length] at hv
 refine (bigTrim_calls hv).mono ?_
 rintro e w' ⟨rfl,v',rfl,hv'⟩
 exact ⟨rfl,v',rfl,strip l,hv',strip_trim l,val_strip l⟩
end Go.Proofs.YtgkjeoeliehihaaGreatDoor
/- BB -/
namespace Go.Proofs.YtgkjeoeliehihaaGreatDoor
open Go.RowKit Cx
theorem bigWords_calls (x : Nat) (w : World) (hx : x < 18446744073709551616) :
  Calls Tryz.prog 129 #[.int .u64 x] w fun e w' => Below w.heap.size w w'∧∃ v,e=.returned v∧NatN w' v x := by
 have hr : Row (w.alloc (.cells #[.int .u32 ((x : Int) % 4294967296),.int .u32 ((x : Int) / 4294967296)] 148)) w.heap.size [x % 4294967296,x / 4294967296] := Row.new w [x % 4294967296,x / 4294967296]
 have hv : val [x % 4294967296,x / 4294967296]=x := by simp [val]; omega
 have HV : Hid (val [x % 4294967296,x / 4294967296]=x) := hv
 clear hv
 go_enter Tryz.func129,Tryz.ntmps129
 go_wp2_with fail
 refine (bigTrim_row hr (n := 2) (Lim.cons (by omega) (Lim.cons (by omega) Lim.nil)) rfl (by omega)).mono ?_
 rintro e w' ⟨rfl,v',rfl,hv'⟩
 go_wp2
 go_ret
 exact ⟨below_new _ _,_,rfl,by rw [HV.out] at hv'; exact hv'⟩
theorem bigAdd_walk {w : World} {ao bo : Option Addr} {ca cb b1 o1 b2 o2 : Nat} {la lb : List Nat} (ha : Sl w 51 ao ca la b1 o1) (hb : Sl w 51 bo cb lb b2 o2) (hla : la.length≤1099511627776) (hlb : lb.length≤la.length) :
  Calls Tryz.prog 127 #[.slice ao la.length ca,.slice bo lb.length cb] w fun e w' => Below w.heap.size w w'∧∃ v,e=.returned v∧NatN w' v (val la+val lb) := by
 have hmk := make_row (t := 51) (by kernel_rfl) (la.length+1) (by omega)
 have ec : ((la.length+1 : Nat) : Int)=(la.length : Int)+1 := by omega
 rw [ec] at hmk
 clear ec
 have HA : Hid (Sl w 51 ao ca la b1 o1) := ha
 have HB : Hid (Sl w 51 bo cb lb b2 o2) := hb
 clear ha hb
 go_enter Tryz.func127,Tryz.ntmps127
 go_wp2
 go_loopw [6,7] (fun c i wr => ∃ (k cy : Nat) (cur : List Nat),k≤la.length∧i=.int .i64 k∧c=.int .u64 cy∧cy≤1∧Row wr w.heap.size cur∧cur.length=la.length+1∧Lim cur∧val (cur.take k)+cy*pw k=val (la.take k)+val (lb.take k)∧Below w.heap.size w wr) (fun _ i _ => la.length - (intOf i).toNat)
 case atStart => exact ⟨0,0,List.replicate (la.length+1) 0,Nat.zero_le _,rfl,rfl,Nat.zero_le _,Row.new _ _,by simp,lim_zeros _,by simp [val],below_new _ _⟩
 case round =>
  obtain ⟨k,cy,cur,hk,rfl,rfl,hcy,hrow,hcl,hcm,hval,hbel⟩ := hrel
  have HV : Hid (val (cur.take k)+cy*pw k=val (la.take k)+val (lb.take k)) := hval
  have HL : Hid (cur.length=la.length+1) := hcl
  clear hval hcl
  have hfz := hrow.frozen k
  by_cases hlt : k < la.length
  ·have hia := HA.out.idx k hlt
   have hca := (hbel.cell (p := ⟨b1,o1+k,none⟩) (HA.out.lt (by omega))).trans (HA.out.seg k hlt)
   have hxa := nth_lt HA.out.lim k
   have hcc := hrow.cell (j := k) (by rw [HL.out]; omega)
   by_cases hlt2 : k < lb.length
   ·have hib := HB.out.idx k hlt2
    have hcb := (hbel.cell (p := ⟨b2,o2+k,none⟩) (HB.out.lt (by omega))).trans (HB.out.seg k hlt2)
    have hxb := nth_lt HB.out.lim k
    go_wp2
    go_roundw
    case rel =>
     refine ⟨k+1,(cy+nth la k+nth lb k) / 4294967296,cur.set k ((cy+nth la k+nth lb k) % 4294967296),by omega,by go_num,by go_num,by omega,hrow.set' _ _ (by omega),by rw [List.length_set,HL.out],hcm.set (by omega),?_,hbel.setCell (Nat.le_refl _) _⟩
     rw [val_set_take (by rw [HL.out]; omega),val_take_succ,val_take_succ,pw_succ]
     exact add_round _ _ _ _ _ _ _ HV.out
    case measure => simp [intOf]; omega
   ·go_wp2
    go_roundw
    case rel =>
     refine ⟨k+1,(cy+nth la k) / 4294967296,cur.set k ((cy+nth la k) % 4294967296),by omega,by go_num,by go_num,by omega,hrow.set' _ _ (by omega),by rw [List.length_set,HL.out],hcm.set (by omega),?_,hbel.setCell (Nat.le_refl _) _⟩
     rw [val_set_take (by rw [HL.out]; omega),val_take_succ,val_take_succ,pw_succ,nth_beyond (l := lb) (by omega)]
     exact add_round _ _ _ _ _ 0 _ HV.out
    case measure => simp [intOf]; omega
  ·obtain rfl : k=la.length := by omega
   have hcc := hrow.cell (j := la.length) (by rw [HL.out]; omega)
   go_wp2_with fail
   refine (bigTrim_row (hrow.set' la.length cy (by omega)) (hcm.set (by omega)) (by rw [List.length_set,HL.out]) (by omega)).mono ?_
   rintro e w' ⟨rfl,v',rfl,hv'⟩
   go_wp2
   go_ret
   refine ⟨hbel.setCell (Nat.le_refl _) _,v',rfl,?_⟩
   have hvv : val (cur.set la.length cy)=val la+val lb := by
    have h1 := HV.out
    rw [List.take_length,List.take_of_length_le hlb] at h1
    have h2 := val_set_take (l := cur) (k := la.length) (y := cy) (by rw [HL.out]; omega)
    rw [List.take_of_length_le (by rw [List.length_set,HL.out]; omega)] at h2
    rw [h2,Nat.mul_comm (pw _)]; exact h1
   rw [hvv] at hv'
   exact hv'
theorem bigAdd_swap {w : World} {ao bo : Option Addr} {ca cb b1 o1 b2 o2 : Nat} {la lb : List Nat} (ha : Sl w 51 ao ca la b1 o1) (hb : Sl w 51 bo cb lb b2 o2) (hla : la.length≤1099511627776) (hlt0 : lb.length < la.length) :
  Calls Tryz.prog 127 #[.slice bo lb.length cb,.slice ao la.length ca] w fun e w' => Below w.heap.size w w'∧∃ v,e=.returned v∧NatN w' v (val la+val lb) := by
 have hmk := make_row (t := 51) (by kernel_rfl) (la.length+1) (by omega)
 have ec : ((la.length+1 : Nat) : Int)=(la.length : Int)+1 := by omega
 rw [ec] at hmk
 clear ec
 have HA : Hid (Sl w 51 ao ca la b1 o1) := ha
 have HB : Hid (Sl w 51 bo cb lb b2 o2) := hb
 clear ha hb
 go_enter Tryz.func127,Tryz.ntmps127
 go_wp2
 go_loopw [6,7] (fun c i wr => ∃ (k cy : Nat) (cur : List Nat),k≤la.length∧i=.int .i64 k∧c=.int .u64 cy∧cy≤1∧Row wr w.heap.size cur∧cur.length=la.length+1∧Lim cur∧val (cur.take k)+cy*pw k=val (la.take k)+val (lb.take k)∧Below w.heap.size w wr) (fun _ i _ => la.length - (intOf i).toNat)
 case atStart => exact ⟨0,0,List.replicate (la.length+1) 0,Nat.zero_le _,rfl,rfl,Nat.zero_le _,Row.new _ _,by simp,lim_zeros _,by simp [val],below_new _ _⟩
 case round =>
  obtain ⟨k,cy,cur,hk,rfl,rfl,hcy,hrow,hcl,hcm,hval,hbel⟩ := hrel
  have HV : Hid (val (cur.take k)+cy*pw k=val (la.take k)+val (lb.take k)) := hval
  have HL : Hid (cur.length=la.length+1) := hcl
  clear hval hcl
  have hfz := hrow.frozen k
  by_cases hlt : k < la.length
  ·have hia := HA.out.idx k hlt
   have hca := (hbel.cell (p := ⟨b1,o1+k,none⟩) (HA.out.lt (by omega))).trans (HA.out.seg k hlt)
   have hxa := nth_lt HA.out.lim k
   have hcc := hrow.cell (j := k) (by rw [HL.out]; omega)
   by_cases hlt2 : k < lb.length
   ·have hib := HB.out.idx k hlt2
    have hcb := (hbel.cell (p := ⟨b2,o2+k,none⟩) (HB.out.lt (by omega))).trans (HB.out.seg k hlt2)
    have hxb := nth_lt HB.out.lim k
    go_wp2
    go_roundw
    case rel =>
     refine ⟨k+1,(cy+nth la k+nth lb k) / 4294967296,cur.set k ((cy+nth la k+nth lb k) % 4294967296),by omega,by go_num,by go_num,by omega,hrow.set' _ _ (by omega),by rw [List.length_set,HL.out],hcm.set (by omega),?_,hbel.setCell (Nat.le_refl _) _⟩
     rw [val_set_take (by rw [HL.out]; omega),val_take_succ,val_take_succ,pw_succ]
     exact add_round _ _ _ _ _ _ _ HV.out
    case measure => simp [intOf]; omega
   ·go_wp2
    go_roundw
    case rel =>
     refine ⟨k+1,(cy+nth la k) / 4294967296,cur.set k ((cy+nth la k) % 4294967296),by omega,by go_num,by go_num,by omega,hrow.set' _ _ (by omega),by rw [List.length_set,HL.out],hcm.set (by omega),?_,hbel.setCell (Nat.le_refl _) _⟩
     rw [val_set_take (by rw [HL.out]; omega),val_take_succ,val_take_succ,pw_succ,nth_beyond (l := lb) (by omega)]
     exact add_round _ _ _ _ _ 0 _ HV.out
    case measure => simp [intOf]; omega
  ·obtain rfl : k=la.length := by omega
   have hcc := hrow.cell (j := la.length) (by rw [HL.out]; omega)
   go_wp2_with fail
   refine (bigTrim_row (hrow.set' la.length cy (by omega)) (hcm.set (by omega)) (by rw [List.length_set,HL.out]) (by omega)).mono ?_
   rintro e w' ⟨rfl,v',rfl,hv'⟩
   go_wp2
   go_ret
   refine ⟨hbel.setCell (Nat.le_refl _) _,v',rfl,?_⟩
   have hvv : val (cur.set la.length cy)=val la+val lb := by
    have h1 := HV.out
    rw [List.take_length,List.take_of_length_le (l := lb) (by omega)] at h1
    have h2 := val_set_take (l := cur) (k := la.length) (y := cy) (by rw [HL.out]; omega)
    rw [List.take_of_length_le (by rw [List.length_set,HL.out]; omega)] at h2
    rw [h2,Nat.mul_comm (pw _)]; exact h1
   rw [hvv] at hv'
   exact hv'
theorem bigAdd_calls {w : World} {va vb : Value} {a b : Nat} (ha : NatN w va a) (hb : NatN w vb b) (hla : Small a) (hlb : Small b) :
  Calls Tryz.prog 127 #[va,vb] w fun e w' => Below w.heap.size w w'∧∃ v,e=.returned v∧NatN w' v (a+b) := by
 obtain ⟨la,ha,ta,rfl⟩ := ha
 obtain ⟨lb,hb,tb,rfl⟩ := hb
 obtain ⟨ao,ca,b1,o1,rfl,sa⟩ := ha.sl32
 obtain ⟨bo,cb,b2,o2,rfl,sb⟩ := hb.sl32
 have h1 := hla.len ta
 have h2 := hlb.len tb
 by_cases h : la.length < lb.length
 ·have := bigAdd_swap sb sa h2 h
  rwa [Nat.add_comm (val lb)] at this
 ·exact bigAdd_walk sa sb h1 (by omega)
theorem bigCmp_walk {w : World} {ao bo : Option Addr} {ca cb b1 o1 b2 o2 : Nat} {la lb : List Nat} (ha : Sl w 51 ao ca la b1 o1) (hb : Sl w 51 bo cb lb b2 o2) (hla : la.length≤1099511627776) (hll : la.length=lb.length) :
  Calls Tryz.prog 157 #[.slice ao la.length ca,.slice bo lb.length cb] w fun e w' => Below w.heap.size w w'∧∃ c : Int,e=.returned (.int .i64 c)∧(c < 0 ↔ val la < val lb)∧(c=0 ↔ val la=val lb)∧-1≤c∧c≤1 := by
 have hbb : ((la.length : Int) != (lb.length : Int))=false := by simp [hll]
 have HLL : Hid (la.length=lb.length) := hll
 clear hll
 have HA : Hid (Sl w 51 ao ca la b1 o1) := ha
 have HB : Hid (Sl w 51 bo cb lb b2 o2) := hb
 clear ha hb
 go_enter Tryz.func157,Tryz.ntmps157
 go_wp2
 go_loopw [5] (fun i wr => ∃ k : Nat,k≤la.length∧i=.int .i64 ((k : Int) - 1)∧(∀ j,k≤j→nth la j=nth lb j)∧Below w.heap.size w wr) (fun i _ => (intOf i+1).toNat)
 case atStart => exact ⟨la.length,Nat.le_refl _,rfl,fun j hj => by rw [nth_beyond hj,nth_beyond (by rw [← HLL.out]; exact hj)],Below.refl _ _⟩
 case round =>
  obtain ⟨k,hk,rfl,he,hbel⟩ := hrel
  have HE : Hid (∀ j,k≤j→nth la j=nth lb j) := he
  clear he
  by_cases h0 : k=0
  ·subst h0
   go_wp2
   go_ret
   refine ⟨hbel,0,rfl,?_⟩
   have := val_eq_of_nth (l := la) (m := lb) (fun j => HE.out j (Nat.zero_le _))
   omega
  ·obtain ⟨m,rfl⟩ : ∃ m,k=m+1 := ⟨k - 1,by omega⟩
   rw [show (((m+1 : Nat) : Int) - 1)=(m : Int) from by omega]
   have hia := HA.out.idx m (by omega)
   have hib := HB.out.idx m (by rw [← HLL.out]; omega)
   have hca := (hbel.cell (p := ⟨b1,o1+m,none⟩) (HA.out.lt (by omega))).trans (HA.out.seg m (by omega))
   have hcb := (hbel.cell (p := ⟨b2,o2+m,none⟩) (HB.out.lt (by rw [← HLL.out]; omega))).trans (HB.out.seg m (by rw [← HLL.out]; omega))
   rcases Nat.lt_trichotomy (nth la m) (nth lb m) with h | h | h
   ·have e0 : ((nth la m : Int) != (nth lb m : Int))=true := by simp; omega
    have e1 : (nth la m : Int) < nth lb m := by omega
    have HH : Hid (nth la m < nth lb m) := h
    clear h
    go_wp2
    go_quiet (fail)
    go_wp2
    go_quiet (fail)
    go_wp2
    go_ret
    have hv := val_lt_of_limb HA.out.lim HH.out (fun j hj => HE.out j (by omega)) HLL.out
    exact ⟨belowDrewN (belowDrewN hbel _) _,-1,rfl,by omega,by omega,by decide,by decide⟩
   ·have e0 : ((nth la m : Int) != (nth lb m : Int))=false := by simp; omega
    have HH : Hid (nth la m=nth lb m) := h
    clear h
    go_wp2
    go_quiet (fail)
    go_wp2
    go_roundw
    case rel =>
     refine ⟨m,by omega,by go_num,fun j hj => ?_,belowDrewN hbel _⟩
     by_cases e : j=m
     ·rw [e]; exact HH.out
     ·exact HE.out j (by omega)
    case measure => simp [intOf]
   ·have e0 : ((nth la m : Int) != (nth lb m : Int))=true := by simp; omega
    have e1 : ¬ (nth la m : Int) < nth lb m := by omega
    have HH : Hid (nth lb m < nth la m) := h
    clear h
    go_wp2
    go_quiet (fail)
    go_wp2
    go_quiet (fail)
    go_wp2
    go_ret
    have hv := val_lt_of_limb HB.out.lim HH.out (fun j hj => (HE.out j (by omega)).symm) HLL.out.symm
    exact ⟨belowDrewN (belowDrewN hbel _) _,1,rfl,by omega,by omega,by decide,by decide⟩
theorem bigCmp_lens (ao bo : Option Addr) (n m ca cb : Nat) (w : World) (h : n ≠ m) :
  Calls Tryz.prog 157 #[.slice ao n ca,.slice bo m cb] w fun e w' => e=.returned (.int .i64 (if n < m then -1 else 1))∧w'=w := by
 have hb : ((n : Int) != (m : Int))=true := by simp; omega
 by_cases hlt : n < m
 ·rw [if_pos hlt]
  go_enter Tryz.func157,Tryz.ntmps157
  go_wp2
  go_ret
  exact ⟨rfl,rfl⟩
 ·rw [if_neg hlt]
  go_enter Tryz.func157,Tryz.ntmps157
  go_wp2
  go_ret
  exact ⟨rfl,rfl⟩
theorem bigCmp_three {w : World} {va vb : Value} {a b : Nat} (ha : NatN w va a) (hb : NatN w vb b) (hla : Small a) (hlb : Small b) :
  Calls Tryz.prog 157 #[va,vb] w fun e w' => Below w.heap.size w w'∧∃ c : Int,e=.returned (.int .i64 c)∧(c < 0 ↔ a < b)∧(c=0 ↔ a=b)∧-1≤c∧c≤1 := by
 obtain ⟨la,ha,ta,rfl⟩ := ha
 obtain ⟨lb,hb,tb,rfl⟩ := hb
 obtain ⟨ao,ca,b1,o1,rfl,sa⟩ := ha.sl32
 obtain ⟨bo,cb,b2,o2,rfl,sb⟩ := hb.sl32
 have h1 := hla.len ta
 have h2 := hlb.len tb
 by_cases h : la.length=lb.length
 ·exact bigCmp_walk sa sb h1 h
 ·refine (bigCmp_lens ao bo _ _ ca cb w h).mono ?_
  rintro e w' ⟨rfl,rfl⟩
  refine ⟨Below.refl _ _,_,rfl,?_⟩
  rcases Nat.lt_or_ge la.length lb.length with hlt | hge
  ·have := val_lt_of_len sa.lim tb hlt
   rw [if_pos hlt]
   omega
  ·have := val_lt_of_len sb.lim ta (by omega)
   rw [if_neg (by omega)]
   omega
theorem bigCmp_calls {w : World} {va vb : Value} {a b : Nat} (ha : NatN w va a) (hb : NatN w vb b) (hla : Small a) (hlb : Small b) :
  Calls Tryz.prog 157 #[va,vb] w fun e w' => Below w.heap.size w w'∧∃ c : Int,e=.returned (.int .i64 c)∧(c < 0 ↔ a < b)∧(c=0 ↔ a=b) := by
 refine (bigCmp_three ha hb hla hlb).mono ?_
 rintro e w' ⟨hbl,c,rfl,h1,h2,_⟩
 exact ⟨hbl,c,rfl,h1,h2⟩
end Go.Proofs.YtgkjeoeliehihaaGreatDoor
/- BC -/
namespace Go.Proofs.YtgkjeoeliehihaaGreatDoor
open Go.RowKit Cx
theorem sub_wrap1 (p br : Nat) (hp : p < 4294967296) (hb : br≤1) :
  ∃ br' out : Nat,IntKind.u64.wrap ((p : Int) - br) / 9223372036854775808=(br' : Int)∧IntKind.u64.wrap ((p : Int) - br) % 4294967296=(out : Int)∧br'≤1∧out < 4294967296∧out+br=p+4294967296*br' := by
 simp only [IntKind.wrap_u64]
 by_cases h : br≤p
 ·exact ⟨0,p - br,by omega,by omega,by omega,by omega,by omega⟩
 ·exact ⟨1,p+4294967296 - br,by omega,by omega,by omega,by omega,by omega⟩
theorem sub_wrap2 (p q br : Nat) (hp : p < 4294967296) (hq : q < 4294967296) (hb : br≤1) :
  ∃ br' out : Nat,IntKind.u64.wrap (IntKind.u64.wrap ((p : Int) - br) - q) / 9223372036854775808=(br' : Int)∧IntKind.u64.wrap (IntKind.u64.wrap ((p : Int) - br) - q) % 4294967296=(out : Int)∧br'≤1∧out < 4294967296∧out+q+br=p+4294967296*br' := by
 simp only [IntKind.wrap_u64]
 by_cases h : q+br≤p
 ·exact ⟨0,p - q - br,by omega,by omega,by omega,by omega,by omega⟩
 ·exact ⟨1,p+4294967296 - q - br,by omega,by omega,by omega,by omega,by omega⟩
theorem sub_round (A B P c x y V o c' : Nat) (h : V+B=A+c*P) (e : o+y+c=x+4294967296*c') : V+P*o+(B+P*y)=A+P*x+c'*(4294967296*P) := by
 have h2 : P*o+P*y+P*c=P*x+P*(4294967296*c') := by rw [← Nat.mul_add,← Nat.mul_add,e,Nat.mul_add]
 have h3 : P*(4294967296*c')=c'*(4294967296*P) := by rw [Nat.mul_left_comm,Nat.mul_comm P c',Nat.mul_left_comm]
 have h4 : P*c=c*P := Nat.mul_comm _ _
 omega
theorem bigMul_walk {w : World} {ao bo : Option Addr} {ca cb b1 o1 b2 o2 : Nat} {la lb : List Nat} (ha : Sl w 51 ao ca la b1 o1) (hb : Sl w 51 bo cb lb b2 o2) (hla : la.length≤1099511627776) (hlb : lb.length≤1099511627776)
  (ea : la.length ≠ 0) (eb : lb.length ≠ 0) :
  Calls Tryz.prog 128 #[.slice ao la.length ca,.slice bo lb.length cb] w fun e w' => Below w.heap.size w w'∧∃ v,e=.returned v∧NatN w' v (val la*val lb) := by
 have hmk := make_row (t := 51) (by kernel_rfl) (la.length+lb.length) (by omega)
 have ec : ((la.length+lb.length : Nat) : Int)=(la.length : Int)+lb.length := by omega
 rw [ec] at hmk
 clear ec
 have HA : Hid (Sl w 51 ao ca la b1 o1) := ha
 have HB : Hid (Sl w 51 bo cb lb b2 o2) := hb
 clear ha hb
 have xa : ((la.length : Int) == 0)=false := beq_eq_false_iff_ne.mpr (by omega)
 have xb : ((lb.length : Int) == 0)=false := beq_eq_false_iff_ne.mpr (by omega)
 go_enter Tryz.func128,Tryz.ntmps128
 go_wp2
 go_loopw [6] (fun i wr => ∃ (k : Nat) (cur : List Nat),k≤la.length∧i=.int .i64 k∧Row wr w.heap.size cur∧cur.length=la.length+lb.length∧Lim cur∧val (cur.take (k+lb.length))=val (la.take k)*val lb∧Below w.heap.size w wr) (fun i _ => la.length - (intOf i).toNat)
 case atStart => exact ⟨0,List.replicate (la.length+lb.length) 0,Nat.zero_le _,rfl,Row.new _ _,by simp,lim_zeros _,by rw [List.take_replicate,val_zeros]; simp [val],below_new _ _⟩
 case round =>
  obtain ⟨k,cur,hk,rfl,hrow,hcl,hcm,hval,hbel⟩ := hrel
  have HV : Hid (val (cur.take (k+lb.length))=val (la.take k)*val lb) := hval
  have HL : Hid (cur.length=la.length+lb.length) := hcl
  clear hval hcl
  by_cases hlt : k < la.length
  ·have hia := HA.out.idx k hlt
   have hca := (hbel.cell (p := ⟨b1,o1+k,none⟩) (HA.out.lt (by omega))).trans (HA.out.seg k hlt)
   have hxa := nth_lt HA.out.lim k
   go_wp2
   go_loopw [7,8] (fun c i wq => ∃ (j cy : Nat) (cu : List Nat),j≤lb.length∧i=.int .i64 j∧c=.int .u64 cy∧cy < 4294967296∧Row wq w.heap.size cu∧cu.length=la.length+lb.length∧Lim cu∧val (cu.take (k+j))+cy*pw (k+j)=val (cur.take (k+j))+pw k*nth la k*val (lb.take j)∧(∀ r,k+j≤r→nth cu r=nth cur r)∧Below w.heap.size w wq) (fun _ i _ => lb.length - (intOf i).toNat)
   case atStart => exact ⟨0,0,cur,Nat.zero_le _,rfl,rfl,by omega,hrow,HL.out,hcm,by simp [val],fun _ _ => rfl,hbel⟩
   case round =>
    obtain ⟨j,cy,cu,hj,rfl,rfl,hcy,hrw,hcul,hcum,hv2,hag,hbl⟩ := hrel
    clear hrow hbel hca
    have hca := (hbl.cell (p := ⟨b1,o1+k,none⟩) (HA.out.lt (by omega))).trans (HA.out.seg k hlt)
    have HV2 : Hid (val (cu.take (k+j))+cy*pw (k+j)=val (cur.take (k+j))+pw k*nth la k*val (lb.take j)) := hv2
    have HL2 : Hid (cu.length=la.length+lb.length) := hcul
    have HG : Hid (∀ r,k+j≤r→nth cu r=nth cur r) := hag
    clear hv2 hcul hag
    by_cases hjl : j < lb.length
    ·have hib := HB.out.idx j hjl
     have hcb := (hbl.cell (p := ⟨b2,o2+j,none⟩) (HB.out.lt (by omega))).trans (HB.out.seg j hjl)
     have hxb := nth_lt HB.out.lim j
     have hcc := hrw.cell (j := k+j) (by rw [HL2.out]; omega)
     have hxc := nth_lt hcum (k+j)
     have hfz := hrw.frozen (k+j)
     obtain ⟨m1,hm1⟩ : ∃ m1,m1=nth la k*nth lb j := ⟨_,rfl⟩
     have hb1 : m1≤18446744065119617025 := by rw [hm1]; exact mul_le_max hxa hxb
     have hr1 : (nth la k : Int)*(nth lb j : Int)=(m1 : Int) := by rw [hm1]; exact (Int.natCast_mul _ _).symm
     have HM : Hid (m1=nth la k*nth lb j) := hm1
     clear hm1
     go_wp2
     go_quiet (fail)
     go_wp2
     go_roundw
     case rel =>
      refine ⟨j+1,(cy+(m1+nth cu (k+j))) / 4294967296,cu.set (k+j) ((cy+(m1+nth cu (k+j))) % 4294967296),by omega,by go_num,by go_num,by omega,Row.set' (w := wr.drewN _) hrw _ _ (by omega),by rw [List.length_set,HL2.out],hcum.set (by omega),?_,?_,(belowDrewN hbl _).setCell (Nat.le_refl _) _⟩
      ·rw [← Nat.add_assoc k j 1,val_set_take (by rw [HL2.out]; omega),val_take_succ,val_take_succ,pw_succ,← HG.out (k+j) (Nat.le_refl _)]
       exact mul_round _ _ _ _ _ (pw j) _ _ _ _ _ _ HV2.out (by rw [← HM.out]; omega) (pw_add _ _)
      ·intro r hr
       rw [nth_set_other (by omega)]
       exact HG.out r (by omega)
     case measure => simp [intOf]; omega
    ·obtain rfl : j=lb.length := by omega
     have hcc := hrw.cell (j := k+lb.length) (by rw [HL2.out]; omega)
     have hfz := hrw.frozen (k+lb.length)
     go_wp2
     go_roundw
     case rel =>
      refine ⟨k+1,cu.set (k+lb.length) cy,by omega,by go_num,hrw.set' _ _ (by omega),by rw [List.length_set,HL2.out],hcum.set (by omega),?_,hbl.setCell (Nat.le_refl _) _⟩
      have h1 := HV2.out
      rw [List.take_length,HV.out] at h1
      rw [show k+1+lb.length=k+lb.length+1 from by omega,val_set_take (by rw [HL2.out]; omega),val_take_succ,Nat.add_mul,Nat.mul_comm (pw (k+lb.length))]
      exact h1
     case measure => simp [intOf]; omega
  ·obtain rfl : k=la.length := by omega
   go_wp2_with fail
   refine (bigTrim_row hrow hcm HL.out (by omega)).mono ?_
   rintro e w' ⟨rfl,v',rfl,hv'⟩
   go_wp2
   go_ret
   refine ⟨hbel,v',rfl,?_⟩
   have h1 := HV.out
   rw [List.take_length,List.take_of_length_le (by rw [HL.out]; omega)] at h1
   rw [h1] at hv'
   exact hv'
theorem bigMul_nil1 (ao bo : Option Addr) (ca m cb : Nat) (w : World) :
  Calls Tryz.prog 128 #[.slice ao 0 ca,.slice bo m cb] w fun e w' => e=.returned (.slice none 0 0)∧w'=w := by
 go_enter Tryz.func128,Tryz.ntmps128
 go_wp2
 go_ret
 exact ⟨rfl,rfl⟩
theorem bigMul_nil2 (ao bo : Option Addr) (ca n cb : Nat) (w : World) (h : n ≠ 0) :
  Calls Tryz.prog 128 #[.slice ao n ca,.slice bo 0 cb] w fun e w' => e=.returned (.slice none 0 0)∧w'=w := by
 have xa : ((n : Int) == 0)=false := beq_eq_false_iff_ne.mpr (by omega)
 go_enter Tryz.func128,Tryz.ntmps128
 go_wp2
 go_ret
 exact ⟨rfl,rfl⟩
theorem bigMul_calls {w : World} {va vb : Value} {a b : Nat} (ha : NatN w va a) (hb : NatN w vb b) (hla : Small a) (hlb : Small b) :
  Calls Tryz.prog 128 #[va,vb] w fun e w' => Below w.heap.size w w'∧∃ v,e=.returned v∧NatN w' v (a*b) := by
 obtain ⟨la,ha,ta,rfl⟩ := ha
 obtain ⟨lb,hb,tb,rfl⟩ := hb
 obtain ⟨ao,ca,b1,o1,rfl,sa⟩ := ha.sl32
 obtain ⟨bo,cb,b2,o2,rfl,sb⟩ := hb.sl32
 by_cases h1 : la.length=0
 ·have e1 : la=[] := List.length_eq_zero_iff.mp h1
  subst e1
  refine (bigMul_nil1 ao bo ca _ cb w).mono ?_
  rintro e w' ⟨rfl,rfl⟩
  exact ⟨Below.refl _ _,_,rfl,[],NatV.nil _ _ _,Or.inl rfl,by simp [val]⟩
 by_cases h2 : lb.length=0
 ·have e1 : lb=[] := List.length_eq_zero_iff.mp h2
  subst e1
  refine (bigMul_nil2 ao bo ca _ cb w h1).mono ?_
  rintro e w' ⟨rfl,rfl⟩
  exact ⟨Below.refl _ _,_,rfl,[],NatV.nil _ _ _,Or.inl rfl,by simp [val]⟩
 exact bigMul_walk sa sb (hla.len ta) (hlb.len tb) h1 h2
theorem bigSub_walk {w : World} {ao bo : Option Addr} {ca cb b1 o1 b2 o2 : Nat} {la lb : List Nat} (ha : Sl w 51 ao ca la b1 o1) (hb : Sl w 51 bo cb lb b2 o2) (hla : la.length≤1099511627776) (hlb : lb.length≤la.length) (hle : val lb≤val la) :
  Calls Tryz.prog 158 #[.slice ao la.length ca,.slice bo lb.length cb] w fun e w' => Below w.heap.size w w'∧∃ v,e=.returned v∧NatN w' v (val la - val lb) := by
 have hmk := make_row (t := 51) (by kernel_rfl) la.length (by omega)
 have HA : Hid (Sl w 51 ao ca la b1 o1) := ha
 have HB : Hid (Sl w 51 bo cb lb b2 o2) := hb
 have HLE : Hid (val lb≤val la) := hle
 clear ha hb hle
 go_enter Tryz.func158,Tryz.ntmps158
 go_wp2
 go_loopw [6,7] (fun c i wr => ∃ (k br : Nat) (cur : List Nat),k≤la.length∧i=.int .i64 k∧c=.int .u64 br∧br≤1∧Row wr w.heap.size cur∧cur.length=la.length∧Lim cur∧val (cur.take k)+val (lb.take k)=val (la.take k)+br*pw k∧Below w.heap.size w wr) (fun _ i _ => la.length - (intOf i).toNat)
 case atStart => exact ⟨0,0,List.replicate la.length 0,Nat.zero_le _,rfl,rfl,Nat.zero_le _,Row.new _ _,by simp,lim_zeros _,by simp [val],below_new _ _⟩
 case round =>
  obtain ⟨k,br,cur,hk,rfl,rfl,hbr,hrow,hcl,hcm,hval,hbel⟩ := hrel
  have HV : Hid (val (cur.take k)+val (lb.take k)=val (la.take k)+br*pw k) := hval
  have HL : Hid (cur.length=la.length) := hcl
  clear hval hcl
  have hfz := hrow.frozen k
  by_cases hlt : k < la.length
  ·have hia := HA.out.idx k hlt
   have hca := (hbel.cell (p := ⟨b1,o1+k,none⟩) (HA.out.lt (by omega))).trans (HA.out.seg k hlt)
   have hxa := nth_lt HA.out.lim k
   have hcc := hrow.cell (j := k) (by rw [HL.out]; omega)
   by_cases hlt2 : k < lb.length
   ·have hib := HB.out.idx k hlt2
    have hcb := (hbel.cell (p := ⟨b2,o2+k,none⟩) (HB.out.lt (by omega))).trans (HB.out.seg k hlt2)
    have hxb := nth_lt HB.out.lim k
    obtain ⟨br',out,hw1,hw2,hb',ho',hsum⟩ := sub_wrap2 (nth la k) (nth lb k) br hxa hxb hbr
    go_wp2
    go_roundw
    case rel =>
     refine ⟨k+1,br',cur.set k out,by omega,by go_num,by go_num,hb',hrow.set' _ _ (by go_num),by rw [List.length_set,HL.out],hcm.set (by omega),?_,hbel.setCell (Nat.le_refl _) _⟩
     rw [val_set_take (by rw [HL.out]; omega),val_take_succ,val_take_succ,pw_succ]
     exact sub_round _ _ _ _ _ _ _ _ _ HV.out hsum
    case measure => simp [intOf]; omega
   ·obtain ⟨br',out,hw1,hw2,hb',ho',hsum⟩ := sub_wrap1 (nth la k) br hxa hbr
    go_wp2
    go_roundw
    case rel =>
     refine ⟨k+1,br',cur.set k out,by omega,by go_num,by go_num,hb',hrow.set' _ _ (by go_num),by rw [List.length_set,HL.out],hcm.set (by omega),?_,hbel.setCell (Nat.le_refl _) _⟩
     rw [val_set_take (by rw [HL.out]; omega),val_take_succ,val_take_succ,pw_succ,nth_beyond (l := lb) (by omega)]
     exact sub_round _ _ _ _ _ 0 _ _ _ HV.out (by omega)
    case measure => simp [intOf]; omega
  ·obtain rfl : k=la.length := by omega
   go_wp2_with fail
   refine (bigTrim_row hrow hcm HL.out (by omega)).mono ?_
   rintro e w' ⟨rfl,v',rfl,hv'⟩
   go_wp2
   go_ret
   refine ⟨hbel,v',rfl,?_⟩
   have hvv : val cur=val la - val lb := by
    have h1 := HV.out
    rw [List.take_length,List.take_of_length_le (l := lb) hlb,List.take_of_length_le (l := cur) (by rw [HL.out]; omega)] at h1
    have h2 := val_lt hcm
    rw [HL.out] at h2
    have h3 := HLE.out
    rcases Nat.lt_or_ge br 1 with h | h
    ·have : br=0 := by omega
     subst this; omega
    ·have : br=1 := by omega
     subst this; omega
   rw [hvv] at hv'
   exact hv'
theorem bigSub_calls {w : World} {va vb : Value} {a b : Nat} (ha : NatN w va a) (hb : NatN w vb b) (hla : Small a) (hle : b≤a) :
  Calls Tryz.prog 158 #[va,vb] w fun e w' => Below w.heap.size w w'∧∃ v,e=.returned v∧NatN w' v (a - b) := by
 obtain ⟨la,ha,ta,rfl⟩ := ha
 obtain ⟨lb,hb,tb,rfl⟩ := hb
 obtain ⟨ao,ca,b1,o1,rfl,sa⟩ := ha.sl32
 obtain ⟨bo,cb,b2,o2,rfl,sb⟩ := hb.sl32
 refine bigSub_walk sa sb (hla.len ta) ?_ hle
 rcases Nat.lt_or_ge la.length lb.length with h | h
 ·have := val_lt_of_len sa.lim tb h
  omega
 ·exact h
end Go.Proofs.YtgkjeoeliehihaaGreatDoor
/- BD -/
namespace Go.Proofs.YtgkjeoeliehihaaGreatDoor
open Go.RowKit Cx
theorem bor_shl (x y : Nat) (hx : x < 4294967296) (hy : y < 4294967296) : bits .or .u64 (y : Int) ((x : Int)*4294967296)=((x*4294967296+y : Nat) : Int) := by
 have := u64_or_nat y (x*4294967296) (by omega) (by omega)
 rw [Int.natCast_mul] at this
 rw [show ((4294967296 : Nat) : Int)=4294967296 from rfl] at this
 rw [this]
 congr 1
 have h := Nat.shiftLeft_add_eq_or_of_lt (i := 32) (b := y) (by omega) x
 rw [Nat.shiftLeft_eq] at h
 rw [Nat.or_comm]
 exact h.symm
theorem bigPlain_nil (ao : Option Addr) (ca : Nat) (w : World) :
  Calls Tryz.prog 178 #[.slice ao 0 ca] w fun e w' => e=.returned (.int .u64 0)∧w'=w := by
 go_enter Tryz.func178,Tryz.ntmps178
 go_wp2
 go_ret
 exact ⟨rfl,rfl⟩
theorem bigPlain_one {w : World} {ao : Option Addr} {ca b1 o1 x : Nat} (ha : Sl w 51 ao ca [x] b1 o1) :
  Calls Tryz.prog 178 #[.slice ao 1 ca] w fun e w' => e=.returned (.int .u64 x)∧w'=w := by
 have hia : ∀ wx,(Instr.indexAt 51 (.slice ao 1 ca) (.int .i64 0)).run Tryz.prog wx=.ok (.pointer (some ⟨b1,o1,none⟩)) wx := ha.idx 0 (by simp)
 have hca : w.cell? ⟨b1,o1,none⟩=some (.int .u32 (x : Int)) := ha.seg 0 (by simp)
 have hx : x < 4294967296 := ha.lim.head
 clear ha
 go_enter Tryz.func178,Tryz.ntmps178
 go_wp2
 go_ret
 exact ⟨rfl,rfl⟩
theorem bigPlain_two {w : World} {ao : Option Addr} {ca b1 o1 x y : Nat} (ha : Sl w 51 ao ca [x,y] b1 o1) :
  Calls Tryz.prog 178 #[.slice ao 2 ca] w fun e w' => e=.returned (.int .u64 ((y*4294967296+x : Nat) : Int))∧w'=w := by
 have hia : ∀ wx,(Instr.indexAt 51 (.slice ao 2 ca) (.int .i64 0)).run Tryz.prog wx=.ok (.pointer (some ⟨b1,o1,none⟩)) wx := ha.idx 0 (by simp)
 have hca : w.cell? ⟨b1,o1,none⟩=some (.int .u32 (x : Int)) := ha.seg 0 (by simp)
 have hib : ∀ wx,(Instr.indexAt 51 (.slice ao 2 ca) (.int .i64 1)).run Tryz.prog wx=.ok (.pointer (some ⟨b1,o1+1,none⟩)) wx := ha.idx 1 (by simp)
 have hcb : w.cell? ⟨b1,o1+1,none⟩=some (.int .u32 (y : Int)) := ha.seg 1 (by simp)
 have hx : x < 4294967296 := ha.lim.head
 have hy : y < 4294967296 := ha.lim.tail.head
 have hor := bor_shl y x hy hx
 clear ha
 go_enter Tryz.func178,Tryz.ntmps178
 go_wp2
 go_ret
 exact ⟨by go_num,rfl⟩
theorem bigSmall_walk {w : World} {ao : Option Addr} {ca b1 o1 d : Nat} {la : List Nat} (ha : Sl w 51 ao ca la b1 o1) (hla : la.length≤1099511627776) (hd : 0 < d) (hd2 : d < 4294967296) :
  Calls Tryz.prog 179 #[.slice ao la.length ca,.int .u32 d] w fun e w' => Below w.heap.size w w'∧∃ v,e=.returned (.tuple #[v,.int .u32 (val la % d : Nat)])∧NatN w' v (val la / d) := by
 have hmk := make_row (t := 51) (by kernel_rfl) la.length (by omega)
 have HA : Hid (Sl w 51 ao ca la b1 o1) := ha
 clear ha
 go_enter Tryz.func179,Tryz.ntmps179
 go_wp2
 go_loopw [7,8] (fun lf i wr => ∃ (k r : Nat) (cur : List Nat),k≤la.length∧i=.int .i64 ((k : Int) - 1)∧lf=.int .u64 r∧r < d∧Row wr w.heap.size cur∧cur.length=la.length∧Lim cur∧val (la.drop k)=d*val (cur.drop k)+r∧Below w.heap.size w wr) (fun _ i _ => (intOf i+1).toNat)
 case atStart => exact ⟨la.length,0,List.replicate la.length 0,Nat.le_refl _,rfl,rfl,hd,Row.new _ _,by simp,lim_zeros _,by rw [List.drop_length,List.drop_of_length_le (by simp)]; simp [val],below_new _ _⟩
 case round =>
  obtain ⟨k,r,cur,hk,rfl,rfl,hrd,hrow,hcl,hcm,hval,hbel⟩ := hrel
  have HV : Hid (val (la.drop k)=d*val (cur.drop k)+r) := hval
  have HL : Hid (cur.length=la.length) := hcl
  clear hval hcl
  by_cases h0 : k=0
  ·subst h0
   go_wp2_with fail
   refine (bigTrim_row hrow hcm HL.out (by omega)).mono ?_
   rintro e w' ⟨rfl,v',rfl,hv'⟩
   go_wp2
   go_ret2
   have h1 := HV.out
   rw [List.drop_zero,List.drop_zero] at h1
   have hq : val cur=val la / d := by
    rw [h1,Nat.mul_add_div hd,Nat.div_eq_of_lt hrd,Nat.add_zero]
   have hm2 : val la % d=r := by
    rw [h1,Nat.mul_add_mod,Nat.mod_eq_of_lt hrd]
   rw [hq] at hv'
   rw [hm2]
   refine ⟨hbel,v',by go_num,hv'⟩
  ·obtain ⟨m,rfl⟩ : ∃ m,k=m+1 := ⟨k - 1,by omega⟩
   rw [show (((m+1 : Nat) : Int) - 1)=(m : Int) from by omega]
   have hia := HA.out.idx m (by omega)
   have hca := (hbel.cell (p := ⟨b1,o1+m,none⟩) (HA.out.lt (by omega))).trans (HA.out.seg m (by omega))
   have hcc := hrow.cell (j := m) (by rw [HL.out]; omega)
   have hfz := hrow.frozen m
   have hx := nth_lt HA.out.lim m
   have hor := shl_or r (nth la m) (by omega) hx
   go_wp2
   go_roundw
   case rel =>
    have hq := limb_quot_lt r (nth la m) d hrd hx
    have e1 : (((r*4294967296+nth la m) % d : Nat) : Int)=((r : Int)*4294967296+(nth la m : Int)) % (d : Int) := cast_mod _ _ _
    have e2 : (((r*4294967296+nth la m) / d : Nat) : Int)=((r : Int)*4294967296+(nth la m : Int)) / (d : Int) := cast_div _ _ _
    refine ⟨m,(r*4294967296+nth la m) % d,cur.set m ((r*4294967296+nth la m) / d),by omega,rfl,by rw [e1],Nat.mod_lt _ hd,hrow.set' _ _ (by rw [← e2]; exact mod_id hq),by rw [List.length_set,HL.out],hcm.set hq,?_,hbel.setCell (Nat.le_refl _) _⟩
    rw [val_drop (l := la) (by omega),val_drop (l := cur.set m _) (by rw [List.length_set,HL.out]; omega),val_drop_set',nth_set_same (by rw [HL.out]; omega)]
    exact limb_round _ _ _ _ _ HV.out
   case measure => simp [intOf]
theorem bigSmall_calls {w : World} {va : Value} {a d : Nat} (ha : NatN w va a) (hla : Small a) (hd : 0 < d) (hd2 : d < 4294967296) :
  Calls Tryz.prog 179 #[va,.int .u32 d] w fun e w' => Below w.heap.size w w'∧∃ v,e=.returned (.tuple #[v,.int .u32 (a % d : Nat)])∧NatN w' v (a / d) := by
 obtain ⟨la,ha,ta,rfl⟩ := ha
 obtain ⟨ao,ca,b1,o1,rfl,sa⟩ := ha.sl32
 exact bigSmall_walk sa (hla.len ta) hd hd2
theorem bigPlain_calls {w : World} {va : Value} {a : Nat} (ha : NatN w va a) (h : a < 18446744073709551616) :
  Calls Tryz.prog 178 #[va] w fun e w' => e=.returned (.int .u64 a)∧w'=w := by
 obtain ⟨la,ha,ta,rfl⟩ := ha
 obtain ⟨ao,ca,b1,o1,rfl,sa⟩ := ha.sl32
 match la,ta,h,sa with
 | [],_,_,_ => exact bigPlain_nil ao ca w
 | [x],_,_,sa => rw [show val [x]=x from by simp [val]]; exact bigPlain_one sa
 | [x,y],_,_,sa =>
  rw [show val [x,y]=y*4294967296+x from by simp [val]; omega]
  exact bigPlain_two sa
 | x :: y :: z :: t,ta,h,_ =>
  have h1 := len_le (n := 2) ta (by simpa [pw] using h)
  simp at h1
end Go.Proofs.YtgkjeoeliehihaaGreatDoor
/- BE -/
namespace Go.Proofs.YtgkjeoeliehihaaGreatDoor
open Go.RowKit Cx
theorem wpList_append_run {P : Program} {w : World} {ops : Array Oper} {rest : List Oper} {o : Oper} {a : Act} {Q : Exit→Act→World→Prop}
  (hg : o.guard=none) (s x : Operand) (t : TypeId) (hop : o.op=Op.call { callee := Callee.builtin Builtin.append,args := #[s,x],argTypes := #[t,t] })
  (vs vx v : Value) (hs : a.eval s=vs) (hx : a.eval x=vx) (hrun : ∀ ty,(Builtin.append_ #[t,t] ty #[vs,vx]).run P w=.ok v w) (hk : wpList P ops Q rest (a.put o.dst v) w) :
  wpList P ops Q (o :: rest) a w := by
 refine wpList_plain hg fun K hK' => ?_
 unfold Oper.wp
 simp [execOp,hop,resolve,invoke,builtin,hs,hx,hrun,Result.andThen]
 exact hK' _ _ hk
theorem bigTwin_none (cap : Nat) (w : World) :
  Calls Tryz.prog 135 #[.slice none 0 cap] w fun e w' => e=.returned (.slice none 0 0)∧w'=w := by
 obtain ⟨i0,hi,hz0,hz1,hz2⟩ := info_parts Tryz.infoU32
 have hrun : ∀ ty,(Builtin.append_ #[51,51] ty #[.slice none 0 0,.slice none 0 cap]).run Tryz.prog w=.ok (.slice none 0 0) w := by
  intro ty
  have hs : Src Tryz.prog i0.size 51 (.slice none 0 cap) 0 [] w := Src.ofNil w Tryz.underlying51 cap
  rcases hs.kind with ⟨e',hk⟩ | hk <;> simp [Builtin.append_,run_underlying Tryz.underlying51,sizeOf,typeInfo,hi,hs.len,hs.cells]
 go_enter Tryz.func135,Tryz.ntmps135
 go_wp2_with (at_builtin; refine wpList_append_run rfl _ _ 51 rfl _ _ _ rfl rfl hrun ?_)
 go_ret
 exact ⟨rfl,rfl⟩
theorem bigTwin_some (ad : Addr) (cap : Nat) (l : List Nat) (w : World) (hl : l.length≤1099511627776) (hs : ∀ j,j < l.length→w.cell? (ad.add j)=some (.int .u32 (nth l j : Int))) (hlim : Lim l) :
  Calls Tryz.prog 135 #[.slice (some ad) l.length cap] w fun e w' => Below w.heap.size w w'∧∃ v,e=.returned v∧NatV w' v l := by
 obtain ⟨i0,hi,hz0,hz1,hz2⟩ := info_parts Tryz.infoU32
 have hown : w.ownsRow w.heap.size 148 1 (.slice none 0 0) 0 [] := ⟨rfl,Or.inl ⟨rfl,rfl⟩⟩
 have hnews : ∀ j u,(l.map fun x : Nat => Value.int .u32 (x : Int))[j]? = some u→w.cell? (ad.add j)=some u := by
  intro j u hj
  rw [List.getElem?_map,Option.map_eq_some_iff] at hj
  obtain ⟨x,hx,rfl⟩ := hj
  obtain ⟨hjl,hx⟩ := List.getElem?_eq_some_iff.1 hx
  rw [hs j hjl,nth_get hjl,hx]
 have h1 : ∀ u ∈ (l.map fun x : Nat => Value.int .u32 (x : Int)),u.oneCell'=true := by
  intro u hu
  obtain ⟨x,_,rfl⟩ := List.mem_map.1 hu
  rfl
 have HS : Hid (∀ j u,(l.map fun x : Nat => Value.int .u32 (x : Int))[j]? = some u→w.cell? (ad.add j)=some u) := hnews
 clear hnews hs
 go_enter Tryz.func135,Tryz.ntmps135
 go_wp2_with (at_builtin; refine wpList_append_own _ rfl _ _ 51 rfl w.heap.size 148 i0 (.int .u32 0) 1 4 Tryz.underlying51 hi hz0 hz1 hz2 rfl (by decide) (.slice none 0 0) 0 [] rfl hown ad l.length cap (l.map fun x : Nat => Value.int .u32 (x : Int)) rfl (by simp) HS.out h1 (by unfold maxLen; omega) (by omega) (by simp) ?_; intro v' w1 hown1 hgrow hnil)
 go_ret
 simp only [Nat.zero_add,List.nil_append] at hown1
 have hb : Below w.heap.size w w1 := (Below.refl _ w).grown hgrow (by simp) (fun k hk => by simp [Value.ownBlock] at hk)
 refine ⟨hb,v',rfl,?_⟩
 by_cases e : v'=.slice none 0 0
 ·subst e
  rcases hown1.2 with ⟨_,h0⟩ | ⟨g,cap,cur,h0,_⟩
  ·have e1 : l=[] := List.length_eq_zero_iff.mp h0
   subst e1
   exact NatV.nil _ _ _
  ·cases h0
 ·obtain ⟨g,cap',rfl,hb,hc,hm,hrow⟩ := row_of_owns hown1 e
  exact ⟨hlim,Or.inr ⟨g,0,cap',rfl,hc,hm,hrow.lt,hrow.seg⟩⟩
theorem bigTwin_calls {w : World} {va : Value} {a : Nat} (ha : NatN w va a) (hla : Small a) :
  Calls Tryz.prog 135 #[va] w fun e w' => Below w.heap.size w w'∧∃ v,e=.returned v∧NatN w' v a := by
 obtain ⟨l,⟨hlim,⟨rfl,ao,cap,rfl⟩ | ⟨b,off,cap,rfl,hc,hm,hlt,hs⟩⟩,ta,rfl⟩ := ha
 ·cases ao with
  | none =>
   refine (bigTwin_none cap w).mono ?_
   rintro e w' ⟨rfl,rfl⟩
   exact ⟨Below.refl _ _,_,rfl,[],NatV.nil _ _ _,ta,rfl⟩
  | some ad =>
   refine (bigTwin_some ad cap [] w (by simp) (fun j hj => absurd hj (by simp)) hlim).mono ?_
   rintro e w' ⟨hb,v,rfl,h⟩
   exact ⟨hb,v,rfl,[],h,ta,rfl⟩
 ·refine (bigTwin_some ⟨b,off,none⟩ cap l w (hla.len ta) (fun j hj => ?_) hlim).mono ?_
  ·have := hs j hj
   simp only [Addr.add]
   split
   ·rename_i e; rw [e] at this ⊢; exact this
   ·exact this
  ·rintro e w' ⟨hb,v,rfl,h⟩
   exact ⟨hb,v,rfl,l,h,ta,rfl⟩
end Go.Proofs.YtgkjeoeliehihaaGreatDoor
/- BF -/
namespace Go.Proofs.YtgkjeoeliehihaaGreatDoor
open Go.RowKit Cx
theorem bigLength_walk {w : World} {ao : Option Addr} {ca b1 o1 : Nat} {la : List Nat} (ha : Sl w 51 ao ca la b1 o1) (hla : la.length≤1099511627776) (m : Nat) (hm : la.length=m+1) (ht : nth la m ≠ 0) :
  Calls Tryz.prog 180 #[.slice ao la.length ca] w fun e w' => w'=w∧∃ n : Nat,e=.returned (.int .i64 ((m*32+n : Nat) : Int))∧1≤n∧n≤32∧2 ^ (n - 1)≤nth la m∧nth la m < 2 ^ n := by
 have HA : Hid (Sl w 51 ao ca la b1 o1) := ha
 clear ha
 have xa : ((la.length : Int) == 0)=false := beq_eq_false_iff_ne.mpr (by omega)
 have hi : ((la.length : Int) - 1)=(m : Int) := by omega
 have hia := HA.out.idx m (by omega)
 have hca := HA.out.seg m (by omega)
 have hxa := nth_lt HA.out.lim m
 obtain ⟨x,hx⟩ : ∃ x,x=nth la m := ⟨_,rfl⟩
 rw [← hx] at hca hxa ht ⊢
 clear hx
 have HM : Hid (la.length=m+1) := hm
 clear hm
 go_enter Tryz.func180,Tryz.ntmps180
 go_wp2
 go_loop [3,4] (fun n t => ∃ k : Nat,n=.int .i64 (k : Int)∧t=.int .u32 ((x / 2 ^ k : Nat) : Int)∧(1≤k→2 ^ (k - 1)≤x)) (fun _ t => (intOf t).toNat)
 case atStart => exact ⟨0,rfl,by simp,fun h => absurd h (by omega)⟩
 case round =>
  obtain ⟨k,rfl,rfl,hk⟩ := hrel
  have hk32 : k≤32 := by
   rcases Nat.lt_or_ge 32 k with h | h
   ·have h1 := hk (by omega)
    have h2 : 2 ^ 32≤2 ^ (k - 1) := Nat.pow_le_pow_right (by omega) (by omega)
    omega
   ·exact h
  obtain ⟨y,hy⟩ : ∃ y,y=x / 2 ^ k := ⟨_,rfl⟩
  rw [← hy]
  have hyx : y < 4294967296 := by rw [hy]; exact Nat.lt_of_le_of_lt (Nat.div_le_self _ _) hxa
  have HY : Hid (y=x / 2 ^ k) := hy
  have HK : Hid (1≤k→2 ^ (k - 1)≤x) := hk
  clear hy hk
  by_cases h0 : y=0
  ·subst h0
   go_wp2
   go_ret
   have h1 : x < 2 ^ k := by
    have h2 := HY.out
    rcases Nat.div_eq_zero_iff.1 h2.symm with h3 | h3
    ·have := Nat.two_pow_pos k; omega
    ·exact h3
   have hk1 : 1≤k := by
    rcases Nat.eq_zero_or_pos k with h | h
    ·subst h; simp at h1; omega
    ·exact h
   exact ⟨rfl,k,by go_num,hk1,hk32,HK.out hk1,h1⟩
  ·have hne : ((y : Int) != 0)=true := by rw [bne_iff_ne]; omega
   go_wp2
   go_round
   case rel =>
    refine ⟨k+1,by go_num,?_,fun _ => ?_⟩
    ·rw [Nat.pow_succ,← Nat.div_div_eq_div_mul,← HY.out]; go_num
    ·have h3 := HY.out
     have h4 : 1≤x / 2 ^ k := by omega
     rw [Nat.add_sub_cancel]
     exact (Nat.one_le_div_iff (Nat.two_pow_pos k)).1 h4
   case measure => simp [intOf]; omega
theorem nth_zeros (n j : Nat) : nth (List.replicate n 0) j=0 := by
 rcases Nat.lt_or_ge j n with h | h
 ·rw [nth_get (by simpa using h),List.getElem_replicate]
 ·exact nth_beyond (by simpa using h)
theorem bigLeft_walk {w : World} {ao : Option Addr} {ca b1 o1 sh : Nat} {la : List Nat} (ha : Sl w 51 ao ca la b1 o1) (hla : la.length≤1099511627776) (hne : la.length ≠ 0) (hsh : sh < 32) :
  Calls Tryz.prog 181 #[.slice ao la.length ca,.int .u64 sh] w fun e w' => Below w.heap.size w w'∧∃ v,e=.returned v∧NatN w' v (val la*2 ^ sh) := by
 have hmk := make_row (t := 51) (by kernel_rfl) (la.length+1) (by omega)
 have ec : ((la.length+1 : Nat) : Int)=(la.length : Int)+1 := by omega
 rw [ec] at hmk
 clear ec
 have HA : Hid (Sl w 51 ao ca la b1 o1) := ha
 clear ha
 have xa : ((la.length : Int) == 0)=false := beq_eq_false_iff_ne.mpr (by omega)
 have xd : (sh : Int) / 32=0 := by omega
 have xm : (sh : Int) % 32=sh := by omega
 go_enter Tryz.func181,Tryz.ntmps181
 go_wp2
 go_loopw [8] (fun i wr => ∃ (k : Nat) (cur : List Nat),k≤la.length∧i=.int .i64 k∧Row wr w.heap.size cur∧cur.length=la.length+1∧Lim cur∧nth cur k < 2 ^ sh∧(∀ j,k < j→nth cur j=0)∧val (cur.take k)+nth cur k*pw k=val (la.take k)*2 ^ sh∧Below w.heap.size w wr) (fun i _ => la.length - (intOf i).toNat)
 case atStart => exact ⟨0,List.replicate (la.length+1) 0,Nat.zero_le _,rfl,Row.new _ _,by simp,lim_zeros _,by rw [nth_zeros]; exact Nat.two_pow_pos _,fun j _ => nth_zeros _ _,by rw [nth_zeros]; simp [val],below_new _ _⟩
 case round =>
  obtain ⟨k,cur,hk,rfl,hrow,hcl,hcm,hcy,hz,hval,hbel⟩ := hrel
  have HV : Hid (val (cur.take k)+nth cur k*pw k=val (la.take k)*2 ^ sh) := hval
  have HL : Hid (cur.length=la.length+1) := hcl
  have HZ : Hid (∀ j,k < j→nth cur j=0) := hz
  clear hval hcl hz
  by_cases hlt : k < la.length
  ·have hia := HA.out.idx k hlt
   have hca := (hbel.cell (p := ⟨b1,o1+k,none⟩) (HA.out.lt (by omega))).trans (HA.out.seg k hlt)
   have hxa := nth_lt HA.out.lim k
   have hcc := hrow.cell (j := k) (by rw [HL.out]; omega)
   have hcd := hrow.cell (j := k+1) (by rw [HL.out]; omega)
   rw [HZ.out (k+1) (by omega)] at hcd
   have hfz := hrow.frozen k
   have hfy := hrow.frozen (k+1)
   obtain ⟨cy,hcye⟩ : ∃ cy,cy=nth cur k := ⟨_,rfl⟩
   rw [← hcye] at hcc hcy
   have HCY : Hid (cy=nth cur k) := hcye
   clear hcye
   obtain ⟨m1,hm1⟩ : ∃ m1,m1=nth la k*2 ^ sh := ⟨_,rfl⟩
   have h2p := two_pow_le hsh
   have hcy2 : cy < 4294967296 := by omega
   have hb1 : m1≤9223372034707292160 := by
    rw [hm1]
    exact Nat.le_trans (Nat.mul_le_mul (show nth la k≤4294967295 by omega) h2p) (by omega)
   have hr1 : (nth la k : Int)*2 ^ sh=(m1 : Int) := by rw [hm1,Int.natCast_mul,Int.natCast_pow]; rfl
   have ho1 : bits .or .u32 (cy : Int) ((m1 : Int) % 4294967296)=((m1 % 4294967296+cy : Nat) : Int) := by
    have := u32_or_nat cy (m1 % 4294967296) (by omega) (by omega)
    rw [hm1] at this ⊢
    rw [Nat.or_comm,shl_low hsh hcy] at this
    exact this
   have ho2 : bits .or .u32 0 ((m1 : Int) / 4294967296)=((m1 / 4294967296 : Nat) : Int) := by
    have := u32_or_nat 0 (m1 / 4294967296) (by omega) (by omega)
    rw [Nat.zero_or] at this
    exact this
   have HM : Hid (m1=nth la k*2 ^ sh) := hm1
   have HLT : Hid (m1 % 4294967296+cy < 4294967296) := by show m1 % 4294967296+cy < 4294967296; rw [hm1]; exact shl_lt hsh hcy
   have HCL : Hid (m1 / 4294967296 < 2 ^ sh) := by
    show m1 / 4294967296 < 2 ^ sh
    rw [Nat.div_lt_iff_lt_mul (by omega),hm1,Nat.mul_comm (2 ^ sh)]
    exact Nat.mul_lt_mul_of_pos_right hxa (Nat.two_pow_pos _)
   clear hm1 h2p
   go_wp2
   go_roundw
   case rel =>
    refine ⟨k+1,(cur.set k (m1 % 4294967296+cy)).set (k+1) (m1 / 4294967296),by omega,by go_num,(hrow.set' _ _ rfl).set' _ _ rfl,by rw [List.length_set,List.length_set,HL.out],(hcm.set HLT.out).set (by omega),?_,?_,?_,(hbel.setCell (Nat.le_refl _) _).setCell (Nat.le_refl _) _⟩
    ·rw [nth_set_same (by rw [List.length_set,HL.out]; omega)]; exact HCL.out
    ·intro j hj
     rw [nth_set_other (by omega),nth_set_other (by omega)]
     exact HZ.out j (by omega)
    ·have h1 := HV.out
     rw [← HCY.out] at h1
     rw [nth_set_same (by rw [List.length_set,HL.out]; omega),List.take_set_of_le (Nat.le_refl _),val_set_take (by rw [HL.out]; omega),val_take_succ,pw_succ]
     exact shl_round _ _ _ _ _ _ _ h1 HM.out
   case measure => simp [intOf]; omega
  ·obtain rfl : k=la.length := by omega
   go_wp2_with fail
   refine (bigTrim_row hrow hcm HL.out (by omega)).mono ?_
   rintro e w' ⟨rfl,v',rfl,hv'⟩
   go_wp2
   go_ret
   refine ⟨hbel,v',rfl,?_⟩
   have h1 := HV.out
   rw [List.take_length,Nat.mul_comm (nth cur la.length),← val_take_succ,List.take_of_length_le (by rw [HL.out]; omega)] at h1
   rw [h1] at hv'
   exact hv'
end Go.Proofs.YtgkjeoeliehihaaGreatDoor
/- BG -/
namespace Go.Proofs.YtgkjeoeliehihaaGreatDoor
open Go.RowKit Cx
theorem bigLeft_nil (ao : Option Addr) (ca sh : Nat) (w : World) :
  Calls Tryz.prog 181 #[.slice ao 0 ca,.int .u64 sh] w fun e w' => e=.returned (.slice none 0 0)∧w'=w := by
 go_enter Tryz.func181,Tryz.ntmps181
 go_wp2
 go_ret
 exact ⟨rfl,rfl⟩
theorem bigLeft_calls {w : World} {va : Value} {a sh : Nat} (ha : NatN w va a) (hla : Small a) (hsh : sh < 32) :
  Calls Tryz.prog 181 #[va,.int .u64 sh] w fun e w' => Below w.heap.size w w'∧∃ v,e=.returned v∧NatN w' v (a*2 ^ sh) := by
 obtain ⟨la,ha,ta,rfl⟩ := ha
 obtain ⟨ao,ca,b1,o1,rfl,sa⟩ := ha.sl32
 by_cases h1 : la.length=0
 ·have e1 : la=[] := List.length_eq_zero_iff.mp h1
  subst e1
  refine (bigLeft_nil ao ca sh w).mono ?_
  rintro e w' ⟨rfl,rfl⟩
  exact ⟨Below.refl _ _,_,rfl,[],NatV.nil _ _ _,Or.inl rfl,by simp [val]⟩
 exact bigLeft_walk sa (hla.len ta) h1 hsh
theorem shr_round (S V l0 A L P r x L1 : Nat) (h : S*V+l0=A+L*P) (e : S*r+L=x+4294967296*L1) : S*(V+P*r)+l0=A+P*x+L1*(4294967296*P) := by
 have h2 : P*(S*r)+P*L=P*x+P*(4294967296*L1) := by rw [← Nat.mul_add,← Nat.mul_add,e]
 have h3 : P*(4294967296*L1)=L1*(4294967296*P) := by rw [Nat.mul_left_comm,Nat.mul_comm P L1,Nat.mul_left_comm]
 have h4 : S*(V+P*r)=S*V+P*(S*r) := by rw [Nat.mul_add,Nat.mul_left_comm]
 have h5 : P*L=L*P := Nat.mul_comm _ _
 omega
theorem shr_limb {sh x y : Nat} (hsh : sh < 32) (hx : x < 4294967296) : 2 ^ sh*((y*4294967296+x) / 2 ^ sh % 4294967296)+x % 2 ^ sh=x+4294967296*(y % 2 ^ sh) := by
 obtain ⟨t,ht⟩ : ∃ t,4294967296=2 ^ sh*t := ⟨2 ^ (32 - sh),by rw [← Nat.pow_add,show sh+(32 - sh)=32 from by omega]⟩
 have hS := Nat.two_pow_pos sh
 obtain ⟨S,hSe⟩ : ∃ S,S=2 ^ sh := ⟨_,rfl⟩
 rw [← hSe] at ht hS ⊢
 have e1 : (y*4294967296+x) / S=y*t+x / S := by
  rw [ht,Nat.mul_left_comm,Nat.add_comm,Nat.add_mul_div_left _ _ hS,Nat.add_comm]
 have hxt : x / S < t := (Nat.div_lt_iff_lt_mul hS).2 (by rw [Nat.mul_comm,← ht]; exact hx)
 have e2 : (y*t+x / S) % 4294967296=y % S*t+x / S := by
  have hy := Nat.div_add_mod y S
  have e3 : y*t+x / S=(y % S*t+x / S)+4294967296*(y / S) := by
   have : y*t=S*(y / S)*t+y % S*t := by rw [← Nat.add_mul,hy]
   have h6 : S*(y / S)*t=4294967296*(y / S) := by rw [ht,Nat.mul_right_comm]
   omega
  rw [e3,Nat.add_mul_mod_self_left]
  refine Nat.mod_eq_of_lt ?_
  have h7 : y % S+1≤S := Nat.mod_lt _ hS
  have h8 := Nat.mul_le_mul_right t h7
  rw [Nat.add_mul,Nat.one_mul,← ht] at h8
  omega
 rw [e1,e2]
 have hx2 := Nat.div_add_mod x S
 have h9 : S*(y % S*t+x / S)=4294967296*(y % S)+S*(x / S) := by
  rw [Nat.mul_add,ht,Nat.mul_left_comm,Nat.mul_comm (y % S)]
 omega
theorem bigRight_walk {w : World} {ao : Option Addr} {ca b1 o1 sh : Nat} {la : List Nat} (ha : Sl w 51 ao ca la b1 o1) (hla : la.length≤1099511627776) (hne : 0 < la.length) (hsh : sh < 32) :
  Calls Tryz.prog 182 #[.slice ao la.length ca,.int .u64 sh] w fun e w' => Below w.heap.size w w'∧∃ v,e=.returned v∧NatN w' v (val la / 2 ^ sh) := by
 have hmk := make_row (t := 51) (by kernel_rfl) la.length (by omega)
 have HA : Hid (Sl w 51 ao ca la b1 o1) := ha
 clear ha
 have xe : ¬ la=[] := by intro e; subst e; simp at hne
 have xd : (sh : Int) / 32=0 := by omega
 have xm : (sh : Int) % 32=sh := by omega
 go_enter Tryz.func182,Tryz.ntmps182
 go_wp2
 go_loopw [8] (fun i wr => ∃ (k : Nat) (cur : List Nat),k≤la.length∧i=.int .i64 k∧Row wr w.heap.size cur∧cur.length=la.length∧Lim cur∧2 ^ sh*val (cur.take k)+nth la 0 % 2 ^ sh=val (la.take k)+nth la k % 2 ^ sh*pw k∧Below w.heap.size w wr) (fun i _ => la.length - (intOf i).toNat)
 case atStart => exact ⟨0,List.replicate la.length 0,Nat.zero_le _,rfl,Row.new _ _,by simp,lim_zeros _,by simp [val,pw],below_new _ _⟩
 case round =>
  obtain ⟨k,cur,hk,rfl,hrow,hcl,hcm,hval,hbel⟩ := hrel
  have HV : Hid (2 ^ sh*val (cur.take k)+nth la 0 % 2 ^ sh=val (la.take k)+nth la k % 2 ^ sh*pw k) := hval
  have HL : Hid (cur.length=la.length) := hcl
  clear hval hcl
  by_cases hlt : k < la.length
  ·have hia := HA.out.idx k hlt
   have hca := (hbel.cell (p := ⟨b1,o1+k,none⟩) (HA.out.lt (by omega))).trans (HA.out.seg k hlt)
   have hxa := nth_lt HA.out.lim k
   have hcc := hrow.cell (j := k) (by rw [HL.out]; omega)
   have hfz := hrow.frozen k
   by_cases hlt2 : k+1 < la.length
   ·have hib : ∀ wx,(Instr.indexAt 51 (.slice ao la.length ca) (.int .i64 ((k : Int)+1))).run Tryz.prog wx=.ok (.pointer (some ⟨b1,o1+(k+1),none⟩)) wx := HA.out.idx (k+1) hlt2
    have hcb := (hbel.cell (p := ⟨b1,o1+(k+1),none⟩) (HA.out.lt (by omega))).trans (HA.out.seg (k+1) hlt2)
    have hxb := nth_lt HA.out.lim (k+1)
    have hor := bor_shl (nth la (k+1)) (nth la k) hxb hxa
    obtain ⟨q,hq⟩ : ∃ q,q=(nth la (k+1)*4294967296+nth la k) / 2 ^ sh := ⟨_,rfl⟩
    have hq1 : ((nth la (k+1) : Int)*4294967296+(nth la k : Int)) / 2 ^ sh=(q : Int) := by rw [hq,Int.natCast_ediv,Int.natCast_pow,Int.natCast_add,Int.natCast_mul]; rfl
    have HQ : Hid (q=(nth la (k+1)*4294967296+nth la k) / 2 ^ sh) := hq
    clear hq
    go_wp2
    go_roundw
    case rel =>
     refine ⟨k+1,cur.set k (q % 4294967296),by omega,by go_num,hrow.set' _ _ (by go_num),by rw [List.length_set,HL.out],hcm.set (by omega),?_,hbel.setCell (Nat.le_refl _) _⟩
     rw [val_set_take (by rw [HL.out]; omega),val_take_succ,pw_succ,HQ.out]
     exact shr_round _ _ _ _ _ _ _ _ _ HV.out (shr_limb hsh hxa)
    case measure => simp [intOf]; omega
   ·obtain ⟨q,hq⟩ : ∃ q,q=nth la k / 2 ^ sh := ⟨_,rfl⟩
    have hq1 : ((nth la k : Int)) / 2 ^ sh=(q : Int) := by rw [hq,Int.natCast_ediv,Int.natCast_pow]; rfl
    have hql : q < 4294967296 := by rw [hq]; exact Nat.lt_of_le_of_lt (Nat.div_le_self _ _) hxa
    have HQ : Hid (q=nth la k / 2 ^ sh) := hq
    clear hq
    go_wp2
    go_roundw
    case rel =>
     refine ⟨k+1,cur.set k q,by omega,by go_num,hrow.set' _ _ (by go_num),by rw [List.length_set,HL.out],hcm.set (by omega),?_,hbel.setCell (Nat.le_refl _) _⟩
     rw [val_set_take (by rw [HL.out]; omega),val_take_succ,pw_succ,nth_beyond (l := la) (k := k+1) (by omega),HQ.out]
     have h1 := shr_limb (y := 0) hsh hxa
     rw [Nat.zero_mul,Nat.zero_add,Nat.mod_eq_of_lt (Nat.lt_of_le_of_lt (Nat.div_le_self _ _) hxa)] at h1
     exact shr_round _ _ _ _ _ _ _ _ _ HV.out h1
    case measure => simp [intOf]; omega
  ·obtain rfl : k=la.length := by omega
   go_wp2_with fail
   refine (bigTrim_row hrow hcm HL.out (by omega)).mono ?_
   rintro e w' ⟨rfl,v',rfl,hv'⟩
   go_wp2
   go_ret
   refine ⟨hbel,v',rfl,?_⟩
   have h1 := HV.out
   rw [List.take_length,nth_beyond (l := la) (k := la.length) (Nat.le_refl _),Nat.zero_mod,Nat.zero_mul,Nat.add_zero,List.take_of_length_le (by rw [HL.out]; omega)] at h1
   have h2 : val cur=val la / 2 ^ sh := by
    rw [← h1,Nat.mul_add_div (Nat.two_pow_pos _),Nat.div_eq_of_lt (Nat.mod_lt _ (Nat.two_pow_pos _)),Nat.add_zero]
   rw [h2] at hv'
   exact hv'
theorem bigRight_nil (ao : Option Addr) (ca sh : Nat) (w : World) (hsh : sh < 32) :
  Calls Tryz.prog 182 #[.slice ao 0 ca,.int .u64 sh] w fun e w' => e=.returned (.slice none 0 0)∧w'=w := by
 have xd : (sh : Int) / 32=0 := by omega
 have xm : (sh : Int) % 32=sh := by omega
 go_enter Tryz.func182,Tryz.ntmps182
 go_wp2
 go_ret
 exact ⟨rfl,rfl⟩
theorem bigRight_calls {w : World} {va : Value} {a sh : Nat} (ha : NatN w va a) (hla : Small a) (hsh : sh < 32) :
  Calls Tryz.prog 182 #[va,.int .u64 sh] w fun e w' => Below w.heap.size w w'∧∃ v,e=.returned v∧NatN w' v (a / 2 ^ sh) := by
 obtain ⟨la,ha,ta,rfl⟩ := ha
 obtain ⟨ao,ca,b1,o1,rfl,sa⟩ := ha.sl32
 by_cases h1 : la.length=0
 ·have e1 : la=[] := List.length_eq_zero_iff.mp h1
  subst e1
  refine (bigRight_nil ao ca sh w hsh).mono ?_
  rintro e w' ⟨rfl,rfl⟩
  exact ⟨Below.refl _ _,_,rfl,[],NatV.nil _ _ _,Or.inl rfl,by simp [val]⟩
 exact bigRight_walk sa (hla.len ta) (by omega) hsh
end Go.Proofs.YtgkjeoeliehihaaGreatDoor
/- BH -/
namespace Go.Proofs.YtgkjeoeliehihaaGreatDoor
open Go.RowKit Cx
theorem bigDiv_less {w : World} {ao bo : Option Addr} {ca cb n m a b : Nat} (ha : NatN w (.slice ao n ca) a) (hb : NatN w (.slice bo m cb) b) (sa : Small a) (sb : Small b) (h : a < b) (hm : m ≠ 0) :
  Calls Tryz.prog 156 #[.slice ao n ca,.slice bo m cb] w fun e w' => Below w.heap.size w w'∧∃ v1 v2,e=.returned (.tuple #[v1,v2])∧NatN w' v1 (a / b)∧NatN w' v2 (a % b) := by
 have HC : Hid _ := bigCmp_calls ha hb sa sb
 have HA : Hid (NatN w (.slice ao n ca) a) := ha
 have HS : Hid (Small a) := sa
 clear ha hb sa sb
 have xa : ((m : Int) == 0)=false := beq_eq_false_iff_ne.mpr (by omega)
 go_enter Tryz.func156,Tryz.ntmps156
 go_wp2_with fail
 refine Calls.mono HC.out ?_
 rintro e w1 ⟨hb1,c,rfl,hc1,hc2⟩
 have hc : c < 0 := hc1.2 h
 clear hc1 hc2
 go_wp2_with fail
 refine (bigTwin_calls (HA.out.below hb1) HS.out).mono ?_
 rintro e w2 ⟨hb2,v,rfl,hv⟩
 go_wp2
 go_ret2
 exact ⟨hb1.trans (hb2.mono hb1.size),_,_,rfl,by rw [Nat.div_eq_of_lt h]; exact ⟨[],NatV.nil _ _ _,Or.inl rfl,rfl⟩,by rw [Nat.mod_eq_of_lt h]; exact hv⟩
theorem bigDiv_short {w : World} {ao bo : Option Addr} {ca cb n m a b : Nat} (ha : NatN w (.slice ao n ca) a) (hb : NatN w (.slice bo m cb) b) (sa : Small a) (sb : Small b) (h : b≤a) (hb0 : 0 < b) (hm : m ≠ 0) (hn : n≤2) (ha64 : a < 18446744073709551616) :
  Calls Tryz.prog 156 #[.slice ao n ca,.slice bo m cb] w fun e w' => Below w.heap.size w w'∧∃ v1 v2,e=.returned (.tuple #[v1,v2])∧NatN w' v1 (a / b)∧NatN w' v2 (a % b) := by
 have HC : Hid _ := bigCmp_calls ha hb sa sb
 have HA : Hid (NatN w (.slice ao n ca) a) := ha
 have HB : Hid (NatN w (.slice bo m cb) b) := hb
 clear ha hb sa sb
 have xa : ((m : Int) == 0)=false := beq_eq_false_iff_ne.mpr (by omega)
 go_enter Tryz.func156,Tryz.ntmps156
 go_wp2_with fail
 refine Calls.mono HC.out ?_
 rintro e w1 ⟨hbl,c,rfl,hc1,hc2⟩
 have hc : ¬ c < 0 := fun h => by have := hc1.1 h; omega
 clear hc1 hc2
 go_wp2_with fail
 refine (bigPlain_calls (HA.out.below hbl) ha64).mono ?_
 rintro e w2 ⟨rfl,hw2⟩
 have hw3 := hw2.symm; subst hw3; clear hw2
 go_wp2_with fail
 refine (bigPlain_calls (HB.out.below hbl) (by omega)).mono ?_
 rintro e w2 ⟨rfl,hw2⟩
 have hw3 := hw2.symm; subst hw3; clear hw2
 have hq : (a : Int) / (b : Int)=((a / b : Nat) : Int) := (Int.natCast_ediv _ _).symm
 have hr : (a : Int) % (b : Int)=((a % b : Nat) : Int) := (Int.natCast_emod _ _).symm
 have lq : a / b < 18446744073709551616 := Nat.lt_of_le_of_lt (Nat.div_le_self _ _) ha64
 have lr : a % b < 18446744073709551616 := Nat.lt_of_le_of_lt (Nat.mod_le _ _) ha64
 have HLQ : Hid (a / b < 18446744073709551616) := lq
 have HLR : Hid (a % b < 18446744073709551616) := lr
 obtain ⟨q,hqq⟩ : ∃ q,q=a / b := ⟨_,rfl⟩
 obtain ⟨r,hrr⟩ : ∃ r,r=a % b := ⟨_,rfl⟩
 rw [← hqq] at hq HLQ
 rw [← hrr] at hr HLR
 clear lq lr
 have HE : Hid (q=a / b∧r=a % b) := And.intro hqq hrr
 have hwq : IntKind.u64.wrap (q : Int)=(q : Int) := by rw [IntKind.wrap_u64]; have := HLQ.out; omega
 have hwr : IntKind.u64.wrap (r : Int)=(r : Int) := by rw [IntKind.wrap_u64]; have := HLR.out; omega
 have htm : (a : Int).tmod (b : Int)=(r : Int) := by rw [Int.tmod_eq_emod_of_nonneg (by omega)]; exact hr
 clear hqq hrr
 go_wp2_with fail
 go_region_with (first
  | (go_at_call_of 129 (Value.int IntKind.u64 (q : Int)); refine (bigWords_calls q _ HLQ.out).mono ?_; rintro e w3 ⟨hb3,v1,rfl,hv1⟩)
  | (go_at_call_of 129 (Value.int IntKind.u64 (r : Int)); refine (bigWords_calls r _ HLR.out).mono ?_; rintro e w4 ⟨hb4,v2,rfl,hv2⟩))
 all_goals
  go_wp2
  go_ret2
  have hb5 : Below w.heap.size w w3 := (Below.drew hbl).trans (hb3.mono (by exact hbl.size))
  have hb6 : Below w.heap.size w w4 := hb5.trans (hb4.mono hb5.size)
  rw [HE.out.1] at hv1
  rw [HE.out.2] at hv2
  exact ⟨hb6,v1,v2,rfl,hv1.below hb4,hv2⟩
theorem bigDiv_limb {w : World} {ao bo : Option Addr} {ca cb n a x b2 o2 : Nat} (ha : NatN w (.slice ao n ca) a) (hb : Sl w 51 bo cb [x] b2 o2) (hbn : NatN w (.slice bo 1 cb) x) (sa : Small a) (sb : Small x) (h : x≤a) (hx0 : 0 < x) (hn : 3≤n) :
  Calls Tryz.prog 156 #[.slice ao n ca,.slice bo 1 cb] w fun e w' => Below w.heap.size w w'∧∃ v1 v2,e=.returned (.tuple #[v1,v2])∧NatN w' v1 (a / x)∧NatN w' v2 (a % x) := by
 have hx : x < 4294967296 := hb.lim.head
 have hia : ∀ wx,(Instr.indexAt 51 (.slice bo 1 cb) (.int .i64 0)).run Tryz.prog wx=.ok (.pointer (some ⟨b2,o2,none⟩)) wx := hb.idx 0 (by simp)
 have hca : w.cell? ⟨b2,o2,none⟩=some (.int .u32 (x : Int)) := hb.seg 0 (by simp)
 have hlt : b2 < w.heap.size := hb.lt (by simp)
 have HC : Hid _ := bigCmp_calls ha hbn sa sb
 have HA : Hid (NatN w (.slice ao n ca) a) := ha
 have HS : Hid (Small a) := sa
 clear ha hbn sa sb hb
 go_enter Tryz.func156,Tryz.ntmps156
 go_wp2_with fail
 refine Calls.mono HC.out ?_
 rintro e w1 ⟨hbl,c,rfl,hc1,hc2⟩
 have hc : ¬ c < 0 := fun h => by have := hc1.1 h; omega
 clear hc1 hc2
 have hca1 := (hbl.cell (p := ⟨b2,o2,none⟩) hlt).trans hca
 clear hca
 go_wp2_with fail
 refine (bigSmall_calls (HA.out.below hbl) HS.out hx0 hx).mono ?_
 rintro e w2 ⟨hb2,v1,rfl,hv1⟩
 have lr : a % x < 4294967296 := Nat.lt_trans (Nat.mod_lt _ hx0) hx
 obtain ⟨r,hr⟩ : ∃ r,r=a % x := ⟨_,rfl⟩
 rw [← hr] at lr
 have hr2 : (a : Int) % (x : Int)=(r : Int) := by rw [hr]; exact (Int.natCast_emod _ _).symm
 have HR : Hid (r=a % x) := hr
 clear hr
 have hrow : Row (w2.alloc (.cells #[.int .u32 (r : Int)] 148)) w2.heap.size [r] := Row.new w2 [r]
 have HV1 : Hid (NatN w2 v1 (a / x)) := hv1
 clear hv1
 go_wp2_with fail
 refine (bigTrim_row hrow (n := 1) (Lim.cons (by omega) Lim.nil) rfl (by omega)).mono ?_
 rintro e w' ⟨rfl,v',rfl,hv'⟩
 go_wp2
 go_ret2
 have hb3 : Below w.heap.size w w2 := hbl.trans (hb2.mono hbl.size)
 refine ⟨hb3.trans ((below_new _ _).mono hb3.size),v1,v',rfl,HV1.out.below (below_new _ _),?_⟩
 rw [← HR.out]
 have e1 : val [r]=r := by simp [val]
 rw [e1] at hv'
 exact hv'
end Go.Proofs.YtgkjeoeliehihaaGreatDoor
