/- Part 14 of the walks of the packages num, way, ruler, line and plane, and of the mathematics under them: BV BW BX BY BZ RA RB RC RD RE RF RG RH RK. -/
import Derived.Test.YtpalknbmejachaaGreatDoorA11
import Derived.Test.YtpalknbmejachaaGreatDoorA7
import Derived.Laws.OwnMore
import Derived.Laws.IdiomStrings
import Derived.Test.YtpalknbmejachaaGreatDoorA9
import Derived.Test.YtpalknbmejachaaGreatDoorShelf
import Derived.Shelf.Strings.SlTrimAscii
import Derived.Lib.SlTrimSet
import Derived.Lib.IndexBytes
import Derived.Test.YtpalknbmejachaaGreatDoorA12
import Derived.Test.YtpalknbmejachaaGreatDoorA13
import Derived.Test.YtpalknbmejachaaGreatDoorA10
import Derived.Deep.DeepCutAuto
/- Walks of package compassbig: Text of whole numbers. -/
namespace Go.Proofs.YtpalknbmejachaaGreatDoor
open Go.RowKit Cx

attribute [local go_sem ↓] Go.wp_at_zero Go.wp_at_succ

theorem bigTrim_far {w : World} {g n : Nat} {l : List Nat} (h : Row w g l) (hl : Lim l) (hn : l.length = n) (hm : n ≤ 9223372036854775807) :
    Calls Tryz.prog 150 #[.slice (some ⟨g, 0, none⟩) n n] w fun e w' => w' = w ∧ ∃ v', e = .returned v' ∧ NatN w v' (val l) ∧ ∃ n c, v' = .slice (some ⟨g, 0, none⟩) n c := by
  subst hn
  have hv := NatV.ofRow h hl (Nat.le_refl _) (Nat.le_refl _) (by unfold maxLen; omega)
  rw [List.take_length] at hv
  by_cases h0 : l.length = 0
  · have := List.length_eq_zero_iff.1 h0
    subst this
    refine (bigTrim_none (some ⟨g, 0, none⟩) 0 w).mono ?_
    rintro e w' ⟨rfl, rfl⟩
    exact ⟨rfl, _, rfl, ⟨[], NatV.nil _ _ _, Or.inl rfl, rfl⟩, _, _, rfl⟩
  · obtain ⟨hl2, ⟨rfl, _⟩ | ⟨b, off, cap, e, hc, hm2, hlt, hs⟩⟩ := hv
    · exact absurd rfl h0
    · simp only [Value.slice.injEq, Option.some.injEq, Addr.mk.injEq, and_true, true_and] at e
      obtain ⟨⟨rfl, rfl⟩, rfl⟩ := e
      have hv := NatV.ofRow h hl (Nat.le_refl _) (Nat.le_refl _) (by unfold maxLen; omega)
      rw [List.take_length] at hv
      refine (bigTrim_some g 0 l.length l w hc hm2 hs).mono ?_
      rintro e w' ⟨rfl, rfl⟩
      refine ⟨rfl, _, rfl, ⟨strip l, ⟨hl.strip, Or.inr ⟨g, 0, l.length, by rw [strip_length], ?_, hm2, hlt, hs.pre _⟩⟩, strip_trim l, val_strip l⟩, _, _, rfl⟩
      rw [strip_length]; have := sig_le l; omega

set_option maxHeartbeats 1000000 in
theorem bigSmall_far {w : World} {ao : Option Addr} {ca b1 o1 d : Nat} {la : List Nat} (ha : Sl w 67 ao ca la b1 o1) (hla : la.length ≤ 1099511627776) (hd : 0 < d) (hd2 : d < 4294967296) :
    Calls Tryz.prog 175 #[.slice ao la.length ca, .int .u32 d] w fun e w' => Below w.heap.size w w' ∧ ∃ v, e = .returned (.tuple #[v, .int .u32 (val la % d : Nat)]) ∧ NatN w' v (val la / d) ∧ ∃ n c, v = .slice (some ⟨w.heap.size, 0, none⟩) n c := by
  have hmk := make_row (t := 67) (by kernel_rfl) la.length (by omega)
  have HA : Hid (Sl w 67 ao ca la b1 o1) := ha
  clear ha
  go_enter Tryz.func175, Tryz.ntmps175
  go_wp2
  go_loopw [7, 8] (fun lf i wr => ∃ (k r : Nat) (cur : List Nat), k ≤ la.length ∧ i = .int .i64 ((k : Int) - 1) ∧ lf = .int .u64 r ∧ r < d ∧ Row wr w.heap.size cur ∧ cur.length = la.length ∧ Lim cur ∧ val (la.drop k) = d * val (cur.drop k) + r ∧ Below w.heap.size w wr) (fun _ i _ => (intOf i + 1).toNat)
  case atStart => exact ⟨la.length, 0, List.replicate la.length 0, Nat.le_refl _, rfl, rfl, hd, Row.new _ _, by simp, lim_zeros _, by rw [List.drop_length, List.drop_of_length_le (by simp)]; simp [val], below_new _ _⟩
  case round =>
    obtain ⟨k, r, cur, hk, rfl, rfl, hrd, hrow, hcl, hcm, hval, hbel⟩ := hrel
    have HV : Hid (val (la.drop k) = d * val (cur.drop k) + r) := hval
    have HL : Hid (cur.length = la.length) := hcl
    clear hval hcl
    by_cases h0 : k = 0
    · subst h0
      go_wp2_with fail
      refine (bigTrim_far hrow hcm HL.out (by omega)).mono ?_
      rintro e w' ⟨rfl, v', rfl, hv', nn, cc, rfl⟩
      go_wp2
      go_ret2
      have h1 := HV.out
      rw [List.drop_zero, List.drop_zero] at h1
      have hq : val cur = val la / d := by
        rw [h1, Nat.mul_add_div hd, Nat.div_eq_of_lt hrd, Nat.add_zero]
      have hm2 : val la % d = r := by
        rw [h1, Nat.mul_add_mod, Nat.mod_eq_of_lt hrd]
      rw [hq] at hv'
      rw [hm2]
      refine ⟨hbel, _, by go_num, hv', _, _, rfl⟩
    · obtain ⟨m, rfl⟩ : ∃ m, k = m + 1 := ⟨k - 1, by omega⟩
      rw [show (((m + 1 : Nat) : Int) - 1) = (m : Int) from by omega]
      have hia := HA.out.idx m (by omega)
      have hca := (hbel.cell (p := ⟨b1, o1 + m, none⟩) (HA.out.lt (by omega))).trans (HA.out.seg m (by omega))
      have hcc := hrow.cell (j := m) (by rw [HL.out]; omega)
      have hfz := hrow.frozen m
      have hx := nth_lt HA.out.lim m
      have hor := shl_or r (nth la m) (by omega) hx
      go_wp2
      go_roundw
      case rel =>
        have hq := limb_quot_lt r (nth la m) d hrd hx
        have e1 : (((r * 4294967296 + nth la m) % d : Nat) : Int) = ((r : Int) * 4294967296 + (nth la m : Int)) % (d : Int) := cast_mod _ _ _
        have e2 : (((r * 4294967296 + nth la m) / d : Nat) : Int) = ((r : Int) * 4294967296 + (nth la m : Int)) / (d : Int) := cast_div _ _ _
        refine ⟨m, (r * 4294967296 + nth la m) % d, cur.set m ((r * 4294967296 + nth la m) / d), by omega, rfl, by rw [e1], Nat.mod_lt _ hd, hrow.set' _ _ (by rw [← e2]; exact mod_id hq), by rw [List.length_set, HL.out], hcm.set hq, ?_, hbel.setCell (Nat.le_refl _) _⟩
        rw [val_drop (l := la) (by omega), val_drop (l := cur.set m _) (by rw [List.length_set, HL.out]; omega), val_drop_set', nth_set_same (by rw [HL.out]; omega)]
        exact limb_round _ _ _ _ _ HV.out
      case measure => simp [intOf]

theorem bigSmall_new {w : World} {va : Value} {a d : Nat} (ha : NatN w va a) (hla : Small a) (hd : 0 < d) (hd2 : d < 4294967296) :
    Calls Tryz.prog 175 #[va, .int .u32 d] w fun e w' => Below w.heap.size w w' ∧ ∃ v, e = .returned (.tuple #[v, .int .u32 (a % d : Nat)]) ∧ NatN w' v (a / d) ∧ ∃ n c, v = .slice (some ⟨w.heap.size, 0, none⟩) n c := by
  obtain ⟨la, ha, ta, rfl⟩ := ha
  obtain ⟨ao, ca, b1, o1, rfl, sa⟩ := ha.sl32
  exact bigSmall_far sa (hla.len ta) hd hd2

/-- Bytes as cells. -/
def bx (l : List UInt8) : List Value := l.map fun b => Value.int .u8 (b.toNat : Int)
theorem bx_append (a b : List UInt8) : bx (a ++ b) = bx a ++ bx b := List.map_append
theorem bx_length (a : List UInt8) : (bx a).length = a.length := List.length_map _

/-- Digits; none for 0. -/
def dd (n : Nat) : List UInt8 := if n = 0 then [] else Lib.decDigits n
theorem dd_step {a : Nat} (h : a ≠ 0) : dd a = dd (a / 10) ++ [UInt8.ofNat (48 + a % 10)] := by
  unfold dd
  rw [if_neg h, Lib.decDigits]
  by_cases h1 : a < 10
  · rw [dif_pos h1, if_pos (by omega), Nat.mod_eq_of_lt h1]; rfl
  · rw [dif_neg h1, if_neg (by omega)]
theorem dd_round {a n : Nat} {L : List UInt8} (h : a ≠ 0) (e : dd a ++ L.reverse = dd n) : dd (a / 10) ++ (L ++ [UInt8.ofNat (48 + a % 10)]).reverse = dd n := by
  rw [← e, dd_step h, List.reverse_append]
  simp
theorem dd_len {a n : Nat} {L : List UInt8} (e : dd a ++ L.reverse = dd n) : L.length ≤ (Lib.decDigits n).length := by
  have h := congrArg List.length e
  rw [List.length_append, List.length_reverse] at h
  have h2 : (dd n).length ≤ (Lib.decDigits n).length := by
    unfold dd
    split
    · exact Nat.zero_le _
    · exact Nat.le_refl _
  omega

theorem heap_lt {w : World} {g : Nat} {o : Obj} (h : w.heap[g]? = some o) : g < w.heap.size := (Array.getElem?_eq_some_iff.1 h).choose

theorem byte_nat {r : Nat} (h : r < 10) : ((UInt8.ofNat (48 + r)).toNat : Int) = 48 + (r : Int) := by
  rw [UInt8.toNat_ofNat', Nat.mod_eq_of_lt (by omega)]
  omega

/-- What grew besides a row leaves numbers elsewhere. -/
theorem NatN.grown {w w' : World} {n k c : Nat} {b o : Nat} {row : Option Nat} (h : NatN w (.slice (some ⟨b, o, none⟩) k c) n) (hg : w.grownBy w' row) (hne : some b ≠ row) : NatN w' (.slice (some ⟨b, o, none⟩) k c) n := by
  obtain ⟨l, ⟨hl, ⟨rfl, ao, cap, e⟩ | ⟨b1, off, cap, e, hc, hm, hlt, hs⟩⟩, t, rfl⟩ := h
  · cases e
    exact ⟨[], NatV.nil _ _ _, t, rfl⟩
  · cases e
    exact ⟨l, ⟨hl, Or.inr ⟨b, o, c, rfl, hc, hm, Nat.lt_of_lt_of_le hlt hg.size, fun j hj => hg.cell (a := ⟨b, o + j, none⟩) (hs j hj) hne⟩⟩, t, rfl⟩
theorem below_grown {a w w' : World} {row : Option Nat} (h : Below a.heap.size a w) (hg : w.grownBy w' row) (hr : ∀ k, row = some k → a.heap.size ≤ k) : Below a.heap.size a w' := by
  refine ⟨hg.os.trans h.os, hg.tape.trans h.tape, hg.output.trans h.output, Nat.le_trans h.size hg.size, fun i hi => ?_⟩
  rw [hg.block i (Nat.lt_of_lt_of_le hi h.size) (fun e => by have := hr i e.symm; omega), h.block i hi]
theorem owns_block {w : World} {base e n : Nat} {v : Value} {xs : List Value} (h : w.ownsRow base e 1 v n xs) : ∀ k, v.ownBlock = some k → base ≤ k ∧ k < w.heap.size := by
  intro k hk
  rcases h.2 with ⟨rfl, _⟩ | ⟨g, cap, cur, rfl, hb, hh, _⟩
  · simp [Value.ownBlock] at hk
  · simp [Value.ownBlock] at hk
    subst hk
    exact ⟨hb, heap_lt hh⟩
theorem owns_bel {w w' : World} {base e n : Nat} {v : Value} {xs : List Value} (h : w.ownsRow base e 1 v n xs) (hb : Below w.heap.size w w') : w'.ownsRow base e 1 v n xs := by
  refine ⟨h.1, ?_⟩
  rcases h.2 with h2 | ⟨g, cap, cur, rfl, hb2, hh, h3⟩
  · exact Or.inl h2
  · exact Or.inr ⟨g, cap, cur, rfl, hb2, (hb.block g (heap_lt hh)).trans hh, h3⟩
theorem one_news (w : World) (v : Value) (t : TypeId) : ∀ j u, ([v] : List Value)[j]? = some u → (w.alloc (.cells #[v] t)).cell? (Addr.add ⟨w.heap.size, 0, none⟩ j) = some u := by
  intro j u hj
  match j, hj with
  | 0, hj => simp at hj; subst hj; simp [Addr.add]

/-- A row of bytes, of which the first i and the last i have changed places. -/
def half (L : List UInt8) (i : Nat) : List UInt8 := (List.range L.length).map fun p => if p < i ∨ L.length - i ≤ p then L.getD (L.length - 1 - p) 0 else L.getD p 0
theorem half_length (L : List UInt8) (i : Nat) : (half L i).length = L.length := by simp [half]
theorem half_at {L : List UInt8} {i p : Nat} (h : p < L.length) : (half L i)[p]? = some (if p < i ∨ L.length - i ≤ p then L.getD (L.length - 1 - p) 0 else L.getD p 0) := by
  simp [half, h]
theorem half_zero (L : List UInt8) : half L 0 = L := by
  apply List.ext_getElem?
  intro p
  by_cases h : p < L.length
  · rw [half_at h, if_neg (by omega), List.getD_eq_getElem?_getD, List.getElem?_eq_getElem h]
    rfl
  · rw [List.getElem?_eq_none (by rw [half_length]; omega), List.getElem?_eq_none (by omega)]
theorem half_all {L : List UInt8} {i : Nat} (h : L.length ≤ 2 * i + 1) : half L i = L.reverse := by
  apply List.ext_getElem?
  intro p
  by_cases hp : p < L.length
  · rw [half_at hp, List.getElem?_reverse hp, List.getElem?_eq_getElem (by omega)]
    split
    · rw [List.getD_eq_getElem?_getD, List.getElem?_eq_getElem (by omega)]; rfl
    · have : L.length - 1 - p = p := by omega
      simp only [this]
      rw [List.getD_eq_getElem?_getD, List.getElem?_eq_getElem hp]; rfl
  · rw [List.getElem?_eq_none (by rw [half_length]; omega), List.getElem?_eq_none (by simp; omega)]
theorem half_step {L : List UInt8} {i : Nat} (h : 2 * i + 1 < L.length) : ((half L i).set i (L.getD (L.length - 1 - i) 0)).set (L.length - 1 - i) (L.getD i 0) = half L (i + 1) := by
  apply List.ext_getElem?
  intro p
  by_cases hp : p < L.length
  · rw [half_at hp]
    by_cases e1 : p = L.length - 1 - i
    · subst e1
      rw [List.getElem?_set_self (by rw [List.length_set, half_length]; omega), if_pos (Or.inr (by omega))]
      rw [show L.length - 1 - (L.length - 1 - i) = i by omega]
    · rw [List.getElem?_set_ne (by omega)]
      by_cases e2 : p = i
      · subst e2
        rw [List.getElem?_set_self (by rw [half_length]; omega), if_pos (Or.inl (by omega))]
      · rw [List.getElem?_set_ne (by omega), half_at hp]
        by_cases e3 : p < i ∨ L.length - i ≤ p
        · rw [if_pos e3, if_pos (by omega)]
        · rw [if_neg e3, if_neg (by omega)]
  · rw [List.getElem?_eq_none (by rw [List.length_set, List.length_set, half_length]; omega), List.getElem?_eq_none (by rw [half_length]; omega)]
end Go.Proofs.YtpalknbmejachaaGreatDoor
/- Walks of package compassbig: Text of whole numbers, the walk. -/
namespace Go.Proofs.YtpalknbmejachaaGreatDoor
open Go.RowKit Cx

attribute [local go_sem ↓] Go.wp_at_zero Go.wp_at_succ

theorem Tryz.infoU8 : (Tryz.prog.info? 5).map (fun i => (i.zero, i.size, i.bytes)) = some (some (.int .u8 0), 1, 1) := by kernel_rfl

theorem text_next {w w0 w2 w4 : World} {a n : Nat} {L : List UInt8} {bs v' : Value} {nn cc r : Nat} (hr : a % 10 = r) (ha : a ≠ 0) (e : dd a ++ L.reverse = dd n)
    (hown : w0.ownsRow w.heap.size 5 1 bs L.length (bx L)) (hbl : Below w.heap.size w w0) (hb2 : Below w0.heap.size w0 w2) (hv : NatN w2 (.slice (some ⟨w0.heap.size, 0, none⟩) nn cc) (a / 10))
    (hown4 : w4.ownsRow w.heap.size 5 1 v' (L.length + 1) (bx L ++ [.int .u8 (48 + (r : Int))])) (hg : (w2.alloc (.cells #[.int .u8 (48 + (r : Int))] 5)).grownBy w4 bs.ownBlock) :
    ∃ (L' : List UInt8) (a' : Nat), a' < a ∧ w4.ownsRow w.heap.size 5 1 v' L'.length (bx L') ∧ NatN w4 (.slice (some ⟨w0.heap.size, 0, none⟩) nn cc) a' ∧ dd a' ++ L'.reverse = dd n ∧ Below w.heap.size w w4 ∧ a' = a / 10 := by
  have hr2 : r < 10 := by omega
  refine ⟨L ++ [UInt8.ofNat (48 + r)], a / 10, by omega, ?_, ?_, ?_, ?_, rfl⟩
  · rw [bx_append, List.length_append]
    show World.ownsRow _ _ _ _ _ _ (bx L ++ [Value.int .u8 ((UInt8.ofNat (48 + r)).toNat : Int)])
    rw [byte_nat hr2]
    exact hown4
  · refine (hv.below (below_new _ _)).grown hg ?_
    intro h
    have := (owns_block hown _ h.symm).2
    omega
  · rw [← hr]
    exact dd_round ha e
  · refine below_grown (Below.new (hbl.trans (hb2.mono hbl.size)) _) hg ?_
    intro k hk
    exact (owns_block hown _ hk).1

theorem owns_slice {w : World} {base e n : Nat} {v : Value} {xs : List Value} (h : w.ownsRow base e 1 v n xs) (hv : v ≠ .slice none 0 0) : ∃ g cap, v = .slice (some ⟨g, 0, none⟩) n cap ∧ base ≤ g ∧ n ≤ cap ∧ cap ≤ maxLen := by
  rcases h.2 with ⟨h1, _⟩ | ⟨g, cap, cur, rfl, hb, hh, hc, hm, _⟩
  · exact absurd h1 hv
  · exact ⟨g, cap, rfl, hb, hc, hm⟩

theorem owns_some {w : World} {base e n : Nat} {v : Value} {L : List UInt8} (h : w.ownsRow base e 1 v n (bx L)) (hL : L ≠ []) : v ≠ .slice none 0 0 := by
  rintro rfl
  rcases h.2 with ⟨_, h1⟩ | ⟨g, cap, cur, h1, _⟩
  · apply hL
    have h2 := h.1
    rw [bx_length] at h2
    exact List.length_eq_zero_iff.1 (by omega)
  · cases h1

/-- A byte of a row. -/
def gd (M : List UInt8) (p : Nat) : UInt8 := M.getD p 0

theorem rev_cell {w : World} {base g cap : Nat} {M : List UInt8} {i p : Nat} (h : w.ownsRow base 5 1 (.slice (some ⟨g, 0, none⟩) M.length cap) M.length (bx (half M i))) (hp : p < M.length) (h2 : ¬ (p < i ∨ M.length - i ≤ p)) : w.cell? ⟨g, p, none⟩ = some (.int .u8 ((gd M p).toNat : Int)) := by
  rw [h.cellAt p (by omega)]
  simp only [bx, List.getElem?_map, half_at hp, if_neg h2, Option.map_some]
  rfl

theorem rev_step {w : World} {base g cap : Nat} {M : List UInt8} {i j : Nat} (h : w.ownsRow base 5 1 (.slice (some ⟨g, 0, none⟩) M.length cap) M.length (bx (half M i))) (hij : i + j + 1 = M.length) (hlt : i < j) :
    ((w.setCell ⟨g, i, none⟩ (.int .u8 ((gd M j).toNat : Int))).setCell ⟨g, j, none⟩ (.int .u8 ((gd M i).toNat : Int))).ownsRow base 5 1 (.slice (some ⟨g, 0, none⟩) M.length cap) M.length (bx (half M (i + 1))) := by
  have h1 := (h.stored i (.int .u8 ((gd M j).toNat : Int))).1
  have h2 := (h1.stored j (.int .u8 ((gd M i).toNat : Int))).1
  have hst := half_step (L := M) (i := i) (by omega)
  rw [show M.length - 1 - i = j by omega] at hst
  rw [← hst]
  have e : bx (((half M i).set i (gd M j)).set j (gd M i)) = ((bx (half M i)).set i (.int .u8 ((gd M j).toNat : Int))).set j (.int .u8 ((gd M i).toNat : Int)) := by
    simp [bx, List.map_set]
  show World.ownsRow _ _ _ _ _ _ (bx (((half M i).set i (gd M j)).set j (gd M i)))
  rw [e]
  exact h2

theorem rev_text {w : World} {base g cap : Nat} {M : List UInt8} {i j : Nat} (h : w.ownsRow base 5 1 (.slice (some ⟨g, 0, none⟩) M.length cap) M.length (bx (half M i))) (hij : i + j + 1 = M.length) (hlt : ¬ i < j) :
    (convert 156 9 (.slice (some ⟨g, 0, none⟩) M.length cap)).run Tryz.prog w = .ok (.string ⟨M.reverse.toArray⟩) w := by
  have := run_convert_bytes_back (P := Tryz.prog) w 156 9 5 ⟨g, 0, none⟩ cap M.reverse Tryz.underlying156 Tryz.underlying5 Tryz.underlying9 (fun k hk => by
    have hk2 : k < M.length := by simpa using hk
    have := h.cellAt k (by omega)
    rw [half_all (by omega)] at this
    have ea : Addr.add ⟨g, 0, none⟩ k = ⟨g, k, none⟩ := by unfold Addr.add; split <;> simp_all
    rw [ea, this]
    simp only [bx, List.getElem?_map, List.getElem?_eq_getElem hk, Option.map_some])
  rw [List.length_reverse] at this
  exact this

set_option maxHeartbeats 8000000 in
set_option maxRecDepth 100000 in
theorem intText_walk {w : World} {p : Value} {x : Int} (hx : IV w p x) (sx : Small x.natAbs) (hne : x ≠ 0) (hd : (Lib.decDigits x.natAbs).length ≤ 140737488355300) :
    Calls Tryz.prog 142 #[p, .int .i64 10] w fun e w' => Below w.heap.size w w' ∧ e = .returned (.string ⟨((if x < 0 then [45] else []) ++ Lib.decDigits x.natAbs).toArray⟩) := by
  obtain ⟨g, o, ao, n, c, rfl, x0, x1, x2, xl⟩ := hx
  obtain ⟨i0, hi, hz0, hz1, hz2⟩ := info_parts Tryz.infoU8
  generalize hT : ((if x < 0 then [45] else []) ++ Lib.decDigits x.natAbs : List UInt8) = T
  have HT := hideIt2 hT
  clear hT
  have hn0 : n ≠ 0 := by
    obtain ⟨_, _, _, e, _, _, hz⟩ := big_len x2
    cases e
    intro h
    have := hz.1 h
    omega
  have hnb : ((n : Int) == 0) = false := beq_eq_false_iff_ne.mpr (by omega)
  have HX := hideIt2 x2
  have SX := hideIt2 sx
  have HD := hideIt2 hd
  clear x2 sx hd
  go_enter Tryz.func142, Tryz.ntmps142
  go_wp2_with fail
  refine (bigTwin_calls HX.out SX.out).mono ?_
  rintro e w1 ⟨hb1, v1, rfl, hv1⟩
  have HB1 := hideIt2 hb1
  have HV1 := hideIt2 hv1
  clear hb1 hv1
  go_wp2
  go_loopg [5, 6] x.natAbs (fun k bs av wr => ∃ (L : List UInt8) (a : Nat), a ≤ k ∧ a ≤ x.natAbs ∧ wr.ownsRow w.heap.size 5 1 bs L.length (bx L) ∧ NatN wr av a ∧ dd a ++ L.reverse = dd x.natAbs ∧ Below w.heap.size w wr)
  case atStart => exact ⟨[], x.natAbs, Nat.le_refl _, Nat.le_refl _, World.ownsRow_nil _ _ _ _, HV1.out, by simp, HB1.out⟩
  case round =>
    obtain ⟨L, a, hak, han, hown, hva, hdd, hbl⟩ := hrel
    have HOWN := hideIt2 hown
    have HVA := hideIt2 hva
    have HDD := hideIt2 hdd
    have HBL := hideIt2 hbl
    have HLL := hideIt2 (dd_len hdd)
    obtain ⟨ab, na, ca, rfl, _, _, hz⟩ := big_len hva
    have HZ := hideIt2 hz
    have hy0 := (hbl.cell (p := ⟨g, o, none⟩) xl).trans x0
    clear hown hva hdd hbl hz
    by_cases ha : a = 0
    · have hna : na = 0 := HZ.out.2 ha
      subst hna
      have HLR : Hid (L.reverse = Lib.decDigits x.natAbs) := by
        have := HDD.out
        subst ha
        have h0 : x.natAbs ≠ 0 := by omega
        simp only [dd, if_neg h0, if_true, List.nil_append] at this
        exact this
      have hL0 : L ≠ [] := by
        intro e
        have := HLR.out
        rw [e] at this
        have h1 := Lib.decDigits_length x.natAbs
        rw [← this] at h1
        have h2 := Lib.nDigits_pos x.natAbs
        simp at h1
        omega
      have hlen : L.length + 1 ≤ 140737488355328 := by have := HLL.out; have := HD.out; omega
      by_cases hs : x < 0
      · rw [decide_eq_true hs] at hy0
        have HO2 := hideIt2 (owns_bel HOWN.out (below_new wr (.cells #[.int .u8 45] 5)))
        have HNW := hideIt2 (one_news wr (.int .u8 45) 5)
        obtain ⟨M, hM⟩ : ∃ M, L ++ [45] = M := ⟨_, rfl⟩
        have HMB : Hid (bx L ++ [Value.int .u8 45] = bx M ∧ L.length + 1 = M.length) := by
          refine ⟨?_, ?_⟩
          · rw [← hM, bx_append]; rfl
          · rw [← hM]; simp
        have HMM := hideIt2 hM
        clear hM
        have hM0 : 0 < M.length := by have := HMB.out.2; omega
        have hMm : M.length ≤ 140737488355328 := by have := HMB.out.2; omega
        go_wp2_with (at_builtin; refine wpList_append_own _ rfl _ _ 156 rfl w.heap.size 5 i0 (.int .u8 0) 1 1 Tryz.underlying156 hi hz0 hz1 hz2 rfl (by decide) _ L.length (bx L) rfl HO2.out ⟨wr.heap.size, 0, none⟩ 1 1 [.int .u8 45] rfl rfl HNW.out (by intro u hu; simp at hu; subst hu; rfl) (by unfold maxLen; omega) (by omega) (by have := HBL.out.size; simp; omega) ?_; intro v' w4 hown4 hgrow hnil; rw [HMB.out.1, HMB.out.2] at hown4; obtain ⟨g2, cap, rfl, hg2, hc2, hm2⟩ := owns_slice hown4 (fun e => by have := (hnil.1 e).2; omega))
        have HR : Hid (T = M.reverse) := by
          show _ = _
          rw [← HT.out, if_pos hs, ← HMM.out, List.reverse_append, HLR.out]
          rfl
        have HM := hideIt2 (And.intro hown4 (below_grown (Below.new HBL.out _) hgrow (fun k hk => (owns_block HOWN.out _ hk).1)))
        clear hown4 hgrow hnil hlen
        go_wp2
        go_loopw [8, 9] (fun iv jv wx => ∃ i j : Nat, iv = .int .i64 i ∧ jv = .int .i64 j ∧ i + j + 1 = M.length ∧ wx.ownsRow w.heap.size 5 1 (.slice (some ⟨g2, 0, none⟩) M.length cap) M.length (bx (half M i)) ∧ Below w.heap.size w wx) (fun iv _ _ => M.length - (intOf iv).toNat)
        case atStart => exact ⟨0, M.length - 1, rfl, by rw [show ((M.length - 1 : Nat) : Int) = (M.length : Int) - 1 by omega], by omega, by rw [half_zero]; exact HM.out.1, HM.out.2⟩
        case round =>
          obtain ⟨i, j, rfl, rfl, hij, hw, hbx⟩ := hrel
          have HW := hideIt2 (And.intro hw (And.intro hij hbx))
          have hiM : i < M.length := by omega
          have hjM : j < M.length := by omega
          by_cases hlt : i < j
          · have ci := rev_cell hw hiM (by omega)
            have cj := rev_cell hw hjM (by omega)
            have fi := hw.frozenAt i
            have fj := hw.frozenAt j
            clear hw hij hbx
            go_wp2
            go_roundw
            case rel => exact ⟨i + 1, j - 1, by rw [show ((i + 1 : Nat) : Int) = (i : Int) + 1 by omega], by rw [show ((j - 1 : Nat) : Int) = (j : Int) - 1 by omega], by have := HW.out.2.1; omega, rev_step HW.out.1 HW.out.2.1 hlt, Below.set (Below.set HW.out.2.2 hg2 _ _) hg2 _ _⟩
            case measure => simp [intOf]; omega
          · have hcv := rev_text hw hij hlt
            clear hw hij hbx
            go_wp2
            go_ret
            exact ⟨HW.out.2.2, by rw [HR.out]; rfl⟩
      · rw [decide_eq_false hs] at hy0
        obtain ⟨g2, cap, hv', hg2, hc2, hm2⟩ := owns_slice HOWN.out (owns_some HOWN.out hL0)
        subst hv'
        generalize hM : L = M at *
        have HR : Hid (T = M.reverse) := by
          show _ = _
          rw [← HT.out, if_neg hs, HLR.out]
          rfl
        have HM := hideIt2 (And.intro HOWN.out HBL.out)
        have hM0 : 0 < M.length := List.length_pos_iff.2 hL0
        have hMm : M.length ≤ 140737488355328 := by omega
        clear hlen
        go_wp2
        go_loopw [8, 9] (fun iv jv wx => ∃ i j : Nat, iv = .int .i64 i ∧ jv = .int .i64 j ∧ i + j + 1 = M.length ∧ wx.ownsRow w.heap.size 5 1 (.slice (some ⟨g2, 0, none⟩) M.length cap) M.length (bx (half M i)) ∧ Below w.heap.size w wx) (fun iv _ _ => M.length - (intOf iv).toNat)
        case atStart => exact ⟨0, M.length - 1, rfl, by rw [show ((M.length - 1 : Nat) : Int) = (M.length : Int) - 1 by omega], by omega, by rw [half_zero]; exact HM.out.1, HM.out.2⟩
        case round =>
          obtain ⟨i, j, rfl, rfl, hij, hw, hbx⟩ := hrel
          have HW := hideIt2 (And.intro hw (And.intro hij hbx))
          have hiM : i < M.length := by omega
          have hjM : j < M.length := by omega
          by_cases hlt : i < j
          · have ci := rev_cell hw hiM (by omega)
            have cj := rev_cell hw hjM (by omega)
            have fi := hw.frozenAt i
            have fj := hw.frozenAt j
            clear hw hij hbx
            go_wp2
            go_roundw
            case rel => exact ⟨i + 1, j - 1, by rw [show ((i + 1 : Nat) : Int) = (i : Int) + 1 by omega], by rw [show ((j - 1 : Nat) : Int) = (j : Int) - 1 by omega], by have := HW.out.2.1; omega, rev_step HW.out.1 HW.out.2.1 hlt, Below.set (Below.set HW.out.2.2 hg2 _ _) hg2 _ _⟩
            case measure => simp [intOf]; omega
          · have hcv := rev_text hw hij hlt
            clear hw hij hbx
            go_wp2
            go_ret
            exact ⟨HW.out.2.2, by rw [HR.out]; rfl⟩
    · have hna : na ≠ 0 := fun h => ha (HZ.out.1 h)
      have HSA : Hid (Small a) := small_of SX.out han
      go_wp2_with fail
      refine (bigSmall_new (d := 10) HVA.out HSA.out (by decide) (by decide)).mono ?_
      generalize hr : a % 10 = r
      have hr10 : r < 10 := by omega
      rintro e w2 ⟨hb2, v2, rfl, hv2, nn, cc, rfl⟩
      have HB2 := hideIt2 hb2
      have HV2 := hideIt2 hv2
      have HR := hideIt2 hr
      have hown2 := owns_bel HOWN.out (Below.new hb2 (.cells #[.int .u8 (48 + (r : Int))] 5))
      have HNW := hideIt2 (one_news w2 (.int .u8 (48 + (r : Int))) 5)
      have HO2 := hideIt2 hown2
      have hlen : L.length + 1 ≤ 140737488355328 := by have := HLL.out; have := HD.out; omega
      clear hb2 hv2 hr hown2
      go_wp2_with (at_builtin; refine wpList_append_own _ rfl _ _ 156 rfl w.heap.size 5 i0 (.int .u8 0) 1 1 Tryz.underlying156 hi hz0 hz1 hz2 rfl (by decide) _ L.length (bx L) rfl HO2.out ⟨w2.heap.size, 0, none⟩ 1 1 [.int .u8 (48 + (r : Int))] rfl rfl HNW.out (by intro u hu; simp at hu; subst hu; rfl) (by unfold maxLen; omega) (by omega) (by have := HBL.out.size; have := HB2.out.size; simp; omega) ?_; intro v' w4 hown4 hgrow hnil)
      obtain ⟨L', a', h1, h2, h3, h4, h5, h6⟩ := text_next HR.out ha HDD.out HOWN.out HBL.out HB2.out HV2.out hown4 hgrow
      have HF := hideIt2 (And.intro h2 (And.intro h3 (And.intro h4 h5)))
      clear h2 h3 h4 h5 hown4 hgrow hnil
      go_wp2
      go_roundg a'
      case measure => omega
      case rel => exact ⟨L', a', Nat.le_refl _, by omega, HF.out.1, HF.out.2.1, HF.out.2.2.1, HF.out.2.2.2⟩
end Go.Proofs.YtpalknbmejachaaGreatDoor
/- Walks of package compassbig: String of whole numbers, Denom; of compassref: T. -/
namespace Go.Proofs.YtpalknbmejachaaGreatDoor
open Go.RowKit Cx

attribute [local go_sem ↓] Go.wp_at_zero Go.wp_at_succ

/-- A whole number's text. -/
def zx (x : Int) : List UInt8 := (if x < 0 then [45] else []) ++ Lib.decDigits x.natAbs

theorem zx_zero : zx 0 = [48] := by
  unfold zx
  rw [if_neg (by decide)]
  show Lib.decDigits 0 = _
  rw [Lib.decDigits, dif_pos (by decide)]
  rfl

set_option maxHeartbeats 2000000 in
set_option maxRecDepth 100000 in
theorem intText_zero {w : World} {p : Value} (hx : IV w p 0) :
    Calls Tryz.prog 142 #[p, .int .i64 10] w fun e w' => w' = w ∧ e = .returned (.string ⟨#[48]⟩) := by
  obtain ⟨g, o, ao, n, c, rfl, x0, x1, x2, xl⟩ := hx
  have hn0 : n = 0 := by
    obtain ⟨_, _, _, e, _, _, hz⟩ := big_len x2
    cases e
    exact hz.2 rfl
  subst hn0
  clear x2
  go_enter Tryz.func142, Tryz.ntmps142
  go_wp2
  go_ret
  exact ⟨rfl, rfl⟩

theorem intText_calls {w : World} {p : Value} {x : Int} {k : Nat} (hx : IV w p x) (sx : x.natAbs < 2 ^ k) (hk : k ≤ 35184372088640) :
    Calls Tryz.prog 142 #[p, .int .i64 10] w fun e w' => Below w.heap.size w w' ∧ e = .returned (.string ⟨(zx x).toArray⟩) := by
  by_cases h : x = 0
  · subst h
    refine (intText_zero hx).mono ?_
    rintro e w' ⟨rfl, rfl⟩
    exact ⟨Below.refl _ _, by rw [zx_zero]⟩
  · refine intText_walk hx (small_two sx hk) h ?_
    rw [Lib.decDigits_length]
    have := nDigits_two sx
    omega

set_option maxHeartbeats 2000000 in
set_option maxRecDepth 100000 in
/-- String. -/
theorem intString_calls {w : World} {p : Value} {x : Int} {k : Nat} (hx : IV w p x) (sx : x.natAbs < 2 ^ k) (hk : k ≤ 35184372088640) :
    Calls Tryz.prog 95 #[p] w fun e w' => Below w.heap.size w w' ∧ e = .returned (.string ⟨(zx x).toArray⟩) := by
  have h := intText_calls hx sx hk
  obtain ⟨g, o, ao, n, c, rfl, x0, x1, x2, xl⟩ := hx
  clear x0 x1 x2
  go_enter Tryz.func95, Tryz.ntmps95
  go_wp2_with fail
  refine h.mono ?_
  rintro e w1 ⟨hb, rfl⟩
  have HB := hideIt2 hb
  clear hb
  go_wp2
  go_ret
  exact ⟨HB.out, rfl⟩

set_option maxHeartbeats 4000000 in
set_option maxRecDepth 100000 in
/-- Denom: the lower part, in new memory. -/
theorem ratDenom_calls {w : World} {g : Nat} {x : Rat} {k : Nat} (hx : RV w g x) (fx : QS k x) (hkl : k ≤ 35184372088640) :
    Calls Tryz.prog 96 #[.pointer (some ⟨g, 0, none⟩)] w fun e w' => Below w.heap.size w w' ∧ ∃ g', e = .returned (.pointer (some ⟨g', 0, none⟩)) ∧ Own2 w' g' (x.den : Int) := by
  have HX := hideIt2 hx
  have LX := hideIt2 hx.lt
  have DX := hideIt2 (small_den fx hkl)
  clear hx fx
  go_enter Tryz.func96, Tryz.ntmps96
  go_wp2_with fail
  refine (den_calls (HX.out.below (below_new _ _))).mono ?_
  rintro e w1 ⟨hb1, p1, rfl, hv1, hap1⟩
  have HB1 := hideIt2 hb1
  have HV1 := hideIt2 hv1
  have HA1 := hideIt2 (hap1 w.heap.size (by have := LX.out; omega) (by simp))
  have HK1 := hideIt2 (blk_bel hb1 (Blk.new w #[.bool false, .slice none 0 0] 88))
  clear hb1 hv1 hap1
  go_wp2_with fail
  refine (intSet_calls (At2.blk HK1.out) HV1.out HA1.out DX.out).mono ?_
  rintro e w2 ⟨rfl, hg⟩
  have HG := hideIt2 hg
  clear hg
  go_wp2
  go_ret
  exact ⟨bel_sav (bel_bel (below_new _ _) HB1.out) HG.out.save (Nat.le_refl _), _, rfl, (HG.out.own HK1.out).1⟩

theorem tx_whole {q : Rat} (h : q.den = 1) : tx q = zx q.num := by
  unfold tx zx
  rw [if_pos h, List.append_nil]
theorem tx_parts {q : Rat} (h : q.den ≠ 1) : tx q = zx q.num ++ (47 :: zx (q.den : Int)) := by
  unfold tx zx
  rw [if_neg h, if_neg (show ¬ ((q.den : Int) < 0) by omega), List.nil_append, Int.natAbs_natCast, List.append_assoc]

theorem zx_len {x : Int} {k : Nat} (sx : x.natAbs < 2 ^ k) : (zx x).length ≤ k + 2 := by
  unfold zx
  rw [List.length_append, Lib.decDigits_length]
  have h1 := nDigits_two sx
  have h3 : (if x < 0 then ([45] : List UInt8) else []).length ≤ 1 := by split <;> simp
  omega

set_option maxHeartbeats 8000000 in
set_option maxRecDepth 100000 in
/-- T: a fraction's text. -/
theorem refT_calls {w : World} {g : Nat} {x : Rat} {k : Nat} (hx : RV w g x) (fx : QS k x) (hkl : k ≤ 35184372088640) :
    Calls Tryz.prog 51 #[.pointer (some ⟨g, 0, none⟩)] w fun e w' => Below w.heap.size w w' ∧ e = .returned (.string ⟨(tx x).toArray⟩) := by
  have HX := hideIt2 hx
  have FX := hideIt2 fx
  clear hx
  by_cases hd : x.den = 1
  · have HD := hideIt2 hd
    have hdd : decide (x.den = 1) = true := decide_eq_true hd
    have HT := hideIt2 (tx_whole hd)
    clear hd
    go_enter Tryz.func51, Tryz.ntmps51
    go_wp2_with fail
    refine (isInt_calls HX.out FX.out hkl).mono ?_
    rintro e w1 ⟨hb1, rfl⟩
    rw [hdd]
    have HB1 := hideIt2 hb1
    clear hb1 hdd
    go_wp2_with fail
    refine (ratNum_calls g w1).mono ?_
    rintro e w2 ⟨hw, rfl⟩
    subst hw
    go_wp2_with fail
    refine (intString_calls (HX.out.below HB1.out).num FX.out.num hkl).mono ?_
    rintro e w3 ⟨hb3, rfl⟩
    have HB3 := hideIt2 (bel_bel HB1.out hb3)
    clear hb3
    go_wp2
    go_ret
    exact ⟨HB3.out, by rw [HT.out]; rfl⟩
  · have hdd : decide (x.den = 1) = false := decide_eq_false hd
    have HT := hideIt2 (tx_parts hd)
    have hl1 := zx_len fx.num
    have hl2 : (zx (x.den : Int)).length ≤ k + 2 := zx_len (by rw [Int.natAbs_natCast]; exact fx.den)
    clear hd
    go_enter Tryz.func51, Tryz.ntmps51
    go_wp2_with fail
    refine (isInt_calls HX.out FX.out hkl).mono ?_
    rintro e w1 ⟨hb1, rfl⟩
    rw [hdd]
    have HB1 := hideIt2 hb1
    clear hb1 hdd
    go_wp2_with fail
    refine (ratNum_calls g w1).mono ?_
    rintro e w2 ⟨hw, rfl⟩
    subst hw
    go_wp2_with fail
    refine (intString_calls (HX.out.below HB1.out).num FX.out.num hkl).mono ?_
    rintro e w3 ⟨hb3, rfl⟩
    have HB3 := hideIt2 (bel_bel HB1.out hb3)
    clear hb3
    go_wp2_with fail
    refine (ratDenom_calls (HX.out.below HB3.out) FX.out hkl).mono ?_
    rintro e w4 ⟨hb4, g4, rfl, ho4⟩
    have HB4 := hideIt2 (bel_bel HB3.out hb4)
    have HO4 := hideIt2 ho4
    clear hb4 ho4
    go_wp2_with fail
    refine (intString_calls HO4.out.iv (k := k) (by rw [Int.natAbs_natCast]; exact FX.out.den) hkl).mono ?_
    rintro e w5 ⟨hb5, rfl⟩
    have HB5 := hideIt2 (bel_bel HB4.out hb5)
    clear hb5
    go_wp2
    go_ret
    exact ⟨HB5.out, by rw [HT.out]; simp; apply ByteArray.ext; simp [ByteArray.data_append]⟩
end Go.Proofs.YtpalknbmejachaaGreatDoor
/- Walks of package compassbig: SetString of whole numbers, of digits. -/
namespace Go.Proofs.YtpalknbmejachaaGreatDoor
open Go.RowKit Cx

attribute [local go_sem ↓] Go.wp_at_zero Go.wp_at_succ

theorem dv_take_succ {s : ByteArray} {k : Nat} (h : k < s.size) : dv (s.data.toList.take (k + 1)) = dv (s.data.toList.take k) * 10 + (s[k].toNat - 48) := by
  have hlen : k < s.data.toList.length := by simpa using h
  rw [take_snoc8 hlen, dv_snoc]
  rfl

theorem digs_at {s : ByteArray} {k : Nat} (h : digs s.data.toList = true) (hk : k < s.size) : 48 ≤ s[k].toNat ∧ s[k].toNat ≤ 57 := by
  have hlen : k < s.data.toList.length := by simpa using hk
  have := List.all_eq_true.1 (digs_all h) _ (List.getElem_mem hlen)
  have := dg_le this
  rw [byte_at s k hk] at this
  exact this
theorem digs_pos {s : ByteArray} (h : digs s.data.toList = true) : 0 < s.size := by
  rcases Nat.eq_zero_or_pos s.size with h0 | h0
  · exfalso
    have : s.data.toList = [] := List.length_eq_zero_iff.1 (by simpa using h0)
    rw [this] at h
    cases h
  · exact h0
theorem digs_take {s : ByteArray} {k : Nat} (h : digs s.data.toList = true) (hsz : s.size ≤ 4294967280) : Small (dv (s.data.toList.take k)) := by
  refine dv_small ?_ ?_
  · rw [List.all_eq_true]
    intro x hx
    exact List.all_eq_true.1 (digs_all h) x (List.mem_of_mem_take hx)
  · rw [List.length_take]
    have : s.data.toList.length = s.size := by simp
    omega

set_option maxHeartbeats 8000000 in
set_option maxRecDepth 100000 in
theorem setString_walk {w : World} {g : Nat} {s : ByteArray} (hk : Blk w g #[.bool false, .slice none 0 0] 88) (hs : digs s.data.toList = true) (hsz : s.size ≤ 4294967280) :
    Calls Tryz.prog 57 #[.pointer (some ⟨g, 0, none⟩), .string s, .int .i64 10] w fun e w' => e = .returned (.tuple #[.pointer (some ⟨g, 0, none⟩), .bool true]) ∧ Save g w w' ∧ Own2 w' g (dv s.data.toList : Int) := by
  have HK := hideIt2 hk
  have HS := hideIt2 hs
  have hs0 : 0 < s.size := digs_pos hs
  have hs1 : ((s.size : Int) == 0) = false := beq_eq_false_iff_ne.mpr (by omega)
  have hb0 := digs_at hs hs0
  have hb1 : ((s[0].toNat : Int) == 45) = false := beq_eq_false_iff_ne.mpr (by omega)
  have hb2 : ((s[0].toNat : Int) == 43) = false := beq_eq_false_iff_ne.mpr (by omega)
  clear hk hs
  go_enter Tryz.func57, Tryz.ntmps57
  go_wp2
  go_loopw [9, 10] (fun rv iv wr => ∃ k : Nat, iv = .int .i64 k ∧ k ≤ s.size ∧ NatN wr rv (dv (s.data.toList.take k)) ∧ Below w.heap.size w wr) (fun _ iv _ => s.size - (intOf iv).toNat)
  case atStart => exact ⟨0, rfl, Nat.zero_le _, ⟨[], NatV.nil _ _ _, Or.inl rfl, rfl⟩, Below.refl _ _⟩
  case round =>
    obtain ⟨k, rfl, hks, hn, hbl⟩ := hrel
    have HN := hideIt2 hn
    have HBL := hideIt2 hbl
    clear hn hbl
    by_cases hlt : k < s.size
    · have hb := digs_at HS.out hlt
      have HSM : Hid (Small (dv (s.data.toList.take k))) := digs_take HS.out hsz
      have HDS := hideIt2 (dv_take_succ hlt)
      have HSM10 : Hid (Small (dv (s.data.toList.take k) * 10)) := small_of (digs_take (k := k + 1) HS.out hsz) (by rw [dv_take_succ hlt]; omega)
      generalize hA : dv (s.data.toList.take k) = A at *
      clear hA
      go_wp2_with fail
      refine (bigWords_calls 10 wr (by decide)).mono ?_
      rintro e w1 ⟨hb1', v1, rfl, hv1⟩
      have H1 := hideIt2 (And.intro hb1' hv1)
      clear hb1' hv1
      go_wp2_with fail
      refine (bigMul_calls (HN.out.below H1.out.1) H1.out.2 HSM.out (small_two (k := 4) (by decide) (by decide))).mono ?_
      rintro e w2 ⟨hb2', v2, rfl, hv2⟩
      have H2 := hideIt2 (And.intro (bel_bel H1.out.1 hb2') hv2)
      clear hb2' hv2
      go_wp2_with fail
      have ed : ((s[k].toNat : Int) - 48) = ((s[k].toNat - 48 : Nat) : Int) := by omega
      rw [ed]
      refine (bigWords_calls (s[k].toNat - 48) w2 (by omega)).mono ?_
      rintro e w3 ⟨hb3', v3, rfl, hv3⟩
      have H3 := hideIt2 (And.intro (bel_bel H2.out.1 hb3') (And.intro (H2.out.2.below hb3') hv3))
      clear hb3' hv3
      go_wp2_with fail
      refine (bigAdd_calls H3.out.2.1 H3.out.2.2 HSM10.out (small_two (k := 6) (by omega) (by decide))).mono ?_
      rintro e w4 ⟨hb4', v4, rfl, hv4⟩
      have H4 := hideIt2 (And.intro (bel_bel HBL.out (bel_bel H3.out.1 hb4')) hv4)
      clear hb4' hv4
      go_wp2
      go_roundw
      case rel => exact ⟨k + 1, by rw [show ((k + 1 : Nat) : Int) = (k : Int) + 1 by omega], by omega, by rw [HDS.out]; exact H4.out.2, H4.out.1⟩
      case measure => simp [intOf]; omega
    · have hks2 : k = s.size := by omega
      have HNE : Hid (NatN wr u9 (dv s.data.toList)) := by
        have := HN.out
        rw [hks2, List.take_of_length_le (by simp)] at this
        exact this
      obtain ⟨ao, n, c, hv, _, _, _⟩ := big_len HNE.out
      subst hv
      go_wp2_with fail
      refine (give_calls (n := n) (ao := ao) (c := c) false ((At2.blk HK.out).below HBL.out)).mono ?_
      rintro e w2 ⟨rfl, hw2⟩
      have HG : Hid (Gave w g 0 (dv s.data.toList : Int) w2) := by
        refine ⟨wr, ao, n, c, HBL.out, ?_, ?_⟩
        · rw [hw2, natAbs_lt]; rfl
        · rw [Int.natAbs_natCast]; exact HNE.out
      clear hw2
      go_wp2
      go_ret2
      exact ⟨rfl, HG.out.save, (HG.out.own HK.out).1⟩
end Go.Proofs.YtpalknbmejachaaGreatDoor
/- Walks of package compassref: onlyDigits; strings.SplitN at a bar. -/
namespace Go.Proofs.YtpalknbmejachaaGreatDoor
open Go.RowKit Cx

attribute [local go_sem ↓] Go.wp_at_zero Go.wp_at_succ

/-- Some number in the variable that the search reads. -/
def MaxL (w : World) : Prop := ∃ m, w.cell? ⟨Tryz.lays147_ren.g 1, 0, none⟩ = some (.int .i64 m)

theorem cell_lt {w : World} {p : Addr} {v : Value} (h : w.cell? p = some v) : p.block < w.heap.size := by
  rcases Nat.lt_or_ge p.block w.heap.size with h1 | h1
  · exact h1
  · exfalso
    unfold World.cell? at h
    rw [Array.getElem?_eq_none h1] at h
    simp at h

theorem MaxL.below {w w' : World} (h : MaxL w) (hb : Below w.heap.size w w') : MaxL w' := by
  obtain ⟨m, h⟩ := h
  exact ⟨m, (hb.cell (cell_lt h)).trans h⟩
theorem MaxL.shaped {w : World} (h : w.ShapedOpen Tryz.prog) : MaxL w := Tryz.laysM147.s1_3 w h

def tenDigits : ByteArray := ⟨#[48, 49, 50, 51, 52, 53, 54, 55, 56, 57]⟩

theorem dropWhile_nil {α : Type} {p : α → Bool} : ∀ {l : List α}, l.dropWhile p = [] ↔ l.all p = true
  | [] => by simp
  | x :: l => by
    rw [List.dropWhile_cons]
    split
    · rename_i h
      rw [dropWhile_nil (l := l), List.all_cons, h, Bool.true_and]
    · rename_i h
      simp [h]

theorem trimS_nil (l cs : List UInt8) : (Lib.trimS l cs = []) ↔ l.all (cs.contains ·) = true := by
  unfold Lib.trimS Lib.trimLeftS Lib.trimRightS
  constructor
  · intro h
    rw [dropWhile_nil, List.all_reverse] at h
    have h2 : (l.reverse.dropWhile (cs.contains ·)) = [] := by
      cases e : l.reverse.dropWhile (cs.contains ·) with
      | nil => rfl
      | cons x r =>
        exfalso
        rw [e, List.all_cons, Bool.and_eq_true] at h
        have h3 := List.head_dropWhile_not (p := (cs.contains ·)) (l := l.reverse) (by rw [e]; simp)
        simp only [e, List.head_cons] at h3
        rw [h.1] at h3
        cases h3
    rw [dropWhile_nil, List.all_reverse] at h2
    exact h2
  · intro h
    have : l.reverse.dropWhile (cs.contains ·) = [] := by rw [dropWhile_nil, List.all_reverse]; exact h
    rw [this]
    rfl

set_option maxRecDepth 100000 in
theorem ten_dg : (fun c : UInt8 => tenDigits.data.toList.contains c) = dg := by
  funext c
  have h : ∀ n : Fin 256, tenDigits.data.toList.contains (UInt8.ofNat n) = dg (UInt8.ofNat n) := by decide
  have := h ⟨c.toNat, c.toNat_lt⟩
  simpa using this

theorem trimB_nil (l : List UInt8) : (Lib.trimB l 48 = []) ↔ l.all (· == 48) = true := by
  unfold Lib.trimB Lib.trimLeftB Lib.trimRightB
  constructor
  · intro h
    rw [dropWhile_nil, List.all_reverse] at h
    have h2 : (l.reverse.dropWhile (· == 48)) = [] := by
      cases e : l.reverse.dropWhile (· == 48) with
      | nil => rfl
      | cons x r =>
        exfalso
        rw [e, List.all_cons, Bool.and_eq_true] at h
        have h3 := List.head_dropWhile_not (p := (· == 48)) (l := l.reverse) (by rw [e]; simp)
        simp only [e, List.head_cons] at h3
        rw [h.1] at h3
        cases h3
    rw [dropWhile_nil, List.all_reverse] at h2
    exact h2
  · intro h
    have : l.reverse.dropWhile (· == 48) = [] := by rw [dropWhile_nil, List.all_reverse]; exact h
    rw [this]
    rfl

theorem dv_zeros {l : List UInt8} (h : l.all dg = true) : l.all (· == 48) = true ↔ dv l = 0 := by
  induction l with
  | nil => simp [dv]
  | cons c l ih =>
    rw [List.all_cons, Bool.and_eq_true] at h
    rw [List.all_cons, Bool.and_eq_true, ih h.2, dv_cons]
    have hc := dg_le h.1
    have hp : 0 < 10 ^ l.length := Nat.pow_pos (by decide)
    constructor
    · rintro ⟨h1, h2⟩
      rw [h2, eq_of_beq h1]
      simp
    · intro h0
      have h1 : (c.toNat - 48) * 10 ^ l.length = 0 := by omega
      have h2 : c.toNat - 48 = 0 := by
        rcases Nat.mul_eq_zero.1 h1 with h | h
        · exact h
        · omega
      refine ⟨?_, by omega⟩
      rw [beq_iff_eq]
      exact UInt8.toNat_inj.1 (by show c.toNat = 48; omega)

theorem Tryz.zeroSet (w : World) : (zeroValue (Tryz.lays160_ren.t 116)).run Tryz.prog w = .ok (.agg (Array.replicate 256 (.bool false))) w := by kernel_rfl

theorem ten_ascii : ∀ (j : Nat) b, tenDigits.data.toList[j]? = some b → b.toNat < 128 := by
  intro j b h
  have := List.mem_of_getElem? h
  simp [tenDigits] at this
  rcases this with rfl | rfl | rfl | rfl | rfl | rfl | rfl | rfl | rfl | rfl <;> decide

theorem emp (t : ByteArray) : t.toList.isEmpty = t.data.toList.isEmpty := by rw [ByteArray.toList_eq]

set_option maxHeartbeats 2000000 in
set_option maxRecDepth 100000 in
theorem onlyDigits_calls (s : ByteArray) (w : World) (hs : s.size ≤ 4294967280) :
    Calls Tryz.prog 55 #[.string s] w fun e w' => Below w.heap.size w w' ∧ e = .returned (.bool (digs s.data.toList)) := by
  have hem := emp s
  generalize hD : digs s.data.toList = D
  by_cases h0 : s.data.toList = []
  · have HL : Hid (D = false) := by show D = false; rw [← hD, h0]; rfl
    rw [h0] at hem
    have hem2 : s.toList.isEmpty = true := hem
    clear hem hD
    go_enter Tryz.func55, Tryz.ntmps55
    go_wp2
    go_ret
    exact ⟨Below.refl _ _, by rw [HL.out]; rfl⟩
  · have hem2 : s.toList.isEmpty = false := by rw [hem, List.isEmpty_eq_false_iff]; exact h0
    have hT := Any.strings_Trim_ascii Tryz.lays160 Tryz.zeroSet (by kernel_rfl) s tenDigits w (by omega) (by decide) ten_ascii
    obtain ⟨t, ht⟩ : ∃ t : ByteArray, (⟨(Lib.trimS s.data.toList tenDigits.data.toList).toArray⟩ : ByteArray) = t := ⟨_, rfl⟩
    have HTT : Hid (D = t.toList.isEmpty) := by
      show D = _
      rw [← hD, emp t, ← ht]
      show _ = List.isEmpty (Lib.trimS s.data.toList tenDigits.data.toList)
      rw [Bool.eq_iff_iff, List.isEmpty_iff, trimS_nil, ten_dg]
      unfold digs
      rw [List.isEmpty_eq_false_iff.2 h0]
      simp
    rw [ht] at hT
    clear hem hD ht
    go_enter Tryz.func55, Tryz.ntmps55
    go_wp2_with fail
    refine Calls.mono (show Calls Tryz.prog 56 #[.string s, .string ⟨#[48, 49, 50, 51, 52, 53, 54, 55, 56, 57]⟩] w _ from hT) ?_
    rintro e w1 ⟨rfl, hb⟩
    have HB := hideIt2 hb
    clear hb hT
    go_wp2
    go_ret
    exact ⟨HB.out, by rw [HTT.out]; rfl⟩
end Go.Proofs.YtpalknbmejachaaGreatDoor
/- Walks of package compassref: Of. -/
namespace Go.Proofs.YtpalknbmejachaaGreatDoor
open Go.RowKit Cx

attribute [local go_sem ↓] Go.wp_at_zero Go.wp_at_succ

theorem index_bar (s : ByteArray) : Lib.indexB s ⟨#[47]⟩ = Lib.indexByte s.data.toList 47 := Lib.index_one s.data.toList 47

theorem split_none {s : ByteArray} (k : Nat) (h : barAt s.data.toList = none) : Lib.splitB ⟨#[47]⟩ 0 k s = [s] := by
  apply Lib.splitB_miss
  rw [index_bar]
  unfold barAt at h
  split at h
  · rename_i hn
    have := Lib.indexByte_ge s.data.toList 47
    omega
  · cases h
theorem split_some {s : ByteArray} {i : Nat} (h : barAt s.data.toList = some i) : Lib.splitB ⟨#[47]⟩ 0 1 s = [s.extract 0 i, s.extract (i + 1) s.size] := by
  have h2 := (barAt_lt h).2
  rw [← index_bar] at h2
  rw [Lib.splitB_hit _ _ _ _ i h2]
  rfl

/-- strings.SplitN at a bar, into two at most. -/
theorem split_calls (s : ByteArray) (w : World) (hm : MaxL w) (hs : s.size < 4294967281) :
    Calls Tryz.prog 54 #[.string s, .string ⟨#[47]⟩, .int .i64 2] w fun e w' => Below w.heap.size w w' ∧
      ((barAt s.data.toList = none ∧ ∃ cap, e = .returned (.slice (some ⟨w.heap.size, 0, none⟩) 1 cap) ∧ 1 ≤ cap ∧ cap ≤ 2 ∧ w'.cell? ⟨w.heap.size, 0, none⟩ = some (.string s)) ∨
       (∃ i a b, barAt s.data.toList = some i ∧ e = .returned (.slice (some ⟨w.heap.size, 0, none⟩) 2 2) ∧ w'.cell? ⟨w.heap.size, 0, none⟩ = some (.string a) ∧ w'.cell? ⟨w.heap.size, 1, none⟩ = some (.string b) ∧ a.data.toList = upOf s.data.toList ∧ b.data.toList = lowOf s.data.toList ∧ a.size ≤ s.size ∧ b.size ≤ s.size)) := by
  obtain ⟨m, hm⟩ := hm
  refine Calls.mono (show Calls Tryz.prog 54 #[.string s, .string ⟨#[47]⟩, .int .i64 2] w _ from Tryz.strings_SplitN s ⟨#[47]⟩ 2 m w hs hm (by decide) (by decide) (by decide)) ?_
  rintro e w' ⟨rfl, rfl⟩
  refine ⟨below_new _ _, ?_⟩
  rcases hb : barAt s.data.toList with _ | i
  · left
    refine ⟨rfl, min 2 (s.size + 1), ?_, by omega, by omega, ?_⟩
    · rw [split_none _ hb]
      rfl
    · rw [split_none _ hb, World.cell?_alloc_at _ _ _ _ (by simp)]
      simp [Lib.cellsOf]
  · right
    have hi := (barAt_lt hb).1
    have hi2 : i < s.size := by simpa using hi
    have e1 : min 2 (s.size + 1) = 2 := by omega
    rw [e1, show (2 - 1 : Nat) = 1 from rfl, split_some hb]
    refine ⟨i, s.extract 0 i, s.extract (i + 1) s.size, rfl, rfl, ?_, ?_, ?_, ?_, ?_, ?_⟩
    · rw [World.cell?_alloc_at _ _ _ _ (by simp)]
      simp [Lib.cellsOf]
    · rw [World.cell?_alloc_at _ _ _ _ (by simp)]
      simp [Lib.cellsOf]
    · unfold upOf; rw [hb, bytes_take]
    · unfold lowOf; rw [hb, bytes_drop]
    · rw [ByteArray.size_extract]; omega
    · rw [ByteArray.size_extract]; omega

theorem RV.nought (w : World) : RV (w.alloc (.cells #[.bool false, .slice none 0 0, .bool false, .slice none 0 0] 90)) w.heap.size 0 :=
  ⟨none, 0, 0, none, 0, 0, Blk.new _ _ _, ⟨[], NatV.nil _ _ _, Or.inl rfl, rfl⟩, Or.inr ⟨rfl, rfl⟩⟩

theorem rd_up {l : List UInt8} (h : digs (upOf (tailOf l)) = false) : rd l = 0 := by
  unfold rd
  rw [h]
  simp
theorem rd_low {l : List UInt8} (h : digs (lowOf (tailOf l)) = false) : rd l = 0 := by
  unfold rd
  rw [h]
  simp
theorem rd_nought {l : List UInt8} (h : dv (lowOf (tailOf l)) = 0) : rd l = 0 := by
  unfold rd
  rw [h, Rat.mkRat_zero]
  simp
theorem rd_pos {l : List UInt8} (hn : ngOf l = false) (h1 : digs (upOf (tailOf l)) = true) (h2 : digs (lowOf (tailOf l)) = true) : rd l = mkRat (dv (upOf (tailOf l)) : Int) (dv (lowOf (tailOf l))) := by
  unfold rd
  rw [h1, h2, hn]
  simp [sg]
theorem rd_neg {l : List UInt8} (hn : ngOf l = true) (h1 : digs (upOf (tailOf l)) = true) (h2 : digs (lowOf (tailOf l)) = true) : rd l = -mkRat (dv (upOf (tailOf l)) : Int) (dv (lowOf (tailOf l))) := by
  unfold rd
  rw [h1, h2, hn, Rat.neg_mkRat]
  simp [sg]
theorem tail_pos {l : List UInt8} (h : ngOf l = false) : tailOf l = l := by
  unfold tailOf Lib.trimPrefix
  unfold ngOf at h
  rw [h]
  rfl
theorem tail_neg {s : ByteArray} (h : ngOf s.data.toList = true) : (s.extract 1 s.size).data.toList = tailOf s.data.toList ∧ 1 ≤ s.size := by
  refine ⟨?_, ?_⟩
  · unfold tailOf Lib.trimPrefix
    unfold ngOf at h
    rw [h, bytes_drop]
    rfl
  · rcases Nat.eq_zero_or_pos s.size with h0 | h0
    · exfalso
      have : s.data.toList = [] := List.length_eq_zero_iff.1 (by simpa using h0)
      rw [this] at h
      cases h
    · exact h0
theorem bar_none {l : List UInt8} (h : barAt l = none) : upOf l = l ∧ digs (lowOf l) = true ∧ dv (lowOf l) = 1 := by
  unfold upOf lowOf
  rw [h]
  exact ⟨rfl, rfl, rfl⟩
theorem size_digs {t : ByteArray} (h : digs t.data.toList = true) (hs : t.size ≤ 4294967280) {k : Nat} (hk : 17179869120 ≤ k) : dv t.data.toList < 2 ^ k := by
  refine Nat.lt_of_lt_of_le (dv_two h) (Nat.pow_le_pow_right (by decide) ?_)
  have : t.data.toList.length = t.size := by simp
  omega
theorem held_int {w : World} {g : Nat} (hk : Blk w g #[.bool false, .slice none 0 0] 88) : Held w g := ⟨_, _, hk, by simp [notLimb]⟩

set_option maxHeartbeats 8000000 in
set_option maxRecDepth 100000 in
theorem refOf_pos (s : ByteArray) (w : World) (hm : MaxL w) (hs : s.size ≤ 4294967280) (hng : ngOf s.data.toList = false) :
    Calls Tryz.prog 17 #[.string s] w fun e w' => Below w.heap.size w w' ∧ ∃ g, e = .returned (.pointer (some ⟨g, 0, none⟩)) ∧ w.heap.size ≤ g ∧ RV w' g (rd s.data.toList) := by
  have HM := hideIt2 hm
  have HNG : Hid (Lib.hasPrefix s.data.toList (⟨#[45]⟩ : ByteArray).data.toList = false) := hng
  have HNG2 := hideIt2 hng
  obtain ⟨K, hK1, hK2⟩ : ∃ K : Nat, 17179869120 ≤ K ∧ K ≤ 17179869121 := ⟨17179869120, by decide, by decide⟩
  generalize hQ : rd s.data.toList = Q
  have HQ := hideIt2 hQ
  have HTL : Hid (s.data.toList = tailOf s.data.toList) := (tail_pos hng).symm
  have hts : s.size ≤ 4294967280 := hs
  clear hm hng hQ
  go_enter Tryz.func17, Tryz.ntmps17
  go_wp2_with fail
  refine (Tryz.strings_HasPrefix s ⟨#[45]⟩ w).mono ?_
  rintro e w1 ⟨rfl, hw1⟩
  have hw2 := hw1.symm; subst hw2; clear hw1
  rw [HNG.out]
  go_wp2_with fail
  refine (split_calls s w HM.out (by omega)).mono ?_
  rintro e w1 ⟨hb1, ⟨hbar, cap, rfl, hc1, hc2, hcell⟩ | ⟨i, a, b, hbar, rfl, hca, hcb, ha, hb, has, hbs⟩⟩
  · have HB1 := hideIt2 hb1
    obtain ⟨hup, hlo, hl1⟩ := bar_none hbar
    have HUP : Hid (upOf (tailOf s.data.toList) = s.data.toList ∧ digs (lowOf (tailOf s.data.toList)) = true ∧ dv (lowOf (tailOf s.data.toList)) = 1) := by
      rw [← HTL.out]
      exact ⟨hup, hlo, hl1⟩
    have hlw : w.heap.size < w1.heap.size := cell_lt hcell
    clear hb1 hbar hup hlo hl1
    rcases hd : digs s.data.toList with _ | _
    · have HD := hideIt2 hd
      clear hd
      go_wp2_with fail
      refine (onlyDigits_calls s w1 (by omega)).mono ?_
      rintro e w2 ⟨hb_w2, rfl⟩
      rw [HD.out]
      have HCw2 := hideIt2 (bel_bel (Below.refl _ _) hb_w2)
      clear hb_w2
      go_wp2
      go_ret
      exact ⟨Below.new (bel_bel HB1.out HCw2.out) _, _, rfl, ((bel_bel HB1.out HCw2.out)).size, by rw [← HQ.out, rd_up (by rw [HUP.out.1]; exact HD.out)]; exact RV.nought _⟩
    · have HD := hideIt2 hd
      clear hd
      go_wp2_with fail
      refine (onlyDigits_calls s w1 (by omega)).mono ?_
      rintro e w2 ⟨hb_w2, rfl⟩
      rw [HD.out]
      have HCw2 := hideIt2 (bel_bel (Below.refl _ _) hb_w2)
      clear hb_w2
      have hcell2 := (HCw2.out.cell (p := ⟨w.heap.size, 0, none⟩) hlw).trans hcell
      have hlw2 : w.heap.size < w2.heap.size := cell_lt hcell2
      go_wp2_with fail
      refine (setString_walk (s := s) (Blk.new w2 _ _) HD.out (by omega)).mono ?_
      rintro e w5 ⟨rfl, hs5, ho5⟩
      have H5 := hideIt2 (And.intro (bel_sav (Below.new (bel_bel HB1.out HCw2.out) _) hs5 (bel_bel HB1.out HCw2.out).size) ho5)
      clear hs5 ho5
      go_wp2_with fail
      refine (newInt_calls 1 (by decide) w5).mono ?_
      rintro e w6 ⟨hb6, gd, rfl, hgd, ho6⟩
      have H6 := hideIt2 (And.intro (bel_bel H5.out.1 hb6) (And.intro (H5.out.2.below hb6) ho6))
      clear hb6 ho6
      go_wp2_with fail
      refine (setFrac_walk (z := (dv s.data.toList : Int)) (b := 1) (Blk.new w6 _ _) (by simp [notLimb]) (Own2.iv (own_new _ H6.out.2.1)) (Own2.iv (own_new _ H6.out.2.2)) (by decide) (by rw [Int.natAbs_natCast]; exact small_two (k := K) (size_digs HD.out (by omega) (by omega)) (by omega)) (small_two (k := 1) (by decide) (by decide))).mono ?_
      rintro e w8 ⟨rfl, hs8, hr8⟩
      have H8 := hideIt2 (And.intro (bel_sav (Below.new H6.out.1 _) hs8 H6.out.1.size) hr8)
      clear hs8 hr8

      go_wp2
      go_ret
      exact ⟨H8.out.1, _, rfl, H6.out.1.size, by rw [← HQ.out, rd_pos HNG2.out (by rw [HUP.out.1]; exact HD.out) HUP.out.2.1, HUP.out.1, HUP.out.2.2]; exact H8.out.2⟩
  · have HB1 := hideIt2 hb1
    have HUP : Hid (upOf (tailOf s.data.toList) = a.data.toList ∧ lowOf (tailOf s.data.toList) = b.data.toList) := by
      rw [← HTL.out]
      exact ⟨ha.symm, hb.symm⟩
    have hlw : w.heap.size < w1.heap.size := cell_lt hca
    clear hb1 hbar ha hb
    rcases hd : digs a.data.toList with _ | _
    · have HD := hideIt2 hd
      clear hd
      go_wp2_with fail
      refine (onlyDigits_calls a w1 (by omega)).mono ?_
      rintro e w2 ⟨hb_w2, rfl⟩
      rw [HD.out]
      have HCw2 := hideIt2 (bel_bel (Below.refl _ _) hb_w2)
      clear hb_w2
      go_wp2
      go_ret
      exact ⟨Below.new (bel_bel HB1.out HCw2.out) _, _, rfl, ((bel_bel HB1.out HCw2.out)).size, by rw [← HQ.out, rd_up (by rw [HUP.out.1]; exact HD.out)]; exact RV.nought _⟩
    · have HD := hideIt2 hd
      clear hd
      rcases hd2 : digs b.data.toList with _ | _
      · have HD2 := hideIt2 hd2
        clear hd2
        go_wp2_with fail
        refine (onlyDigits_calls a w1 (by omega)).mono ?_
        rintro e w2 ⟨hb_w2, rfl⟩
        rw [HD.out]
        have HCw2 := hideIt2 (bel_bel (Below.refl _ _) hb_w2)
        clear hb_w2
        have hcb2 := (HCw2.out.cell (p := ⟨w.heap.size, 1, none⟩) hlw).trans hcb
        go_wp2_with fail
        refine (onlyDigits_calls b w2 (by omega)).mono ?_
        rintro e w3 ⟨hb_w3, rfl⟩
        rw [HD2.out]
        have HCw3 := hideIt2 (bel_bel HCw2.out hb_w3)
        clear hb_w3
        go_wp2
        go_ret
        exact ⟨Below.new (bel_bel HB1.out HCw3.out) _, _, rfl, ((bel_bel HB1.out HCw3.out)).size, by rw [← HQ.out, rd_low (by rw [HUP.out.2]; exact HD2.out)]; exact RV.nought _⟩
      · have HD2 := hideIt2 hd2
        clear hd2
        by_cases hz : dv b.data.toList = 0
        · have HZ : Hid ((Lib.trimB b.data.toList 48).isEmpty = true) := by
            show _ = _
            rw [List.isEmpty_iff, trimB_nil, dv_zeros (digs_all HD2.out)]
            exact hz
          have HZ0 := hideIt2 hz
          clear hz
          go_wp2_with fail
          refine (onlyDigits_calls a w1 (by omega)).mono ?_
          rintro e w2 ⟨hb_w2, rfl⟩
          rw [HD.out]
          have HCw2 := hideIt2 (bel_bel (Below.refl _ _) hb_w2)
          clear hb_w2
          have hcb2 := (HCw2.out.cell (p := ⟨w.heap.size, 1, none⟩) hlw).trans hcb
          go_wp2_with fail
          refine (onlyDigits_calls b w2 (by omega)).mono ?_
          rintro e w3 ⟨hb_w3, rfl⟩
          rw [HD2.out]
          have HCw3 := hideIt2 (bel_bel HCw2.out hb_w3)
          clear hb_w3
          have hcb3 := (HCw3.out.cell (p := ⟨w.heap.size, 1, none⟩) hlw).trans hcb
          go_wp2_with fail
          refine (Tryz.strings_Trim_one b 48 (by decide) w3 (by omega)).mono ?_
          obtain ⟨tb, htb⟩ : ∃ tb : ByteArray, (⟨(Lib.trimB b.data.toList 48).toArray⟩ : ByteArray) = tb := ⟨_, rfl⟩
          have hem : tb.toList.isEmpty = true := by
            rw [emp, ← htb]
            exact HZ.out
          rw [htb]
          clear htb
          rintro e w4 ⟨rfl, hw4⟩
          have HCw4 : Hid (Below w1.heap.size w1 w4) := by
            rcases hw4 with rfl | rfl
            · exact HCw3.out
            · exact Below.drew HCw3.out
          clear hw4
          go_wp2
          go_ret
          exact ⟨Below.new (bel_bel HB1.out HCw4.out) _, _, rfl, ((bel_bel HB1.out HCw4.out)).size, by rw [← HQ.out, rd_nought (by rw [HUP.out.2]; exact HZ0.out)]; exact RV.nought _⟩
        · have HZ : Hid ((Lib.trimB b.data.toList 48).isEmpty = false) := by
            show _ = _
            rw [List.isEmpty_eq_false_iff, Ne, trimB_nil, dv_zeros (digs_all HD2.out)]
            exact hz
          have HZ0 : Hid (0 < dv b.data.toList) := Nat.pos_of_ne_zero hz
          clear hz
          go_wp2_with fail
          refine (onlyDigits_calls a w1 (by omega)).mono ?_
          rintro e w2 ⟨hb_w2, rfl⟩
          rw [HD.out]
          have HCw2 := hideIt2 (bel_bel (Below.refl _ _) hb_w2)
          clear hb_w2
          have hcb2 := (HCw2.out.cell (p := ⟨w.heap.size, 1, none⟩) hlw).trans hcb
          go_wp2_with fail
          refine (onlyDigits_calls b w2 (by omega)).mono ?_
          rintro e w3 ⟨hb_w3, rfl⟩
          rw [HD2.out]
          have HCw3 := hideIt2 (bel_bel HCw2.out hb_w3)
          clear hb_w3
          have hcb3 := (HCw3.out.cell (p := ⟨w.heap.size, 1, none⟩) hlw).trans hcb
          go_wp2_with fail
          refine (Tryz.strings_Trim_one b 48 (by decide) w3 (by omega)).mono ?_
          obtain ⟨tb, htb⟩ : ∃ tb : ByteArray, (⟨(Lib.trimB b.data.toList 48).toArray⟩ : ByteArray) = tb := ⟨_, rfl⟩
          have hem : tb.toList.isEmpty = false := by
            rw [emp, ← htb]
            exact HZ.out
          rw [htb]
          clear htb
          rintro e w4 ⟨rfl, hw4⟩
          have HCw4 : Hid (Below w1.heap.size w1 w4) := by
            rcases hw4 with rfl | rfl
            · exact HCw3.out
            · exact Below.drew HCw3.out
          clear hw4
          have hca4 := (HCw4.out.cell (p := ⟨w.heap.size, 0, none⟩) hlw).trans hca
          have hlw4 : w.heap.size < w4.heap.size := cell_lt hca4
          go_wp2_with fail
          refine (setString_walk (s := a) (Blk.new w4 _ _) HD.out (by omega)).mono ?_
          rintro e w5 ⟨rfl, hs5, ho5⟩
          have H5 := hideIt2 (And.intro (bel_sav (Below.new HCw4.out _) hs5 HCw4.out.size) ho5)
          clear hs5 ho5
          go_wp2_with fail
          refine (newInt_calls 1 (by decide) w5).mono ?_
          rintro e w6 ⟨hb6, gd, rfl, hgd, ho6⟩
          have H6 := hideIt2 (And.intro (bel_bel H5.out.1 hb6) (H5.out.2.below hb6))
          have hcb6 := (H6.out.1.cell (p := ⟨w.heap.size, 1, none⟩) hlw).trans hcb
          have hlw6 : w.heap.size < w6.heap.size := cell_lt hcb6
          clear hb6 ho6
          go_wp2_with fail
          refine (setString_walk (s := b) (Blk.new w6 _ _) HD2.out (by omega)).mono ?_
          rintro e w7 ⟨rfl, hs7, ho7⟩
          have H7 := hideIt2 (And.intro (bel_bel HB1.out (bel_sav (Below.new H6.out.1 _) hs7 H6.out.1.size)) (And.intro (own_sav hs7 (held_int (Blk.new w6 _ _)) (own_new _ H6.out.2) (by have := H6.out.2.lt; omega)) ho7))
          clear hs7 ho7
          go_wp2_with fail
          refine (setFrac_walk (z := (dv a.data.toList : Int)) (b := dv b.data.toList) (Blk.new w7 _ _) (by simp [notLimb]) (Own2.iv (own_new _ H7.out.2.1)) (Own2.iv (own_new _ H7.out.2.2)) HZ0.out (by rw [Int.natAbs_natCast]; exact small_two (k := K) (size_digs HD.out (by omega) (by omega)) (by omega)) (small_two (k := K) (size_digs HD2.out (by omega) (by omega)) (by omega))).mono ?_
          rintro e w8 ⟨rfl, hs8, hr8⟩
          have H8 := hideIt2 (And.intro (bel_sav (Below.new H7.out.1 _) hs8 H7.out.1.size) hr8)
          clear hs8 hr8

          go_wp2
          go_ret
          exact ⟨H8.out.1, _, rfl, H7.out.1.size, by rw [← HQ.out, rd_pos HNG2.out (by rw [HUP.out.1]; exact HD.out) (by rw [HUP.out.2]; exact HD2.out), HUP.out.1, HUP.out.2]; exact H8.out.2⟩

set_option maxHeartbeats 8000000 in
set_option maxRecDepth 100000 in
theorem refOf_neg (s : ByteArray) (w : World) (hm : MaxL w) (hs : s.size ≤ 4294967280) (hng : ngOf s.data.toList = true) :
    Calls Tryz.prog 17 #[.string s] w fun e w' => Below w.heap.size w w' ∧ ∃ g, e = .returned (.pointer (some ⟨g, 0, none⟩)) ∧ w.heap.size ≤ g ∧ RV w' g (rd s.data.toList) := by
  have HM := hideIt2 hm
  have HNG : Hid (Lib.hasPrefix s.data.toList (⟨#[45]⟩ : ByteArray).data.toList = true) := hng
  have HNG2 := hideIt2 hng
  obtain ⟨K, hK1, hK2⟩ : ∃ K : Nat, 17179869120 ≤ K ∧ K ≤ 17179869121 := ⟨17179869120, by decide, by decide⟩
  generalize hQ : rd s.data.toList = Q
  have HQ := hideIt2 hQ
  obtain ⟨htl, hs1⟩ := tail_neg hng
  have HTL := hideIt2 htl
  have hts : (s.extract 1 s.size).size ≤ 4294967280 := by rw [ByteArray.size_extract]; omega
  clear htl
  clear hm hng hQ
  go_enter Tryz.func17, Tryz.ntmps17
  go_wp2_with fail
  refine (Tryz.strings_HasPrefix s ⟨#[45]⟩ w).mono ?_
  rintro e w1 ⟨rfl, hw1⟩
  have hw2 := hw1.symm; subst hw2; clear hw1
  rw [HNG.out]
  go_wp2_with fail
  generalize s.extract 1 s.size = t at *
  refine (split_calls t w HM.out (by omega)).mono ?_
  rintro e w1 ⟨hb1, ⟨hbar, cap, rfl, hc1, hc2, hcell⟩ | ⟨i, a, b, hbar, rfl, hca, hcb, ha, hb, has, hbs⟩⟩
  · have HB1 := hideIt2 hb1
    obtain ⟨hup, hlo, hl1⟩ := bar_none hbar
    have HUP : Hid (upOf (tailOf s.data.toList) = t.data.toList ∧ digs (lowOf (tailOf s.data.toList)) = true ∧ dv (lowOf (tailOf s.data.toList)) = 1) := by
      rw [← HTL.out]
      exact ⟨hup, hlo, hl1⟩
    have hlw : w.heap.size < w1.heap.size := cell_lt hcell
    clear hb1 hbar hup hlo hl1
    rcases hd : digs t.data.toList with _ | _
    · have HD := hideIt2 hd
      clear hd
      go_wp2_with fail
      refine (onlyDigits_calls t w1 (by omega)).mono ?_
      rintro e w2 ⟨hb_w2, rfl⟩
      rw [HD.out]
      have HCw2 := hideIt2 (bel_bel (Below.refl _ _) hb_w2)
      clear hb_w2
      go_wp2
      go_ret
      exact ⟨Below.new (bel_bel HB1.out HCw2.out) _, _, rfl, ((bel_bel HB1.out HCw2.out)).size, by rw [← HQ.out, rd_up (by rw [HUP.out.1]; exact HD.out)]; exact RV.nought _⟩
    · have HD := hideIt2 hd
      clear hd
      go_wp2_with fail
      refine (onlyDigits_calls t w1 (by omega)).mono ?_
      rintro e w2 ⟨hb_w2, rfl⟩
      rw [HD.out]
      have HCw2 := hideIt2 (bel_bel (Below.refl _ _) hb_w2)
      clear hb_w2
      have hcell2 := (HCw2.out.cell (p := ⟨w.heap.size, 0, none⟩) hlw).trans hcell
      have hlw2 : w.heap.size < w2.heap.size := cell_lt hcell2
      go_wp2_with fail
      refine (setString_walk (s := t) (Blk.new w2 _ _) HD.out (by omega)).mono ?_
      rintro e w5 ⟨rfl, hs5, ho5⟩
      have H5 := hideIt2 (And.intro (bel_sav (Below.new (bel_bel HB1.out HCw2.out) _) hs5 (bel_bel HB1.out HCw2.out).size) ho5)
      clear hs5 ho5
      go_wp2_with fail
      refine (newInt_calls 1 (by decide) w5).mono ?_
      rintro e w6 ⟨hb6, gd, rfl, hgd, ho6⟩
      have H6 := hideIt2 (And.intro (bel_bel H5.out.1 hb6) (And.intro (H5.out.2.below hb6) ho6))
      clear hb6 ho6
      go_wp2_with fail
      refine (setFrac_walk (z := (dv t.data.toList : Int)) (b := 1) (Blk.new w6 _ _) (by simp [notLimb]) (Own2.iv (own_new _ H6.out.2.1)) (Own2.iv (own_new _ H6.out.2.2)) (by decide) (by rw [Int.natAbs_natCast]; exact small_two (k := K) (size_digs HD.out (by omega) (by omega)) (by omega)) (small_two (k := 1) (by decide) (by decide))).mono ?_
      rintro e w8 ⟨rfl, hs8, hr8⟩
      have H8 := hideIt2 (And.intro (bel_sav (Below.new H6.out.1 _) hs8 H6.out.1.size) hr8)
      clear hs8 hr8

      obtain ⟨a1, l1, c1, a2, l2, c2, hk8, _, _⟩ := H8.out.2
      have HK8 := hideIt2 hk8
      clear hk8
      have FR : Hid (QS (K + 1) (mkRat (dv t.data.toList : Int) (1))) := QS.mkr (by rw [Int.natAbs_natCast]; exact size_digs HD.out (by omega) (by omega)) (Nat.one_lt_two_pow (by omega))
      go_wp2_with fail
      refine (ratNeg_calls HK8.out (by simp [notLimb]) H8.out.2 FR.out (by omega)).mono ?_
      rintro e w9 ⟨rfl, hs9, hr9⟩
      have H9 := hideIt2 (And.intro (bel_sav H8.out.1 hs9 H6.out.1.size) hr9)
      clear hs9 hr9
      go_wp2
      go_ret
      exact ⟨H9.out.1, _, rfl, H6.out.1.size, by rw [← HQ.out, rd_neg HNG2.out (by rw [HUP.out.1]; exact HD.out) HUP.out.2.1, HUP.out.1, HUP.out.2.2]; exact H9.out.2⟩
  · have HB1 := hideIt2 hb1
    have HUP : Hid (upOf (tailOf s.data.toList) = a.data.toList ∧ lowOf (tailOf s.data.toList) = b.data.toList) := by
      rw [← HTL.out]
      exact ⟨ha.symm, hb.symm⟩
    have hlw : w.heap.size < w1.heap.size := cell_lt hca
    clear hb1 hbar ha hb
    rcases hd : digs a.data.toList with _ | _
    · have HD := hideIt2 hd
      clear hd
      go_wp2_with fail
      refine (onlyDigits_calls a w1 (by omega)).mono ?_
      rintro e w2 ⟨hb_w2, rfl⟩
      rw [HD.out]
      have HCw2 := hideIt2 (bel_bel (Below.refl _ _) hb_w2)
      clear hb_w2
      go_wp2
      go_ret
      exact ⟨Below.new (bel_bel HB1.out HCw2.out) _, _, rfl, ((bel_bel HB1.out HCw2.out)).size, by rw [← HQ.out, rd_up (by rw [HUP.out.1]; exact HD.out)]; exact RV.nought _⟩
    · have HD := hideIt2 hd
      clear hd
      rcases hd2 : digs b.data.toList with _ | _
      · have HD2 := hideIt2 hd2
        clear hd2
        go_wp2_with fail
        refine (onlyDigits_calls a w1 (by omega)).mono ?_
        rintro e w2 ⟨hb_w2, rfl⟩
        rw [HD.out]
        have HCw2 := hideIt2 (bel_bel (Below.refl _ _) hb_w2)
        clear hb_w2
        have hcb2 := (HCw2.out.cell (p := ⟨w.heap.size, 1, none⟩) hlw).trans hcb
        go_wp2_with fail
        refine (onlyDigits_calls b w2 (by omega)).mono ?_
        rintro e w3 ⟨hb_w3, rfl⟩
        rw [HD2.out]
        have HCw3 := hideIt2 (bel_bel HCw2.out hb_w3)
        clear hb_w3
        go_wp2
        go_ret
        exact ⟨Below.new (bel_bel HB1.out HCw3.out) _, _, rfl, ((bel_bel HB1.out HCw3.out)).size, by rw [← HQ.out, rd_low (by rw [HUP.out.2]; exact HD2.out)]; exact RV.nought _⟩
      · have HD2 := hideIt2 hd2
        clear hd2
        by_cases hz : dv b.data.toList = 0
        · have HZ : Hid ((Lib.trimB b.data.toList 48).isEmpty = true) := by
            show _ = _
            rw [List.isEmpty_iff, trimB_nil, dv_zeros (digs_all HD2.out)]
            exact hz
          have HZ0 := hideIt2 hz
          clear hz
          go_wp2_with fail
          refine (onlyDigits_calls a w1 (by omega)).mono ?_
          rintro e w2 ⟨hb_w2, rfl⟩
          rw [HD.out]
          have HCw2 := hideIt2 (bel_bel (Below.refl _ _) hb_w2)
          clear hb_w2
          have hcb2 := (HCw2.out.cell (p := ⟨w.heap.size, 1, none⟩) hlw).trans hcb
          go_wp2_with fail
          refine (onlyDigits_calls b w2 (by omega)).mono ?_
          rintro e w3 ⟨hb_w3, rfl⟩
          rw [HD2.out]
          have HCw3 := hideIt2 (bel_bel HCw2.out hb_w3)
          clear hb_w3
          have hcb3 := (HCw3.out.cell (p := ⟨w.heap.size, 1, none⟩) hlw).trans hcb
          go_wp2_with fail
          refine (Tryz.strings_Trim_one b 48 (by decide) w3 (by omega)).mono ?_
          obtain ⟨tb, htb⟩ : ∃ tb : ByteArray, (⟨(Lib.trimB b.data.toList 48).toArray⟩ : ByteArray) = tb := ⟨_, rfl⟩
          have hem : tb.toList.isEmpty = true := by
            rw [emp, ← htb]
            exact HZ.out
          rw [htb]
          clear htb
          rintro e w4 ⟨rfl, hw4⟩
          have HCw4 : Hid (Below w1.heap.size w1 w4) := by
            rcases hw4 with rfl | rfl
            · exact HCw3.out
            · exact Below.drew HCw3.out
          clear hw4
          go_wp2
          go_ret
          exact ⟨Below.new (bel_bel HB1.out HCw4.out) _, _, rfl, ((bel_bel HB1.out HCw4.out)).size, by rw [← HQ.out, rd_nought (by rw [HUP.out.2]; exact HZ0.out)]; exact RV.nought _⟩
        · have HZ : Hid ((Lib.trimB b.data.toList 48).isEmpty = false) := by
            show _ = _
            rw [List.isEmpty_eq_false_iff, Ne, trimB_nil, dv_zeros (digs_all HD2.out)]
            exact hz
          have HZ0 : Hid (0 < dv b.data.toList) := Nat.pos_of_ne_zero hz
          clear hz
          go_wp2_with fail
          refine (onlyDigits_calls a w1 (by omega)).mono ?_
          rintro e w2 ⟨hb_w2, rfl⟩
          rw [HD.out]
          have HCw2 := hideIt2 (bel_bel (Below.refl _ _) hb_w2)
          clear hb_w2
          have hcb2 := (HCw2.out.cell (p := ⟨w.heap.size, 1, none⟩) hlw).trans hcb
          go_wp2_with fail
          refine (onlyDigits_calls b w2 (by omega)).mono ?_
          rintro e w3 ⟨hb_w3, rfl⟩
          rw [HD2.out]
          have HCw3 := hideIt2 (bel_bel HCw2.out hb_w3)
          clear hb_w3
          have hcb3 := (HCw3.out.cell (p := ⟨w.heap.size, 1, none⟩) hlw).trans hcb
          go_wp2_with fail
          refine (Tryz.strings_Trim_one b 48 (by decide) w3 (by omega)).mono ?_
          obtain ⟨tb, htb⟩ : ∃ tb : ByteArray, (⟨(Lib.trimB b.data.toList 48).toArray⟩ : ByteArray) = tb := ⟨_, rfl⟩
          have hem : tb.toList.isEmpty = false := by
            rw [emp, ← htb]
            exact HZ.out
          rw [htb]
          clear htb
          rintro e w4 ⟨rfl, hw4⟩
          have HCw4 : Hid (Below w1.heap.size w1 w4) := by
            rcases hw4 with rfl | rfl
            · exact HCw3.out
            · exact Below.drew HCw3.out
          clear hw4
          have hca4 := (HCw4.out.cell (p := ⟨w.heap.size, 0, none⟩) hlw).trans hca
          have hlw4 : w.heap.size < w4.heap.size := cell_lt hca4
          go_wp2_with fail
          refine (setString_walk (s := a) (Blk.new w4 _ _) HD.out (by omega)).mono ?_
          rintro e w5 ⟨rfl, hs5, ho5⟩
          have H5 := hideIt2 (And.intro (bel_sav (Below.new HCw4.out _) hs5 HCw4.out.size) ho5)
          clear hs5 ho5
          go_wp2_with fail
          refine (newInt_calls 1 (by decide) w5).mono ?_
          rintro e w6 ⟨hb6, gd, rfl, hgd, ho6⟩
          have H6 := hideIt2 (And.intro (bel_bel H5.out.1 hb6) (H5.out.2.below hb6))
          have hcb6 := (H6.out.1.cell (p := ⟨w.heap.size, 1, none⟩) hlw).trans hcb
          have hlw6 : w.heap.size < w6.heap.size := cell_lt hcb6
          clear hb6 ho6
          go_wp2_with fail
          refine (setString_walk (s := b) (Blk.new w6 _ _) HD2.out (by omega)).mono ?_
          rintro e w7 ⟨rfl, hs7, ho7⟩
          have H7 := hideIt2 (And.intro (bel_bel HB1.out (bel_sav (Below.new H6.out.1 _) hs7 H6.out.1.size)) (And.intro (own_sav hs7 (held_int (Blk.new w6 _ _)) (own_new _ H6.out.2) (by have := H6.out.2.lt; omega)) ho7))
          clear hs7 ho7
          go_wp2_with fail
          refine (setFrac_walk (z := (dv a.data.toList : Int)) (b := dv b.data.toList) (Blk.new w7 _ _) (by simp [notLimb]) (Own2.iv (own_new _ H7.out.2.1)) (Own2.iv (own_new _ H7.out.2.2)) HZ0.out (by rw [Int.natAbs_natCast]; exact small_two (k := K) (size_digs HD.out (by omega) (by omega)) (by omega)) (small_two (k := K) (size_digs HD2.out (by omega) (by omega)) (by omega))).mono ?_
          rintro e w8 ⟨rfl, hs8, hr8⟩
          have H8 := hideIt2 (And.intro (bel_sav (Below.new H7.out.1 _) hs8 H7.out.1.size) hr8)
          clear hs8 hr8

          obtain ⟨a1, l1, c1, a2, l2, c2, hk8, _, _⟩ := H8.out.2
          have HK8 := hideIt2 hk8
          clear hk8
          have FR : Hid (QS (K + 1) (mkRat (dv a.data.toList : Int) (dv b.data.toList))) := QS.mkr (by rw [Int.natAbs_natCast]; exact size_digs HD.out (by omega) (by omega)) (size_digs HD2.out (by omega) (by omega))
          go_wp2_with fail
          refine (ratNeg_calls HK8.out (by simp [notLimb]) H8.out.2 FR.out (by omega)).mono ?_
          rintro e w9 ⟨rfl, hs9, hr9⟩
          have H9 := hideIt2 (And.intro (bel_sav H8.out.1 hs9 H7.out.1.size) hr9)
          clear hs9 hr9
          go_wp2
          go_ret
          exact ⟨H9.out.1, _, rfl, H7.out.1.size, by rw [← HQ.out, rd_neg HNG2.out (by rw [HUP.out.1]; exact HD.out) (by rw [HUP.out.2]; exact HD2.out), HUP.out.1, HUP.out.2]; exact H9.out.2⟩

/-- Of: what a text counts as. -/
theorem refOf_calls (s : ByteArray) (w : World) (hm : MaxL w) (hs : s.size ≤ 4294967280) :
    Calls Tryz.prog 17 #[.string s] w fun e w' => Below w.heap.size w w' ∧ ∃ g, e = .returned (.pointer (some ⟨g, 0, none⟩)) ∧ w.heap.size ≤ g ∧ RV w' g (rd s.data.toList) := by
  rcases h : ngOf s.data.toList with _ | _
  · exact refOf_pos s w hm hs h
  · exact refOf_neg s w hm hs h
end Go.Proofs.YtpalknbmejachaaGreatDoor
/- Walks of package compassref: Sub, Add. -/
namespace Go.Proofs.YtpalknbmejachaaGreatDoor
open Go.RowKit Cx

attribute [local go_sem ↓] Go.wp_at_zero Go.wp_at_succ

/-- The value is a pointer to the ratio q, in memory from B on. -/
def PR (w : World) (v : Value) (q : Rat) : Prop := ∃ g, v = .pointer (some ⟨g, 0, none⟩) ∧ RV w g q
theorem PR.below {w w' : World} {v : Value} {q : Rat} (h : PR w v q) (hb : Below w.heap.size w w') : PR w' v q := by
  obtain ⟨g, e, h⟩ := h
  exact ⟨g, e, h.below hb⟩

theorem RV.part {w : World} {g : Nat} {q : Rat} (h : RV w g q) : ∃ y0 y1 y2 y3, Blk w g #[y0, y1, y2, y3] 90 ∧ (#[y0, y1, y2, y3] : Array Value).all notLimb = true := by
  obtain ⟨a1, l1, c1, a2, l2, c2, h0, _⟩ := h
  exact ⟨_, _, _, _, h0, by simp [notLimb]⟩

set_option maxHeartbeats 2000000 in
set_option maxRecDepth 100000 in
/-- Sub, in new memory. -/
theorem refSub_calls {w : World} {px py : Value} {x y : Rat} {k l : Nat} (hx : PR w px x) (hy : PR w py y) (fx : QS k x) (fy : QS l y) (hkl : k + l + 1 ≤ 35184372088640) :
    Calls Tryz.prog 30 #[px, py] w fun e w' => Below w.heap.size w w' ∧ ∃ v, e = .returned v ∧ PR w' v (x - y) := by
  obtain ⟨gx, rfl, hx⟩ := hx
  obtain ⟨gy, rfl, hy⟩ := hy
  have HX := hideIt2 hx
  have HY := hideIt2 hy
  clear hx hy
  go_enter Tryz.func30, Tryz.ntmps30
  go_wp2_with fail
  refine (ratSub_calls (Blk.new w _ _) (by simp [notLimb]) (HX.out.below (below_new _ _)) (HY.out.below (below_new _ _)) fx fy hkl).mono ?_
  rintro e w1 ⟨rfl, hs, hr⟩
  have H1 := hideIt2 (And.intro (bel_sav (below_new _ _) hs (Nat.le_refl _)) hr)
  clear hs hr
  go_wp2
  go_ret
  exact ⟨H1.out.1, _, rfl, _, rfl, H1.out.2⟩

/-- The value is a slice of pointers to the ratios qs. -/
def RRow (w : World) (v : Value) (qs : List Rat) : Prop :=
  ∃ b off cap, v = .slice (some ⟨b, off, none⟩) qs.length cap ∧ b < w.heap.size ∧ ∀ (j : Nat) (hj : j < qs.length), ∃ p, w.cell? ⟨b, off + j, none⟩ = some p ∧ PR w p (qs[j]'hj)
theorem RRow.below {w w' : World} {v : Value} {qs : List Rat} (h : RRow w v qs) (hb : Below w.heap.size w w') : RRow w' v qs := by
  obtain ⟨b, off, cap, e, hlt, h⟩ := h
  refine ⟨b, off, cap, e, Nat.lt_of_lt_of_le hlt hb.size, fun j hj => ?_⟩
  obtain ⟨p, h0, h1⟩ := h j hj
  exact ⟨p, by rw [hb.cell (p := ⟨b, off + j, none⟩) hlt]; exact h0, h1.below hb⟩

theorem rrow_idx {b off n cap k : Nat} (hk : k < n) (wx : World) : (Instr.indexAt 101 (.slice (some ⟨b, off, none⟩) n cap) (.int .i64 k)).run Tryz.prog wx = .ok (.pointer (some ⟨b, off + k, none⟩)) wx := by
  have he : Tryz.prog.elem 101 = 28 := by simp [Program.elem, Tryz.underlying101]
  rw [run_indexAt_slice (h := by rw [he]; exact Tryz.underlying101), if_pos (by omega), he, Tryz.sizeOf28]
  simp [Result.andThen, Addr.add]

set_option maxHeartbeats 4000000 in
set_option maxRecDepth 100000 in
theorem refAdd_walk {w : World} {b off cap : Nat} {qs : List Rat} (h : RRow w (.slice (some ⟨b, off, none⟩) qs.length cap) qs) {K : Nat} (f : ∀ q ∈ qs, QS K q) (hn : qs.length ≤ 1000000) (hk : qs.length * (K + 1) + 1 ≤ 35184372088640) :
    Calls Tryz.prog 20 #[.slice (some ⟨b, off, none⟩) qs.length cap] w fun e w' => Below w.heap.size w w' ∧ ∃ v, e = .returned v ∧ PR w' v (rsum qs) := by
  have HR := hideIt h
  have F := hideIt f
  have HK := hideIt hk
  clear h f hk
  go_enter Tryz.func20, Tryz.ntmps20
  go_wp2
  go_loopw [9] (fun i wr => ∃ k : Nat, k ≤ qs.length ∧ i = .int .i64 (k : Int) ∧ Below w.heap.size w wr ∧ RV wr w.heap.size (rsum (qs.take k))) (fun i _ => qs.length - (intOf i).toNat)
  case atStart =>
    refine ⟨0, Nat.zero_le _, rfl, below_new _ _, ?_⟩
    rw [List.take_zero]
    exact RV.nought _
  case round =>
    obtain ⟨k, hkl, rfl, hbel, hq⟩ := hrel
    have HQ := hideIt2 hq
    have HBL := hideIt2 hbel
    clear hq hbel
    by_cases hend : k = qs.length
    · subst hend
      go_wp2
      go_ret
      exact ⟨HBL.out, _, rfl, _, rfl, by have := HQ.out; rwa [List.take_length] at this⟩
    · have hlt : k < qs.length := by omega
      have hidx := rrow_idx (b := b) (off := off) (cap := cap) hlt
      obtain ⟨b', off', cap', e, hbl, hcells⟩ := HR.out
      cases e
      obtain ⟨p, hp, gx, rfl, hx⟩ := hcells k hlt
      have z0 := (HBL.out.cell (p := ⟨b, off + k, none⟩) hbl).trans hp
      have HX := hideIt2 (hx.below HBL.out)
      have FS := hideIt (QS.rsum F.out k)
      have FQ := hideIt (F.out _ (List.getElem_mem hlt))
      have HKK : Hid (k * (K + 1) + 1 + K + 1 ≤ 35184372088640) := by
        have h1 := HK.out
        have h2 : (k + 1) * (K + 1) ≤ qs.length * (K + 1) := Nat.mul_le_mul_right _ hlt
        rw [Nat.succ_mul] at h2
        show _ ≤ _
        omega
      have HE := hideIt2 (rsum_take hlt)
      clear hp hx hcells
      obtain ⟨y0, y1, y2, y3, hkb, hno⟩ := RV.part HQ.out
      have HKB := hideIt2 (And.intro hkb hno)
      clear hkb hno
      go_wp2_with fail
      refine (ratAdd_calls HKB.out.1 HKB.out.2 HQ.out HX.out FS.out FQ.out HKK.out).mono ?_
      rintro e w2 ⟨rfl, hs, hr⟩
      have H2 := hideIt2 (And.intro (bel_sav HBL.out hs (Nat.le_refl _)) hr)
      clear hs hr
      go_wp2
      go_roundw
      case rel => exact ⟨k + 1, hlt, by go_num, H2.out.1, by rw [HE.out]; exact H2.out.2⟩
      case measure => simp [intOf]; omega
/-- Add: of all of them. -/
theorem refAdd_calls {w : World} {v : Value} {qs : List Rat} (h : RRow w v qs) {K : Nat} (f : ∀ q ∈ qs, QS K q) (hn : qs.length ≤ 1000000) (hk : qs.length * (K + 1) + 1 ≤ 35184372088640) :
    Calls Tryz.prog 20 #[v] w fun e w' => Below w.heap.size w w' ∧ ∃ v', e = .returned v' ∧ PR w' v' (rsum qs) := by
  have h' := h
  obtain ⟨b, off, cap, rfl, _⟩ := h
  exact refAdd_walk h' f hn hk

def rprod (qs : List Rat) : Rat := qs.foldl (fun a q => a * q) 1

theorem rprod_take {qs : List Rat} {k : Nat} (h : k < qs.length) : rprod (qs.take (k + 1)) = rprod (qs.take k) * qs[k] := by
  unfold rprod
  rw [List.take_succ_eq_append_getElem h, List.foldl_append]
  rfl

theorem QS.rprod {K : Nat} : ∀ {qs : List Rat} (_ : ∀ q ∈ qs, QS K q) (k : Nat), QS (k * (K + 1) + 1) (rprod (qs.take k))
  | qs, _, 0 => by
    rw [List.take_zero]
    exact QS.mono (k := 1) ⟨by decide, by decide⟩ (by omega)
  | qs, h, k + 1 => by
    have ih := QS.rprod h k
    by_cases hk : k < qs.length
    · rw [rprod_take hk]
      refine (ih.mul (h _ (List.getElem_mem hk))).mono ?_
      rw [Nat.succ_mul]; omega
    · rw [List.take_of_length_le (by omega)]
      rw [List.take_of_length_le (by omega)] at ih
      exact ih.mono (by rw [Nat.succ_mul]; omega)

set_option maxHeartbeats 4000000 in
set_option maxRecDepth 100000 in
theorem refMul_walk {w : World} {b off cap : Nat} {qs : List Rat} (h : RRow w (.slice (some ⟨b, off, none⟩) qs.length cap) qs) {K : Nat} (f : ∀ q ∈ qs, QS K q) (hn : qs.length ≤ 1000000) (hk : qs.length * (K + 1) + 1 ≤ 35184372088640) :
    Calls Tryz.prog 25 #[.slice (some ⟨b, off, none⟩) qs.length cap] w fun e w' => Below w.heap.size w w' ∧ ∃ v, e = .returned v ∧ PR w' v (rprod qs) := by
  have HR := hideIt h
  have F := hideIt f
  have HK := hideIt hk
  clear h f hk
  go_enter Tryz.func25, Tryz.ntmps25
  go_wp2_with fail
  refine (refN_calls 1 (by decide) w).mono ?_
  rintro e w0 ⟨hb0, g0, rfl, hg0, hr0⟩
  have H0 := hideIt2 (And.intro hb0 hr0)
  clear hb0 hr0
  go_wp2
  go_loopw [9] (fun i wr => ∃ k : Nat, k ≤ qs.length ∧ i = .int .i64 (k : Int) ∧ Below w.heap.size w wr ∧ RV wr g0 (rprod (qs.take k))) (fun i _ => qs.length - (intOf i).toNat)
  case atStart =>
    refine ⟨0, Nat.zero_le _, rfl, H0.out.1, ?_⟩
    rw [List.take_zero]
    exact H0.out.2
  case round =>
    obtain ⟨k, hkl, rfl, hbel, hq⟩ := hrel
    have HQ := hideIt2 hq
    have HBL := hideIt2 hbel
    clear hq hbel
    by_cases hend : k = qs.length
    · subst hend
      go_wp2
      go_ret
      exact ⟨HBL.out, _, rfl, _, rfl, by have := HQ.out; rwa [List.take_length] at this⟩
    · have hlt : k < qs.length := by omega
      have hidx := rrow_idx (b := b) (off := off) (cap := cap) hlt
      obtain ⟨b', off', cap', e, hbl, hcells⟩ := HR.out
      cases e
      obtain ⟨p, hp, gx, rfl, hx⟩ := hcells k hlt
      have z0 := (HBL.out.cell (p := ⟨b, off + k, none⟩) hbl).trans hp
      have HX := hideIt2 (hx.below HBL.out)
      have FS := hideIt (QS.rprod F.out k)
      have FQ := hideIt (F.out _ (List.getElem_mem hlt))
      have HKK : Hid (k * (K + 1) + 1 + K + 1 ≤ 35184372088640) := by
        have h1 := HK.out
        have h2 : (k + 1) * (K + 1) ≤ qs.length * (K + 1) := Nat.mul_le_mul_right _ hlt
        rw [Nat.succ_mul] at h2
        show _ ≤ _
        omega
      have HE := hideIt2 (rprod_take hlt)
      clear hp hx hcells
      obtain ⟨y0, y1, y2, y3, hkb, hno⟩ := RV.part HQ.out
      have HKB := hideIt2 (And.intro hkb hno)
      clear hkb hno
      go_wp2_with fail
      refine (ratMul_calls HKB.out.1 HKB.out.2 HQ.out HX.out FS.out FQ.out HKK.out).mono ?_
      rintro e w2 ⟨rfl, hs, hr⟩
      have H2 := hideIt2 (And.intro (bel_sav HBL.out hs hg0) hr)
      clear hs hr
      go_wp2
      go_roundw
      case rel => exact ⟨k + 1, hlt, by go_num, H2.out.1, by rw [HE.out]; exact H2.out.2⟩
      case measure => simp [intOf]; omega
/-- Mul: of all of them. -/
theorem refMul_calls {w : World} {v : Value} {qs : List Rat} (h : RRow w v qs) {K : Nat} (f : ∀ q ∈ qs, QS K q) (hn : qs.length ≤ 1000000) (hk : qs.length * (K + 1) + 1 ≤ 35184372088640) :
    Calls Tryz.prog 25 #[v] w fun e w' => Below w.heap.size w w' ∧ ∃ v', e = .returned v' ∧ PR w' v' (rprod qs) := by
  have h' := h
  obtain ⟨b, off, cap, rfl, _⟩ := h
  exact refMul_walk h' f hn hk

end Go.Proofs.YtpalknbmejachaaGreatDoor
/- Walks of package compassref: Plus, Minus, Times, Dot, Cross of points. -/
namespace Go.Proofs.YtpalknbmejachaaGreatDoor
open Go.RowKit Cx

attribute [local go_sem ↓] Go.wp_at_zero Go.wp_at_succ

/-- A point or way of ratios. -/
def VV (w : World) (v : Value) (x y : Rat) : Prop := ∃ px py, v = .agg #[px, py] ∧ PR w px x ∧ PR w py y
theorem VV.below {w w' : World} {v : Value} {x y : Rat} (h : VV w v x y) (hb : Below w.heap.size w w') : VV w' v x y := by
  obtain ⟨px, py, e, h1, h2⟩ := h
  exact ⟨px, py, e, h1.below hb, h2.below hb⟩

theorem rv_new {w : World} {g : Nat} {q : Rat} (o : Obj) (h : RV w g q) : RV (w.alloc o) g q := h.below (below_new _ _)
theorem rv_drew {w : World} {g : Nat} {q : Rat} (h : RV w g q) : RV w.drew g q := h.below (Below.drew (Below.refl _ _))
theorem rv_bel {w w' : World} {g : Nat} {q : Rat} (hb : Below w.heap.size w w') (h : RV w g q) : RV w' g q := h.below hb
theorem RV.put2 {w : World} {g g' : Nat} {q : Rat} {c0 c1 : Value} {t : TypeId} (h : RV w g' q) (hb : Blk w g #[c0, c1] t) (h0 : notLimb c0 = true) (h1 : notLimb c1 = true) (x0 x1 : Value) : RV ((w.setCell ⟨g, 0, none⟩ x0).setCell ⟨g, 1, none⟩ x1) g' q := by
  have hne : g' ≠ g := by
    rintro rfl
    obtain ⟨a1, l1, c1', a2, l2, c2, hk, _⟩ := h
    have h2 := hk.cell 2
    rw [hb.cell 2] at h2
    simp at h2
  exact h.save hne ⟨_, _, hb, by simp [h0, h1]⟩ (((Save.of (Below.refl _ _)).set _ _).set _ _)

theorem rrow2 {w : World} {b : Nat} {p q : Value} {x y : Rat} (hb : Blk w b #[p, q] 28) (hx : PR w p x) (hy : PR w q y) : RRow w (.slice (some ⟨b, 0, none⟩) 2 2) [x, y] := by
  refine ⟨b, 0, 2, rfl, hb.lt, fun j hj => ?_⟩
  match j, hj with
  | 0, _ => exact ⟨p, hb.cell 0, hx⟩
  | 1, _ => exact ⟨q, hb.cell 1, hy⟩
theorem rrow3 {w : World} {b : Nat} {p q r : Value} {x y z : Rat} (hb : Blk w b #[p, q, r] 28) (hx : PR w p x) (hy : PR w q y) (hz : PR w r z) : RRow w (.slice (some ⟨b, 0, none⟩) 3 3) [x, y, z] := by
  refine ⟨b, 0, 3, rfl, hb.lt, fun j hj => ?_⟩
  match j, hj with
  | 0, _ => exact ⟨p, hb.cell 0, hx⟩
  | 1, _ => exact ⟨q, hb.cell 1, hy⟩
  | 2, _ => exact ⟨r, hb.cell 2, hz⟩
theorem rprod2 (a b : Rat) : rprod [a, b] = a * b := by simp [rprod, Rat.one_mul]
theorem rprod3 (a b c : Rat) : rprod [a, b, c] = a * b * c := by simp [rprod, Rat.one_mul]

set_option maxHeartbeats 4000000 in
set_option maxRecDepth 100000 in
theorem vPlus_walk {w : World} {gax gaz gbx gbz : Nat} {ax az bx bz : Rat} {k : Nat} (hax : RV w gax ax) (haz : RV w gaz az) (hbx : RV w gbx bx) (hbz : RV w gbz bz) (fax : QS k ax) (faz : QS k az) (fbx : QS k bx) (fbz : QS k bz) (hk : 8 * k + 16 ≤ 35184372088640) :
    Calls Tryz.prog 27 #[.agg #[.pointer (some ⟨gax, 0, none⟩), .pointer (some ⟨gaz, 0, none⟩)], .agg #[.pointer (some ⟨gbx, 0, none⟩), .pointer (some ⟨gbz, 0, none⟩)]] w fun e w' => Below w.heap.size w w' ∧ ∃ v, e = .returned v ∧ VV w' v (ax + bx) (az + bz) := by
  obtain ⟨hb0, hk0, hk1, hk2, hsz⟩ := boxes3 w #[.pointer (some ⟨gax, 0, none⟩), .pointer (some ⟨gaz, 0, none⟩)] #[.pointer (some ⟨gbx, 0, none⟩), .pointer (some ⟨gbz, 0, none⟩)] #[.pointer none, .pointer none] 30 30 30
  have HB0 := hideIt2 hb0
  have HSZ := hideIt2 hsz
  have HK0 := hideIt2 hk0
  have HK1 := hideIt2 hk1
  have HK2 := hideIt2 hk2
  have Hax := hideIt2 (hax.below hb0)
  have Haz := hideIt2 (haz.below hb0)
  have Hbx := hideIt2 (hbx.below hb0)
  have Hbz := hideIt2 (hbz.below hb0)
  have Fax := hideIt2 fax
  have Faz := hideIt2 faz
  have Fbx := hideIt2 fbx
  have Fbz := hideIt2 fbz
  clear hb0 hsz hk0 hk1 hk2 hax haz hbx hbz fax faz fbx fbz
  go_enter Tryz.func27, Tryz.ntmps27
  go_wp2_with fail
  generalize (((w.alloc (.cells #[.pointer (some ⟨gax, 0, none⟩), .pointer (some ⟨gaz, 0, none⟩)] 30)).alloc (.cells #[.pointer (some ⟨gbx, 0, none⟩), .pointer (some ⟨gbz, 0, none⟩)] 30)).alloc (.cells #[.pointer none, .pointer none] 30)) = W0 at *
  have HS : Hid (∀ w', Below W0.heap.size W0 w' → w'.cell? ⟨w.heap.size, 0, none⟩ = some (.pointer (some ⟨gax, 0, none⟩)) ∧ w'.cell? ⟨w.heap.size, 1, none⟩ = some (.pointer (some ⟨gaz, 0, none⟩)) ∧ w'.cell? ⟨w.heap.size + 1, 0, none⟩ = some (.pointer (some ⟨gbx, 0, none⟩)) ∧ w'.cell? ⟨w.heap.size + 1, 1, none⟩ = some (.pointer (some ⟨gbz, 0, none⟩))) := fun w' hb => ⟨(HK0.out.below hb (by rw [HSZ.out]; omega)).cell 0, (HK0.out.below hb (by rw [HSZ.out]; omega)).cell 1, (HK1.out.below hb (by rw [HSZ.out]; omega)).cell 0, (HK1.out.below hb (by rw [HSZ.out]; omega)).cell 1⟩
  have HSS : Hid (∀ w', Below W0.heap.size W0 w' → ∀ x0 x1 : Value, ((w'.setCell ⟨w.heap.size + 1 + 1, 0, none⟩ x0).setCell ⟨w.heap.size + 1 + 1, 1, none⟩ x1).cell? ⟨w.heap.size, 0, none⟩ = some (.pointer (some ⟨gax, 0, none⟩)) ∧ ((w'.setCell ⟨w.heap.size + 1 + 1, 0, none⟩ x0).setCell ⟨w.heap.size + 1 + 1, 1, none⟩ x1).cell? ⟨w.heap.size, 1, none⟩ = some (.pointer (some ⟨gaz, 0, none⟩)) ∧ ((w'.setCell ⟨w.heap.size + 1 + 1, 0, none⟩ x0).setCell ⟨w.heap.size + 1 + 1, 1, none⟩ x1).cell? ⟨w.heap.size + 1, 0, none⟩ = some (.pointer (some ⟨gbx, 0, none⟩)) ∧ ((w'.setCell ⟨w.heap.size + 1 + 1, 0, none⟩ x0).setCell ⟨w.heap.size + 1 + 1, 1, none⟩ x1).cell? ⟨w.heap.size + 1, 1, none⟩ = some (.pointer (some ⟨gbz, 0, none⟩))) := fun w' hb x0 x1 => ⟨((HK0.out.below hb (by rw [HSZ.out]; omega)).off2 (g := w.heap.size + 1 + 1) (by omega) x0 x1).cell 0, ((HK0.out.below hb (by rw [HSZ.out]; omega)).off2 (g := w.heap.size + 1 + 1) (by omega) x0 x1).cell 1, ((HK1.out.below hb (by rw [HSZ.out]; omega)).off2 (g := w.heap.size + 1 + 1) (by omega) x0 x1).cell 0, ((HK1.out.below hb (by rw [HSZ.out]; omega)).off2 (g := w.heap.size + 1 + 1) (by omega) x0 x1).cell 1⟩
  obtain ⟨z0, z1, z2, z3⟩ := HS.out W0 (Below.refl _ _)
  go_region_held3 (fun w' => w'.cell? ⟨w.heap.size, 0, none⟩ = some (.pointer (some ⟨gax, 0, none⟩)) ∧ w'.cell? ⟨w.heap.size, 1, none⟩ = some (.pointer (some ⟨gaz, 0, none⟩)) ∧ w'.cell? ⟨w.heap.size + 1, 0, none⟩ = some (.pointer (some ⟨gbx, 0, none⟩)) ∧ w'.cell? ⟨w.heap.size + 1, 1, none⟩ = some (.pointer (some ⟨gbz, 0, none⟩))) (first | (refine HS.out _ ?_; (repeat' first | with_reducible exact hbl2 | with_reducible exact hbl1 | with_reducible exact Below.refl _ _ | with_reducible refine Below.new ?_ _ | with_reducible refine Below.drew ?_); done) | (refine HSS.out _ ?_ _ _; (repeat' first | with_reducible exact hbl2 | with_reducible exact hbl1 | with_reducible exact Below.refl _ _ | with_reducible refine Below.new ?_ _ | with_reducible refine Below.drew ?_); done) | go_keep)
    (first
      | (have hq1 := hbl1; go_at_call 20; refine (refAdd_calls (rrow2 (by repeat' first | with_reducible exact Blk.new _ _ _ | ((with_reducible refine blk_at ?_); (first | with_reducible rfl | (simp; done))) | with_reducible refine blk_old _ ?_ | with_reducible refine blk_drew ?_ | with_reducible refine blk_bel hb1 ?_) ⟨_, rfl, Haz.out.below (by repeat' first | with_reducible exact hbl1 | with_reducible exact Below.refl _ _ | with_reducible refine Below.new ?_ _ | with_reducible refine Below.drew ?_)⟩ ⟨_, rfl, Hbz.out.below (by repeat' first | with_reducible exact hbl1 | with_reducible exact Below.refl _ _ | with_reducible refine Below.new ?_ _ | with_reducible refine Below.drew ?_)⟩) (all2 (QS.mono (l := k + k) Faz.out (by omega)) (QS.mono (l := k + k) Fbz.out (by omega))) (by simp) (by simp only [List.length_cons, List.length_nil]; omega)).mono ?_; rintro e w2 ⟨hb2, _, rfl, g2, rfl, hv2⟩; rw [rsum2] at hv2; have hbl2 : Below W0.heap.size W0 w2 := bel_bel (by repeat' first | with_reducible exact hbl1 | with_reducible exact Below.refl _ _ | with_reducible refine Below.new ?_ _ | with_reducible refine Below.drew ?_) hb2; have hs2 := HS.out w2 hbl2; have hkr := HK2.out.below hbl2 (by rw [HSZ.out]; omega); obtain ⟨r0, r1, f0, f1⟩ := hkr.all2)
      | (go_at_call 20; refine (refAdd_calls (rrow2 (by repeat' first | with_reducible exact Blk.new _ _ _ | ((with_reducible refine blk_at ?_); (first | with_reducible rfl | (simp; done))) | with_reducible refine blk_old _ ?_ | with_reducible refine blk_drew ?_) ⟨_, rfl, Hax.out.below (by repeat' first | with_reducible exact Below.refl _ _ | with_reducible refine Below.new ?_ _ | with_reducible refine Below.drew ?_)⟩ ⟨_, rfl, Hbx.out.below (by repeat' first | with_reducible exact Below.refl _ _ | with_reducible refine Below.new ?_ _ | with_reducible refine Below.drew ?_)⟩) (all2 (QS.mono (l := k + k) Fax.out (by omega)) (QS.mono (l := k + k) Fbx.out (by omega))) (by simp) (by simp only [List.length_cons, List.length_nil]; omega)).mono ?_; rintro e w1 ⟨hb1, _, rfl, g1, rfl, hv1⟩; rw [rsum2] at hv1; have hbl1 : Below W0.heap.size W0 w1 := bel_bel (by repeat' first | with_reducible exact Below.refl _ _ | with_reducible refine Below.new ?_ _ | with_reducible refine Below.drew ?_) hb1; have hs1 := HS.out w1 hbl1)
      )
  all_goals
    go_wp2
    obtain ⟨k0, k1, _, _⟩ := (hkr.put2 (.pointer (some ⟨g1, 0, none⟩)) (.pointer (some ⟨g2, 0, none⟩))).all2
    refine bodyPost_ret (v := .agg #[.pointer (some ⟨g1, 0, none⟩), .pointer (some ⟨g2, 0, none⟩)]) (by simp [results, Tryz.results27, go_sem, k0, k1]) rfl ⟨Below.put2 (HB0.out.trans (hbl2.mono HB0.out.size)) (by omega) (.pointer (some ⟨g1, 0, none⟩)) (.pointer (some ⟨g2, 0, none⟩)), _, rfl, _, _, rfl, ⟨_, rfl, RV.put2 (by repeat' first | with_reducible exact hv1 | with_reducible refine rv_new _ ?_ | with_reducible refine rv_drew ?_ | with_reducible refine rv_bel hb2 ?_ | with_reducible refine rv_bel hb1 ?_) hkr rfl rfl (.pointer (some ⟨g1, 0, none⟩)) (.pointer (some ⟨g2, 0, none⟩))⟩, ⟨_, rfl, RV.put2 (by repeat' first | with_reducible exact hv2 | with_reducible refine rv_new _ ?_ | with_reducible refine rv_drew ?_ | with_reducible refine rv_bel hb2 ?_ | with_reducible refine rv_bel hb1 ?_) hkr rfl rfl (.pointer (some ⟨g1, 0, none⟩)) (.pointer (some ⟨g2, 0, none⟩))⟩⟩

/-- Plus. -/
theorem vPlus_calls {w : World} {va vb : Value} {ax az bx bz : Rat} {k : Nat} (ha : VV w va ax az) (hb : VV w vb bx bz) (fax : QS k ax) (faz : QS k az) (fbx : QS k bx) (fbz : QS k bz) (hk : 8 * k + 16 ≤ 35184372088640) :
    Calls Tryz.prog 27 #[va, vb] w fun e w' => Below w.heap.size w w' ∧ ∃ v, e = .returned v ∧ VV w' v (ax + bx) (az + bz) := by
  obtain ⟨_, _, rfl, ⟨gax, rfl, hax⟩, ⟨gaz, rfl, haz⟩⟩ := ha
  obtain ⟨_, _, rfl, ⟨gbx, rfl, hbx⟩, ⟨gbz, rfl, hbz⟩⟩ := hb
  exact vPlus_walk hax haz hbx hbz fax faz fbx fbz hk

set_option maxHeartbeats 4000000 in
set_option maxRecDepth 100000 in
theorem vMinus_walk {w : World} {gax gaz gbx gbz : Nat} {ax az bx bz : Rat} {k : Nat} (hax : RV w gax ax) (haz : RV w gaz az) (hbx : RV w gbx bx) (hbz : RV w gbz bz) (fax : QS k ax) (faz : QS k az) (fbx : QS k bx) (fbz : QS k bz) (hk : 8 * k + 16 ≤ 35184372088640) :
    Calls Tryz.prog 23 #[.agg #[.pointer (some ⟨gax, 0, none⟩), .pointer (some ⟨gaz, 0, none⟩)], .agg #[.pointer (some ⟨gbx, 0, none⟩), .pointer (some ⟨gbz, 0, none⟩)]] w fun e w' => Below w.heap.size w w' ∧ ∃ v, e = .returned v ∧ VV w' v (ax - bx) (az - bz) := by
  obtain ⟨hb0, hk0, hk1, hk2, hsz⟩ := boxes3 w #[.pointer (some ⟨gax, 0, none⟩), .pointer (some ⟨gaz, 0, none⟩)] #[.pointer (some ⟨gbx, 0, none⟩), .pointer (some ⟨gbz, 0, none⟩)] #[.pointer none, .pointer none] 30 30 30
  have HB0 := hideIt2 hb0
  have HSZ := hideIt2 hsz
  have HK0 := hideIt2 hk0
  have HK1 := hideIt2 hk1
  have HK2 := hideIt2 hk2
  have Hax := hideIt2 (hax.below hb0)
  have Haz := hideIt2 (haz.below hb0)
  have Hbx := hideIt2 (hbx.below hb0)
  have Hbz := hideIt2 (hbz.below hb0)
  have Fax := hideIt2 fax
  have Faz := hideIt2 faz
  have Fbx := hideIt2 fbx
  have Fbz := hideIt2 fbz
  clear hb0 hsz hk0 hk1 hk2 hax haz hbx hbz fax faz fbx fbz
  go_enter Tryz.func23, Tryz.ntmps23
  go_wp2_with fail
  generalize (((w.alloc (.cells #[.pointer (some ⟨gax, 0, none⟩), .pointer (some ⟨gaz, 0, none⟩)] 30)).alloc (.cells #[.pointer (some ⟨gbx, 0, none⟩), .pointer (some ⟨gbz, 0, none⟩)] 30)).alloc (.cells #[.pointer none, .pointer none] 30)) = W0 at *
  have HS : Hid (∀ w', Below W0.heap.size W0 w' → w'.cell? ⟨w.heap.size, 0, none⟩ = some (.pointer (some ⟨gax, 0, none⟩)) ∧ w'.cell? ⟨w.heap.size, 1, none⟩ = some (.pointer (some ⟨gaz, 0, none⟩)) ∧ w'.cell? ⟨w.heap.size + 1, 0, none⟩ = some (.pointer (some ⟨gbx, 0, none⟩)) ∧ w'.cell? ⟨w.heap.size + 1, 1, none⟩ = some (.pointer (some ⟨gbz, 0, none⟩))) := fun w' hb => ⟨(HK0.out.below hb (by rw [HSZ.out]; omega)).cell 0, (HK0.out.below hb (by rw [HSZ.out]; omega)).cell 1, (HK1.out.below hb (by rw [HSZ.out]; omega)).cell 0, (HK1.out.below hb (by rw [HSZ.out]; omega)).cell 1⟩
  have HSS : Hid (∀ w', Below W0.heap.size W0 w' → ∀ x0 x1 : Value, ((w'.setCell ⟨w.heap.size + 1 + 1, 0, none⟩ x0).setCell ⟨w.heap.size + 1 + 1, 1, none⟩ x1).cell? ⟨w.heap.size, 0, none⟩ = some (.pointer (some ⟨gax, 0, none⟩)) ∧ ((w'.setCell ⟨w.heap.size + 1 + 1, 0, none⟩ x0).setCell ⟨w.heap.size + 1 + 1, 1, none⟩ x1).cell? ⟨w.heap.size, 1, none⟩ = some (.pointer (some ⟨gaz, 0, none⟩)) ∧ ((w'.setCell ⟨w.heap.size + 1 + 1, 0, none⟩ x0).setCell ⟨w.heap.size + 1 + 1, 1, none⟩ x1).cell? ⟨w.heap.size + 1, 0, none⟩ = some (.pointer (some ⟨gbx, 0, none⟩)) ∧ ((w'.setCell ⟨w.heap.size + 1 + 1, 0, none⟩ x0).setCell ⟨w.heap.size + 1 + 1, 1, none⟩ x1).cell? ⟨w.heap.size + 1, 1, none⟩ = some (.pointer (some ⟨gbz, 0, none⟩))) := fun w' hb x0 x1 => ⟨((HK0.out.below hb (by rw [HSZ.out]; omega)).off2 (g := w.heap.size + 1 + 1) (by omega) x0 x1).cell 0, ((HK0.out.below hb (by rw [HSZ.out]; omega)).off2 (g := w.heap.size + 1 + 1) (by omega) x0 x1).cell 1, ((HK1.out.below hb (by rw [HSZ.out]; omega)).off2 (g := w.heap.size + 1 + 1) (by omega) x0 x1).cell 0, ((HK1.out.below hb (by rw [HSZ.out]; omega)).off2 (g := w.heap.size + 1 + 1) (by omega) x0 x1).cell 1⟩
  obtain ⟨z0, z1, z2, z3⟩ := HS.out W0 (Below.refl _ _)
  go_region_held3 (fun w' => w'.cell? ⟨w.heap.size, 0, none⟩ = some (.pointer (some ⟨gax, 0, none⟩)) ∧ w'.cell? ⟨w.heap.size, 1, none⟩ = some (.pointer (some ⟨gaz, 0, none⟩)) ∧ w'.cell? ⟨w.heap.size + 1, 0, none⟩ = some (.pointer (some ⟨gbx, 0, none⟩)) ∧ w'.cell? ⟨w.heap.size + 1, 1, none⟩ = some (.pointer (some ⟨gbz, 0, none⟩))) (first | (refine HS.out _ ?_; (repeat' first | with_reducible exact hbl2 | with_reducible exact hbl1 | with_reducible exact Below.refl _ _ | with_reducible refine Below.new ?_ _ | with_reducible refine Below.drew ?_); done) | (refine HSS.out _ ?_ _ _; (repeat' first | with_reducible exact hbl2 | with_reducible exact hbl1 | with_reducible exact Below.refl _ _ | with_reducible refine Below.new ?_ _ | with_reducible refine Below.drew ?_); done) | go_keep)
    (first
      | (have hq1 := hbl1; go_at_call 30; refine (refSub_calls ⟨_, rfl, Haz.out.below (by repeat' first | with_reducible exact hbl1 | with_reducible exact Below.refl _ _ | with_reducible refine Below.new ?_ _ | with_reducible refine Below.drew ?_)⟩ ⟨_, rfl, Hbz.out.below (by repeat' first | with_reducible exact hbl1 | with_reducible exact Below.refl _ _ | with_reducible refine Below.new ?_ _ | with_reducible refine Below.drew ?_)⟩ Faz.out Fbz.out (by omega)).mono ?_; rintro e w2 ⟨hb2, _, rfl, g2, rfl, hv2⟩; have hbl2 : Below W0.heap.size W0 w2 := bel_bel (by repeat' first | with_reducible exact hbl1 | with_reducible exact Below.refl _ _ | with_reducible refine Below.new ?_ _ | with_reducible refine Below.drew ?_) hb2; have hs2 := HS.out w2 hbl2; have hkr := HK2.out.below hbl2 (by rw [HSZ.out]; omega); obtain ⟨r0, r1, f0, f1⟩ := hkr.all2)
      | (go_at_call 30; refine (refSub_calls ⟨_, rfl, Hax.out.below (by repeat' first | with_reducible exact Below.refl _ _ | with_reducible refine Below.new ?_ _ | with_reducible refine Below.drew ?_)⟩ ⟨_, rfl, Hbx.out.below (by repeat' first | with_reducible exact Below.refl _ _ | with_reducible refine Below.new ?_ _ | with_reducible refine Below.drew ?_)⟩ Fax.out Fbx.out (by omega)).mono ?_; rintro e w1 ⟨hb1, _, rfl, g1, rfl, hv1⟩; have hbl1 : Below W0.heap.size W0 w1 := bel_bel (by repeat' first | with_reducible exact Below.refl _ _ | with_reducible refine Below.new ?_ _ | with_reducible refine Below.drew ?_) hb1; have hs1 := HS.out w1 hbl1)
      )
  all_goals
    go_wp2
    obtain ⟨k0, k1, _, _⟩ := (hkr.put2 (.pointer (some ⟨g1, 0, none⟩)) (.pointer (some ⟨g2, 0, none⟩))).all2
    refine bodyPost_ret (v := .agg #[.pointer (some ⟨g1, 0, none⟩), .pointer (some ⟨g2, 0, none⟩)]) (by simp [results, Tryz.results23, go_sem, k0, k1]) rfl ⟨Below.put2 (HB0.out.trans (hbl2.mono HB0.out.size)) (by omega) (.pointer (some ⟨g1, 0, none⟩)) (.pointer (some ⟨g2, 0, none⟩)), _, rfl, _, _, rfl, ⟨_, rfl, RV.put2 (by repeat' first | with_reducible exact hv1 | with_reducible refine rv_new _ ?_ | with_reducible refine rv_drew ?_ | with_reducible refine rv_bel hb2 ?_ | with_reducible refine rv_bel hb1 ?_) hkr rfl rfl (.pointer (some ⟨g1, 0, none⟩)) (.pointer (some ⟨g2, 0, none⟩))⟩, ⟨_, rfl, RV.put2 (by repeat' first | with_reducible exact hv2 | with_reducible refine rv_new _ ?_ | with_reducible refine rv_drew ?_ | with_reducible refine rv_bel hb2 ?_ | with_reducible refine rv_bel hb1 ?_) hkr rfl rfl (.pointer (some ⟨g1, 0, none⟩)) (.pointer (some ⟨g2, 0, none⟩))⟩⟩

/-- Minus. -/
theorem vMinus_calls {w : World} {va vb : Value} {ax az bx bz : Rat} {k : Nat} (ha : VV w va ax az) (hb : VV w vb bx bz) (fax : QS k ax) (faz : QS k az) (fbx : QS k bx) (fbz : QS k bz) (hk : 8 * k + 16 ≤ 35184372088640) :
    Calls Tryz.prog 23 #[va, vb] w fun e w' => Below w.heap.size w w' ∧ ∃ v, e = .returned v ∧ VV w' v (ax - bx) (az - bz) := by
  obtain ⟨_, _, rfl, ⟨gax, rfl, hax⟩, ⟨gaz, rfl, haz⟩⟩ := ha
  obtain ⟨_, _, rfl, ⟨gbx, rfl, hbx⟩, ⟨gbz, rfl, hbz⟩⟩ := hb
  exact vMinus_walk hax haz hbx hbz fax faz fbx fbz hk

set_option maxHeartbeats 4000000 in
set_option maxRecDepth 100000 in
theorem vTimes_walk {w : World} {gax gaz gc : Nat} {ax az c : Rat} {k : Nat} (hax : RV w gax ax) (haz : RV w gaz az) (hc : RV w gc c) (fax : QS k ax) (faz : QS k az) (fc : QS k c) (hk : 8 * k + 16 ≤ 35184372088640) :
    Calls Tryz.prog 52 #[.agg #[.pointer (some ⟨gax, 0, none⟩), .pointer (some ⟨gaz, 0, none⟩)], .pointer (some ⟨gc, 0, none⟩)] w fun e w' => Below w.heap.size w w' ∧ ∃ v, e = .returned v ∧ VV w' v (ax * c) (az * c) := by
  obtain ⟨hb0, hk0, hk1, hsz⟩ := boxes2 w #[.pointer (some ⟨gax, 0, none⟩), .pointer (some ⟨gaz, 0, none⟩)] #[.pointer none, .pointer none] 30 30
  have HB0 := hideIt2 hb0
  have HSZ := hideIt2 hsz
  have HK0 := hideIt2 hk0
  have HK1 := hideIt2 hk1
  have Hax := hideIt2 (hax.below hb0)
  have Haz := hideIt2 (haz.below hb0)
  have Hc := hideIt2 (hc.below hb0)
  have Fax := hideIt2 fax
  have Faz := hideIt2 faz
  have Fc := hideIt2 fc
  clear hb0 hsz hk0 hk1 hax haz hc fax faz fc
  go_enter Tryz.func52, Tryz.ntmps52
  go_wp2_with fail
  generalize ((w.alloc (.cells #[.pointer (some ⟨gax, 0, none⟩), .pointer (some ⟨gaz, 0, none⟩)] 30)).alloc (.cells #[.pointer none, .pointer none] 30)) = W0 at *
  have HS : Hid (∀ w', Below W0.heap.size W0 w' → w'.cell? ⟨w.heap.size, 0, none⟩ = some (.pointer (some ⟨gax, 0, none⟩)) ∧ w'.cell? ⟨w.heap.size, 1, none⟩ = some (.pointer (some ⟨gaz, 0, none⟩))) := fun w' hb => ⟨(HK0.out.below hb (by rw [HSZ.out]; omega)).cell 0, (HK0.out.below hb (by rw [HSZ.out]; omega)).cell 1⟩
  have HSS : Hid (∀ w', Below W0.heap.size W0 w' → ∀ x0 x1 : Value, ((w'.setCell ⟨w.heap.size + 1, 0, none⟩ x0).setCell ⟨w.heap.size + 1, 1, none⟩ x1).cell? ⟨w.heap.size, 0, none⟩ = some (.pointer (some ⟨gax, 0, none⟩)) ∧ ((w'.setCell ⟨w.heap.size + 1, 0, none⟩ x0).setCell ⟨w.heap.size + 1, 1, none⟩ x1).cell? ⟨w.heap.size, 1, none⟩ = some (.pointer (some ⟨gaz, 0, none⟩))) := fun w' hb x0 x1 => ⟨((HK0.out.below hb (by rw [HSZ.out]; omega)).off2 (g := w.heap.size + 1) (by omega) x0 x1).cell 0, ((HK0.out.below hb (by rw [HSZ.out]; omega)).off2 (g := w.heap.size + 1) (by omega) x0 x1).cell 1⟩
  obtain ⟨z0, z1⟩ := HS.out W0 (Below.refl _ _)
  go_region_held3 (fun w' => w'.cell? ⟨w.heap.size, 0, none⟩ = some (.pointer (some ⟨gax, 0, none⟩)) ∧ w'.cell? ⟨w.heap.size, 1, none⟩ = some (.pointer (some ⟨gaz, 0, none⟩))) (first | (refine HS.out _ ?_; (repeat' first | with_reducible exact hbl2 | with_reducible exact hbl1 | with_reducible exact Below.refl _ _ | with_reducible refine Below.new ?_ _ | with_reducible refine Below.drew ?_); done) | (refine HSS.out _ ?_ _ _; (repeat' first | with_reducible exact hbl2 | with_reducible exact hbl1 | with_reducible exact Below.refl _ _ | with_reducible refine Below.new ?_ _ | with_reducible refine Below.drew ?_); done) | go_keep)
    (first
      | (have hq1 := hbl1; go_at_call 25; refine (refMul_calls (rrow2 (by repeat' first | with_reducible exact Blk.new _ _ _ | ((with_reducible refine blk_at ?_); (first | with_reducible rfl | (simp; done))) | with_reducible refine blk_old _ ?_ | with_reducible refine blk_drew ?_ | with_reducible refine blk_bel hb1 ?_) ⟨_, rfl, Haz.out.below (by repeat' first | with_reducible exact hbl1 | with_reducible exact Below.refl _ _ | with_reducible refine Below.new ?_ _ | with_reducible refine Below.drew ?_)⟩ ⟨_, rfl, Hc.out.below (by repeat' first | with_reducible exact hbl1 | with_reducible exact Below.refl _ _ | with_reducible refine Below.new ?_ _ | with_reducible refine Below.drew ?_)⟩) (all2 (QS.mono (l := k + k) Faz.out (by omega)) (QS.mono (l := k + k) Fc.out (by omega))) (by simp) (by simp only [List.length_cons, List.length_nil]; omega)).mono ?_; rintro e w2 ⟨hb2, _, rfl, g2, rfl, hv2⟩; rw [rprod2] at hv2; have hbl2 : Below W0.heap.size W0 w2 := bel_bel (by repeat' first | with_reducible exact hbl1 | with_reducible exact Below.refl _ _ | with_reducible refine Below.new ?_ _ | with_reducible refine Below.drew ?_) hb2; have hs2 := HS.out w2 hbl2; have hkr := HK1.out.below hbl2 (by rw [HSZ.out]; omega); obtain ⟨r0, r1, f0, f1⟩ := hkr.all2)
      | (go_at_call 25; refine (refMul_calls (rrow2 (by repeat' first | with_reducible exact Blk.new _ _ _ | ((with_reducible refine blk_at ?_); (first | with_reducible rfl | (simp; done))) | with_reducible refine blk_old _ ?_ | with_reducible refine blk_drew ?_) ⟨_, rfl, Hax.out.below (by repeat' first | with_reducible exact Below.refl _ _ | with_reducible refine Below.new ?_ _ | with_reducible refine Below.drew ?_)⟩ ⟨_, rfl, Hc.out.below (by repeat' first | with_reducible exact Below.refl _ _ | with_reducible refine Below.new ?_ _ | with_reducible refine Below.drew ?_)⟩) (all2 (QS.mono (l := k + k) Fax.out (by omega)) (QS.mono (l := k + k) Fc.out (by omega))) (by simp) (by simp only [List.length_cons, List.length_nil]; omega)).mono ?_; rintro e w1 ⟨hb1, _, rfl, g1, rfl, hv1⟩; rw [rprod2] at hv1; have hbl1 : Below W0.heap.size W0 w1 := bel_bel (by repeat' first | with_reducible exact Below.refl _ _ | with_reducible refine Below.new ?_ _ | with_reducible refine Below.drew ?_) hb1; have hs1 := HS.out w1 hbl1)
      )
  all_goals
    go_wp2
    obtain ⟨k0, k1, _, _⟩ := (hkr.put2 (.pointer (some ⟨g1, 0, none⟩)) (.pointer (some ⟨g2, 0, none⟩))).all2
    refine bodyPost_ret (v := .agg #[.pointer (some ⟨g1, 0, none⟩), .pointer (some ⟨g2, 0, none⟩)]) (by simp [results, Tryz.results52, go_sem, k0, k1]) rfl ⟨Below.put2 (HB0.out.trans (hbl2.mono HB0.out.size)) (by omega) (.pointer (some ⟨g1, 0, none⟩)) (.pointer (some ⟨g2, 0, none⟩)), _, rfl, _, _, rfl, ⟨_, rfl, RV.put2 (by repeat' first | with_reducible exact hv1 | with_reducible refine rv_new _ ?_ | with_reducible refine rv_drew ?_ | with_reducible refine rv_bel hb2 ?_ | with_reducible refine rv_bel hb1 ?_) hkr rfl rfl (.pointer (some ⟨g1, 0, none⟩)) (.pointer (some ⟨g2, 0, none⟩))⟩, ⟨_, rfl, RV.put2 (by repeat' first | with_reducible exact hv2 | with_reducible refine rv_new _ ?_ | with_reducible refine rv_drew ?_ | with_reducible refine rv_bel hb2 ?_ | with_reducible refine rv_bel hb1 ?_) hkr rfl rfl (.pointer (some ⟨g1, 0, none⟩)) (.pointer (some ⟨g2, 0, none⟩))⟩⟩

/-- Times. -/
theorem vTimes_calls {w : World} {va vc : Value} {ax az c : Rat} {k : Nat} (ha : VV w va ax az) (hc : PR w vc c) (fax : QS k ax) (faz : QS k az) (fc : QS k c) (hk : 8 * k + 16 ≤ 35184372088640) :
    Calls Tryz.prog 52 #[va, vc] w fun e w' => Below w.heap.size w w' ∧ ∃ v, e = .returned v ∧ VV w' v (ax * c) (az * c) := by
  obtain ⟨_, _, rfl, ⟨gax, rfl, hax⟩, ⟨gaz, rfl, haz⟩⟩ := ha
  obtain ⟨gc, rfl, hc⟩ := hc
  exact vTimes_walk hax haz hc fax faz fc hk

set_option maxHeartbeats 4000000 in
set_option maxRecDepth 100000 in
theorem vDot_walk {w : World} {gax gaz gbx gbz : Nat} {ax az bx bz : Rat} {k : Nat} (hax : RV w gax ax) (haz : RV w gaz az) (hbx : RV w gbx bx) (hbz : RV w gbz bz) (fax : QS k ax) (faz : QS k az) (fbx : QS k bx) (fbz : QS k bz) (hk : 8 * k + 16 ≤ 35184372088640) :
    Calls Tryz.prog 74 #[.agg #[.pointer (some ⟨gax, 0, none⟩), .pointer (some ⟨gaz, 0, none⟩)], .agg #[.pointer (some ⟨gbx, 0, none⟩), .pointer (some ⟨gbz, 0, none⟩)]] w fun e w' => Below w.heap.size w w' ∧ ∃ v, e = .returned v ∧ PR w' v ((ax * bx) + (az * bz)) := by
  obtain ⟨hb0, hk0, hk1, hsz⟩ := boxes2 w #[.pointer (some ⟨gax, 0, none⟩), .pointer (some ⟨gaz, 0, none⟩)] #[.pointer (some ⟨gbx, 0, none⟩), .pointer (some ⟨gbz, 0, none⟩)] 30 30
  have HB0 := hideIt2 hb0
  have HSZ := hideIt2 hsz
  have HK0 := hideIt2 hk0
  have HK1 := hideIt2 hk1
  have Hax := hideIt2 (hax.below hb0)
  have Haz := hideIt2 (haz.below hb0)
  have Hbx := hideIt2 (hbx.below hb0)
  have Hbz := hideIt2 (hbz.below hb0)
  have Fax := hideIt2 fax
  have Faz := hideIt2 faz
  have Fbx := hideIt2 fbx
  have Fbz := hideIt2 fbz
  clear hb0 hsz hk0 hk1 hax haz hbx hbz fax faz fbx fbz
  go_enter Tryz.func74, Tryz.ntmps74
  go_wp2_with fail
  generalize ((w.alloc (.cells #[.pointer (some ⟨gax, 0, none⟩), .pointer (some ⟨gaz, 0, none⟩)] 30)).alloc (.cells #[.pointer (some ⟨gbx, 0, none⟩), .pointer (some ⟨gbz, 0, none⟩)] 30)) = W0 at *
  have HS : Hid (∀ w', Below W0.heap.size W0 w' → w'.cell? ⟨w.heap.size, 0, none⟩ = some (.pointer (some ⟨gax, 0, none⟩)) ∧ w'.cell? ⟨w.heap.size, 1, none⟩ = some (.pointer (some ⟨gaz, 0, none⟩)) ∧ w'.cell? ⟨w.heap.size + 1, 0, none⟩ = some (.pointer (some ⟨gbx, 0, none⟩)) ∧ w'.cell? ⟨w.heap.size + 1, 1, none⟩ = some (.pointer (some ⟨gbz, 0, none⟩))) := fun w' hb => ⟨(HK0.out.below hb (by rw [HSZ.out]; omega)).cell 0, (HK0.out.below hb (by rw [HSZ.out]; omega)).cell 1, (HK1.out.below hb (by rw [HSZ.out]; omega)).cell 0, (HK1.out.below hb (by rw [HSZ.out]; omega)).cell 1⟩
  obtain ⟨z0, z1, z2, z3⟩ := HS.out W0 (Below.refl _ _)
  go_region_held3 (fun w' => w'.cell? ⟨w.heap.size, 0, none⟩ = some (.pointer (some ⟨gax, 0, none⟩)) ∧ w'.cell? ⟨w.heap.size, 1, none⟩ = some (.pointer (some ⟨gaz, 0, none⟩)) ∧ w'.cell? ⟨w.heap.size + 1, 0, none⟩ = some (.pointer (some ⟨gbx, 0, none⟩)) ∧ w'.cell? ⟨w.heap.size + 1, 1, none⟩ = some (.pointer (some ⟨gbz, 0, none⟩))) (first | (refine HS.out _ ?_; (repeat' first | with_reducible exact hbl3 | with_reducible exact hbl2 | with_reducible exact hbl1 | with_reducible exact Below.refl _ _ | with_reducible refine Below.new ?_ _ | with_reducible refine Below.drew ?_); done) | go_keep)
    (first
      | (have hq2 := hbl2; go_at_call 20; refine (refAdd_calls (rrow2 (by repeat' first | with_reducible exact Blk.new _ _ _ | ((with_reducible refine blk_at ?_); (first | with_reducible rfl | (simp; done))) | with_reducible refine blk_old _ ?_ | with_reducible refine blk_drew ?_ | with_reducible refine blk_bel hb2 ?_ | with_reducible refine blk_bel hb1 ?_) ⟨_, rfl, (by repeat' first | with_reducible exact hv1 | with_reducible refine rv_new _ ?_ | with_reducible refine rv_drew ?_ | with_reducible refine rv_bel hb2 ?_ | with_reducible refine rv_bel hb1 ?_)⟩ ⟨_, rfl, (by repeat' first | with_reducible exact hv2 | with_reducible refine rv_new _ ?_ | with_reducible refine rv_drew ?_ | with_reducible refine rv_bel hb2 ?_ | with_reducible refine rv_bel hb1 ?_)⟩) (all2 (QS.mono (l := (k + k) + (k + k)) (Fax.out.mul Fbx.out) (by omega)) (QS.mono (l := (k + k) + (k + k)) (Faz.out.mul Fbz.out) (by omega))) (by simp) (by simp only [List.length_cons, List.length_nil]; omega)).mono ?_; rintro e w3 ⟨hb3, _, rfl, g3, rfl, hv3⟩; rw [rsum2] at hv3; have hbl3 : Below W0.heap.size W0 w3 := bel_bel (by repeat' first | with_reducible exact hbl2 | with_reducible exact hbl1 | with_reducible exact Below.refl _ _ | with_reducible refine Below.new ?_ _ | with_reducible refine Below.drew ?_) hb3; have hs3 := HS.out w3 hbl3)
      | (have hq1 := hbl1; go_at_call 25; refine (refMul_calls (rrow2 (by repeat' first | with_reducible exact Blk.new _ _ _ | ((with_reducible refine blk_at ?_); (first | with_reducible rfl | (simp; done))) | with_reducible refine blk_old _ ?_ | with_reducible refine blk_drew ?_ | with_reducible refine blk_bel hb1 ?_) ⟨_, rfl, Haz.out.below (by repeat' first | with_reducible exact hbl1 | with_reducible exact Below.refl _ _ | with_reducible refine Below.new ?_ _ | with_reducible refine Below.drew ?_)⟩ ⟨_, rfl, Hbz.out.below (by repeat' first | with_reducible exact hbl1 | with_reducible exact Below.refl _ _ | with_reducible refine Below.new ?_ _ | with_reducible refine Below.drew ?_)⟩) (all2 (QS.mono (l := k + k) Faz.out (by omega)) (QS.mono (l := k + k) Fbz.out (by omega))) (by simp) (by simp only [List.length_cons, List.length_nil]; omega)).mono ?_; rintro e w2 ⟨hb2, _, rfl, g2, rfl, hv2⟩; rw [rprod2] at hv2; have hbl2 : Below W0.heap.size W0 w2 := bel_bel (by repeat' first | with_reducible exact hbl1 | with_reducible exact Below.refl _ _ | with_reducible refine Below.new ?_ _ | with_reducible refine Below.drew ?_) hb2; have hs2 := HS.out w2 hbl2)
      | (go_at_call 25; refine (refMul_calls (rrow2 (by repeat' first | with_reducible exact Blk.new _ _ _ | ((with_reducible refine blk_at ?_); (first | with_reducible rfl | (simp; done))) | with_reducible refine blk_old _ ?_ | with_reducible refine blk_drew ?_) ⟨_, rfl, Hax.out.below (by repeat' first | with_reducible exact Below.refl _ _ | with_reducible refine Below.new ?_ _ | with_reducible refine Below.drew ?_)⟩ ⟨_, rfl, Hbx.out.below (by repeat' first | with_reducible exact Below.refl _ _ | with_reducible refine Below.new ?_ _ | with_reducible refine Below.drew ?_)⟩) (all2 (QS.mono (l := k + k) Fax.out (by omega)) (QS.mono (l := k + k) Fbx.out (by omega))) (by simp) (by simp only [List.length_cons, List.length_nil]; omega)).mono ?_; rintro e w1 ⟨hb1, _, rfl, g1, rfl, hv1⟩; rw [rprod2] at hv1; have hbl1 : Below W0.heap.size W0 w1 := bel_bel (by repeat' first | with_reducible exact Below.refl _ _ | with_reducible refine Below.new ?_ _ | with_reducible refine Below.drew ?_) hb1; have hs1 := HS.out w1 hbl1)
      )
  all_goals
    go_wp2
    go_ret
    exact ⟨HB0.out.trans (hbl3.mono HB0.out.size), _, rfl, _, rfl, hv3⟩

/-- Dot. -/
theorem vDot_calls {w : World} {va vb : Value} {ax az bx bz : Rat} {k : Nat} (ha : VV w va ax az) (hb : VV w vb bx bz) (fax : QS k ax) (faz : QS k az) (fbx : QS k bx) (fbz : QS k bz) (hk : 8 * k + 16 ≤ 35184372088640) :
    Calls Tryz.prog 74 #[va, vb] w fun e w' => Below w.heap.size w w' ∧ ∃ v, e = .returned v ∧ PR w' v ((ax * bx) + (az * bz)) := by
  obtain ⟨_, _, rfl, ⟨gax, rfl, hax⟩, ⟨gaz, rfl, haz⟩⟩ := ha
  obtain ⟨_, _, rfl, ⟨gbx, rfl, hbx⟩, ⟨gbz, rfl, hbz⟩⟩ := hb
  exact vDot_walk hax haz hbx hbz fax faz fbx fbz hk

set_option maxHeartbeats 4000000 in
set_option maxRecDepth 100000 in
theorem vCross_walk {w : World} {gax gaz gbx gbz : Nat} {ax az bx bz : Rat} {k : Nat} (hax : RV w gax ax) (haz : RV w gaz az) (hbx : RV w gbx bx) (hbz : RV w gbz bz) (fax : QS k ax) (faz : QS k az) (fbx : QS k bx) (fbz : QS k bz) (hk : 8 * k + 16 ≤ 35184372088640) :
    Calls Tryz.prog 50 #[.agg #[.pointer (some ⟨gax, 0, none⟩), .pointer (some ⟨gaz, 0, none⟩)], .agg #[.pointer (some ⟨gbx, 0, none⟩), .pointer (some ⟨gbz, 0, none⟩)]] w fun e w' => Below w.heap.size w w' ∧ ∃ v, e = .returned v ∧ PR w' v ((ax * bz) - (az * bx)) := by
  obtain ⟨hb0, hk0, hk1, hsz⟩ := boxes2 w #[.pointer (some ⟨gax, 0, none⟩), .pointer (some ⟨gaz, 0, none⟩)] #[.pointer (some ⟨gbx, 0, none⟩), .pointer (some ⟨gbz, 0, none⟩)] 30 30
  have HB0 := hideIt2 hb0
  have HSZ := hideIt2 hsz
  have HK0 := hideIt2 hk0
  have HK1 := hideIt2 hk1
  have Hax := hideIt2 (hax.below hb0)
  have Haz := hideIt2 (haz.below hb0)
  have Hbx := hideIt2 (hbx.below hb0)
  have Hbz := hideIt2 (hbz.below hb0)
  have Fax := hideIt2 fax
  have Faz := hideIt2 faz
  have Fbx := hideIt2 fbx
  have Fbz := hideIt2 fbz
  clear hb0 hsz hk0 hk1 hax haz hbx hbz fax faz fbx fbz
  go_enter Tryz.func50, Tryz.ntmps50
  go_wp2_with fail
  generalize ((w.alloc (.cells #[.pointer (some ⟨gax, 0, none⟩), .pointer (some ⟨gaz, 0, none⟩)] 30)).alloc (.cells #[.pointer (some ⟨gbx, 0, none⟩), .pointer (some ⟨gbz, 0, none⟩)] 30)) = W0 at *
  have HS : Hid (∀ w', Below W0.heap.size W0 w' → w'.cell? ⟨w.heap.size, 0, none⟩ = some (.pointer (some ⟨gax, 0, none⟩)) ∧ w'.cell? ⟨w.heap.size, 1, none⟩ = some (.pointer (some ⟨gaz, 0, none⟩)) ∧ w'.cell? ⟨w.heap.size + 1, 0, none⟩ = some (.pointer (some ⟨gbx, 0, none⟩)) ∧ w'.cell? ⟨w.heap.size + 1, 1, none⟩ = some (.pointer (some ⟨gbz, 0, none⟩))) := fun w' hb => ⟨(HK0.out.below hb (by rw [HSZ.out]; omega)).cell 0, (HK0.out.below hb (by rw [HSZ.out]; omega)).cell 1, (HK1.out.below hb (by rw [HSZ.out]; omega)).cell 0, (HK1.out.below hb (by rw [HSZ.out]; omega)).cell 1⟩
  obtain ⟨z0, z1, z2, z3⟩ := HS.out W0 (Below.refl _ _)
  go_region_held3 (fun w' => w'.cell? ⟨w.heap.size, 0, none⟩ = some (.pointer (some ⟨gax, 0, none⟩)) ∧ w'.cell? ⟨w.heap.size, 1, none⟩ = some (.pointer (some ⟨gaz, 0, none⟩)) ∧ w'.cell? ⟨w.heap.size + 1, 0, none⟩ = some (.pointer (some ⟨gbx, 0, none⟩)) ∧ w'.cell? ⟨w.heap.size + 1, 1, none⟩ = some (.pointer (some ⟨gbz, 0, none⟩))) (first | (refine HS.out _ ?_; (repeat' first | with_reducible exact hbl3 | with_reducible exact hbl2 | with_reducible exact hbl1 | with_reducible exact Below.refl _ _ | with_reducible refine Below.new ?_ _ | with_reducible refine Below.drew ?_); done) | go_keep)
    (first
      | (have hq2 := hbl2; go_at_call 30; refine (refSub_calls ⟨_, rfl, (by repeat' first | with_reducible exact hv1 | with_reducible refine rv_new _ ?_ | with_reducible refine rv_drew ?_ | with_reducible refine rv_bel hb2 ?_ | with_reducible refine rv_bel hb1 ?_)⟩ ⟨_, rfl, (by repeat' first | with_reducible exact hv2 | with_reducible refine rv_new _ ?_ | with_reducible refine rv_drew ?_ | with_reducible refine rv_bel hb2 ?_ | with_reducible refine rv_bel hb1 ?_)⟩ (Fax.out.mul Fbz.out) (Faz.out.mul Fbx.out) (by omega)).mono ?_; rintro e w3 ⟨hb3, _, rfl, g3, rfl, hv3⟩; have hbl3 : Below W0.heap.size W0 w3 := bel_bel (by repeat' first | with_reducible exact hbl2 | with_reducible exact hbl1 | with_reducible exact Below.refl _ _ | with_reducible refine Below.new ?_ _ | with_reducible refine Below.drew ?_) hb3; have hs3 := HS.out w3 hbl3)
      | (have hq1 := hbl1; go_at_call 25; refine (refMul_calls (rrow2 (by repeat' first | with_reducible exact Blk.new _ _ _ | ((with_reducible refine blk_at ?_); (first | with_reducible rfl | (simp; done))) | with_reducible refine blk_old _ ?_ | with_reducible refine blk_drew ?_ | with_reducible refine blk_bel hb1 ?_) ⟨_, rfl, Haz.out.below (by repeat' first | with_reducible exact hbl1 | with_reducible exact Below.refl _ _ | with_reducible refine Below.new ?_ _ | with_reducible refine Below.drew ?_)⟩ ⟨_, rfl, Hbx.out.below (by repeat' first | with_reducible exact hbl1 | with_reducible exact Below.refl _ _ | with_reducible refine Below.new ?_ _ | with_reducible refine Below.drew ?_)⟩) (all2 (QS.mono (l := k + k) Faz.out (by omega)) (QS.mono (l := k + k) Fbx.out (by omega))) (by simp) (by simp only [List.length_cons, List.length_nil]; omega)).mono ?_; rintro e w2 ⟨hb2, _, rfl, g2, rfl, hv2⟩; rw [rprod2] at hv2; have hbl2 : Below W0.heap.size W0 w2 := bel_bel (by repeat' first | with_reducible exact hbl1 | with_reducible exact Below.refl _ _ | with_reducible refine Below.new ?_ _ | with_reducible refine Below.drew ?_) hb2; have hs2 := HS.out w2 hbl2)
      | (go_at_call 25; refine (refMul_calls (rrow2 (by repeat' first | with_reducible exact Blk.new _ _ _ | ((with_reducible refine blk_at ?_); (first | with_reducible rfl | (simp; done))) | with_reducible refine blk_old _ ?_ | with_reducible refine blk_drew ?_) ⟨_, rfl, Hax.out.below (by repeat' first | with_reducible exact Below.refl _ _ | with_reducible refine Below.new ?_ _ | with_reducible refine Below.drew ?_)⟩ ⟨_, rfl, Hbz.out.below (by repeat' first | with_reducible exact Below.refl _ _ | with_reducible refine Below.new ?_ _ | with_reducible refine Below.drew ?_)⟩) (all2 (QS.mono (l := k + k) Fax.out (by omega)) (QS.mono (l := k + k) Fbz.out (by omega))) (by simp) (by simp only [List.length_cons, List.length_nil]; omega)).mono ?_; rintro e w1 ⟨hb1, _, rfl, g1, rfl, hv1⟩; rw [rprod2] at hv1; have hbl1 : Below W0.heap.size W0 w1 := bel_bel (by repeat' first | with_reducible exact Below.refl _ _ | with_reducible refine Below.new ?_ _ | with_reducible refine Below.drew ?_) hb1; have hs1 := HS.out w1 hbl1)
      )
  all_goals
    go_wp2
    go_ret
    exact ⟨HB0.out.trans (hbl3.mono HB0.out.size), _, rfl, _, rfl, hv3⟩

/-- Cross. -/
theorem vCross_calls {w : World} {va vb : Value} {ax az bx bz : Rat} {k : Nat} (ha : VV w va ax az) (hb : VV w vb bx bz) (fax : QS k ax) (faz : QS k az) (fbx : QS k bx) (fbz : QS k bz) (hk : 8 * k + 16 ≤ 35184372088640) :
    Calls Tryz.prog 50 #[va, vb] w fun e w' => Below w.heap.size w w' ∧ ∃ v, e = .returned v ∧ PR w' v ((ax * bz) - (az * bx)) := by
  obtain ⟨_, _, rfl, ⟨gax, rfl, hax⟩, ⟨gaz, rfl, haz⟩⟩ := ha
  obtain ⟨_, _, rfl, ⟨gbx, rfl, hbx⟩, ⟨gbz, rfl, hbz⟩⟩ := hb
  exact vCross_walk hax haz hbx hbz fax faz fbx fbz hk

end Go.Proofs.YtpalknbmejachaaGreatDoor
/- Walks of package compassref: P, Far2. -/
namespace Go.Proofs.YtpalknbmejachaaGreatDoor
open Go.RowKit Cx

attribute [local go_sem ↓] Go.wp_at_zero Go.wp_at_succ

set_option maxHeartbeats 4000000 in
set_option maxRecDepth 100000 in
/-- P: of a point. -/
theorem refP_calls (sx sy : ByteArray) (w : World) (hm : MaxL w) (hx : sx.size ≤ 4294967280) (hy : sy.size ≤ 4294967280) :
    Calls Tryz.prog 10 #[.agg #[.string sx, .string sy]] w fun e w' => Below w.heap.size w w' ∧ ∃ v, e = .returned v ∧ VV w' v (rd sx.data.toList) (rd sy.data.toList) := by
  obtain ⟨hb0, hk0, hk1, hsz⟩ := boxes2 w #[.string sx, .string sy] #[.pointer none, .pointer none] 24 30
  have HB0 := hideIt2 hb0
  have HSZ := hideIt2 hsz
  have HK0 := hideIt2 hk0
  have HK1 := hideIt2 hk1
  have HM := hideIt2 (hm.below hb0)
  clear hb0 hsz hk0 hk1 hm
  go_enter Tryz.func10, Tryz.ntmps10
  go_wp2_with fail
  generalize ((w.alloc (.cells #[.string sx, .string sy] 24)).alloc (.cells #[.pointer none, .pointer none] 30)) = W0 at *
  have HS : Hid (∀ w', Below W0.heap.size W0 w' → w'.cell? ⟨w.heap.size, 0, none⟩ = some (.string sx) ∧ w'.cell? ⟨w.heap.size, 1, none⟩ = some (.string sy)) := fun w' hb => ⟨(HK0.out.below hb (by rw [HSZ.out]; omega)).cell 0, (HK0.out.below hb (by rw [HSZ.out]; omega)).cell 1⟩
  have HSS : Hid (∀ w', Below W0.heap.size W0 w' → ∀ x0 x1 : Value, ((w'.setCell ⟨w.heap.size + 1, 0, none⟩ x0).setCell ⟨w.heap.size + 1, 1, none⟩ x1).cell? ⟨w.heap.size, 0, none⟩ = some (.string sx) ∧ ((w'.setCell ⟨w.heap.size + 1, 0, none⟩ x0).setCell ⟨w.heap.size + 1, 1, none⟩ x1).cell? ⟨w.heap.size, 1, none⟩ = some (.string sy)) := fun w' hb x0 x1 => ⟨((HK0.out.below hb (by rw [HSZ.out]; omega)).off2 (g := w.heap.size + 1) (by omega) x0 x1).cell 0, ((HK0.out.below hb (by rw [HSZ.out]; omega)).off2 (g := w.heap.size + 1) (by omega) x0 x1).cell 1⟩
  obtain ⟨z0, z1⟩ := HS.out W0 (Below.refl _ _)
  go_region_held3 (fun w' => w'.cell? ⟨w.heap.size, 0, none⟩ = some (.string sx) ∧ w'.cell? ⟨w.heap.size, 1, none⟩ = some (.string sy)) (first | (refine HS.out _ ?_; (repeat' first | with_reducible exact hbl2 | with_reducible exact hbl1 | with_reducible exact Below.refl _ _ | with_reducible refine Below.new ?_ _ | with_reducible refine Below.drew ?_); done) | (refine HSS.out _ ?_ _ _; (repeat' first | with_reducible exact hbl2 | with_reducible exact hbl1 | with_reducible exact Below.refl _ _ | with_reducible refine Below.new ?_ _ | with_reducible refine Below.drew ?_); done) | go_keep)
    (first
      | (have hq1 := hbl1; go_at_call 17; refine (refOf_calls sy _ (HM.out.below (by repeat' first | with_reducible exact hbl1 | with_reducible exact Below.refl _ _ | with_reducible refine Below.drew ?_)) hy).mono ?_; rintro e w2 ⟨hb2, g2, rfl, _, hv2⟩; have hbl2 : Below W0.heap.size W0 w2 := bel_bel (by repeat' first | with_reducible exact hbl1 | with_reducible exact Below.refl _ _ | with_reducible refine Below.drew ?_) hb2; have hs2 := HS.out w2 hbl2; have hkr := HK1.out.below hbl2 (by rw [HSZ.out]; omega); obtain ⟨r0, r1, f0, f1⟩ := hkr.all2)
      | (go_at_call 17; refine (refOf_calls sx _ (HM.out.below (by repeat' first | with_reducible exact Below.refl _ _ | with_reducible refine Below.drew ?_)) hx).mono ?_; rintro e w1 ⟨hb1, g1, rfl, _, hv1⟩; have hbl1 : Below W0.heap.size W0 w1 := bel_bel (by repeat' first | with_reducible exact Below.refl _ _ | with_reducible refine Below.drew ?_) hb1; have hs1 := HS.out w1 hbl1)
      )
  all_goals
    go_wp2
    obtain ⟨k0, k1, _, _⟩ := (hkr.put2 (.pointer (some ⟨g1, 0, none⟩)) (.pointer (some ⟨g2, 0, none⟩))).all2
    refine bodyPost_ret (v := .agg #[.pointer (some ⟨g1, 0, none⟩), .pointer (some ⟨g2, 0, none⟩)]) (by simp [results, Tryz.results10, go_sem, k0, k1]) rfl ⟨Below.put2 (HB0.out.trans (hbl2.mono HB0.out.size)) (by omega) _ _, _, rfl, _, _, rfl, ⟨_, rfl, RV.put2 (by repeat' first | with_reducible exact hv1 | with_reducible refine rv_drew ?_ | with_reducible refine rv_bel hb2 ?_) hkr rfl rfl _ _⟩, ⟨_, rfl, RV.put2 hv2 hkr rfl rfl _ _⟩⟩

set_option maxHeartbeats 4000000 in
set_option maxRecDepth 100000 in
theorem vFar2_walk {w : World} {gax gaz gbx gbz : Nat} {ax az bx bz : Rat} {k : Nat} (hax : RV w gax ax) (haz : RV w gaz az) (hbx : RV w gbx bx) (hbz : RV w gbz bz) (fax : QS k ax) (faz : QS k az) (fbx : QS k bx) (fbz : QS k bz) (hk : 32 * k + 64 ≤ 35184372088640) :
    Calls Tryz.prog 35 #[.agg #[.pointer (some ⟨gax, 0, none⟩), .pointer (some ⟨gaz, 0, none⟩)], .agg #[.pointer (some ⟨gbx, 0, none⟩), .pointer (some ⟨gbz, 0, none⟩)]] w fun e w' => Below w.heap.size w w' ∧ ∃ v, e = .returned v ∧ PR w' v ((ax - bx) * (ax - bx) + (az - bz) * (az - bz)) := by
  obtain ⟨hb0, hk0, hk1, hsz⟩ := boxes2 w #[.pointer (some ⟨gax, 0, none⟩), .pointer (some ⟨gaz, 0, none⟩)] #[.pointer (some ⟨gbx, 0, none⟩), .pointer (some ⟨gbz, 0, none⟩)] 30 30
  have HB0 := hideIt2 hb0
  have Hax := hideIt2 (hax.below hb0)
  have Haz := hideIt2 (haz.below hb0)
  have Hbx := hideIt2 (hbx.below hb0)
  have Hbz := hideIt2 (hbz.below hb0)
  have F1 := hideIt2 (fax.sub fbx)
  have F2 := hideIt2 (faz.sub fbz)
  clear hb0 hk0 hk1 hsz hax haz hbx hbz
  go_enter Tryz.func35, Tryz.ntmps35
  go_wp2_with fail
  generalize ((w.alloc (.cells #[.pointer (some ⟨gax, 0, none⟩), .pointer (some ⟨gaz, 0, none⟩)] 30)).alloc (.cells #[.pointer (some ⟨gbx, 0, none⟩), .pointer (some ⟨gbz, 0, none⟩)] 30)) = W0 at *
  refine (vMinus_walk (w := W0) Hax.out Haz.out Hbx.out Hbz.out fax faz fbx fbz (by omega)).mono ?_
  rintro e w1 ⟨hb1, _, rfl, _, _, rfl, ⟨g1, rfl, h1⟩, ⟨g2, rfl, h2⟩⟩
  have H1 := hideIt2 (And.intro hb1 (And.intro h1 h2))
  clear hb1 h1 h2
  go_wp2_with fail
  refine (vDot_walk (k := k + k + 1) (H1.out.2.1.below (below_new _ _)) (H1.out.2.2.below (below_new _ _)) (H1.out.2.1.below (below_new _ _)) (H1.out.2.2.below (below_new _ _)) F1.out F2.out F1.out F2.out (by omega)).mono ?_
  rintro e w2 ⟨hb2, v2, rfl, h3⟩
  have H2 := hideIt2 (And.intro (bel_bel (Below.new H1.out.1 _) hb2) h3)
  clear hb2 h3
  go_wp2
  go_ret
  exact ⟨bel_bel HB0.out H2.out.1, _, rfl, H2.out.2⟩

/-- Far2. -/
theorem vFar2_calls {w : World} {va vb : Value} {ax az bx bz : Rat} {k : Nat} (ha : VV w va ax az) (hb : VV w vb bx bz) (fax : QS k ax) (faz : QS k az) (fbx : QS k bx) (fbz : QS k bz) (hk : 32 * k + 64 ≤ 35184372088640) :
    Calls Tryz.prog 35 #[va, vb] w fun e w' => Below w.heap.size w w' ∧ ∃ v, e = .returned v ∧ PR w' v ((ax - bx) * (ax - bx) + (az - bz) * (az - bz)) := by
  obtain ⟨_, _, rfl, ⟨gax, rfl, hax⟩, ⟨gaz, rfl, haz⟩⟩ := ha
  obtain ⟨_, _, rfl, ⟨gbx, rfl, hbx⟩, ⟨gbz, rfl, hbz⟩⟩ := hb
  exact vFar2_walk hax haz hbx hbz fax faz fbx fbz hk
end Go.Proofs.YtpalknbmejachaaGreatDoor
/- Walks of package compasslaw: pointed, PlaneFar. -/
namespace Go.Proofs.YtpalknbmejachaaGreatDoor
open Go.RowKit Cx

attribute [local go_sem ↓] Go.wp_at_zero Go.wp_at_succ

theorem ptA_calls (x y : ByteArray) (w : World) :
    Calls Tryz.prog 48 #[.string x, .string y] w fun e w' => Below w.heap.size w w' ∧ e = .returned (.agg #[.string x, .string y]) := by
  go_enter Tryz.func48, Tryz.ntmps48
  go_wp2
  refine bodyPost_ret (v := .agg #[.string x, .string y]) (by simp [results, Tryz.results48, go_sem]) rfl ⟨below_new _ _, rfl⟩

theorem tx_digit {q : Rat} (n : Nat) (hd : q.den = 1) (hn : q.num = (n : Int)) (h : n < 10) : tx q = [UInt8.ofNat (48 + n)] := by
  rw [tx_whole hd, hn]
  unfold zx
  rw [if_neg (by omega), Int.natAbs_natCast, Lib.decDigits_one h]
  rfl
theorem tx_two {q : Rat} (n : Nat) (hd : q.den = 1) (hn : q.num = (n : Int)) (h1 : ¬ n < 10) (h2 : n < 100) : tx q = [UInt8.ofNat (48 + n / 10), UInt8.ofNat (48 + n % 10)] := by
  rw [tx_whole hd, hn]
  unfold zx
  rw [if_neg (by omega), Int.natAbs_natCast, Lib.decDigits_two h1 h2]
  rfl
theorem rd_0 : rd [48] = 0 := by
  have := rd_tx 0
  rwa [tx_digit 0 rfl rfl (by decide)] at this
theorem rd_3 : rd [51] = 3 := by
  have := rd_tx 3
  rwa [tx_digit 3 rfl rfl (by decide)] at this
theorem rd_4 : rd [52] = 4 := by
  have := rd_tx 4
  rwa [tx_digit 4 rfl rfl (by decide)] at this
theorem far_ex : tx ((rd [51] - rd [48]) * (rd [51] - rd [48]) + (rd [52] - rd [48]) * (rd [52] - rd [48])) = [50, 53] := by
  rw [rd_0, rd_3, rd_4, show ((3 : Rat) - 0) * (3 - 0) + (4 - 0) * (4 - 0) = 25 by grind]
  exact tx_two 25 rfl rfl (by decide) (by decide)
theorem area_ex : tx ((rd [52] - rd [48]) * (rd [51] - rd [48]) - (rd [48] - rd [48]) * (rd [48] - rd [48])) = [49, 50] := by
  rw [rd_0, rd_3, rd_4, show ((4 : Rat) - 0) * (3 - 0) - (0 - 0) * (0 - 0) = 12 by grind]
  exact tx_two 12 rfl rfl (by decide) (by decide)
theorem bytes_of {s : ByteArray} {l : List UInt8} (h : s.data.toList = l) : s = ⟨l.toArray⟩ := by
  apply ByteArray.ext
  apply Array.ext'
  simpa using h

set_option maxHeartbeats 4000000 in
set_option maxRecDepth 100000 in
theorem pointed_calls (w : World) (tab : Tab w) :
    Calls Tryz.prog 11 #[] w fun e w' => Below w.heap.size w w' ∧ e = .returned (.bool true) := by
  have HT := hideIt2 tab
  clear tab
  go_enter Tryz.func11, Tryz.ntmps11
  go_wp2_with fail
  refine (ptA_calls ⟨#[48]⟩ ⟨#[48]⟩ w).mono ?_
  rintro e w1 ⟨hb1, rfl⟩
  have H1 := hideIt2 hb1
  clear hb1
  go_wp2_with fail
  refine (ptA_calls ⟨#[51]⟩ ⟨#[52]⟩ w1).mono ?_
  rintro e w2 ⟨hb2, rfl⟩
  have H2 := hideIt2 (bel_bel H1.out hb2)
  clear hb2
  go_wp2_with fail
  refine (far2_walk (by decide) (by decide) (by decide) (by decide) (HT.out.below H2.out)).mono ?_
  rintro e w3 ⟨hb3, s, rfl, hs⟩
  obtain rfl := bytes_of (hs.trans far_ex)
  have H3 := hideIt2 (bel_bel H2.out hb3)
  clear hb3 hs
  go_wp2_with fail
  refine (ptA_calls ⟨#[48]⟩ ⟨#[48]⟩ w3).mono ?_
  rintro e w4 ⟨hb4, rfl⟩
  have H4 := hideIt2 (bel_bel H3.out hb4)
  clear hb4
  go_wp2_with fail
  refine (ptA_calls ⟨#[52]⟩ ⟨#[48]⟩ w4).mono ?_
  rintro e w5 ⟨hb5, rfl⟩
  have H5 := hideIt2 (bel_bel H4.out hb5)
  clear hb5
  go_wp2_with fail
  refine (ptA_calls ⟨#[48]⟩ ⟨#[51]⟩ w5).mono ?_
  rintro e w6 ⟨hb6, rfl⟩
  have H6 := hideIt2 (bel_bel H5.out hb6)
  clear hb6
  go_wp2_with fail
  refine (area2_walk (by decide) (by decide) (by decide) (by decide) (by decide) (by decide) (HT.out.below H6.out)).mono ?_
  rintro e w7 ⟨hb7, s, rfl, hs⟩
  obtain rfl := bytes_of (hs.trans area_ex)
  have H7 := hideIt2 (bel_bel H6.out hb7)
  clear hb7 hs
  go_wp2
  go_ret
  exact ⟨H7.out, rfl⟩

theorem vv_drew {w : World} {v : Value} {x y : Rat} (h : VV w v x y) : VV w.drew v x y := h.below (Below.drew (Below.refl _ _))
theorem vv_bel {w w' : World} {v : Value} {x y : Rat} (hb : Below w.heap.size w w') (h : VV w v x y) : VV w' v x y := h.below hb

theorem far_sym (a b c d : Rat) : (a - c) * (a - c) + (b - d) * (b - d) = (c - a) * (c - a) + (d - b) * (d - b) := by grind

end Go.Proofs.YtpalknbmejachaaGreatDoor
/- Walks of package compassbig: Sign, Cmp of ratios; of compassref: Eq, Zero, Sq. -/
namespace Go.Proofs.YtpalknbmejachaaGreatDoor
open Go.RowKit Cx

attribute [local go_sem ↓] Go.wp_at_zero Go.wp_at_succ

def sgn (x : Int) : Int := if x = 0 then 0 else if x < 0 then -1 else 1

set_option maxHeartbeats 2000000 in
set_option maxRecDepth 100000 in
/-- Sign of a whole number. -/
theorem intSign_calls {w : World} {p : Value} {x : Int} (hx : IV w p x) :
    Calls Tryz.prog 92 #[p] w fun e w' => Below w.heap.size w w' ∧ e = .returned (.int .i64 (sgn x)) := by
  obtain ⟨g, o, ao, n, c, rfl, x0, x1, x2, xl⟩ := hx
  have hz : n = 0 ↔ x.natAbs = 0 := by
    obtain ⟨_, _, _, e, _, _, hz⟩ := big_len x2
    cases e
    exact hz
  clear x2
  by_cases h0 : x = 0
  · have hn : n = 0 := hz.2 (by omega)
    subst hn
    have HV : Hid (sgn x = 0) := if_pos h0
    clear hz h0
    go_enter Tryz.func92, Tryz.ntmps92
    go_wp2
    go_ret
    exact ⟨Below.refl _ _, by rw [HV.out]; rfl⟩
  · have hnb : ((n : Int) == 0) = false := beq_eq_false_iff_ne.mpr (by omega)
    have hn0 : n ≠ 0 := by omega
    by_cases hs : x < 0
    · have HV : Hid (sgn x = -1) := by show sgn x = -1; unfold sgn; rw [if_neg h0, if_pos hs]
      rw [decide_eq_true hs] at x0
      clear hz h0 hs
      go_enter Tryz.func92, Tryz.ntmps92
      go_wp2
      go_ret
      exact ⟨Below.refl _ _, by rw [HV.out]; rfl⟩
    · have HV : Hid (sgn x = 1) := by show sgn x = 1; unfold sgn; rw [if_neg h0, if_neg hs]
      rw [decide_eq_false hs] at x0
      clear hz h0 hs
      go_enter Tryz.func92, Tryz.ntmps92
      go_wp2
      go_ret
      exact ⟨Below.refl _ _, by rw [HV.out]; rfl⟩

set_option maxHeartbeats 2000000 in
set_option maxRecDepth 100000 in
/-- Sign of a ratio. -/
theorem ratSign_calls {w : World} {p : Value} {x : Rat} (hx : PR w p x) :
    Calls Tryz.prog 49 #[p] w fun e w' => Below w.heap.size w w' ∧ e = .returned (.int .i64 (sgn x.num)) := by
  obtain ⟨g, rfl, hx⟩ := hx
  have HX := hideIt2 hx.num
  clear hx
  go_enter Tryz.func49, Tryz.ntmps49
  go_wp2_with fail
  refine (intSign_calls HX.out).mono ?_
  rintro e w1 ⟨hb, rfl⟩
  have HB := hideIt2 hb
  clear hb
  go_wp2
  go_ret
  exact ⟨HB.out, rfl⟩

theorem sgn_zero {x : Rat} : (sgn x.num == 0) = decide (x = 0) := by
  unfold sgn
  by_cases h : x = 0
  · subst h; rfl
  · have hn : x.num ≠ 0 := fun e => h (Rat.num_eq_zero.1 e)
    rw [if_neg hn, decide_eq_false h]
    split <;> rfl

set_option maxHeartbeats 2000000 in
set_option maxRecDepth 100000 in
/-- Zero: is it none? -/
theorem refZero_calls {w : World} {p : Value} {x : Rat} (hx : PR w p x) :
    Calls Tryz.prog 13 #[p] w fun e w' => Below w.heap.size w w' ∧ e = .returned (.bool (decide (x = 0))) := by
  have HX := hideIt2 hx
  have HZ := hideIt2 (sgn_zero (x := x))
  obtain ⟨g, rfl, hx⟩ := hx
  clear hx
  go_enter Tryz.func13, Tryz.ntmps13
  go_wp2_with fail
  refine (ratSign_calls HX.out).mono ?_
  rintro e w1 ⟨hb, rfl⟩
  have HB := hideIt2 hb
  clear hb
  generalize sgn x.num = z at *
  go_wp2
  go_ret
  exact ⟨HB.out, by rw [← HZ.out]; rfl⟩

theorem rat_cross_eq (x y : Rat) : (x.num * (y.den : Int) = y.num * (x.den : Int)) ↔ x = y := by
  constructor
  · intro h
    have := (Rat.mkRat_eq_iff (n₁ := x.num) (n₂ := y.num) x.den_nz y.den_nz).2 h
    rwa [Rat.mkRat_self, Rat.mkRat_self] at this
  · rintro rfl
    rfl

set_option maxHeartbeats 16000000 in
set_option maxRecDepth 100000 in
/-- Cmp of ratios. -/
theorem ratCmp_calls {w : World} {gx gy : Nat} {x y : Rat} {k l : Nat} (hx : RV w gx x) (hy : RV w gy y) (fx : QS k x) (fy : QS l y) (hkl : k + l + 1 ≤ 35184372088640) :
    Calls Tryz.prog 36 #[.pointer (some ⟨gx, 0, none⟩), .pointer (some ⟨gy, 0, none⟩)] w fun e w' => Below w.heap.size w w' ∧ ∃ c : Int, e = .returned (.int .i64 c) ∧ (c < 0 ↔ x.num * (y.den : Int) < y.num * (x.den : Int)) ∧ (c = 0 ↔ x = y) := by
  have LX := hideIt2 hx.lt
  have LY := hideIt2 hy.lt
  have HX := hideIt2 hx
  have HY := hideIt2 hy
  have SX := hideIt2 (small_num fx (by omega))
  have SY := hideIt2 (small_num fy (by omega))
  have DX := hideIt2 (small_den fx (by omega))
  have DY := hideIt2 (small_den fy (by omega))
  have SXY := hideIt2 (small_cross fx fy hkl)
  have SYX := hideIt2 (small_cross fy fx (by omega))
  clear hx hy fx fy
  go_enter Tryz.func36, Tryz.ntmps36
  go_wp2_with fail
  refine (den_calls HX.out).mono ?_
  rintro e wa ⟨hba, pa, rfl, hva, _⟩
  have HA := hideIt2 (And.intro hba hva)
  clear hba hva
  go_wp2_with fail
  refine (den_calls (HY.out.below HA.out.1)).mono ?_
  rintro e wb ⟨hbb, pb, rfl, hvb, _⟩
  have HB := hideIt2 (And.intro (bel_bel HA.out.1 hbb) (And.intro (HA.out.2.below hbb) hvb))
  clear hbb hvb
  go_wp2_with fail
  refine (intCmp_calls HB.out.2.1 HB.out.2.2 DX.out DY.out).mono ?_
  rintro e wc ⟨hbc, c, rfl, _, hc0⟩
  have HC := hideIt2 (bel_bel HB.out.1 hbc)
  have HC0 := hideIt2 hc0
  clear hbc hc0
  by_cases hcz : c = 0
  · subst hcz
    have hden : (x.den : Int) = y.den := HC0.out.1 rfl
    have HD := hideIt2 hden
    clear hden
    go_wp2_with fail
    go_region_held3 (fun _ => True) (trivial)
      (first
        | (go_at_call 76; refine (intCmp_calls (RV.num (HX.out.below (bel_bel HC.out (by repeat' first | with_reducible exact Below.refl _ _ | with_reducible refine Below.drew ?_)))) (RV.num (HY.out.below (bel_bel HC.out (by repeat' first | with_reducible exact Below.refl _ _ | with_reducible refine Below.drew ?_)))) SX.out SY.out).mono ?_; rintro e wd ⟨hbd, c, rfl, h1, h2⟩; have hbe : Below wc.heap.size wc wd := bel_bel (by repeat' first | with_reducible exact Below.refl _ _ | with_reducible refine Below.drew ?_) hbd)
        )
    all_goals
      go_wp2
      go_ret
      have hp : (0 : Int) < y.den := by have := y.den_pos; omega
      refine ⟨bel_bel HC.out hbe, c, rfl, ?_, ?_⟩
      · rw [h1, HD.out]
        exact (Int.mul_lt_mul_right hp).symm
      · rw [h2, ← rat_cross_eq, HD.out]
        exact (Int.mul_eq_mul_right_iff (by omega)).symm
  · have hcb : (c == 0) = false := beq_eq_false_iff_ne.mpr hcz
    go_wp2_with fail
    have HXC := hideIt2 (HX.out.below HC.out)
    have HYC := hideIt2 (HY.out.below HC.out)
    have LXC := hideIt2 HXC.out.lt
    have LYC := hideIt2 HYC.out.lt
    go_region_held3 (fun _ => True) (trivial)
      (first
        | (go_at_call_of 75 (Value.pointer (some { block := gy, off := 0 })); refine (den_calls (HYC.out.below (by repeat' first | with_reducible exact Below.refl _ _ | with_reducible refine Below.new ?_ _ | with_reducible refine Below.drew ?_))).mono ?_; rintro e w1 ⟨hb1, p1, rfl, hv1, hap1⟩; have hbl1 : Below wc.heap.size wc w1 := bel_bel (by repeat' first | with_reducible exact Below.refl _ _ | with_reducible refine Below.new ?_ _ | with_reducible refine Below.drew ?_) hb1)
        | (go_at_call_of 77 (Value.pointer (some { block := gx, off := 0 })); have q0 := LXC.out; have q00 := LYC.out; have e1 := hb1.size; have d1 := hbl1.size; (try simp at e1); refine (intMul_new (by repeat' first | ((with_reducible refine blk_at ?_); (first | with_reducible rfl | (simp; done))) | with_reducible exact Blk.new _ _ _ | with_reducible refine blk_old _ ?_ | with_reducible refine blk_drew ?_ | with_reducible refine blk_bel hb1 ?_ | (first | omega | (simp; done) | (simp; omega))) (RV.num (HXC.out.below (by repeat' first | with_reducible exact hbl1 | with_reducible exact Below.refl _ _ | with_reducible refine Below.new ?_ _ | with_reducible refine Below.drew ?_))) (show IV _ p1 (y.den : Int) from (by repeat' first | with_reducible exact hv1 | with_reducible refine iv_new _ ?_ | with_reducible refine iv_drew ?_)) (apart_ne (by (first | omega | (simp; done) | (simp; omega)))) (by first | (refine hv1.apart ?_; (first | omega | (simp; done) | (simp; omega))) | (refine hap1 _ ?_ ?_ <;> (first | omega | (simp; done) | (simp; omega)))) SX.out DY.out).mono ?_; clear q0 q00 e1 d1; rintro e w2 ⟨rfl, hs2, ho2, hh2⟩; have hbl2 : Below wc.heap.size wc w2 := bel_sav (by repeat' first | with_reducible exact hbl1 | with_reducible exact Below.refl _ _ | with_reducible refine Below.new ?_ _ | with_reducible refine Below.drew ?_) hs2 (by have d1 := hbl1.size; (first | omega | (simp; done) | (simp; omega))))
        | (go_at_call_of 75 (Value.pointer (some { block := gx, off := 0 })); refine (den_calls (HXC.out.below (by repeat' first | with_reducible exact hbl2 | with_reducible exact hbl1 | with_reducible exact Below.refl _ _ | with_reducible refine Below.new ?_ _ | with_reducible refine Below.drew ?_))).mono ?_; rintro e w3 ⟨hb3, p3, rfl, hv3, hap3⟩; have hbl3 : Below wc.heap.size wc w3 := bel_bel (by repeat' first | with_reducible exact hbl2 | with_reducible exact hbl1 | with_reducible exact Below.refl _ _ | with_reducible refine Below.new ?_ _ | with_reducible refine Below.drew ?_) hb3)
        | (go_at_call_of 77 (Value.pointer (some { block := gy, off := 0 })); have q0 := LXC.out; have q00 := LYC.out; have e1 := hb1.size; have d1 := hbl1.size; (try simp at e1); have e2 := hs2.size; have d2 := hbl2.size; (try simp at e2); have e3 := hb3.size; have d3 := hbl3.size; (try simp at e3); have o2 := ho2.lt; refine (intMul_new (by repeat' first | ((with_reducible refine blk_at ?_); (first | with_reducible rfl | (simp; done))) | with_reducible exact Blk.new _ _ _ | with_reducible refine blk_old _ ?_ | with_reducible refine blk_drew ?_ | with_reducible refine blk_bel hb3 ?_ | with_reducible refine blk_sav hs2 ?_ ?_ | with_reducible refine blk_bel hb1 ?_ | (first | omega | (simp; done) | (simp; omega))) (RV.num (HYC.out.below (by repeat' first | with_reducible exact hbl3 | with_reducible exact hbl2 | with_reducible exact hbl1 | with_reducible exact Below.refl _ _ | with_reducible refine Below.new ?_ _ | with_reducible refine Below.drew ?_))) (show IV _ p3 (x.den : Int) from (by repeat' first | with_reducible exact hv3 | with_reducible refine iv_new _ ?_ | with_reducible refine iv_drew ?_)) (apart_ne (by (first | omega | (simp; done) | (simp; omega)))) (by first | (refine hv3.apart ?_; (first | omega | (simp; done) | (simp; omega))) | (refine hap3 _ ?_ ?_ <;> (first | omega | (simp; done) | (simp; omega)))) SY.out DX.out).mono ?_; clear q0 q00 e1 d1 e2 d2 e3 d3 o2; rintro e w4 ⟨rfl, hs4, ho4, hh4⟩; have hbl4 : Below wc.heap.size wc w4 := bel_sav (by repeat' first | with_reducible exact hbl3 | with_reducible exact hbl2 | with_reducible exact hbl1 | with_reducible exact Below.refl _ _ | with_reducible refine Below.new ?_ _ | with_reducible refine Below.drew ?_) hs4 (by have d1 := hbl1.size; have d2 := hbl2.size; have d3 := hbl3.size; (first | omega | (simp; done) | (simp; omega))))
        | (go_at_call 76; have q0 := LXC.out; have q00 := LYC.out; have e1 := hb1.size; have d1 := hbl1.size; (try simp at e1); have e2 := hs2.size; have d2 := hbl2.size; (try simp at e2); have e3 := hb3.size; have d3 := hbl3.size; (try simp at e3); have e4 := hs4.size; have d4 := hbl4.size; (try simp at e4); have o2 := ho2.lt; have o4 := ho4.lt; refine (intCmp_calls (Own2.iv (by repeat' first | with_reducible exact ho2 | with_reducible refine own_new _ ?_ | with_reducible refine own_drew ?_ | with_reducible refine own_sav hs4 hh4 ?_ ?_ | with_reducible refine own_bel hb3 ?_ | (first | omega | (simp; done) | (simp; omega)))) (Own2.iv (by repeat' first | with_reducible exact ho4 | with_reducible refine own_new _ ?_ | with_reducible refine own_drew ?_ | (first | omega | (simp; done) | (simp; omega)))) SXY.out SYX.out).mono ?_; clear q0 q00 e1 d1 e2 d2 e3 d3 e4 d4 o2 o4; rintro e w5 ⟨hb5, c5, rfl, hc5, hz5⟩; have hbl5 : Below wc.heap.size wc w5 := bel_bel (by repeat' first | with_reducible exact hbl4 | with_reducible exact hbl3 | with_reducible exact hbl2 | with_reducible exact hbl1 | with_reducible exact Below.refl _ _ | with_reducible refine Below.new ?_ _ | with_reducible refine Below.drew ?_) hb5)
        )
    all_goals
      go_wp2
      go_ret
      exact ⟨bel_bel HC.out hbl5, _, rfl, hc5, hz5.trans (rat_cross_eq x y)⟩

set_option maxHeartbeats 2000000 in
set_option maxRecDepth 100000 in
/-- Eq: are they the same? -/
theorem refEq_calls {w : World} {px py : Value} {x y : Rat} {k l : Nat} (hx : PR w px x) (hy : PR w py y) (fx : QS k x) (fy : QS l y) (hkl : k + l + 1 ≤ 35184372088640) :
    Calls Tryz.prog 24 #[px, py] w fun e w' => Below w.heap.size w w' ∧ e = .returned (.bool (decide (x = y))) := by
  obtain ⟨gx, rfl, hx⟩ := hx
  obtain ⟨gy, rfl, hy⟩ := hy
  have h := ratCmp_calls hx hy fx fy hkl
  clear hx hy fx fy
  go_enter Tryz.func24, Tryz.ntmps24
  go_wp2_with fail
  refine h.mono ?_
  rintro e w1 ⟨hb, c, rfl, _, hc⟩
  have HE : Hid ((c == 0) = decide (x = y)) := by
    show _ = _
    by_cases e : x = y
    · rw [decide_eq_true e, beq_iff_eq]; exact hc.2 e
    · rw [decide_eq_false e, beq_eq_false_iff_ne]; exact fun h => e (hc.1 h)
  have HB := hideIt2 hb
  clear hb hc
  go_wp2
  go_ret
  exact ⟨HB.out, by rw [← HE.out]; rfl⟩

end Go.Proofs.YtpalknbmejachaaGreatDoor
/- Walks of package compassref: Turn, On, Tell, Same. -/
namespace Go.Proofs.YtpalknbmejachaaGreatDoor
open Go.RowKit Cx

attribute [local go_sem ↓] Go.wp_at_zero Go.wp_at_succ

theorem Below.put2' {B g : Nat} {a w : World} (h : Below B a w) (hB : B ≤ g) (x0 x1 : Value) : Below B a ((w.setCell ⟨g, 0, none⟩ x0).setCell ⟨g, 1, none⟩ x1) := Below.put2 h hB x0 x1

set_option maxHeartbeats 4000000 in
set_option maxRecDepth 100000 in
theorem refTurn_walk {w : World} {gax gaz gbx gbz gcx gcz : Nat} {ax az bx bz cx cz : Rat} {k : Nat} (hax : RV w gax ax) (haz : RV w gaz az) (hbx : RV w gbx bx) (hbz : RV w gbz bz) (hcx : RV w gcx cx) (hcz : RV w gcz cz) (fax : QS k ax) (faz : QS k az) (fbx : QS k bx) (fbz : QS k bz) (fcx : QS k cx) (fcz : QS k cz) (hk : 64 * k + 128 ≤ 35184372088640) :
    Calls Tryz.prog 14 #[.agg #[.pointer (some ⟨gax, 0, none⟩), .pointer (some ⟨gaz, 0, none⟩)], .agg #[.pointer (some ⟨gbx, 0, none⟩), .pointer (some ⟨gbz, 0, none⟩)], .agg #[.pointer (some ⟨gcx, 0, none⟩), .pointer (some ⟨gcz, 0, none⟩)]] w fun e w' => Below w.heap.size w w' ∧ ∃ v, e = .returned v ∧ PR w' v ((bx - ax) * (cz - az) - (bz - az) * (cx - ax)) := by
  obtain ⟨hb0, hk0, hk1, hk2, hsz⟩ := boxes3 w #[.pointer (some ⟨gax, 0, none⟩), .pointer (some ⟨gaz, 0, none⟩)] #[.pointer (some ⟨gbx, 0, none⟩), .pointer (some ⟨gbz, 0, none⟩)] #[.pointer (some ⟨gcx, 0, none⟩), .pointer (some ⟨gcz, 0, none⟩)] 30 30 30
  have HB0 := hideIt2 hb0
  have HSZ := hideIt2 hsz
  have HK0 := hideIt2 hk0
  have HK1 := hideIt2 hk1
  have HK2 := hideIt2 hk2
  have Hax := hideIt2 (hax.below hb0)
  have Haz := hideIt2 (haz.below hb0)
  have Hbx := hideIt2 (hbx.below hb0)
  have Hbz := hideIt2 (hbz.below hb0)
  have Hcx := hideIt2 (hcx.below hb0)
  have Hcz := hideIt2 (hcz.below hb0)
  have Fax := hideIt2 fax
  have Faz := hideIt2 faz
  have Fbx := hideIt2 fbx
  have Fbz := hideIt2 fbz
  have Fcx := hideIt2 fcx
  have Fcz := hideIt2 fcz
  clear hb0 hsz hk0 hk1 hk2 hax haz hbx hbz hcx hcz fax faz fbx fbz fcx fcz
  go_enter Tryz.func14, Tryz.ntmps14
  go_wp2_with fail
  generalize (((w.alloc (.cells #[.pointer (some ⟨gax, 0, none⟩), .pointer (some ⟨gaz, 0, none⟩)] 30)).alloc (.cells #[.pointer (some ⟨gbx, 0, none⟩), .pointer (some ⟨gbz, 0, none⟩)] 30)).alloc (.cells #[.pointer (some ⟨gcx, 0, none⟩), .pointer (some ⟨gcz, 0, none⟩)] 30)) = W0 at *
  have HS : Hid (∀ w', Below W0.heap.size W0 w' → w'.cell? ⟨w.heap.size, 0, none⟩ = some (.pointer (some ⟨gax, 0, none⟩)) ∧ w'.cell? ⟨w.heap.size, 1, none⟩ = some (.pointer (some ⟨gaz, 0, none⟩)) ∧ w'.cell? ⟨w.heap.size + 1, 0, none⟩ = some (.pointer (some ⟨gbx, 0, none⟩)) ∧ w'.cell? ⟨w.heap.size + 1, 1, none⟩ = some (.pointer (some ⟨gbz, 0, none⟩)) ∧ w'.cell? ⟨w.heap.size + 1 + 1, 0, none⟩ = some (.pointer (some ⟨gcx, 0, none⟩)) ∧ w'.cell? ⟨w.heap.size + 1 + 1, 1, none⟩ = some (.pointer (some ⟨gcz, 0, none⟩))) := fun w' hb => ⟨(HK0.out.below hb (by rw [HSZ.out]; omega)).cell 0, (HK0.out.below hb (by rw [HSZ.out]; omega)).cell 1, (HK1.out.below hb (by rw [HSZ.out]; omega)).cell 0, (HK1.out.below hb (by rw [HSZ.out]; omega)).cell 1, (HK2.out.below hb (by rw [HSZ.out]; omega)).cell 0, (HK2.out.below hb (by rw [HSZ.out]; omega)).cell 1⟩
  obtain ⟨z0, z1, z2, z3, z4, z5⟩ := HS.out W0 (Below.refl _ _)
  go_region_held3 (fun w' => w'.cell? ⟨w.heap.size, 0, none⟩ = some (.pointer (some ⟨gax, 0, none⟩)) ∧ w'.cell? ⟨w.heap.size, 1, none⟩ = some (.pointer (some ⟨gaz, 0, none⟩)) ∧ w'.cell? ⟨w.heap.size + 1, 0, none⟩ = some (.pointer (some ⟨gbx, 0, none⟩)) ∧ w'.cell? ⟨w.heap.size + 1, 1, none⟩ = some (.pointer (some ⟨gbz, 0, none⟩)) ∧ w'.cell? ⟨w.heap.size + 1 + 1, 0, none⟩ = some (.pointer (some ⟨gcx, 0, none⟩)) ∧ w'.cell? ⟨w.heap.size + 1 + 1, 1, none⟩ = some (.pointer (some ⟨gcz, 0, none⟩))) (first | (refine HS.out _ ?_; (repeat' first | with_reducible exact hbl3 | with_reducible exact hbl2 | with_reducible exact hbl1 | with_reducible exact Below.refl _ _ | with_reducible refine Below.new ?_ _ | with_reducible refine Below.drew ?_); done) | go_keep)
    (first
      | (have hq2 := hbl2; go_at_call 50; refine (vCross_calls ⟨_, _, rfl, ⟨_, rfl, (by repeat' first | with_reducible exact hv1x | with_reducible refine rv_new _ ?_ | with_reducible refine rv_drew ?_ | with_reducible refine rv_bel hb2 ?_ | with_reducible refine rv_bel hb1 ?_)⟩, ⟨_, rfl, (by repeat' first | with_reducible exact hv1z | with_reducible refine rv_new _ ?_ | with_reducible refine rv_drew ?_ | with_reducible refine rv_bel hb2 ?_ | with_reducible refine rv_bel hb1 ?_)⟩⟩ ⟨_, _, rfl, ⟨_, rfl, (by repeat' first | with_reducible exact hv2x | with_reducible refine rv_new _ ?_ | with_reducible refine rv_drew ?_ | with_reducible refine rv_bel hb2 ?_ | with_reducible refine rv_bel hb1 ?_)⟩, ⟨_, rfl, (by repeat' first | with_reducible exact hv2z | with_reducible refine rv_new _ ?_ | with_reducible refine rv_drew ?_ | with_reducible refine rv_bel hb2 ?_ | with_reducible refine rv_bel hb1 ?_)⟩⟩ (QS.mono (l := (k + k + 1)) (Fbx.out.sub Fax.out) (by omega)) (QS.mono (l := (k + k + 1)) (Fbz.out.sub Faz.out) (by omega)) (QS.mono (l := (k + k + 1)) (Fcx.out.sub Fax.out) (by omega)) (QS.mono (l := (k + k + 1)) (Fcz.out.sub Faz.out) (by omega)) (by omega)).mono ?_; rintro e w3 ⟨hb3, _, rfl, g3, rfl, hv3⟩; have hbl3 : Below W0.heap.size W0 w3 := bel_bel (by repeat' first | with_reducible exact hbl2 | with_reducible exact hbl1 | with_reducible exact Below.refl _ _ | with_reducible refine Below.new ?_ _ | with_reducible refine Below.drew ?_) hb3; have hs3 := HS.out w3 hbl3)
      | (have hq1 := hbl1; go_at_call 23; refine (vMinus_calls ⟨_, _, rfl, ⟨_, rfl, Hcx.out.below (by repeat' first | with_reducible exact hbl1 | with_reducible exact Below.refl _ _ | with_reducible refine Below.new ?_ _ | with_reducible refine Below.drew ?_)⟩, ⟨_, rfl, Hcz.out.below (by repeat' first | with_reducible exact hbl1 | with_reducible exact Below.refl _ _ | with_reducible refine Below.new ?_ _ | with_reducible refine Below.drew ?_)⟩⟩ ⟨_, _, rfl, ⟨_, rfl, Hax.out.below (by repeat' first | with_reducible exact hbl1 | with_reducible exact Below.refl _ _ | with_reducible refine Below.new ?_ _ | with_reducible refine Below.drew ?_)⟩, ⟨_, rfl, Haz.out.below (by repeat' first | with_reducible exact hbl1 | with_reducible exact Below.refl _ _ | with_reducible refine Below.new ?_ _ | with_reducible refine Below.drew ?_)⟩⟩ (QS.mono (l := k) Fcx.out (by omega)) (QS.mono (l := k) Fcz.out (by omega)) (QS.mono (l := k) Fax.out (by omega)) (QS.mono (l := k) Faz.out (by omega)) (by omega)).mono ?_; rintro e w2 ⟨hb2, _, rfl, _, _, rfl, ⟨g2x, rfl, hv2x⟩, ⟨g2z, rfl, hv2z⟩⟩; have hbl2 : Below W0.heap.size W0 w2 := bel_bel (by repeat' first | with_reducible exact hbl1 | with_reducible exact Below.refl _ _ | with_reducible refine Below.new ?_ _ | with_reducible refine Below.drew ?_) hb2; have hs2 := HS.out w2 hbl2)
      | (go_at_call 23; refine (vMinus_calls ⟨_, _, rfl, ⟨_, rfl, Hbx.out.below (by repeat' first | with_reducible exact Below.refl _ _ | with_reducible refine Below.new ?_ _ | with_reducible refine Below.drew ?_)⟩, ⟨_, rfl, Hbz.out.below (by repeat' first | with_reducible exact Below.refl _ _ | with_reducible refine Below.new ?_ _ | with_reducible refine Below.drew ?_)⟩⟩ ⟨_, _, rfl, ⟨_, rfl, Hax.out.below (by repeat' first | with_reducible exact Below.refl _ _ | with_reducible refine Below.new ?_ _ | with_reducible refine Below.drew ?_)⟩, ⟨_, rfl, Haz.out.below (by repeat' first | with_reducible exact Below.refl _ _ | with_reducible refine Below.new ?_ _ | with_reducible refine Below.drew ?_)⟩⟩ (QS.mono (l := k) Fbx.out (by omega)) (QS.mono (l := k) Fbz.out (by omega)) (QS.mono (l := k) Fax.out (by omega)) (QS.mono (l := k) Faz.out (by omega)) (by omega)).mono ?_; rintro e w1 ⟨hb1, _, rfl, _, _, rfl, ⟨g1x, rfl, hv1x⟩, ⟨g1z, rfl, hv1z⟩⟩; have hbl1 : Below W0.heap.size W0 w1 := bel_bel (by repeat' first | with_reducible exact Below.refl _ _ | with_reducible refine Below.new ?_ _ | with_reducible refine Below.drew ?_) hb1; have hs1 := HS.out w1 hbl1)
      )
  all_goals
    go_wp2
    go_ret
    exact ⟨HB0.out.trans (hbl3.mono HB0.out.size), _, rfl, _, rfl, hv3⟩

/-- Turn of three points. -/
theorem refTurn_calls {w : World} {va vb vc : Value} {ax az bx bz cx cz : Rat} {k : Nat} (ha : VV w va ax az) (hb : VV w vb bx bz) (hc : VV w vc cx cz) (fax : QS k ax) (faz : QS k az) (fbx : QS k bx) (fbz : QS k bz) (fcx : QS k cx) (fcz : QS k cz) (hk : 64 * k + 128 ≤ 35184372088640) :
    Calls Tryz.prog 14 #[va, vb, vc] w fun e w' => Below w.heap.size w w' ∧ ∃ v, e = .returned v ∧ PR w' v ((bx - ax) * (cz - az) - (bz - az) * (cx - ax)) := by
  obtain ⟨_, _, rfl, ⟨gax, rfl, hax⟩, ⟨gaz, rfl, haz⟩⟩ := ha
  obtain ⟨_, _, rfl, ⟨gbx, rfl, hbx⟩, ⟨gbz, rfl, hbz⟩⟩ := hb
  obtain ⟨_, _, rfl, ⟨gcx, rfl, hcx⟩, ⟨gcz, rfl, hcz⟩⟩ := hc
  exact refTurn_walk hax haz hbx hbz hcx hcz fax faz fbx fbz fcx fcz hk

set_option maxHeartbeats 4000000 in
set_option maxRecDepth 100000 in
theorem vOn_walk {w : World} {gax gaz gbx gbz gc : Nat} {ax az bx bz c : Rat} {k : Nat} (hax : RV w gax ax) (haz : RV w gaz az) (hbx : RV w gbx bx) (hbz : RV w gbz bz) (hc : RV w gc c) (fax : QS k ax) (faz : QS k az) (fbx : QS k bx) (fbz : QS k bz) (fc : QS k c) (hk : 64 * k + 128 ≤ 35184372088640) :
    Calls Tryz.prog 16 #[.agg #[.pointer (some ⟨gax, 0, none⟩), .pointer (some ⟨gaz, 0, none⟩)], .agg #[.pointer (some ⟨gbx, 0, none⟩), .pointer (some ⟨gbz, 0, none⟩)], .pointer (some ⟨gc, 0, none⟩)] w fun e w' => Below w.heap.size w w' ∧ ∃ v, e = .returned v ∧ VV w' v (ax + ((bx - ax) * c)) (az + ((bz - az) * c)) := by
  obtain ⟨hb0, hk0, hk1, hk2, hsz⟩ := boxes3 w #[.pointer (some ⟨gax, 0, none⟩), .pointer (some ⟨gaz, 0, none⟩)] #[.pointer (some ⟨gbx, 0, none⟩), .pointer (some ⟨gbz, 0, none⟩)] #[.pointer none, .pointer none] 30 30 30
  have HB0 := hideIt2 hb0
  have HSZ := hideIt2 hsz
  have HK0 := hideIt2 hk0
  have HK1 := hideIt2 hk1
  have HK2 := hideIt2 hk2
  have Hax := hideIt2 (hax.below hb0)
  have Haz := hideIt2 (haz.below hb0)
  have Hbx := hideIt2 (hbx.below hb0)
  have Hbz := hideIt2 (hbz.below hb0)
  have Hc := hideIt2 (hc.below hb0)
  have Fax := hideIt2 fax
  have Faz := hideIt2 faz
  have Fbx := hideIt2 fbx
  have Fbz := hideIt2 fbz
  have Fc := hideIt2 fc
  clear hb0 hsz hk0 hk1 hk2 hax haz hbx hbz hc fax faz fbx fbz fc
  go_enter Tryz.func16, Tryz.ntmps16
  go_wp2_with fail
  generalize (((w.alloc (.cells #[.pointer (some ⟨gax, 0, none⟩), .pointer (some ⟨gaz, 0, none⟩)] 30)).alloc (.cells #[.pointer (some ⟨gbx, 0, none⟩), .pointer (some ⟨gbz, 0, none⟩)] 30)).alloc (.cells #[.pointer none, .pointer none] 30)) = W0 at *
  have HS : Hid (∀ w', Below W0.heap.size W0 w' → w'.cell? ⟨w.heap.size, 0, none⟩ = some (.pointer (some ⟨gax, 0, none⟩)) ∧ w'.cell? ⟨w.heap.size, 1, none⟩ = some (.pointer (some ⟨gaz, 0, none⟩)) ∧ w'.cell? ⟨w.heap.size + 1, 0, none⟩ = some (.pointer (some ⟨gbx, 0, none⟩)) ∧ w'.cell? ⟨w.heap.size + 1, 1, none⟩ = some (.pointer (some ⟨gbz, 0, none⟩))) := fun w' hb => ⟨(HK0.out.below hb (by rw [HSZ.out]; omega)).cell 0, (HK0.out.below hb (by rw [HSZ.out]; omega)).cell 1, (HK1.out.below hb (by rw [HSZ.out]; omega)).cell 0, (HK1.out.below hb (by rw [HSZ.out]; omega)).cell 1⟩
  have HSS : Hid (∀ w', Below W0.heap.size W0 w' → ∀ x0 x1 : Value, ((w'.setCell ⟨w.heap.size + 1 + 1, 0, none⟩ x0).setCell ⟨w.heap.size + 1 + 1, 1, none⟩ x1).cell? ⟨w.heap.size, 0, none⟩ = some (.pointer (some ⟨gax, 0, none⟩)) ∧ ((w'.setCell ⟨w.heap.size + 1 + 1, 0, none⟩ x0).setCell ⟨w.heap.size + 1 + 1, 1, none⟩ x1).cell? ⟨w.heap.size, 1, none⟩ = some (.pointer (some ⟨gaz, 0, none⟩)) ∧ ((w'.setCell ⟨w.heap.size + 1 + 1, 0, none⟩ x0).setCell ⟨w.heap.size + 1 + 1, 1, none⟩ x1).cell? ⟨w.heap.size + 1, 0, none⟩ = some (.pointer (some ⟨gbx, 0, none⟩)) ∧ ((w'.setCell ⟨w.heap.size + 1 + 1, 0, none⟩ x0).setCell ⟨w.heap.size + 1 + 1, 1, none⟩ x1).cell? ⟨w.heap.size + 1, 1, none⟩ = some (.pointer (some ⟨gbz, 0, none⟩))) := fun w' hb x0 x1 => ⟨((HK0.out.below hb (by rw [HSZ.out]; omega)).off2 (g := w.heap.size + 1 + 1) (by omega) x0 x1).cell 0, ((HK0.out.below hb (by rw [HSZ.out]; omega)).off2 (g := w.heap.size + 1 + 1) (by omega) x0 x1).cell 1, ((HK1.out.below hb (by rw [HSZ.out]; omega)).off2 (g := w.heap.size + 1 + 1) (by omega) x0 x1).cell 0, ((HK1.out.below hb (by rw [HSZ.out]; omega)).off2 (g := w.heap.size + 1 + 1) (by omega) x0 x1).cell 1⟩
  obtain ⟨z0, z1, z2, z3⟩ := HS.out W0 (Below.refl _ _)
  go_region_held3 (fun w' => w'.cell? ⟨w.heap.size, 0, none⟩ = some (.pointer (some ⟨gax, 0, none⟩)) ∧ w'.cell? ⟨w.heap.size, 1, none⟩ = some (.pointer (some ⟨gaz, 0, none⟩)) ∧ w'.cell? ⟨w.heap.size + 1, 0, none⟩ = some (.pointer (some ⟨gbx, 0, none⟩)) ∧ w'.cell? ⟨w.heap.size + 1, 1, none⟩ = some (.pointer (some ⟨gbz, 0, none⟩))) (first | (refine HS.out _ ?_; (repeat' first | with_reducible exact hbl3 | with_reducible exact hbl2 | with_reducible exact hbl1 | with_reducible exact Below.refl _ _ | with_reducible refine Below.new ?_ _ | with_reducible refine Below.drew ?_); done) | (refine HSS.out _ ?_ _ _; (repeat' first | with_reducible exact hbl3 | with_reducible exact hbl2 | with_reducible exact hbl1 | with_reducible exact Below.refl _ _ | with_reducible refine Below.new ?_ _ | with_reducible refine Below.drew ?_); done) | go_keep)
    (first
      | (have hq2 := hbl2; go_at_call 27; refine (vPlus_calls ⟨_, _, rfl, ⟨_, rfl, Hax.out.below (by repeat' first | with_reducible exact hbl2 | with_reducible exact hbl1 | with_reducible exact Below.refl _ _ | with_reducible refine Below.new ?_ _ | with_reducible refine Below.drew ?_)⟩, ⟨_, rfl, Haz.out.below (by repeat' first | with_reducible exact hbl2 | with_reducible exact hbl1 | with_reducible exact Below.refl _ _ | with_reducible refine Below.new ?_ _ | with_reducible refine Below.drew ?_)⟩⟩ ⟨_, _, rfl, ⟨_, rfl, (by repeat' first | with_reducible exact hv2x | with_reducible refine rv_new _ ?_ | with_reducible refine rv_drew ?_ | with_reducible refine rv_bel hb2 ?_ | with_reducible refine rv_bel hb1 ?_)⟩, ⟨_, rfl, (by repeat' first | with_reducible exact hv2z | with_reducible refine rv_new _ ?_ | with_reducible refine rv_drew ?_ | with_reducible refine rv_bel hb2 ?_ | with_reducible refine rv_bel hb1 ?_)⟩⟩ (QS.mono (l := k + ((k + k + 1) + k)) Fax.out (by omega)) (QS.mono (l := k + ((k + k + 1) + k)) Faz.out (by omega)) (QS.mono (l := k + ((k + k + 1) + k)) ((Fbx.out.sub Fax.out).mul Fc.out) (by omega)) (QS.mono (l := k + ((k + k + 1) + k)) ((Fbz.out.sub Faz.out).mul Fc.out) (by omega)) (by omega)).mono ?_; rintro e w3 ⟨hb3, _, rfl, _, _, rfl, ⟨g3x, rfl, hv3x⟩, ⟨g3z, rfl, hv3z⟩⟩; have hbl3 : Below W0.heap.size W0 w3 := bel_bel (by repeat' first | with_reducible exact hbl2 | with_reducible exact hbl1 | with_reducible exact Below.refl _ _ | with_reducible refine Below.new ?_ _ | with_reducible refine Below.drew ?_) hb3; have hs3 := HS.out w3 hbl3; have hkr := HK2.out.below hbl3 (by rw [HSZ.out]; omega); obtain ⟨r0, r1, f0, f1⟩ := hkr.all2)
      | (have hq1 := hbl1; go_at_call 52; refine (vTimes_calls ⟨_, _, rfl, ⟨_, rfl, (by repeat' first | with_reducible exact hv1x | with_reducible refine rv_new _ ?_ | with_reducible refine rv_drew ?_ | with_reducible refine rv_bel hb1 ?_)⟩, ⟨_, rfl, (by repeat' first | with_reducible exact hv1z | with_reducible refine rv_new _ ?_ | with_reducible refine rv_drew ?_ | with_reducible refine rv_bel hb1 ?_)⟩⟩ ⟨_, rfl, Hc.out.below (by repeat' first | with_reducible exact hbl1 | with_reducible exact Below.refl _ _ | with_reducible refine Below.new ?_ _ | with_reducible refine Below.drew ?_)⟩ (QS.mono (l := (k + k + 1) + k) (Fbx.out.sub Fax.out) (by omega)) (QS.mono (l := (k + k + 1) + k) (Fbz.out.sub Faz.out) (by omega)) (QS.mono (l := (k + k + 1) + k) Fc.out (by omega)) (by omega)).mono ?_; rintro e w2 ⟨hb2, _, rfl, _, _, rfl, ⟨g2x, rfl, hv2x⟩, ⟨g2z, rfl, hv2z⟩⟩; have hbl2 : Below W0.heap.size W0 w2 := bel_bel (by repeat' first | with_reducible exact hbl1 | with_reducible exact Below.refl _ _ | with_reducible refine Below.new ?_ _ | with_reducible refine Below.drew ?_) hb2; have hs2 := HS.out w2 hbl2)
      | (go_at_call 23; refine (vMinus_calls ⟨_, _, rfl, ⟨_, rfl, Hbx.out.below (by repeat' first | with_reducible exact Below.refl _ _ | with_reducible refine Below.new ?_ _ | with_reducible refine Below.drew ?_)⟩, ⟨_, rfl, Hbz.out.below (by repeat' first | with_reducible exact Below.refl _ _ | with_reducible refine Below.new ?_ _ | with_reducible refine Below.drew ?_)⟩⟩ ⟨_, _, rfl, ⟨_, rfl, Hax.out.below (by repeat' first | with_reducible exact Below.refl _ _ | with_reducible refine Below.new ?_ _ | with_reducible refine Below.drew ?_)⟩, ⟨_, rfl, Haz.out.below (by repeat' first | with_reducible exact Below.refl _ _ | with_reducible refine Below.new ?_ _ | with_reducible refine Below.drew ?_)⟩⟩ (QS.mono (l := k) Fbx.out (by omega)) (QS.mono (l := k) Fbz.out (by omega)) (QS.mono (l := k) Fax.out (by omega)) (QS.mono (l := k) Faz.out (by omega)) (by omega)).mono ?_; rintro e w1 ⟨hb1, _, rfl, _, _, rfl, ⟨g1x, rfl, hv1x⟩, ⟨g1z, rfl, hv1z⟩⟩; have hbl1 : Below W0.heap.size W0 w1 := bel_bel (by repeat' first | with_reducible exact Below.refl _ _ | with_reducible refine Below.new ?_ _ | with_reducible refine Below.drew ?_) hb1; have hs1 := HS.out w1 hbl1)
      )
  all_goals
    go_wp2
    obtain ⟨k0, k1, _, _⟩ := (hkr.put2 (.pointer (some ⟨g3x, 0, none⟩)) (.pointer (some ⟨g3z, 0, none⟩))).all2
    refine bodyPost_ret (v := .agg #[.pointer (some ⟨g3x, 0, none⟩), .pointer (some ⟨g3z, 0, none⟩)]) (by simp [results, Tryz.results16, go_sem, k0, k1]) rfl ⟨Below.put2 (HB0.out.trans (hbl3.mono HB0.out.size)) (by omega) (.pointer (some ⟨g3x, 0, none⟩)) (.pointer (some ⟨g3z, 0, none⟩)), _, rfl, _, _, rfl, ⟨_, rfl, RV.put2 (by repeat' first | with_reducible exact hv3x | with_reducible refine rv_new _ ?_ | with_reducible refine rv_drew ?_ | with_reducible refine rv_bel hb3 ?_ | with_reducible refine rv_bel hb2 ?_ | with_reducible refine rv_bel hb1 ?_) hkr rfl rfl (.pointer (some ⟨g3x, 0, none⟩)) (.pointer (some ⟨g3z, 0, none⟩))⟩, ⟨_, rfl, RV.put2 (by repeat' first | with_reducible exact hv3z | with_reducible refine rv_new _ ?_ | with_reducible refine rv_drew ?_ | with_reducible refine rv_bel hb3 ?_ | with_reducible refine rv_bel hb2 ?_ | with_reducible refine rv_bel hb1 ?_) hkr rfl rfl (.pointer (some ⟨g3x, 0, none⟩)) (.pointer (some ⟨g3z, 0, none⟩))⟩⟩

/-- On: a and c times the way from a to b. -/
theorem vOn_calls {w : World} {va vb vc : Value} {ax az bx bz c : Rat} {k : Nat} (ha : VV w va ax az) (hb : VV w vb bx bz) (hc : PR w vc c) (fax : QS k ax) (faz : QS k az) (fbx : QS k bx) (fbz : QS k bz) (fc : QS k c) (hk : 64 * k + 128 ≤ 35184372088640) :
    Calls Tryz.prog 16 #[va, vb, vc] w fun e w' => Below w.heap.size w w' ∧ ∃ v, e = .returned v ∧ VV w' v (ax + ((bx - ax) * c)) (az + ((bz - az) * c)) := by
  obtain ⟨_, _, rfl, ⟨gax, rfl, hax⟩, ⟨gaz, rfl, haz⟩⟩ := ha
  obtain ⟨_, _, rfl, ⟨gbx, rfl, hbx⟩, ⟨gbz, rfl, hbz⟩⟩ := hb
  obtain ⟨gc, rfl, hc⟩ := hc
  exact vOn_walk hax haz hbx hbz hc fax faz fbx fbz fc hk

set_option maxHeartbeats 4000000 in
set_option maxRecDepth 100000 in
/-- Tell: a point's texts. -/
theorem vTell_calls {w : World} {v : Value} {x z : Rat} {k : Nat} (hv : VV w v x z) (fx : QS k x) (fz : QS k z) (hk : k ≤ 35184372088640) :
    Calls Tryz.prog 22 #[v] w fun e w' => Below w.heap.size w w' ∧ e = .returned (.agg #[.string ⟨(tx x).toArray⟩, .string ⟨(tx z).toArray⟩]) := by
  obtain ⟨_, _, rfl, ⟨gx, rfl, hx⟩, ⟨gz, rfl, hz⟩⟩ := hv
  obtain ⟨hb0, hk0, hk1, hsz⟩ := boxes2 w #[.pointer (some ⟨gx, 0, none⟩), .pointer (some ⟨gz, 0, none⟩)] #[.string ⟨#[]⟩, .string ⟨#[]⟩] 30 24
  have HB0 := hideIt2 hb0
  have HSZ := hideIt2 hsz
  have HK0 := hideIt2 hk0
  have HK1 := hideIt2 hk1
  have HX := hideIt2 (hx.below hb0)
  have HZ := hideIt2 (hz.below hb0)
  clear hb0 hsz hk0 hk1 hx hz
  go_enter Tryz.func22, Tryz.ntmps22
  go_wp2_with fail
  generalize ((w.alloc (.cells #[.pointer (some ⟨gx, 0, none⟩), .pointer (some ⟨gz, 0, none⟩)] 30)).alloc (.cells #[.string ⟨#[]⟩, .string ⟨#[]⟩] 24)) = W0 at *
  have HS : Hid (∀ w', Below W0.heap.size W0 w' → w'.cell? ⟨w.heap.size, 0, none⟩ = some (.pointer (some ⟨gx, 0, none⟩)) ∧ w'.cell? ⟨w.heap.size, 1, none⟩ = some (.pointer (some ⟨gz, 0, none⟩))) := fun w' hb => ⟨(HK0.out.below hb (by rw [HSZ.out]; omega)).cell 0, (HK0.out.below hb (by rw [HSZ.out]; omega)).cell 1⟩
  have HSS : Hid (∀ w', Below W0.heap.size W0 w' → ∀ x0 x1 : Value, ((w'.setCell ⟨w.heap.size + 1, 0, none⟩ x0).setCell ⟨w.heap.size + 1, 1, none⟩ x1).cell? ⟨w.heap.size, 0, none⟩ = some (.pointer (some ⟨gx, 0, none⟩)) ∧ ((w'.setCell ⟨w.heap.size + 1, 0, none⟩ x0).setCell ⟨w.heap.size + 1, 1, none⟩ x1).cell? ⟨w.heap.size, 1, none⟩ = some (.pointer (some ⟨gz, 0, none⟩))) := fun w' hb x0 x1 => ⟨((HK0.out.below hb (by rw [HSZ.out]; omega)).off2 (g := w.heap.size + 1) (by omega) x0 x1).cell 0, ((HK0.out.below hb (by rw [HSZ.out]; omega)).off2 (g := w.heap.size + 1) (by omega) x0 x1).cell 1⟩
  obtain ⟨z0, z1⟩ := HS.out W0 (Below.refl _ _)
  go_region_held3 (fun w' => w'.cell? ⟨w.heap.size, 0, none⟩ = some (.pointer (some ⟨gx, 0, none⟩)) ∧ w'.cell? ⟨w.heap.size, 1, none⟩ = some (.pointer (some ⟨gz, 0, none⟩))) (first | (refine HS.out _ ?_; (repeat' first | with_reducible exact hbl2 | with_reducible exact hbl1 | with_reducible exact Below.refl _ _ | with_reducible refine Below.drew ?_); done) | (refine HSS.out _ ?_ _ _; (repeat' first | with_reducible exact hbl2 | with_reducible exact hbl1 | with_reducible exact Below.refl _ _ | with_reducible refine Below.drew ?_); done) | go_keep)
    (first
      | (have hq1 := hbl1; go_at_call 51; refine (refT_calls (HZ.out.below (by repeat' first | with_reducible exact hbl1 | with_reducible exact Below.refl _ _ | with_reducible refine Below.drew ?_)) fz hk).mono ?_; rintro e w2 ⟨hb2, rfl⟩; have hbl2 : Below W0.heap.size W0 w2 := bel_bel (by repeat' first | with_reducible exact hbl1 | with_reducible exact Below.refl _ _ | with_reducible refine Below.drew ?_) hb2; have hs2 := HS.out w2 hbl2; have hkr := HK1.out.below hbl2 (by rw [HSZ.out]; omega); obtain ⟨r0, r1, f0, f1⟩ := hkr.all2)
      | (go_at_call 51; refine (refT_calls (HX.out.below (by repeat' first | with_reducible exact Below.refl _ _ | with_reducible refine Below.drew ?_)) fx hk).mono ?_; rintro e w1 ⟨hb1, rfl⟩; have hbl1 : Below W0.heap.size W0 w1 := bel_bel (by repeat' first | with_reducible exact Below.refl _ _ | with_reducible refine Below.drew ?_) hb1; have hs1 := HS.out w1 hbl1)
      )
  all_goals
    go_wp2
    obtain ⟨k0, k1, _, _⟩ := (hkr.put2 (.string ⟨(tx x).toArray⟩) (.string ⟨(tx z).toArray⟩)).all2
    refine bodyPost_ret (v := .agg #[.string ⟨(tx x).toArray⟩, .string ⟨(tx z).toArray⟩]) (by simp [results, Tryz.results22, go_sem, k0, k1]) rfl ⟨Below.put2 (HB0.out.trans (hbl2.mono HB0.out.size)) (by omega) _ _, rfl⟩

end Go.Proofs.YtpalknbmejachaaGreatDoor
/- Walks of package compasslaw: helpers, Turn, PlaneArea. -/
namespace Go.Proofs.YtpalknbmejachaaGreatDoor
open Go.RowKit Cx

attribute [local go_sem ↓] Go.wp_at_zero Go.wp_at_succ

/-- Of a text, as a pointer. -/
theorem refOfS_calls (s : ByteArray) (w : World) (hm : MaxL w) (hs : s.size ≤ 4294967280) :
    Calls Tryz.prog 17 #[.string s] w fun e w' => Below w.heap.size w w' ∧ ∃ v, e = .returned v ∧ PR w' v (rd s.data.toList) := by
  refine (refOf_calls s w hm hs).mono ?_
  rintro e w' ⟨hb, g, rfl, _, h⟩
  exact ⟨hb, _, rfl, _, rfl, h⟩
/-- Of an answered text. -/
theorem refOfT_calls {w : World} {q : Rat} {k : Nat} (hm : MaxL w) (fq : QS k q) (hk : 2 * k + 4 ≤ 4294967280) :
    Calls Tryz.prog 17 #[.string ⟨(tx q).toArray⟩] w fun e w' => Below w.heap.size w w' ∧ ∃ v, e = .returned v ∧ PR w' v q := by
  have hl := tx_len fq
  refine (refOfS_calls ⟨(tx q).toArray⟩ w hm ?_).mono ?_
  · show (tx q).toArray.size ≤ _
    rw [List.size_toArray]
    omega
  · rintro e w' ⟨hb, v, rfl, h⟩
    have h2 : PR w' v (rd (tx q)) := h
    rw [rd_tx] at h2
    exact ⟨hb, v, rfl, h2⟩
theorem refNP_calls (n : Nat) (hn : n < 9223372036854775808) (w : World) :
    Calls Tryz.prog 26 #[.int .i64 n] w fun e w' => Below w.heap.size w w' ∧ ∃ v, e = .returned v ∧ PR w' v (n : Rat) := by
  refine (refN_calls n hn w).mono ?_
  rintro e w' ⟨hb, g, rfl, _, h⟩
  exact ⟨hb, _, rfl, _, rfl, h⟩
theorem qs_1 : QS 8 ((1 : Nat) : Rat) := ⟨by decide, by decide⟩
theorem qs_2 : QS 8 ((2 : Nat) : Rat) := ⟨by decide, by decide⟩
theorem qs_4 : QS 8 ((4 : Nat) : Rat) := ⟨by decide, by decide⟩

end Go.Proofs.YtpalknbmejachaaGreatDoor
/- Walks of package compassref: Same, Right. -/
namespace Go.Proofs.YtpalknbmejachaaGreatDoor
open Go.RowKit Cx

attribute [local go_sem ↓] Go.wp_at_zero Go.wp_at_succ

set_option maxHeartbeats 4000000 in
set_option maxRecDepth 100000 in
/-- Same: are two points the same? -/
theorem vSame_calls {w : World} {va vb : Value} {ax az bx bz : Rat} {k : Nat} (ha : VV w va ax az) (hb : VV w vb bx bz) (fax : QS k ax) (faz : QS k az) (fbx : QS k bx) (fbz : QS k bz) (hk : k + k + 1 ≤ 35184372088640) :
    Calls Tryz.prog 12 #[va, vb] w fun e w' => Below w.heap.size w w' ∧ e = .returned (.bool (decide (ax = bx ∧ az = bz))) := by
  obtain ⟨_, _, rfl, ⟨gax, rfl, hax⟩, ⟨gaz, rfl, haz⟩⟩ := ha
  obtain ⟨_, _, rfl, ⟨gbx, rfl, hbx⟩, ⟨gbz, rfl, hbz⟩⟩ := hb
  obtain ⟨hb0, hk0, hk1, hsz⟩ := boxes2 w #[.pointer (some ⟨gax, 0, none⟩), .pointer (some ⟨gaz, 0, none⟩)] #[.pointer (some ⟨gbx, 0, none⟩), .pointer (some ⟨gbz, 0, none⟩)] 30 30
  have HB0 := hideIt2 hb0
  have HSZ := hideIt2 hsz
  have HK0 := hideIt2 hk0
  have HK1 := hideIt2 hk1
  have Hax := hideIt2 (hax.below hb0)
  have Haz := hideIt2 (haz.below hb0)
  have Hbx := hideIt2 (hbx.below hb0)
  have Hbz := hideIt2 (hbz.below hb0)
  have Fax := hideIt2 fax
  have Faz := hideIt2 faz
  have Fbx := hideIt2 fbx
  have Fbz := hideIt2 fbz
  clear hb0 hsz hk0 hk1 hax haz hbx hbz fax faz fbx fbz
  generalize hr : decide (ax = bx ∧ az = bz) = r
  by_cases h1 : ax = bx
  · have HE : Hid (decide (ax = bx) = true) := decide_eq_true h1
    have HR : Hid (r = decide (az = bz)) := by
      show r = _
      rw [← hr]
      simp [h1]
    clear hr h1
    go_enter Tryz.func12, Tryz.ntmps12
    go_wp2_with fail
    generalize ((w.alloc (.cells #[.pointer (some ⟨gax, 0, none⟩), .pointer (some ⟨gaz, 0, none⟩)] 30)).alloc (.cells #[.pointer (some ⟨gbx, 0, none⟩), .pointer (some ⟨gbz, 0, none⟩)] 30)) = W0 at *
    have HS : Hid (∀ w', Below W0.heap.size W0 w' → w'.cell? ⟨w.heap.size, 0, none⟩ = some (.pointer (some ⟨gax, 0, none⟩)) ∧ w'.cell? ⟨w.heap.size, 1, none⟩ = some (.pointer (some ⟨gaz, 0, none⟩)) ∧ w'.cell? ⟨w.heap.size + 1, 0, none⟩ = some (.pointer (some ⟨gbx, 0, none⟩)) ∧ w'.cell? ⟨w.heap.size + 1, 1, none⟩ = some (.pointer (some ⟨gbz, 0, none⟩))) := fun w' hb => ⟨(HK0.out.below hb (by rw [HSZ.out]; omega)).cell 0, (HK0.out.below hb (by rw [HSZ.out]; omega)).cell 1, (HK1.out.below hb (by rw [HSZ.out]; omega)).cell 0, (HK1.out.below hb (by rw [HSZ.out]; omega)).cell 1⟩
    obtain ⟨z0, z1, z2, z3⟩ := HS.out W0 (Below.refl _ _)
    refine (refEq_calls ⟨_, rfl, Hax.out⟩ ⟨_, rfl, Hbx.out⟩ Fax.out Fbx.out hk).mono ?_
    rintro e w1 ⟨hb1, rfl⟩
    rw [HE.out]
    have hbl1 : Below W0.heap.size W0 w1 := hb1
    obtain ⟨z0, z1, z2, z3⟩ := HS.out w1 hbl1
    go_wp2_with fail
    refine (refEq_calls ⟨_, rfl, Haz.out.below hbl1⟩ ⟨_, rfl, Hbz.out.below hbl1⟩ Faz.out Fbz.out hk).mono ?_
    rintro e w2 ⟨hb2, rfl⟩
    have hbl2 : Below W0.heap.size W0 w2 := bel_bel hbl1 hb2
    go_wp2
    go_ret
    exact ⟨HB0.out.trans (hbl2.mono HB0.out.size), by rw [HR.out]; rfl⟩
  · have HE : Hid (decide (ax = bx) = false) := decide_eq_false h1
    have HR : Hid (r = false) := by
      show r = _
      rw [← hr]
      simp [h1]
    clear hr h1
    go_enter Tryz.func12, Tryz.ntmps12
    go_wp2_with fail
    generalize ((w.alloc (.cells #[.pointer (some ⟨gax, 0, none⟩), .pointer (some ⟨gaz, 0, none⟩)] 30)).alloc (.cells #[.pointer (some ⟨gbx, 0, none⟩), .pointer (some ⟨gbz, 0, none⟩)] 30)) = W0 at *
    have HS : Hid (∀ w', Below W0.heap.size W0 w' → w'.cell? ⟨w.heap.size, 0, none⟩ = some (.pointer (some ⟨gax, 0, none⟩)) ∧ w'.cell? ⟨w.heap.size, 1, none⟩ = some (.pointer (some ⟨gaz, 0, none⟩)) ∧ w'.cell? ⟨w.heap.size + 1, 0, none⟩ = some (.pointer (some ⟨gbx, 0, none⟩)) ∧ w'.cell? ⟨w.heap.size + 1, 1, none⟩ = some (.pointer (some ⟨gbz, 0, none⟩))) := fun w' hb => ⟨(HK0.out.below hb (by rw [HSZ.out]; omega)).cell 0, (HK0.out.below hb (by rw [HSZ.out]; omega)).cell 1, (HK1.out.below hb (by rw [HSZ.out]; omega)).cell 0, (HK1.out.below hb (by rw [HSZ.out]; omega)).cell 1⟩
    obtain ⟨z0, z1, z2, z3⟩ := HS.out W0 (Below.refl _ _)
    refine (refEq_calls ⟨_, rfl, Hax.out⟩ ⟨_, rfl, Hbx.out⟩ Fax.out Fbx.out hk).mono ?_
    rintro e w1 ⟨hb1, rfl⟩
    rw [HE.out]
    have hbl1 : Below W0.heap.size W0 w1 := hb1
    obtain ⟨z0, z1, z2, z3⟩ := HS.out w1 hbl1
    go_wp2
    go_ret
    exact ⟨HB0.out.trans (hbl1.mono HB0.out.size), by rw [HR.out]; rfl⟩

/-- The value is a slice of the texts ss. -/
def SRow (w : World) (v : Value) (ss : List ByteArray) : Prop :=
  ∃ b off cap, v = .slice (some ⟨b, off, none⟩) ss.length cap ∧ b < w.heap.size ∧ ∀ (j : Nat) (hj : j < ss.length), w.cell? ⟨b, off + j, none⟩ = some (.string (ss[j]'hj))

theorem srow_idx {b off n cap k : Nat} (hk : k < n) (wx : World) : (Instr.indexAt 79 (.slice (some ⟨b, off, none⟩) n cap) (.int .i64 k)).run Tryz.prog wx = .ok (.pointer (some ⟨b, off + k, none⟩)) wx := by
  have he : Tryz.prog.elem 79 = 22 := by simp [Program.elem, Tryz.underlying79]
  rw [run_indexAt_slice (h := by rw [he]; exact Tryz.underlying79), if_pos (by omega), he, Tryz.sizeOf22]
  simp [Result.andThen, Addr.add]

/-- Is a text as it is answered? -/
def right (s : ByteArray) : Prop := tx (rd s.data.toList) = s.data.toList

theorem right_eq {s : ByteArray} : ((⟨(tx (rd s.data.toList)).toArray⟩ : ByteArray) = s) ↔ right s := by
  unfold right
  constructor
  · intro h
    have := congrArg (fun b : ByteArray => b.data.toList) h
    simpa using this
  · intro h
    apply ByteArray.ext
    apply Array.ext'
    simpa using h

set_option maxHeartbeats 4000000 in
set_option maxRecDepth 100000 in
theorem refRight_walk {w : World} {b off cap : Nat} {ss : List ByteArray} (h : SRow w (.slice (some ⟨b, off, none⟩) ss.length cap) ss) (hm : MaxL w) (hl : ∀ s ∈ ss, s.size ≤ 4294967280) (hn : ss.length ≤ 1000000) :
    Calls Tryz.prog 15 #[.slice (some ⟨b, off, none⟩) ss.length cap] w fun e w' => Below w.heap.size w w' ∧ ∃ r : Bool, e = .returned (.bool r) ∧ (r = true ↔ ∀ s ∈ ss, right s) := by
  have HR := hideIt2 h
  have HM := hideIt2 hm
  have HL := hideIt2 hl
  clear h hm hl
  go_enter Tryz.func15, Tryz.ntmps15
  go_wp2
  go_loopw [7] (fun i wr => ∃ k : Nat, k ≤ ss.length ∧ i = .int .i64 (k : Int) ∧ Below w.heap.size w wr ∧ ∀ s ∈ ss.take k, right s) (fun i _ => ss.length - (intOf i).toNat)
  case atStart => exact ⟨0, Nat.zero_le _, rfl, Below.refl _ _, by simp⟩
  case round =>
    obtain ⟨k, hkl, rfl, hbel, hall⟩ := hrel
    have HBL := hideIt2 hbel
    have HAL := hideIt2 hall
    clear hbel hall
    by_cases hend : k = ss.length
    · subst hend
      go_wp2
      go_ret
      exact ⟨HBL.out, true, rfl, ⟨fun _ => (by have := HAL.out; rwa [List.take_length] at this), fun _ => rfl⟩⟩
    · have hlt : k < ss.length := by omega
      have hidx := srow_idx (b := b) (off := off) (cap := cap) hlt
      obtain ⟨b', off', cap', e, hbl, hcells⟩ := HR.out
      cases e
      have hp := hcells k hlt
      obtain ⟨s, hs⟩ : ∃ s, ss[k] = s := ⟨_, rfl⟩
      have hmem : s ∈ ss := hs ▸ List.getElem_mem hlt
      have hsz := HL.out s hmem
      rw [hs] at hp
      have z0 := (HBL.out.cell (p := ⟨b, off + k, none⟩) hbl).trans hp
      have HMEM := hideIt2 (And.intro hs hmem)
      clear hp hcells hs hmem
      go_wp2_with fail
      refine (refOf_calls s wr (HM.out.below HBL.out) hsz).mono ?_
      rintro e w1 ⟨hb1, g1, rfl, _, hv1⟩
      have H1 := hideIt2 (And.intro (bel_bel HBL.out hb1) hv1)
      clear hb1 hv1
      go_wp2_with fail
      refine (refT_calls H1.out.2 (QS.rd s.data.toList) (by rw [str_len]; omega)).mono ?_
      rintro e w2 ⟨hb2, rfl⟩
      have H2 := hideIt2 (bel_bel H1.out.1 hb2)
      clear hb2
      by_cases hr : right s
      · have he := right_eq.2 hr
        rw [he]
        have HRR := hideIt2 hr
        clear hr he
        go_wp2
        go_roundw
        case rel =>
          refine ⟨k + 1, hlt, by go_num, H2.out, ?_⟩
          intro t ht
          rw [List.take_succ_eq_append_getElem hlt, List.mem_append] at ht
          rcases ht with ht | ht
          · exact HAL.out t ht
          · rw [List.mem_singleton.1 ht, HMEM.out.1]; exact HRR.out
        case measure => simp [intOf]; omega
      · have hne : ¬ ((⟨(tx (rd s.data.toList)).toArray⟩ : ByteArray) = s) := fun e => hr (right_eq.1 e)
        have hnb : ((⟨(tx (rd s.data.toList)).toArray⟩ : ByteArray).toList == s.toList) = false := by
          rw [beq_eq_false_iff_ne]
          intro e
          rw [ByteArray.toList_eq, ByteArray.toList_eq] at e
          exact hne (ByteArray.ext (Array.ext' e))
        have HRR := hideIt2 hr
        clear hr
        generalize (⟨(tx (rd s.data.toList)).toArray⟩ : ByteArray) = t at *
        go_wp2
        go_ret
        exact ⟨H2.out, false, rfl, ⟨fun h => (by cases h), fun h => absurd (h s HMEM.out.2) HRR.out⟩⟩

/-- Right: are texts as they are answered? -/
theorem refRight_calls {w : World} {v : Value} {ss : List ByteArray} (h : SRow w v ss) (hm : MaxL w) (hl : ∀ s ∈ ss, s.size ≤ 4294967280) (hn : ss.length ≤ 1000000) :
    Calls Tryz.prog 15 #[v] w fun e w' => Below w.heap.size w w' ∧ ∃ r : Bool, e = .returned (.bool r) ∧ (r = true ↔ ∀ s ∈ ss, right s) := by
  have h' := h
  obtain ⟨b, off, cap, rfl, _⟩ := h
  exact refRight_walk h' hm hl hn
end Go.Proofs.YtpalknbmejachaaGreatDoor
