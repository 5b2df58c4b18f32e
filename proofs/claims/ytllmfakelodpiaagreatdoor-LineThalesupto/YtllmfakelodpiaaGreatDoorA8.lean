/- Part 8 of the walks of the packages num, way, ruler, line and plane, and of the mathematics under them: WA TH WB. -/
import Derived.Test.YtllmfakelodpiaaGreatDoorA5
import Derived.Test.YtllmfakelodpiaaGreatDoorA7
/- Structs in boxes: fractions by their cells, ways, blocks that hold a struct, stores into them. -/
namespace Go.Proofs.YtllmfakelodpiaaGreatDoor
open Go.RowKit Cx

/-- What a fraction is made of. -/
structure C3 where
  n : Bool
  u : Option Addr
  nu : Nat
  cu : Nat
  l : Option Addr
  nl : Nat
  cl : Nat

theorem qv_open {w : World} {v : Value} {q : Rat} (h : QV w v q) : ∃ c : C3, v = .agg #[.bool c.n, .slice c.u c.nu c.cu, .slice c.l c.nl c.cl] := by
  obtain ⟨vu, vl, rfl, h1, h2⟩ := h
  obtain ⟨a1, n1, c1, rfl, _, _, _⟩ := len_big h1
  obtain ⟨a2, n2, c2, rfl, _, _, _⟩ := len_big h2
  exact ⟨⟨_, a1, n1, c1, a2, n2, c2⟩, rfl⟩

theorem qv_zero0 (w : World) : QV w (.agg #[.bool false, .slice none 0 0, .slice none 0 0]) 0 := ⟨.slice none 0 0, .slice none 0 0, rfl, NatN.nil _ _ _, NatN.nil _ _ _⟩

/-- The value v is the way of x and y. -/
def WV (w : World) (v : Value) (x y : Rat) : Prop :=
  ∃ c d : C3, v = .agg #[.bool c.n, .slice c.u c.nu c.cu, .slice c.l c.nl c.cl, .bool d.n, .slice d.u d.nu d.cu, .slice d.l d.nl d.cl] ∧ QV w (.agg #[.bool c.n, .slice c.u c.nu c.cu, .slice c.l c.nl c.cl]) x ∧ QV w (.agg #[.bool d.n, .slice d.u d.nu d.cu, .slice d.l d.nl d.cl]) y

/-- The value v is the line of a, b and c. -/
def LV (w : World) (v : Value) (x y z : Rat) : Prop :=
  ∃ c d e : C3, v = .agg #[.bool c.n, .slice c.u c.nu c.cu, .slice c.l c.nl c.cl, .bool d.n, .slice d.u d.nu d.cu, .slice d.l d.nl d.cl, .bool e.n, .slice e.u e.nu e.cu, .slice e.l e.nl e.cl] ∧ QV w (.agg #[.bool c.n, .slice c.u c.nu c.cu, .slice c.l c.nl c.cl]) x ∧ QV w (.agg #[.bool d.n, .slice d.u d.nu d.cu, .slice d.l d.nl d.cl]) y ∧ QV w (.agg #[.bool e.n, .slice e.u e.nu e.cu, .slice e.l e.nl e.cl]) z

theorem WV.below {w w' : World} {v : Value} {x y : Rat} (h : WV w v x y) (hb : Below w.heap.size w w') : WV w' v x y := by
  obtain ⟨c, d, e, h1, h2⟩ := h
  exact ⟨c, d, e, h1.below hb, h2.below hb⟩

theorem LV.below {w w' : World} {v : Value} {x y z : Rat} (h : LV w v x y z) (hb : Below w.heap.size w w') : LV w' v x y z := by
  obtain ⟨c, d, f, e, h1, h2, h3⟩ := h
  exact ⟨c, d, f, e, h1.below hb, h2.below hb, h3.below hb⟩

/-- A world in which every fraction is still what it was. -/
structure Stays (w w' : World) : Prop where
  qv : ∀ {v : Value} {q : Rat}, QV w v q → QV w' v q

theorem Stays.refl (w : World) : Stays w w := ⟨id⟩
theorem Stays.trans {a b c : World} (h : Stays a b) (k : Stays b c) : Stays a c := ⟨fun x => k.qv (h.qv x)⟩
theorem Stays.of {w w' : World} (h : Below w.heap.size w w') : Stays w w' := ⟨fun x => x.below h⟩
theorem Stays.wv {w w' : World} (h : Stays w w') {v : Value} {x y : Rat} (k : WV w v x y) : WV w' v x y := by
  obtain ⟨c, d, e, h1, h2⟩ := k
  exact ⟨c, d, e, h.qv h1, h.qv h2⟩
theorem Stays.lv {w w' : World} (h : Stays w w') {v : Value} {x y z : Rat} (k : LV w v x y z) : LV w' v x y z := by
  obtain ⟨c, d, f, e, h1, h2, h3⟩ := k
  exact ⟨c, d, f, e, h.qv h1, h.qv h2, h.qv h3⟩

def notLimb : Value → Bool
  | .int .u32 _ => false
  | _ => true

theorem notLimb_ne {v : Value} (h : notLimb v = true) (x : Int) : v ≠ .int .u32 x := by
  rintro rfl
  cases h

theorem noLimb_of {cs : Array Value} (h : cs.all notLimb = true) : NoLimb cs := by
  intro j x e
  rw [Array.all_eq_true] at h
  obtain ⟨hj, e'⟩ := Array.getElem?_eq_some_iff.1 e
  have := h j hj
  rw [e'] at this
  cases this

theorem Stays.set {w : World} {g t : Nat} {cs : Array Value} (hb : Blk w g cs t) (hno : cs.all notLimb = true) (j : Nat) (x : Value) : Stays w (w.setCell ⟨g, j, none⟩ x) :=
  ⟨fun ⟨vu, vl, e, h1, h2⟩ => ⟨vu, vl, e, h1.other hb (noLimb_of hno) j x, h2.other hb (noLimb_of hno) j x⟩⟩

theorem all_set {cs : Array Value} (h : cs.all notLimb = true) (j : Nat) {v : Value} (hv : notLimb v = true) : (cs.setIfInBounds j v).all notLimb = true := by
  rw [Array.all_eq_true] at h ⊢
  intro i hi
  rw [Array.getElem_setIfInBounds]
  split
  · exact hv
  · exact h i (by simpa using hi)

theorem Below.set {B g : Nat} {a w : World} (h : Below B a w) (hB : B ≤ g) (j : Nat) (x : Value) : Below B a (w.setCell ⟨g, j, none⟩ x) := h.setCell hB _

theorem Blk.all2 {w : World} {g : Nat} {c0 c1 : Value} {t : TypeId} (h : Blk w g #[c0, c1] t) : w.cell? ⟨g, 0, none⟩ = some c0 ∧ w.cell? ⟨g, 1, none⟩ = some c1 ∧ w.frozen? ⟨g, 0, none⟩ = false ∧ w.frozen? ⟨g, 1, none⟩ = false :=
  ⟨h.cell 0, h.cell 1, h.frozen 0, h.frozen 1⟩
theorem Blk.put2 {w : World} {g : Nat} {c0 c1 : Value} {t : TypeId} (h : Blk w g #[c0, c1] t) (x0 x1 : Value) : Blk ((w.setCell ⟨g, 0, none⟩ x0).setCell ⟨g, 1, none⟩ x1) g #[x0, x1] t := by
  have h0 : Blk (w.setCell ⟨g, 0, none⟩ x0) g #[x0, c1] t := h.set 0 x0
  have h1 : Blk ((w.setCell ⟨g, 0, none⟩ x0).setCell ⟨g, 1, none⟩ x1) g #[x0, x1] t := h0.set 1 x1
  exact h1
theorem Blk.off2 {w : World} {g g' t : Nat} {cs : Array Value} (h : Blk w g' cs t) (hne : g ≠ g') (x0 x1 : Value) : Blk ((w.setCell ⟨g, 0, none⟩ x0).setCell ⟨g, 1, none⟩ x1) g' cs t := ((h.other hne 0 x0).other hne 1 x1)
theorem Below.put2 {B g : Nat} {a w : World} (h : Below B a w) (hB : B ≤ g) (x0 x1 : Value) : Below B a ((w.setCell ⟨g, 0, none⟩ x0).setCell ⟨g, 1, none⟩ x1) := (Below.set (Below.set h hB 0 x0) hB 1 x1)
theorem Stays.put2 {w : World} {g t : Nat} {cs : Array Value} (h0 : Blk w g cs t) (a0 : cs.all notLimb = true) (x0 x1 : Value) (k0 : notLimb x0 = true) (k1 : notLimb x1 = true) : Stays w ((w.setCell ⟨g, 0, none⟩ x0).setCell ⟨g, 1, none⟩ x1) := by
  have h1 := h0.set 0 x0
  have a1 := all_set a0 0 k0
  have h2 := h1.set 1 x1
  have a2 := all_set a1 1 k1
  exact ((Stays.set h0 a0 0 x0).trans (Stays.set h1 a1 1 x1))

theorem Blk.all3 {w : World} {g : Nat} {c0 c1 c2 : Value} {t : TypeId} (h : Blk w g #[c0, c1, c2] t) : w.cell? ⟨g, 0, none⟩ = some c0 ∧ w.cell? ⟨g, 1, none⟩ = some c1 ∧ w.cell? ⟨g, 2, none⟩ = some c2 ∧ w.frozen? ⟨g, 0, none⟩ = false ∧ w.frozen? ⟨g, 1, none⟩ = false ∧ w.frozen? ⟨g, 2, none⟩ = false :=
  ⟨h.cell 0, h.cell 1, h.cell 2, h.frozen 0, h.frozen 1, h.frozen 2⟩
theorem Blk.put3 {w : World} {g : Nat} {c0 c1 c2 : Value} {t : TypeId} (h : Blk w g #[c0, c1, c2] t) (x0 x1 x2 : Value) : Blk (((w.setCell ⟨g, 0, none⟩ x0).setCell ⟨g, 1, none⟩ x1).setCell ⟨g, 2, none⟩ x2) g #[x0, x1, x2] t := by
  have h0 : Blk (w.setCell ⟨g, 0, none⟩ x0) g #[x0, c1, c2] t := h.set 0 x0
  have h1 : Blk ((w.setCell ⟨g, 0, none⟩ x0).setCell ⟨g, 1, none⟩ x1) g #[x0, x1, c2] t := h0.set 1 x1
  have h2 : Blk (((w.setCell ⟨g, 0, none⟩ x0).setCell ⟨g, 1, none⟩ x1).setCell ⟨g, 2, none⟩ x2) g #[x0, x1, x2] t := h1.set 2 x2
  exact h2
theorem Blk.off3 {w : World} {g g' t : Nat} {cs : Array Value} (h : Blk w g' cs t) (hne : g ≠ g') (x0 x1 x2 : Value) : Blk (((w.setCell ⟨g, 0, none⟩ x0).setCell ⟨g, 1, none⟩ x1).setCell ⟨g, 2, none⟩ x2) g' cs t := (((h.other hne 0 x0).other hne 1 x1).other hne 2 x2)
theorem Below.put3 {B g : Nat} {a w : World} (h : Below B a w) (hB : B ≤ g) (x0 x1 x2 : Value) : Below B a (((w.setCell ⟨g, 0, none⟩ x0).setCell ⟨g, 1, none⟩ x1).setCell ⟨g, 2, none⟩ x2) := (Below.set (Below.set (Below.set h hB 0 x0) hB 1 x1) hB 2 x2)
theorem Stays.put3 {w : World} {g t : Nat} {cs : Array Value} (h0 : Blk w g cs t) (a0 : cs.all notLimb = true) (x0 x1 x2 : Value) (k0 : notLimb x0 = true) (k1 : notLimb x1 = true) (k2 : notLimb x2 = true) : Stays w (((w.setCell ⟨g, 0, none⟩ x0).setCell ⟨g, 1, none⟩ x1).setCell ⟨g, 2, none⟩ x2) := by
  have h1 := h0.set 0 x0
  have a1 := all_set a0 0 k0
  have h2 := h1.set 1 x1
  have a2 := all_set a1 1 k1
  have h3 := h2.set 2 x2
  have a3 := all_set a2 2 k2
  exact (((Stays.set h0 a0 0 x0).trans (Stays.set h1 a1 1 x1)).trans (Stays.set h2 a2 2 x2))

theorem Blk.all6 {w : World} {g : Nat} {c0 c1 c2 c3 c4 c5 : Value} {t : TypeId} (h : Blk w g #[c0, c1, c2, c3, c4, c5] t) : w.cell? ⟨g, 0, none⟩ = some c0 ∧ w.cell? ⟨g, 1, none⟩ = some c1 ∧ w.cell? ⟨g, 2, none⟩ = some c2 ∧ w.cell? ⟨g, 3, none⟩ = some c3 ∧ w.cell? ⟨g, 4, none⟩ = some c4 ∧ w.cell? ⟨g, 5, none⟩ = some c5 ∧ w.frozen? ⟨g, 0, none⟩ = false ∧ w.frozen? ⟨g, 1, none⟩ = false ∧ w.frozen? ⟨g, 2, none⟩ = false ∧ w.frozen? ⟨g, 3, none⟩ = false ∧ w.frozen? ⟨g, 4, none⟩ = false ∧ w.frozen? ⟨g, 5, none⟩ = false :=
  ⟨h.cell 0, h.cell 1, h.cell 2, h.cell 3, h.cell 4, h.cell 5, h.frozen 0, h.frozen 1, h.frozen 2, h.frozen 3, h.frozen 4, h.frozen 5⟩
theorem Blk.put6 {w : World} {g : Nat} {c0 c1 c2 c3 c4 c5 : Value} {t : TypeId} (h : Blk w g #[c0, c1, c2, c3, c4, c5] t) (x0 x1 x2 x3 x4 x5 : Value) : Blk ((((((w.setCell ⟨g, 0, none⟩ x0).setCell ⟨g, 1, none⟩ x1).setCell ⟨g, 2, none⟩ x2).setCell ⟨g, 3, none⟩ x3).setCell ⟨g, 4, none⟩ x4).setCell ⟨g, 5, none⟩ x5) g #[x0, x1, x2, x3, x4, x5] t := by
  have h0 : Blk (w.setCell ⟨g, 0, none⟩ x0) g #[x0, c1, c2, c3, c4, c5] t := h.set 0 x0
  have h1 : Blk ((w.setCell ⟨g, 0, none⟩ x0).setCell ⟨g, 1, none⟩ x1) g #[x0, x1, c2, c3, c4, c5] t := h0.set 1 x1
  have h2 : Blk (((w.setCell ⟨g, 0, none⟩ x0).setCell ⟨g, 1, none⟩ x1).setCell ⟨g, 2, none⟩ x2) g #[x0, x1, x2, c3, c4, c5] t := h1.set 2 x2
  have h3 : Blk ((((w.setCell ⟨g, 0, none⟩ x0).setCell ⟨g, 1, none⟩ x1).setCell ⟨g, 2, none⟩ x2).setCell ⟨g, 3, none⟩ x3) g #[x0, x1, x2, x3, c4, c5] t := h2.set 3 x3
  have h4 : Blk (((((w.setCell ⟨g, 0, none⟩ x0).setCell ⟨g, 1, none⟩ x1).setCell ⟨g, 2, none⟩ x2).setCell ⟨g, 3, none⟩ x3).setCell ⟨g, 4, none⟩ x4) g #[x0, x1, x2, x3, x4, c5] t := h3.set 4 x4
  have h5 : Blk ((((((w.setCell ⟨g, 0, none⟩ x0).setCell ⟨g, 1, none⟩ x1).setCell ⟨g, 2, none⟩ x2).setCell ⟨g, 3, none⟩ x3).setCell ⟨g, 4, none⟩ x4).setCell ⟨g, 5, none⟩ x5) g #[x0, x1, x2, x3, x4, x5] t := h4.set 5 x5
  exact h5
theorem Blk.off6 {w : World} {g g' t : Nat} {cs : Array Value} (h : Blk w g' cs t) (hne : g ≠ g') (x0 x1 x2 x3 x4 x5 : Value) : Blk ((((((w.setCell ⟨g, 0, none⟩ x0).setCell ⟨g, 1, none⟩ x1).setCell ⟨g, 2, none⟩ x2).setCell ⟨g, 3, none⟩ x3).setCell ⟨g, 4, none⟩ x4).setCell ⟨g, 5, none⟩ x5) g' cs t := ((((((h.other hne 0 x0).other hne 1 x1).other hne 2 x2).other hne 3 x3).other hne 4 x4).other hne 5 x5)
theorem Below.put6 {B g : Nat} {a w : World} (h : Below B a w) (hB : B ≤ g) (x0 x1 x2 x3 x4 x5 : Value) : Below B a ((((((w.setCell ⟨g, 0, none⟩ x0).setCell ⟨g, 1, none⟩ x1).setCell ⟨g, 2, none⟩ x2).setCell ⟨g, 3, none⟩ x3).setCell ⟨g, 4, none⟩ x4).setCell ⟨g, 5, none⟩ x5) := (Below.set (Below.set (Below.set (Below.set (Below.set (Below.set h hB 0 x0) hB 1 x1) hB 2 x2) hB 3 x3) hB 4 x4) hB 5 x5)
theorem Stays.put6 {w : World} {g t : Nat} {cs : Array Value} (h0 : Blk w g cs t) (a0 : cs.all notLimb = true) (x0 x1 x2 x3 x4 x5 : Value) (k0 : notLimb x0 = true) (k1 : notLimb x1 = true) (k2 : notLimb x2 = true) (k3 : notLimb x3 = true) (k4 : notLimb x4 = true) (k5 : notLimb x5 = true) : Stays w ((((((w.setCell ⟨g, 0, none⟩ x0).setCell ⟨g, 1, none⟩ x1).setCell ⟨g, 2, none⟩ x2).setCell ⟨g, 3, none⟩ x3).setCell ⟨g, 4, none⟩ x4).setCell ⟨g, 5, none⟩ x5) := by
  have h1 := h0.set 0 x0
  have a1 := all_set a0 0 k0
  have h2 := h1.set 1 x1
  have a2 := all_set a1 1 k1
  have h3 := h2.set 2 x2
  have a3 := all_set a2 2 k2
  have h4 := h3.set 3 x3
  have a4 := all_set a3 3 k3
  have h5 := h4.set 4 x4
  have a5 := all_set a4 4 k4
  have h6 := h5.set 5 x5
  have a6 := all_set a5 5 k5
  exact ((((((Stays.set h0 a0 0 x0).trans (Stays.set h1 a1 1 x1)).trans (Stays.set h2 a2 2 x2)).trans (Stays.set h3 a3 3 x3)).trans (Stays.set h4 a4 4 x4)).trans (Stays.set h5 a5 5 x5))

theorem Blk.all9 {w : World} {g : Nat} {c0 c1 c2 c3 c4 c5 c6 c7 c8 : Value} {t : TypeId} (h : Blk w g #[c0, c1, c2, c3, c4, c5, c6, c7, c8] t) : w.cell? ⟨g, 0, none⟩ = some c0 ∧ w.cell? ⟨g, 1, none⟩ = some c1 ∧ w.cell? ⟨g, 2, none⟩ = some c2 ∧ w.cell? ⟨g, 3, none⟩ = some c3 ∧ w.cell? ⟨g, 4, none⟩ = some c4 ∧ w.cell? ⟨g, 5, none⟩ = some c5 ∧ w.cell? ⟨g, 6, none⟩ = some c6 ∧ w.cell? ⟨g, 7, none⟩ = some c7 ∧ w.cell? ⟨g, 8, none⟩ = some c8 ∧ w.frozen? ⟨g, 0, none⟩ = false ∧ w.frozen? ⟨g, 1, none⟩ = false ∧ w.frozen? ⟨g, 2, none⟩ = false ∧ w.frozen? ⟨g, 3, none⟩ = false ∧ w.frozen? ⟨g, 4, none⟩ = false ∧ w.frozen? ⟨g, 5, none⟩ = false ∧ w.frozen? ⟨g, 6, none⟩ = false ∧ w.frozen? ⟨g, 7, none⟩ = false ∧ w.frozen? ⟨g, 8, none⟩ = false :=
  ⟨h.cell 0, h.cell 1, h.cell 2, h.cell 3, h.cell 4, h.cell 5, h.cell 6, h.cell 7, h.cell 8, h.frozen 0, h.frozen 1, h.frozen 2, h.frozen 3, h.frozen 4, h.frozen 5, h.frozen 6, h.frozen 7, h.frozen 8⟩
theorem Blk.put9 {w : World} {g : Nat} {c0 c1 c2 c3 c4 c5 c6 c7 c8 : Value} {t : TypeId} (h : Blk w g #[c0, c1, c2, c3, c4, c5, c6, c7, c8] t) (x0 x1 x2 x3 x4 x5 x6 x7 x8 : Value) : Blk (((((((((w.setCell ⟨g, 0, none⟩ x0).setCell ⟨g, 1, none⟩ x1).setCell ⟨g, 2, none⟩ x2).setCell ⟨g, 3, none⟩ x3).setCell ⟨g, 4, none⟩ x4).setCell ⟨g, 5, none⟩ x5).setCell ⟨g, 6, none⟩ x6).setCell ⟨g, 7, none⟩ x7).setCell ⟨g, 8, none⟩ x8) g #[x0, x1, x2, x3, x4, x5, x6, x7, x8] t := by
  have h0 : Blk (w.setCell ⟨g, 0, none⟩ x0) g #[x0, c1, c2, c3, c4, c5, c6, c7, c8] t := h.set 0 x0
  have h1 : Blk ((w.setCell ⟨g, 0, none⟩ x0).setCell ⟨g, 1, none⟩ x1) g #[x0, x1, c2, c3, c4, c5, c6, c7, c8] t := h0.set 1 x1
  have h2 : Blk (((w.setCell ⟨g, 0, none⟩ x0).setCell ⟨g, 1, none⟩ x1).setCell ⟨g, 2, none⟩ x2) g #[x0, x1, x2, c3, c4, c5, c6, c7, c8] t := h1.set 2 x2
  have h3 : Blk ((((w.setCell ⟨g, 0, none⟩ x0).setCell ⟨g, 1, none⟩ x1).setCell ⟨g, 2, none⟩ x2).setCell ⟨g, 3, none⟩ x3) g #[x0, x1, x2, x3, c4, c5, c6, c7, c8] t := h2.set 3 x3
  have h4 : Blk (((((w.setCell ⟨g, 0, none⟩ x0).setCell ⟨g, 1, none⟩ x1).setCell ⟨g, 2, none⟩ x2).setCell ⟨g, 3, none⟩ x3).setCell ⟨g, 4, none⟩ x4) g #[x0, x1, x2, x3, x4, c5, c6, c7, c8] t := h3.set 4 x4
  have h5 : Blk ((((((w.setCell ⟨g, 0, none⟩ x0).setCell ⟨g, 1, none⟩ x1).setCell ⟨g, 2, none⟩ x2).setCell ⟨g, 3, none⟩ x3).setCell ⟨g, 4, none⟩ x4).setCell ⟨g, 5, none⟩ x5) g #[x0, x1, x2, x3, x4, x5, c6, c7, c8] t := h4.set 5 x5
  have h6 : Blk (((((((w.setCell ⟨g, 0, none⟩ x0).setCell ⟨g, 1, none⟩ x1).setCell ⟨g, 2, none⟩ x2).setCell ⟨g, 3, none⟩ x3).setCell ⟨g, 4, none⟩ x4).setCell ⟨g, 5, none⟩ x5).setCell ⟨g, 6, none⟩ x6) g #[x0, x1, x2, x3, x4, x5, x6, c7, c8] t := h5.set 6 x6
  have h7 : Blk ((((((((w.setCell ⟨g, 0, none⟩ x0).setCell ⟨g, 1, none⟩ x1).setCell ⟨g, 2, none⟩ x2).setCell ⟨g, 3, none⟩ x3).setCell ⟨g, 4, none⟩ x4).setCell ⟨g, 5, none⟩ x5).setCell ⟨g, 6, none⟩ x6).setCell ⟨g, 7, none⟩ x7) g #[x0, x1, x2, x3, x4, x5, x6, x7, c8] t := h6.set 7 x7
  have h8 : Blk (((((((((w.setCell ⟨g, 0, none⟩ x0).setCell ⟨g, 1, none⟩ x1).setCell ⟨g, 2, none⟩ x2).setCell ⟨g, 3, none⟩ x3).setCell ⟨g, 4, none⟩ x4).setCell ⟨g, 5, none⟩ x5).setCell ⟨g, 6, none⟩ x6).setCell ⟨g, 7, none⟩ x7).setCell ⟨g, 8, none⟩ x8) g #[x0, x1, x2, x3, x4, x5, x6, x7, x8] t := h7.set 8 x8
  exact h8
theorem Blk.off9 {w : World} {g g' t : Nat} {cs : Array Value} (h : Blk w g' cs t) (hne : g ≠ g') (x0 x1 x2 x3 x4 x5 x6 x7 x8 : Value) : Blk (((((((((w.setCell ⟨g, 0, none⟩ x0).setCell ⟨g, 1, none⟩ x1).setCell ⟨g, 2, none⟩ x2).setCell ⟨g, 3, none⟩ x3).setCell ⟨g, 4, none⟩ x4).setCell ⟨g, 5, none⟩ x5).setCell ⟨g, 6, none⟩ x6).setCell ⟨g, 7, none⟩ x7).setCell ⟨g, 8, none⟩ x8) g' cs t := (((((((((h.other hne 0 x0).other hne 1 x1).other hne 2 x2).other hne 3 x3).other hne 4 x4).other hne 5 x5).other hne 6 x6).other hne 7 x7).other hne 8 x8)
theorem Below.put9 {B g : Nat} {a w : World} (h : Below B a w) (hB : B ≤ g) (x0 x1 x2 x3 x4 x5 x6 x7 x8 : Value) : Below B a (((((((((w.setCell ⟨g, 0, none⟩ x0).setCell ⟨g, 1, none⟩ x1).setCell ⟨g, 2, none⟩ x2).setCell ⟨g, 3, none⟩ x3).setCell ⟨g, 4, none⟩ x4).setCell ⟨g, 5, none⟩ x5).setCell ⟨g, 6, none⟩ x6).setCell ⟨g, 7, none⟩ x7).setCell ⟨g, 8, none⟩ x8) := (Below.set (Below.set (Below.set (Below.set (Below.set (Below.set (Below.set (Below.set (Below.set h hB 0 x0) hB 1 x1) hB 2 x2) hB 3 x3) hB 4 x4) hB 5 x5) hB 6 x6) hB 7 x7) hB 8 x8)
theorem Stays.put9 {w : World} {g t : Nat} {cs : Array Value} (h0 : Blk w g cs t) (a0 : cs.all notLimb = true) (x0 x1 x2 x3 x4 x5 x6 x7 x8 : Value) (k0 : notLimb x0 = true) (k1 : notLimb x1 = true) (k2 : notLimb x2 = true) (k3 : notLimb x3 = true) (k4 : notLimb x4 = true) (k5 : notLimb x5 = true) (k6 : notLimb x6 = true) (k7 : notLimb x7 = true) (k8 : notLimb x8 = true) : Stays w (((((((((w.setCell ⟨g, 0, none⟩ x0).setCell ⟨g, 1, none⟩ x1).setCell ⟨g, 2, none⟩ x2).setCell ⟨g, 3, none⟩ x3).setCell ⟨g, 4, none⟩ x4).setCell ⟨g, 5, none⟩ x5).setCell ⟨g, 6, none⟩ x6).setCell ⟨g, 7, none⟩ x7).setCell ⟨g, 8, none⟩ x8) := by
  have h1 := h0.set 0 x0
  have a1 := all_set a0 0 k0
  have h2 := h1.set 1 x1
  have a2 := all_set a1 1 k1
  have h3 := h2.set 2 x2
  have a3 := all_set a2 2 k2
  have h4 := h3.set 3 x3
  have a4 := all_set a3 3 k3
  have h5 := h4.set 4 x4
  have a5 := all_set a4 4 k4
  have h6 := h5.set 5 x5
  have a6 := all_set a5 5 k5
  have h7 := h6.set 6 x6
  have a7 := all_set a6 6 k6
  have h8 := h7.set 7 x7
  have a8 := all_set a7 7 k7
  have h9 := h8.set 8 x8
  have a9 := all_set a8 8 k8
  exact (((((((((Stays.set h0 a0 0 x0).trans (Stays.set h1 a1 1 x1)).trans (Stays.set h2 a2 2 x2)).trans (Stays.set h3 a3 3 x3)).trans (Stays.set h4 a4 4 x4)).trans (Stays.set h5 a5 5 x5)).trans (Stays.set h6 a6 6 x6)).trans (Stays.set h7 a7 7 x7)).trans (Stays.set h8 a8 8 x8))

theorem boxes1 (w : World) (s0 : Array Value) (t0 : TypeId) :
    Below w.heap.size w (w.alloc (.cells s0 t0)) ∧ Blk (w.alloc (.cells s0 t0)) (w.heap.size) s0 t0 ∧ (w.alloc (.cells s0 t0)).heap.size = w.heap.size + 1 := by
  have b0 : Blk (w.alloc (.cells s0 t0)) (w.heap.size) s0 t0 := by simpa using Blk.new w s0 t0
  exact ⟨(below_new w _), b0, by simp⟩

theorem boxes2 (w : World) (s0 s1 : Array Value) (t0 t1 : TypeId) :
    Below w.heap.size w ((w.alloc (.cells s0 t0)).alloc (.cells s1 t1)) ∧ Blk ((w.alloc (.cells s0 t0)).alloc (.cells s1 t1)) (w.heap.size) s0 t0 ∧ Blk ((w.alloc (.cells s0 t0)).alloc (.cells s1 t1)) (w.heap.size + 1) s1 t1 ∧ ((w.alloc (.cells s0 t0)).alloc (.cells s1 t1)).heap.size = w.heap.size + 1 + 1 := by
  have b0 : Blk (w.alloc (.cells s0 t0)) (w.heap.size) s0 t0 := by simpa using Blk.new w s0 t0
  have b1 : Blk ((w.alloc (.cells s0 t0)).alloc (.cells s1 t1)) (w.heap.size + 1) s1 t1 := by simpa using Blk.new (w.alloc (.cells s0 t0)) s1 t1
  have b0 := b0.below (below_new (w.alloc (.cells s0 t0)) (.cells s1 t1)) (by simp; try omega)
  exact ⟨((below_new w _).alloc (by simp; try omega) _), b0, b1, by simp⟩

theorem boxes3 (w : World) (s0 s1 s2 : Array Value) (t0 t1 t2 : TypeId) :
    Below w.heap.size w (((w.alloc (.cells s0 t0)).alloc (.cells s1 t1)).alloc (.cells s2 t2)) ∧ Blk (((w.alloc (.cells s0 t0)).alloc (.cells s1 t1)).alloc (.cells s2 t2)) (w.heap.size) s0 t0 ∧ Blk (((w.alloc (.cells s0 t0)).alloc (.cells s1 t1)).alloc (.cells s2 t2)) (w.heap.size + 1) s1 t1 ∧ Blk (((w.alloc (.cells s0 t0)).alloc (.cells s1 t1)).alloc (.cells s2 t2)) (w.heap.size + 1 + 1) s2 t2 ∧ (((w.alloc (.cells s0 t0)).alloc (.cells s1 t1)).alloc (.cells s2 t2)).heap.size = w.heap.size + 1 + 1 + 1 := by
  have b0 : Blk (w.alloc (.cells s0 t0)) (w.heap.size) s0 t0 := by simpa using Blk.new w s0 t0
  have b1 : Blk ((w.alloc (.cells s0 t0)).alloc (.cells s1 t1)) (w.heap.size + 1) s1 t1 := by simpa using Blk.new (w.alloc (.cells s0 t0)) s1 t1
  have b0 := b0.below (below_new (w.alloc (.cells s0 t0)) (.cells s1 t1)) (by simp; try omega)
  have b2 : Blk (((w.alloc (.cells s0 t0)).alloc (.cells s1 t1)).alloc (.cells s2 t2)) (w.heap.size + 1 + 1) s2 t2 := by simpa using Blk.new ((w.alloc (.cells s0 t0)).alloc (.cells s1 t1)) s2 t2
  have b0 := b0.below (below_new ((w.alloc (.cells s0 t0)).alloc (.cells s1 t1)) (.cells s2 t2)) (by simp; try omega)
  have b1 := b1.below (below_new ((w.alloc (.cells s0 t0)).alloc (.cells s1 t1)) (.cells s2 t2)) (by simp; try omega)
  exact ⟨(((below_new w _).alloc (by simp; try omega) _).alloc (by simp; try omega) _), b0, b1, b2, by simp⟩

theorem boxes4 (w : World) (s0 s1 s2 s3 : Array Value) (t0 t1 t2 t3 : TypeId) :
    Below w.heap.size w ((((w.alloc (.cells s0 t0)).alloc (.cells s1 t1)).alloc (.cells s2 t2)).alloc (.cells s3 t3)) ∧ Blk ((((w.alloc (.cells s0 t0)).alloc (.cells s1 t1)).alloc (.cells s2 t2)).alloc (.cells s3 t3)) (w.heap.size) s0 t0 ∧ Blk ((((w.alloc (.cells s0 t0)).alloc (.cells s1 t1)).alloc (.cells s2 t2)).alloc (.cells s3 t3)) (w.heap.size + 1) s1 t1 ∧ Blk ((((w.alloc (.cells s0 t0)).alloc (.cells s1 t1)).alloc (.cells s2 t2)).alloc (.cells s3 t3)) (w.heap.size + 1 + 1) s2 t2 ∧ Blk ((((w.alloc (.cells s0 t0)).alloc (.cells s1 t1)).alloc (.cells s2 t2)).alloc (.cells s3 t3)) (w.heap.size + 1 + 1 + 1) s3 t3 ∧ ((((w.alloc (.cells s0 t0)).alloc (.cells s1 t1)).alloc (.cells s2 t2)).alloc (.cells s3 t3)).heap.size = w.heap.size + 1 + 1 + 1 + 1 := by
  have b0 : Blk (w.alloc (.cells s0 t0)) (w.heap.size) s0 t0 := by simpa using Blk.new w s0 t0
  have b1 : Blk ((w.alloc (.cells s0 t0)).alloc (.cells s1 t1)) (w.heap.size + 1) s1 t1 := by simpa using Blk.new (w.alloc (.cells s0 t0)) s1 t1
  have b0 := b0.below (below_new (w.alloc (.cells s0 t0)) (.cells s1 t1)) (by simp; try omega)
  have b2 : Blk (((w.alloc (.cells s0 t0)).alloc (.cells s1 t1)).alloc (.cells s2 t2)) (w.heap.size + 1 + 1) s2 t2 := by simpa using Blk.new ((w.alloc (.cells s0 t0)).alloc (.cells s1 t1)) s2 t2
  have b0 := b0.below (below_new ((w.alloc (.cells s0 t0)).alloc (.cells s1 t1)) (.cells s2 t2)) (by simp; try omega)
  have b1 := b1.below (below_new ((w.alloc (.cells s0 t0)).alloc (.cells s1 t1)) (.cells s2 t2)) (by simp; try omega)
  have b3 : Blk ((((w.alloc (.cells s0 t0)).alloc (.cells s1 t1)).alloc (.cells s2 t2)).alloc (.cells s3 t3)) (w.heap.size + 1 + 1 + 1) s3 t3 := by simpa using Blk.new (((w.alloc (.cells s0 t0)).alloc (.cells s1 t1)).alloc (.cells s2 t2)) s3 t3
  have b0 := b0.below (below_new (((w.alloc (.cells s0 t0)).alloc (.cells s1 t1)).alloc (.cells s2 t2)) (.cells s3 t3)) (by simp; try omega)
  have b1 := b1.below (below_new (((w.alloc (.cells s0 t0)).alloc (.cells s1 t1)).alloc (.cells s2 t2)) (.cells s3 t3)) (by simp; try omega)
  have b2 := b2.below (below_new (((w.alloc (.cells s0 t0)).alloc (.cells s1 t1)).alloc (.cells s2 t2)) (.cells s3 t3)) (by simp; try omega)
  exact ⟨((((below_new w _).alloc (by simp; try omega) _).alloc (by simp; try omega) _).alloc (by simp; try omega) _), b0, b1, b2, b3, by simp⟩

theorem boxes5 (w : World) (s0 s1 s2 s3 s4 : Array Value) (t0 t1 t2 t3 t4 : TypeId) :
    Below w.heap.size w (((((w.alloc (.cells s0 t0)).alloc (.cells s1 t1)).alloc (.cells s2 t2)).alloc (.cells s3 t3)).alloc (.cells s4 t4)) ∧ Blk (((((w.alloc (.cells s0 t0)).alloc (.cells s1 t1)).alloc (.cells s2 t2)).alloc (.cells s3 t3)).alloc (.cells s4 t4)) (w.heap.size) s0 t0 ∧ Blk (((((w.alloc (.cells s0 t0)).alloc (.cells s1 t1)).alloc (.cells s2 t2)).alloc (.cells s3 t3)).alloc (.cells s4 t4)) (w.heap.size + 1) s1 t1 ∧ Blk (((((w.alloc (.cells s0 t0)).alloc (.cells s1 t1)).alloc (.cells s2 t2)).alloc (.cells s3 t3)).alloc (.cells s4 t4)) (w.heap.size + 1 + 1) s2 t2 ∧ Blk (((((w.alloc (.cells s0 t0)).alloc (.cells s1 t1)).alloc (.cells s2 t2)).alloc (.cells s3 t3)).alloc (.cells s4 t4)) (w.heap.size + 1 + 1 + 1) s3 t3 ∧ Blk (((((w.alloc (.cells s0 t0)).alloc (.cells s1 t1)).alloc (.cells s2 t2)).alloc (.cells s3 t3)).alloc (.cells s4 t4)) (w.heap.size + 1 + 1 + 1 + 1) s4 t4 ∧ (((((w.alloc (.cells s0 t0)).alloc (.cells s1 t1)).alloc (.cells s2 t2)).alloc (.cells s3 t3)).alloc (.cells s4 t4)).heap.size = w.heap.size + 1 + 1 + 1 + 1 + 1 := by
  have b0 : Blk (w.alloc (.cells s0 t0)) (w.heap.size) s0 t0 := by simpa using Blk.new w s0 t0
  have b1 : Blk ((w.alloc (.cells s0 t0)).alloc (.cells s1 t1)) (w.heap.size + 1) s1 t1 := by simpa using Blk.new (w.alloc (.cells s0 t0)) s1 t1
  have b0 := b0.below (below_new (w.alloc (.cells s0 t0)) (.cells s1 t1)) (by simp; try omega)
  have b2 : Blk (((w.alloc (.cells s0 t0)).alloc (.cells s1 t1)).alloc (.cells s2 t2)) (w.heap.size + 1 + 1) s2 t2 := by simpa using Blk.new ((w.alloc (.cells s0 t0)).alloc (.cells s1 t1)) s2 t2
  have b0 := b0.below (below_new ((w.alloc (.cells s0 t0)).alloc (.cells s1 t1)) (.cells s2 t2)) (by simp; try omega)
  have b1 := b1.below (below_new ((w.alloc (.cells s0 t0)).alloc (.cells s1 t1)) (.cells s2 t2)) (by simp; try omega)
  have b3 : Blk ((((w.alloc (.cells s0 t0)).alloc (.cells s1 t1)).alloc (.cells s2 t2)).alloc (.cells s3 t3)) (w.heap.size + 1 + 1 + 1) s3 t3 := by simpa using Blk.new (((w.alloc (.cells s0 t0)).alloc (.cells s1 t1)).alloc (.cells s2 t2)) s3 t3
  have b0 := b0.below (below_new (((w.alloc (.cells s0 t0)).alloc (.cells s1 t1)).alloc (.cells s2 t2)) (.cells s3 t3)) (by simp; try omega)
  have b1 := b1.below (below_new (((w.alloc (.cells s0 t0)).alloc (.cells s1 t1)).alloc (.cells s2 t2)) (.cells s3 t3)) (by simp; try omega)
  have b2 := b2.below (below_new (((w.alloc (.cells s0 t0)).alloc (.cells s1 t1)).alloc (.cells s2 t2)) (.cells s3 t3)) (by simp; try omega)
  have b4 : Blk (((((w.alloc (.cells s0 t0)).alloc (.cells s1 t1)).alloc (.cells s2 t2)).alloc (.cells s3 t3)).alloc (.cells s4 t4)) (w.heap.size + 1 + 1 + 1 + 1) s4 t4 := by simpa using Blk.new ((((w.alloc (.cells s0 t0)).alloc (.cells s1 t1)).alloc (.cells s2 t2)).alloc (.cells s3 t3)) s4 t4
  have b0 := b0.below (below_new ((((w.alloc (.cells s0 t0)).alloc (.cells s1 t1)).alloc (.cells s2 t2)).alloc (.cells s3 t3)) (.cells s4 t4)) (by simp; try omega)
  have b1 := b1.below (below_new ((((w.alloc (.cells s0 t0)).alloc (.cells s1 t1)).alloc (.cells s2 t2)).alloc (.cells s3 t3)) (.cells s4 t4)) (by simp; try omega)
  have b2 := b2.below (below_new ((((w.alloc (.cells s0 t0)).alloc (.cells s1 t1)).alloc (.cells s2 t2)).alloc (.cells s3 t3)) (.cells s4 t4)) (by simp; try omega)
  have b3 := b3.below (below_new ((((w.alloc (.cells s0 t0)).alloc (.cells s1 t1)).alloc (.cells s2 t2)).alloc (.cells s3 t3)) (.cells s4 t4)) (by simp; try omega)
  exact ⟨(((((below_new w _).alloc (by simp; try omega) _).alloc (by simp; try omega) _).alloc (by simp; try omega) _).alloc (by simp; try omega) _), b0, b1, b2, b3, b4, by simp⟩

end Go.Proofs.YtllmfakelodpiaaGreatDoor
/- Walks of package num: texts: (num.Q).Text. -/
namespace Go.Proofs.YtllmfakelodpiaaGreatDoor
open Go.RowKit Cx

attribute [local go_sem ↓] Go.wp_at_zero Go.wp_at_succ

set_option maxHeartbeats 4000000 in
set_option maxRecDepth 100000 in
theorem text_walk {w : World} {c : C3} {q : Rat} (h : QV w (.agg #[.bool c.n, .slice c.u c.nu c.cu, .slice c.l c.nl c.cl]) q) {k : Nat} (f : QS k q) (hk : k ≤ 35184372088640) (tab : Tab w) :
    Calls Tryz.prog 34 #[.agg #[.bool c.n, .slice c.u c.nu c.cu, .slice c.l c.nl c.cl]] w fun e w' => Below w.heap.size w w' ∧ ∃ s : ByteArray, e = .returned (.string s) ∧ s.data.toList = tx q := by
  obtain ⟨hb0, hk0, hsz⟩ := boxes1 w #[.bool c.n, .slice c.u c.nu c.cu, .slice c.l c.nl c.cl] 39
  have HB0 := hideIt hb0
  have HSZ := hideIt hsz
  have HK0 := hideIt hk0
  have HTAB := hideIt (tab.below hb0)
  have SU := hideIt (small_two f.num hk)
  have SL := hideIt (small_two f.den hk)
  have N1 := hideIt (nDigits_two f.num)
  have N2 := hideIt (nDigits_two f.den)
  obtain ⟨vu, vl, e, h1, h2⟩ := h
  have H1 := hideIt (h1.below hb0)
  have H2 := hideIt (h2.below hb0)
  obtain ⟨a2, n2, c2, e2, _, _, hz⟩ := len_big h2
  have hn : c.n = decide (q.num < 0) ∧ vu = .slice c.u c.nu c.cu ∧ vl = .slice c.l c.nl c.cl := by
    simp only [Value.agg.injEq, Array.mk.injEq, List.cons.injEq, Value.bool.injEq, and_true] at e
    exact ⟨e.1, e.2.1.symm, e.2.2.symm⟩
  obtain ⟨hn, rfl, rfl⟩ := hn
  cases e2
  clear e hb0 hsz hk0 tab f h1 h2
  obtain ⟨z0, z1, z2, _, _, _⟩ := HK0.out.all3
  have HN := hideIt hn
  have hlow : Hid (c.nl = 0 ↔ q.den = 1) := by
    show _ ↔ _
    rw [hz]
    split
    · rename_i h; simp [h]
    · rename_i h; have := q.den_nz; simp [h, this]
  clear hz hn
  go_enter Tryz.func34, Tryz.ntmps34
  go_wp2_with fail
  generalize (w.alloc (.cells #[.bool c.n, .slice c.u c.nu c.cu, .slice c.l c.nl c.cl] 39)) = W0 at *
  refine (natText_calls H1.out SU.out HTAB.out).mono ?_
  rintro e w1 ⟨hb1, s1, rfl, hs1⟩
  have hl1 : s1.size ≤ k + 1 := by
    have h := congrArg List.length hs1
    rw [Lib.decDigits_length] at h
    have h' : s1.size = s1.data.toList.length := by simp
    have := N1.out
    omega
  have HS1 := hideIt hs1
  clear hs1
  have hk1 := HK0.out.below hb1 (by rw [HSZ.out]; omega)
  obtain ⟨y0, y1, y2, _, _, _⟩ := hk1.all3
  have hcn : c.n = true ∨ c.n = false := by cases c.n <;> simp
  have hcl : c.nl = 0 ∨ ((c.nl : Int) != 0) = true := by
    rcases Nat.eq_zero_or_pos c.nl with h | h
    · exact Or.inl h
    · right; simp; omega
  rcases hcn with hcn | hcn
  · have hq : Hid (q.num < 0) := by have h := HN.out; rw [hcn] at h; show q.num < 0; exact of_decide_eq_true h.symm
    rw [hcn] at y0
    rcases hcl with hcl | hcl
    · have hd : Hid (q.den = 1) := hlow.out.1 hcl
      rw [hcl] at y2
      go_wp2
      go_ret
      refine ⟨HB0.out.trans (hb1.mono HB0.out.size), _, rfl, ?_⟩
      unfold tx
      rw [if_pos hq.out, if_pos hd.out, List.append_nil, ← HS1.out]
      simp
    · have hd : Hid (¬ q.den = 1) := fun e => by have := hlow.out.2 e; rw [this] at hcl; simp at hcl
      have h2 := H2.out
      rw [if_neg hd.out] at h2
      have H2' := hideIt h2
      clear h2
      go_wp2_with fail
      refine (natText_calls (H2'.out.below hb1) SL.out (HTAB.out.below hb1)).mono ?_
      rintro e w2 ⟨hb2, s2, rfl, hs2⟩
      have hl2 : s2.size ≤ k + 1 := by
        have h := congrArg List.length hs2
        rw [Lib.decDigits_length] at h
        have h' : s2.size = s2.data.toList.length := by simp
        have := N2.out
        omega
      have HS2 := hideIt hs2
      clear hs2
      go_wp2
      go_ret
      refine ⟨HB0.out.trans ((hb1.trans (hb2.mono hb1.size)).mono HB0.out.size), _, rfl, ?_⟩
      unfold tx
      rw [if_pos hq.out, if_neg hd.out, ← HS1.out, ← HS2.out]
      simp
  · have hq : Hid (¬ q.num < 0) := by have h := HN.out; rw [hcn] at h; show ¬ q.num < 0; exact of_decide_eq_false h.symm
    rw [hcn] at y0
    rcases hcl with hcl | hcl
    · have hd : Hid (q.den = 1) := hlow.out.1 hcl
      rw [hcl] at y2
      go_wp2
      go_ret
      refine ⟨HB0.out.trans (hb1.mono HB0.out.size), _, rfl, ?_⟩
      unfold tx
      rw [if_neg (Int.not_lt.2 hq.out), if_pos hd.out, List.append_nil, ← HS1.out]
      rfl
    · have hd : Hid (¬ q.den = 1) := fun e => by have := hlow.out.2 e; rw [this] at hcl; simp at hcl
      have h2 := H2.out
      rw [if_neg hd.out] at h2
      have H2' := hideIt h2
      clear h2
      go_wp2_with fail
      refine (natText_calls (H2'.out.below hb1) SL.out (HTAB.out.below hb1)).mono ?_
      rintro e w2 ⟨hb2, s2, rfl, hs2⟩
      have hl2 : s2.size ≤ k + 1 := by
        have h := congrArg List.length hs2
        rw [Lib.decDigits_length] at h
        have h' : s2.size = s2.data.toList.length := by simp
        have := N2.out
        omega
      have HS2 := hideIt hs2
      clear hs2
      go_wp2
      go_ret
      refine ⟨HB0.out.trans ((hb1.trans (hb2.mono hb1.size)).mono HB0.out.size), _, rfl, ?_⟩
      unfold tx
      rw [if_neg (Int.not_lt.2 hq.out), if_neg hd.out, ← HS1.out, ← HS2.out]
      simp

/-- Text: a fraction as it is answered. -/
theorem text_calls {w : World} {v : Value} {q : Rat} (h : QV w v q) {k : Nat} (f : QS k q) (hk : k ≤ 35184372088640) (tab : Tab w) :
    Calls Tryz.prog 34 #[v] w fun e w' => Below w.heap.size w w' ∧ ∃ s : ByteArray, e = .returned (.string s) ∧ s.data.toList = tx q := by
  obtain ⟨c, rfl⟩ := qv_open h
  exact text_walk h f hk tab
end Go.Proofs.YtllmfakelodpiaaGreatDoor
/- Walks of package way: Plus, Minus, Times, Over, Left, Cross. -/
namespace Go.Proofs.YtllmfakelodpiaaGreatDoor
open Go.RowKit Cx

attribute [local go_sem ↓] Go.wp_at_zero Go.wp_at_succ

set_option maxHeartbeats 4000000 in
set_option maxRecDepth 100000 in
theorem wayPlus_walk {w : World} {cax cay cbx cbz : C3} {ax ay bx bz : Rat} (hax : QV w (.agg #[.bool cax.n, .slice cax.u cax.nu cax.cu, .slice cax.l cax.nl cax.cl]) ax) (hay : QV w (.agg #[.bool cay.n, .slice cay.u cay.nu cay.cu, .slice cay.l cay.nl cay.cl]) ay) (hbx : QV w (.agg #[.bool cbx.n, .slice cbx.u cbx.nu cbx.cu, .slice cbx.l cbx.nl cbx.cl]) bx) (hbz : QV w (.agg #[.bool cbz.n, .slice cbz.u cbz.nu cbz.cu, .slice cbz.l cbz.nl cbz.cl]) bz) {k l : Nat} (f1 : QS k ax) (f2 : QS k ay) (f3 : QS l bx) (f4 : QS l bz) (hk : k + l + 1 ≤ 35184372088640) :
    Calls Tryz.prog 27 #[.agg #[.bool cax.n, .slice cax.u cax.nu cax.cu, .slice cax.l cax.nl cax.cl, .bool cay.n, .slice cay.u cay.nu cay.cu, .slice cay.l cay.nl cay.cl], .agg #[.bool cbx.n, .slice cbx.u cbx.nu cbx.cu, .slice cbx.l cbx.nl cbx.cl, .bool cbz.n, .slice cbz.u cbz.nu cbz.cu, .slice cbz.l cbz.nl cbz.cl]] w fun e w' => Below w.heap.size w w' ∧ ∃ v, e = .returned v ∧ WV w' v (ax + bx) (ay + bz) := by
  obtain ⟨hb0, hk0, hk1, hk2, hsz⟩ := boxes3 w #[.bool cax.n, .slice cax.u cax.nu cax.cu, .slice cax.l cax.nl cax.cl, .bool cay.n, .slice cay.u cay.nu cay.cu, .slice cay.l cay.nl cay.cl] #[.bool cbx.n, .slice cbx.u cbx.nu cbx.cu, .slice cbx.l cbx.nl cbx.cl, .bool cbz.n, .slice cbz.u cbz.nu cbz.cu, .slice cbz.l cbz.nl cbz.cl] #[.bool false, .slice none 0 0, .slice none 0 0, .bool false, .slice none 0 0, .slice none 0 0] 41 41 41
  have HB0 := hideIt hb0
  have HSZ := hideIt hsz
  have HK0 := hideIt hk0
  have HK1 := hideIt hk1
  have HK2 := hideIt hk2
  have Hax := hideIt (hax.below hb0)
  have Hay := hideIt (hay.below hb0)
  have Hbx := hideIt (hbx.below hb0)
  have Hbz := hideIt (hbz.below hb0)
  have F1 := hideIt f1
  have F2 := hideIt f2
  have F3 := hideIt f3
  have F4 := hideIt f4
  have HK := hideIt hk
  clear hb0 hsz hk0 hk1 hk2 hax hay hbx hbz f1 f2 f3 f4 hk
  go_enter Tryz.func27, Tryz.ntmps27
  go_wp2_with fail
  generalize (((w.alloc (.cells #[.bool cax.n, .slice cax.u cax.nu cax.cu, .slice cax.l cax.nl cax.cl, .bool cay.n, .slice cay.u cay.nu cay.cu, .slice cay.l cay.nl cay.cl] 41)).alloc (.cells #[.bool cbx.n, .slice cbx.u cbx.nu cbx.cu, .slice cbx.l cbx.nl cbx.cl, .bool cbz.n, .slice cbz.u cbz.nu cbz.cu, .slice cbz.l cbz.nl cbz.cl] 41)).alloc (.cells #[.bool false, .slice none 0 0, .slice none 0 0, .bool false, .slice none 0 0, .slice none 0 0] 41)) = W0 at *
  have HS : Hid (∀ w', Below W0.heap.size W0 w' → w'.cell? ⟨w.heap.size, 0, none⟩ = some (.bool cax.n) ∧ w'.cell? ⟨w.heap.size, 1, none⟩ = some (.slice cax.u cax.nu cax.cu) ∧ w'.cell? ⟨w.heap.size, 2, none⟩ = some (.slice cax.l cax.nl cax.cl) ∧ w'.cell? ⟨w.heap.size, 3, none⟩ = some (.bool cay.n) ∧ w'.cell? ⟨w.heap.size, 4, none⟩ = some (.slice cay.u cay.nu cay.cu) ∧ w'.cell? ⟨w.heap.size, 5, none⟩ = some (.slice cay.l cay.nl cay.cl) ∧ w'.cell? ⟨w.heap.size + 1, 0, none⟩ = some (.bool cbx.n) ∧ w'.cell? ⟨w.heap.size + 1, 1, none⟩ = some (.slice cbx.u cbx.nu cbx.cu) ∧ w'.cell? ⟨w.heap.size + 1, 2, none⟩ = some (.slice cbx.l cbx.nl cbx.cl) ∧ w'.cell? ⟨w.heap.size + 1, 3, none⟩ = some (.bool cbz.n) ∧ w'.cell? ⟨w.heap.size + 1, 4, none⟩ = some (.slice cbz.u cbz.nu cbz.cu) ∧ w'.cell? ⟨w.heap.size + 1, 5, none⟩ = some (.slice cbz.l cbz.nl cbz.cl)) := fun w' hb => ⟨(HK0.out.below hb (by rw [HSZ.out]; omega)).cell 0, (HK0.out.below hb (by rw [HSZ.out]; omega)).cell 1, (HK0.out.below hb (by rw [HSZ.out]; omega)).cell 2, (HK0.out.below hb (by rw [HSZ.out]; omega)).cell 3, (HK0.out.below hb (by rw [HSZ.out]; omega)).cell 4, (HK0.out.below hb (by rw [HSZ.out]; omega)).cell 5, (HK1.out.below hb (by rw [HSZ.out]; omega)).cell 0, (HK1.out.below hb (by rw [HSZ.out]; omega)).cell 1, (HK1.out.below hb (by rw [HSZ.out]; omega)).cell 2, (HK1.out.below hb (by rw [HSZ.out]; omega)).cell 3, (HK1.out.below hb (by rw [HSZ.out]; omega)).cell 4, (HK1.out.below hb (by rw [HSZ.out]; omega)).cell 5⟩
  have HSS : Hid (∀ w', Below W0.heap.size W0 w' → ∀ x0 x1 x2 x3 x4 x5 : Value, ((((((w'.setCell ⟨w.heap.size + 1 + 1, 0, none⟩ (x0)).setCell ⟨w.heap.size + 1 + 1, 1, none⟩ (x1)).setCell ⟨w.heap.size + 1 + 1, 2, none⟩ (x2)).setCell ⟨w.heap.size + 1 + 1, 3, none⟩ (x3)).setCell ⟨w.heap.size + 1 + 1, 4, none⟩ (x4)).setCell ⟨w.heap.size + 1 + 1, 5, none⟩ (x5)).cell? ⟨w.heap.size, 0, none⟩ = some (.bool cax.n) ∧ ((((((w'.setCell ⟨w.heap.size + 1 + 1, 0, none⟩ (x0)).setCell ⟨w.heap.size + 1 + 1, 1, none⟩ (x1)).setCell ⟨w.heap.size + 1 + 1, 2, none⟩ (x2)).setCell ⟨w.heap.size + 1 + 1, 3, none⟩ (x3)).setCell ⟨w.heap.size + 1 + 1, 4, none⟩ (x4)).setCell ⟨w.heap.size + 1 + 1, 5, none⟩ (x5)).cell? ⟨w.heap.size, 1, none⟩ = some (.slice cax.u cax.nu cax.cu) ∧ ((((((w'.setCell ⟨w.heap.size + 1 + 1, 0, none⟩ (x0)).setCell ⟨w.heap.size + 1 + 1, 1, none⟩ (x1)).setCell ⟨w.heap.size + 1 + 1, 2, none⟩ (x2)).setCell ⟨w.heap.size + 1 + 1, 3, none⟩ (x3)).setCell ⟨w.heap.size + 1 + 1, 4, none⟩ (x4)).setCell ⟨w.heap.size + 1 + 1, 5, none⟩ (x5)).cell? ⟨w.heap.size, 2, none⟩ = some (.slice cax.l cax.nl cax.cl) ∧ ((((((w'.setCell ⟨w.heap.size + 1 + 1, 0, none⟩ (x0)).setCell ⟨w.heap.size + 1 + 1, 1, none⟩ (x1)).setCell ⟨w.heap.size + 1 + 1, 2, none⟩ (x2)).setCell ⟨w.heap.size + 1 + 1, 3, none⟩ (x3)).setCell ⟨w.heap.size + 1 + 1, 4, none⟩ (x4)).setCell ⟨w.heap.size + 1 + 1, 5, none⟩ (x5)).cell? ⟨w.heap.size, 3, none⟩ = some (.bool cay.n) ∧ ((((((w'.setCell ⟨w.heap.size + 1 + 1, 0, none⟩ (x0)).setCell ⟨w.heap.size + 1 + 1, 1, none⟩ (x1)).setCell ⟨w.heap.size + 1 + 1, 2, none⟩ (x2)).setCell ⟨w.heap.size + 1 + 1, 3, none⟩ (x3)).setCell ⟨w.heap.size + 1 + 1, 4, none⟩ (x4)).setCell ⟨w.heap.size + 1 + 1, 5, none⟩ (x5)).cell? ⟨w.heap.size, 4, none⟩ = some (.slice cay.u cay.nu cay.cu) ∧ ((((((w'.setCell ⟨w.heap.size + 1 + 1, 0, none⟩ (x0)).setCell ⟨w.heap.size + 1 + 1, 1, none⟩ (x1)).setCell ⟨w.heap.size + 1 + 1, 2, none⟩ (x2)).setCell ⟨w.heap.size + 1 + 1, 3, none⟩ (x3)).setCell ⟨w.heap.size + 1 + 1, 4, none⟩ (x4)).setCell ⟨w.heap.size + 1 + 1, 5, none⟩ (x5)).cell? ⟨w.heap.size, 5, none⟩ = some (.slice cay.l cay.nl cay.cl) ∧ ((((((w'.setCell ⟨w.heap.size + 1 + 1, 0, none⟩ (x0)).setCell ⟨w.heap.size + 1 + 1, 1, none⟩ (x1)).setCell ⟨w.heap.size + 1 + 1, 2, none⟩ (x2)).setCell ⟨w.heap.size + 1 + 1, 3, none⟩ (x3)).setCell ⟨w.heap.size + 1 + 1, 4, none⟩ (x4)).setCell ⟨w.heap.size + 1 + 1, 5, none⟩ (x5)).cell? ⟨w.heap.size + 1, 0, none⟩ = some (.bool cbx.n) ∧ ((((((w'.setCell ⟨w.heap.size + 1 + 1, 0, none⟩ (x0)).setCell ⟨w.heap.size + 1 + 1, 1, none⟩ (x1)).setCell ⟨w.heap.size + 1 + 1, 2, none⟩ (x2)).setCell ⟨w.heap.size + 1 + 1, 3, none⟩ (x3)).setCell ⟨w.heap.size + 1 + 1, 4, none⟩ (x4)).setCell ⟨w.heap.size + 1 + 1, 5, none⟩ (x5)).cell? ⟨w.heap.size + 1, 1, none⟩ = some (.slice cbx.u cbx.nu cbx.cu) ∧ ((((((w'.setCell ⟨w.heap.size + 1 + 1, 0, none⟩ (x0)).setCell ⟨w.heap.size + 1 + 1, 1, none⟩ (x1)).setCell ⟨w.heap.size + 1 + 1, 2, none⟩ (x2)).setCell ⟨w.heap.size + 1 + 1, 3, none⟩ (x3)).setCell ⟨w.heap.size + 1 + 1, 4, none⟩ (x4)).setCell ⟨w.heap.size + 1 + 1, 5, none⟩ (x5)).cell? ⟨w.heap.size + 1, 2, none⟩ = some (.slice cbx.l cbx.nl cbx.cl) ∧ ((((((w'.setCell ⟨w.heap.size + 1 + 1, 0, none⟩ (x0)).setCell ⟨w.heap.size + 1 + 1, 1, none⟩ (x1)).setCell ⟨w.heap.size + 1 + 1, 2, none⟩ (x2)).setCell ⟨w.heap.size + 1 + 1, 3, none⟩ (x3)).setCell ⟨w.heap.size + 1 + 1, 4, none⟩ (x4)).setCell ⟨w.heap.size + 1 + 1, 5, none⟩ (x5)).cell? ⟨w.heap.size + 1, 3, none⟩ = some (.bool cbz.n) ∧ ((((((w'.setCell ⟨w.heap.size + 1 + 1, 0, none⟩ (x0)).setCell ⟨w.heap.size + 1 + 1, 1, none⟩ (x1)).setCell ⟨w.heap.size + 1 + 1, 2, none⟩ (x2)).setCell ⟨w.heap.size + 1 + 1, 3, none⟩ (x3)).setCell ⟨w.heap.size + 1 + 1, 4, none⟩ (x4)).setCell ⟨w.heap.size + 1 + 1, 5, none⟩ (x5)).cell? ⟨w.heap.size + 1, 4, none⟩ = some (.slice cbz.u cbz.nu cbz.cu) ∧ ((((((w'.setCell ⟨w.heap.size + 1 + 1, 0, none⟩ (x0)).setCell ⟨w.heap.size + 1 + 1, 1, none⟩ (x1)).setCell ⟨w.heap.size + 1 + 1, 2, none⟩ (x2)).setCell ⟨w.heap.size + 1 + 1, 3, none⟩ (x3)).setCell ⟨w.heap.size + 1 + 1, 4, none⟩ (x4)).setCell ⟨w.heap.size + 1 + 1, 5, none⟩ (x5)).cell? ⟨w.heap.size + 1, 5, none⟩ = some (.slice cbz.l cbz.nl cbz.cl)) := fun w' hb x0 x1 x2 x3 x4 x5 => ⟨((HK0.out.below hb (by rw [HSZ.out]; omega)).off6 (g := w.heap.size + 1 + 1) (by omega) x0 x1 x2 x3 x4 x5).cell 0, ((HK0.out.below hb (by rw [HSZ.out]; omega)).off6 (g := w.heap.size + 1 + 1) (by omega) x0 x1 x2 x3 x4 x5).cell 1, ((HK0.out.below hb (by rw [HSZ.out]; omega)).off6 (g := w.heap.size + 1 + 1) (by omega) x0 x1 x2 x3 x4 x5).cell 2, ((HK0.out.below hb (by rw [HSZ.out]; omega)).off6 (g := w.heap.size + 1 + 1) (by omega) x0 x1 x2 x3 x4 x5).cell 3, ((HK0.out.below hb (by rw [HSZ.out]; omega)).off6 (g := w.heap.size + 1 + 1) (by omega) x0 x1 x2 x3 x4 x5).cell 4, ((HK0.out.below hb (by rw [HSZ.out]; omega)).off6 (g := w.heap.size + 1 + 1) (by omega) x0 x1 x2 x3 x4 x5).cell 5, ((HK1.out.below hb (by rw [HSZ.out]; omega)).off6 (g := w.heap.size + 1 + 1) (by omega) x0 x1 x2 x3 x4 x5).cell 0, ((HK1.out.below hb (by rw [HSZ.out]; omega)).off6 (g := w.heap.size + 1 + 1) (by omega) x0 x1 x2 x3 x4 x5).cell 1, ((HK1.out.below hb (by rw [HSZ.out]; omega)).off6 (g := w.heap.size + 1 + 1) (by omega) x0 x1 x2 x3 x4 x5).cell 2, ((HK1.out.below hb (by rw [HSZ.out]; omega)).off6 (g := w.heap.size + 1 + 1) (by omega) x0 x1 x2 x3 x4 x5).cell 3, ((HK1.out.below hb (by rw [HSZ.out]; omega)).off6 (g := w.heap.size + 1 + 1) (by omega) x0 x1 x2 x3 x4 x5).cell 4, ((HK1.out.below hb (by rw [HSZ.out]; omega)).off6 (g := w.heap.size + 1 + 1) (by omega) x0 x1 x2 x3 x4 x5).cell 5⟩
  obtain ⟨z0, z1, z2, z3, z4, z5, z6, z7, z8, z9, z10, z11⟩ := HS.out W0 (Below.refl _ _)
  go_region_held3 (fun w' => w'.cell? ⟨w.heap.size, 0, none⟩ = some (.bool cax.n) ∧ w'.cell? ⟨w.heap.size, 1, none⟩ = some (.slice cax.u cax.nu cax.cu) ∧ w'.cell? ⟨w.heap.size, 2, none⟩ = some (.slice cax.l cax.nl cax.cl) ∧ w'.cell? ⟨w.heap.size, 3, none⟩ = some (.bool cay.n) ∧ w'.cell? ⟨w.heap.size, 4, none⟩ = some (.slice cay.u cay.nu cay.cu) ∧ w'.cell? ⟨w.heap.size, 5, none⟩ = some (.slice cay.l cay.nl cay.cl) ∧ w'.cell? ⟨w.heap.size + 1, 0, none⟩ = some (.bool cbx.n) ∧ w'.cell? ⟨w.heap.size + 1, 1, none⟩ = some (.slice cbx.u cbx.nu cbx.cu) ∧ w'.cell? ⟨w.heap.size + 1, 2, none⟩ = some (.slice cbx.l cbx.nl cbx.cl) ∧ w'.cell? ⟨w.heap.size + 1, 3, none⟩ = some (.bool cbz.n) ∧ w'.cell? ⟨w.heap.size + 1, 4, none⟩ = some (.slice cbz.u cbz.nu cbz.cu) ∧ w'.cell? ⟨w.heap.size + 1, 5, none⟩ = some (.slice cbz.l cbz.nl cbz.cl)) (first | go_keep | exact hs1 | exact hs2 | exact hkS)
    (first
      | (go_at_call_of 42 (Value.agg #[Value.bool cax.n, Value.slice cax.u cax.nu cax.cu, Value.slice cax.l cax.nl cax.cl]); refine (plus_calls (w := W0.drew) (Hax.out.below (Below.drew (Below.refl _ _))) (Hbx.out.below (Below.drew (Below.refl _ _))) F1.out F3.out HK.out).mono ?_; rintro e w1 ⟨hb1, v1, rfl, hv1⟩; have hbl1 : Below W0.heap.size W0 w1 := (Below.drew (Below.refl _ W0)).trans hb1; obtain ⟨d1, rfl⟩ := qv_open hv1; have hs1 := HS.out w1 hbl1)
      | (go_at_call_of 42 (Value.agg #[Value.bool cay.n, Value.slice cay.u cay.nu cay.cu, Value.slice cay.l cay.nl cay.cl]); refine (plus_calls (Hay.out.below hbl1) (Hbz.out.below hbl1) F2.out F4.out HK.out).mono ?_; rintro e w2 ⟨hb2, v2, rfl, hv2⟩; have hbl2 := hbl1.trans (hb2.mono hbl1.size); obtain ⟨d2, rfl⟩ := qv_open hv2; have hs2 := HS.out w2 hbl2; have hkr := HK2.out.below hbl2 (by rw [HSZ.out]; omega); obtain ⟨r0, r1, r2, r3, r4, r5, f0, f1, f2, f3, f4, f5⟩ := hkr.all6; have hkS := HSS.out w2 hbl2 (.bool d1.n) (.slice d1.u d1.nu d1.cu) (.slice d1.l d1.nl d1.cl) (.bool d2.n) (.slice d2.u d2.nu d2.cu) (.slice d2.l d2.nl d2.cl))
      )
  all_goals
    go_wp2
    obtain ⟨k0, k1, k2, k3, k4, k5, _, _, _, _, _, _⟩ := (hkr.put6 (.bool d1.n) (.slice d1.u d1.nu d1.cu) (.slice d1.l d1.nl d1.cl) (.bool d2.n) (.slice d2.u d2.nu d2.cu) (.slice d2.l d2.nl d2.cl)).all6
    refine bodyPost_ret (v := .agg #[.bool d1.n, .slice d1.u d1.nu d1.cu, .slice d1.l d1.nl d1.cl, .bool d2.n, .slice d2.u d2.nu d2.cu, .slice d2.l d2.nl d2.cl]) (by simp [results, Tryz.results27, go_sem, k0, k1, k2, k3, k4, k5]) rfl ⟨Below.put6 (HB0.out.trans (hbl2.mono HB0.out.size)) (by omega) (.bool d1.n) (.slice d1.u d1.nu d1.cu) (.slice d1.l d1.nl d1.cl) (.bool d2.n) (.slice d2.u d2.nu d2.cu) (.slice d2.l d2.nl d2.cl), _, rfl, ?_⟩
    have hst := Stays.put6 hkr (by simp [notLimb]) (.bool d1.n) (.slice d1.u d1.nu d1.cu) (.slice d1.l d1.nl d1.cl) (.bool d2.n) (.slice d2.u d2.nu d2.cu) (.slice d2.l d2.nl d2.cl) rfl rfl rfl rfl rfl rfl
    exact ⟨d1, d2, rfl, hst.qv (hv1.below hb2), hst.qv hv2⟩

/-- Plus: one way, then the other. -/
theorem wayPlus_calls {w : World} {va vb : Value} {ax ay bx bz : Rat} {k l : Nat} (ha : WV w va ax ay) (hb : WV w vb bx bz) (f1 : QS k ax) (f2 : QS k ay) (f3 : QS l bx) (f4 : QS l bz) (hk : k + l + 1 ≤ 35184372088640) :
    Calls Tryz.prog 27 #[va, vb] w fun e w' => Below w.heap.size w w' ∧ ∃ v, e = .returned v ∧ WV w' v (ax + bx) (ay + bz) := by
  obtain ⟨c1, c2, rfl, h1, h2⟩ := ha
  obtain ⟨c3, c4, rfl, h3, h4⟩ := hb
  exact wayPlus_walk h1 h2 h3 h4 f1 f2 f3 f4 hk

set_option maxHeartbeats 4000000 in
set_option maxRecDepth 100000 in
theorem wayMinus_walk {w : World} {cax cay cbx cbz : C3} {ax ay bx bz : Rat} (hax : QV w (.agg #[.bool cax.n, .slice cax.u cax.nu cax.cu, .slice cax.l cax.nl cax.cl]) ax) (hay : QV w (.agg #[.bool cay.n, .slice cay.u cay.nu cay.cu, .slice cay.l cay.nl cay.cl]) ay) (hbx : QV w (.agg #[.bool cbx.n, .slice cbx.u cbx.nu cbx.cu, .slice cbx.l cbx.nl cbx.cl]) bx) (hbz : QV w (.agg #[.bool cbz.n, .slice cbz.u cbz.nu cbz.cu, .slice cbz.l cbz.nl cbz.cl]) bz) {k l : Nat} (f1 : QS k ax) (f2 : QS k ay) (f3 : QS l bx) (f4 : QS l bz) (hk : k + l + 1 ≤ 35184372088640) :
    Calls Tryz.prog 11 #[.agg #[.bool cax.n, .slice cax.u cax.nu cax.cu, .slice cax.l cax.nl cax.cl, .bool cay.n, .slice cay.u cay.nu cay.cu, .slice cay.l cay.nl cay.cl], .agg #[.bool cbx.n, .slice cbx.u cbx.nu cbx.cu, .slice cbx.l cbx.nl cbx.cl, .bool cbz.n, .slice cbz.u cbz.nu cbz.cu, .slice cbz.l cbz.nl cbz.cl]] w fun e w' => Below w.heap.size w w' ∧ ∃ v, e = .returned v ∧ WV w' v (ax - bx) (ay - bz) := by
  obtain ⟨hb0, hk0, hk1, hk2, hsz⟩ := boxes3 w #[.bool cax.n, .slice cax.u cax.nu cax.cu, .slice cax.l cax.nl cax.cl, .bool cay.n, .slice cay.u cay.nu cay.cu, .slice cay.l cay.nl cay.cl] #[.bool cbx.n, .slice cbx.u cbx.nu cbx.cu, .slice cbx.l cbx.nl cbx.cl, .bool cbz.n, .slice cbz.u cbz.nu cbz.cu, .slice cbz.l cbz.nl cbz.cl] #[.bool false, .slice none 0 0, .slice none 0 0, .bool false, .slice none 0 0, .slice none 0 0] 41 41 41
  have HB0 := hideIt hb0
  have HSZ := hideIt hsz
  have HK0 := hideIt hk0
  have HK1 := hideIt hk1
  have HK2 := hideIt hk2
  have Hax := hideIt (hax.below hb0)
  have Hay := hideIt (hay.below hb0)
  have Hbx := hideIt (hbx.below hb0)
  have Hbz := hideIt (hbz.below hb0)
  have F1 := hideIt f1
  have F2 := hideIt f2
  have F3 := hideIt f3
  have F4 := hideIt f4
  have HK := hideIt hk
  clear hb0 hsz hk0 hk1 hk2 hax hay hbx hbz f1 f2 f3 f4 hk
  go_enter Tryz.func11, Tryz.ntmps11
  go_wp2_with fail
  generalize (((w.alloc (.cells #[.bool cax.n, .slice cax.u cax.nu cax.cu, .slice cax.l cax.nl cax.cl, .bool cay.n, .slice cay.u cay.nu cay.cu, .slice cay.l cay.nl cay.cl] 41)).alloc (.cells #[.bool cbx.n, .slice cbx.u cbx.nu cbx.cu, .slice cbx.l cbx.nl cbx.cl, .bool cbz.n, .slice cbz.u cbz.nu cbz.cu, .slice cbz.l cbz.nl cbz.cl] 41)).alloc (.cells #[.bool false, .slice none 0 0, .slice none 0 0, .bool false, .slice none 0 0, .slice none 0 0] 41)) = W0 at *
  have HS : Hid (∀ w', Below W0.heap.size W0 w' → w'.cell? ⟨w.heap.size, 0, none⟩ = some (.bool cax.n) ∧ w'.cell? ⟨w.heap.size, 1, none⟩ = some (.slice cax.u cax.nu cax.cu) ∧ w'.cell? ⟨w.heap.size, 2, none⟩ = some (.slice cax.l cax.nl cax.cl) ∧ w'.cell? ⟨w.heap.size, 3, none⟩ = some (.bool cay.n) ∧ w'.cell? ⟨w.heap.size, 4, none⟩ = some (.slice cay.u cay.nu cay.cu) ∧ w'.cell? ⟨w.heap.size, 5, none⟩ = some (.slice cay.l cay.nl cay.cl) ∧ w'.cell? ⟨w.heap.size + 1, 0, none⟩ = some (.bool cbx.n) ∧ w'.cell? ⟨w.heap.size + 1, 1, none⟩ = some (.slice cbx.u cbx.nu cbx.cu) ∧ w'.cell? ⟨w.heap.size + 1, 2, none⟩ = some (.slice cbx.l cbx.nl cbx.cl) ∧ w'.cell? ⟨w.heap.size + 1, 3, none⟩ = some (.bool cbz.n) ∧ w'.cell? ⟨w.heap.size + 1, 4, none⟩ = some (.slice cbz.u cbz.nu cbz.cu) ∧ w'.cell? ⟨w.heap.size + 1, 5, none⟩ = some (.slice cbz.l cbz.nl cbz.cl)) := fun w' hb => ⟨(HK0.out.below hb (by rw [HSZ.out]; omega)).cell 0, (HK0.out.below hb (by rw [HSZ.out]; omega)).cell 1, (HK0.out.below hb (by rw [HSZ.out]; omega)).cell 2, (HK0.out.below hb (by rw [HSZ.out]; omega)).cell 3, (HK0.out.below hb (by rw [HSZ.out]; omega)).cell 4, (HK0.out.below hb (by rw [HSZ.out]; omega)).cell 5, (HK1.out.below hb (by rw [HSZ.out]; omega)).cell 0, (HK1.out.below hb (by rw [HSZ.out]; omega)).cell 1, (HK1.out.below hb (by rw [HSZ.out]; omega)).cell 2, (HK1.out.below hb (by rw [HSZ.out]; omega)).cell 3, (HK1.out.below hb (by rw [HSZ.out]; omega)).cell 4, (HK1.out.below hb (by rw [HSZ.out]; omega)).cell 5⟩
  have HSS : Hid (∀ w', Below W0.heap.size W0 w' → ∀ x0 x1 x2 x3 x4 x5 : Value, ((((((w'.setCell ⟨w.heap.size + 1 + 1, 0, none⟩ (x0)).setCell ⟨w.heap.size + 1 + 1, 1, none⟩ (x1)).setCell ⟨w.heap.size + 1 + 1, 2, none⟩ (x2)).setCell ⟨w.heap.size + 1 + 1, 3, none⟩ (x3)).setCell ⟨w.heap.size + 1 + 1, 4, none⟩ (x4)).setCell ⟨w.heap.size + 1 + 1, 5, none⟩ (x5)).cell? ⟨w.heap.size, 0, none⟩ = some (.bool cax.n) ∧ ((((((w'.setCell ⟨w.heap.size + 1 + 1, 0, none⟩ (x0)).setCell ⟨w.heap.size + 1 + 1, 1, none⟩ (x1)).setCell ⟨w.heap.size + 1 + 1, 2, none⟩ (x2)).setCell ⟨w.heap.size + 1 + 1, 3, none⟩ (x3)).setCell ⟨w.heap.size + 1 + 1, 4, none⟩ (x4)).setCell ⟨w.heap.size + 1 + 1, 5, none⟩ (x5)).cell? ⟨w.heap.size, 1, none⟩ = some (.slice cax.u cax.nu cax.cu) ∧ ((((((w'.setCell ⟨w.heap.size + 1 + 1, 0, none⟩ (x0)).setCell ⟨w.heap.size + 1 + 1, 1, none⟩ (x1)).setCell ⟨w.heap.size + 1 + 1, 2, none⟩ (x2)).setCell ⟨w.heap.size + 1 + 1, 3, none⟩ (x3)).setCell ⟨w.heap.size + 1 + 1, 4, none⟩ (x4)).setCell ⟨w.heap.size + 1 + 1, 5, none⟩ (x5)).cell? ⟨w.heap.size, 2, none⟩ = some (.slice cax.l cax.nl cax.cl) ∧ ((((((w'.setCell ⟨w.heap.size + 1 + 1, 0, none⟩ (x0)).setCell ⟨w.heap.size + 1 + 1, 1, none⟩ (x1)).setCell ⟨w.heap.size + 1 + 1, 2, none⟩ (x2)).setCell ⟨w.heap.size + 1 + 1, 3, none⟩ (x3)).setCell ⟨w.heap.size + 1 + 1, 4, none⟩ (x4)).setCell ⟨w.heap.size + 1 + 1, 5, none⟩ (x5)).cell? ⟨w.heap.size, 3, none⟩ = some (.bool cay.n) ∧ ((((((w'.setCell ⟨w.heap.size + 1 + 1, 0, none⟩ (x0)).setCell ⟨w.heap.size + 1 + 1, 1, none⟩ (x1)).setCell ⟨w.heap.size + 1 + 1, 2, none⟩ (x2)).setCell ⟨w.heap.size + 1 + 1, 3, none⟩ (x3)).setCell ⟨w.heap.size + 1 + 1, 4, none⟩ (x4)).setCell ⟨w.heap.size + 1 + 1, 5, none⟩ (x5)).cell? ⟨w.heap.size, 4, none⟩ = some (.slice cay.u cay.nu cay.cu) ∧ ((((((w'.setCell ⟨w.heap.size + 1 + 1, 0, none⟩ (x0)).setCell ⟨w.heap.size + 1 + 1, 1, none⟩ (x1)).setCell ⟨w.heap.size + 1 + 1, 2, none⟩ (x2)).setCell ⟨w.heap.size + 1 + 1, 3, none⟩ (x3)).setCell ⟨w.heap.size + 1 + 1, 4, none⟩ (x4)).setCell ⟨w.heap.size + 1 + 1, 5, none⟩ (x5)).cell? ⟨w.heap.size, 5, none⟩ = some (.slice cay.l cay.nl cay.cl) ∧ ((((((w'.setCell ⟨w.heap.size + 1 + 1, 0, none⟩ (x0)).setCell ⟨w.heap.size + 1 + 1, 1, none⟩ (x1)).setCell ⟨w.heap.size + 1 + 1, 2, none⟩ (x2)).setCell ⟨w.heap.size + 1 + 1, 3, none⟩ (x3)).setCell ⟨w.heap.size + 1 + 1, 4, none⟩ (x4)).setCell ⟨w.heap.size + 1 + 1, 5, none⟩ (x5)).cell? ⟨w.heap.size + 1, 0, none⟩ = some (.bool cbx.n) ∧ ((((((w'.setCell ⟨w.heap.size + 1 + 1, 0, none⟩ (x0)).setCell ⟨w.heap.size + 1 + 1, 1, none⟩ (x1)).setCell ⟨w.heap.size + 1 + 1, 2, none⟩ (x2)).setCell ⟨w.heap.size + 1 + 1, 3, none⟩ (x3)).setCell ⟨w.heap.size + 1 + 1, 4, none⟩ (x4)).setCell ⟨w.heap.size + 1 + 1, 5, none⟩ (x5)).cell? ⟨w.heap.size + 1, 1, none⟩ = some (.slice cbx.u cbx.nu cbx.cu) ∧ ((((((w'.setCell ⟨w.heap.size + 1 + 1, 0, none⟩ (x0)).setCell ⟨w.heap.size + 1 + 1, 1, none⟩ (x1)).setCell ⟨w.heap.size + 1 + 1, 2, none⟩ (x2)).setCell ⟨w.heap.size + 1 + 1, 3, none⟩ (x3)).setCell ⟨w.heap.size + 1 + 1, 4, none⟩ (x4)).setCell ⟨w.heap.size + 1 + 1, 5, none⟩ (x5)).cell? ⟨w.heap.size + 1, 2, none⟩ = some (.slice cbx.l cbx.nl cbx.cl) ∧ ((((((w'.setCell ⟨w.heap.size + 1 + 1, 0, none⟩ (x0)).setCell ⟨w.heap.size + 1 + 1, 1, none⟩ (x1)).setCell ⟨w.heap.size + 1 + 1, 2, none⟩ (x2)).setCell ⟨w.heap.size + 1 + 1, 3, none⟩ (x3)).setCell ⟨w.heap.size + 1 + 1, 4, none⟩ (x4)).setCell ⟨w.heap.size + 1 + 1, 5, none⟩ (x5)).cell? ⟨w.heap.size + 1, 3, none⟩ = some (.bool cbz.n) ∧ ((((((w'.setCell ⟨w.heap.size + 1 + 1, 0, none⟩ (x0)).setCell ⟨w.heap.size + 1 + 1, 1, none⟩ (x1)).setCell ⟨w.heap.size + 1 + 1, 2, none⟩ (x2)).setCell ⟨w.heap.size + 1 + 1, 3, none⟩ (x3)).setCell ⟨w.heap.size + 1 + 1, 4, none⟩ (x4)).setCell ⟨w.heap.size + 1 + 1, 5, none⟩ (x5)).cell? ⟨w.heap.size + 1, 4, none⟩ = some (.slice cbz.u cbz.nu cbz.cu) ∧ ((((((w'.setCell ⟨w.heap.size + 1 + 1, 0, none⟩ (x0)).setCell ⟨w.heap.size + 1 + 1, 1, none⟩ (x1)).setCell ⟨w.heap.size + 1 + 1, 2, none⟩ (x2)).setCell ⟨w.heap.size + 1 + 1, 3, none⟩ (x3)).setCell ⟨w.heap.size + 1 + 1, 4, none⟩ (x4)).setCell ⟨w.heap.size + 1 + 1, 5, none⟩ (x5)).cell? ⟨w.heap.size + 1, 5, none⟩ = some (.slice cbz.l cbz.nl cbz.cl)) := fun w' hb x0 x1 x2 x3 x4 x5 => ⟨((HK0.out.below hb (by rw [HSZ.out]; omega)).off6 (g := w.heap.size + 1 + 1) (by omega) x0 x1 x2 x3 x4 x5).cell 0, ((HK0.out.below hb (by rw [HSZ.out]; omega)).off6 (g := w.heap.size + 1 + 1) (by omega) x0 x1 x2 x3 x4 x5).cell 1, ((HK0.out.below hb (by rw [HSZ.out]; omega)).off6 (g := w.heap.size + 1 + 1) (by omega) x0 x1 x2 x3 x4 x5).cell 2, ((HK0.out.below hb (by rw [HSZ.out]; omega)).off6 (g := w.heap.size + 1 + 1) (by omega) x0 x1 x2 x3 x4 x5).cell 3, ((HK0.out.below hb (by rw [HSZ.out]; omega)).off6 (g := w.heap.size + 1 + 1) (by omega) x0 x1 x2 x3 x4 x5).cell 4, ((HK0.out.below hb (by rw [HSZ.out]; omega)).off6 (g := w.heap.size + 1 + 1) (by omega) x0 x1 x2 x3 x4 x5).cell 5, ((HK1.out.below hb (by rw [HSZ.out]; omega)).off6 (g := w.heap.size + 1 + 1) (by omega) x0 x1 x2 x3 x4 x5).cell 0, ((HK1.out.below hb (by rw [HSZ.out]; omega)).off6 (g := w.heap.size + 1 + 1) (by omega) x0 x1 x2 x3 x4 x5).cell 1, ((HK1.out.below hb (by rw [HSZ.out]; omega)).off6 (g := w.heap.size + 1 + 1) (by omega) x0 x1 x2 x3 x4 x5).cell 2, ((HK1.out.below hb (by rw [HSZ.out]; omega)).off6 (g := w.heap.size + 1 + 1) (by omega) x0 x1 x2 x3 x4 x5).cell 3, ((HK1.out.below hb (by rw [HSZ.out]; omega)).off6 (g := w.heap.size + 1 + 1) (by omega) x0 x1 x2 x3 x4 x5).cell 4, ((HK1.out.below hb (by rw [HSZ.out]; omega)).off6 (g := w.heap.size + 1 + 1) (by omega) x0 x1 x2 x3 x4 x5).cell 5⟩
  obtain ⟨z0, z1, z2, z3, z4, z5, z6, z7, z8, z9, z10, z11⟩ := HS.out W0 (Below.refl _ _)
  go_region_held3 (fun w' => w'.cell? ⟨w.heap.size, 0, none⟩ = some (.bool cax.n) ∧ w'.cell? ⟨w.heap.size, 1, none⟩ = some (.slice cax.u cax.nu cax.cu) ∧ w'.cell? ⟨w.heap.size, 2, none⟩ = some (.slice cax.l cax.nl cax.cl) ∧ w'.cell? ⟨w.heap.size, 3, none⟩ = some (.bool cay.n) ∧ w'.cell? ⟨w.heap.size, 4, none⟩ = some (.slice cay.u cay.nu cay.cu) ∧ w'.cell? ⟨w.heap.size, 5, none⟩ = some (.slice cay.l cay.nl cay.cl) ∧ w'.cell? ⟨w.heap.size + 1, 0, none⟩ = some (.bool cbx.n) ∧ w'.cell? ⟨w.heap.size + 1, 1, none⟩ = some (.slice cbx.u cbx.nu cbx.cu) ∧ w'.cell? ⟨w.heap.size + 1, 2, none⟩ = some (.slice cbx.l cbx.nl cbx.cl) ∧ w'.cell? ⟨w.heap.size + 1, 3, none⟩ = some (.bool cbz.n) ∧ w'.cell? ⟨w.heap.size + 1, 4, none⟩ = some (.slice cbz.u cbz.nu cbz.cu) ∧ w'.cell? ⟨w.heap.size + 1, 5, none⟩ = some (.slice cbz.l cbz.nl cbz.cl)) (first | go_keep | exact hs1 | exact hs2 | exact hkS)
    (first
      | (go_at_call_of 25 (Value.agg #[Value.bool cax.n, Value.slice cax.u cax.nu cax.cu, Value.slice cax.l cax.nl cax.cl]); refine (minus_calls (w := W0.drew) (Hax.out.below (Below.drew (Below.refl _ _))) (Hbx.out.below (Below.drew (Below.refl _ _))) F1.out F3.out HK.out).mono ?_; rintro e w1 ⟨hb1, v1, rfl, hv1⟩; have hbl1 : Below W0.heap.size W0 w1 := (Below.drew (Below.refl _ W0)).trans hb1; obtain ⟨d1, rfl⟩ := qv_open hv1; have hs1 := HS.out w1 hbl1)
      | (go_at_call_of 25 (Value.agg #[Value.bool cay.n, Value.slice cay.u cay.nu cay.cu, Value.slice cay.l cay.nl cay.cl]); refine (minus_calls (Hay.out.below hbl1) (Hbz.out.below hbl1) F2.out F4.out HK.out).mono ?_; rintro e w2 ⟨hb2, v2, rfl, hv2⟩; have hbl2 := hbl1.trans (hb2.mono hbl1.size); obtain ⟨d2, rfl⟩ := qv_open hv2; have hs2 := HS.out w2 hbl2; have hkr := HK2.out.below hbl2 (by rw [HSZ.out]; omega); obtain ⟨r0, r1, r2, r3, r4, r5, f0, f1, f2, f3, f4, f5⟩ := hkr.all6; have hkS := HSS.out w2 hbl2 (.bool d1.n) (.slice d1.u d1.nu d1.cu) (.slice d1.l d1.nl d1.cl) (.bool d2.n) (.slice d2.u d2.nu d2.cu) (.slice d2.l d2.nl d2.cl))
      )
  all_goals
    go_wp2
    obtain ⟨k0, k1, k2, k3, k4, k5, _, _, _, _, _, _⟩ := (hkr.put6 (.bool d1.n) (.slice d1.u d1.nu d1.cu) (.slice d1.l d1.nl d1.cl) (.bool d2.n) (.slice d2.u d2.nu d2.cu) (.slice d2.l d2.nl d2.cl)).all6
    refine bodyPost_ret (v := .agg #[.bool d1.n, .slice d1.u d1.nu d1.cu, .slice d1.l d1.nl d1.cl, .bool d2.n, .slice d2.u d2.nu d2.cu, .slice d2.l d2.nl d2.cl]) (by simp [results, Tryz.results11, go_sem, k0, k1, k2, k3, k4, k5]) rfl ⟨Below.put6 (HB0.out.trans (hbl2.mono HB0.out.size)) (by omega) (.bool d1.n) (.slice d1.u d1.nu d1.cu) (.slice d1.l d1.nl d1.cl) (.bool d2.n) (.slice d2.u d2.nu d2.cu) (.slice d2.l d2.nl d2.cl), _, rfl, ?_⟩
    have hst := Stays.put6 hkr (by simp [notLimb]) (.bool d1.n) (.slice d1.u d1.nu d1.cu) (.slice d1.l d1.nl d1.cl) (.bool d2.n) (.slice d2.u d2.nu d2.cu) (.slice d2.l d2.nl d2.cl) rfl rfl rfl rfl rfl rfl
    exact ⟨d1, d2, rfl, hst.qv (hv1.below hb2), hst.qv hv2⟩

/-- Minus: from one to the other. -/
theorem wayMinus_calls {w : World} {va vb : Value} {ax ay bx bz : Rat} {k l : Nat} (ha : WV w va ax ay) (hb : WV w vb bx bz) (f1 : QS k ax) (f2 : QS k ay) (f3 : QS l bx) (f4 : QS l bz) (hk : k + l + 1 ≤ 35184372088640) :
    Calls Tryz.prog 11 #[va, vb] w fun e w' => Below w.heap.size w w' ∧ ∃ v, e = .returned v ∧ WV w' v (ax - bx) (ay - bz) := by
  obtain ⟨c1, c2, rfl, h1, h2⟩ := ha
  obtain ⟨c3, c4, rfl, h3, h4⟩ := hb
  exact wayMinus_walk h1 h2 h3 h4 f1 f2 f3 f4 hk

end Go.Proofs.YtllmfakelodpiaaGreatDoor
