import Derived.Test.YtlincickgleddaaRb
import Derived.Test.YtlincickgleddaaRw
import Derived.Deep.RegionHeld3
import Derived.Deep.RegionWith
import Derived.Deep.MidRow
import Derived.Deep.Cut
namespace Go.Proofs.Ytlincickgleddaa
open Go Go.RowKit
set_option linter.unusedVariables false
set_option linter.unusedSimpArgs false

def thenC (l m : List Q4) : List Q4 := (List.range 24).map fun k => over4 (cq l k) (cq m k)
def woutC (l m : List Q4) : List Q4 := (List.range 24).map fun k => wout4 (cq l k) (cq m k)
def setC (l : List Q4) (i : Int) (q : Q4) : List Q4 := (List.range 24).map fun (k : Nat) => if ((k : Nat) : Int) = i then over4 (cq l k) q else clean4 (cq l k)
theorem AB.at3 (w : World) (o o' o'' : Obj) (t : TypeId) (cs : List Value) : AB ((((w.alloc o).alloc o').alloc o'').alloc (.cells cs.toArray t)) (w.heap.size + 1 + 1 + 1) t cs := by
  have := AB.new (((w.alloc o).alloc o').alloc o'') t cs
  simpa using this
theorem AB.at4 (w : World) (o o' o'' o3 : Obj) (t : TypeId) (cs : List Value) : AB (((((w.alloc o).alloc o').alloc o'').alloc o3).alloc (.cells cs.toArray t)) (w.heap.size + 1 + 1 + 1 + 1) t cs := by
  have := AB.new ((((w.alloc o).alloc o').alloc o'').alloc o3) t cs
  simpa using this
theorem below4 (w : World) (o o' o'' o3 : Obj) : Below w.heap.size w ((((w.alloc o).alloc o').alloc o'').alloc o3) := (below3 w o o' o'').alloc (by simp; omega) _
theorem below5 (w : World) (o o' o'' o3 o4 : Obj) : Below w.heap.size w (((((w.alloc o).alloc o').alloc o'').alloc o3).alloc o4) := (below4 w o o' o'' o3).alloc (by simp; omega) _

theorem cell_fillq {w : World} {g : Nat} {p : Addr} (hp : g ≠ p.block) (i0 i1 i2 i3 : Nat) (x y z u : Value) : ((((w.setCell ⟨g, i0, none⟩ x).setCell ⟨g, i1, none⟩ y).setCell ⟨g, i2, none⟩ z).setCell ⟨g, i3, none⟩ u).cell? p = w.cell? p := by
  have hn : ∀ i, (⟨g, i, none⟩ : Addr) ≠ p := fun i e => hp (by rw [← e])
  rw [World.cell?_setCell_other (h := hn i3), World.cell?_setCell_other (h := hn i2), World.cell?_setCell_other (h := hn i1), World.cell?_setCell_other (h := hn i0)]
theorem cell_fillp {w : World} {g : Nat} {p : Addr} (hp : g ≠ p.block) (i0 i1 : Nat) (x y : Value) : ((w.setCell ⟨g, i0, none⟩ x).setCell ⟨g, i1, none⟩ y).cell? p = w.cell? p := by
  have hn : ∀ i, (⟨g, i, none⟩ : Addr) ≠ p := fun i e => hp (by rw [← e])
  rw [World.cell?_setCell_other (h := hn i1), World.cell?_setCell_other (h := hn i0)]
theorem kN4 {p0 p1 p2 p3 : Addr} {x0 x1 x2 x3 : Value} {w0 wa wb : World} (k : Below wa.heap.size wa wb) (h : wa.cell? p0 = some x0 ∧ wa.cell? p1 = some x1 ∧ wa.cell? p2 = some x2 ∧ wa.cell? p3 = some x3 ∧ Below w0.heap.size w0 wa) : wb.cell? p0 = some x0 ∧ wb.cell? p1 = some x1 ∧ wb.cell? p2 = some x2 ∧ wb.cell? p3 = some x3 ∧ Below w0.heap.size w0 wb :=
  ⟨cell_later k h.1, cell_later k h.2.1, cell_later k h.2.2.1, cell_later k h.2.2.2.1, h.2.2.2.2.trans (k.mono h.2.2.2.2.size)⟩
theorem kQ4 {p0 p1 p2 p3 : Addr} {x0 x1 x2 x3 y0 y1 y2 y3 : Value} {o0 o1 o2 o3 : Nat} {w0 wa : World} {r : Nat} (h : wa.cell? p0 = some x0 ∧ wa.cell? p1 = some x1 ∧ wa.cell? p2 = some x2 ∧ wa.cell? p3 = some x3 ∧ Below w0.heap.size w0 wa) (hr : w0.heap.size ≤ r) (h0 : r ≠ p0.block) (h1 : r ≠ p1.block) (h2 : r ≠ p2.block) (h3 : r ≠ p3.block) : ((((wa.setCell ⟨r, o0, none⟩ y0).setCell ⟨r, o1, none⟩ y1).setCell ⟨r, o2, none⟩ y2).setCell ⟨r, o3, none⟩ y3).cell? p0 = some x0 ∧ ((((wa.setCell ⟨r, o0, none⟩ y0).setCell ⟨r, o1, none⟩ y1).setCell ⟨r, o2, none⟩ y2).setCell ⟨r, o3, none⟩ y3).cell? p1 = some x1 ∧ ((((wa.setCell ⟨r, o0, none⟩ y0).setCell ⟨r, o1, none⟩ y1).setCell ⟨r, o2, none⟩ y2).setCell ⟨r, o3, none⟩ y3).cell? p2 = some x2 ∧ ((((wa.setCell ⟨r, o0, none⟩ y0).setCell ⟨r, o1, none⟩ y1).setCell ⟨r, o2, none⟩ y2).setCell ⟨r, o3, none⟩ y3).cell? p3 = some x3 ∧ Below w0.heap.size w0 ((((wa.setCell ⟨r, o0, none⟩ y0).setCell ⟨r, o1, none⟩ y1).setCell ⟨r, o2, none⟩ y2).setCell ⟨r, o3, none⟩ y3) :=
  ⟨(cell_fillq h0 _ _ _ _ _ _ _ _).trans h.1, (cell_fillq h1 _ _ _ _ _ _ _ _).trans h.2.1, (cell_fillq h2 _ _ _ _ _ _ _ _).trans h.2.2.1, (cell_fillq h3 _ _ _ _ _ _ _ _).trans h.2.2.2.1, below_fillq h.2.2.2.2 hr _ _ _ _ _ _ _ _⟩
theorem kP4 {p0 p1 p2 p3 : Addr} {x0 x1 x2 x3 y0 y1 : Value} {o0 o1 : Nat} {w0 wa : World} {r : Nat} (h : wa.cell? p0 = some x0 ∧ wa.cell? p1 = some x1 ∧ wa.cell? p2 = some x2 ∧ wa.cell? p3 = some x3 ∧ Below w0.heap.size w0 wa) (hr : w0.heap.size ≤ r) (h0 : r ≠ p0.block) (h1 : r ≠ p1.block) (h2 : r ≠ p2.block) (h3 : r ≠ p3.block) : ((wa.setCell ⟨r, o0, none⟩ y0).setCell ⟨r, o1, none⟩ y1).cell? p0 = some x0 ∧ ((wa.setCell ⟨r, o0, none⟩ y0).setCell ⟨r, o1, none⟩ y1).cell? p1 = some x1 ∧ ((wa.setCell ⟨r, o0, none⟩ y0).setCell ⟨r, o1, none⟩ y1).cell? p2 = some x2 ∧ ((wa.setCell ⟨r, o0, none⟩ y0).setCell ⟨r, o1, none⟩ y1).cell? p3 = some x3 ∧ Below w0.heap.size w0 ((wa.setCell ⟨r, o0, none⟩ y0).setCell ⟨r, o1, none⟩ y1) :=
  ⟨(cell_fillp h0 _ _ _ _).trans h.1, (cell_fillp h1 _ _ _ _).trans h.2.1, (cell_fillp h2 _ _ _ _).trans h.2.2.1, (cell_fillp h3 _ _ _ _).trans h.2.2.2.1, ((h.2.2.2.2).setCell hr _).setCell hr _⟩
theorem kN6 {p0 p1 p2 p3 p4 p5 : Addr} {x0 x1 x2 x3 x4 x5 : Value} {w0 wa wb : World} (k : Below wa.heap.size wa wb) (h : wa.cell? p0 = some x0 ∧ wa.cell? p1 = some x1 ∧ wa.cell? p2 = some x2 ∧ wa.cell? p3 = some x3 ∧ wa.cell? p4 = some x4 ∧ wa.cell? p5 = some x5 ∧ Below w0.heap.size w0 wa) : wb.cell? p0 = some x0 ∧ wb.cell? p1 = some x1 ∧ wb.cell? p2 = some x2 ∧ wb.cell? p3 = some x3 ∧ wb.cell? p4 = some x4 ∧ wb.cell? p5 = some x5 ∧ Below w0.heap.size w0 wb :=
  ⟨cell_later k h.1, cell_later k h.2.1, cell_later k h.2.2.1, cell_later k h.2.2.2.1, cell_later k h.2.2.2.2.1, cell_later k h.2.2.2.2.2.1, h.2.2.2.2.2.2.trans (k.mono h.2.2.2.2.2.2.size)⟩
theorem kQ6 {p0 p1 p2 p3 p4 p5 : Addr} {x0 x1 x2 x3 x4 x5 y0 y1 y2 y3 : Value} {o0 o1 o2 o3 : Nat} {w0 wa : World} {r : Nat} (h : wa.cell? p0 = some x0 ∧ wa.cell? p1 = some x1 ∧ wa.cell? p2 = some x2 ∧ wa.cell? p3 = some x3 ∧ wa.cell? p4 = some x4 ∧ wa.cell? p5 = some x5 ∧ Below w0.heap.size w0 wa) (hr : w0.heap.size ≤ r) (h0 : r ≠ p0.block) (h1 : r ≠ p1.block) (h2 : r ≠ p2.block) (h3 : r ≠ p3.block) (h4 : r ≠ p4.block) (h5 : r ≠ p5.block) : ((((wa.setCell ⟨r, o0, none⟩ y0).setCell ⟨r, o1, none⟩ y1).setCell ⟨r, o2, none⟩ y2).setCell ⟨r, o3, none⟩ y3).cell? p0 = some x0 ∧ ((((wa.setCell ⟨r, o0, none⟩ y0).setCell ⟨r, o1, none⟩ y1).setCell ⟨r, o2, none⟩ y2).setCell ⟨r, o3, none⟩ y3).cell? p1 = some x1 ∧ ((((wa.setCell ⟨r, o0, none⟩ y0).setCell ⟨r, o1, none⟩ y1).setCell ⟨r, o2, none⟩ y2).setCell ⟨r, o3, none⟩ y3).cell? p2 = some x2 ∧ ((((wa.setCell ⟨r, o0, none⟩ y0).setCell ⟨r, o1, none⟩ y1).setCell ⟨r, o2, none⟩ y2).setCell ⟨r, o3, none⟩ y3).cell? p3 = some x3 ∧ ((((wa.setCell ⟨r, o0, none⟩ y0).setCell ⟨r, o1, none⟩ y1).setCell ⟨r, o2, none⟩ y2).setCell ⟨r, o3, none⟩ y3).cell? p4 = some x4 ∧ ((((wa.setCell ⟨r, o0, none⟩ y0).setCell ⟨r, o1, none⟩ y1).setCell ⟨r, o2, none⟩ y2).setCell ⟨r, o3, none⟩ y3).cell? p5 = some x5 ∧ Below w0.heap.size w0 ((((wa.setCell ⟨r, o0, none⟩ y0).setCell ⟨r, o1, none⟩ y1).setCell ⟨r, o2, none⟩ y2).setCell ⟨r, o3, none⟩ y3) :=
  ⟨(cell_fillq h0 _ _ _ _ _ _ _ _).trans h.1, (cell_fillq h1 _ _ _ _ _ _ _ _).trans h.2.1, (cell_fillq h2 _ _ _ _ _ _ _ _).trans h.2.2.1, (cell_fillq h3 _ _ _ _ _ _ _ _).trans h.2.2.2.1, (cell_fillq h4 _ _ _ _ _ _ _ _).trans h.2.2.2.2.1, (cell_fillq h5 _ _ _ _ _ _ _ _).trans h.2.2.2.2.2.1, below_fillq h.2.2.2.2.2.2 hr _ _ _ _ _ _ _ _⟩
theorem kP6 {p0 p1 p2 p3 p4 p5 : Addr} {x0 x1 x2 x3 x4 x5 y0 y1 : Value} {o0 o1 : Nat} {w0 wa : World} {r : Nat} (h : wa.cell? p0 = some x0 ∧ wa.cell? p1 = some x1 ∧ wa.cell? p2 = some x2 ∧ wa.cell? p3 = some x3 ∧ wa.cell? p4 = some x4 ∧ wa.cell? p5 = some x5 ∧ Below w0.heap.size w0 wa) (hr : w0.heap.size ≤ r) (h0 : r ≠ p0.block) (h1 : r ≠ p1.block) (h2 : r ≠ p2.block) (h3 : r ≠ p3.block) (h4 : r ≠ p4.block) (h5 : r ≠ p5.block) : ((wa.setCell ⟨r, o0, none⟩ y0).setCell ⟨r, o1, none⟩ y1).cell? p0 = some x0 ∧ ((wa.setCell ⟨r, o0, none⟩ y0).setCell ⟨r, o1, none⟩ y1).cell? p1 = some x1 ∧ ((wa.setCell ⟨r, o0, none⟩ y0).setCell ⟨r, o1, none⟩ y1).cell? p2 = some x2 ∧ ((wa.setCell ⟨r, o0, none⟩ y0).setCell ⟨r, o1, none⟩ y1).cell? p3 = some x3 ∧ ((wa.setCell ⟨r, o0, none⟩ y0).setCell ⟨r, o1, none⟩ y1).cell? p4 = some x4 ∧ ((wa.setCell ⟨r, o0, none⟩ y0).setCell ⟨r, o1, none⟩ y1).cell? p5 = some x5 ∧ Below w0.heap.size w0 ((wa.setCell ⟨r, o0, none⟩ y0).setCell ⟨r, o1, none⟩ y1) :=
  ⟨(cell_fillp h0 _ _ _ _).trans h.1, (cell_fillp h1 _ _ _ _).trans h.2.1, (cell_fillp h2 _ _ _ _).trans h.2.2.1, (cell_fillp h3 _ _ _ _).trans h.2.2.2.1, (cell_fillp h4 _ _ _ _).trans h.2.2.2.2.1, (cell_fillp h5 _ _ _ _).trans h.2.2.2.2.2.1, ((h.2.2.2.2.2.2).setCell hr _).setCell hr _⟩
theorem kN8 {p0 p1 p2 p3 p4 p5 p6 p7 : Addr} {x0 x1 x2 x3 x4 x5 x6 x7 : Value} {w0 wa wb : World} (k : Below wa.heap.size wa wb) (h : wa.cell? p0 = some x0 ∧ wa.cell? p1 = some x1 ∧ wa.cell? p2 = some x2 ∧ wa.cell? p3 = some x3 ∧ wa.cell? p4 = some x4 ∧ wa.cell? p5 = some x5 ∧ wa.cell? p6 = some x6 ∧ wa.cell? p7 = some x7 ∧ Below w0.heap.size w0 wa) : wb.cell? p0 = some x0 ∧ wb.cell? p1 = some x1 ∧ wb.cell? p2 = some x2 ∧ wb.cell? p3 = some x3 ∧ wb.cell? p4 = some x4 ∧ wb.cell? p5 = some x5 ∧ wb.cell? p6 = some x6 ∧ wb.cell? p7 = some x7 ∧ Below w0.heap.size w0 wb :=
  ⟨cell_later k h.1, cell_later k h.2.1, cell_later k h.2.2.1, cell_later k h.2.2.2.1, cell_later k h.2.2.2.2.1, cell_later k h.2.2.2.2.2.1, cell_later k h.2.2.2.2.2.2.1, cell_later k h.2.2.2.2.2.2.2.1, h.2.2.2.2.2.2.2.2.trans (k.mono h.2.2.2.2.2.2.2.2.size)⟩
theorem kQ8 {p0 p1 p2 p3 p4 p5 p6 p7 : Addr} {x0 x1 x2 x3 x4 x5 x6 x7 y0 y1 y2 y3 : Value} {o0 o1 o2 o3 : Nat} {w0 wa : World} {r : Nat} (h : wa.cell? p0 = some x0 ∧ wa.cell? p1 = some x1 ∧ wa.cell? p2 = some x2 ∧ wa.cell? p3 = some x3 ∧ wa.cell? p4 = some x4 ∧ wa.cell? p5 = some x5 ∧ wa.cell? p6 = some x6 ∧ wa.cell? p7 = some x7 ∧ Below w0.heap.size w0 wa) (hr : w0.heap.size ≤ r) (h0 : r ≠ p0.block) (h1 : r ≠ p1.block) (h2 : r ≠ p2.block) (h3 : r ≠ p3.block) (h4 : r ≠ p4.block) (h5 : r ≠ p5.block) (h6 : r ≠ p6.block) (h7 : r ≠ p7.block) : ((((wa.setCell ⟨r, o0, none⟩ y0).setCell ⟨r, o1, none⟩ y1).setCell ⟨r, o2, none⟩ y2).setCell ⟨r, o3, none⟩ y3).cell? p0 = some x0 ∧ ((((wa.setCell ⟨r, o0, none⟩ y0).setCell ⟨r, o1, none⟩ y1).setCell ⟨r, o2, none⟩ y2).setCell ⟨r, o3, none⟩ y3).cell? p1 = some x1 ∧ ((((wa.setCell ⟨r, o0, none⟩ y0).setCell ⟨r, o1, none⟩ y1).setCell ⟨r, o2, none⟩ y2).setCell ⟨r, o3, none⟩ y3).cell? p2 = some x2 ∧ ((((wa.setCell ⟨r, o0, none⟩ y0).setCell ⟨r, o1, none⟩ y1).setCell ⟨r, o2, none⟩ y2).setCell ⟨r, o3, none⟩ y3).cell? p3 = some x3 ∧ ((((wa.setCell ⟨r, o0, none⟩ y0).setCell ⟨r, o1, none⟩ y1).setCell ⟨r, o2, none⟩ y2).setCell ⟨r, o3, none⟩ y3).cell? p4 = some x4 ∧ ((((wa.setCell ⟨r, o0, none⟩ y0).setCell ⟨r, o1, none⟩ y1).setCell ⟨r, o2, none⟩ y2).setCell ⟨r, o3, none⟩ y3).cell? p5 = some x5 ∧ ((((wa.setCell ⟨r, o0, none⟩ y0).setCell ⟨r, o1, none⟩ y1).setCell ⟨r, o2, none⟩ y2).setCell ⟨r, o3, none⟩ y3).cell? p6 = some x6 ∧ ((((wa.setCell ⟨r, o0, none⟩ y0).setCell ⟨r, o1, none⟩ y1).setCell ⟨r, o2, none⟩ y2).setCell ⟨r, o3, none⟩ y3).cell? p7 = some x7 ∧ Below w0.heap.size w0 ((((wa.setCell ⟨r, o0, none⟩ y0).setCell ⟨r, o1, none⟩ y1).setCell ⟨r, o2, none⟩ y2).setCell ⟨r, o3, none⟩ y3) :=
  ⟨(cell_fillq h0 _ _ _ _ _ _ _ _).trans h.1, (cell_fillq h1 _ _ _ _ _ _ _ _).trans h.2.1, (cell_fillq h2 _ _ _ _ _ _ _ _).trans h.2.2.1, (cell_fillq h3 _ _ _ _ _ _ _ _).trans h.2.2.2.1, (cell_fillq h4 _ _ _ _ _ _ _ _).trans h.2.2.2.2.1, (cell_fillq h5 _ _ _ _ _ _ _ _).trans h.2.2.2.2.2.1, (cell_fillq h6 _ _ _ _ _ _ _ _).trans h.2.2.2.2.2.2.1, (cell_fillq h7 _ _ _ _ _ _ _ _).trans h.2.2.2.2.2.2.2.1, below_fillq h.2.2.2.2.2.2.2.2 hr _ _ _ _ _ _ _ _⟩
theorem kP8 {p0 p1 p2 p3 p4 p5 p6 p7 : Addr} {x0 x1 x2 x3 x4 x5 x6 x7 y0 y1 : Value} {o0 o1 : Nat} {w0 wa : World} {r : Nat} (h : wa.cell? p0 = some x0 ∧ wa.cell? p1 = some x1 ∧ wa.cell? p2 = some x2 ∧ wa.cell? p3 = some x3 ∧ wa.cell? p4 = some x4 ∧ wa.cell? p5 = some x5 ∧ wa.cell? p6 = some x6 ∧ wa.cell? p7 = some x7 ∧ Below w0.heap.size w0 wa) (hr : w0.heap.size ≤ r) (h0 : r ≠ p0.block) (h1 : r ≠ p1.block) (h2 : r ≠ p2.block) (h3 : r ≠ p3.block) (h4 : r ≠ p4.block) (h5 : r ≠ p5.block) (h6 : r ≠ p6.block) (h7 : r ≠ p7.block) : ((wa.setCell ⟨r, o0, none⟩ y0).setCell ⟨r, o1, none⟩ y1).cell? p0 = some x0 ∧ ((wa.setCell ⟨r, o0, none⟩ y0).setCell ⟨r, o1, none⟩ y1).cell? p1 = some x1 ∧ ((wa.setCell ⟨r, o0, none⟩ y0).setCell ⟨r, o1, none⟩ y1).cell? p2 = some x2 ∧ ((wa.setCell ⟨r, o0, none⟩ y0).setCell ⟨r, o1, none⟩ y1).cell? p3 = some x3 ∧ ((wa.setCell ⟨r, o0, none⟩ y0).setCell ⟨r, o1, none⟩ y1).cell? p4 = some x4 ∧ ((wa.setCell ⟨r, o0, none⟩ y0).setCell ⟨r, o1, none⟩ y1).cell? p5 = some x5 ∧ ((wa.setCell ⟨r, o0, none⟩ y0).setCell ⟨r, o1, none⟩ y1).cell? p6 = some x6 ∧ ((wa.setCell ⟨r, o0, none⟩ y0).setCell ⟨r, o1, none⟩ y1).cell? p7 = some x7 ∧ Below w0.heap.size w0 ((wa.setCell ⟨r, o0, none⟩ y0).setCell ⟨r, o1, none⟩ y1) :=
  ⟨(cell_fillp h0 _ _ _ _).trans h.1, (cell_fillp h1 _ _ _ _).trans h.2.1, (cell_fillp h2 _ _ _ _).trans h.2.2.1, (cell_fillp h3 _ _ _ _).trans h.2.2.2.1, (cell_fillp h4 _ _ _ _).trans h.2.2.2.2.1, (cell_fillp h5 _ _ _ _).trans h.2.2.2.2.2.1, (cell_fillp h6 _ _ _ _).trans h.2.2.2.2.2.2.1, (cell_fillp h7 _ _ _ _).trans h.2.2.2.2.2.2.2.1, ((h.2.2.2.2.2.2.2.2).setCell hr _).setCell hr _⟩
/-- a list whose first ones were laid anew -/
def updK {α : Type} (l : List α) (t : Nat → α) : Nat → List α
  | 0 => l
  | j + 1 => (updK l t j).set j (t j)
theorem updK_len {α : Type} (l : List α) (t : Nat → α) : ∀ j, (updK l t j).length = l.length
  | 0 => rfl
  | j + 1 => by rw [updK, List.length_set, updK_len l t j]
theorem updK_at {α : Type} (l : List α) (t : Nat → α) : ∀ j k, j ≤ k → (updK l t j)[k]? = l[k]?
  | 0, k, _ => rfl
  | j + 1, k, h => by rw [updK, List.getElem?_set_ne (by omega), updK_at l t j k (by omega)]
theorem updK_low {α : Type} (l : List α) (t : Nat → α) : ∀ j k, k < j → j ≤ l.length → (updK l t j)[k]? = some (t k)
  | j + 1, k, h, hj => by
    rw [updK]
    by_cases e : j = k
    · subst e
      rw [List.getElem?_set_self (by rw [updK_len]; omega)]
    · rw [List.getElem?_set_ne e]
      exact updK_low l t j k (by omega) (by omega)
theorem updK_all {α : Type} (l : List α) (t : Nat → α) (hl : l.length = 24) : updK l t 24 = (List.range 24).map t := by
  apply List.ext_getElem?
  intro k
  by_cases hk : k < 24
  · rw [updK_low l t 24 k hk (by omega)]; simp [hk]
  · rw [List.getElem?_eq_none (by rw [updK_len]; omega), List.getElem?_eq_none (by simp; omega)]
def apply2 (q : Q4) (v : Nat × Nat) : Nat × Nat := (andn v.1 q.2.2.1 ||| q.1 &&& q.2.2.1, andn v.2 q.2.2.2 ||| q.2.1 &&& q.2.2.2)
def applyC (l : List Q4) (m : List (Nat × Nat)) : List (Nat × Nat) := (List.range 24).map fun k => apply2 (cq l k) (wq m k)

theorem andn_and (a c x : Nat) : andn (a &&& c) x = a &&& andn c x := by unfold andn; rw [Nat.and_assoc]
theorem andn_zero (c : Nat) (hc : c < 18446744073709551616) : andn c 0 = c := by
  unfold andn
  apply Nat.eq_of_testBit_eq
  intro i
  rw [Nat.testBit_and, show (18446744073709551615 - 0 : Nat) = 2 ^ 64 - 1 by decide, Nat.testBit_two_pow_sub_one]
  by_cases h : i < 64
  · simp [h]
  · rw [tb_high c i hc (by omega)]; simp
theorem isC.cq {l : List Q4} (h : isC l) (k : Nat) : (cq l k).1 < 18446744073709551616 ∧ (cq l k).2.1 < 18446744073709551616 ∧ (cq l k).2.2.1 < 18446744073709551616 ∧ (cq l k).2.2.2 < 18446744073709551616 := by
  by_cases hk : k < 24
  · obtain ⟨a, b, c, d, e, h1, h2, h3, h4⟩ := h.get hk
    rw [cq_at e]; exact ⟨h1, h2, h3, h4⟩
  · have : l[k]? = none := List.getElem?_eq_none (by rw [h.1]; omega)
    unfold Go.Proofs.Ytlincickgleddaa.cq
    rw [List.getD_eq_getElem?_getD, this]
    simp
theorem andn_or' (x h : Nat) (hx : x < 18446744073709551616) (hh : h < 18446744073709551616) : andn x h ||| h = x ||| h := by
  apply Nat.eq_of_testBit_eq
  intro i
  rw [Nat.testBit_or, Nat.testBit_or, tb_andn x h hh]
  by_cases hi : i < 64
  · cases x.testBit i <;> cases h.testBit i <;> simp [hi]
  · rw [tb_high x i hx (by omega)]; simp
def rover4 (q r : Q4) : Q4 := (andn q.1 r.2.2.1 ||| r.1, andn q.2.1 r.2.2.2 ||| r.2.1, q.2.2.1 ||| r.2.2.1, q.2.2.2 ||| r.2.2.2)
theorem rover4_eq (q r : Q4) (h1 : q.2.2.1 < 18446744073709551616) (h2 : q.2.2.2 < 18446744073709551616) (h3 : r.2.2.1 < 18446744073709551616) (h4 : r.2.2.2 < 18446744073709551616) : rover4 (clean4 q) (clean4 r) = over4 q r := by
  unfold rover4 over4 clean4
  simp only [andn_and]
  rw [andn_or' _ _ h1 h3, andn_or' _ _ h2 h4]
theorem cleanC_isC {l : List Q4} (h : isC l) : isC (cleanC l) := by
  refine ⟨map_len _, fun p hp => ?_⟩
  obtain ⟨k, hk, rfl⟩ := List.mem_map.1 hp
  obtain ⟨h1, h2, h3, h4⟩ := h.cq k
  exact ⟨and_lt _ _ h1, and_lt _ _ h2, h3, h4⟩


end Go.Proofs.Ytlincickgleddaa
