import Derived.Test.YtlincickgleddaaTb
import Derived.Below
import Derived.BigQuiet
import Derived.BigRegion
import Derived.ChangeAlike
import Derived.ChangeKeysEq
import Derived.ChangeSame
import Derived.DataElems
import Derived.Deep.MidRow
import Derived.Deep.QuietTactic
import Derived.Deep.RegionHeld
import Derived.Deep.RegionHeld3
import Derived.Deep.RegionLaw
import Derived.Deep.RegionLawGrows
import Derived.Deep.RegionWith
import Derived.Deep.WholeRow
import Derived.Great.BuildSlice
import Derived.Handy
import Derived.Laws.AppendOwn
import Derived.Laws.AppendOwnNone
import Derived.Laws.BitsAllLaws
import Derived.Laws.BitsLemmas
import Derived.Laws.CopyOwn
import Derived.Laws.OwnMore
import Derived.Laws.Rows
import Derived.Laws.StructEq
import Derived.Laws.Tables
import Derived.Lib.BitFns
import Derived.Lib.SmallJoins
import Derived.OpenShut
import Derived.ProofKit
import Derived.RegionTactic
import Derived.WalkKit
import Derived.WalkLawsBesides
import Derived.WalkSmall
import Derived.WalkSpells
import Derived.WideShapes
namespace Go.Proofs.Ytlincickgleddaa
open Go Go.RowKit
set_option linter.unusedVariables false
set_option linter.unusedSimpArgs false

theorem keepA8s {p0 p1 p2 p3 p4 p5 p6 p7 : Addr} {x0 x1 x2 x3 x4 x5 x6 x7 y0 y1 y2 y3 : Value} {w0 wa : World} {g : Nat} (h : wa.cell? p0 = some x0 ∧ wa.cell? p1 = some x1 ∧ wa.cell? p2 = some x2 ∧ wa.cell? p3 = some x3 ∧ wa.cell? p4 = some x4 ∧ wa.cell? p5 = some x5 ∧ wa.cell? p6 = some x6 ∧ wa.cell? p7 = some x7 ∧ Below w0.heap.size w0 wa) (hg : w0.heap.size ≤ g) (n0 : p0.block < w0.heap.size) (n1 : p1.block < w0.heap.size) (n2 : p2.block < w0.heap.size) (n3 : p3.block < w0.heap.size) (n4 : p4.block < w0.heap.size) (n5 : p5.block < w0.heap.size) (n6 : p6.block < w0.heap.size) (n7 : p7.block < w0.heap.size) :
    ((((wa.setCell ⟨g, 0, none⟩ y0).setCell ⟨g, 1, none⟩ y1).setCell ⟨g, 2, none⟩ y2).setCell ⟨g, 3, none⟩ y3).cell? p0 = some x0 ∧ ((((wa.setCell ⟨g, 0, none⟩ y0).setCell ⟨g, 1, none⟩ y1).setCell ⟨g, 2, none⟩ y2).setCell ⟨g, 3, none⟩ y3).cell? p1 = some x1 ∧ ((((wa.setCell ⟨g, 0, none⟩ y0).setCell ⟨g, 1, none⟩ y1).setCell ⟨g, 2, none⟩ y2).setCell ⟨g, 3, none⟩ y3).cell? p2 = some x2 ∧ ((((wa.setCell ⟨g, 0, none⟩ y0).setCell ⟨g, 1, none⟩ y1).setCell ⟨g, 2, none⟩ y2).setCell ⟨g, 3, none⟩ y3).cell? p3 = some x3 ∧ ((((wa.setCell ⟨g, 0, none⟩ y0).setCell ⟨g, 1, none⟩ y1).setCell ⟨g, 2, none⟩ y2).setCell ⟨g, 3, none⟩ y3).cell? p4 = some x4 ∧ ((((wa.setCell ⟨g, 0, none⟩ y0).setCell ⟨g, 1, none⟩ y1).setCell ⟨g, 2, none⟩ y2).setCell ⟨g, 3, none⟩ y3).cell? p5 = some x5 ∧ ((((wa.setCell ⟨g, 0, none⟩ y0).setCell ⟨g, 1, none⟩ y1).setCell ⟨g, 2, none⟩ y2).setCell ⟨g, 3, none⟩ y3).cell? p6 = some x6 ∧ ((((wa.setCell ⟨g, 0, none⟩ y0).setCell ⟨g, 1, none⟩ y1).setCell ⟨g, 2, none⟩ y2).setCell ⟨g, 3, none⟩ y3).cell? p7 = some x7 ∧ Below w0.heap.size w0 ((((wa.setCell ⟨g, 0, none⟩ y0).setCell ⟨g, 1, none⟩ y1).setCell ⟨g, 2, none⟩ y2).setCell ⟨g, 3, none⟩ y3) :=
  ⟨(cell_fill (by omega) _ _ _ _).trans h.1, (cell_fill (by omega) _ _ _ _).trans h.2.1, (cell_fill (by omega) _ _ _ _).trans h.2.2.1, (cell_fill (by omega) _ _ _ _).trans h.2.2.2.1, (cell_fill (by omega) _ _ _ _).trans h.2.2.2.2.1, (cell_fill (by omega) _ _ _ _).trans h.2.2.2.2.2.1, (cell_fill (by omega) _ _ _ _).trans h.2.2.2.2.2.2.1, (cell_fill (by omega) _ _ _ _).trans h.2.2.2.2.2.2.2.1, below_fill h.2.2.2.2.2.2.2.2 hg _ _ _ _⟩

theorem cell_alloc_any {wa : World} {Z Z' : Obj} {p : Addr} {x : Value} (h : (wa.alloc Z).cell? p = some x) (n : p.block < wa.heap.size) : (wa.alloc Z').cell? p = some x := by
  rw [(below1 wa Z').cell n]; rw [(below1 wa Z).cell n] at h; exact h

theorem keepA8a {p0 p1 p2 p3 p4 p5 p6 p7 : Addr} {x0 x1 x2 x3 x4 x5 x6 x7 : Value} {w0 wa : World} {Z Z' : Obj} (h : (wa.alloc Z).cell? p0 = some x0 ∧ (wa.alloc Z).cell? p1 = some x1 ∧ (wa.alloc Z).cell? p2 = some x2 ∧ (wa.alloc Z).cell? p3 = some x3 ∧ (wa.alloc Z).cell? p4 = some x4 ∧ (wa.alloc Z).cell? p5 = some x5 ∧ (wa.alloc Z).cell? p6 = some x6 ∧ (wa.alloc Z).cell? p7 = some x7 ∧ Below w0.heap.size w0 (wa.alloc Z)) (hg : w0.heap.size ≤ wa.heap.size) (n0 : p0.block < w0.heap.size) (n1 : p1.block < w0.heap.size) (n2 : p2.block < w0.heap.size) (n3 : p3.block < w0.heap.size) (n4 : p4.block < w0.heap.size) (n5 : p5.block < w0.heap.size) (n6 : p6.block < w0.heap.size) (n7 : p7.block < w0.heap.size) :
    (wa.alloc Z').cell? p0 = some x0 ∧ (wa.alloc Z').cell? p1 = some x1 ∧ (wa.alloc Z').cell? p2 = some x2 ∧ (wa.alloc Z').cell? p3 = some x3 ∧ (wa.alloc Z').cell? p4 = some x4 ∧ (wa.alloc Z').cell? p5 = some x5 ∧ (wa.alloc Z').cell? p6 = some x6 ∧ (wa.alloc Z').cell? p7 = some x7 ∧ Below w0.heap.size w0 (wa.alloc Z') :=
  ⟨cell_alloc_any h.1 (by omega), cell_alloc_any h.2.1 (by omega), cell_alloc_any h.2.2.1 (by omega), cell_alloc_any h.2.2.2.1 (by omega), cell_alloc_any h.2.2.2.2.1 (by omega), cell_alloc_any h.2.2.2.2.2.1 (by omega), cell_alloc_any h.2.2.2.2.2.2.1 (by omega), cell_alloc_any h.2.2.2.2.2.2.2.1 (by omega), by
    obtain ⟨-, -, -, -, -, -, -, -, hb⟩ := h
    refine ⟨hb.os, hb.tape, hb.output, by simp; omega, fun k hk => ?_⟩
    rw [(below1 wa Z').block k (by omega), ← (below1 wa Z).block k (by omega)]; exact hb.block k hk⟩

end Go.Proofs.Ytlincickgleddaa
