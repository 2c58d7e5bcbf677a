import Derived.Test.YtlincickgleddaaFe
import Derived.Below
import Derived.BigQuiet
import Derived.BigRegion
import Derived.ChangeAlike
import Derived.ChangeKeysEq
import Derived.ChangeSame
import Derived.DataElems
import Derived.Deep.MidRow
import Derived.Deep.QuietTactic
import Derived.Deep.RegionHeld
import Derived.Deep.RegionHeld3
import Derived.Deep.RegionLaw
import Derived.Deep.RegionLawGrows
import Derived.Deep.RegionWith
import Derived.Deep.WholeRow
import Derived.Great.BuildSlice
import Derived.Handy
import Derived.Laws.AppendOwn
import Derived.Laws.AppendOwnNone
import Derived.Laws.BitsAllLaws
import Derived.Laws.BitsLemmas
import Derived.Laws.CopyOwn
import Derived.Laws.OwnMore
import Derived.Laws.Rows
import Derived.Laws.StructEq
import Derived.Laws.Tables
import Derived.Lib.BitFns
import Derived.Lib.SmallJoins
import Derived.OpenShut
import Derived.ProofKit
import Derived.RegionTactic
import Derived.WalkKit
import Derived.WalkLawsBesides
import Derived.WalkSmall
import Derived.WalkSpells
import Derived.WideShapes
namespace Go.Proofs.Ytlincickgleddaa
open Go Go.RowKit
set_option linter.unusedVariables false
set_option linter.unusedSimpArgs false

/-- a header: 24 numbers of two halves -/
def isH (l : List (Nat × Nat)) : Prop := l.length = 24 ∧ ∀ p ∈ l, p.1 < 18446744073709551616 ∧ p.2 < 18446744073709551616

def hv (l : List (Nat × Nat)) : Value := .agg (wdc l).toArray

theorem isH.at {l : List (Nat × Nat)} (h : isH l) {j : Nat} {p : Nat × Nat} (hp : l[j]? = some p) : p.1 < 18446744073709551616 ∧ p.2 < 18446744073709551616 := h.2 p (List.mem_of_getElem? hp)

theorem isH.get {l : List (Nat × Nat)} (h : isH l) {j : Nat} (hj : j < 24) : ∃ x y, l[j]? = some (x, y) ∧ x < 18446744073709551616 ∧ y < 18446744073709551616 := by
  have hj' : j < l.length := by rw [h.1]; exact hj
  have e : l[j]? = some l[j] := List.getElem?_eq_getElem hj'
  exact ⟨_, _, e, h.at e⟩

theorem wdc_set : ∀ (l : List (Nat × Nat)) (j x y : Nat), ((wdc l).set (j * 2) (.int .u64 (x : Int))).set (j * 2 + 1) (.int .u64 (y : Int)) = wdc (l.set j (x, y))
  | [], j, x, y => by simp [wdc]
  | p :: l, 0, x, y => by simp [wdc]
  | p :: l, j + 1, x, y => by
    have := wdc_set l j x y
    rw [show (j + 1) * 2 = j * 2 + 1 + 1 by omega]
    simp only [wdc, List.set_cons_succ, this]

/-- a block holds a header -/
def HB (w : World) (g : Nat) (l : List (Nat × Nat)) : Prop := w.heap[g]? = some (.cells (wdc l).toArray 31)

theorem HB.lt {w : World} {g : Nat} {l : List (Nat × Nat)} (h : HB w g l) : g < w.heap.size := by
  unfold HB at h
  exact (Array.getElem?_eq_some_iff.1 h).1

theorem HB.below {w w' : World} {g B : Nat} {l : List (Nat × Nat)} (h : HB w g l) (hb : Below B w w') (hg : g < B) : HB w' g l := by
  unfold HB at *; rw [hb.block g hg]; exact h

theorem HB.later {w w' : World} {g : Nat} {l : List (Nat × Nat)} (h : HB w g l) (hb : Below w.heap.size w w') : HB w' g l := h.below hb h.lt

theorem HB.cells {w : World} {g : Nat} {l : List (Nat × Nat)} (h : HB w g l) {j x y : Nat} (hj : l[j]? = some (x, y)) :
    w.cell? ⟨g, j * 2, none⟩ = some (.int .u64 (x : Int)) ∧ w.cell? ⟨g, j * 2 + 1, none⟩ = some (.int .u64 (y : Int)) ∧ w.frozen? ⟨g, j * 2, none⟩ = false ∧ w.frozen? ⟨g, j * 2 + 1, none⟩ = false := by
  obtain ⟨c0, c1⟩ := wdc_at l j _ hj
  refine ⟨?_, ?_, ?_, ?_⟩
  · rw [cell_of_row w g _ _ 31 _ h]; simpa using c0
  · rw [cell_of_row w g _ _ 31 _ h]; simpa using c1
  · unfold HB at h; simp [World.frozen?, h]
  · unfold HB at h; simp [World.frozen?, h]

theorem HB.set {w : World} {g : Nat} {l : List (Nat × Nat)} (h : HB w g l) (j x y : Nat) :
    HB ((w.setCell ⟨g, j * 2, none⟩ (.int .u64 (x : Int))).setCell ⟨g, j * 2 + 1, none⟩ (.int .u64 (y : Int))) g (l.set j (x, y)) := by
  unfold HB at *
  have h1 := heap_setCell_same w g (j * 2) _ 31 (.int .u64 (x : Int)) h
  have h2 := heap_setCell_same _ g (j * 2 + 1) _ 31 (.int .u64 (y : Int)) h1
  rw [h2, ← wdc_set]
  simp

theorem HB.far {w : World} {g f o : Nat} {l : List (Nat × Nat)} (h : HB w g l) (u : Value) (hne : g ≠ f) : HB (w.setCell ⟨f, o, none⟩ u) g l := by
  unfold HB at *
  rw [Go.heap_setCell_other w ⟨f, o, none⟩ g u hne]; exact h

end Go.Proofs.Ytlincickgleddaa
