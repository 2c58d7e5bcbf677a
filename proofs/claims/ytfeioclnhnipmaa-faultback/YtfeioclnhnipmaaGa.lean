import Derived.Test.YtfeioclnhnipmaaHa
import Derived.Below
import Derived.BigQuiet
import Derived.BigRegion
import Derived.ChangeAlike
import Derived.ChangeKeysEq
import Derived.ChangeSame
import Derived.DataElems
import Derived.Deep.MidRow
import Derived.Deep.QuietTactic
import Derived.Deep.RegionHeld
import Derived.Deep.RegionHeld3
import Derived.Deep.RegionLaw
import Derived.Deep.RegionLawGrows
import Derived.Deep.RegionWith
import Derived.Deep.WholeRow
import Derived.Great.BuildSlice
import Derived.Handy
import Derived.Laws.AppendOwn
import Derived.Laws.AppendOwnNone
import Derived.Laws.BitsAllLaws
import Derived.Laws.BitsLemmas
import Derived.Laws.CopyOwn
import Derived.Laws.OwnMore
import Derived.Laws.Rows
import Derived.Laws.StructEq
import Derived.Laws.Tables
import Derived.Lib.BitFns
import Derived.Lib.SmallJoins
import Derived.OpenShut
import Derived.ProofKit
import Derived.RegionTactic
import Derived.WalkKit
import Derived.WalkLawsBesides
import Derived.WalkSmall
import Derived.WalkSpells
import Derived.WideShapes
namespace Go.Proofs.Ytfeioclnhnipmaa
open Go Go.RowKit
set_option linter.unusedVariables false
set_option linter.unusedSimpArgs false

/-- a block of the call's own holds these cells, whatever its type -/
def AB (w : World) (g : Nat) (ty : TypeId) (cs : List Value) : Prop := w.heap[g]? = some (.cells cs.toArray ty)

theorem AB.lt {w : World} {g : Nat} {ty : TypeId} {cs : List Value} (h : AB w g ty cs) : g < w.heap.size := (Array.getElem?_eq_some_iff.1 h).1

theorem AB.below {w w' : World} {g B : Nat} {ty : TypeId} {cs : List Value} (h : AB w g ty cs) (hb : Below B w w') (hg : g < B) : AB w' g ty cs := by
  unfold AB at *; rw [hb.block g hg]; exact h

theorem AB.later {w w' : World} {g : Nat} {ty : TypeId} {cs : List Value} (h : AB w g ty cs) (hb : Below w.heap.size w w') : AB w' g ty cs := h.below hb h.lt

theorem AB.new (w : World) (ty : TypeId) (cs : List Value) : AB (w.alloc (.cells cs.toArray ty)) w.heap.size ty cs := heap_alloc_last w _

theorem AB.alloc {w : World} {g : Nat} {ty : TypeId} {cs : List Value} (h : AB w g ty cs) (o : Obj) : AB (w.alloc o) g ty cs := h.later ((Below.refl _ _).alloc (Nat.le_refl _) _)

theorem AB.range {w : World} {g : Nat} {ty : TypeId} {cs : List Value} (h : AB w g ty cs) : w.rangeAt g 0 cs := by
  intro j v hv
  rw [cell_of_row w g (0 + j) _ ty _ h, Nat.zero_add]
  simpa using hv

theorem AB.cell {w : World} {g j : Nat} {ty : TypeId} {cs : List Value} {v : Value} (h : AB w g ty cs) (hj : cs[j]? = some v) : w.cell? ⟨g, j, none⟩ = some v ∧ w.frozen? ⟨g, j, none⟩ = false := by
  refine ⟨?_, ?_⟩
  · rw [cell_of_row w g j _ ty _ h]; simpa using hj
  · unfold AB at h; simp [World.frozen?, h]

theorem AB.set {w : World} {g j : Nat} {ty : TypeId} {cs : List Value} (h : AB w g ty cs) (v : Value) : AB (w.setCell ⟨g, j, none⟩ v) g ty (cs.set j v) := by
  unfold AB at *
  rw [heap_setCell_same w g j _ ty v h]
  simp

theorem AB.far {w : World} {g f o : Nat} {ty : TypeId} {cs : List Value} (h : AB w g ty cs) (u : Value) (hne : g ≠ f) : AB (w.setCell ⟨f, o, none⟩ u) g ty cs := by
  unfold AB at *
  rw [Go.heap_setCell_other w ⟨f, o, none⟩ g u hne]; exact h

theorem AB.row {w : World} {g : Nat} {ty : TypeId} {cs cs' : List Value} (h : AB w g ty cs) : AB (w.setRow g cs'.toArray) g ty cs' := setRow_heap w g _ _ ty _ h

theorem AB.row_far {w : World} {g f : Nat} {ty : TypeId} {cs : List Value} (h : AB w g ty cs) (ds : Array Value) (hne : g ≠ f) : AB (w.setRow f ds) g ty cs := by
  unfold AB at *
  rw [Go.setRow_other w f g ds hne]; exact h

theorem below_row (w : World) (g B : Nat) (cs : Array Value) (hB : B ≤ g) : Below B w (w.setRow g cs) := by
  refine ⟨rfl, rfl, rfl, by simp, fun k hk => ?_⟩
  rw [Go.setRow_other w g k cs (by omega)]

end Go.Proofs.Ytfeioclnhnipmaa
