import Derived.Test.YtkhpbkdblhcepaaXgd
import Derived.Test.YtkhpbkdblhcepaaXdd
import Derived.Below
import Derived.BigQuiet
import Derived.BigRegion
import Derived.ChangeAlike
import Derived.ChangeKeysEq
import Derived.ChangeSame
import Derived.DataElems
import Derived.Deep.MidRow
import Derived.Deep.QuietTactic
import Derived.Deep.RegionHeld
import Derived.Deep.RegionHeld3
import Derived.Deep.RegionLaw
import Derived.Deep.RegionLawGrows
import Derived.Deep.RegionWith
import Derived.Deep.WholeRow
import Derived.Great.BuildSlice
import Derived.Handy
import Derived.Laws.AppendOwn
import Derived.Laws.AppendOwnNone
import Derived.Laws.BitsAllLaws
import Derived.Laws.BitsLemmas
import Derived.Laws.CopyOwn
import Derived.Laws.OwnMore
import Derived.Laws.Rows
import Derived.Laws.StructEq
import Derived.Laws.Tables
import Derived.Lib.BitFns
import Derived.Lib.SmallJoins
import Derived.OpenShut
import Derived.ProofKit
import Derived.RegionTactic
import Derived.WalkKit
import Derived.WalkLawsBesides
import Derived.WalkSmall
import Derived.WalkSpells
import Derived.WideShapes
namespace Go.Proofs.Ytkhpbkdblhcepaa
section
open Go Go.RowKit
set_option maxRecDepth 100000
set_option linter.unusedVariables false
set_option linter.unusedSimpArgs false

def hv (l : List (Nat × Nat)) : Value := .agg (wdc l).toArray
end

section
open Go Go.RowKit
set_option maxRecDepth 100000
set_option linter.unusedVariables false
set_option linter.unusedSimpArgs false

/-- a header with another number at a field -/
def hset (l : List (Nat × Nat)) (f : Int) (p : Nat × Nat) : List (Nat × Nat) := if 0 ≤ f then l.set f.toNat p else l
end

section
open Go Go.RowKit
set_option maxRecDepth 100000
set_option linter.unusedVariables false
set_option linter.unusedSimpArgs false

def z24 : List (Nat × Nat) := List.replicate 24 (0, 0)
end

section
open Go Go.RowKit
set_option maxRecDepth 100000
set_option linter.unusedVariables false
set_option linter.unusedSimpArgs false

end

section
open Go Go.RowKit
set_option maxRecDepth 100000
set_option linter.unusedVariables false
set_option linter.unusedSimpArgs false

/-- a read may be taken first -/
theorem takeR {P : Program} {ops : Array Oper} {Q : Exit → Act → World → Prop} {S : World → Prop} {md : Region.Mode} {fuel : Nat} {listed : Array Bool} {a : Act} {w : World} {i : Nat} {oi : Oper} {v : Value} (hi : ops[i]? = some oi)
    (hs : Region.noSelect ops = true) (hf : Region.free md ops listed i = true) (hr : (Region.ready md ops listed).contains i = true)
    (d : Option Tmp) (hd : oi.dst = d) (hy : YieldsIf P ops S oi v a) (hQ : ∀ c a w, Q (.panic c) (a.put d v) w → Q (.panic c) a w) (h0 : S w)
    (h : wpAnyH P md ops Q S fuel (listed.setIfInBounds i true) (a.put d v) w) : wpAnyH P md ops Q S (fuel + 1) listed a w := by
  subst hd
  exact wpAnyH_take hi hs hf hr hQ hy h0 h
end

section
open Go Go.RowKit
set_option maxRecDepth 100000
set_option linter.unusedVariables false
set_option linter.unusedSimpArgs false

def h5 : List (Nat × Nat) := z24.set 5 (0, 8197)
end

section
open Go Go.RowKit
set_option maxRecDepth 100000
set_option linter.unusedVariables false
set_option linter.unusedSimpArgs false

/-- a block of the call's own holds these cells, whatever its type -/
def AB (w : World) (g : Nat) (ty : TypeId) (cs : List Value) : Prop := w.heap[g]? = some (.cells cs.toArray ty)

theorem AB.lt {w : World} {g : Nat} {ty : TypeId} {cs : List Value} (h : AB w g ty cs) : g < w.heap.size := (Array.getElem?_eq_some_iff.1 h).1

theorem AB.below {w w' : World} {g B : Nat} {ty : TypeId} {cs : List Value} (h : AB w g ty cs) (hb : Below B w w') (hg : g < B) : AB w' g ty cs := by
  unfold AB at *; rw [hb.block g hg]; exact h

theorem AB.later {w w' : World} {g : Nat} {ty : TypeId} {cs : List Value} (h : AB w g ty cs) (hb : Below w.heap.size w w') : AB w' g ty cs := h.below hb h.lt

theorem AB.new (w : World) (ty : TypeId) (cs : List Value) : AB (w.alloc (.cells cs.toArray ty)) w.heap.size ty cs := heap_alloc_last w _

theorem AB.alloc {w : World} {g : Nat} {ty : TypeId} {cs : List Value} (h : AB w g ty cs) (o : Obj) : AB (w.alloc o) g ty cs := h.later ((Below.refl _ _).alloc (Nat.le_refl _) _)

theorem AB.cell {w : World} {g j : Nat} {ty : TypeId} {cs : List Value} {v : Value} (h : AB w g ty cs) (hj : cs[j]? = some v) : w.cell? ⟨g, j, none⟩ = some v ∧ w.frozen? ⟨g, j, none⟩ = false := by
  refine ⟨?_, ?_⟩
  · rw [cell_of_row w g j _ ty _ h]; simpa using hj
  · unfold AB at h; simp [World.frozen?, h]

theorem AB.set {w : World} {g j : Nat} {ty : TypeId} {cs : List Value} (h : AB w g ty cs) (v : Value) : AB (w.setCell ⟨g, j, none⟩ v) g ty (cs.set j v) := by
  unfold AB at *
  rw [heap_setCell_same w g j _ ty v h]
  simp

theorem AB.far {w : World} {g f o : Nat} {ty : TypeId} {cs : List Value} (h : AB w g ty cs) (u : Value) (hne : g ≠ f) : AB (w.setCell ⟨f, o, none⟩ u) g ty cs := by
  unfold AB at *
  rw [Go.heap_setCell_other w ⟨f, o, none⟩ g u hne]; exact h
end

section
open Go Go.RowKit
set_option maxRecDepth 100000
set_option linter.unusedVariables false
set_option linter.unusedSimpArgs false

theorem AB.two {w : World} {g : Nat} {ty : TypeId} {a b : Value} (h : AB w g ty [a, b]) : w.cell? ⟨g, 0, none⟩ = some a ∧ w.cell? ⟨g, 1, none⟩ = some b ∧ w.frozen? ⟨g, 0, none⟩ = false ∧ w.frozen? ⟨g, 1, none⟩ = false :=
  ⟨(h.cell (j := 0) rfl).1, (h.cell (j := 1) rfl).1, (h.cell (j := 0) rfl).2, (h.cell (j := 1) rfl).2⟩

/-- a block that was laid stays, as it was, where more is laid -/
theorem AB.at0 (w : World) (t : TypeId) (cs : List Value) : AB (w.alloc (.cells cs.toArray t)) w.heap.size t cs := AB.new w t cs

theorem AB.at1 (w : World) (o : Obj) (t : TypeId) (cs : List Value) : AB ((w.alloc o).alloc (.cells cs.toArray t)) (w.heap.size + 1) t cs := by
  have := AB.new (w.alloc o) t cs
  simpa using this

theorem AB.at2 (w : World) (o o' : Obj) (t : TypeId) (cs : List Value) : AB (((w.alloc o).alloc o').alloc (.cells cs.toArray t)) (w.heap.size + 1 + 1) t cs := by
  have := AB.new ((w.alloc o).alloc o') t cs
  simpa using this

theorem below1 (w : World) (o : Obj) : Below w.heap.size w (w.alloc o) := (Below.refl _ _).alloc (Nat.le_refl _) _

theorem below2 (w : World) (o o' : Obj) : Below w.heap.size w ((w.alloc o).alloc o') := (below1 w o).alloc (by simp) _

theorem below3 (w : World) (o o' o'' : Obj) : Below w.heap.size w (((w.alloc o).alloc o').alloc o'') := (below2 w o o').alloc (by simp; omega) _
end

end Go.Proofs.Ytkhpbkdblhcepaa

