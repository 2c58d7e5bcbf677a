import Derived.Test.YtlincickgleddaaProg
import Derived.Test.YtlincickgleddaaGa
import Derived.Test.YtlincickgleddaaQa
import Derived.Test.YtlincickgleddaaQb
import Derived.Below
import Derived.BigQuiet
import Derived.BigRegion
import Derived.ChangeAlike
import Derived.ChangeKeysEq
import Derived.ChangeSame
import Derived.DataElems
import Derived.Deep.MidRow
import Derived.Deep.QuietTactic
import Derived.Deep.RegionHeld
import Derived.Deep.RegionHeld3
import Derived.Deep.RegionLaw
import Derived.Deep.RegionLawGrows
import Derived.Deep.RegionWith
import Derived.Deep.WholeRow
import Derived.Great.BuildSlice
import Derived.Handy
import Derived.Laws.AppendOwn
import Derived.Laws.AppendOwnNone
import Derived.Laws.BitsAllLaws
import Derived.Laws.BitsLemmas
import Derived.Laws.CopyOwn
import Derived.Laws.OwnMore
import Derived.Laws.Rows
import Derived.Laws.StructEq
import Derived.Laws.Tables
import Derived.Lib.BitFns
import Derived.Lib.SmallJoins
import Derived.OpenShut
import Derived.ProofKit
import Derived.RegionTactic
import Derived.WalkKit
import Derived.WalkLawsBesides
import Derived.WalkSmall
import Derived.WalkSpells
import Derived.WideShapes
namespace Go.Proofs.Ytlincickgleddaa
open Go Go.RowKit
set_option linter.unusedVariables false
set_option linter.unusedSimpArgs false

theorem isC_of (l : List Q4) (h : (decide (l.length = 24) && l.all fun p => decide (p.1 < 18446744073709551616 ∧ p.2.1 < 18446744073709551616 ∧ p.2.2.1 < 18446744073709551616 ∧ p.2.2.2 < 18446744073709551616)) = true) : isC l := by
  simp only [Bool.and_eq_true, decide_eq_true_eq, List.all_eq_true] at h
  exact ⟨h.1, fun p hp => h.2 p hp⟩

theorem zero_next (w3 : World) (M : List Q4) : AB (((w3.alloc (.cells (tdc z24q).toArray 29)).setRow w3.heap.size (tdc M).toArray).alloc (.cells (tdc z24q).toArray 29)) (w3.heap.size + 1) 29 (tdc z24q) := by
  have e : ((w3.alloc (.cells (tdc z24q).toArray 29)).setRow w3.heap.size (tdc M).toArray).heap.size = w3.heap.size + 1 := by simp
  have h1 := AB.new ((w3.alloc (.cells (tdc z24q).toArray 29)).setRow w3.heap.size (tdc M).toArray) 29 (tdc z24q)
  rw [e, ← zcC] at h1
  exact h1

end Go.Proofs.Ytlincickgleddaa
