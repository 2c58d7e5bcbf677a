import Derived.Test.YtlincickgleddaaR
import Derived.Test.YtlincickgleddaaGa
import Derived.Test.YtlincickgleddaaTg
import Derived.Test.YtlincickgleddaaQa
import Derived.Test.YtlincickgleddaaQb
import Derived.Test.YtlincickgleddaaQc
import Derived.Test.YtlincickgleddaaQf
import Derived.Below
import Derived.BigQuiet
import Derived.BigRegion
import Derived.ChangeAlike
import Derived.ChangeKeysEq
import Derived.ChangeSame
import Derived.DataElems
import Derived.Deep.MidRow
import Derived.Deep.QuietTactic
import Derived.Deep.RegionHeld
import Derived.Deep.RegionHeld3
import Derived.Deep.RegionLaw
import Derived.Deep.RegionLawGrows
import Derived.Deep.RegionWith
import Derived.Deep.WholeRow
import Derived.Great.BuildSlice
import Derived.Handy
import Derived.Laws.AppendOwn
import Derived.Laws.AppendOwnNone
import Derived.Laws.BitsAllLaws
import Derived.Laws.BitsLemmas
import Derived.Laws.CopyOwn
import Derived.Laws.OwnMore
import Derived.Laws.Rows
import Derived.Laws.StructEq
import Derived.Laws.Tables
import Derived.Lib.BitFns
import Derived.Lib.SmallJoins
import Derived.OpenShut
import Derived.ProofKit
import Derived.RegionTactic
import Derived.WalkKit
import Derived.WalkLawsBesides
import Derived.WalkSmall
import Derived.WalkSpells
import Derived.WideShapes
namespace Go.Proofs.Ytlincickgleddaa
open Go Go.RowKit
set_option linter.unusedVariables false
set_option linter.unusedSimpArgs false

theorem z24q_isC : isC z24q := isC_of _ (by decide +kernel)

theorem isC_map (t : Nat → Q4) (h : ∀ k, k < 24 → (t k).1 < 18446744073709551616 ∧ (t k).2.1 < 18446744073709551616 ∧ (t k).2.2.1 < 18446744073709551616 ∧ (t k).2.2.2 < 18446744073709551616) : isC ((List.range 24).map t) := by
  refine ⟨by simp, fun p hp => ?_⟩
  obtain ⟨k, hk, rfl⟩ := List.mem_map.1 hp
  exact h k (List.mem_range.1 hk)

theorem cq_lt {l : List Q4} (hl : isC l) {k : Nat} (hk : k < 24) : (cq l k).1 < 18446744073709551616 ∧ (cq l k).2.1 < 18446744073709551616 ∧ (cq l k).2.2.1 < 18446744073709551616 ∧ (cq l k).2.2.2 < 18446744073709551616 := by
  obtain ⟨a, b, c, d, e, h1, h2, h3, h4⟩ := hl.get hk
  rw [cq_at e]; exact ⟨h1, h2, h3, h4⟩

theorem meetC_isC (l m : List Q4) (hl : isC l) (hm : isC m) : isC (meetC l m) := by
  unfold meetC mapB
  split
  · refine isC_map _ (fun k hk => ?_)
    obtain ⟨a1, a2, a3, a4⟩ := cq_lt hl hk
    obtain ⟨b1, b2, b3, b4⟩ := cq_lt hm hk
    exact ⟨mz_lt _ _ (or_lt _ _ (and_lt _ _ a1) (and_lt _ _ b1)), mz_lt _ _ (or_lt _ _ (and_lt _ _ a2) (and_lt _ _ b2)), mz_lt _ _ (or_lt _ _ a3 b3), mz_lt _ _ (or_lt _ _ a4 b4)⟩
  · exact z24q_isC

end Go.Proofs.Ytlincickgleddaa
