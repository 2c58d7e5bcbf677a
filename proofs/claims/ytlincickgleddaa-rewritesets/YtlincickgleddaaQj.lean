import Derived.Test.YtlincickgleddaaGa
import Derived.Test.YtlincickgleddaaQc
import Derived.Test.YtlincickgleddaaQd
import Derived.Below
import Derived.BigQuiet
import Derived.BigRegion
import Derived.ChangeAlike
import Derived.ChangeKeysEq
import Derived.ChangeSame
import Derived.DataElems
import Derived.Deep.MidRow
import Derived.Deep.QuietTactic
import Derived.Deep.RegionHeld
import Derived.Deep.RegionHeld3
import Derived.Deep.RegionLaw
import Derived.Deep.RegionLawGrows
import Derived.Deep.RegionWith
import Derived.Deep.WholeRow
import Derived.Great.BuildSlice
import Derived.Handy
import Derived.Laws.AppendOwn
import Derived.Laws.AppendOwnNone
import Derived.Laws.BitsAllLaws
import Derived.Laws.BitsLemmas
import Derived.Laws.CopyOwn
import Derived.Laws.OwnMore
import Derived.Laws.Rows
import Derived.Laws.StructEq
import Derived.Laws.Tables
import Derived.Lib.BitFns
import Derived.Lib.SmallJoins
import Derived.OpenShut
import Derived.ProofKit
import Derived.RegionTactic
import Derived.WalkKit
import Derived.WalkLawsBesides
import Derived.WalkSmall
import Derived.WalkSpells
import Derived.WideShapes
namespace Go.Proofs.Ytlincickgleddaa
open Go Go.RowKit
set_option linter.unusedVariables false
set_option linter.unusedSimpArgs false

def clK (l : List Q4) : Nat → List Q4
  | 0 => l
  | j + 1 => (clK l j).set j (clean4 (cq l j))

theorem clK_len (l : List Q4) : ∀ j, (clK l j).length = l.length
  | 0 => rfl
  | j + 1 => by rw [clK, List.length_set, clK_len l j]

theorem clK_at (l : List Q4) : ∀ j k, j ≤ k → (clK l j)[k]? = l[k]?
  | 0, _, _ => rfl
  | j + 1, k, h => by rw [clK, List.getElem?_set_ne (by omega), clK_at l j k (by omega)]

theorem clK_low (l : List Q4) (hl : l.length = 24) : ∀ j k, k < j → j ≤ 24 → (clK l j)[k]? = some (clean4 (cq l k))
  | 0, k, h, _ => by omega
  | j + 1, k, h, h2 => by
    rw [clK]
    by_cases e : k = j
    · subst e; rw [List.getElem?_set_self (by rw [clK_len, hl]; omega)]
    · rw [List.getElem?_set_ne (by omega), clK_low l hl j k (by omega) (by omega)]

theorem clK_all (l : List Q4) (hl : l.length = 24) : clK l 24 = cleanC l := by
  apply List.ext_getElem?
  intro k
  by_cases hk : k < 24
  · rw [clK_low l hl 24 k hk (Nat.le_refl _), cleanC_at l k hk]
  · rw [List.getElem?_eq_none (by rw [clK_len, hl]; omega), List.getElem?_eq_none (by simp [cleanC]; omega)]

end Go.Proofs.Ytlincickgleddaa
