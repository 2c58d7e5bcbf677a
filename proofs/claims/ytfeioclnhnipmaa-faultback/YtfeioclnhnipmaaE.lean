import Derived.Test.YtfeioclnhnipmaaA
import Derived.WalkKit
import Derived.WalkSpells
import Derived.WalkLawsBesides
import Derived.Below
import Derived.Handy
namespace Go.Proofs.Ytfeioclnhnipmaa
open Go Go.RowKit
set_option linter.unusedVariables false
set_option linter.unusedSimpArgs false
open Go.RowKit

theorem szB_false {s : Int} (h : szB s = false) : ¬ s = 1 ∧ ¬ s = 2 ∧ ¬ s = 4 := by
  simp [szB] at h; omega

end Go.Proofs.Ytfeioclnhnipmaa
