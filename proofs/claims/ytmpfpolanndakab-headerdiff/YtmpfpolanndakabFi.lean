import Derived.Test.YtmpfpolanndakabG
import Derived.Test.YtmpfpolanndakabFe
import Derived.Deep.QuietTactic
import Derived.BigQuiet
import Derived.WalkSmall
import Derived.Laws.StructEq
import Derived.WalkKit
import Derived.WalkSpells
import Derived.WalkLawsBesides
import Derived.Below
import Derived.Handy
namespace Go.Proofs.Ytmpfpolanndakab
open Go Go.RowKit
set_option linter.unusedVariables false
set_option linter.unusedSimpArgs false

theorem take_same {α : Type} {l m : List α} {k : Nat} {z : α} (h : l.take k = m.take k) (h1 : l[k]? = some z) (h2 : m[k]? = some z) : l.take (k + 1) = m.take (k + 1) := by
  rw [List.take_add_one, List.take_add_one, h, h1, h2]

theorem ne_at {α : Type} {l m : List α} {k : Nat} {z y : α} (h1 : l[k]? = some z) (h2 : m[k]? = some y) (h : ¬ z = y) : ¬ l = m := by
  intro e
  subst e
  rw [h1] at h2
  cases h2
  exact h rfl

end Go.Proofs.Ytmpfpolanndakab
