import Derived.Test.YtmpfpolanndakaaK
import Derived.WalkKit
import Derived.WalkSpells
import Derived.WalkLawsBesides
import Derived.Below
import Derived.Handy
namespace Go.Proofs.Ytmpfpolanndakaa
open Go Go.RowKit
set_option linter.unusedVariables false
set_option linter.unusedSimpArgs false

theorem Bytes.isB_ {w : World} {v : Value} {l : List Int} (h : Bytes w v l) : isB l := by
  obtain ⟨a, cap, _, _, _, h, _⟩ := h; exact h

theorem Bytes.short {w : World} {v : Value} {l : List Int} (h : Bytes w v l) : ∃ a cap, v = .slice a l.length cap := by
  obtain ⟨a, cap, h, _⟩ := h; exact ⟨a, cap, h⟩

end Go.Proofs.Ytmpfpolanndakaa
