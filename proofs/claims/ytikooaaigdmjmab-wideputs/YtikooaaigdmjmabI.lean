import Derived.Test.YtikooaaigdmjmabK
import Derived.WalkKit
import Derived.WalkSpells
import Derived.WalkLawsBesides
import Derived.Below
import Derived.Handy
namespace Go.Proofs.Ytikooaaigdmjmab
open Go Go.RowKit
set_option linter.unusedVariables false
set_option linter.unusedSimpArgs false

theorem Bytes.lit (w : World) (l : List Int) (t : TypeId) (h : isB l) (hl : l.length ≤ 1000) : Bytes (w.alloc (.cells (u8s l).toArray t)) (.slice (some ⟨w.heap.size, 0, none⟩) l.length l.length) l := by
  refine ⟨_, _, rfl, Nat.le_refl _, by unfold maxLen; omega, h, (fun e => by cases e), fun ad e j z hz => ?_⟩
  cases e
  rw [Addr.add_lit, World.cell?_alloc_new]
  simp [u8s, hz]

end Go.Proofs.Ytikooaaigdmjmab
