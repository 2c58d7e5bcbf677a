import Derived.Test.YtmpfpolanndakabK
import Derived.Test.YtmpfpolanndakabW
import Derived.Test.YtmpfpolanndakabFe
import Derived.Test.YtmpfpolanndakabFf
import Derived.Test.YtmpfpolanndakabHa
import Derived.Test.YtmpfpolanndakabHf
import Derived.WalkKit
import Derived.WalkSpells
import Derived.WalkLawsBesides
import Derived.Below
import Derived.Handy
namespace Go.Proofs.Ytmpfpolanndakab
open Go Go.RowKit
set_option linter.unusedVariables false
set_option linter.unusedSimpArgs false

theorem keepT {W w' : World} {g g' g'' : Nat} {cs ds es : List Value} (h1 : W.rangeAt g 0 cs) (h2 : W.rangeAt g' 0 ds) (h3 : W.rangeAt g'' 0 es) (hb : Below W.heap.size W w') :
    w'.rangeAt g 0 cs ∧ w'.rangeAt g' 0 ds ∧ w'.rangeAt g'' 0 es ∧ Below W.heap.size W w' :=
  ⟨range_later h1 hb, range_later h2 hb, range_later h3 hb, hb⟩

theorem HB.alloc {w : World} {g : Nat} {l : List (Nat × Nat)} (h : HB w g l) (o : Obj) : HB (w.alloc o) g l := h.later ((Below.refl _ _).alloc (Nat.le_refl _) _)

end Go.Proofs.Ytmpfpolanndakab
