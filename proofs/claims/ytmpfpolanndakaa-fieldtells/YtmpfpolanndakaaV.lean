import Derived.WalkKit
import Derived.WalkSpells
import Derived.WalkLawsBesides
import Derived.Below
import Derived.Handy
namespace Go.Proofs.Ytmpfpolanndakaa
open Go Go.RowKit
set_option linter.unusedVariables false
set_option linter.unusedSimpArgs false

theorem keep1 {base g : Nat} {w0 wa wb : World} {x y : Value} (h : wa.cell? ⟨g, 0, none⟩ = some x ∧ wa.cell? ⟨g, 1, none⟩ = some y ∧ Below base w0 wa) (hw : base ≤ w0.heap.size) (k : Below wa.heap.size wa wb) :
    wb.cell? ⟨g, 0, none⟩ = some x ∧ wb.cell? ⟨g, 1, none⟩ = some y ∧ Below base w0 wb :=
  ⟨cell_later k h.1, cell_later k h.2.1, h.2.2.trans (k.mono (Nat.le_trans hw h.2.2.size))⟩

theorem ret_bool {a b : Bool} (h : a = b) : Ending.returned (.bool a) = .returned (.bool b) := by rw [h]

end Go.Proofs.Ytmpfpolanndakaa
