import Derived.Test.YtmpfpolanndakabK
import Derived.Test.YtmpfpolanndakabG
import Derived.Test.YtmpfpolanndakabW
import Derived.Test.YtmpfpolanndakabFe
import Derived.Deep.RegionWith
import Derived.Deep.RegionHeld3
import Derived.WalkKit
import Derived.WalkSpells
import Derived.WalkLawsBesides
import Derived.Below
import Derived.Handy
namespace Go.Proofs.Ytmpfpolanndakab
open Go Go.RowKit
set_option linter.unusedVariables false
set_option linter.unusedSimpArgs false

/-- a slice of needs reads as a list -/
def NeedsAt (w : World) (v : Value) (l : List (Int × List Nat)) : Prop :=
  ∃ a cap, v = .slice a l.length cap ∧ l.length ≤ cap ∧ cap ≤ maxLen ∧ (a = none → cap = 0) ∧
    ∀ i p, l[i]? = some p → ∃ b off ua uc, a = some ⟨b, off, none⟩ ∧ w.cell? ⟨b, off + i * 2, none⟩ = some (.int .i64 p.1) ∧ w.cell? ⟨b, off + (i * 2 + 1), none⟩ = some (.slice ua p.2.length uc) ∧ Cells w (.slice ua p.2.length uc) 2 p.2.length (wdc (lo p.2))

theorem NeedsAt.later {w w' : World} {v : Value} {l : List (Int × List Nat)} (h : NeedsAt w v l) (hb : Below w.heap.size w w') : NeedsAt w' v l := by
  obtain ⟨a, cap, rfl, h1, h2, h3, h4⟩ := h
  refine ⟨a, cap, rfl, h1, h2, h3, fun i p hp => ?_⟩
  obtain ⟨b, off, ua, uc, e, c0, c1, c2⟩ := h4 i p hp
  exact ⟨b, off, ua, uc, e, cell_later hb c0, cell_later hb c1, c2.later hb⟩

theorem NeedsAt.nil (w : World) : NeedsAt w (.slice none 0 0) [] :=
  ⟨none, 0, rfl, Nat.le_refl _, Nat.zero_le _, fun _ => rfl, fun i p hp => by simp at hp⟩

end Go.Proofs.Ytmpfpolanndakab
