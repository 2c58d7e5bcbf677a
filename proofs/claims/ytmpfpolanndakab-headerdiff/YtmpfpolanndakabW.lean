import Derived.Test.YtmpfpolanndakabK
import Derived.Test.YtmpfpolanndakabU
import Derived.Below
import Derived.BigQuiet
import Derived.BigRegion
import Derived.Deep.QuietTactic
import Derived.Deep.RegionHeld3
import Derived.Deep.RegionLaw
import Derived.Deep.RegionLawGrows
import Derived.Handy
import Derived.Laws.AppendOwn
import Derived.Laws.AppendOwnNone
import Derived.Laws.BitsAllLaws
import Derived.Laws.BitsLemmas
import Derived.Laws.CopyOwn
import Derived.Laws.OwnMore
import Derived.Laws.Rows
import Derived.Laws.StructEq
import Derived.OpenShut
import Derived.ProofKit
import Derived.RegionTactic
import Derived.WalkKit
import Derived.WalkLawsBesides
import Derived.WalkSmall
import Derived.WalkSpells
namespace Go.Proofs.Ytmpfpolanndakab
open Go Go.RowKit
set_option linter.unusedVariables false
set_option linter.unusedSimpArgs false

/-- two cells of a block, with what may be stored there -/
def Two (w : World) (g : Nat) (x y : Nat) : Prop :=
  w.cell? ⟨g, 0, none⟩ = some (.int .u64 (x : Int)) ∧ w.cell? ⟨g, 1, none⟩ = some (.int .u64 (y : Int)) ∧ w.frozen? ⟨g, 0, none⟩ = false ∧ w.frozen? ⟨g, 1, none⟩ = false

theorem Two.lt {w : World} {g x y : Nat} (h : Two w g x y) : g < w.heap.size := World.block_lt_of_cell? w _ h.1

theorem Two.later {w w' : World} {g x y : Nat} (h : Two w g x y) (hb : Below w.heap.size w w') : Two w' g x y :=
  ⟨cell_later hb h.1, cell_later hb h.2.1, by rw [hb.frozen h.lt]; exact h.2.2.1, by rw [hb.frozen h.lt]; exact h.2.2.2⟩

theorem Two.drewN {w : World} {g x y : Nat} (h : Two w g x y) (n : Nat) : Two (w.drewN n) g x y := h.later (below_drewN (Below.refl _ _) n)

theorem Two.set {w : World} {g x y : Nat} (h : Two w g x y) (u v : Nat) : Two ((w.setCell ⟨g, 0, none⟩ (.int .u64 (u : Int))).setCell ⟨g, 1, none⟩ (.int .u64 (v : Int))) g u v := by
  obtain ⟨h0, h1, h2, h3⟩ := h
  obtain ⟨s0, s1⟩ := set2 (u := .int .u64 (u : Int)) (v := .int .u64 (v : Int)) h0 h1
  refine ⟨?_, s1, ?_, ?_⟩
  · rw [World.cell?_setCell_other (h := (by simp : (⟨g, 1, none⟩ : Addr) ≠ ⟨g, 0, none⟩))]; exact s0
  · simpa using h2
  · simpa using h3

theorem Two.far {w : World} {g f x y u v : Nat} (h : Two w g x y) (hne : f ≠ g) : Two ((w.setCell ⟨f, 0, none⟩ (.int .u64 (u : Int))).setCell ⟨f, 1, none⟩ (.int .u64 (v : Int))) g x y := by
  obtain ⟨h0, h1, h2, h3⟩ := h
  refine ⟨?_, ?_, ?_, ?_⟩
  · rw [World.cell?_setCell_far _ _ _ _ hne, World.cell?_setCell_far _ _ _ _ hne]; exact h0
  · rw [World.cell?_setCell_far _ _ _ _ hne, World.cell?_setCell_far _ _ _ _ hne]; exact h1
  · simpa using h2
  · simpa using h3

end Go.Proofs.Ytmpfpolanndakab
