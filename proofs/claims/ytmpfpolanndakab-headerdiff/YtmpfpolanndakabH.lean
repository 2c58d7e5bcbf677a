import Derived.Test.YtmpfpolanndakabK
import Derived.Test.YtmpfpolanndakabG
import Derived.Deep.RegionLawGrows
import Derived.WalkKit
import Derived.WalkSpells
import Derived.WalkLawsBesides
import Derived.Below
import Derived.Handy
namespace Go.Proofs.Ytmpfpolanndakab
open Go Go.RowKit
set_option linter.unusedVariables false
set_option linter.unusedSimpArgs false
open Go.RowKit

theorem ownsRow_base {w : World} {base base' : Nat} {e : TypeId} {size : Nat} {v : Value} {n : Nat} {xs : List Value} (h : w.ownsRow base e size v n xs) (hb : base' ≤ base) : w.ownsRow base' e size v n xs := by
  refine ⟨h.1, ?_⟩
  rcases h.2 with h | ⟨g, cap, cur, h1, h2, r⟩
  · exact .inl h
  · exact .inr ⟨g, cap, cur, h1, by omega, r⟩

theorem Bytes.bounds {w : World} {a : Option Addr} {n cap : Nat} {l : List Int} (h : Bytes w (.slice a n cap) l) : n = l.length ∧ l.length ≤ cap ∧ cap ≤ 2 ^ 63 - 1 ∧ (a = none → l.length = 0) := by
  obtain ⟨a', cap', e, h1, h2, h3, h4, h5⟩ := h
  cases e
  unfold maxLen at h2
  exact ⟨rfl, h1, h2, fun e => by have := h4 e; omega⟩

theorem Bytes.olds {w w1 : World} {a : Option Addr} {n cap : Nat} {l : List Int} (h : Bytes w (.slice a n cap) l) (hb : Below w.heap.size w w1) :
    ∀ b, a = some b → ∀ j u, (u8s l)[j]? = some u → w1.cell? (b.add j) = some u := by
  obtain ⟨a', cap', e, h1, h2, h3, h4, h5⟩ := h
  cases e
  intro b hb' j u hu
  unfold u8s at hu
  rw [List.getElem?_map] at hu
  cases hj : l[j]? with
  | none => rw [hj] at hu; cases hu
  | some z => rw [hj] at hu; cases hu; exact cell_later hb (h5 b hb' j z hj)

theorem news_at (w : World) (c : Array Value) (t : TypeId) (off j : Nat) (u : Value) (h : c[off + j]? = some u) : (w.alloc (.cells c t)).drew.cell? ((⟨w.heap.size, off, none⟩ : Addr).add j) = some u := by
  rw [Addr.add_lit]
  show (w.alloc (.cells c t)).cell? ⟨w.heap.size, off + j, none⟩ = some u
  rw [World.cell?_alloc_new]
  exact h

end Go.Proofs.Ytmpfpolanndakab
