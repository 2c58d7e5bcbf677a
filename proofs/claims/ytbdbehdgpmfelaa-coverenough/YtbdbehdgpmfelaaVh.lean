import Derived.Test.YtbdbehdgpmfelaaVg
import Derived.Test.YtbdbehdgpmfelaaXd
namespace Go.Proofs.Ytbdbehdgpmfelaa
open Go Go.RowKit
set_option linter.unusedVariables false
set_option linter.unusedSimpArgs false

theorem own_at {w : World} {base : Nat} {e : TypeId} {size : Nat} {v x : Value} {n j : Nat} {xs : List Value} (h : w.ownsRow base e size v n xs) (hj : xs[j]? = some x) : ∃ g cap, v = .slice (some ⟨g, 0, none⟩) n cap ∧ base ≤ g ∧ w.cell? ⟨g, j, none⟩ = some x := by
  have hl := h.1
  have hjl : j < xs.length := (List.getElem?_eq_some_iff.1 hj).1
  rcases h.2 with ⟨rfl, rfl⟩ | ⟨g, cap, cur, rfl, hb, hg, h1, h2, h3, h4⟩
  · omega
  · refine ⟨g, cap, rfl, hb, ?_⟩
    rw [cell_of_row w g j _ e _ hg]
    rw [← h4, List.getElem?_take] at hj
    split at hj
    · simpa using hj
    · cases hj
theorem flat_first {L : List (List Q4)} {a b c d : Nat} (h : L[0]?.bind (·[0]?) = some (a, b, c, d)) : (L.flatMap tdc)[1]? = some (.int .u64 (b : Int)) := by
  cases L with
  | nil => simp at h
  | cons p r =>
    cases p with
    | nil => simp at h
    | cons q l =>
      have : q = (a, b, c, d) := by simpa using h
      subst this
      simp [tdc]
theorem keepV1 {w0 wa wb : World} {g1 : Nat} {c1 : List Value} (k : Below wa.heap.size wa wb) (h : wa.rangeAt g1 0 c1 ∧ Below w0.heap.size w0 wa) : wb.rangeAt g1 0 c1 ∧ Below w0.heap.size w0 wb :=
  ⟨range_later h.1 k, h.2.trans (k.mono h.2.size)⟩
theorem keepV2 {w0 wa wb : World} {g1 : Nat} {c1 : List Value} {p : Addr} {x : Value} (k : Below wa.heap.size wa wb) (h : wa.rangeAt g1 0 c1 ∧ wa.cell? p = some x ∧ Below w0.heap.size w0 wa) : wb.rangeAt g1 0 c1 ∧ wb.cell? p = some x ∧ Below w0.heap.size w0 wb :=
  ⟨range_later h.1 k, cell_later k h.2.1, h.2.2.trans (k.mono h.2.2.size)⟩


end Go.Proofs.Ytbdbehdgpmfelaa
