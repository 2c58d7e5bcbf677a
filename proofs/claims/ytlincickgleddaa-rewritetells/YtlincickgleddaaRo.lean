import Derived.Test.YtlincickgleddaaRm
import Derived.Test.YtlincickgleddaaRy
import Derived.Deep.RegionHeld3
import Derived.Deep.RegionWith
import Derived.Deep.MidRow
import Derived.Deep.Cut
namespace Go.Proofs.Ytlincickgleddaa
open Go Go.RowKit
set_option linter.unusedVariables false
set_option linter.unusedSimpArgs false

theorem kG1 {w0 wa wb : World} {g0 : Nat} {c0 : List Value}  (k : Below wa.heap.size wa wb) (h : wa.rangeAt g0 0 c0 ∧ Below w0.heap.size w0 wa) : wb.rangeAt g0 0 c0 ∧ Below w0.heap.size w0 wb :=
  ⟨range_later h.1 k, h.2.trans (k.mono h.2.size)⟩
theorem kG1_1 {w0 wa wb : World} {g0 : Nat} {c0 : List Value} {p0 : Addr} {x0 : Value} (k : Below wa.heap.size wa wb) (h : wa.rangeAt g0 0 c0 ∧ wa.cell? p0 = some x0 ∧ Below w0.heap.size w0 wa) : wb.rangeAt g0 0 c0 ∧ wb.cell? p0 = some x0 ∧ Below w0.heap.size w0 wb :=
  ⟨range_later h.1 k, cell_later k h.2.1, h.2.2.trans (k.mono h.2.2.size)⟩
theorem kG1_4 {w0 wa wb : World} {g0 : Nat} {c0 : List Value} {p0 p1 p2 p3 : Addr} {x0 x1 x2 x3 : Value} (k : Below wa.heap.size wa wb) (h : wa.rangeAt g0 0 c0 ∧ wa.cell? p0 = some x0 ∧ wa.cell? p1 = some x1 ∧ wa.cell? p2 = some x2 ∧ wa.cell? p3 = some x3 ∧ Below w0.heap.size w0 wa) : wb.rangeAt g0 0 c0 ∧ wb.cell? p0 = some x0 ∧ wb.cell? p1 = some x1 ∧ wb.cell? p2 = some x2 ∧ wb.cell? p3 = some x3 ∧ Below w0.heap.size w0 wb :=
  ⟨range_later h.1 k, cell_later k h.2.1, cell_later k h.2.2.1, cell_later k h.2.2.2.1, cell_later k h.2.2.2.2.1, h.2.2.2.2.2.trans (k.mono h.2.2.2.2.2.size)⟩
theorem kG2 {w0 wa wb : World} {g0 g1 : Nat} {c0 c1 : List Value}  (k : Below wa.heap.size wa wb) (h : wa.rangeAt g0 0 c0 ∧ wa.rangeAt g1 0 c1 ∧ Below w0.heap.size w0 wa) : wb.rangeAt g0 0 c0 ∧ wb.rangeAt g1 0 c1 ∧ Below w0.heap.size w0 wb :=
  ⟨range_later h.1 k, range_later h.2.1 k, h.2.2.trans (k.mono h.2.2.size)⟩
theorem kG3 {w0 wa wb : World} {g0 g1 g2 : Nat} {c0 c1 c2 : List Value}  (k : Below wa.heap.size wa wb) (h : wa.rangeAt g0 0 c0 ∧ wa.rangeAt g1 0 c1 ∧ wa.rangeAt g2 0 c2 ∧ Below w0.heap.size w0 wa) : wb.rangeAt g0 0 c0 ∧ wb.rangeAt g1 0 c1 ∧ wb.rangeAt g2 0 c2 ∧ Below w0.heap.size w0 wb :=
  ⟨range_later h.1 k, range_later h.2.1 k, range_later h.2.2.1 k, h.2.2.2.trans (k.mono h.2.2.2.size)⟩
theorem kG4 {w0 wa wb : World} {g0 g1 g2 g3 : Nat} {c0 c1 c2 c3 : List Value}  (k : Below wa.heap.size wa wb) (h : wa.rangeAt g0 0 c0 ∧ wa.rangeAt g1 0 c1 ∧ wa.rangeAt g2 0 c2 ∧ wa.rangeAt g3 0 c3 ∧ Below w0.heap.size w0 wa) : wb.rangeAt g0 0 c0 ∧ wb.rangeAt g1 0 c1 ∧ wb.rangeAt g2 0 c2 ∧ wb.rangeAt g3 0 c3 ∧ Below w0.heap.size w0 wb :=
  ⟨range_later h.1 k, range_later h.2.1 k, range_later h.2.2.1 k, range_later h.2.2.2.1 k, h.2.2.2.2.trans (k.mono h.2.2.2.2.size)⟩
theorem kG5 {w0 wa wb : World} {g0 g1 g2 g3 g4 : Nat} {c0 c1 c2 c3 c4 : List Value}  (k : Below wa.heap.size wa wb) (h : wa.rangeAt g0 0 c0 ∧ wa.rangeAt g1 0 c1 ∧ wa.rangeAt g2 0 c2 ∧ wa.rangeAt g3 0 c3 ∧ wa.rangeAt g4 0 c4 ∧ Below w0.heap.size w0 wa) : wb.rangeAt g0 0 c0 ∧ wb.rangeAt g1 0 c1 ∧ wb.rangeAt g2 0 c2 ∧ wb.rangeAt g3 0 c3 ∧ wb.rangeAt g4 0 c4 ∧ Below w0.heap.size w0 wb :=
  ⟨range_later h.1 k, range_later h.2.1 k, range_later h.2.2.1 k, range_later h.2.2.2.1 k, range_later h.2.2.2.2.1 k, h.2.2.2.2.2.trans (k.mono h.2.2.2.2.2.size)⟩
theorem kG6 {w0 wa wb : World} {g0 g1 g2 g3 g4 g5 : Nat} {c0 c1 c2 c3 c4 c5 : List Value}  (k : Below wa.heap.size wa wb) (h : wa.rangeAt g0 0 c0 ∧ wa.rangeAt g1 0 c1 ∧ wa.rangeAt g2 0 c2 ∧ wa.rangeAt g3 0 c3 ∧ wa.rangeAt g4 0 c4 ∧ wa.rangeAt g5 0 c5 ∧ Below w0.heap.size w0 wa) : wb.rangeAt g0 0 c0 ∧ wb.rangeAt g1 0 c1 ∧ wb.rangeAt g2 0 c2 ∧ wb.rangeAt g3 0 c3 ∧ wb.rangeAt g4 0 c4 ∧ wb.rangeAt g5 0 c5 ∧ Below w0.heap.size w0 wb :=
  ⟨range_later h.1 k, range_later h.2.1 k, range_later h.2.2.1 k, range_later h.2.2.2.1 k, range_later h.2.2.2.2.1 k, range_later h.2.2.2.2.2.1 k, h.2.2.2.2.2.2.trans (k.mono h.2.2.2.2.2.2.size)⟩
theorem run_reqIn (l m : List Q4) (hl : l.length = 24) (hm : m.length = 24) (w : World) :
    (Op.equalIn 10000 28 (.agg (tdc l).toArray) (.agg (tdc m).toArray)).run Try.prog w = .ok (decide (l = m)) w := by
  obtain ⟨i, hi, _⟩ := info26'
  rw [run_equalIn_array w 9999 (tdc l).toArray (tdc m).toArray Try.underlying28 hi, cells26, eqItems_C l m hl hm 9996 w (List.range 24) (by simp), all_sameC l m hl hm]
theorem req_same (l : List Q4) (hl : l.length = 24) (w : World) : (Op.equalIn 10000 28 (.agg (tdc l).toArray) (.agg (tdc l).toArray)).run Try.prog w = .ok true w := by
  rw [run_reqIn l l hl hl w, decide_eq_true rfl]
theorem ceq_same (l : List Q4) (hl : l.length = 24) (w : World) : (Op.equalIn 10000 29 (.agg (tdc l).toArray) (.agg (tdc l).toArray)).run Try.prog w = .ok true w := by
  rw [run_ceqIn l l hl hl w, decide_eq_true rfl]
theorem heq_same (l : List (Nat × Nat)) (hl : l.length = 24) (w : World) : (Op.equalIn 10000 31 (.agg (wdc l).toArray) (.agg (wdc l).toArray)).run Try.prog w = .ok true w := by
  rw [run_heqIn l l hl hl w, decide_eq_true rfl]


end Go.Proofs.Ytlincickgleddaa
