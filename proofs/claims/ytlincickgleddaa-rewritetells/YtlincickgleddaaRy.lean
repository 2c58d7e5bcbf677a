import Derived.Test.YtlincickgleddaaRw
import Derived.Below
import Derived.Deep.MidRow
import Derived.Handy
namespace Go.Proofs.Ytlincickgleddaa
open Go Go.RowKit
set_option linter.unusedVariables false
set_option linter.unusedSimpArgs false
theorem AB.range {w : World} {g : Nat} {ty : TypeId} {cs : List Value} (h : AB w g ty cs) : w.rangeAt g 0 cs := by
  intro j v hv
  rw [cell_of_row w g (0 + j) _ ty _ h, Nat.zero_add]
  simpa using hv
theorem range_later {w w' : World} {g o : Nat} {cs : List Value} (h : w.rangeAt g o cs) (hb : Below w.heap.size w w') : w'.rangeAt g o cs := fun j v hv => cell_later hb (h j v hv)
theorem isH_of (l : List (Nat × Nat)) (h : (decide (l.length = 24) && l.all fun p => decide (p.1 < 18446744073709551616 ∧ p.2 < 18446744073709551616)) = true) : isH l := by
  simp only [Bool.and_eq_true, decide_eq_true_eq, List.all_eq_true] at h
  exact ⟨h.1, fun p hp => h.2 p hp⟩
theorem idx46 (l : List (Nat × Nat)) (hl : l.length = 24) (p : Nat × Nat) (h : l[0]? = some p) (w : World) : (Instr.index 31 (.agg (wdc l).toArray) (.int .i64 0)).run Try.prog w = .ok (.agg #[.int .u64 (p.1 : Int), .int .u64 (p.2 : Int)]) w := by
  obtain ⟨i, hi, hs⟩ := info39'
  have hp := part39 (wdc l).toArray (0 * 2) w
  rw [ext39 l 0 p h] at hp
  simp [Instr.index, run_underlying Try.underlying31 w, asIntOf, asAgg, sizeOf, typeInfo, hi, hs, hp]
end Go.Proofs.Ytlincickgleddaa
