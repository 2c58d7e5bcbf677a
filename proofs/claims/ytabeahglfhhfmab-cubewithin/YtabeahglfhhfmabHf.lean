import Derived.Test.YtabeahglfhhfmabProg
import Derived.Test.YtabeahglfhhfmabFe
import Derived.Test.YtabeahglfhhfmabHa
import Derived.Below
import Derived.BigQuiet
import Derived.BigRegion
import Derived.ChangeAlike
import Derived.ChangeKeysEq
import Derived.ChangeSame
import Derived.DataElems
import Derived.Deep.MidRow
import Derived.Deep.QuietTactic
import Derived.Deep.RegionHeld
import Derived.Deep.RegionHeld3
import Derived.Deep.RegionLaw
import Derived.Deep.RegionLawGrows
import Derived.Deep.RegionWith
import Derived.Deep.WholeRow
import Derived.Great.BuildSlice
import Derived.Handy
import Derived.Laws.AppendOwn
import Derived.Laws.AppendOwnNone
import Derived.Laws.BitsAllLaws
import Derived.Laws.BitsLemmas
import Derived.Laws.CopyOwn
import Derived.Laws.OwnMore
import Derived.Laws.Rows
import Derived.Laws.StructEq
import Derived.Laws.Tables
import Derived.Lib.BitFns
import Derived.Lib.SmallJoins
import Derived.OpenShut
import Derived.ProofKit
import Derived.RegionTactic
import Derived.WalkKit
import Derived.WalkLawsBesides
import Derived.WalkSmall
import Derived.WalkSpells
import Derived.WideShapes
namespace Go.Proofs.Ytabeahglfhhfmab
open Go Go.RowKit
set_option linter.unusedVariables false
set_option linter.unusedSimpArgs false

theorem info39' : ∃ i, Try.prog.info? 24 = some i ∧ i.size = 2 := by
  obtain ⟨i0, hi0, hz0, hz1, hz2⟩ := info_parts info39
  exact ⟨i0, hi0, hz1⟩

theorem agg39 (w : World) : (isAgg 24).run Try.prog w = .ok true w := by
  simp [isAgg, run_underlying Try.underlying24 w]

theorem part39 (xs : Array Value) (o : Nat) (w : World) : (part 24 xs o).run Try.prog w = .ok (.agg (xs.extract o (o + 2))) w := by
  obtain ⟨i, hi, hs⟩ := info39'
  simp [part, agg39, sizeOf, typeInfo, hi, hs]

theorem wdc_drop : ∀ (l : List (Nat × Nat)) (j : Nat), (wdc l).drop (j * 2) = wdc (l.drop j)
  | l, 0 => by simp
  | [], j + 1 => by simp [wdc]
  | p :: l, j + 1 => by
    rw [show (j + 1) * 2 = j * 2 + 1 + 1 by omega]
    simp only [wdc, List.drop_succ_cons]
    exact wdc_drop l j

theorem ext39 (l : List (Nat × Nat)) (j : Nat) (p : Nat × Nat) (h : l[j]? = some p) : (wdc l).toArray.extract (j * 2) (j * 2 + 2) = #[.int .u64 (p.1 : Int), .int .u64 (p.2 : Int)] := by
  have hj : j < l.length := (List.getElem?_eq_some_iff.1 h).1
  have e : l[j] = p := (List.getElem?_eq_some_iff.1 h).2
  rw [List.extract_toArray, List.extract_eq_take_drop, wdc_drop, List.drop_eq_getElem_cons hj, e]
  have e2 : j * 2 + 2 - j * 2 = 2 := by omega
  rw [e2]
  simp [wdc]

theorem HB.range {w : World} {g : Nat} {l : List (Nat × Nat)} (h : HB w g l) : w.rangeAt g 0 (wdc l) := by
  intro j v hv
  rw [cell_of_row w g (0 + j) _ 30 _ h, Nat.zero_add]
  simpa using hv

theorem range_later {w w' : World} {g o : Nat} {cs : List Value} (h : w.rangeAt g o cs) (hb : Below w.heap.size w w') : w'.rangeAt g o cs := fun j v hv => cell_later hb (h j v hv)

theorem keepR {w0 wa wb : World} {g : Nat} {cs : List Value} (k : Below wa.heap.size wa wb) (h : wa.rangeAt g 0 cs ∧ Below w0.heap.size w0 wa) : wb.rangeAt g 0 cs ∧ Below w0.heap.size w0 wb :=
  ⟨range_later h.1 k, h.2.trans (k.mono h.2.size)⟩

end Go.Proofs.Ytabeahglfhhfmab
