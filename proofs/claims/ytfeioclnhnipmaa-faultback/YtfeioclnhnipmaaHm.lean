import Derived.Test.YtfeioclnhnipmaaProg
import Derived.Test.YtfeioclnhnipmaaK
import Derived.Test.YtfeioclnhnipmaaG
import Derived.Test.YtfeioclnhnipmaaHk
import Derived.Below
import Derived.BigQuiet
import Derived.BigRegion
import Derived.ChangeAlike
import Derived.ChangeKeysEq
import Derived.ChangeSame
import Derived.DataElems
import Derived.Deep.MidRow
import Derived.Deep.QuietTactic
import Derived.Deep.RegionHeld
import Derived.Deep.RegionHeld3
import Derived.Deep.RegionLaw
import Derived.Deep.RegionLawGrows
import Derived.Deep.RegionWith
import Derived.Deep.WholeRow
import Derived.Great.BuildSlice
import Derived.Handy
import Derived.Laws.AppendOwn
import Derived.Laws.AppendOwnNone
import Derived.Laws.BitsAllLaws
import Derived.Laws.BitsLemmas
import Derived.Laws.CopyOwn
import Derived.Laws.OwnMore
import Derived.Laws.Rows
import Derived.Laws.StructEq
import Derived.Laws.Tables
import Derived.Lib.BitFns
import Derived.Lib.SmallJoins
import Derived.OpenShut
import Derived.ProofKit
import Derived.RegionTactic
import Derived.WalkKit
import Derived.WalkLawsBesides
import Derived.WalkSmall
import Derived.WalkSpells
import Derived.WideShapes
namespace Go.Proofs.Ytfeioclnhnipmaa
open Go Go.RowKit
set_option linter.unusedVariables false
set_option linter.unusedSimpArgs false

theorem u51 : Try.prog.underlying 24 = some (.slice (Try.prog.elem 24)) := by kernel_rfl

theorem sz51 (w : World) : (sizeOf (Try.prog.elem 24)).run Try.prog w = .ok 1 w := by
  have e : Try.prog.elem 24 = 5 := by kernel_rfl
  rw [e]
  obtain ⟨i0, hi0, hz0, hz1, hz2⟩ := info_parts info5
  simp [sizeOf, typeInfo, hi0, hz1]

theorem bytes_slice {w : World} {ao : Option Addr} {n cap : Nat} {l : List Int} (h : Bytes w (.slice ao n cap) l) (s : Nat) (hs : s ≤ l.length) :
    ∃ ao', (∀ wx, (Instr.sliceAt 24 (.slice ao n cap) (some (.int .i64 (s : Int))) none none).run Try.prog wx = .ok (.slice ao' (n - s) (cap - s)) wx) ∧
      (∀ wx, (Instr.slice 24 (.slice ao n cap) (some (.int .i64 (s : Int))) none none).run Try.prog wx = .ok (.slice ao' (n - s) (cap - s)) wx) ∧ Bytes w (.slice ao' (n - s) (cap - s)) (l.drop s) := by
  obtain ⟨a, c, e, h1, h2, h3, h4, h5⟩ := h
  cases e
  have r2 : ∀ wx, (Instr.slice 24 (.slice ao l.length cap) (some (.int .i64 (s : Int))) none none).run Try.prog wx = .ok (.slice (if cap = s then ao else ao.map (·.add s)) (l.length - s) (cap - s)) wx := by
    intro wx
    rw [run_slice_l wx 24 ao l.length cap u51 .i64 (s : Int) (by omega) (by omega), sz51]
    simp [sliced]
  refine ⟨if cap = s then ao else ao.map (·.add s), fun wx => ?_, r2, ?_⟩
  · rw [run_sliceAt_slice wx 24 _ _ _ _ u51]; exact r2 wx
  · refine ⟨_, cap - s, by rw [List.length_drop], by simp; omega, by omega, fun z hz => h3 z (List.mem_of_mem_drop hz), fun hn => ?_, fun ad he j z hz => ?_⟩
    · split at hn
      · omega
      · cases ao with
        | none => have := h4 rfl; omega
        | some a => cases hn
    · rw [List.getElem?_drop] at hz
      split at he
      · rename_i hc
        have : s + j < l.length := (List.getElem?_eq_some_iff.1 hz).1
        omega
      · cases ao with
        | none => cases he
        | some a =>
          simp at he
          subst he
          rw [Addr.add_add]
          exact h5 a rfl _ _ hz

end Go.Proofs.Ytfeioclnhnipmaa
