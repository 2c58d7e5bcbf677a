import Derived.Test.YtlincickgleddaaProg
import Derived.Test.YtlincickgleddaaHo
import Derived.Test.YtlincickgleddaaGa
import Derived.Test.YtlincickgleddaaTo
import Derived.Test.YtlincickgleddaaQa
import Derived.Below
import Derived.BigQuiet
import Derived.BigRegion
import Derived.ChangeAlike
import Derived.ChangeKeysEq
import Derived.ChangeSame
import Derived.DataElems
import Derived.Deep.MidRow
import Derived.Deep.QuietTactic
import Derived.Deep.RegionHeld
import Derived.Deep.RegionHeld3
import Derived.Deep.RegionLaw
import Derived.Deep.RegionLawGrows
import Derived.Deep.RegionWith
import Derived.Deep.WholeRow
import Derived.Great.BuildSlice
import Derived.Handy
import Derived.Laws.AppendOwn
import Derived.Laws.AppendOwnNone
import Derived.Laws.BitsAllLaws
import Derived.Laws.BitsLemmas
import Derived.Laws.CopyOwn
import Derived.Laws.OwnMore
import Derived.Laws.Rows
import Derived.Laws.StructEq
import Derived.Laws.Tables
import Derived.Lib.BitFns
import Derived.Lib.SmallJoins
import Derived.OpenShut
import Derived.ProofKit
import Derived.RegionTactic
import Derived.WalkKit
import Derived.WalkLawsBesides
import Derived.WalkSmall
import Derived.WalkSpells
import Derived.WideShapes
namespace Go.Proofs.Ytlincickgleddaa
open Go Go.RowKit
set_option linter.unusedVariables false
set_option linter.unusedSimpArgs false
open Go Go.RowKit Go.ChangeShapes Go.WideShapes

theorem open_cube {H : Type} {enc : TypeId × Value → H} {W : World} {r : Reach} {b0 base : Nat} {spare : Nat → Bool} {held : Bool} {v : Value} {d : DataW H} {p : List MemPlace}
    (hv' : Value.okWide Try.prog W r b0 29 v) (h : DataW.Trod enc Try.prog W base spare held 29 v d p) : ∃ l, v = cv l ∧ isC l := by
  obtain ⟨cs, rfl, hsz⟩ := okWide_arr Try.underlying29 hv'
  have h44 : Try.prog.cellsOf 29 = 96 := by kernel_rfl
  have h26 : Try.prog.cellsOf 26 = 4 := by kernel_rfl
  obtain ⟨fuel, hf⟩ := h
  obtain ⟨xs, m, _, _, hl, hxl, hx⟩ := DataW.trod_array Try.underlying29 hf
  obtain ⟨l, h1, h2, h3⟩ := quads_list 24 cs.toList (by simp [hsz, h44]) (fun i hi => by
    have e := hx i hi
    rw [h26, List.getElem?_eq_getElem (by omega)] at e
    exact quad_of e)
  refine ⟨l, ?_, h1, h3⟩
  unfold cv
  rw [← h2]

end Go.Proofs.Ytlincickgleddaa
