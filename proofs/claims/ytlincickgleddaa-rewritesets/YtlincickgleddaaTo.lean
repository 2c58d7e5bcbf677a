import Derived.Test.YtlincickgleddaaProg
import Derived.Test.YtlincickgleddaaR
import Derived.Test.YtlincickgleddaaBd
import Derived.Test.YtlincickgleddaaTb
import Derived.Below
import Derived.BigQuiet
import Derived.BigRegion
import Derived.ChangeAlike
import Derived.ChangeKeysEq
import Derived.ChangeSame
import Derived.DataElems
import Derived.Deep.MidRow
import Derived.Deep.QuietTactic
import Derived.Deep.RegionHeld
import Derived.Deep.RegionHeld3
import Derived.Deep.RegionLaw
import Derived.Deep.RegionLawGrows
import Derived.Deep.RegionWith
import Derived.Deep.WholeRow
import Derived.Great.BuildSlice
import Derived.Handy
import Derived.Laws.AppendOwn
import Derived.Laws.AppendOwnNone
import Derived.Laws.BitsAllLaws
import Derived.Laws.BitsLemmas
import Derived.Laws.CopyOwn
import Derived.Laws.OwnMore
import Derived.Laws.Rows
import Derived.Laws.StructEq
import Derived.Laws.Tables
import Derived.Lib.BitFns
import Derived.Lib.SmallJoins
import Derived.OpenShut
import Derived.ProofKit
import Derived.RegionTactic
import Derived.WalkKit
import Derived.WalkLawsBesides
import Derived.WalkSmall
import Derived.WalkSpells
import Derived.WideShapes
namespace Go.Proofs.Ytlincickgleddaa
open Go Go.RowKit
set_option linter.unusedVariables false
set_option linter.unusedSimpArgs false
open Go Go.RowKit Go.ChangeShapes Go.WideShapes

theorem quad_of {H : Type} {enc : TypeId × Value → H} {W : World} {base : Nat} {spare : Nat → Bool} {held : Bool} {fuel : Nat} {cs : List Value} {x : DataW H × List MemPlace} (h : DataW.trod enc Try.prog W base spare held fuel 26 cs = some x) :
    ∃ a b c d : Nat, cs = [.int .u64 (a : Int), .int .u64 (b : Int), .int .u64 (c : Int), .int .u64 (d : Int)] ∧ a < 18446744073709551616 ∧ b < 18446744073709551616 ∧ c < 18446744073709551616 ∧ d < 18446744073709551616 := by
  have h26 : Try.prog.cellsOf 26 = 4 := by kernel_rfl
  have h24 : Try.prog.cellsOf 24 = 2 := by kernel_rfl
  have h22 : Try.prog.cellsOf 22 = 1 := by kernel_rfl
  obtain ⟨y0, y1, n, _, hl, e0, e1⟩ := trod_struct2 Try.underlying26 h
  obtain ⟨z0, z1, n0, _, _, a0, a1⟩ := trod_struct2 Try.underlying24 e0
  obtain ⟨z2, z3, n1, _, _, a2, a3⟩ := trod_struct2 Try.underlying24 e1
  obtain ⟨a, ea, _, wa⟩ := DataW.trod_int Try.underlying22 a0
  obtain ⟨b, eb, _, wb⟩ := DataW.trod_int Try.underlying22 a1
  obtain ⟨c, ec, _, wc⟩ := DataW.trod_int Try.underlying22 a2
  obtain ⟨d, ed, _, wd⟩ := DataW.trod_int Try.underlying22 a3
  obtain ⟨A, rfl, gA⟩ := u64_nat wa
  obtain ⟨B, rfl, gB⟩ := u64_nat wb
  obtain ⟨C, rfl, gC⟩ := u64_nat wc
  obtain ⟨D, rfl, gD⟩ := u64_nat wd
  refine ⟨A, B, C, D, ?_, gA, gB, gC, gD⟩
  rw [h26] at hl
  match cs, hl with
  | [c0, c1, c2, c3], _ =>
    simp [h24, h22] at ea eb ec ed
    rw [ea, eb, ec, ed]

theorem open_tern {H : Type} {enc : TypeId × Value → H} {W : World} {r : Reach} {b0 base : Nat} {spare : Nat → Bool} {held : Bool} {v : Value} {d : DataW H} {p : List MemPlace}
    (hv' : Value.okWide Try.prog W r b0 26 v) (h : DataW.Trod enc Try.prog W base spare held 26 v d p) :
    ∃ a b c d : Nat, v = td a b c d ∧ a < 18446744073709551616 ∧ b < 18446744073709551616 ∧ c < 18446744073709551616 ∧ d < 18446744073709551616 := by
  obtain ⟨cs, rfl, hsz⟩ := okWide_struct Try.underlying26 hv'
  obtain ⟨fuel, hf⟩ := h
  obtain ⟨a, b, c, d, e, h1, h2, h3, h4⟩ := quad_of hf
  refine ⟨a, b, c, d, ?_, h1, h2, h3, h4⟩
  have e' : cs.toList = _ := e
  unfold td
  congr 1
  apply Array.ext'
  rw [e']

end Go.Proofs.Ytlincickgleddaa
