import Derived.Test.YtlincickgleddaaZz
import Derived.Test.YtlincickgleddaaQa
import Derived.Test.YtlincickgleddaaTo
import Derived.Test.YtlincickgleddaaHo
import Derived.OpenShut
import Derived.ChangeSame
import Derived.WideShapes
import Derived.Lib.SmallJoins
namespace Go.Proofs.Ytlincickgleddaa
open Go Go.RowKit Go.ChangeShapes Go.WideShapes
set_option linter.unusedVariables false
set_option linter.unusedSimpArgs false

theorem open_rw {H : Type} {enc : TypeId × Value → H} {W : World} {r : Reach} {b0 base : Nat} {spare : Nat → Bool} {held : Bool} {v : Value} {d : DataW H} {p : List MemPlace}
    (hv' : Value.okWide Try.prog W r b0 28 v) (h : DataW.Trod enc Try.prog W base spare held 28 v d p) : ∃ l, v = cv l ∧ isC l := by
  obtain ⟨cs, rfl, hsz⟩ := okWide_arr Try.underlying28 hv'
  have h44 : Try.prog.cellsOf 28 = 96 := by kernel_rfl
  have h26 : Try.prog.cellsOf 26 = 4 := by kernel_rfl
  obtain ⟨fuel, hf⟩ := h
  obtain ⟨xs, m, _, _, hl, hxl, hx⟩ := DataW.trod_array Try.underlying28 hf
  obtain ⟨l, h1, h2, h3⟩ := quads_list 24 cs.toList (by simp [hsz, h44]) (fun i hi => by
    have e := hx i hi
    rw [h26, List.getElem?_eq_getElem (by omega)] at e
    exact quad_of e)
  refine ⟨l, ?_, h1, h3⟩
  unfold cv
  rw [← h2]

end Go.Proofs.Ytlincickgleddaa
