import Derived.Test.YtfeioclnhnipmaaPf
import Derived.OpenShut
import Derived.ChangeSame
import Derived.WideShapes
import Derived.Lib.SmallJoins
namespace Go.Proofs.Ytfeioclnhnipmaa
open Go Go.RowKit Go.ChangeShapes Go.WideShapes
set_option linter.unusedVariables false
set_option linter.unusedSimpArgs false

theorem u16_nat {a : Int} (h : (Lit.int .u16 a).wf = true) : ∃ n : Nat, a = (n : Int) ∧ n ≤ 65535 := by
  have e1 : IntKind.u16.min = 0 := by decide
  have e2 : IntKind.u16.max = 65535 := by decide
  simp [Lit.wf, e1, e2] at h
  exact ⟨a.toNat, by omega, by omega⟩
theorem three_of {H : Type} {enc : TypeId × Value → H} {W : World} {base : Nat} {spare : Nat → Bool} {held : Bool} {fuel : Nat} {cs : List Value} {x : DataW H × List MemPlace} (h : DataW.trod enc Try.prog W base spare held fuel 23 cs = some x) :
    ∃ (o : Bool) (t c : Int), cs = [.bool o, .int .i64 t, .int .i64 c] := by
  have h26 : Try.prog.cellsOf 23 = 3 := by kernel_rfl
  have h3 : Try.prog.cellsOf 3 = 1 := by kernel_rfl
  have h4 : Try.prog.cellsOf 4 = 1 := by kernel_rfl
  obtain ⟨xs, n, _, rfl, hl, hlen, hf⟩ := DataW.trod_struct Try.underlying23 h
  have hlen' : xs.length = 3 := hlen
  match xs, hlen' with
  | [w0, w1, w2], _ =>
    have e0 := hf 0 _ rfl
    have e1 := hf 1 _ rfl
    have e2 := hf 2 _ rfl
    obtain ⟨m, em, _⟩ := DataW.trod_bool Try.underlying4 e0
    obtain ⟨f, ef, _, wf⟩ := DataW.trod_int Try.underlying3 e1
    obtain ⟨g, eg, _, wg⟩ := DataW.trod_int Try.underlying3 e2
    refine ⟨m, f, g, ?_⟩
    rw [h26] at hl
    match cs, hl with
    | [c0, c1, c2], _ =>
      simp [h3, h4] at ef em eg
      rw [ef, em, eg]

theorem open_fault {H : Type} {enc : TypeId × Value → H} {W : World} {r : Reach} {b0 base : Nat} {spare : Nat → Bool} {held : Bool} {v : Value} {d : DataW H} {p : List MemPlace}
    (hv' : Value.okWide Try.prog W r b0 23 v) (h : DataW.Trod enc Try.prog W base spare held 23 v d p) :
    ∃ (o : Bool) (t c : Int), v = .agg #[.bool o, .int .i64 t, .int .i64 c] := by
  obtain ⟨cs, rfl, hsz⟩ := okWide_struct Try.underlying23 hv'
  obtain ⟨fuel, hf⟩ := h
  obtain ⟨o, t, c, e⟩ := three_of hf
  refine ⟨o, t, c, ?_⟩
  have e' : cs.toList = _ := e
  congr 1
  apply Array.ext'
  rw [e']

end Go.Proofs.Ytfeioclnhnipmaa
