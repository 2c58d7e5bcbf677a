import Derived.Test.YtcffebkebldjcaaOa
import Derived.OpenShut
import Derived.ChangeSame
import Derived.WideShapes
import Derived.Lib.SmallJoins
namespace Go.Proofs.Ytcffebkebldjcaa
set_option maxRecDepth 100000
open Go Go.RowKit Go.ChangeShapes Go.WideShapes
set_option linter.unusedVariables false
set_option linter.unusedSimpArgs false

theorem six_of {H : Type} {enc : TypeId × Value → H} {W : World} {base : Nat} {spare : Nat → Bool} {held : Bool} {fuel : Nat} {cs : List Value} {x : DataW H × List MemPlace} (h : DataW.trod enc Try.prog W base spare held fuel 51 cs = some x) :
    ∃ (f : Int) (m : Bool) (a b c d : Nat), cs = [.int .i64 f, .bool m, .int .u64 (a : Int), .int .u64 (b : Int), .int .u64 (c : Int), .int .u64 (d : Int)] ∧ a < 18446744073709551616 ∧ b < 18446744073709551616 ∧ c < 18446744073709551616 ∧ d < 18446744073709551616 := by
  have h26 : Try.prog.cellsOf 51 = 6 := by kernel_rfl
  have h24 : Try.prog.cellsOf 35 = 2 := by kernel_rfl
  have h22 : Try.prog.cellsOf 33 = 1 := by kernel_rfl
  have h3 : Try.prog.cellsOf 3 = 1 := by kernel_rfl
  have h4 : Try.prog.cellsOf 4 = 1 := by kernel_rfl
  obtain ⟨xs, n, _, rfl, hl, hlen, hf⟩ := DataW.trod_struct Try.underlying51 h
  have hlen' : xs.length = 4 := hlen
  match xs, hlen' with
  | [w0, w1, w2, w3], _ =>
    have e0 := hf 0 _ rfl
    have e1 := hf 1 _ rfl
    have e2 := hf 2 _ rfl
    have e3 := hf 3 _ rfl
    obtain ⟨f, ef, _, wf⟩ := DataW.trod_int Try.underlying3 e0
    obtain ⟨m, em, _⟩ := DataW.trod_bool Try.underlying4 e1
    obtain ⟨z0, z1, n0, _, _, a0, a1⟩ := trod_struct2 Try.underlying35 e2
    obtain ⟨z2, z3, n1, _, _, a2, a3⟩ := trod_struct2 Try.underlying35 e3
    obtain ⟨a, ea, _, wa⟩ := DataW.trod_int Try.underlying33 a0
    obtain ⟨b, eb, _, wb⟩ := DataW.trod_int Try.underlying33 a1
    obtain ⟨c, ec, _, wc⟩ := DataW.trod_int Try.underlying33 a2
    obtain ⟨d, ed, _, wd⟩ := DataW.trod_int Try.underlying33 a3
    obtain ⟨A, rfl, gA⟩ := u64_nat wa
    obtain ⟨B, rfl, gB⟩ := u64_nat wb
    obtain ⟨C, rfl, gC⟩ := u64_nat wc
    obtain ⟨D, rfl, gD⟩ := u64_nat wd
    refine ⟨f, m, A, B, C, D, ?_, gA, gB, gC, gD⟩
    rw [h26] at hl
    match cs, hl with
    | [c0, c1, c2, c3, c4, c5], _ =>
      simp [h24, h22, h3, h4] at ef em ea eb ec ed
      rw [ef, em, ea, eb, ec, ed]

theorem open_oxm {H : Type} {enc : TypeId × Value → H} {W : World} {r : Reach} {b0 base : Nat} {spare : Nat → Bool} {held : Bool} {v : Value} {d : DataW H} {p : List MemPlace}
    (hv' : Value.okWide Try.prog W r b0 51 v) (h : DataW.Trod enc Try.prog W base spare held 51 v d p) :
    ∃ (f : Int) (m : Bool) (a b c d : Nat), v = ov f m a b c d ∧ a < 18446744073709551616 ∧ b < 18446744073709551616 ∧ c < 18446744073709551616 ∧ d < 18446744073709551616 := by
  obtain ⟨cs, rfl, hsz⟩ := okWide_struct Try.underlying51 hv'
  obtain ⟨fuel, hf⟩ := h
  obtain ⟨f, m, a, b, c, d, e, h1, h2, h3, h4⟩ := six_of hf
  refine ⟨f, m, a, b, c, d, ?_, h1, h2, h3, h4⟩
  have e' : cs.toList = _ := e
  unfold ov
  congr 1
  apply Array.ext'
  rw [e']

end Go.Proofs.Ytcffebkebldjcaa
