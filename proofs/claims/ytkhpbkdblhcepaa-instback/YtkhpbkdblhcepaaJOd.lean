import Derived.Test.YtkhpbkdblhcepaaOad
import Derived.Test.YtkhpbkdblhcepaaAad
import Derived.OpenShut
import Derived.ChangeSame
import Derived.WideShapes
import Derived.Lib.SmallJoins
namespace Go.Proofs.Ytkhpbkdblhcepaa
section
open Go Go.RowKit Go.ChangeShapes Go.WideShapes
set_option maxRecDepth 100000
set_option linter.unusedVariables false
set_option linter.unusedSimpArgs false

theorem six_of {H : Type} {enc : TypeId × Value → H} {W : World} {base : Nat} {spare : Nat → Bool} {held : Bool} {fuel : Nat} {cs : List Value} {x : DataW H × List MemPlace} (h : DataW.trod enc Try.prog W base spare held fuel 63 cs = some x) :
    ∃ (f : Int) (m : Bool) (a b c d : Nat), cs = [.int .i64 f, .bool m, .int .u64 (a : Int), .int .u64 (b : Int), .int .u64 (c : Int), .int .u64 (d : Int)] ∧ a < 18446744073709551616 ∧ b < 18446744073709551616 ∧ c < 18446744073709551616 ∧ d < 18446744073709551616 := by
  have h26 : Try.prog.cellsOf 63 = 6 := by kernel_rfl
  have h24 : Try.prog.cellsOf 47 = 2 := by kernel_rfl
  have h22 : Try.prog.cellsOf 45 = 1 := by kernel_rfl
  have h3 : Try.prog.cellsOf 3 = 1 := by kernel_rfl
  have h4 : Try.prog.cellsOf 4 = 1 := by kernel_rfl
  obtain ⟨xs, n, _, rfl, hl, hlen, hf⟩ := DataW.trod_struct Try.underlying63 h
  have hlen' : xs.length = 4 := hlen
  match xs, hlen' with
  | [w0, w1, w2, w3], _ =>
    have e0 := hf 0 _ rfl
    have e1 := hf 1 _ rfl
    have e2 := hf 2 _ rfl
    have e3 := hf 3 _ rfl
    obtain ⟨f, ef, _, wf⟩ := DataW.trod_int Try.underlying3 e0
    obtain ⟨m, em, _⟩ := DataW.trod_bool Try.underlying4 e1
    obtain ⟨z0, z1, n0, _, _, a0, a1⟩ := trod_struct2 Try.underlying47 e2
    obtain ⟨z2, z3, n1, _, _, a2, a3⟩ := trod_struct2 Try.underlying47 e3
    obtain ⟨a, ea, _, wa⟩ := DataW.trod_int Try.underlying45 a0
    obtain ⟨b, eb, _, wb⟩ := DataW.trod_int Try.underlying45 a1
    obtain ⟨c, ec, _, wc⟩ := DataW.trod_int Try.underlying45 a2
    obtain ⟨d, ed, _, wd⟩ := DataW.trod_int Try.underlying45 a3
    obtain ⟨A, rfl, gA⟩ := u64_nat wa
    obtain ⟨B, rfl, gB⟩ := u64_nat wb
    obtain ⟨C, rfl, gC⟩ := u64_nat wc
    obtain ⟨D, rfl, gD⟩ := u64_nat wd
    refine ⟨f, m, A, B, C, D, ?_, gA, gB, gC, gD⟩
    rw [h26] at hl
    match cs, hl with
    | [c0, c1, c2, c3, c4, c5], _ =>
      simp [h24, h22, h3, h4] at ef em ea eb ec ed
      rw [ef, em, ea, eb, ec, ed]

end

section
set_option maxRecDepth 100000
open Go Go.RowKit Go.ChangeShapes Go.WideShapes
set_option linter.unusedVariables false
set_option linter.unusedSimpArgs false

set_option maxRecDepth 100000 in
theorem eleven_of {H : Type} {enc : TypeId × Value → H} {W : World} {base : Nat} {spare : Nat → Bool} {held : Bool} {fuel : Nat} {cs : List Value} {x : DataW H × List MemPlace} (h : DataW.trod enc Try.prog W base spare held fuel 65 cs = some x) :
    ∃ (k p x q y f : Int) (m : Bool) (a b c d : Nat), cs = [.int .i64 k, .int .i64 p, .int .i64 x, .int .i64 q, .int .i64 y, .int .i64 f, .bool m, .int .u64 (a : Int), .int .u64 (b : Int), .int .u64 (c : Int), .int .u64 (d : Int)] ∧ a < 18446744073709551616 ∧ b < 18446744073709551616 ∧ c < 18446744073709551616 ∧ d < 18446744073709551616 := by
  have h28 : Try.prog.cellsOf 65 = 11 := by kernel_rfl
  have h26 : Try.prog.cellsOf 63 = 6 := by kernel_rfl
  have h3 : Try.prog.cellsOf 3 = 1 := by kernel_rfl
  obtain ⟨xs, n, _, rfl, hl, hlen, hf⟩ := DataW.trod_struct Try.underlying65 h
  have hlen' : xs.length = 6 := hlen
  match xs, hlen' with
  | [w0, w1, w2, w3, w4, w5], _ =>
    have e0 := hf 0 _ rfl
    have e1 := hf 1 _ rfl
    have e2 := hf 2 _ rfl
    have e3 := hf 3 _ rfl
    have e4 := hf 4 _ rfl
    have e5 := hf 5 _ rfl
    obtain ⟨k, ek, _, _⟩ := DataW.trod_int Try.underlying3 e0
    obtain ⟨p, ep, _, _⟩ := DataW.trod_int Try.underlying3 e1
    obtain ⟨x, ex, _, _⟩ := DataW.trod_int Try.underlying3 e2
    obtain ⟨q, eq, _, _⟩ := DataW.trod_int Try.underlying3 e3
    obtain ⟨y, ey, _, _⟩ := DataW.trod_int Try.underlying3 e4
    obtain ⟨f, m, a, b, c, d, eo, ga, gb, gc, gd⟩ := six_of e5
    refine ⟨k, p, x, q, y, f, m, a, b, c, d, ?_, ga, gb, gc, gd⟩
    rw [h28] at hl
    match cs, hl with
    | [c0, c1, c2, c3, c4, c5, c6, c7, c8, c9, c10], _ =>
      simp [h26, h3] at ek ep ex eq ey eo
      obtain ⟨o0, o1, o2, o3, o4, o5⟩ := eo
      rw [ek, ep, ex, eq, ey, o0, o1, o2, o3, o4, o5]

end

end Go.Proofs.Ytkhpbkdblhcepaa

