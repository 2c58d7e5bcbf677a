import Derived.Test.YtadgppedodlgmaaOa
import Derived.OpenShut
import Derived.ChangeSame
import Derived.WideShapes
import Derived.Lib.SmallJoins
import Derived.Test.YtadgppedodlgmaaAb
import Derived.Test.YtadgppedodlgmaaProg
import Derived.WalkKit
import Derived.Deep.Slices
import Derived.Test.YtadgppedodlgmaaJA
namespace Go.Proofs.Ytadgppedodlgmaa
section
set_option maxRecDepth 100000
open Go Go.RowKit Go.ChangeShapes Go.WideShapes
set_option linter.unusedVariables false
set_option linter.unusedSimpArgs false

theorem six_of {H : Type} {enc : TypeId × Value → H} {W : World} {base : Nat} {spare : Nat → Bool} {held : Bool} {fuel : Nat} {cs : List Value} {x : DataW H × List MemPlace} (h : DataW.trod enc Try.prog W base spare held fuel 44 cs = some x) :
    ∃ (f : Int) (m : Bool) (a b c d : Nat), cs = [.int .i64 f, .bool m, .int .u64 (a : Int), .int .u64 (b : Int), .int .u64 (c : Int), .int .u64 (d : Int)] ∧ a < 18446744073709551616 ∧ b < 18446744073709551616 ∧ c < 18446744073709551616 ∧ d < 18446744073709551616 := by
  have h26 : Try.prog.cellsOf 44 = 6 := by kernel_rfl
  have h24 : Try.prog.cellsOf 42 = 2 := by kernel_rfl
  have h22 : Try.prog.cellsOf 40 = 1 := by kernel_rfl
  have h3 : Try.prog.cellsOf 3 = 1 := by kernel_rfl
  have h4 : Try.prog.cellsOf 4 = 1 := by kernel_rfl
  obtain ⟨xs, n, _, rfl, hl, hlen, hf⟩ := DataW.trod_struct Try.underlying44 h
  have hlen' : xs.length = 4 := hlen
  match xs, hlen' with
  | [w0, w1, w2, w3], _ =>
    have e0 := hf 0 _ rfl
    have e1 := hf 1 _ rfl
    have e2 := hf 2 _ rfl
    have e3 := hf 3 _ rfl
    obtain ⟨f, ef, _, wf⟩ := DataW.trod_int Try.underlying3 e0
    obtain ⟨m, em, _⟩ := DataW.trod_bool Try.underlying4 e1
    obtain ⟨z0, z1, n0, _, _, a0, a1⟩ := trod_struct2 Try.underlying42 e2
    obtain ⟨z2, z3, n1, _, _, a2, a3⟩ := trod_struct2 Try.underlying42 e3
    obtain ⟨a, ea, _, wa⟩ := DataW.trod_int Try.underlying40 a0
    obtain ⟨b, eb, _, wb⟩ := DataW.trod_int Try.underlying40 a1
    obtain ⟨c, ec, _, wc⟩ := DataW.trod_int Try.underlying40 a2
    obtain ⟨d, ed, _, wd⟩ := DataW.trod_int Try.underlying40 a3
    obtain ⟨A, rfl, gA⟩ := u64_nat wa
    obtain ⟨B, rfl, gB⟩ := u64_nat wb
    obtain ⟨C, rfl, gC⟩ := u64_nat wc
    obtain ⟨D, rfl, gD⟩ := u64_nat wd
    refine ⟨f, m, A, B, C, D, ?_, gA, gB, gC, gD⟩
    rw [h26] at hl
    match cs, hl with
    | [c0, c1, c2, c3, c4, c5], _ =>
      simp [h24, h22, h3, h4] at ef em ea eb ec ed
      rw [ef, em, ea, eb, ec, ed]

theorem open_oxm {H : Type} {enc : TypeId × Value → H} {W : World} {r : Reach} {b0 base : Nat} {spare : Nat → Bool} {held : Bool} {v : Value} {d : DataW H} {p : List MemPlace}
    (hv' : Value.okWide Try.prog W r b0 44 v) (h : DataW.Trod enc Try.prog W base spare held 44 v d p) :
    ∃ (f : Int) (m : Bool) (a b c d : Nat), v = ov f m a b c d ∧ a < 18446744073709551616 ∧ b < 18446744073709551616 ∧ c < 18446744073709551616 ∧ d < 18446744073709551616 := by
  obtain ⟨cs, rfl, hsz⟩ := okWide_struct Try.underlying44 hv'
  obtain ⟨fuel, hf⟩ := h
  obtain ⟨f, m, a, b, c, d, e, h1, h2, h3, h4⟩ := six_of hf
  refine ⟨f, m, a, b, c, d, ?_, h1, h2, h3, h4⟩
  have e' : cs.toList = _ := e
  unfold ov
  congr 1
  apply Array.ext'
  rw [e']
end

section
set_option maxRecDepth 100000
open Go Go.RowKit Go.ChangeShapes Go.WideShapes
set_option linter.unusedVariables false
set_option linter.unusedSimpArgs false

set_option maxRecDepth 100000 in
theorem eleven_of {H : Type} {enc : TypeId × Value → H} {W : World} {base : Nat} {spare : Nat → Bool} {held : Bool} {fuel : Nat} {cs : List Value} {x : DataW H × List MemPlace} (h : DataW.trod enc Try.prog W base spare held fuel 46 cs = some x) :
    ∃ (k p x q y f : Int) (m : Bool) (a b c d : Nat), cs = [.int .i64 k, .int .i64 p, .int .i64 x, .int .i64 q, .int .i64 y, .int .i64 f, .bool m, .int .u64 (a : Int), .int .u64 (b : Int), .int .u64 (c : Int), .int .u64 (d : Int)] ∧ a < 18446744073709551616 ∧ b < 18446744073709551616 ∧ c < 18446744073709551616 ∧ d < 18446744073709551616 := by
  have h28 : Try.prog.cellsOf 46 = 11 := by kernel_rfl
  have h26 : Try.prog.cellsOf 44 = 6 := by kernel_rfl
  have h3 : Try.prog.cellsOf 3 = 1 := by kernel_rfl
  obtain ⟨xs, n, _, rfl, hl, hlen, hf⟩ := DataW.trod_struct Try.underlying46 h
  have hlen' : xs.length = 6 := hlen
  match xs, hlen' with
  | [w0, w1, w2, w3, w4, w5], _ =>
    have e0 := hf 0 _ rfl
    have e1 := hf 1 _ rfl
    have e2 := hf 2 _ rfl
    have e3 := hf 3 _ rfl
    have e4 := hf 4 _ rfl
    have e5 := hf 5 _ rfl
    obtain ⟨k, ek, _, _⟩ := DataW.trod_int Try.underlying3 e0
    obtain ⟨p, ep, _, _⟩ := DataW.trod_int Try.underlying3 e1
    obtain ⟨x, ex, _, _⟩ := DataW.trod_int Try.underlying3 e2
    obtain ⟨q, eq, _, _⟩ := DataW.trod_int Try.underlying3 e3
    obtain ⟨y, ey, _, _⟩ := DataW.trod_int Try.underlying3 e4
    obtain ⟨f, m, a, b, c, d, eo, ga, gb, gc, gd⟩ := six_of e5
    refine ⟨k, p, x, q, y, f, m, a, b, c, d, ?_, ga, gb, gc, gd⟩
    rw [h28] at hl
    match cs, hl with
    | [c0, c1, c2, c3, c4, c5, c6, c7, c8, c9, c10], _ =>
      simp [h26, h3] at ek ep ex eq ey eo
      obtain ⟨o0, o1, o2, o3, o4, o5⟩ := eo
      rw [ek, ep, ex, eq, ey, o0, o1, o2, o3, o4, o5]

theorem open_act {H : Type} {enc : TypeId × Value → H} {W : World} {r : Reach} {b0 base : Nat} {spare : Nat → Bool} {held : Bool} {v : Value} {d : DataW H} {p : List MemPlace}
    (hv' : Value.okWide Try.prog W r b0 46 v) (h : DataW.Trod enc Try.prog W base spare held 46 v d p) :
    ∃ (k p x q y f : Int) (m : Bool) (a b c d : Nat), v = av k p x q y f m a b c d ∧ a < 18446744073709551616 ∧ b < 18446744073709551616 ∧ c < 18446744073709551616 ∧ d < 18446744073709551616 := by
  obtain ⟨cs, rfl, hsz⟩ := okWide_struct Try.underlying46 hv'
  obtain ⟨fuel, hf⟩ := h
  obtain ⟨k, p, x, q, y, f, m, a, b, c, d, e, h1, h2, h3, h4⟩ := eleven_of hf
  refine ⟨k, p, x, q, y, f, m, a, b, c, d, ?_, h1, h2, h3, h4⟩
  have e' : cs.toList = _ := e
  unfold av
  congr 1
  apply Array.ext'
  rw [e']
end

section
open Go Go.RowKit Go.ChangeShapes Go.WideShapes Go.Deep
set_option linter.unusedVariables false
set_option linter.unusedSimpArgs false

theorem addr_add0 (q off n : Nat) : (⟨q, off, none⟩ : Addr).add n = ⟨q, off + n, none⟩ := by
  unfold Addr.add; split <;> simp_all
theorem addr_form {W : World} {x : Addr} {u : Value} (h : W.cell? x = some u) : ∃ q off, x = ⟨q, off, none⟩ := by
  obtain ⟨q, off, s⟩ := x
  cases s with
  | none => exact ⟨q, off, rfl⟩
  | some s =>
    exfalso
    unfold World.cell? at h
    split at h <;> simp at h
/-- a slice of flat things that came in, opened at every place -/
theorem open_each {H : Type} {enc : TypeId × Value → H} {P : Program} {W : World} {r : Reach} {b0 base : Nat} {spare : Nat → Bool} {held : Bool} {t e : TypeId} {v : Value} {d : DataW H} {p : List MemPlace} {α : Type} [Inhabited α] (cl : α → List Value) (good : α → Prop) (k : Nat) (hk : 0 < k) (hcl : ∀ o, (cl o).length = k)
    (ht : P.underlying t = some (.slice e)) (hce : P.cellsOf e = k) (one : ∀ {fuel : Nat} {cs : List Value} {x : DataW H × List MemPlace}, DataW.trod enc P W base spare held fuel e cs = some x → ∃ o, cs = cl o ∧ good o)
    (hv : Value.okWide P W r b0 t v) (h : DataW.Trod enc P W base spare held t v d p) :
    ∃ (a : Option Addr) (cap : Nat) (L : List α), v = .slice a L.length cap ∧ L.length ≤ cap ∧ cap ≤ maxLen ∧ (a = none → cap = 0) ∧ (∀ o ∈ L, good o) ∧
      ∀ i o, L[i]? = some o → ∃ q off, a = some ⟨q, off, none⟩ ∧ ∀ j u, (cl o)[j]? = some u → W.cell? ⟨q, off + i * k + j, none⟩ = some u := by
  obtain ⟨a, len, cap, rfl⟩ := okWide_slice ht hv
  obtain ⟨fuel, hf⟩ := h
  rcases open_slice ht hf with ⟨hcs, -⟩ | ⟨x, l, c, m, n, D, Pl, hcs, hb, hl, hm, hmm, -, hx⟩
  · simp [Value.cells] at hcs
    obtain ⟨rfl, rfl, rfl⟩ := hcs
    exact ⟨none, 0, [], rfl, Nat.le_refl _, Nat.zero_le _, fun _ => rfl, (fun o ho => by cases ho), (fun i o hi => by simp at hi)⟩
  · simp [Value.cells] at hcs
    obtain ⟨rfl, rfl, rfl⟩ := hcs
    have hlm : len ≤ m := by rw [hmm]; split <;> omega
    obtain ⟨q, hq⟩ := choose_lt (α := α) (n := m) (p := fun i o => good o ∧ ∀ j, j < k → W.cell? (x.add (i * k + j)) = (cl o)[j]?) (fun i hi => by
      obtain ⟨cs', h1, h2⟩ := hx i hi
      rw [hce] at h1
      obtain ⟨o, rfl, go⟩ := one h2
      obtain ⟨-, -, hcell⟩ := World.cells?_some h1
      refine ⟨o, go, fun j hj => ?_⟩
      have := hcell j hj
      rw [add_add] at this
      exact this)
    have hll : ((List.range len).map q).length = len := by simp
    refine ⟨some x, cap, (List.range len).map q, by rw [hll], by omega, hm, (fun e => by cases e), fun o ho => ?_, fun i o hi => ?_⟩
    · obtain ⟨i, hi, rfl⟩ := List.mem_map.1 ho
      exact (hq i (by have := List.mem_range.1 hi; omega)).1
    · rw [List.getElem?_map] at hi
      obtain ⟨i', hi', rfl⟩ := Option.map_eq_some_iff.1 hi
      obtain ⟨hlt, rfl⟩ : i < len ∧ i' = i := by
        rw [List.getElem?_eq_some_iff] at hi'
        obtain ⟨h1, h2⟩ := hi'
        simp at h1 h2
        exact ⟨h1, h2.symm⟩
      have h00 := (hq 0 (by omega)).2 0 hk
      have hlt0 : 0 < (cl (q 0)).length := by rw [hcl]; exact hk
      rw [List.getElem?_eq_getElem hlt0] at h00
      have e0 : x.add (0 * k + 0) = x := by simp [Addr.add]
      rw [e0] at h00
      obtain ⟨b, off, rfl⟩ := addr_form h00
      refine ⟨b, off, rfl, fun j u hj => ?_⟩
      have hjk : j < k := by
        have := (List.getElem?_eq_some_iff.1 hj).1
        rw [hcl] at this; exact this
      have := (hq i' (by omega)).2 j hjk
      rw [addr_add0, hj] at this
      rw [Nat.add_assoc]; exact this
end

section
set_option maxRecDepth 100000
open Go Go.RowKit Go.ChangeShapes Go.WideShapes Go.Deep
set_option linter.unusedVariables false
set_option linter.unusedSimpArgs false

def fitO (o : A11) : Prop := o.2.2.2.2.2.2.2.1 < 18446744073709551616 ∧ o.2.2.2.2.2.2.2.2.1 < 18446744073709551616 ∧ o.2.2.2.2.2.2.2.2.2.1 < 18446744073709551616 ∧ o.2.2.2.2.2.2.2.2.2.2 < 18446744073709551616
theorem open_acts {H : Type} {enc : TypeId × Value → H} {W : World} {r : Reach} {b0 base : Nat} {spare : Nat → Bool} {held : Bool} {v : Value} {d : DataW H} {p : List MemPlace}
    (hv' : Value.okWide Try.prog W r b0 22 v) (h : DataW.Trod enc Try.prog W base spare held 22 v d p) : ∃ L, ActAt W v L ∧ AFit L := by
  obtain ⟨a, cap, L, rfl, h1, h2, h3, h4, h5⟩ := open_each acl fitO 11 (by omega) (fun o => rfl) Try.underlying22 (by kernel_rfl) (fun hh => by
    obtain ⟨k, p, x, q, y, f, m, a, b, c, d, e, g1, g2, g3, g4⟩ := eleven_of hh
    exact ⟨(k, p, x, q, y, f, m, a, b, c, d), e, g1, g2, g3, g4⟩) hv' h
  refine ⟨L, ⟨a, cap, rfl, h1, h2, h3, fun i o hi => ?_⟩, fun k p x q y f m a b c d hi => h4 _ hi⟩
  obtain ⟨q, off, e, hc⟩ := h5 i o hi
  exact ⟨q, off, e, fun j u hu => hc j u hu⟩
end

end Go.Proofs.Ytadgppedodlgmaa
