import Derived.Test.YtkhpbkdblhcepaaProg
import Derived.WalkKit
import Derived.OpenShut
import Derived.ChangeSame
import Derived.WideShapes
import Derived.Deep.Slices
import Derived.Lib.SmallJoins
import Derived.Test.YtkhpbkdblhcepaaJO
import Derived.Test.YtkhpbkdblhcepaaJA
import Derived.Test.YtkhpbkdblhcepaaKN
namespace Go.Proofs.Ytkhpbkdblhcepaa
section
open Go Go.RowKit Go.ChangeShapes Go.WideShapes Go.Deep
set_option linter.unusedVariables false
set_option linter.unusedSimpArgs false

theorem addr_add0 (q off n : Nat) : (⟨q, off, none⟩ : Addr).add n = ⟨q, off + n, none⟩ := by
  unfold Addr.add; split <;> simp_all
theorem addr_form {W : World} {x : Addr} {u : Value} (h : W.cell? x = some u) : ∃ q off, x = ⟨q, off, none⟩ := by
  obtain ⟨q, off, s⟩ := x
  cases s with
  | none => exact ⟨q, off, rfl⟩
  | some s =>
    exfalso
    unfold World.cell? at h
    split at h <;> simp at h
/-- a slice of flat things that came in, opened at every place -/
theorem open_each {H : Type} {enc : TypeId × Value → H} {P : Program} {W : World} {r : Reach} {b0 base : Nat} {spare : Nat → Bool} {held : Bool} {t e : TypeId} {v : Value} {d : DataW H} {p : List MemPlace} {α : Type} [Inhabited α] (cl : α → List Value) (good : α → Prop) (k : Nat) (hk : 0 < k) (hcl : ∀ o, (cl o).length = k)
    (ht : P.underlying t = some (.slice e)) (hce : P.cellsOf e = k) (one : ∀ {fuel : Nat} {cs : List Value} {x : DataW H × List MemPlace}, DataW.trod enc P W base spare held fuel e cs = some x → ∃ o, cs = cl o ∧ good o)
    (hv : Value.okWide P W r b0 t v) (h : DataW.Trod enc P W base spare held t v d p) :
    ∃ (a : Option Addr) (cap : Nat) (L : List α), v = .slice a L.length cap ∧ L.length ≤ cap ∧ cap ≤ maxLen ∧ (a = none → cap = 0) ∧ (∀ o ∈ L, good o) ∧
      ∀ i o, L[i]? = some o → ∃ q off, a = some ⟨q, off, none⟩ ∧ ∀ j u, (cl o)[j]? = some u → W.cell? ⟨q, off + i * k + j, none⟩ = some u := by
  obtain ⟨a, len, cap, rfl⟩ := okWide_slice ht hv
  obtain ⟨fuel, hf⟩ := h
  rcases open_slice ht hf with ⟨hcs, -⟩ | ⟨x, l, c, m, n, D, Pl, hcs, hb, hl, hm, hmm, -, hx⟩
  · simp [Value.cells] at hcs
    obtain ⟨rfl, rfl, rfl⟩ := hcs
    exact ⟨none, 0, [], rfl, Nat.le_refl _, Nat.zero_le _, fun _ => rfl, (fun o ho => by cases ho), (fun i o hi => by simp at hi)⟩
  · simp [Value.cells] at hcs
    obtain ⟨rfl, rfl, rfl⟩ := hcs
    have hlm : len ≤ m := by rw [hmm]; split <;> omega
    obtain ⟨q, hq⟩ := choose_lt (α := α) (n := m) (p := fun i o => good o ∧ ∀ j, j < k → W.cell? (x.add (i * k + j)) = (cl o)[j]?) (fun i hi => by
      obtain ⟨cs', h1, h2⟩ := hx i hi
      rw [hce] at h1
      obtain ⟨o, rfl, go⟩ := one h2
      obtain ⟨-, -, hcell⟩ := World.cells?_some h1
      refine ⟨o, go, fun j hj => ?_⟩
      have := hcell j hj
      rw [add_add] at this
      exact this)
    have hll : ((List.range len).map q).length = len := by simp
    refine ⟨some x, cap, (List.range len).map q, by rw [hll], by omega, hm, (fun e => by cases e), fun o ho => ?_, fun i o hi => ?_⟩
    · obtain ⟨i, hi, rfl⟩ := List.mem_map.1 ho
      exact (hq i (by have := List.mem_range.1 hi; omega)).1
    · rw [List.getElem?_map] at hi
      obtain ⟨i', hi', rfl⟩ := Option.map_eq_some_iff.1 hi
      obtain ⟨hlt, rfl⟩ : i < len ∧ i' = i := by
        rw [List.getElem?_eq_some_iff] at hi'
        obtain ⟨h1, h2⟩ := hi'
        simp at h1 h2
        exact ⟨h1, h2.symm⟩
      have h00 := (hq 0 (by omega)).2 0 hk
      have hlt0 : 0 < (cl (q 0)).length := by rw [hcl]; exact hk
      rw [List.getElem?_eq_getElem hlt0] at h00
      have e0 : x.add (0 * k + 0) = x := by simp [Addr.add]
      rw [e0] at h00
      obtain ⟨b, off, rfl⟩ := addr_form h00
      refine ⟨b, off, rfl, fun j u hj => ?_⟩
      have hjk : j < k := by
        have := (List.getElem?_eq_some_iff.1 hj).1
        rw [hcl] at this; exact this
      have := (hq i' (by omega)).2 j hjk
      rw [addr_add0, hj] at this
      rw [Nat.add_assoc]; exact this
end

section
set_option maxRecDepth 100000
open Go Go.RowKit Go.ChangeShapes Go.WideShapes Go.Deep
set_option linter.unusedVariables false
set_option linter.unusedSimpArgs false

def fitO (o : A11) : Prop := o.2.2.2.2.2.2.2.1 < 18446744073709551616 ∧ o.2.2.2.2.2.2.2.2.1 < 18446744073709551616 ∧ o.2.2.2.2.2.2.2.2.2.1 < 18446744073709551616 ∧ o.2.2.2.2.2.2.2.2.2.2 < 18446744073709551616
theorem open_acts {H : Type} {enc : TypeId × Value → H} {W : World} {r : Reach} {b0 base : Nat} {spare : Nat → Bool} {held : Bool} {v : Value} {d : DataW H} {p : List MemPlace}
    (hv' : Value.okWide Try.prog W r b0 22 v) (h : DataW.Trod enc Try.prog W base spare held 22 v d p) : ∃ L, ActAt W v L ∧ AFit L := by
  obtain ⟨a, cap, L, rfl, h1, h2, h3, h4, h5⟩ := open_each acl fitO 11 (by omega) (fun o => rfl) Try.underlying22 (by kernel_rfl) (fun hh => by
    obtain ⟨k, p, x, q, y, f, m, a, b, c, d, e, g1, g2, g3, g4⟩ := eleven_of hh
    exact ⟨(k, p, x, q, y, f, m, a, b, c, d), e, g1, g2, g3, g4⟩) hv' h
  refine ⟨L, ⟨a, cap, rfl, h1, h2, h3, fun i o hi => ?_⟩, fun k p x q y f m a b c d hi => h4 _ hi⟩
  obtain ⟨q, off, e, hc⟩ := h5 i o hi
  exact ⟨q, off, e, fun j u hu => hc j u hu⟩
end

section
set_option maxRecDepth 100000
open Go Go.RowKit Go.ChangeShapes Go.WideShapes Go.Deep
set_option linter.unusedVariables false
set_option linter.unusedSimpArgs false

/-- a slice of flat things that came in, opened at every place -/
theorem open_eachT {H : Type} {enc : TypeId × Value → H} {P : Program} {W : World} {base : Nat} {spare : Nat → Bool} {held : Bool} {t e : TypeId} {fuel0 : Nat} {cs0 : List Value} {x0 : DataW H × List MemPlace} {α : Type} [Inhabited α] (cl : α → List Value) (good : α → Prop) (k : Nat) (hk : 0 < k) (hcl : ∀ o, (cl o).length = k)
    (ht : P.underlying t = some (.slice e)) (hce : P.cellsOf e = k) (one : ∀ {fuel : Nat} {cs : List Value} {x : DataW H × List MemPlace}, DataW.trod enc P W base spare held fuel e cs = some x → ∃ o, cs = cl o ∧ good o)
    (hf : DataW.trod enc P W base spare held fuel0 t cs0 = some x0) :
    ∃ (a : Option Addr) (cap : Nat) (L : List α), cs0 = [.slice a L.length cap] ∧ L.length ≤ cap ∧ cap ≤ maxLen ∧ (a = none → cap = 0) ∧ (∀ o ∈ L, good o) ∧
      ∀ i o, L[i]? = some o → ∃ q off, a = some ⟨q, off, none⟩ ∧ ∀ j u, (cl o)[j]? = some u → W.cell? ⟨q, off + i * k + j, none⟩ = some u := by
  rcases open_slice ht hf with ⟨hcs, -⟩ | ⟨x, len, cap, m, n, D, Pl, hcs, hb, hl, hm, hmm, -, hx⟩
  · subst hcs
    exact ⟨none, 0, [], rfl, Nat.le_refl _, Nat.zero_le _, fun _ => rfl, (fun o ho => by cases ho), (fun i o hi => by simp at hi)⟩
  · subst hcs
    have hlm : len ≤ m := by rw [hmm]; split <;> omega
    obtain ⟨q, hq⟩ := choose_lt (α := α) (n := m) (p := fun i o => good o ∧ ∀ j, j < k → W.cell? (x.add (i * k + j)) = (cl o)[j]?) (fun i hi => by
      obtain ⟨cs', h1, h2⟩ := hx i hi
      rw [hce] at h1
      obtain ⟨o, rfl, go⟩ := one h2
      obtain ⟨-, -, hcell⟩ := World.cells?_some h1
      refine ⟨o, go, fun j hj => ?_⟩
      have := hcell j hj
      rw [add_add] at this
      exact this)
    have hll : ((List.range len).map q).length = len := by simp
    refine ⟨some x, cap, (List.range len).map q, by rw [hll], by omega, hm, (fun e => by cases e), fun o ho => ?_, fun i o hi => ?_⟩
    · obtain ⟨i, hi, rfl⟩ := List.mem_map.1 ho
      exact (hq i (by have := List.mem_range.1 hi; omega)).1
    · rw [List.getElem?_map] at hi
      obtain ⟨i', hi', rfl⟩ := Option.map_eq_some_iff.1 hi
      obtain ⟨hlt, rfl⟩ : i < len ∧ i' = i := by
        rw [List.getElem?_eq_some_iff] at hi'
        obtain ⟨h1, h2⟩ := hi'
        simp at h1 h2
        exact ⟨h1, h2.symm⟩
      have h00 := (hq 0 (by omega)).2 0 hk
      have hlt0 : 0 < (cl (q 0)).length := by rw [hcl]; exact hk
      rw [List.getElem?_eq_getElem hlt0] at h00
      have e0 : x.add (0 * k + 0) = x := by simp [Addr.add]
      rw [e0] at h00
      obtain ⟨b, off, rfl⟩ := addr_form h00
      refine ⟨b, off, rfl, fun j u hj => ?_⟩
      have hjk : j < k := by
        have := (List.getElem?_eq_some_iff.1 hj).1
        rw [hcl] at this; exact this
      have := (hq i' (by omega)).2 j hjk
      rw [addr_add0, hj] at this
      rw [Nat.add_assoc]; exact this

theorem open_actsT {H : Type} {enc : TypeId × Value → H} {W : World} {base : Nat} {spare : Nat → Bool} {held : Bool} {fuel : Nat} {cs : List Value} {x : DataW H × List MemPlace}
    (h : DataW.trod enc Try.prog W base spare held fuel 22 cs = some x) : ∃ u L, cs = [u] ∧ ActAt W u L ∧ AFit L := by
  obtain ⟨a, cap, L, rfl, h1, h2, h3, h4, h5⟩ := open_eachT acl fitO 11 (by omega) (fun o => rfl) Try.underlying22 (by kernel_rfl) (fun hh => by
    obtain ⟨k, p, x, q, y, f, m, a, b, c, d, e, g1, g2, g3, g4⟩ := eleven_of hh
    exact ⟨(k, p, x, q, y, f, m, a, b, c, d), e, g1, g2, g3, g4⟩) h
  refine ⟨_, L, rfl, ⟨a, cap, rfl, h1, h2, h3, fun i o hi => ?_⟩, fun k p x q y f m a b c d hi => h4 _ hi⟩
  obtain ⟨q, off, e, hc⟩ := h5 i o hi
  exact ⟨q, off, e, fun j u hu => hc j u hu⟩
theorem buck_of {H : Type} {enc : TypeId × Value → H} {W : World} {base : Nat} {spare : Nat → Bool} {held : Bool} {fuel : Nat} {cs : List Value} {x : DataW H × List MemPlace}
    (h : DataW.trod enc Try.prog W base spare held fuel 98 cs = some x) : ∃ p : PB, cs = bcl p ∧ ActAt W p.2 p.1.2.2.2 ∧ AFit p.1.2.2.2 := by
  have h28 : Try.prog.cellsOf 98 = 4 := by kernel_rfl
  have h22 : Try.prog.cellsOf 22 = 1 := by kernel_rfl
  have h3 : Try.prog.cellsOf 3 = 1 := by kernel_rfl
  obtain ⟨xs, n, _, rfl, hl, hlen, hf⟩ := DataW.trod_struct Try.underlying98 h
  have hlen' : xs.length = 4 := hlen
  match xs, hlen' with
  | [w0, w1, w2, w3], _ =>
    have e0 := hf 0 _ rfl
    have e1 := hf 1 _ rfl
    have e2 := hf 2 _ rfl
    have e3 := hf 3 _ rfl
    obtain ⟨a, ea, _, _⟩ := DataW.trod_int Try.underlying3 e0
    obtain ⟨b, eb, _, _⟩ := DataW.trod_int Try.underlying3 e1
    obtain ⟨c, ec, _, _⟩ := DataW.trod_int Try.underlying3 e2
    obtain ⟨u, L, eu, hA, hF⟩ := open_actsT e3
    refine ⟨((a, b, c, L), u), ?_, hA, hF⟩
    rw [h28] at hl
    match cs, hl with
    | [c0, c1, c2, c3], _ =>
      simp [h22, h3] at ea eb ec eu
      rw [ea, eb, ec, eu]
      rfl
/-- a slice of buckets that came in -/
theorem open_bucks {H : Type} {enc : TypeId × Value → H} {W : World} {r : Reach} {b0 base : Nat} {spare : Nat → Bool} {held : Bool} {v : Value} {d : DataW H} {p : List MemPlace}
    (hv' : Value.okWide Try.prog W r b0 53 v) (h : DataW.Trod enc Try.prog W base spare held 53 v d p) : ∃ L, BuckAt W v L ∧ BFit L := by
  have : Inhabited PB := ⟨((0, 0, 0, []), .slice none 0 0)⟩
  obtain ⟨a, cap, P, rfl, h1, h2, h3, h4, h5⟩ := open_each bcl (fun p : PB => ActAt W p.2 p.1.2.2.2 ∧ AFit p.1.2.2.2) 4 (by omega) (fun o => rfl) Try.underlying53 (by kernel_rfl) (fun hh => buck_of hh) hv' h
  refine ⟨P.map (·.1), ⟨a, cap, by rw [List.length_map], by rw [List.length_map]; exact h1, h2, h3, fun i o hi => ?_⟩, fun o ho => ?_⟩
  · rw [List.getElem?_map] at hi
    obtain ⟨p, hp, rfl⟩ := Option.map_eq_some_iff.1 hi
    obtain ⟨q, off, e, hc⟩ := h5 i p hp
    exact ⟨q, off, p.2, e, hc 0 _ rfl, hc 1 _ rfl, hc 2 _ rfl, hc 3 _ rfl, (h4 p (List.mem_of_getElem? hp)).1⟩
  · obtain ⟨p, hp, rfl⟩ := List.mem_map.1 ho
    exact (h4 p hp).2
end

end Go.Proofs.Ytkhpbkdblhcepaa
