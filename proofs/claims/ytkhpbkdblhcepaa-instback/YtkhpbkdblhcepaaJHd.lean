import Derived.Test.YtkhpbkdblhcepaaProg
import Derived.Test.YtkhpbkdblhcepaaJOd
import Derived.Test.YtkhpbkdblhcepaaJAd
import Derived.Test.YtkhpbkdblhcepaaKNd
import Derived.WalkKit
import Derived.OpenShut
import Derived.ChangeSame
import Derived.WideShapes
import Derived.Deep.Slices
import Derived.Lib.SmallJoins
namespace Go.Proofs.Ytkhpbkdblhcepaa
section
open Go Go.RowKit Go.ChangeShapes Go.WideShapes Go.Deep
set_option linter.unusedVariables false
set_option linter.unusedSimpArgs false

theorem addr_add0 (q off n : Nat) : (⟨q, off, none⟩ : Addr).add n = ⟨q, off + n, none⟩ := by
  unfold Addr.add; split <;> simp_all
theorem addr_form {W : World} {x : Addr} {u : Value} (h : W.cell? x = some u) : ∃ q off, x = ⟨q, off, none⟩ := by
  obtain ⟨q, off, s⟩ := x
  cases s with
  | none => exact ⟨q, off, rfl⟩
  | some s =>
    exfalso
    unfold World.cell? at h
    split at h <;> simp at h
/-- a slice of flat things that came in, opened at every place -/
theorem open_each {H : Type} {enc : TypeId × Value → H} {P : Program} {W : World} {r : Reach} {b0 base : Nat} {spare : Nat → Bool} {held : Bool} {t e : TypeId} {v : Value} {d : DataW H} {p : List MemPlace} {α : Type} [Inhabited α] (cl : α → List Value) (good : α → Prop) (k : Nat) (hk : 0 < k) (hcl : ∀ o, (cl o).length = k)
    (ht : P.underlying t = some (.slice e)) (hce : P.cellsOf e = k) (one : ∀ {fuel : Nat} {cs : List Value} {x : DataW H × List MemPlace}, DataW.trod enc P W base spare held fuel e cs = some x → ∃ o, cs = cl o ∧ good o)
    (hv : Value.okWide P W r b0 t v) (h : DataW.Trod enc P W base spare held t v d p) :
    ∃ (a : Option Addr) (cap : Nat) (L : List α), v = .slice a L.length cap ∧ L.length ≤ cap ∧ cap ≤ maxLen ∧ (a = none → cap = 0) ∧ (∀ o ∈ L, good o) ∧
      ∀ i o, L[i]? = some o → ∃ q off, a = some ⟨q, off, none⟩ ∧ ∀ j u, (cl o)[j]? = some u → W.cell? ⟨q, off + i * k + j, none⟩ = some u := by
  obtain ⟨a, len, cap, rfl⟩ := okWide_slice ht hv
  obtain ⟨fuel, hf⟩ := h
  rcases open_slice ht hf with ⟨hcs, -⟩ | ⟨x, l, c, m, n, D, Pl, hcs, hb, hl, hm, hmm, -, hx⟩
  · simp [Value.cells] at hcs
    obtain ⟨rfl, rfl, rfl⟩ := hcs
    exact ⟨none, 0, [], rfl, Nat.le_refl _, Nat.zero_le _, fun _ => rfl, (fun o ho => by cases ho), (fun i o hi => by simp at hi)⟩
  · simp [Value.cells] at hcs
    obtain ⟨rfl, rfl, rfl⟩ := hcs
    have hlm : len ≤ m := by rw [hmm]; split <;> omega
    obtain ⟨q, hq⟩ := choose_lt (α := α) (n := m) (p := fun i o => good o ∧ ∀ j, j < k → W.cell? (x.add (i * k + j)) = (cl o)[j]?) (fun i hi => by
      obtain ⟨cs', h1, h2⟩ := hx i hi
      rw [hce] at h1
      obtain ⟨o, rfl, go⟩ := one h2
      obtain ⟨-, -, hcell⟩ := World.cells?_some h1
      refine ⟨o, go, fun j hj => ?_⟩
      have := hcell j hj
      rw [add_add] at this
      exact this)
    have hll : ((List.range len).map q).length = len := by simp
    refine ⟨some x, cap, (List.range len).map q, by rw [hll], by omega, hm, (fun e => by cases e), fun o ho => ?_, fun i o hi => ?_⟩
    · obtain ⟨i, hi, rfl⟩ := List.mem_map.1 ho
      exact (hq i (by have := List.mem_range.1 hi; omega)).1
    · rw [List.getElem?_map] at hi
      obtain ⟨i', hi', rfl⟩ := Option.map_eq_some_iff.1 hi
      obtain ⟨hlt, rfl⟩ : i < len ∧ i' = i := by
        rw [List.getElem?_eq_some_iff] at hi'
        obtain ⟨h1, h2⟩ := hi'
        simp at h1 h2
        exact ⟨h1, h2.symm⟩
      have h00 := (hq 0 (by omega)).2 0 hk
      have hlt0 : 0 < (cl (q 0)).length := by rw [hcl]; exact hk
      rw [List.getElem?_eq_getElem hlt0] at h00
      have e0 : x.add (0 * k + 0) = x := by simp [Addr.add]
      rw [e0] at h00
      obtain ⟨b, off, rfl⟩ := addr_form h00
      refine ⟨b, off, rfl, fun j u hj => ?_⟩
      have hjk : j < k := by
        have := (List.getElem?_eq_some_iff.1 hj).1
        rw [hcl] at this; exact this
      have := (hq i' (by omega)).2 j hjk
      rw [addr_add0, hj] at this
      rw [Nat.add_assoc]; exact this
end

section
set_option maxRecDepth 100000
open Go Go.RowKit Go.ChangeShapes Go.WideShapes Go.Deep
set_option linter.unusedVariables false
set_option linter.unusedSimpArgs false

def fitO (o : A11) : Prop := o.2.2.2.2.2.2.2.1 < 18446744073709551616 ∧ o.2.2.2.2.2.2.2.2.1 < 18446744073709551616 ∧ o.2.2.2.2.2.2.2.2.2.1 < 18446744073709551616 ∧ o.2.2.2.2.2.2.2.2.2.2 < 18446744073709551616
end

section
set_option maxRecDepth 100000
open Go Go.RowKit Go.ChangeShapes Go.WideShapes Go.Deep
set_option linter.unusedVariables false
set_option linter.unusedSimpArgs false

/-- a slice of flat things that came in, opened at every place -/
theorem open_eachT {H : Type} {enc : TypeId × Value → H} {P : Program} {W : World} {base : Nat} {spare : Nat → Bool} {held : Bool} {t e : TypeId} {fuel0 : Nat} {cs0 : List Value} {x0 : DataW H × List MemPlace} {α : Type} [Inhabited α] (cl : α → List Value) (good : α → Prop) (k : Nat) (hk : 0 < k) (hcl : ∀ o, (cl o).length = k)
    (ht : P.underlying t = some (.slice e)) (hce : P.cellsOf e = k) (one : ∀ {fuel : Nat} {cs : List Value} {x : DataW H × List MemPlace}, DataW.trod enc P W base spare held fuel e cs = some x → ∃ o, cs = cl o ∧ good o)
    (hf : DataW.trod enc P W base spare held fuel0 t cs0 = some x0) :
    ∃ (a : Option Addr) (cap : Nat) (L : List α), cs0 = [.slice a L.length cap] ∧ L.length ≤ cap ∧ cap ≤ maxLen ∧ (a = none → cap = 0) ∧ (∀ o ∈ L, good o) ∧
      ∀ i o, L[i]? = some o → ∃ q off, a = some ⟨q, off, none⟩ ∧ ∀ j u, (cl o)[j]? = some u → W.cell? ⟨q, off + i * k + j, none⟩ = some u := by
  rcases open_slice ht hf with ⟨hcs, -⟩ | ⟨x, len, cap, m, n, D, Pl, hcs, hb, hl, hm, hmm, -, hx⟩
  · subst hcs
    exact ⟨none, 0, [], rfl, Nat.le_refl _, Nat.zero_le _, fun _ => rfl, (fun o ho => by cases ho), (fun i o hi => by simp at hi)⟩
  · subst hcs
    have hlm : len ≤ m := by rw [hmm]; split <;> omega
    obtain ⟨q, hq⟩ := choose_lt (α := α) (n := m) (p := fun i o => good o ∧ ∀ j, j < k → W.cell? (x.add (i * k + j)) = (cl o)[j]?) (fun i hi => by
      obtain ⟨cs', h1, h2⟩ := hx i hi
      rw [hce] at h1
      obtain ⟨o, rfl, go⟩ := one h2
      obtain ⟨-, -, hcell⟩ := World.cells?_some h1
      refine ⟨o, go, fun j hj => ?_⟩
      have := hcell j hj
      rw [add_add] at this
      exact this)
    have hll : ((List.range len).map q).length = len := by simp
    refine ⟨some x, cap, (List.range len).map q, by rw [hll], by omega, hm, (fun e => by cases e), fun o ho => ?_, fun i o hi => ?_⟩
    · obtain ⟨i, hi, rfl⟩ := List.mem_map.1 ho
      exact (hq i (by have := List.mem_range.1 hi; omega)).1
    · rw [List.getElem?_map] at hi
      obtain ⟨i', hi', rfl⟩ := Option.map_eq_some_iff.1 hi
      obtain ⟨hlt, rfl⟩ : i < len ∧ i' = i := by
        rw [List.getElem?_eq_some_iff] at hi'
        obtain ⟨h1, h2⟩ := hi'
        simp at h1 h2
        exact ⟨h1, h2.symm⟩
      have h00 := (hq 0 (by omega)).2 0 hk
      have hlt0 : 0 < (cl (q 0)).length := by rw [hcl]; exact hk
      rw [List.getElem?_eq_getElem hlt0] at h00
      have e0 : x.add (0 * k + 0) = x := by simp [Addr.add]
      rw [e0] at h00
      obtain ⟨b, off, rfl⟩ := addr_form h00
      refine ⟨b, off, rfl, fun j u hj => ?_⟩
      have hjk : j < k := by
        have := (List.getElem?_eq_some_iff.1 hj).1
        rw [hcl] at this; exact this
      have := (hq i' (by omega)).2 j hjk
      rw [addr_add0, hj] at this
      rw [Nat.add_assoc]; exact this

theorem open_actsT {H : Type} {enc : TypeId × Value → H} {W : World} {base : Nat} {spare : Nat → Bool} {held : Bool} {fuel : Nat} {cs : List Value} {x : DataW H × List MemPlace}
    (h : DataW.trod enc Try.prog W base spare held fuel 22 cs = some x) : ∃ u L, cs = [u] ∧ ActAt W u L ∧ AFit L := by
  obtain ⟨a, cap, L, rfl, h1, h2, h3, h4, h5⟩ := open_eachT acl fitO 11 (by omega) (fun o => rfl) Try.underlying22 (by kernel_rfl) (fun hh => by
    obtain ⟨k, p, x, q, y, f, m, a, b, c, d, e, g1, g2, g3, g4⟩ := eleven_of hh
    exact ⟨(k, p, x, q, y, f, m, a, b, c, d), e, g1, g2, g3, g4⟩) h
  refine ⟨_, L, rfl, ⟨a, cap, rfl, h1, h2, h3, fun i o hi => ?_⟩, fun k p x q y f m a b c d hi => h4 _ hi⟩
  obtain ⟨q, off, e, hc⟩ := h5 i o hi
  exact ⟨q, off, e, fun j u hu => hc j u hu⟩
end

end Go.Proofs.Ytkhpbkdblhcepaa

