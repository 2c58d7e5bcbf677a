import Derived.Test.YtbdbehdgpmfelaaEo
import Derived.Test.YtbdbehdgpmfelaaXh
import Derived.Test.YtbdbehdgpmfelaaXj
import Derived.Test.YtbdbehdgpmfelaaVk
namespace Go.Proofs.Ytbdbehdgpmfelaa
open Go Go.RowKit Go.ChangeShapes Go.WideShapes Go.Deep
set_option linter.unusedVariables false
set_option linter.unusedSimpArgs false

theorem cube_of {H : Type} {enc : TypeId × Value → H} {W : World} {base : Nat} {spare : Nat → Bool} {held : Bool} {fuel : Nat} {cs : List Value} {x : DataW H × List MemPlace} (hlen : cs.length = 96)
    (hf : DataW.trod enc Try.prog W base spare held fuel 28 cs = some x) : ∃ l, cs = tdc l ∧ isC l := by
  have h26 : Try.prog.cellsOf 26 = 4 := by kernel_rfl
  obtain ⟨xs, m, _, _, hl, hxl, hx⟩ := DataW.trod_array Try.underlying28 hf
  obtain ⟨l, h1, h2, h3⟩ := quads_list 24 cs (by simp [hlen]) (fun i hi => by
    have e := hx i hi
    rw [h26, List.getElem?_eq_getElem (by omega)] at e
    exact quad_of e)
  exact ⟨l, h2, h1, h3⟩

theorem flat_lenY : ∀ (L : List (List Q4)), (∀ y ∈ L, (tdc y).length = 96) → (L.flatMap tdc).length = L.length * 96
  | [], _ => rfl
  | x :: L, h => by
    rw [List.flatMap_cons, List.length_append, h x (by simp), flat_lenY L (fun y hy => h y (by simp [hy])), List.length_cons]
    omega
/-- a slice of cubes that came in -/
theorem open_cubes {H : Type} {enc : TypeId × Value → H} {W : World} {r : Reach} {b0 base : Nat} {spare : Nat → Bool} {held : Bool} {v : Value} {d : DataW H} {p : List MemPlace}
    (hv' : Value.okWide Try.prog W r b0 29 v) (h : DataW.Trod enc Try.prog W base spare held 29 v d p) : ∃ L, CubesAt W v L := by
  have h44 : Try.prog.cellsOf 28 = 96 := by kernel_rfl
  obtain ⟨a, len, cap, rfl⟩ := okWide_slice Try.underlying29 hv'
  obtain ⟨fuel, hf⟩ := h
  rcases open_slice Try.underlying29 hf with ⟨hcs, -⟩ | ⟨x, l, c, m, n, D, Pl, hcs, hb, hl, hm, hmm, -, hx⟩
  · simp [Value.cells] at hcs
    obtain ⟨rfl, rfl, rfl⟩ := hcs
    refine ⟨[], ⟨⟨rfl, none, 0, rfl, Nat.le_refl _, Nat.zero_le _, fun _ => rfl, fun x e => by cases e⟩, fun x hx => by cases hx⟩⟩
  · simp [Value.cells] at hcs
    obtain ⟨rfl, rfl, rfl⟩ := hcs
    have hlm : len ≤ m := by rw [hmm]; split <;> omega
    obtain ⟨q, hq⟩ := choose_lt (α := List Q4) (n := m) (p := fun i o => isC o ∧ ∀ j, j < 96 → W.cell? (x.add (i * 96 + j)) = (tdc o)[j]?) (fun i hi => by
      obtain ⟨cs', h1, h2⟩ := hx i hi
      rw [h44] at h1
      obtain ⟨-, hlen, hcell⟩ := World.cells?_some h1
      obtain ⟨o, rfl, go⟩ := cube_of hlen h2
      refine ⟨o, go, fun j hj => ?_⟩
      have := hcell j hj
      rw [add_add] at this
      exact this)
    have hgood : ∀ y ∈ (List.range len).map q, isC y := fun y hy => by
      obtain ⟨i, hi, rfl⟩ := List.mem_map.1 hy
      exact (hq i (by have := List.mem_range.1 hi; omega)).1
    have hll : ((List.range len).map q).length = len := by simp
    have h96 : ∀ y ∈ (List.range len).map q, (tdc y).length = 96 := fun y hy => lenC (hgood y hy)
    have hfl : (((List.range len).map q).flatMap tdc).length = len * 96 := by
      rw [flat_lenY _ h96, hll]
    refine ⟨(List.range len).map q, ⟨⟨?_, some x, cap, by rw [hll], by rw [hll]; omega, hm, (fun e => by cases e), ?_⟩, hgood⟩⟩
    · rw [hfl, hll]
    · intro a0 e j u hj
      cases e
      have hj' : j < len * 96 := by rw [← hfl]; exact (List.getElem?_eq_some_iff.1 hj).1
      have hi : j / 96 < len := by omega
      have hx0 : ((List.range len).map q)[j / 96]? = some (q (j / 96)) := by rw [List.getElem?_map, List.getElem?_range hi]; rfl
      have e1 := flat_at _ (j / 96) (j % 96) _ h96 hx0 (by omega)
      have e2 : j / 96 * 96 + j % 96 = j := by omega
      rw [e2] at e1
      have := (hq (j / 96) (by omega)).2 (j % 96) (by omega)
      rw [e2] at this
      rw [this, ← e1]
      exact hj

end Go.Proofs.Ytbdbehdgpmfelaa
