import Derived.Test.YtbdbehdgpmfelaaVf
import Derived.Test.YtbdbehdgpmfelaaVi
import Derived.Test.YtbdbehdgpmfelaaVh
namespace Go.Proofs.Ytbdbehdgpmfelaa
open Go Go.RowKit
set_option linter.unusedVariables false
set_option linter.unusedSimpArgs false

theorem flat_at : ∀ (L : List (List Q4)) (j k : Nat) (x : List Q4), (∀ y ∈ L, (tdc y).length = 96) → L[j]? = some x → k < 96 → (L.flatMap tdc)[j * 96 + k]? = (tdc x)[k]?
  | [], j, k, x, _, h, _ => by simp at h
  | y :: L, 0, k, x, hl, h, hk => by
    have : y = x := by simpa using h
    subst this
    rw [List.flatMap_cons, List.getElem?_append_left (by rw [hl y List.mem_cons_self]; omega)]
    simp
  | y :: L, j + 1, k, x, hl, h, hk => by
    rw [List.flatMap_cons, List.getElem?_append_right (by rw [hl y List.mem_cons_self]; omega), hl y List.mem_cons_self, show (j + 1) * 96 + k - 96 = j * 96 + k by omega]
    exact flat_at L j k x (fun z hz => hl z (List.mem_cons_of_mem _ hz)) (by simpa using h) hk
theorem own_range {w : World} {base : Nat} {e : TypeId} {v : Value} {n j : Nat} {L : List (List Q4)} {x : List Q4} (h : w.ownsRow base e 96 v n (L.flatMap tdc)) (hl : ∀ y ∈ L, isC y) (hj : L[j]? = some x) : ∃ g cap, v = .slice (some ⟨g, 0, none⟩) n cap ∧ base ≤ g ∧ w.rangeAt g (j * 96) (tdc x) := by
  have hx := lenC (hl x (List.mem_of_getElem? hj))
  have hf := fun k (hk : k < 96) => flat_at L j k x (fun y hy => lenC (hl y hy)) hj hk
  have h0 : ((tdc x)[0]?).isSome := by rw [List.getElem?_eq_getElem (by omega)]; rfl
  obtain ⟨v0, hv0⟩ := Option.isSome_iff_exists.1 h0
  obtain ⟨g, cap, rfl, hb, -⟩ := own_at h (by rw [hf 0 (by omega)]; exact hv0)
  refine ⟨g, cap, rfl, hb, fun k u hu => ?_⟩
  have hk : k < 96 := by have := (List.getElem?_eq_some_iff.1 hu).1; omega
  obtain ⟨g', cap', e1, -, hc⟩ := own_at h (by rw [hf k hk]; exact hu)
  cases e1
  exact hc
theorem own_later {w w' : World} {base : Nat} {e : TypeId} {size : Nat} {v : Value} {n : Nat} {xs : List Value} (h : w.ownsRow base e size v n xs) (hb : Below w.heap.size w w') : w'.ownsRow base e size v n xs :=
  own_out (S := fun _ => False) (Out.of_below hb) (fun _ _ h => h) h
theorem cntH_take {L : List (List Q4)} {j : Nat} {x : List Q4} (v : List (Nat × Nat)) (h : L[j]? = some x) : cntH (L.take (j + 1)) v = cntH (L.take j) v + one (hasC x v) := by
  obtain ⟨hj, e⟩ := List.getElem?_eq_some_iff.1 h
  rw [List.take_succ_eq_append_getElem hj, e, cntH_app, cntH_cons]
  unfold one cntH
  cases hasC x v <;> rfl

end Go.Proofs.Ytbdbehdgpmfelaa
