import Derived.Test.YtbdbehdgpmfelaaVk
import Derived.Test.YtbdbehdgpmfelaaVf
namespace Go.Proofs.Ytbdbehdgpmfelaa
open Go Go.RowKit
set_option linter.unusedVariables false
set_option linter.unusedSimpArgs false

theorem flat_len : ∀ (L : List (List Q4)), (∀ y ∈ L, (tdc y).length = 96) → (L.flatMap tdc).length = L.length * 96
  | [], _ => rfl
  | y :: L, h => by
    rw [List.flatMap_cons, List.length_append, h y (by simp), flat_len L (fun z hz => h z (by simp [hz])), List.length_cons]
    omega
theorem CubesAt.drop {W : World} {g o n cap F : Nat} {L : List (List Q4)} (h : CubesAt W (.slice (some ⟨g, o, none⟩) n cap) L) (hF : F < n) :
    CubesAt W (.slice (if cap = F + 1 then some ⟨g, o, none⟩ else some ⟨g, o + (F + 1) * 96, none⟩) (n - (F + 1)) (cap - (F + 1))) (L.drop (F + 1)) := by
  obtain ⟨⟨h0, a, k, e, h1, h2, h3, h4⟩, h5⟩ := h
  cases e
  have hl : ∀ y ∈ L, (tdc y).length = 96 := fun y hy => lenC (h5 y hy)
  refine ⟨⟨?_, _, _, by rw [List.length_drop], by rw [List.length_drop]; omega, by omega, fun e => ?_, fun ad e j u hu => ?_⟩, fun x hx => h5 x (List.mem_of_mem_drop hx)⟩
  · exact flat_len _ (fun y hy => hl y (List.mem_of_mem_drop hy))
  · split at e <;> cases e
  · have hL : (L.flatMap tdc)[(F + 1) * 96 + j]? = some u := by
      have e1 : L.flatMap tdc = (L.take (F + 1)).flatMap tdc ++ (L.drop (F + 1)).flatMap tdc := by
        rw [← List.flatMap_append, List.take_append_drop]
      have e2 : ((L.take (F + 1)).flatMap tdc).length = (F + 1) * 96 := by
        rw [flat_len _ (fun y hy => hl y (List.mem_of_mem_take hy)), List.length_take, Nat.min_eq_left (by omega)]
      rw [e1, List.getElem?_append_right (by omega), e2, Nat.add_sub_cancel_left]
      exact hu
    have hc := h4 ⟨g, o, none⟩ rfl ((F + 1) * 96 + j) u hL
    split at e
    · rename_i hk
      have : L.drop (F + 1) = [] := List.drop_eq_nil_of_le (by omega)
      rw [this] at hu
      simp at hu
    · cases e
      rw [Addr.add_lit] at hc ⊢
      rw [← Nat.add_assoc] at hc
      exact hc

end Go.Proofs.Ytbdbehdgpmfelaa
