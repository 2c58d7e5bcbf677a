import Derived.Test.YtbdbehdgpmfelaaVza
namespace Go.Proofs.Ytbdbehdgpmfelaa
open Go Go.RowKit
set_option linter.unusedVariables false
set_option linter.unusedSimpArgs false

theorem min_mul_cut (a b K : Nat) (hb : 1 ≤ b) : min (min a K * b) K = min (a * b) K := by
  rcases Nat.le_total a K with h | h
  · rw [Nat.min_eq_left h]
  · have h1 : K ≤ K * b := Nat.le_mul_of_pos_right K hb
    have h2 : K * b ≤ a * b := Nat.mul_le_mul_right b h
    rw [Nat.min_eq_right h, Nat.min_eq_right h1, Nat.min_eq_right (Nat.le_trans h1 h2)]
theorem prodC_snoc (x : List Q4) : ∀ M, prodC (M ++ [x]) = prodC M * max (sizeK x 24) 1
  | [] => by show max (sizeK x 24) 1 * 1 = 1 * max (sizeK x 24) 1; rw [Nat.mul_comm]
  | y :: M => by
    show max (sizeK y 24) 1 * prodC (M ++ [x]) = max (sizeK y 24) 1 * prodC M * max (sizeK x 24) 1
    rw [prodC_snoc x M, Nat.mul_assoc]
theorem bnd_eq (M : List (List Q4)) : ∀ j, j ≤ M.length → bnd M j = min ((M.length + 1) * prodC (M.take j)) 1099511627776
  | 0, _ => by
    show min (M.length + 1) 1099511627776 = min ((M.length + 1) * 1) 1099511627776
    rw [Nat.mul_one]
  | j + 1, h => by
    have ih := bnd_eq M j (by omega)
    have hj : j < M.length := by omega
    have e : M.getD j [] = M[j] := by rw [List.getD_eq_getElem?_getD, List.getElem?_eq_getElem hj]; rfl
    show min (bnd M j * max (sizeK (M.getD j []) 24) 1) 1099511627776 = _
    rw [ih, e, List.take_succ_eq_append_getElem hj, prodC_snoc, min_mul_cut _ _ _ (Nat.le_max_right _ _), Nat.mul_assoc]
/-- Bound, cut at 2^40 -/
theorem bnd_bound (c : List Q4) (L : List (List Q4)) : bnd (meetsC c L) (meetsC c L).length = min (boundC c L) 1099511627776 := by
  rw [bnd_eq _ _ (Nat.le_refl _), List.take_length]
  rfl

end Go.Proofs.Ytbdbehdgpmfelaa
