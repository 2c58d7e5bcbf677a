import Derived.Test.YtfeioclnhnipmaaNn
namespace Go.Proofs.Ytfeioclnhnipmaa
open Go Go.RowKit
set_option linter.unusedVariables false
set_option linter.unusedSimpArgs false

def lenF (b : List Int) : Nat := (be2 b 2).toNat
/-- how many bytes the message has that b begins with -/
def wholeF (b : List Int) : Option Nat := if b.length < 8 then none else if lenF b < 8 then some b.length else if b.length < lenF b then none else some (lenF b)
theorem wholeF_some {b : List Int} {n : Nat} (h : wholeF b = some n) : 8 ≤ n ∧ n ≤ b.length := by
  unfold wholeF at h
  split at h
  · cases h
  · split at h
    · cases h; omega
    · split at h
      · cases h
      · cases h; omega
/-- b's whole messages, and what is behind them -/
inductive Cuts : List Int → List (List Int) → List Int → Prop
  | stop {b : List Int} : wholeF b = none → Cuts b [] b
  | step {b : List Int} {n : Nat} {M : List (List Int)} {r : List Int} : wholeF b = some n → Cuts (b.drop n) M r → Cuts b (b.take n :: M) r
theorem cuts_ex (k : Nat) : ∀ b : List Int, b.length ≤ k → ∃ M r, Cuts b M r := by
  induction k with
  | zero =>
    intro b h
    exact ⟨[], b, .stop (by unfold wholeF; rw [if_pos (by omega)])⟩
  | succ k ih =>
    intro b h
    cases hw : wholeF b with
    | none => exact ⟨[], b, .stop hw⟩
    | some n =>
      have h8 := wholeF_some hw
      obtain ⟨M, r, hc⟩ := ih (b.drop n) (by rw [List.length_drop]; omega)
      exact ⟨_, r, .step hw hc⟩
theorem Cuts.join {b r : List Int} {M : List (List Int)} (h : Cuts b M r) : M.flatten ++ r = b := by
  induction h with
  | stop h => rfl
  | step h k ih => rw [List.flatten_cons, List.append_assoc, ih, List.take_append_drop]
theorem Cuts.some8 {b r : List Int} {M : List (List Int)} (h : Cuts b M r) : ∀ x ∈ M, 8 ≤ x.length := by
  induction h with
  | stop h => intro x hx; cases hx
  | step h k ih =>
    intro x hx
    rcases List.mem_cons.1 hx with rfl | hx
    · have := wholeF_some h; rw [List.length_take]; omega
    · exact ih x hx
theorem Cuts.len {b r : List Int} {M : List (List Int)} (h : Cuts b M r) : M.length * 8 + r.length ≤ b.length := by
  induction h with
  | stop h => simp
  | step h k ih =>
    have := wholeF_some h
    rw [List.length_drop] at ih
    simp only [List.length_cons]
    omega
theorem Cuts.uniq {b r r' : List Int} {M M' : List (List Int)} (h : Cuts b M r) (k : Cuts b M' r') : M = M' ∧ r = r' := by
  induction h generalizing M' r' with
  | stop h =>
    cases k with
    | stop _ => exact ⟨rfl, rfl⟩
    | step h2 _ => rw [h] at h2; cases h2
  | step h k0 ih =>
    cases k with
    | stop h2 => rw [h] at h2; cases h2
    | step h2 k2 =>
      rw [h] at h2
      cases h2
      obtain ⟨rfl, rfl⟩ := ih k2
      exact ⟨rfl, rfl⟩
/-- what a whole message begins with, whatever is behind -/
theorem wholeF_app (m rest : List Int) (h8 : 8 ≤ m.length) (hn : be2 m 2 = (m.length : Int)) : wholeF (m ++ rest) = some m.length := by
  have e : be2 (m ++ rest) 2 = be2 m 2 := by
    unfold be2
    rw [if_pos (by rw [List.length_append]; omega), if_pos (by omega)]
    rw [List.getD_eq_getElem?_getD, List.getD_eq_getElem?_getD, List.getD_eq_getElem?_getD, List.getD_eq_getElem?_getD, List.getElem?_append_left (by omega), List.getElem?_append_left (by omega)]
  unfold wholeF lenF
  rw [e, hn]
  simp only [Int.toNat_natCast, List.length_append]
  rw [if_neg (by omega), if_neg (by omega), if_neg (by omega)]
theorem cuts_msgs (rest : List Int) (hr : rest.length < 8) : ∀ M : List (List Int), (∀ x ∈ M, 8 ≤ x.length ∧ be2 x 2 = (x.length : Int)) → Cuts (M.flatten ++ rest) M rest := by
  intro M
  induction M with
  | nil => intro _; exact .stop (by unfold wholeF; rw [if_pos (by simpa using hr)])
  | cons x M ih =>
    intro h
    have hx := h x (List.mem_cons_self ..)
    have hw := wholeF_app x (M.flatten ++ rest) hx.1 hx.2
    have e : (x :: M).flatten ++ rest = x ++ (M.flatten ++ rest) := by simp
    rw [e]
    have h1 : (x ++ (M.flatten ++ rest)).take x.length = x := by simp
    have h2 : (x ++ (M.flatten ++ rest)).drop x.length = M.flatten ++ rest := by simp
    have k : Cuts ((x ++ (M.flatten ++ rest)).drop x.length) M rest := by rw [h2]; exact ih (fun y hy => h y (List.mem_cons_of_mem _ hy))
    have := Cuts.step hw k
    rwa [h1] at this
theorem cuts_pre {b r x : List Int} {M pre : List (List Int)} (h : Cuts b M r) (hp : pre ++ [x] <+: M) : pre.length < M.length ∧ M[pre.length]? = some x := by
  obtain ⟨s, rfl⟩ := hp
  constructor
  · simp
  · simp

end Go.Proofs.Ytfeioclnhnipmaa
