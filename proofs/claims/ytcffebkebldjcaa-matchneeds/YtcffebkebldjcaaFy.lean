import Derived.Test.YtcffebkebldjcaaEk
import Derived.Test.YtcffebkebldjcaaEl
import Derived.Deep.RegionHeld3
import Derived.Deep.RegionWith
import Derived.Deep.MidRow
import Derived.Deep.Cut
namespace Go.Proofs.Ytcffebkebldjcaa
open Go Go.RowKit
set_option linter.unusedVariables false
set_option linter.unusedSimpArgs false


theorem allB_at' {p : Nat → Bool} {n k : Nat} (h : allB p n = true) (hk : k < n) : p k = true := by unfold allB at h; exact List.all_eq_true.1 h k (List.mem_range.2 hk)
theorem mchk_met {L : List O6} (h : mchk [] L = none) : ∀ {k : Nat} {o : O6}, L[k]? = some o → metB (L.take k) o.1 = true := by
  have key : ∀ k, k ≤ L.length → mchk (L.take k) (L.drop k) = none := by
    intro k
    induction k with
    | zero => intro _; simpa using h
    | succ k ih =>
      intro hk
      have e := ih (by omega)
      obtain ⟨o, ho⟩ : ∃ o, L[k]? = some o := ⟨_, List.getElem?_eq_getElem (by omega)⟩
      rw [mchk_drop ho] at e
      split at e
      · cases e
      · split at e
        · exact e
        · cases e
  intro k o ho
  have hk : k < L.length := (List.getElem?_eq_some_iff.1 ho).1
  have e := key k (by omega)
  rw [mchk_drop ho] at e
  split at e
  · cases e
  · split at e
    · assumption
    · cases e
theorem cube_other (f : Nat) : ∀ (L : List O6) (c : List Q4), (∀ o ∈ L, fok o.1 = true → o.1.toNat ≠ f) → (L.foldl cubeStep c)[f]? = c[f]? := by
  intro L
  induction L with
  | nil => intro c _; rfl
  | cons o r ih =>
    intro c h
    show (r.foldl cubeStep (cubeStep c o))[f]? = _
    rw [ih _ (fun x hx => h x (by simp [hx]))]
    unfold cubeStep
    split
    · rename_i hf
      rw [List.getElem?_set_ne (h o (by simp) hf)]
    · rfl
theorem cube_at : ∀ (L : List O6) (c : List Q4) (t : O6), c.length = 24 → (L.map (·.1)).Nodup → t ∈ L → fok t.1 = true → (L.foldl cubeStep c)[t.1.toNat]? = some (ternQ t) := by
  intro L
  induction L with
  | nil => intro c t _ _ h; cases h
  | cons o r ih =>
    intro c t hc hn ht hf
    have hn' : (∀ x ∈ r, x.1 ≠ o.1) ∧ (r.map (·.1)).Nodup := by
      simp only [List.map_cons, List.nodup_cons, List.mem_map] at hn
      exact ⟨fun x hx e => hn.1 ⟨x, hx, e⟩, hn.2⟩
    have hl : (cubeStep c o).length = 24 := by unfold cubeStep; split <;> simp [hc]
    show (r.foldl cubeStep (cubeStep c o))[t.1.toNat]? = _
    rcases List.mem_cons.1 ht with rfl | ht
    · rw [cube_other t.1.toNat r _ (fun x hx hx' e => hn'.1 x hx (by unfold fok at hf hx'; simp at hf hx'; omega))]
      unfold cubeStep
      rw [if_pos hf, List.getElem?_set_self (by unfold fok at hf; simp at hf; omega)]
    · exact ih _ t hl hn'.2 ht hf
theorem nd_vals (f nf : Int) (vs : List Nat) (h : (nf, vs) ∈ nd f) : vs = [] ∨ (nf = 4 ∧ ∀ v ∈ vs, v < 65536) ∨ (nf = 9 ∧ ∀ v ∈ vs, v < 256) := by
  have key : ∀ f : Int, (nd f).all (fun p => p.2.isEmpty || (decide (p.1 = 4) && p.2.all (· < 65536)) || (decide (p.1 = 9) && p.2.all (· < 256))) = true := by
    intro f
    unfold nd
    split <;> decide
  have := List.all_eq_true.1 (key f) _ h
  simp only [Bool.or_eq_true, Bool.and_eq_true, decide_eq_true_eq, List.all_eq_true, List.isEmpty_iff] at this
  rcases this with (h | h) | h
  · exact .inl h
  · exact .inr (.inl ⟨h.1, h.2⟩)
  · exact .inr (.inr ⟨h.1, h.2⟩)
theorem and_low (b y n : Nat) (hb : b < 2 ^ n) (h : (b ^^^ y) &&& (2 ^ n - 1) = 0) : y &&& (2 ^ n - 1) = b := by
  apply Nat.eq_of_testBit_eq
  intro i
  have e := congrArg (fun z => z.testBit i) h
  simp only [Nat.testBit_and, Nat.testBit_xor, Nat.testBit_two_pow_sub_one, Nat.zero_testBit] at e ⊢
  by_cases hi : i < n
  · simp only [hi, decide_true, Bool.and_true] at e ⊢
    cases h1 : b.testBit i <;> cases h2 : y.testBit i <;> simp_all
  · simp only [hi, decide_false, Bool.and_false]
    exact (Nat.testBit_lt_two_pow (Nat.lt_of_lt_of_le hb (Nat.pow_le_pow_right (by omega) (by omega)))).symm
/-- what a header of a match's cube has, where a part needs it -/
theorem needs_math (L : List O6) (l : List (Nat × Nat)) (hl : l.length = 24) (hk : mchk [] L = none) (hh : hasC (cubeL L) l = true) {j k : Nat} {o : O6} (ho : L[j]? = some o) {nf : Int} {vs : List Nat} (hp : (nd o.1)[k]? = some (nf, vs)) (hv : vs ≠ []) :
    (nf = 4 ∧ ∃ x y, l[4]? = some (x, y) ∧ vs.any (fun v => decide (v = y &&& 65535)) = true) ∨ (nf = 9 ∧ ∃ x y, l[9]? = some (x, y) ∧ vs.any (fun v => decide (v = y &&& 255)) = true) := by
  have hm := mchk_met hk ho
  unfold metB at hm
  have h1 := List.all_eq_true.1 hm _ (List.mem_of_getElem? hp)
  obtain ⟨t, ht, hb⟩ := List.any_eq_true.1 h1
  have htL : t ∈ L := List.mem_of_mem_take ht
  unfold meetB at hb
  have he : vs.isEmpty = false := by cases vs with
    | nil => exact absurd rfl hv
    | cons a r => rfl
  simp only [he, Bool.false_or, Bool.and_eq_true, decide_eq_true_eq, List.any_eq_true, Bool.not_eq_true'] at hb
  obtain ⟨hf, hmk, v, hvm, h0, hvb⟩ := hb
  have hn := (mchk_nodup L [] hk).2
  obtain ⟨tf, tm, ta, tb', tc, td'⟩ := t
  dsimp only at hf hmk h0 hvb
  subst hf hmk h0 hvb
  have fin : ∀ (i n : Nat), tf = (i : Int) → i < 24 → LL tf = 2 ^ n - 1 → v < 2 ^ n → ∃ x y, l[i]? = some (x, y) ∧ vs.any (fun v => decide (v = y &&& (2 ^ n - 1))) = true := by
    intro i n e hi hL hlt
    subst e
    have hc : (cubeL L)[i]? = some (0, v, LH (i : Int), LL (i : Int)) := by
      have := cube_at L z24q _ z24q_len hn htL (by unfold fok; simp; omega)
      simpa [ternQ, cubeL] using this
    have hz := allB_at' (p := fun k => thz4 (cq (cubeL L) k) (wq l k)) hh hi
    obtain ⟨⟨x, y⟩, hx⟩ : ∃ p, l[i]? = some p := ⟨_, List.getElem?_eq_getElem (by omega)⟩
    refine ⟨x, y, hx, ?_⟩
    rw [cq_at hc, wq_at hx] at hz
    unfold thz4 thz at hz
    simp only [Bool.and_eq_true, beq_iff_eq] at hz
    rw [hL] at hz
    rw [List.any_eq_true]
    exact ⟨v, hvm, by simp [and_low v y n hlt hz.2]⟩
  rcases nd_vals _ _ _ (List.mem_of_getElem? hp) with h | ⟨rfl, h⟩ | ⟨rfl, h⟩
  · exact absurd h hv
  · exact .inl ⟨rfl, fin 4 16 rfl (by omega) (by decide) (h v hvm)⟩
  · exact .inr ⟨rfl, fin 9 8 rfl (by omega) (by decide) (h v hvm)⟩
theorem cubeL_isC {L : List O6} (h : Fit L) : isC (cubeL L) := by
  have key : ∀ (L : List O6) (c : List Q4), Fit L → isC c → isC (L.foldl cubeStep c) := by
    intro L
    induction L with
    | nil => intro c _ h; exact h
    | cons o r ih =>
      intro c hF hc
      obtain ⟨f, m, a, b, x, y⟩ := o
      obtain ⟨g1, g2, g3, g4⟩ := hF 0 f m a b x y rfl
      refine ih _ (fun i f m a b c d hi => hF (i + 1) f m a b c d (by simpa using hi)) ?_
      unfold cubeStep
      split
      · refine ⟨by simp [hc.1], fun p hp => ?_⟩
        rcases List.mem_or_eq_of_mem_set hp with hp | rfl
        · exact hc.2 p hp
        · unfold ternQ
          cases m
          · exact ⟨g1, g2, LH_lt f, LL_lt f⟩
          · exact ⟨g1, g2, g3, g4⟩
      · exact hc
  refine key L z24q h ⟨z24q_len, fun p hp => ?_⟩
  unfold z24q at hp
  rw [List.mem_replicate] at hp
  rw [hp.2]
  decide

end Go.Proofs.Ytcffebkebldjcaa
