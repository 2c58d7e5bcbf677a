import Derived.Test.YtkhpbkdblhcepaaOmd
import Derived.Test.YtkhpbkdblhcepaaObd
import Derived.Deep.RegionHeld3
import Derived.Deep.RegionWith
import Derived.Deep.MidRow
import Derived.Deep.Cut
namespace Go.Proofs.Ytkhpbkdblhcepaa
open Go Go.RowKit
set_option linter.unusedVariables false
set_option linter.unusedSimpArgs false

theorem gx_lt (l : List Int) (s : Int) (h : isB l) : gx l s < 18446744073709551616 := by
  have := gv_lt l s h
  unfold gx; omega
theorem gy_lt (l : List Int) (s : Int) : gy l s < 18446744073709551616 := Nat.mod_lt _ (by decide)
theorem isB_drop {l : List Int} (h : isB l) (k : Nat) : isB (l.drop k) := fun z hz => h z (List.mem_of_mem_drop hz)
theorem bodyA_lt (l : List Int) (f : Int) (m : Bool) (h : isB l) : (bodyA l f m).1 < 18446744073709551616 ∧ (bodyA l f m).2.1 < 18446744073709551616 ∧ (bodyA l f m).2.2.1 < 18446744073709551616 ∧ (bodyA l f m).2.2.2 < 18446744073709551616 := by
  unfold bodyA
  refine ⟨gx_lt _ _ h, gy_lt _ _, ?_, ?_⟩
  · cases m
    · simp
    · exact gx_lt _ _ (isB_drop h _)
  · cases m
    · simp
    · exact gy_lt _ _
theorem headR_ok {l : List Int} {f : Int} {m : Bool} (h : headR l = (0, f, m)) : ∃ b0 b1 b2 b3 r, ∃ j : Nat, l = b0 :: b1 :: b2 :: b3 :: r ∧ b3 ≤ (r.length : Int) ∧ b0 * 256 + b1 = 32768 ∧ fidx (b2 / 2) = some j ∧ f = (j : Int) ∧ m = decide (b2 % 2 = 1) ∧ (m = true → fmask f = true) ∧ b3 = foll f m := by
  by_cases h4 : l.length < 4
  · rw [headR_short h4] at h; simp at h
  · obtain ⟨b0, b1, b2, b3, r, rfl⟩ := four_of h4
    unfold headR at h
    dsimp only at h
    by_cases h1 : (r.length : Int) < b3
    · rw [if_pos h1] at h; simp at h
    · rw [if_neg h1] at h
      cases hf : fidx (b2 / 2) with
      | none => rw [hf] at h; simp at h
      | some j =>
        rw [hf] at h
        dsimp only at h
        by_cases h2 : b0 * 256 + b1 = 32768
        · rw [if_pos h2] at h
          by_cases h3 : (decide (b2 % 2 = 1) && !(fmask (j : Int))) = true
          · rw [if_pos h3] at h; simp at h
          · rw [if_neg h3] at h
            by_cases h5 : b3 = foll (j : Int) (decide (b2 % 2 = 1))
            · rw [if_pos h5] at h
              have e1 : f = (j : Int) := by have := congrArg (fun x => x.2.1) h; exact this.symm
              have e2 : m = decide (b2 % 2 = 1) := by have := congrArg (fun x => x.2.2) h; exact this.symm
              refine ⟨b0, b1, b2, b3, r, j, rfl, by omega, h2, hf, e1, e2, fun hm => ?_, by rw [e1, e2]; exact h5⟩
              rw [e1]
              rw [e2] at hm
              rw [hm] at h3
              cases hk : fmask (j : Int)
              · rw [hk] at h3; simp at h3
              · rfl
            · rw [if_neg h5] at h; simp at h
        · rw [if_neg h2] at h; simp at h
theorem headR_len {l : List Int} {f : Int} {m : Bool} (h : headR l = (0, f, m)) : 4 ≤ l.length ∧ fsize f ≤ (l.drop 4).length := by
  obtain ⟨b0, b1, b2, b3, r, j, rfl, h1, -, -, -, -, -, h2⟩ := headR_ok h
  refine ⟨by simp, ?_⟩
  have : (fsize f : Int) ≤ foll f m := by unfold foll; cases m <;> dsimp only <;> omega
  simp
  omega
def decV (l : List Int) : Value :=
  if (headR l).1 = 0 then
    (if chk (headR l).2.1 (headR l).2.2 (bodyA (l.drop 4) (headR l).2.1 (headR l).2.2).1 (bodyA (l.drop 4) (headR l).2.1 (headR l).2.2).2.1 (bodyA (l.drop 4) (headR l).2.1 (headR l).2.2).2.2.1 (bodyA (l.drop 4) (headR l).2.1 (headR l).2.2).2.2.2 = 0 then
      .tuple #[ov (headR l).2.1 (headR l).2.2 (bodyA (l.drop 4) (headR l).2.1 (headR l).2.2).1 (bodyA (l.drop 4) (headR l).2.1 (headR l).2.2).2.1 (bodyA (l.drop 4) (headR l).2.1 (headR l).2.2).2.2.1 (bodyA (l.drop 4) (headR l).2.1 (headR l).2.2).2.2.2, .int .i64 (4 + foll (headR l).2.1 (headR l).2.2), fv false 0 0]
    else .tuple #[ov 0 false 0 0 0 0, .int .i64 0, fv true 4 (chk (headR l).2.1 (headR l).2.2 (bodyA (l.drop 4) (headR l).2.1 (headR l).2.2).1 (bodyA (l.drop 4) (headR l).2.1 (headR l).2.2).2.1 (bodyA (l.drop 4) (headR l).2.1 (headR l).2.2).2.2.1 (bodyA (l.drop 4) (headR l).2.1 (headR l).2.2).2.2.2)])
  else .tuple #[ov 0 false 0 0 0 0, .int .i64 0, fv true 4 (headR l).1]
theorem headR_zero (l : List Int) (h : ¬ (headR l).1 = 0) : (headR l).2 = (0, false) := by
  by_cases h4 : l.length < 4
  · rw [headR_short h4]
  · obtain ⟨b0, b1, b2, b3, r, rfl⟩ := four_of h4
    unfold headR at h ⊢
    dsimp only at h ⊢
    by_cases h1 : (r.length : Int) < b3
    · rw [if_pos h1]
    · rw [if_neg h1] at h ⊢
      cases hf : fidx (b2 / 2) with
      | none => rfl
      | some j =>
        rw [hf] at h
        dsimp only at h ⊢
        by_cases h2 : b0 * 256 + b1 = 32768
        · rw [if_pos h2] at h ⊢
          by_cases h3 : (decide (b2 % 2 = 1) && !(fmask (j : Int))) = true
          · rw [if_pos h3]
          · rw [if_neg h3] at h ⊢
            by_cases h5 : b3 = foll (j : Int) (decide (b2 % 2 = 1))
            · rw [if_pos h5] at h; simp at h
            · rw [if_neg h5]
        · rw [if_neg h2]


end Go.Proofs.Ytkhpbkdblhcepaa

