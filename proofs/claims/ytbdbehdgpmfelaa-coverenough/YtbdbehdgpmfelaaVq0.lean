import Derived.Test.YtbdbehdgpmfelaaVi
import Derived.Test.YtbdbehdgpmfelaaVo
namespace Go.Proofs.Ytbdbehdgpmfelaa
open Go Go.RowKit
set_option linter.unusedVariables false
set_option linter.unusedSimpArgs false

theorem clean_has (a b c d : Nat) : thz a b c d (a &&& c) (b &&& d) = true := by
  simp only [thz, Bool.and_eq_true, beq_iff_eq]
  refine ⟨?_, ?_⟩
  · apply Nat.eq_of_testBit_eq
    intro i
    simp only [Nat.testBit_and, Nat.testBit_xor, Nat.zero_testBit]
    cases a.testBit i <;> cases c.testBit i <;> rfl
  · apply Nat.eq_of_testBit_eq
    intro i
    simp only [Nat.testBit_and, Nat.testBit_xor, Nat.zero_testBit]
    cases b.testBit i <;> cases d.testBit i <;> rfl
theorem pickC_has (c : List Q4) : hasC c (pickC c) = true :=
  allB_intro (fun k hk => by
    have e : (pickC c)[k]? = some ((cq c k).1 &&& (cq c k).2.2.1, (cq c k).2.1 &&& (cq c k).2.2.2) := by
      unfold pickC; rw [List.getElem?_map, List.getElem?_range hk]; rfl
    rw [wq_at e]
    exact clean_has _ _ _ _)
theorem pickC_isH (c : List Q4) (hc : isC c) : isH (pickC c) := by
  refine ⟨by simp [pickC, cleanC], fun p hp => ?_⟩
  unfold pickC at hp
  obtain ⟨k, hk, rfl⟩ := List.mem_map.1 hp
  have hq := cq_lt hc (List.mem_range.1 hk)
  exact ⟨and_lt _ _ hq.1, and_lt _ _ hq.2.1⟩
theorem cntH_pos {L : List (List Q4)} {v : List (Nat × Nat)} {p : List Q4} (hp : p ∈ L) (h : hasC p v = true) : 0 < cntH L v := by
  unfold cntH
  exact List.length_pos_of_mem (List.mem_filter.2 ⟨hp, h⟩)
theorem cntH_ex {L : List (List Q4)} {v : List (Nat × Nat)} (h : 0 < cntH L v) : ∃ p ∈ L, hasC p v = true := by
  unfold cntH at h
  obtain ⟨p, hp⟩ := List.exists_mem_of_length_pos h
  exact ⟨p, List.mem_filter.1 hp⟩
end Go.Proofs.Ytbdbehdgpmfelaa
