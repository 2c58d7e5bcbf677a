import Derived.Test.YtickphnfgaibiabR
import Derived.Test.YtickphnfgaibiabS
import Derived.Test.YtickphnfgaibiabTa
import Derived.Test.YtickphnfgaibiabGa
import Derived.Test.YtickphnfgaibiabTc
import Derived.Test.YtickphnfgaibiabTg
import Derived.Test.YtickphnfgaibiabTi
import Derived.Test.YtickphnfgaibiabQa
import Derived.Test.YtickphnfgaibiabQb
import Derived.Test.YtickphnfgaibiabQc
import Derived.Test.YtickphnfgaibiabQd
import Derived.Test.YtickphnfgaibiabQf
import Derived.Test.YtickphnfgaibiabQg
import Derived.Below
import Derived.BigQuiet
import Derived.BigRegion
import Derived.ChangeAlike
import Derived.ChangeKeysEq
import Derived.ChangeSame
import Derived.DataElems
import Derived.Deep.MidRow
import Derived.Deep.QuietTactic
import Derived.Deep.RegionHeld
import Derived.Deep.RegionHeld3
import Derived.Deep.RegionLaw
import Derived.Deep.RegionLawGrows
import Derived.Deep.RegionWith
import Derived.Deep.WholeRow
import Derived.Great.BuildSlice
import Derived.Handy
import Derived.Laws.AppendOwn
import Derived.Laws.AppendOwnNone
import Derived.Laws.BitsAllLaws
import Derived.Laws.BitsLemmas
import Derived.Laws.CopyOwn
import Derived.Laws.OwnMore
import Derived.Laws.Rows
import Derived.Laws.StructEq
import Derived.Laws.Tables
import Derived.Lib.BitFns
import Derived.Lib.SmallJoins
import Derived.OpenShut
import Derived.ProofKit
import Derived.RegionTactic
import Derived.WalkKit
import Derived.WalkLawsBesides
import Derived.WalkSmall
import Derived.WalkSpells
import Derived.WideShapes
namespace Go.Proofs.Ytickphnfgaibiab
open Go Go.RowKit
set_option linter.unusedVariables false
set_option linter.unusedSimpArgs false

theorem tb_mok (a c a2 c2 : Nat) (h : (a ^^^ a2) &&& c2 = 0) : (a ^^^ a2) &&& (c &&& c2) = 0 := by
  rw [tb_zero] at h ⊢
  intro i
  have h := h i
  rw [Nat.testBit_and] at h ⊢
  rw [Nat.testBit_and]
  revert h
  cases (a ^^^ a2).testBit i <;> cases c.testBit i <;> cases c2.testBit i <;> simp

theorem tb_mask (c c2 : Nat) (hc : c < 18446744073709551616) (hc2 : c2 < 18446744073709551616) (h : andn c2 c = 0) : c ||| c2 = c := by
  rw [tb_sub c c2 hc hc2] at h
  apply Nat.eq_of_testBit_eq
  intro i
  have h := h i
  rw [Nat.testBit_or]
  revert h
  cases c.testBit i <;> cases c2.testBit i <;> simp

theorem tb_value (a c a2 c2 : Nat) (hc : c < 18446744073709551616) (hc2 : c2 < 18446744073709551616) (h : andn c2 c = 0) (k : (a ^^^ a2) &&& c2 = 0) : a &&& c ||| a2 &&& c2 = a &&& c := by
  rw [tb_sub c c2 hc hc2] at h
  rw [tb_has] at k
  apply Nat.eq_of_testBit_eq
  intro i
  have h := h i
  have k := k i
  rw [Nat.testBit_or, Nat.testBit_and, Nat.testBit_and]
  revert h k
  cases a.testBit i <;> cases a2.testBit i <;> cases c.testBit i <;> cases c2.testBit i <;> simp

theorem tb_part (c c2 : Nat) (hc : c < 18446744073709551616) (hc2 : c2 < 18446744073709551616) (h : andn c2 c = 0) : c &&& c2 = c2 := by
  rw [tb_sub c c2 hc hc2] at h
  apply Nat.eq_of_testBit_eq
  intro i
  have h := h i
  rw [Nat.testBit_and]
  revert h
  cases c.testBit i <;> cases c2.testBit i <;> simp

theorem pc_sub (c c2 : Nat) (hc : c < 18446744073709551616) (hc2 : c2 < 18446744073709551616) (h : andn c2 c = 0) : pc c2 ≤ pc c := by
  have e := pc_or_and (andn c c2) (c &&& c2) (tandn_lt _ _ hc) (and_lt _ _ hc)
  rw [less_and c c2 hc hc2, tb_part c c2 hc hc2 h] at e
  have z : andn c c2 &&& c2 = 0 := by
    rw [tb_zero]
    intro i
    rw [Nat.testBit_and, tb_andn c c2 hc2]
    cases c.testBit i <;> cases c2.testBit i <;> simp
  rw [z, pc_zero] at e
  omega

theorem within4 (q r : Q4) (h3 : q.2.2.1 < 18446744073709551616) (h4 : q.2.2.2 < 18446744073709551616) (k3 : r.2.2.1 < 18446744073709551616) (k4 : r.2.2.2 < 18446744073709551616) (h : twz4 q r = true) :
    mok4 q r = true ∧ meet4 q r = clean4 q ∧ pc r.2.2.1 + pc r.2.2.2 ≤ pc q.2.2.1 + pc q.2.2.2 := by
  obtain ⟨a, b, c, d⟩ := q
  obtain ⟨a2, b2, c2, d2⟩ := r
  simp only [twz4, twz, Bool.and_eq_true, beq_iff_eq] at h
  obtain ⟨⟨s1, s2⟩, s3, s4⟩ := h
  have hm : mok4 (a, b, c, d) (a2, b2, c2, d2) = true := by
    simp only [mok4, mok, Bool.and_eq_true, beq_iff_eq]
    exact ⟨tb_mok a c a2 c2 s3, tb_mok b d b2 d2 s4⟩
  refine ⟨hm, ?_, ?_⟩
  · unfold meet4 clean4
    rw [hm]
    simp only [mz]
    rw [tb_value a c a2 c2 h3 k3 s1 s3, tb_value b d b2 d2 h4 k4 s2 s4, tb_mask c c2 h3 k3 s1, tb_mask d d2 h4 k4 s2]
  · have := pc_sub c c2 h3 k3 s1
    have := pc_sub d d2 h4 k4 s2
    dsimp only
    omega

theorem allB_at {p : Nat → Bool} {n k : Nat} (h : allB p n = true) (hk : k < n) : p k = true := by
  unfold allB at h
  rw [List.all_eq_true] at h
  exact h k (List.mem_range.2 hk)

theorem allB_intro {p : Nat → Bool} {n : Nat} (h : ∀ k, k < n → p k = true) : allB p n = true := by
  unfold allB
  rw [List.all_eq_true]
  exact fun k hk => h k (List.mem_range.1 hk)

theorem withinC (l m : List Q4) (v : List (Nat × Nat)) (hl : isC l) (hm : isC m) (h : inC l m = true) :
    okC l m = true ∧ meetC l m = cleanC l ∧ (hasC l v = true → hasC m v = true) ∧ ∀ k, k ≤ 24 → sizeK m k ≤ sizeK l k := by
  have w4 := fun k (hk : k < 24) => within4 (cq l k) (cq m k) (cq_lt hl hk).2.2.1 (cq_lt hl hk).2.2.2 (cq_lt hm hk).2.2.1 (cq_lt hm hk).2.2.2 (allB_at (p := fun k => twz4 (cq l k) (cq m k)) h hk)
  have ok : okC l m = true := allB_intro (fun k hk => (w4 k hk).1)
  refine ⟨ok, ?_, ?_, ?_⟩
  · unfold meetC
    rw [mapB_true ok, mapK_all]
    unfold cleanC
    apply List.map_congr_left
    intro k hk
    exact (w4 k (List.mem_range.1 hk)).2.1
  · intro hh
    refine allB_intro (fun k hk => ?_)
    exact within_sub _ _ _ _ _ _ _ _ _ _ (cq_lt hl hk).2.2.1 (cq_lt hl hk).2.2.2 (cq_lt hm hk).2.2.1 (cq_lt hm hk).2.2.2 (allB_at (p := fun k => twz4 (cq l k) (cq m k)) h hk) (allB_at (p := fun k => thz4 (cq l k) (wq v k)) hh hk)
  · intro k
    induction k with
    | zero => intro _; exact Nat.le_refl _
    | succ k ih =>
      intro hk
      have := ih (by omega)
      have := (w4 k (by omega)).2.2
      rw [sizeK, sizeK]
      omega

end Go.Proofs.Ytickphnfgaibiab
