import Derived.Test.YtickphnfgaibiabR
import Derived.Test.YtickphnfgaibiabGa
import Derived.Test.YtickphnfgaibiabTg
import Derived.Test.YtickphnfgaibiabQa
import Derived.Test.YtickphnfgaibiabQb
import Derived.Test.YtickphnfgaibiabQc
import Derived.Test.YtickphnfgaibiabQf
import Derived.Below
import Derived.BigQuiet
import Derived.BigRegion
import Derived.ChangeAlike
import Derived.ChangeKeysEq
import Derived.ChangeSame
import Derived.DataElems
import Derived.Deep.MidRow
import Derived.Deep.QuietTactic
import Derived.Deep.RegionHeld
import Derived.Deep.RegionHeld3
import Derived.Deep.RegionLaw
import Derived.Deep.RegionLawGrows
import Derived.Deep.RegionWith
import Derived.Deep.WholeRow
import Derived.Great.BuildSlice
import Derived.Handy
import Derived.Laws.AppendOwn
import Derived.Laws.AppendOwnNone
import Derived.Laws.BitsAllLaws
import Derived.Laws.BitsLemmas
import Derived.Laws.CopyOwn
import Derived.Laws.OwnMore
import Derived.Laws.Rows
import Derived.Laws.StructEq
import Derived.Laws.Tables
import Derived.Lib.BitFns
import Derived.Lib.SmallJoins
import Derived.OpenShut
import Derived.ProofKit
import Derived.RegionTactic
import Derived.WalkKit
import Derived.WalkLawsBesides
import Derived.WalkSmall
import Derived.WalkSpells
import Derived.WideShapes
namespace Go.Proofs.Ytickphnfgaibiab
open Go Go.RowKit
set_option linter.unusedVariables false
set_option linter.unusedSimpArgs false

theorem allB_and (p q : Nat → Bool) : ∀ n, allB (fun k => p k && q k) n = (allB p n && allB q n)
  | 0 => rfl
  | n + 1 => by rw [allB_succ, allB_succ, allB_succ, allB_and p q n]; cases allB p n <;> cases allB q n <;> cases p n <;> cases q n <;> rfl

theorem allB_congr {p q : Nat → Bool} {n : Nat} (h : ∀ k, k < n → p k = q k) : allB p n = allB q n := by
  induction n with
  | zero => rfl
  | succ n ih => rw [allB_succ, allB_succ, ih (fun k hk => h k (by omega)), h n (by omega)]

theorem mapB_at {t : Nat → Q4} {p : Nat → Bool} (h : allB p 24 = true) (k : Nat) (hk : k < 24) : cq (mapB t p) k = t k := by
  rw [mapB_true h, mapK_all]
  exact cq_at (by simp [hk])

theorem meetC_rel (l m : List Q4) (v : List (Nat × Nat)) : (hasC l v && hasC m v) = (okC l m && hasC (meetC l m) v) := by
  unfold hasC okC
  rw [← allB_and]
  have e : ∀ k, (thz4 (cq l k) (wq v k) && thz4 (cq m k) (wq v k)) = (mok4 (cq l k) (cq m k) && thz4 (meet4 (cq l k) (cq m k)) (wq v k)) := fun k => meet_rel _ _ _ _ _ _ _ _ _ _
  rw [allB_congr (fun k _ => e k), allB_and]
  cases h : allB (fun k => mok4 (cq l k) (cq m k)) 24
  · rfl
  · rw [Bool.true_and, Bool.true_and]
    refine allB_congr (fun k hk => ?_)
    unfold meetC
    rw [mapB_at h k hk]

theorem z24q_isC : isC z24q := isC_of _ (by decide +kernel)

theorem isC_map (t : Nat → Q4) (h : ∀ k, k < 24 → (t k).1 < 18446744073709551616 ∧ (t k).2.1 < 18446744073709551616 ∧ (t k).2.2.1 < 18446744073709551616 ∧ (t k).2.2.2 < 18446744073709551616) : isC ((List.range 24).map t) := by
  refine ⟨by simp, fun p hp => ?_⟩
  obtain ⟨k, hk, rfl⟩ := List.mem_map.1 hp
  exact h k (List.mem_range.1 hk)

theorem cq_lt {l : List Q4} (hl : isC l) {k : Nat} (hk : k < 24) : (cq l k).1 < 18446744073709551616 ∧ (cq l k).2.1 < 18446744073709551616 ∧ (cq l k).2.2.1 < 18446744073709551616 ∧ (cq l k).2.2.2 < 18446744073709551616 := by
  obtain ⟨a, b, c, d, e, h1, h2, h3, h4⟩ := hl.get hk
  rw [cq_at e]; exact ⟨h1, h2, h3, h4⟩

theorem meetC_isC (l m : List Q4) (hl : isC l) (hm : isC m) : isC (meetC l m) := by
  unfold meetC mapB
  split
  · refine isC_map _ (fun k hk => ?_)
    obtain ⟨a1, a2, a3, a4⟩ := cq_lt hl hk
    obtain ⟨b1, b2, b3, b4⟩ := cq_lt hm hk
    exact ⟨mz_lt _ _ (or_lt _ _ (and_lt _ _ a1) (and_lt _ _ b1)), mz_lt _ _ (or_lt _ _ (and_lt _ _ a2) (and_lt _ _ b2)), mz_lt _ _ (or_lt _ _ a3 b3), mz_lt _ _ (or_lt _ _ a4 b4)⟩
  · exact z24q_isC

end Go.Proofs.Ytickphnfgaibiab
