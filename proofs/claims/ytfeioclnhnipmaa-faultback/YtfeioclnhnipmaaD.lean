import Derived.Test.YtfeioclnhnipmaaProg
import Derived.Test.YtfeioclnhnipmaaA
import Derived.Below
import Derived.BigQuiet
import Derived.BigRegion
import Derived.Deep.QuietTactic
import Derived.Deep.RegionHeld3
import Derived.Deep.RegionLaw
import Derived.Deep.RegionLawGrows
import Derived.Handy
import Derived.Laws.AppendOwn
import Derived.Laws.AppendOwnNone
import Derived.Laws.BitsAllLaws
import Derived.Laws.BitsLemmas
import Derived.Laws.CopyOwn
import Derived.Laws.OwnMore
import Derived.Laws.Rows
import Derived.Laws.StructEq
import Derived.OpenShut
import Derived.ProofKit
import Derived.RegionTactic
import Derived.WalkKit
import Derived.WalkLawsBesides
import Derived.WalkSmall
import Derived.WalkSpells
namespace Go.Proofs.Ytfeioclnhnipmaa
open Go Go.RowKit
set_option linter.unusedVariables false
set_option linter.unusedSimpArgs false
open Go.RowKit

theorem szB_true {s : Int} (h : szB s = true) : s = 1 ∨ s = 2 ∨ s = 4 := by
  simp [szB] at h; omega

set_option maxHeartbeats 400000 in
theorem get_arg (a : Option Addr) (len cap : Nat) (k s : Int) (w : World) (h : szB s = false ∨ k < 0) :
    Calls Try.prog 18 #[.slice a len cap, .int .i64 k, .int .i64 s] w fun e w' => e = .returned (.tuple #[.int .i64 0, .int .i64 1]) ∧ w = w' := by
  cases hs : szB s
  · go_enter Try.func18, Try.ntmps18
    go_wp2_with (go_at_call 29; refine (isSize_any _ _).mono ?_; rintro e w' ⟨rfl, rfl⟩)
    go_ret2
    exact ⟨rfl, rfl⟩
  · have hk : k < 0 := by rcases h with h | h; (rw [hs] at h; cases h); exact h
    go_enter Try.func18, Try.ntmps18
    go_wp2_with (go_at_call 29; refine (isSize_any _ _).mono ?_; rintro e w' ⟨rfl, rfl⟩)
    go_ret2
    exact ⟨rfl, rfl⟩

set_option maxHeartbeats 400000 in
theorem get_short (a : Option Addr) (len cap : Nat) (k s : Int) (w : World) (hm : len ≤ maxLen) (hs : szB s = true) (h0 : 0 ≤ k) (h : (len : Int) - s < k) :
    Calls Try.prog 18 #[.slice a len cap, .int .i64 k, .int .i64 s] w fun e w' => e = .returned (.tuple #[.int .i64 0, .int .i64 3]) ∧ w = w' := by
  unfold maxLen at hm
  have h1 := szB_true hs
  have h2 : 1 ≤ s ∧ s ≤ 4 := by omega
  clear h1
  have h3 : ¬ k < 0 := by omega
  go_enter Try.func18, Try.ntmps18
  go_wp2_with (go_at_call 29; refine (isSize_any _ _).mono ?_; rintro e w' ⟨rfl, rfl⟩)
  go_ret2
  exact ⟨rfl, rfl⟩

end Go.Proofs.Ytfeioclnhnipmaa
