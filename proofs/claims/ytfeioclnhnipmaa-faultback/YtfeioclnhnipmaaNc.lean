import Derived.Test.YtfeioclnhnipmaaNb
import Derived.Deep.RegionHeld3
import Derived.Deep.RegionWith
import Derived.Deep.MidRow
import Derived.Deep.Cut
namespace Go.Proofs.Ytfeioclnhnipmaa
open Go Go.RowKit
set_option linter.unusedVariables false
set_option linter.unusedSimpArgs false

set_option maxRecDepth 100000 in
set_option maxHeartbeats 8000000 in
theorem whole_any (v : Value) (l : List Int) (w : World) (hB : Bytes w v l) :
    Calls Try.prog 36 #[v] w fun e w' => (∃ n : Int, e = .returned (.tuple #[.int .i64 n, .bool (wholeF l).isSome]) ∧ ∀ k, wholeF l = some k → n = (k : Int)) ∧ Below w.heap.size w w' := by
  have q := hide_ (nget2 v l 2 w hB (by omega))
  have hr := be2_range hB.isB_ 2
  obtain ⟨ao, cap, rfl, h1, h2, -⟩ := hB
  have hm : l.length ≤ 9223372036854775807 := by unfold maxLen at h2; omega
  have e0 : ((lenF l : Nat) : Int) = be2 l 2 := by unfold lenF; omega
  unfold wholeF
  by_cases c1 : l.length < 8
  · have c1' : (l.length : Int) < 8 := by omega
    rw [if_pos c1]
    clear h1 h2 hr e0 q
    go_enter Try.func36, Try.ntmps36
    go_wp2
    go_ret2
    exact ⟨⟨0, by first | rfl | simp, fun k h => by cases h⟩, Below.refl _ _⟩
  have c1' : ¬ (l.length : Int) < 8 := by omega
  rw [if_neg c1]
  generalize be2 l 2 = z at *
  by_cases c2 : lenF l < 8
  · have c2' : z < 8 := by omega
    rw [if_pos c2]
    clear h1 h2 c1 c2 e0
    go_enter Try.func36, Try.ntmps36
    go_wp2_with (go_at_call 18; refine q.out.mono ?_; rintro e w1 ⟨er, rfl, b1⟩)
    go_ret2
    exact ⟨⟨_, by first | rfl | simp, fun k h => by cases h; rfl⟩, b1⟩
  have c2' : ¬ z < 8 := by omega
  rw [if_neg c2]
  by_cases c3 : l.length < lenF l
  · have c3' : (l.length : Int) < z := by omega
    rw [if_pos c3]
    clear h1 h2 c1 c2 c3 e0
    go_enter Try.func36, Try.ntmps36
    go_wp2_with (go_at_call 18; refine q.out.mono ?_; rintro e w1 ⟨er, rfl, b1⟩)
    go_ret2
    exact ⟨⟨0, by first | rfl | simp, fun k h => by cases h⟩, b1⟩
  · have c3' : ¬ (l.length : Int) < z := by omega
    rw [if_neg c3]
    have E0 := hide_ e0
    clear h1 h2 c1 c2 c3 e0
    go_enter Try.func36, Try.ntmps36
    go_wp2_with (go_at_call 18; refine q.out.mono ?_; rintro e w1 ⟨er, rfl, b1⟩)
    go_ret2
    exact ⟨⟨z, by first | rfl | simp, fun k h => by cases h; exact E0.out.symm⟩, b1⟩

end Go.Proofs.Ytfeioclnhnipmaa
