import Derived.Test.YtikooaaigdmjmaaProg
import Derived.WalkKit
import Derived.WalkSpells
import Derived.WalkLawsBesides
import Derived.Below
namespace Go.Proofs.Ytikooaaigdmjmaa


/-- a size is one -/
def szB (s : Int) : Bool := s == 1 || s == 2 || s == 4

set_option maxHeartbeats 400000 in
theorem isSize_any (s : Int) (w : World) :
    Calls Try.prog 37 #[.int .i64 s] w fun e w' => e = .returned (.bool (szB s)) ∧ w = w' := by
  by_cases h1 : s = 1
  · subst h1
    go_enter Try.func37, Try.ntmps37
    go_wp2
    go_ret
    exact ⟨rfl, rfl⟩
  · have h1' : (s == 1) = false := by simpa using h1
    by_cases h2 : s = 2
    · subst h2
      go_enter Try.func37, Try.ntmps37
      go_wp2
      go_ret
      exact ⟨rfl, rfl⟩
    · have h2' : (s == 2) = false := by simpa using h2
      by_cases h4 : s = 4
      · subst h4
        go_enter Try.func37, Try.ntmps37
        go_wp2
        go_ret
        exact ⟨rfl, rfl⟩
      · have h4' : (s == 4) = false := by simpa using h4
        go_enter Try.func37, Try.ntmps37
        go_wp2
        go_ret
        exact ⟨by simp [szB, h1', h2', h4'], rfl⟩

end Go.Proofs.Ytikooaaigdmjmaa
