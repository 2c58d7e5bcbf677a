import Derived.Test.YtfeioclnhnipmaaPk0
import Derived.Test.YtfeioclnhnipmaaPk1
import Derived.Test.YtfeioclnhnipmaaPk2
import Derived.Deep.RegionHeld3
import Derived.Deep.RegionWith
import Derived.Deep.MidRow
import Derived.Deep.Cut
namespace Go.Proofs.Ytfeioclnhnipmaa
open Go Go.RowKit
set_option linter.unusedVariables false
set_option linter.unusedSimpArgs false

set_option maxRecDepth 100000 in
set_option maxHeartbeats 8000000 in
theorem faultBack_walk (k c : Nat) (hk : k ≤ 65535) (hc : c ≤ 65535) (v : Value) (m : List Int) (w : World) (hB : Bytes w v m) :
    Calls Try.prog 5 #[.int .u16 (k : Int), .int .u16 (c : Int), v] w fun e w' => e = .returned (.bool true) ∧ Below w.heap.size w w' := by
  by_cases h7 : m.length ≤ 4000
  · by_cases h1 : m.length < 8
    · exact fback_0 k c (by omega) (by omega) v m w hB h1
    · by_cases h2 : m.length < 64
      · exact fback_1 k c (by omega) (by omega) v m w hB ⟨by omega, h2⟩
      · exact fback_2 k c (by omega) (by omega) v m w hB ⟨by omega, h7⟩
  · have hm := hB.big
    obtain ⟨ao, cap, rfl⟩ := hB.short
    have h7' : (4000 : Int) < (m.length : Int) := by omega
    clear hB h7
    go_enter Try.func5, Try.ntmps5
    go_wp2_with (go_at_call 6; refine (awake19_any _).mono ?_; rintro e w9 ⟨rfl, b9⟩)
    go_ret
    exact ⟨rfl, b9⟩

end Go.Proofs.Ytfeioclnhnipmaa
