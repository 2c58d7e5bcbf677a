import Derived.Test.YtikooaaigdmjmaaProg
import Derived.Test.YtikooaaigdmjmaaN
import Derived.WalkKit
import Derived.WalkSpells
import Derived.WalkLawsBesides
import Derived.Below
import Derived.Handy
namespace Go.Proofs.Ytikooaaigdmjmaa
open Go.RowKit

set_option maxHeartbeats 400000 in
theorem read_any (a b c d : Int) (w : World) (ha : 0 ≤ a ∧ a ≤ 255) (hb : 0 ≤ b ∧ b ≤ 255) (hc : 0 ≤ c ∧ c ≤ 255) (hd : 0 ≤ d ∧ d ≤ 255) :
    Calls Try.prog 38 #[.agg #[.int .u8 a, .int .u8 b, .int .u8 c, .int .u8 d]] w fun e w' => e = .returned (.int .i64 (((a * 256 + b) * 256 + c) * 256 + d)) ∧ Below w.heap.size w w' := by
  go_enter Try.func38, Try.ntmps38
  go_wp2
  go_rounds 5
  go_ret
  exact ⟨ret_int (read4 a b c d ha hb hc hd), by go_grown⟩

end Go.Proofs.Ytikooaaigdmjmaa
