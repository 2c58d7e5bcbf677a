import Derived.Test.YtikooaaigdmjmabCa
namespace Go.Proofs.Ytikooaaigdmjmab
open Go Go.RowKit
set_option linter.unusedVariables false
set_option linter.unusedSimpArgs false

set_option maxRecDepth 100000 in
set_option maxHeartbeats 2000000 in
theorem part_any (a b i : Nat) (w : World) (ha : a < 18446744073709551616) (hb : b < 18446744073709551616) (hi : i < 16) :
    Calls Try.prog 22 #[wd a b, .int .i64 (i : Int)] w fun e w' => ∃ z, (w16 a b)[15 - i]? = some z ∧ e = .returned (.int .u8 z) ∧ Below w.heap.size w w' := by
  have : i = 0 ∨ i = 1 ∨ i = 2 ∨ i = 3 ∨ i = 4 ∨ i = 5 ∨ i = 6 ∨ i = 7 ∨ i = 8 ∨ i = 9 ∨ i = 10 ∨ i = 11 ∨ i = 12 ∨ i = 13 ∨ i = 14 ∨ i = 15 := by omega
  unfold wd
  rcases this with rfl | rfl | rfl | rfl | rfl | rfl | rfl | rfl | rfl | rfl | rfl | rfl | rfl | rfl | rfl | rfl
  all_goals
    go_enter Try.func22, Try.ntmps22
    go_wp2
    go_ret
    exact ⟨_, rfl, rfl, by go_grown⟩

end Go.Proofs.Ytikooaaigdmjmab
