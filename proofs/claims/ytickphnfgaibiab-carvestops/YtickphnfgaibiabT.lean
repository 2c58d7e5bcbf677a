import Derived.Test.YtickphnfgaibiabProg
import Derived.Test.YtickphnfgaibiabN
import Derived.Test.YtickphnfgaibiabK
import Derived.Test.YtickphnfgaibiabR
import Derived.Test.YtickphnfgaibiabS
import Derived.Below
import Derived.BigQuiet
import Derived.BigRegion
import Derived.Deep.QuietTactic
import Derived.Deep.RegionHeld3
import Derived.Deep.RegionLaw
import Derived.Deep.RegionLawGrows
import Derived.Handy
import Derived.Laws.AppendOwn
import Derived.Laws.AppendOwnNone
import Derived.Laws.BitsAllLaws
import Derived.Laws.BitsLemmas
import Derived.Laws.CopyOwn
import Derived.Laws.OwnMore
import Derived.Laws.Rows
import Derived.Laws.StructEq
import Derived.OpenShut
import Derived.ProofKit
import Derived.RegionTactic
import Derived.WalkKit
import Derived.WalkLawsBesides
import Derived.WalkSmall
import Derived.WalkSpells
namespace Go.Proofs.Ytickphnfgaibiab
open Go Go.RowKit
set_option linter.unusedVariables false
set_option linter.unusedSimpArgs false

set_option maxHeartbeats 400000 in
theorem hold_any (n : Int) (m : Nat) (w : World) :
    Calls Try.prog 78 #[.int .i64 n, .int .i64 (m : Int)] w fun e w' => e = .returned (.int .i64 (cl n m : Nat)) ∧ w = w' := by
  have e : ((cl n m : Nat) : Int) = min (max n 0) (m : Int) := by unfold cl; omega
  rw [e]
  clear e
  by_cases h1 : n < 0
  · have h2 : ¬ (m : Int) < 0 := by omega
    go_enter Try.func78, Try.ntmps78
    go_wp2
    all_goals (go_ret; exact ⟨ret_int (by omega), rfl⟩)
  · by_cases h2 : (m : Int) < n
    · go_enter Try.func78, Try.ntmps78
      go_wp2
      all_goals (go_ret; exact ⟨ret_int (by omega), rfl⟩)
    · go_enter Try.func78, Try.ntmps78
      go_wp2
      all_goals (go_ret; exact ⟨ret_int (by omega), rfl⟩)

theorem hold_64 (n : Int) (w : World) :
    Calls Try.prog 78 #[.int .i64 n, .int .i64 64] w fun e w' => e = .returned (.int .i64 (cl n 64 : Nat)) ∧ w = w' := hold_any n 64 w

theorem hold_128 (n : Int) (w : World) :
    Calls Try.prog 78 #[.int .i64 n, .int .i64 128] w fun e w' => e = .returned (.int .i64 (cl n 128 : Nat)) ∧ w = w' := hold_any n 128 w

theorem cl_le (n : Int) (m : Nat) : cl n m ≤ m := by unfold cl; omega

set_option maxHeartbeats 400000 in
theorem ones_any (n : Int) (w : World) :
    Calls Try.prog 79 #[.int .i64 n] w fun e w' => e = .returned (.int .u64 (lowb (cl n 64) : Nat)) ∧ w = w' := by
  have h := cl_le n 64
  generalize ht : cl n 64 = t at *
  have HT := hide_ ht
  clear ht
  have HV := hide_ (ones_val t h)
  go_enter Try.func79, Try.ntmps79
  go_wp2_with (go_at_call 78; refine (hold_64 _ _).mono ?_; rintro e w' ⟨rfl, rfl⟩; rw [HT.out])
  go_ret
  exact ⟨ret_int HV.out, rfl⟩

theorem cl_cl (n : Int) : cl ((cl n 128 : Nat) : Int) 64 = min (cl n 128) 64 := by
  have := cl_le n 128
  generalize cl n 128 = k at *
  unfold cl; omega

theorem cl_sub (n : Int) : cl (((cl n 128 : Nat) : Int) - 64) 64 = cl n 128 - 64 := by
  have := cl_le n 128
  generalize cl n 128 = k at *
  unfold cl; omega

set_option maxHeartbeats 400000 in
theorem low_any (n : Int) (w : World) :
    Calls Try.prog 66 #[.int .i64 n] w fun e w' => e = .returned (wd (lowb (cl n 128 - 64)) (lowb (min (cl n 128) 64))) ∧ Below w.heap.size w w' := by
  rw [← cl_cl, ← cl_sub]
  have h := cl_le n 128
  generalize ht : cl n 128 = t at *
  have HT := hide_ ht
  clear ht
  unfold wd
  go_enter Try.func66, Try.ntmps66
  go_wp2_with (first | (go_at_call 78; refine (hold_128 _ _).mono ?_; rintro e w' ⟨rfl, rfl⟩; rw [HT.out]) | (go_at_call 79; refine (ones_any _ _).mono ?_; rintro e w' ⟨rfl, rfl⟩))
  go_returns
  exact ⟨rfl, by go_grown⟩

end Go.Proofs.Ytickphnfgaibiab
