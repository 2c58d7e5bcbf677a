import Derived.Test.YtmpfpolanndakabProg
import Derived.Test.YtmpfpolanndakabK
import Derived.Test.YtmpfpolanndakabG
import Derived.Test.YtmpfpolanndakabR
import Derived.Below
import Derived.BigQuiet
import Derived.BigRegion
import Derived.Deep.QuietTactic
import Derived.Deep.RegionHeld3
import Derived.Deep.RegionLaw
import Derived.Deep.RegionLawGrows
import Derived.Handy
import Derived.Laws.AppendOwn
import Derived.Laws.AppendOwnNone
import Derived.Laws.BitsAllLaws
import Derived.Laws.BitsLemmas
import Derived.Laws.CopyOwn
import Derived.Laws.OwnMore
import Derived.Laws.Rows
import Derived.Laws.StructEq
import Derived.OpenShut
import Derived.ProofKit
import Derived.RegionTactic
import Derived.WalkKit
import Derived.WalkLawsBesides
import Derived.WalkSmall
import Derived.WalkSpells
namespace Go.Proofs.Ytmpfpolanndakab
open Go Go.RowKit
set_option linter.unusedVariables false
set_option linter.unusedSimpArgs false

/-- the bytes of a half, the highest first -/
def half8 (x : Int) : List Int := [x / 72057594037927936, x / 281474976710656 % 256, x / 1099511627776 % 256, x / 4294967296 % 256, x / 16777216 % 256, x / 65536 % 256, x / 256 % 256, x % 256]

/-- the bytes of a number -/
def w16 (a b : Nat) : List Int := half8 a ++ half8 b

theorem half8_isB (x : Nat) (h : x < 18446744073709551616) : isB (half8 x) := by
  intro z hz
  simp only [half8, List.mem_cons, List.not_mem_nil, or_false] at hz
  rcases hz with rfl | rfl | rfl | rfl | rfl | rfl | rfl | rfl <;> omega

theorem w16_isB (a b : Nat) (ha : a < 18446744073709551616) (hb : b < 18446744073709551616) : isB (w16 a b) := (half8_isB a ha).app (half8_isB b hb)

theorem w16_length (a b : Nat) : (w16 a b).length = 16 := rfl

set_option maxRecDepth 100000 in
set_option maxHeartbeats 2000000 in
theorem wspell_any (a b : Nat) (w : World) (ha : a < 18446744073709551616) (hb : b < 18446744073709551616) :
    Calls Try.prog 22 #[wd a b] w fun e w' => e = .returned (.agg (u8s (w16 a b)).toArray) ∧ Below w.heap.size w w' := by
  unfold wd
  go_enter Try.func22, Try.ntmps22
  go_wp2
  go_rounds 9
  go_returns
  exact ⟨rfl, by go_grown⟩

end Go.Proofs.Ytmpfpolanndakab
