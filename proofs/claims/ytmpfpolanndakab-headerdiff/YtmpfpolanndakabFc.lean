import Derived.Test.YtmpfpolanndakabProg
import Derived.Test.YtmpfpolanndakabN
import Derived.Test.YtmpfpolanndakabK
import Derived.Test.YtmpfpolanndakabG
import Derived.Test.YtmpfpolanndakabFa
import Derived.Test.YtmpfpolanndakabFb
import Derived.Below
import Derived.BigQuiet
import Derived.BigRegion
import Derived.ChangeAlike
import Derived.ChangeKeysEq
import Derived.ChangeSame
import Derived.DataElems
import Derived.Deep.MidRow
import Derived.Deep.QuietTactic
import Derived.Deep.RegionHeld
import Derived.Deep.RegionHeld3
import Derived.Deep.RegionLaw
import Derived.Deep.RegionLawGrows
import Derived.Deep.RegionWith
import Derived.Deep.WholeRow
import Derived.Great.BuildSlice
import Derived.Handy
import Derived.Laws.AppendOwn
import Derived.Laws.AppendOwnNone
import Derived.Laws.BitsAllLaws
import Derived.Laws.BitsLemmas
import Derived.Laws.CopyOwn
import Derived.Laws.OwnMore
import Derived.Laws.Rows
import Derived.Laws.StructEq
import Derived.Lib.SmallJoins
import Derived.OpenShut
import Derived.ProofKit
import Derived.RegionTactic
import Derived.WalkKit
import Derived.WalkLawsBesides
import Derived.WalkSmall
import Derived.WalkSpells
import Derived.WideShapes
namespace Go.Proofs.Ytmpfpolanndakab
open Go Go.RowKit
set_option linter.unusedVariables false
set_option linter.unusedSimpArgs false

def fsize (f : Int) : Nat := (fbits f + 7) / 8

theorem fld59_2 (a b c d : Value) (w : World) : (Instr.field 46 (.agg #[a, b, c, d]) 2).run Try.prog w = .ok c w := by kernel_rfl

set_option maxHeartbeats 400000 in
theorem fbits_any (f : Int) (w : World) :
    Calls Try.prog 15 #[.int .i64 f] w fun e w' => e = .returned (.int .i64 (fbits f : Int)) ∧ Below w.heap.size w w' := by
  have hfl := fun wx => fld59_2 (.string (fname f)) (.int .i64 (fid f)) (.int .i64 (fbits f : Int)) (.bool (fmask f)) wx
  go_enter Try.func15, Try.ntmps15
  go_wp2_with (go_at_call 20; refine (of_any _ _).mono ?_; rintro e w1 ⟨rfl, hb⟩; unfold ofv)
  go_ret
  exact ⟨rfl, by first | exact hb | rfl⟩

theorem fbits_le (f : Int) : fbits f ≤ 128 := by
  unfold fbits
  split <;> omega

theorem fsize_i (f : Int) : ((fsize f : Nat) : Int) = ((fbits f : Int) + 7) / 8 := by
  unfold fsize; omega

set_option maxHeartbeats 400000 in
theorem fsize_any (f : Int) (w : World) :
    Calls Try.prog 17 #[.int .i64 f] w fun e w' => e = .returned (.int .i64 (fsize f : Nat)) ∧ Below w.heap.size w w' := by
  rw [fsize_i]
  have hb := fbits_le f
  have HB := hide_ (fun w => fbits_any f w)
  generalize fbits f = n at *
  go_enter Try.func17, Try.ntmps17
  go_wp2_with (go_at_call 15; refine (HB.out _).mono ?_; rintro e w1 ⟨rfl, hb1⟩)
  go_ret
  exact ⟨ret_int (by first | rfl | omega), hb1⟩

end Go.Proofs.Ytmpfpolanndakab
