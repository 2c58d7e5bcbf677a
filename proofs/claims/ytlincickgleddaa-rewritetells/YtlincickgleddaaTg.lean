import Derived.Test.YtlincickgleddaaProg
import Derived.Test.YtlincickgleddaaR
import Derived.Test.YtlincickgleddaaTb
import Derived.Below
import Derived.BigQuiet
import Derived.BigRegion
import Derived.ChangeAlike
import Derived.ChangeKeysEq
import Derived.ChangeSame
import Derived.DataElems
import Derived.Deep.MidRow
import Derived.Deep.QuietTactic
import Derived.Deep.RegionHeld
import Derived.Deep.RegionHeld3
import Derived.Deep.RegionLaw
import Derived.Deep.RegionLawGrows
import Derived.Deep.RegionWith
import Derived.Deep.WholeRow
import Derived.Great.BuildSlice
import Derived.Handy
import Derived.Laws.AppendOwn
import Derived.Laws.AppendOwnNone
import Derived.Laws.BitsAllLaws
import Derived.Laws.BitsLemmas
import Derived.Laws.CopyOwn
import Derived.Laws.OwnMore
import Derived.Laws.Rows
import Derived.Laws.StructEq
import Derived.Laws.Tables
import Derived.Lib.BitFns
import Derived.Lib.SmallJoins
import Derived.OpenShut
import Derived.ProofKit
import Derived.RegionTactic
import Derived.WalkKit
import Derived.WalkLawsBesides
import Derived.WalkSmall
import Derived.WalkSpells
import Derived.WideShapes
namespace Go.Proofs.Ytlincickgleddaa
open Go Go.RowKit
set_option linter.unusedVariables false
set_option linter.unusedSimpArgs false

/-- a half of a meet, where there is one -/
def mz (ok : Bool) (r : Nat) : Nat := match ok with | true => r | false => 0

theorem mz_lt (ok : Bool) (r : Nat) (h : r < 18446744073709551616) : mz ok r < 18446744073709551616 := by cases ok <;> simp [mz] <;> omega

def mok (a b c d a2 b2 c2 d2 : Nat) : Bool := ((a ^^^ a2) &&& (c &&& c2) == 0 && (b ^^^ b2) &&& (d &&& d2) == 0)

theorem tmeet_ok (a b c d a2 b2 c2 d2 : Nat) (w : World) (ha : a < 18446744073709551616) (hb : b < 18446744073709551616) (hc : c < 18446744073709551616) (hd : d < 18446744073709551616) (ha2 : a2 < 18446744073709551616) (hb2 : b2 < 18446744073709551616) (hc2 : c2 < 18446744073709551616) (hd2 : d2 < 18446744073709551616) :
    Calls Try.prog 49 #[td a b c d, td a2 b2 c2 d2] w fun e w' => e = .returned (.tuple #[td (mz (mok a b c d a2 b2 c2 d2) (a &&& c ||| a2 &&& c2)) (mz (mok a b c d a2 b2 c2 d2) (b &&& d ||| b2 &&& d2)) (mz (mok a b c d a2 b2 c2 d2) (c ||| c2)) (mz (mok a b c d a2 b2 c2 d2) (d ||| d2)), .bool (mok a b c d a2 b2 c2 d2)]) ∧ Below w.heap.size w w' := by
  refine (tmeet_any a b c d a2 b2 c2 d2 w ha hb hc hd ha2 hb2 hc2 hd2).mono fun e w' ⟨h, k⟩ => ⟨?_, k⟩
  rw [h]
  by_cases e : (a ^^^ a2) &&& (c &&& c2) = 0 ∧ (b ^^^ b2) &&& (d &&& d2) = 0
  · rw [if_pos e]
    have : mok a b c d a2 b2 c2 d2 = true := by unfold mok; simpa using e
    rw [this]; rfl
  · rw [if_neg e]
    have : mok a b c d a2 b2 c2 d2 = false := by unfold mok; simpa using e
    rw [this]; rfl

theorem rtmeet_ok (a b c d a2 b2 c2 d2 : Nat) (w : World) (ha : a < 18446744073709551616) (hb : b < 18446744073709551616) (hc : c < 18446744073709551616) (hd : d < 18446744073709551616) (ha2 : a2 < 18446744073709551616) (hb2 : b2 < 18446744073709551616) (hc2 : c2 < 18446744073709551616) (hd2 : d2 < 18446744073709551616) :
    Calls Try.prog 28 #[td a b c d, td a2 b2 c2 d2] w fun e w' => e = .returned (.tuple #[td (mz (mok a b c d a2 b2 c2 d2) (a &&& c ||| a2 &&& c2)) (mz (mok a b c d a2 b2 c2 d2) (b &&& d ||| b2 &&& d2)) (mz (mok a b c d a2 b2 c2 d2) (c ||| c2)) (mz (mok a b c d a2 b2 c2 d2) (d ||| d2)), .bool (mok a b c d a2 b2 c2 d2)]) ∧ Below w.heap.size w w' := by
  refine (rtmeet_any a b c d a2 b2 c2 d2 w ha hb hc hd ha2 hb2 hc2 hd2).mono fun e w' ⟨h, k⟩ => ⟨?_, k⟩
  rw [h]
  by_cases e : (a ^^^ a2) &&& (c &&& c2) = 0 ∧ (b ^^^ b2) &&& (d &&& d2) = 0
  · rw [if_pos e]
    have : mok a b c d a2 b2 c2 d2 = true := by unfold mok; simpa using e
    rw [this]; rfl
  · rw [if_neg e]
    have : mok a b c d a2 b2 c2 d2 = false := by unfold mok; simpa using e
    rw [this]; rfl

/-- what a tern has -/
def thz (a b c d x y : Nat) : Bool := (a ^^^ x) &&& c == 0 && (b ^^^ y) &&& d == 0

theorem thas_z (a b c d x y : Nat) (w : World) (ha : a < 18446744073709551616) (hb : b < 18446744073709551616) (hc : c < 18446744073709551616) (hd : d < 18446744073709551616) (hx : x < 18446744073709551616) (hy : y < 18446744073709551616) :
    Calls Try.prog 46 #[td a b c d, wd x y] w fun e w' => e = .returned (.bool (thz a b c d x y)) ∧ Below w.heap.size w w' := thas_any a b c d x y w ha hb hc hd hx hy

end Go.Proofs.Ytlincickgleddaa
