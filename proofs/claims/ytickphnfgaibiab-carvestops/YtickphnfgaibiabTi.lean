import Derived.Test.YtickphnfgaibiabProg
import Derived.Test.YtickphnfgaibiabR
import Derived.Test.YtickphnfgaibiabTa
import Derived.Test.YtickphnfgaibiabTb
import Derived.Test.YtickphnfgaibiabTc
import Derived.Test.YtickphnfgaibiabTg
import Derived.Below
import Derived.BigQuiet
import Derived.BigRegion
import Derived.ChangeAlike
import Derived.ChangeKeysEq
import Derived.ChangeSame
import Derived.DataElems
import Derived.Deep.MidRow
import Derived.Deep.QuietTactic
import Derived.Deep.RegionHeld
import Derived.Deep.RegionHeld3
import Derived.Deep.RegionLaw
import Derived.Deep.RegionLawGrows
import Derived.Deep.RegionWith
import Derived.Deep.WholeRow
import Derived.Great.BuildSlice
import Derived.Handy
import Derived.Laws.AppendOwn
import Derived.Laws.AppendOwnNone
import Derived.Laws.BitsAllLaws
import Derived.Laws.BitsLemmas
import Derived.Laws.CopyOwn
import Derived.Laws.OwnMore
import Derived.Laws.Rows
import Derived.Laws.StructEq
import Derived.Laws.Tables
import Derived.Lib.BitFns
import Derived.Lib.SmallJoins
import Derived.OpenShut
import Derived.ProofKit
import Derived.RegionTactic
import Derived.WalkKit
import Derived.WalkLawsBesides
import Derived.WalkSmall
import Derived.WalkSpells
import Derived.WideShapes
namespace Go.Proofs.Ytickphnfgaibiab
open Go Go.RowKit
set_option linter.unusedVariables false
set_option linter.unusedSimpArgs false

def twz (a b c d a2 b2 c2 d2 : Nat) : Bool := (andn c2 c == 0 && andn d2 d == 0) && ((a ^^^ a2) &&& c2 == 0 && (b ^^^ b2) &&& d2 == 0)

theorem within_sub (a b c d a2 b2 c2 d2 x y : Nat) (hc : c < 18446744073709551616) (hd : d < 18446744073709551616) (hc2 : c2 < 18446744073709551616) (hd2 : d2 < 18446744073709551616) (h : twz a b c d a2 b2 c2 d2 = true) (k : thz a b c d x y = true) : thz a2 b2 c2 d2 x y = true := by
  simp only [twz, thz, Bool.and_eq_true, beq_iff_eq] at h k ⊢
  obtain ⟨⟨h1, h2⟩, h3, h4⟩ := h
  exact ⟨tb_within a c a2 c2 x hc hc2 h1 h3 k.1, tb_within b d b2 d2 y hd hd2 h2 h4 k.2⟩

theorem twithin_z (a b c d a2 b2 c2 d2 : Nat) (w : World) (ha : a < 18446744073709551616) (hb : b < 18446744073709551616) (hc : c < 18446744073709551616) (hd : d < 18446744073709551616) (ha2 : a2 < 18446744073709551616) (hb2 : b2 < 18446744073709551616) (hc2 : c2 < 18446744073709551616) (hd2 : d2 < 18446744073709551616) :
    Calls Try.prog 81 #[td a b c d, td a2 b2 c2 d2] w fun e w' => e = .returned (.bool (twz a b c d a2 b2 c2 d2)) ∧ Below w.heap.size w w' := twithin_any a b c d a2 b2 c2 d2 w ha hb hc hd ha2 hb2 hc2 hd2

end Go.Proofs.Ytickphnfgaibiab
