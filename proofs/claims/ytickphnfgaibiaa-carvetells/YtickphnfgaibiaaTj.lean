import Derived.Test.YtickphnfgaibiaaProg
import Derived.Test.YtickphnfgaibiaaR
import Derived.Test.YtickphnfgaibiaaTb
import Derived.Test.YtickphnfgaibiaaTc
import Derived.Test.YtickphnfgaibiaaTg
import Derived.Test.YtickphnfgaibiaaTi
import Derived.Below
import Derived.BigQuiet
import Derived.BigRegion
import Derived.ChangeAlike
import Derived.ChangeKeysEq
import Derived.ChangeSame
import Derived.DataElems
import Derived.Deep.MidRow
import Derived.Deep.QuietTactic
import Derived.Deep.RegionHeld
import Derived.Deep.RegionHeld3
import Derived.Deep.RegionLaw
import Derived.Deep.RegionLawGrows
import Derived.Deep.RegionWith
import Derived.Deep.WholeRow
import Derived.Great.BuildSlice
import Derived.Handy
import Derived.Laws.AppendOwn
import Derived.Laws.AppendOwnNone
import Derived.Laws.BitsAllLaws
import Derived.Laws.BitsLemmas
import Derived.Laws.CopyOwn
import Derived.Laws.OwnMore
import Derived.Laws.Rows
import Derived.Laws.StructEq
import Derived.Laws.Tables
import Derived.Lib.BitFns
import Derived.Lib.SmallJoins
import Derived.OpenShut
import Derived.ProofKit
import Derived.RegionTactic
import Derived.WalkKit
import Derived.WalkLawsBesides
import Derived.WalkSmall
import Derived.WalkSpells
import Derived.WideShapes
namespace Go.Proofs.Ytickphnfgaibiaa
open Go Go.RowKit
set_option linter.unusedVariables false
set_option linter.unusedSimpArgs false

theorem rthas_z (a b c d x y : Nat) (w : World) (ha : a < 18446744073709551616) (hb : b < 18446744073709551616) (hc : c < 18446744073709551616) (hd : d < 18446744073709551616) (hx : x < 18446744073709551616) (hy : y < 18446744073709551616) :
    Calls Try.prog 43 #[td a b c d, wd x y] w fun e w' => e = .returned (.bool (thz a b c d x y)) ∧ Below w.heap.size w w' := rthas_any a b c d x y w ha hb hc hd hx hy

theorem rtwithin_z (a b c d a2 b2 c2 d2 : Nat) (w : World) (ha : a < 18446744073709551616) (hb : b < 18446744073709551616) (hc : c < 18446744073709551616) (hd : d < 18446744073709551616) (ha2 : a2 < 18446744073709551616) (hb2 : b2 < 18446744073709551616) (hc2 : c2 < 18446744073709551616) (hd2 : d2 < 18446744073709551616) :
    Calls Try.prog 46 #[td a b c d, td a2 b2 c2 d2] w fun e w' => e = .returned (.bool (twz a b c d a2 b2 c2 d2)) ∧ Below w.heap.size w w' := rtwithin_any a b c d a2 b2 c2 d2 w ha hb hc hd ha2 hb2 hc2 hd2

end Go.Proofs.Ytickphnfgaibiaa
