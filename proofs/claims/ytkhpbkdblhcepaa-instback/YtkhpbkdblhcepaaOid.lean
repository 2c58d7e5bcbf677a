import Derived.Test.YtkhpbkdblhcepaaOcd
import Derived.Test.YtkhpbkdblhcepaaOgd
import Derived.Deep.RegionHeld3
import Derived.Deep.RegionWith
import Derived.Deep.MidRow
import Derived.Deep.Cut
namespace Go.Proofs.Ytkhpbkdblhcepaa
open Go Go.RowKit
set_option linter.unusedVariables false
set_option linter.unusedSimpArgs false

end Go.Proofs.Ytkhpbkdblhcepaa

