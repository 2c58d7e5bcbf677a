import Derived.Test.YtcffebkebldjcaaEn
import Derived.Test.YtcffebkebldjcaaFx
import Derived.Test.YtcffebkebldjcaaFy
import Derived.Test.YtcffebkebldjcaaXk
import Derived.Test.YtcffebkebldjcaaXg
import Derived.Test.YtcffebkebldjcaaXi
import Derived.Test.YtcffebkebldjcaaFz0
import Derived.Deep.RegionHeld3
import Derived.Deep.RegionWith
import Derived.Deep.MidRow
import Derived.Deep.Cut
namespace Go.Proofs.Ytcffebkebldjcaa
open Go Go.RowKit
set_option linter.unusedVariables false
set_option linter.unusedSimpArgs false

end Go.Proofs.Ytcffebkebldjcaa
