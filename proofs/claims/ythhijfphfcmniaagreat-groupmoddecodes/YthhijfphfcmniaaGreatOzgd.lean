import Derived.Test.YthhijfphfcmniaaGreatOzd
import Derived.Test.YthhijfphfcmniaaGreatOhd
namespace Go.Proofs.YthhijfphfcmniaaGreat
open Go Go.RowKit
set_option linter.unusedVariables false
set_option linter.unusedSimpArgs false

end Go.Proofs.YthhijfphfcmniaaGreat

