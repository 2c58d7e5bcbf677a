import Derived.Test.YthhijfphfcmniaaGreatOae
import Derived.Test.YthhijfphfcmniaaGreatAae
import Derived.OpenShut
import Derived.ChangeSame
import Derived.WideShapes
import Derived.Lib.SmallJoins
set_option maxRecDepth 100000
set_option maxHeartbeats 8000000
set_option linter.unusedVariables false
set_option linter.unusedSimpArgs false
namespace Go.Proofs.YthhijfphfcmniaaGreat
section
open Go Go.RowKit Go.ChangeShapes Go.WideShapes
end
section
open Go Go.RowKit Go.ChangeShapes Go.WideShapes
end
end Go.Proofs.YthhijfphfcmniaaGreat
