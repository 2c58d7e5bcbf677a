import Derived.Test.YthhijfphfcmniaaGreatOad
import Derived.Test.YthhijfphfcmniaaGreatAbd
import Derived.OpenShut
import Derived.ChangeSame
import Derived.WideShapes
import Derived.Lib.SmallJoins
namespace Go.Proofs.YthhijfphfcmniaaGreat
section
open Go Go.RowKit Go.ChangeShapes Go.WideShapes
set_option maxRecDepth 100000
set_option linter.unusedVariables false
set_option linter.unusedSimpArgs false

end

section
set_option maxRecDepth 100000
open Go Go.RowKit Go.ChangeShapes Go.WideShapes
set_option linter.unusedVariables false
set_option linter.unusedSimpArgs false

end

end Go.Proofs.YthhijfphfcmniaaGreat

