import Derived.Test.YtkhpbkdblhcepaaXad
import Derived.Test.YtkhpbkdblhcepaaXbd
import Derived.Test.YtkhpbkdblhcepaaXcd
import Derived.Test.YtkhpbkdblhcepaaXdd
import Derived.Test.YtkhpbkdblhcepaaXed
import Derived.Test.YtkhpbkdblhcepaaXfd
import Derived.Test.YtkhpbkdblhcepaaXgd
import Derived.Test.YtkhpbkdblhcepaaXhd
import Derived.Test.YtkhpbkdblhcepaaXid
namespace Go.Proofs.Ytkhpbkdblhcepaa
end Go.Proofs.Ytkhpbkdblhcepaa

