/- walk: add (layer 13). -/
import Derived.Test.YtnehkgbdppbhiaaWalG
import Derived.Test.YtnehkgbdppbhiaaPlanP
namespace Go.Proofs.Ytnehkgbdppbhiaa
open Go.RowKit Go.Shelf Plain

end Go.Proofs.Ytnehkgbdppbhiaa
