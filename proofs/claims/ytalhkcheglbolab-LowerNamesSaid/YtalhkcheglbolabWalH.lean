/- walk: add (layer 13). -/
import Derived.Test.YtalhkcheglbolabWalG
import Derived.Test.YtalhkcheglbolabPlanP
namespace Go.Proofs.Ytalhkcheglbolab
open Go.RowKit Go.Shelf Plain

end Go.Proofs.Ytalhkcheglbolab
