
/- The function awake answers true. -/
import Derived.Test.YtcfgahlaiiibiaaAwake
namespace Go.Proofs.Ytcfgahlaiiibiaa
open Go.RowKit

end Go.Proofs.Ytcfgahlaiiibiaa
