/- The function awake answers true. -/
import Derived.Test.YtcfgahlaiiibiaaGreatKAwake
namespace Go.Proofs.YtcfgahlaiiibiaaGreat
open Go.RowKit

end Go.Proofs.YtcfgahlaiiibiaaGreat
