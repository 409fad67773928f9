/- The walk of the statement DirParts. -/
import Derived.Test.YtcfgahlaiiibiaaGreatKParts
namespace Go.Proofs.YtcfgahlaiiibiaaGreat
open Go.RowKit

end Go.Proofs.YtcfgahlaiiibiaaGreat
