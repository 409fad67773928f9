/- The chapter's examples: the function awake of the statements answers true. -/
import Derived.Test.YtcfgahlaiiibiaaGreatKDirG
import Derived.Test.YtcfgahlaiiibiaaGreatKLdexp
namespace Go.Proofs.YtcfgahlaiiibiaaGreat
open Go.RowKit

end Go.Proofs.YtcfgahlaiiibiaaGreat
