
/- What math.Ldexp answers where neither its argument nor its answer is 0, infinite or no number, said of facts that are worked out for the numbers at hand. -/
import Derived.Test.YtcfgahlaiiibiaaDirC
namespace Go.Proofs.Ytcfgahlaiiibiaa
open Go.RowKit

end Go.Proofs.Ytcfgahlaiiibiaa
