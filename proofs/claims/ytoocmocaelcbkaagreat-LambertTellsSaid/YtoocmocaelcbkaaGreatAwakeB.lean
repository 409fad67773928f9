
/- The function awake answers true. -/
import Derived.Test.YtoocmocaelcbkaaGreatAwake
namespace Go.Proofs.YtoocmocaelcbkaaGreat
open Go.RowKit

end Go.Proofs.YtoocmocaelcbkaaGreat
