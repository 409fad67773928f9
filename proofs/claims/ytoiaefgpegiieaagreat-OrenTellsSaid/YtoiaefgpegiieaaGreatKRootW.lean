/- What wholeRoot and root of package dir answer, and Sqrt. -/
import Derived.Test.YtoiaefgpegiieaaGreatKDirF
import Derived.Test.YtoiaefgpegiieaaGreatKRootM
import Derived.Test.YtoiaefgpegiieaaGreatKFloat
namespace Go.Proofs.YtoiaefgpegiieaaGreat
open Go.RowKit

def restR (W : Nat) : Nat := if Nat.sqrt W * Nat.sqrt W = W then 0 else 1

end Go.Proofs.YtoiaefgpegiieaaGreat
