
/- The walk of the statement DirParts. -/
import Derived.Test.YtdppppaoflhgdaaParts
namespace Go.Proofs.Ytdppppaoflhgdaa
open Go.RowKit

theorem right_is (a : Nat) (v : Bool) (w : World) (ha : a < 18446744073709551616) (h : rightB a = v) : Calls Try.prog 75 #[.float .f64 a] w fun r w' => r = .returned (.bool v) ∧ w = w' :=
  (right_any a w ha).mono fun e w' ⟨he, hw⟩ => ⟨by rw [he, h], hw⟩

end Go.Proofs.Ytdppppaoflhgdaa
