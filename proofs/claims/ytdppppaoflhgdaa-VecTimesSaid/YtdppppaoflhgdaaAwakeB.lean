
/- The function awake answers true. -/
import Derived.Test.YtdppppaoflhgdaaAwake
namespace Go.Proofs.Ytdppppaoflhgdaa
open Go.RowKit

theorem same_zero (w : World) : Calls Try.prog 80 #[.float .f64 0, .float .f64 0] w fun r w' => r = .returned (.bool true) ∧ w = w' := by
  have h1 := run_bits
  go_enter Try.func80, Try.ntmps80
  go_wp2
  go_ret
  exact ⟨rfl, rfl⟩

end Go.Proofs.Ytdppppaoflhgdaa
