
/- The function awake answers true. -/
import Derived.Test.YtmcecchcbfhfcaaGreatAwake
namespace Go.Proofs.YtmcecchcbfhfcaaGreat
open Go.RowKit

theorem same_zero (w : World) : Calls Tryz.prog 15 #[.float .f64 0, .float .f64 0] w fun r w' => r = .returned (.bool true) ∧ w = w' := by
  have h1 := run_bits
  go_enter Tryz.func15, Tryz.ntmps15
  go_wp2
  go_ret
  exact ⟨rfl, rfl⟩

end Go.Proofs.YtmcecchcbfhfcaaGreat
