
/- The function awake answers true. -/
import Derived.Test.YtoiaefgpegiieaaAwake
namespace Go.Proofs.Ytoiaefgpegiieaa
open Go.RowKit

theorem same_zero (w : World) : Calls Try.prog 92 #[.float .f64 0, .float .f64 0] w fun r w' => r = .returned (.bool true) ∧ w = w' := by
  have h1 := run_bits
  go_enter Try.func92, Try.ntmps92
  go_wp2
  go_ret
  exact ⟨rfl, rfl⟩

end Go.Proofs.Ytoiaefgpegiieaa
