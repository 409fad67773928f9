
/- The function awake answers true. -/
import Derived.Test.YtoocmocaelcbkaaAwake
namespace Go.Proofs.Ytoocmocaelcbkaa
open Go.RowKit

theorem same_zero (w : World) : Calls Try.prog 57 #[.float .f64 0, .float .f64 0] w fun r w' => r = .returned (.bool true) ∧ w = w' := by
  have h1 := run_bits
  go_enter Try.func57, Try.ntmps57
  go_wp2
  go_ret
  exact ⟨rfl, rfl⟩

end Go.Proofs.Ytoocmocaelcbkaa
