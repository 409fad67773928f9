
/- The function awake answers true. -/
import Derived.Test.YtcfgahlaiiibiaaGreatAwake
namespace Go.Proofs.YtcfgahlaiiibiaaGreat
open Go.RowKit

theorem same_zero (w : World) : Calls Tryz.prog 32 #[.float .f64 0, .float .f64 0] w fun r w' => r = .returned (.bool true) ∧ w = w' := by
  have h1 := run_bits
  go_enter Tryz.func32, Tryz.ntmps32
  go_wp2
  go_ret
  exact ⟨rfl, rfl⟩

end Go.Proofs.YtcfgahlaiiibiaaGreat
