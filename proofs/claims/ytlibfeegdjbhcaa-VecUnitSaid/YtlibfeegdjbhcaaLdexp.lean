
/- What math.Ldexp answers where neither its argument nor its answer is 0, infinite or no number, said of facts that are worked out for the numbers at hand. -/
import Derived.Test.YtlibfeegdjbhcaaDirC
namespace Go.Proofs.Ytlibfeegdjbhcaa
open Go.RowKit

set_option maxRecDepth 100000 in
set_option maxHeartbeats 400000 in
theorem abs_at (F : Nat) (w : World) (b0 : bits .andNot .u64 (F : Int) 9223372036854775808 = F) :
    Calls Try.prog 5 #[.float .f64 F] w fun r w' => r = .returned (.float .f64 F) ∧ w = w' := by
  have h1 := run_bits
  have h2 := run_frombits
  go_enter Try.func5, Try.ntmps5
  go_wp2
  go_ret
  exact ⟨rfl, rfl⟩

end Go.Proofs.Ytlibfeegdjbhcaa
