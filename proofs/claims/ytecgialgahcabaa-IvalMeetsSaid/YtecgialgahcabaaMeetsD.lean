/- The law IvalMeets: its walk. -/
import Derived.Test.YtecgialgahcabaaAwkB
namespace Go.Proofs.Ytecgialgahcabaa
open Go.RowKit
attribute [local go_sem] run_store_float

/-- Where the walk stands behind the first test: five blocks. -/
def MeetsMem (w : World) (al ah bl bh ml mh hl hh : Nat) (p q s : Nat) (v : World) : Prop :=
  Mem w [(w.heap.size, #[.float .f64 al, .float .f64 ah]), (w.heap.size + 1, #[.float .f64 bl, .float .f64 bh]), (p, #[.float .f64 ml, .float .f64 mh]), (q, #[.float .f64 ml, .float .f64 mh]), (s, #[.float .f64 hl, .float .f64 hh])] v

end Go.Proofs.Ytecgialgahcabaa
