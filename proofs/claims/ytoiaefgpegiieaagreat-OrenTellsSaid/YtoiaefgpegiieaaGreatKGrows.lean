/- The statement DirGrows: no greater operand makes a lesser sum, product or root. No conditions. -/
import Derived.Test.YtoiaefgpegiieaaGreatKParts
namespace Go.Proofs.YtoiaefgpegiieaaGreat
open Go.RowKit

theorem abs_any (c : Nat) (w : World) (hc : c < 18446744073709551616) :
    Calls Tryz.prog 80 #[.float .f64 c] w fun r w' => r = .returned (.float .f64 (rung c)) ∧ w = w' := by
  have h1 := run_bits
  have h2 := run_frombits
  have h3 := andNot_sign c hc
  go_enter Tryz.func80, Tryz.ntmps80
  go_wp2
  go_ret
  exact ⟨rfl, rfl⟩

theorem run_min (a b : Nat) (ts : Array TypeId) (t : TypeId) (w : World) (h : FloatKind.f64.format.order a b = some Ordering.lt ∨ a = b ∧ FloatKind.f64.format.order a b = some Ordering.eq) :
    (Builtin.min_ ts t #[.float .f64 a, .float .f64 b]).run Tryz.prog w = .ok (.float .f64 a) w ∧ (Builtin.max_ ts t #[.float .f64 a, .float .f64 b]).run Tryz.prog w = .ok (.float .f64 b) w := by
  rcases h with h | ⟨rfl, h⟩
  · simp [Builtin.min_, Builtin.min2, Builtin.max_, Builtin.max2, h]
  · simp [Builtin.min_, Builtin.min2, Builtin.max_, Builtin.max2, h]
theorem run_max (a b : Nat) (ts : Array TypeId) (t : TypeId) (w : World) (h : FloatKind.f64.format.order a b = some Ordering.gt) :
    (Builtin.min_ ts t #[.float .f64 a, .float .f64 b]).run Tryz.prog w = .ok (.float .f64 b) w ∧ (Builtin.max_ ts t #[.float .f64 a, .float .f64 b]).run Tryz.prog w = .ok (.float .f64 a) w := by
  simp [Builtin.min_, Builtin.min2, Builtin.max_, Builtin.max2, h]

end Go.Proofs.YtoiaefgpegiieaaGreat
