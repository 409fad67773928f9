/- What math.Ldexp answers where neither its argument nor its answer is 0, infinite or no number, said of facts that are worked out for the numbers at hand. -/
import Derived.Test.YtoiaefgpegiieaaGreatKDirC
namespace Go.Proofs.YtoiaefgpegiieaaGreat
open Go.RowKit

set_option maxRecDepth 100000 in
set_option maxHeartbeats 1000000 in
theorem ldexp_at (F A S X R : Nat) (e E x : Int) (w : World) (b0 : bits .andNot .u64 (F : Int) 9223372036854775808 = F)
    (o1 : (FloatKind.f64.format.order F 0 == some Ordering.eq) = false) (o2 : (FloatKind.f64.format.order F 9218868437227405311 == some Ordering.gt) = false)
    (o3 : (FloatKind.f64.format.order F F != some Ordering.eq) = false) (o4 : (FloatKind.f64.format.order F 4503599627370496 == some Ordering.lt) = false)
    (s1 : (F : Int) / 4503599627370496 = E) (e0 : 0 ≤ E) (e1 : E ≤ 2047) (a1 : bits .and .i64 E 2047 = E) (f0 : -3000 ≤ e) (f1 : e ≤ 3000) (r1 : e + (E - 1023) = x) (r2 : -1022 ≤ x) (r3 : x ≤ 1023)
    (a2 : bits .andNot .u64 (F : Int) 9218868437227405312 = A) (sh : IntKind.u64.wrap ((x + 1023) * 4503599627370496) = S) (o5 : bits .or .u64 (A : Int) (S : Int) = X)
    (hm : floatBits .mul .f64 4607182418800017408 X = some R) :
    Calls Tryz.prog 40 #[.float .f64 F, .int .i64 e] w fun r w' => r = .returned (.float .f64 R) ∧ w = w' := by
  have h1 := run_bits
  have h2 := run_frombits
  have h3 := fun w => run_float_arith (P := Tryz.prog) w .mul 22 .f64 4607182418800017408 X R hm
  go_enter Tryz.func40, Tryz.ntmps40
  go_wp2
  go_ret
  exact ⟨rfl, rfl⟩

end Go.Proofs.YtoiaefgpegiieaaGreat
