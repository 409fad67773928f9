
/- What math.Ldexp answers where neither its argument nor its answer is 0, infinite or no number, said of facts that are worked out for the numbers at hand. -/
import Derived.Test.YtdppppaoflhgdaaDirC
namespace Go.Proofs.Ytdppppaoflhgdaa
open Go.RowKit

set_option maxRecDepth 100000 in
set_option maxHeartbeats 400000 in
theorem abs_at (F : Nat) (w : World) (b0 : bits .andNot .u64 (F : Int) 9223372036854775808 = F) :
    Calls Try.prog 14 #[.float .f64 F] w fun r w' => r = .returned (.float .f64 F) ∧ w = w' := by
  have h1 := run_bits
  have h2 := run_frombits
  go_enter Try.func14, Try.ntmps14
  go_wp2
  go_ret
  exact ⟨rfl, rfl⟩

set_option maxRecDepth 100000 in
set_option maxHeartbeats 1000000 in
theorem ldexp_at (F A S X R : Nat) (e E x : Int) (w : World) (b0 : bits .andNot .u64 (F : Int) 9223372036854775808 = F)
    (o1 : (FloatKind.f64.format.order F 0 == some Ordering.eq) = false) (o2 : (FloatKind.f64.format.order F 9218868437227405311 == some Ordering.gt) = false)
    (o3 : (FloatKind.f64.format.order F F != some Ordering.eq) = false) (o4 : (FloatKind.f64.format.order F 4503599627370496 == some Ordering.lt) = false)
    (s1 : (F : Int) / 4503599627370496 = E) (e0 : 0 ≤ E) (e1 : E ≤ 2047) (a1 : bits .and .i64 E 2047 = E) (f0 : -3000 ≤ e) (f1 : e ≤ 3000) (r1 : e + (E - 1023) = x) (r2 : -1022 ≤ x) (r3 : x ≤ 1023)
    (a2 : bits .andNot .u64 (F : Int) 9218868437227405312 = A) (sh : IntKind.u64.wrap ((x + 1023) * 4503599627370496) = S) (o5 : bits .or .u64 (A : Int) (S : Int) = X)
    (hm : floatBits .mul .f64 4607182418800017408 X = some R) :
    Calls Try.prog 45 #[.float .f64 F, .int .i64 e] w fun r w' => r = .returned (.float .f64 R) ∧ w = w' := by
  have h1 := run_bits
  have h2 := run_frombits
  have h3 := fun w => run_float_arith (P := Try.prog) w .mul 22 .f64 4607182418800017408 X R hm
  go_enter Try.func45, Try.ntmps45
  go_wp2
  go_ret
  exact ⟨rfl, rfl⟩

set_option maxRecDepth 100000 in
set_option maxHeartbeats 1000000 in
theorem ldexp_low (F A S X R : Nat) (e E x : Int) (w : World) (b0 : bits .andNot .u64 (F : Int) 9223372036854775808 = F)
    (o1 : (FloatKind.f64.format.order F 0 == some Ordering.eq) = false) (o2 : (FloatKind.f64.format.order F 9218868437227405311 == some Ordering.gt) = false)
    (o3 : (FloatKind.f64.format.order F F != some Ordering.eq) = false) (o4 : (FloatKind.f64.format.order F 4503599627370496 == some Ordering.lt) = false)
    (s1 : (F : Int) / 4503599627370496 = E) (e0 : 0 ≤ E) (e1 : E ≤ 2047) (a1 : bits .and .i64 E 2047 = E) (f0 : -3000 ≤ e) (f1 : e ≤ 3000) (r1 : e + (E - 1023) = x) (r2 : -1075 ≤ x) (r3 : x < -1022)
    (a2 : bits .andNot .u64 (F : Int) 9218868437227405312 = A) (sh : IntKind.u64.wrap ((x + 53 + 1023) * 4503599627370496) = S) (o5 : bits .or .u64 (A : Int) (S : Int) = X)
    (hm : floatBits .mul .f64 4368491638549381120 X = some R) :
    Calls Try.prog 45 #[.float .f64 F, .int .i64 e] w fun r w' => r = .returned (.float .f64 R) ∧ w = w' := by
  have h1 := run_bits
  have h2 := run_frombits
  have h3 := fun w => run_float_arith (P := Try.prog) w .mul 22 .f64 4368491638549381120 X R hm
  go_enter Try.func45, Try.ntmps45
  go_wp2
  go_ret
  exact ⟨rfl, rfl⟩

theorem third_down (w : World) : Calls Try.prog 45 #[.float .f64 4842870799299073365, .int .i64 (-54)] w fun r w' => r = .returned (.float .f64 4599676419421066581) ∧ w = w' :=
  ldexp_at 4842870799299073365 1501199875790165 4598175219545276416 4599676419421066581 4599676419421066581 (-54) 1075 (-2) w (by decide +kernel) (by decide +kernel) (by decide +kernel) (by decide +kernel) (by decide +kernel) (by decide) (by decide) (by decide) (by decide +kernel) (by decide) (by decide) (by decide) (by decide) (by decide) (by decide +kernel) (by decide +kernel) (by decide +kernel) (by decide +kernel)

theorem third_up (w : World) : Calls Try.prog 45 #[.float .f64 4842870799299073366, .int .i64 (-54)] w fun r w' => r = .returned (.float .f64 4599676419421066582) ∧ w = w' :=
  ldexp_at 4842870799299073366 1501199875790166 4598175219545276416 4599676419421066582 4599676419421066582 (-54) 1075 (-2) w (by decide +kernel) (by decide +kernel) (by decide +kernel) (by decide +kernel) (by decide +kernel) (by decide) (by decide) (by decide) (by decide +kernel) (by decide) (by decide) (by decide) (by decide) (by decide) (by decide +kernel) (by decide +kernel) (by decide +kernel) (by decide +kernel)

theorem root2_down (w : World) : Calls Try.prog 45 #[.float .f64 4843235051468438476, .int .i64 (-52)] w fun r w' => r = .returned (.float .f64 4609047870845172684) ∧ w = w' :=
  ldexp_at 4843235051468438476 1865452045155276 4607182418800017408 4609047870845172684 4609047870845172684 (-52) 1075 (0) w (by decide +kernel) (by decide +kernel) (by decide +kernel) (by decide +kernel) (by decide +kernel) (by decide) (by decide) (by decide) (by decide +kernel) (by decide) (by decide) (by decide) (by decide) (by decide) (by decide +kernel) (by decide +kernel) (by decide +kernel) (by decide +kernel)

theorem root2_up (w : World) : Calls Try.prog 45 #[.float .f64 4843235051468438477, .int .i64 (-52)] w fun r w' => r = .returned (.float .f64 4609047870845172685) ∧ w = w' :=
  ldexp_at 4843235051468438477 1865452045155277 4607182418800017408 4609047870845172685 4609047870845172685 (-52) 1075 (0) w (by decide +kernel) (by decide +kernel) (by decide +kernel) (by decide +kernel) (by decide +kernel) (by decide) (by decide) (by decide) (by decide +kernel) (by decide) (by decide) (by decide) (by decide) (by decide) (by decide +kernel) (by decide +kernel) (by decide +kernel) (by decide +kernel)

end Go.Proofs.Ytdppppaoflhgdaa
