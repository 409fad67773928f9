
/- The chapter's examples: the function awake of the statements answers true. -/
import Derived.Test.YtdppppaoflhgdaaDirG
import Derived.Test.YtdppppaoflhgdaaLdexp
namespace Go.Proofs.Ytdppppaoflhgdaa
open Go.RowKit

theorem add_lit (a b v : Nat) (e : Int) (up : Bool) (w : World) (ha : a < 18446744073709551616) (hb : b < 18446744073709551616) (hv : addW a b up = v) (he : addE a b up = e) :
    Calls Try.prog 87 #[.float .f64 a, .float .f64 b, .bool up] w fun r w' => r = .returned (.tuple #[.float .f64 v, .int .i64 e]) ∧ Below w.heap.size w w' := by
  rw [← hv, ← he]; exact add_any a b up w ha hb
theorem sub_lit (a b v : Nat) (e : Int) (up : Bool) (w : World) (ha : a < 18446744073709551616) (hb : b < 18446744073709551616) (hv : subW a b up = v) (he : subE a b up = e) :
    Calls Try.prog 86 #[.float .f64 a, .float .f64 b, .bool up] w fun r w' => r = .returned (.tuple #[.float .f64 v, .int .i64 e]) ∧ Below w.heap.size w w' := by
  rw [← hv, ← he]; exact sub_any a b up w ha hb
theorem mul_lit (a b v : Nat) (e : Int) (up : Bool) (w : World) (ha : a < 18446744073709551616) (hb : b < 18446744073709551616) (hv : mulW a b up = v) (he : mulE a b up = e) :
    Calls Try.prog 84 #[.float .f64 a, .float .f64 b, .bool up] w fun r w' => r = .returned (.tuple #[.float .f64 v, .int .i64 e]) ∧ Below w.heap.size w w' := by
  rw [← hv, ← he]; exact mul_any a b up w ha hb
theorem div_lit (a b v : Nat) (e : Int) (up : Bool) (w : World) (ha : a < 18446744073709551616) (hb : b < 18446744073709551616) (hv : divW a b up = v) (he : divE a b up = e) :
    Calls Try.prog 89 #[.float .f64 a, .float .f64 b, .bool up] w fun r w' => r = .returned (.tuple #[.float .f64 v, .int .i64 e]) ∧ Below w.heap.size w w' := by
  rw [← hv, ← he]; exact div_any a b up w ha hb
theorem sqrt_lit (a v : Nat) (e : Int) (up : Bool) (w : World) (ha : a < 18446744073709551616) (hv : sqrtW a up = v) (he : sqrtE a up = e) :
    Calls Try.prog 91 #[.float .f64 a, .bool up] w fun r w' => r = .returned (.tuple #[.float .f64 v, .int .i64 e]) ∧ Below w.heap.size w w' := by
  rw [← hv, ← he]; exact sqrt_any a up w ha
theorem c1_down (w : World) : Calls Try.prog 87 #[.float .f64 4607182418800017408, .float .f64 4336966441157787648, .bool false] w fun r w' => r = .returned (.tuple #[.float .f64 4607182418800017408, .int .i64 0]) ∧ Below w.heap.size w w' :=
  add_lit _ _ _ _ _ w (by decide) (by decide) (by decide +kernel) (by decide +kernel)
theorem c1_up (w : World) : Calls Try.prog 87 #[.float .f64 4607182418800017408, .float .f64 4336966441157787648, .bool true] w fun r w' => r = .returned (.tuple #[.float .f64 4607182418800017409, .int .i64 0]) ∧ Below w.heap.size w w' :=
  add_lit _ _ _ _ _ w (by decide) (by decide) (by decide +kernel) (by decide +kernel)
theorem c2_down (w : World) : Calls Try.prog 84 #[.float .f64 4613937818241073152, .float .f64 4617315517961601024, .bool false] w fun r w' => r = .returned (.tuple #[.float .f64 4624633867356078080, .int .i64 0]) ∧ Below w.heap.size w w' :=
  mul_lit _ _ _ _ _ w (by decide) (by decide) (by decide +kernel) (by decide +kernel)
theorem c2_up (w : World) : Calls Try.prog 84 #[.float .f64 4613937818241073152, .float .f64 4617315517961601024, .bool true] w fun r w' => r = .returned (.tuple #[.float .f64 4624633867356078080, .int .i64 0]) ∧ Below w.heap.size w w' :=
  mul_lit _ _ _ _ _ w (by decide) (by decide) (by decide +kernel) (by decide +kernel)
theorem c3_down (w : World) : Calls Try.prog 89 #[.float .f64 4607182418800017408, .float .f64 4613937818241073152, .bool false] w fun r w' => r = .returned (.tuple #[.float .f64 4599676419421066581, .int .i64 0]) ∧ Below w.heap.size w w' :=
  div_lit _ _ _ _ _ w (by decide) (by decide) (by decide +kernel) (by decide +kernel)
theorem c3_up (w : World) : Calls Try.prog 89 #[.float .f64 4607182418800017408, .float .f64 4613937818241073152, .bool true] w fun r w' => r = .returned (.tuple #[.float .f64 4599676419421066582, .int .i64 0]) ∧ Below w.heap.size w w' :=
  div_lit _ _ _ _ _ w (by decide) (by decide) (by decide +kernel) (by decide +kernel)

theorem sqrt_two : Nat.sqrt (rootV (mant 4611686018427387904) (expo 4611686018427387904)) = 6521908912666391106 := by
  have h1 := Nat.sqrt_le (rootV (mant 4611686018427387904) (expo 4611686018427387904))
  have h2 := Nat.lt_succ_sqrt (rootV (mant 4611686018427387904) (expo 4611686018427387904))
  have e : rootV (mant 4611686018427387904) (expo 4611686018427387904) = 42535295865117307932921825928971026432 := by decide +kernel
  rw [e] at h1 h2 ⊢
  have a1 : Nat.sqrt 42535295865117307932921825928971026432 < 6521908912666391107 := sq_lt (Nat.lt_of_le_of_lt h1 (by decide))
  have a2 : 6521908912666391106 < Nat.sqrt 42535295865117307932921825928971026432 + 1 := sq_lt (Nat.lt_of_le_of_lt (show 6521908912666391106 * 6521908912666391106 ≤ 42535295865117307932921825928971026432 by decide) h2)
  omega
theorem root_two : rootW (mant 4611686018427387904) (expo 4611686018427387904) = 6521908912666391106 * 18446744073709551616 + 1 := by
  unfold rootW
  rw [if_neg (by decide +kernel)]
  unfold restR
  rw [sqrt_two, if_neg (by decide +kernel)]
theorem c4_down (w : World) : Calls Try.prog 91 #[.float .f64 4611686018427387904, .bool false] w fun r w' => r = .returned (.tuple #[.float .f64 4609047870845172684, .int .i64 0]) ∧ Below w.heap.size w w' :=
  sqrt_lit _ _ _ _ w (by decide) (by unfold sqrtW; rw [root_two]; decide +kernel) (by unfold sqrtE; rw [root_two]; decide +kernel)
theorem c4_up (w : World) : Calls Try.prog 91 #[.float .f64 4611686018427387904, .bool true] w fun r w' => r = .returned (.tuple #[.float .f64 4609047870845172685, .int .i64 0]) ∧ Below w.heap.size w w' :=
  sqrt_lit _ _ _ _ w (by decide) (by unfold sqrtW; rw [root_two]; decide +kernel) (by unfold sqrtE; rw [root_two]; decide +kernel)
theorem c5_down (w : World) : Calls Try.prog 84 #[.float .f64 1905022642377719808, .float .f64 1905022642377719808, .bool false] w fun r w' => r = .returned (.tuple #[.float .f64 0, .int .i64 0]) ∧ Below w.heap.size w w' :=
  mul_lit _ _ _ _ _ w (by decide) (by decide) (by decide +kernel) (by decide +kernel)
theorem c5_up (w : World) : Calls Try.prog 84 #[.float .f64 1905022642377719808, .float .f64 1905022642377719808, .bool true] w fun r w' => r = .returned (.tuple #[.float .f64 1, .int .i64 0]) ∧ Below w.heap.size w w' :=
  mul_lit _ _ _ _ _ w (by decide) (by decide) (by decide +kernel) (by decide +kernel)
theorem c6_down (w : World) : Calls Try.prog 84 #[.float .f64 7309342195222315008, .float .f64 7309342195222315008, .bool false] w fun r w' => r = .returned (.tuple #[.float .f64 9218868437227405311, .int .i64 0]) ∧ Below w.heap.size w w' :=
  mul_lit _ _ _ _ _ w (by decide) (by decide) (by decide +kernel) (by decide +kernel)
theorem c6_up (w : World) : Calls Try.prog 84 #[.float .f64 7309342195222315008, .float .f64 7309342195222315008, .bool true] w fun r w' => r = .returned (.tuple #[.float .f64 0, .int .i64 10]) ∧ Below w.heap.size w w' :=
  mul_lit _ _ _ _ _ w (by decide) (by decide) (by decide +kernel) (by decide +kernel)
theorem c7_up (w : World) : Calls Try.prog 89 #[.float .f64 4607182418800017408, .float .f64 0, .bool true] w fun r w' => r = .returned (.tuple #[.float .f64 0, .int .i64 11]) ∧ Below w.heap.size w w' :=
  div_lit _ _ _ _ _ w (by decide) (by decide) (by decide +kernel) (by decide +kernel)
theorem c8_down (w : World) : Calls Try.prog 86 #[.float .f64 4607182418800017408, .float .f64 4607182418800017408, .bool false] w fun r w' => r = .returned (.tuple #[.float .f64 0, .int .i64 0]) ∧ Below w.heap.size w w' :=
  sub_lit _ _ _ _ _ w (by decide) (by decide) (by decide +kernel) (by decide +kernel)
end Go.Proofs.Ytdppppaoflhgdaa
