
/- The function awake answers true. -/
import Derived.Test.YtmcecchcbfhfcaaAwake
namespace Go.Proofs.Ytmcecchcbfhfcaa
open Go.RowKit

set_option maxHeartbeats 400000 in
theorem k1_down (w : World) : Calls Try.prog 93 #[.bool false] w fun r w' => r = .returned (.tuple #[.float .f64 4607182418800017408, .int .i64 0]) ∧ Below w.heap.size w w' := by
  go_enter Try.func93, Try.ntmps93
  go_wp2_with fail
  refine (power_m60 _).mono ?_
  rintro r w0 ⟨rfl, rfl⟩
  go_wp2_with fail
  refine (c1_down _).mono ?_
  rintro r w1 ⟨rfl, h1⟩
  have H1 := Lib.hid h1; clear h1
  go_wp2
  go_ret2
  exact ⟨rfl, H1.out⟩

set_option maxHeartbeats 400000 in
theorem k1_up (w : World) : Calls Try.prog 93 #[.bool true] w fun r w' => r = .returned (.tuple #[.float .f64 4607182418800017409, .int .i64 0]) ∧ Below w.heap.size w w' := by
  go_enter Try.func93, Try.ntmps93
  go_wp2_with fail
  refine (power_m60 _).mono ?_
  rintro r w0 ⟨rfl, rfl⟩
  go_wp2_with fail
  refine (c1_up _).mono ?_
  rintro r w1 ⟨rfl, h1⟩
  have H1 := Lib.hid h1; clear h1
  go_wp2
  go_ret2
  exact ⟨rfl, H1.out⟩

set_option maxHeartbeats 400000 in
theorem k2_down (w : World) : Calls Try.prog 95 #[.bool false] w fun r w' => r = .returned (.tuple #[.float .f64 4624633867356078080, .int .i64 0]) ∧ Below w.heap.size w w' := by
  go_enter Try.func95, Try.ntmps95
  go_wp2_with fail
  refine (c2_down _).mono ?_
  rintro r w1 ⟨rfl, h1⟩
  have H1 := Lib.hid h1; clear h1
  go_wp2
  go_ret2
  exact ⟨rfl, H1.out⟩

set_option maxHeartbeats 400000 in
theorem k2_up (w : World) : Calls Try.prog 95 #[.bool true] w fun r w' => r = .returned (.tuple #[.float .f64 4624633867356078080, .int .i64 0]) ∧ Below w.heap.size w w' := by
  go_enter Try.func95, Try.ntmps95
  go_wp2_with fail
  refine (c2_up _).mono ?_
  rintro r w1 ⟨rfl, h1⟩
  have H1 := Lib.hid h1; clear h1
  go_wp2
  go_ret2
  exact ⟨rfl, H1.out⟩

set_option maxHeartbeats 400000 in
theorem k3_down (w : World) : Calls Try.prog 96 #[.bool false] w fun r w' => r = .returned (.tuple #[.float .f64 4599676419421066581, .int .i64 0]) ∧ Below w.heap.size w w' := by
  go_enter Try.func96, Try.ntmps96
  go_wp2_with fail
  refine (c3_down _).mono ?_
  rintro r w1 ⟨rfl, h1⟩
  have H1 := Lib.hid h1; clear h1
  go_wp2
  go_ret2
  exact ⟨rfl, H1.out⟩

set_option maxHeartbeats 400000 in
theorem k3_up (w : World) : Calls Try.prog 96 #[.bool true] w fun r w' => r = .returned (.tuple #[.float .f64 4599676419421066582, .int .i64 0]) ∧ Below w.heap.size w w' := by
  go_enter Try.func96, Try.ntmps96
  go_wp2_with fail
  refine (c3_up _).mono ?_
  rintro r w1 ⟨rfl, h1⟩
  have H1 := Lib.hid h1; clear h1
  go_wp2
  go_ret2
  exact ⟨rfl, H1.out⟩

set_option maxHeartbeats 400000 in
theorem k4_down (w : World) : Calls Try.prog 97 #[.bool false] w fun r w' => r = .returned (.tuple #[.float .f64 4609047870845172684, .int .i64 0]) ∧ Below w.heap.size w w' := by
  go_enter Try.func97, Try.ntmps97
  go_wp2_with fail
  refine (c4_down _).mono ?_
  rintro r w1 ⟨rfl, h1⟩
  have H1 := Lib.hid h1; clear h1
  go_wp2
  go_ret2
  exact ⟨rfl, H1.out⟩

set_option maxHeartbeats 400000 in
theorem k4_up (w : World) : Calls Try.prog 97 #[.bool true] w fun r w' => r = .returned (.tuple #[.float .f64 4609047870845172685, .int .i64 0]) ∧ Below w.heap.size w w' := by
  go_enter Try.func97, Try.ntmps97
  go_wp2_with fail
  refine (c4_up _).mono ?_
  rintro r w1 ⟨rfl, h1⟩
  have H1 := Lib.hid h1; clear h1
  go_wp2
  go_ret2
  exact ⟨rfl, H1.out⟩

set_option maxHeartbeats 400000 in
theorem k5_down (w : World) : Calls Try.prog 98 #[.bool false] w fun r w' => r = .returned (.tuple #[.float .f64 0, .int .i64 0]) ∧ Below w.heap.size w w' := by
  go_enter Try.func98, Try.ntmps98
  go_wp2_with fail
  refine (power_m600 _).mono ?_
  rintro r w0 ⟨rfl, rfl⟩
  go_wp2_with fail
  refine (power_m600 _).mono ?_
  rintro r w0 ⟨rfl, rfl⟩
  go_wp2_with fail
  refine (c5_down _).mono ?_
  rintro r w1 ⟨rfl, h1⟩
  have H1 := Lib.hid h1; clear h1
  go_wp2
  go_ret2
  exact ⟨rfl, H1.out⟩

set_option maxHeartbeats 400000 in
theorem k5_up (w : World) : Calls Try.prog 98 #[.bool true] w fun r w' => r = .returned (.tuple #[.float .f64 1, .int .i64 0]) ∧ Below w.heap.size w w' := by
  go_enter Try.func98, Try.ntmps98
  go_wp2_with fail
  refine (power_m600 _).mono ?_
  rintro r w0 ⟨rfl, rfl⟩
  go_wp2_with fail
  refine (power_m600 _).mono ?_
  rintro r w0 ⟨rfl, rfl⟩
  go_wp2_with fail
  refine (c5_up _).mono ?_
  rintro r w1 ⟨rfl, h1⟩
  have H1 := Lib.hid h1; clear h1
  go_wp2
  go_ret2
  exact ⟨rfl, H1.out⟩

set_option maxHeartbeats 400000 in
theorem both1 (w : World) : Calls Try.prog 92 #[.func (.func 93) #[] #[]] w fun r w' => r = .returned (.tuple #[.float .f64 4607182418800017408, .float .f64 4607182418800017409, .bool true]) ∧ Below w.heap.size w w' := by
  go_enter Try.func92, Try.ntmps92
  go_wp2_with fail
  refine (k1_down _).mono ?_
  rintro r w1 ⟨rfl, h1⟩
  go_wp2_with fail
  refine (k1_up _).mono ?_
  rintro r w2 ⟨rfl, h2⟩
  have H1 := Lib.hid (h1.trans (h2.mono h1.size)); clear h1 h2
  go_wp2
  go_ret3
  exact ⟨rfl, H1.out⟩

set_option maxHeartbeats 400000 in
theorem both2 (w : World) : Calls Try.prog 92 #[.func (.func 95) #[] #[]] w fun r w' => r = .returned (.tuple #[.float .f64 4624633867356078080, .float .f64 4624633867356078080, .bool true]) ∧ Below w.heap.size w w' := by
  go_enter Try.func92, Try.ntmps92
  go_wp2_with fail
  refine (k2_down _).mono ?_
  rintro r w1 ⟨rfl, h1⟩
  go_wp2_with fail
  refine (k2_up _).mono ?_
  rintro r w2 ⟨rfl, h2⟩
  have H1 := Lib.hid (h1.trans (h2.mono h1.size)); clear h1 h2
  go_wp2
  go_ret3
  exact ⟨rfl, H1.out⟩

set_option maxHeartbeats 400000 in
theorem both3 (w : World) : Calls Try.prog 92 #[.func (.func 96) #[] #[]] w fun r w' => r = .returned (.tuple #[.float .f64 4599676419421066581, .float .f64 4599676419421066582, .bool true]) ∧ Below w.heap.size w w' := by
  go_enter Try.func92, Try.ntmps92
  go_wp2_with fail
  refine (k3_down _).mono ?_
  rintro r w1 ⟨rfl, h1⟩
  go_wp2_with fail
  refine (k3_up _).mono ?_
  rintro r w2 ⟨rfl, h2⟩
  have H1 := Lib.hid (h1.trans (h2.mono h1.size)); clear h1 h2
  go_wp2
  go_ret3
  exact ⟨rfl, H1.out⟩

set_option maxHeartbeats 400000 in
theorem both4 (w : World) : Calls Try.prog 92 #[.func (.func 97) #[] #[]] w fun r w' => r = .returned (.tuple #[.float .f64 4609047870845172684, .float .f64 4609047870845172685, .bool true]) ∧ Below w.heap.size w w' := by
  go_enter Try.func92, Try.ntmps92
  go_wp2_with fail
  refine (k4_down _).mono ?_
  rintro r w1 ⟨rfl, h1⟩
  go_wp2_with fail
  refine (k4_up _).mono ?_
  rintro r w2 ⟨rfl, h2⟩
  have H1 := Lib.hid (h1.trans (h2.mono h1.size)); clear h1 h2
  go_wp2
  go_ret3
  exact ⟨rfl, H1.out⟩

set_option maxHeartbeats 400000 in
theorem both5 (w : World) : Calls Try.prog 92 #[.func (.func 98) #[] #[]] w fun r w' => r = .returned (.tuple #[.float .f64 0, .float .f64 1, .bool true]) ∧ Below w.heap.size w w' := by
  go_enter Try.func92, Try.ntmps92
  go_wp2_with fail
  refine (k5_down _).mono ?_
  rintro r w1 ⟨rfl, h1⟩
  go_wp2_with fail
  refine (k5_up _).mono ?_
  rintro r w2 ⟨rfl, h2⟩
  have H1 := Lib.hid (h1.trans (h2.mono h1.size)); clear h1 h2
  go_wp2
  go_ret3
  exact ⟨rfl, H1.out⟩

theorem same_zero (w : World) : Calls Try.prog 20 #[.float .f64 0, .float .f64 0] w fun r w' => r = .returned (.bool true) ∧ w = w' := by
  have h1 := run_bits
  go_enter Try.func20, Try.ntmps20
  go_wp2
  go_ret
  exact ⟨rfl, rfl⟩

set_option maxRecDepth 100000 in
set_option maxHeartbeats 2000000 in
theorem awake_any (w : World) : Calls Try.prog 27 #[] w fun r w' => r = .returned (.bool true) ∧ Below w.heap.size w w' := by
  have o1 : (FloatKind.f64.format.order 4607182418800017408 4607182418800017408 == some Ordering.eq) = true := by decide +kernel
  have o2 : (FloatKind.f64.format.order 4607182418800017409 4607182418800017409 == some Ordering.eq) = true := by decide +kernel
  have o3 : (FloatKind.f64.format.order 4624633867356078080 4624633867356078080 == some Ordering.eq) = true := by decide +kernel
  have o4 : (FloatKind.f64.format.order 4599676419421066581 4599676419421066581 == some Ordering.eq) = true := by decide +kernel
  have o5 : (FloatKind.f64.format.order 4599676419421066582 4599676419421066582 == some Ordering.eq) = true := by decide +kernel
  have o6 : (FloatKind.f64.format.order 4609047870845172684 4609047870845172684 == some Ordering.eq) = true := by decide +kernel
  have o7 : (FloatKind.f64.format.order 4609047870845172685 4609047870845172685 == some Ordering.eq) = true := by decide +kernel
  have o8 : (FloatKind.f64.format.order 0 0 == some Ordering.eq) = true := by decide +kernel
  have o9 : (FloatKind.f64.format.order 1 1 == some Ordering.eq) = true := by decide +kernel
  have o10 : (FloatKind.f64.format.order 9218868437227405311 9218868437227405311 == some Ordering.eq) = true := by decide +kernel
  have o11 : (FloatKind.f64.format.order 9223372036854775809 9223372036854775809 == some Ordering.eq) = true := by decide +kernel
  have hn := neg_one
  have ha := fun w => run_float_arith (P := Try.prog) w .add 22 .f64 4607182418800017408 4372995238176751616 4607182418800017409 (by decide +kernel)
  go_enter Try.func27, Try.ntmps27
  go_wp2_with fail
  refine (both1 _).mono ?_
  rintro r w1 ⟨rfl, h1⟩
  have H1 := Lib.hid h1; clear h1
  go_wp2_with fail
  refine (both2 _).mono ?_
  rintro r w2 ⟨rfl, h2⟩
  have H2 := Lib.hid (H1.out.trans (h2.mono H1.out.size)); clear h2 H1
  go_wp2_with fail
  refine (both3 _).mono ?_
  rintro r w3 ⟨rfl, h3⟩
  have H3 := Lib.hid (H2.out.trans (h3.mono H2.out.size)); clear h3 H2
  go_wp2_with fail
  refine (both4 _).mono ?_
  rintro r w4 ⟨rfl, h4⟩
  have H4 := Lib.hid (H3.out.trans (h4.mono H3.out.size)); clear h4 H3
  go_wp2_with fail
  refine (both5 _).mono ?_
  rintro r w5 ⟨rfl, h5⟩
  have H5 := Lib.hid (H4.out.trans (h5.mono H4.out.size)); clear h5 H4
  go_wp2_with fail
  refine (power_600 _).mono ?_
  rintro r ww ⟨rfl, rfl⟩
  go_wp2_with fail
  refine (power_600 _).mono ?_
  rintro r ww ⟨rfl, rfl⟩
  go_wp2_with fail
  refine (c6_down _).mono ?_
  rintro r w6 ⟨rfl, h6⟩
  have H6 := Lib.hid (H5.out.trans (h6.mono H5.out.size)); clear h6 H5
  go_wp2_with fail
  refine (power_600 _).mono ?_
  rintro r ww ⟨rfl, rfl⟩
  go_wp2_with fail
  refine (power_600 _).mono ?_
  rintro r ww ⟨rfl, rfl⟩
  go_wp2_with fail
  refine (c6_up _).mono ?_
  rintro r w7 ⟨rfl, h7⟩
  have H7 := Lib.hid (H6.out.trans (h7.mono H6.out.size)); clear h7 H6
  go_wp2_with fail
  refine (c7_up _).mono ?_
  rintro r w8 ⟨rfl, h8⟩
  have H8 := Lib.hid (H7.out.trans (h8.mono H7.out.size)); clear h8 H7
  go_wp2_with fail
  refine (c8_down _).mono ?_
  rintro r w9 ⟨rfl, h9⟩
  have H9 := Lib.hid (H8.out.trans (h9.mono H8.out.size)); clear h9 H8
  go_wp2_with fail
  refine (c9_down _).mono ?_
  rintro r w10 ⟨rfl, h10⟩
  have H10 := Lib.hid (H9.out.trans (h10.mono H9.out.size)); clear h10 H9
  go_wp2_with fail
  refine (power_m52 _).mono ?_
  rintro r ww ⟨rfl, rfl⟩
  go_wp2_with fail
  refine (third_down _).mono ?_
  rintro r ww ⟨rfl, rfl⟩
  go_wp2_with fail
  refine (third_up _).mono ?_
  rintro r ww ⟨rfl, rfl⟩
  go_wp2_with fail
  refine (root2_down _).mono ?_
  rintro r ww ⟨rfl, rfl⟩
  go_wp2_with fail
  refine (root2_up _).mono ?_
  rintro r ww ⟨rfl, rfl⟩
  go_wp2_with fail
  refine (power_least _).mono ?_
  rintro r ww ⟨rfl, rfl⟩
  go_wp2_with fail
  refine (same_zero _).mono ?_
  rintro r ww ⟨rfl, rfl⟩
  go_wp2_with fail
  refine (power_least _).mono ?_
  rintro r ww ⟨rfl, rfl⟩
  go_wp2
  go_ret
  exact ⟨rfl, H10.out⟩

end Go.Proofs.Ytmcecchcbfhfcaa
