
/- The examples of layer 3: awake answers true. -/
import Derived.Test.YtddgcdpmnfdpdaaUnitC
import Derived.Test.YtddgcdpmnfdpdaaSame
import Derived.Test.YtddgcdpmnfdpdaaMem
import Derived.Deep.RegionHeld3
namespace Go.Proofs.Ytddgcdpmnfdpdaa
open Go.RowKit
attribute [local go_sem] run_store_float

theorem of_at (u lo hi : Nat) (U : Int) (w : World) (hu : u < 18446744073709551616) (hU : (u : Int) = U) (h1 : ofLo u = lo) (h2 : ofHi u = hi) :
    Calls Try.prog 49 #[.int .u64 U] w fun r w' => r = .returned (.agg #[.float .f64 lo, .float .f64 hi]) ∧ Below w.heap.size w w' := by
  rw [← hU, ← h1, ← h2]; exact of_any u w hu

theorem half_at (u l : Nat) (b : Bool) (U L : Int) (w : World) (hu : u < 18446744073709551616) (hU : (u : Int) = U) (hL : (l : Int) = L) (h1 : decide (u < 9223372036854775808) = b) (h2 : leftN u 9223372036854775808 = l) :
    Calls Try.prog 45 #[.int .u64 U] w fun r w' => r = .returned (.tuple #[.bool b, .int .u64 L]) ∧ Below w.heap.size w w' := by
  rw [← hU, ← hL, ← h1, ← h2]; exact half_any u w hu

theorem split_at (u v l : Nat) (b : Bool) (U L : Int) (w : World) (hu : u < 18446744073709551616) (hv : v < 18446744073709551616) (hw : wtB v = true) (hU : (u : Int) = U) (hL : (l : Int) = L) (h1 : decide (u < bnd v) = b) (h2 : leftN u (bnd v) = l) :
    Calls Try.prog 47 #[.int .u64 U, .float .f64 v] w fun r w' => r = .returned (.tuple #[.bool b, .int .u64 L, .int .i64 0]) ∧ Below w.heap.size w w' := by
  rw [← hU, ← hL, ← h1, ← h2]; exact usplit_any u v w hu hv hw

theorem same_at (a b c d : Nat) (w : World) (h : sameB a b c d = true) :
    Calls Try.prog 40 #[.agg #[.float .f64 a, .float .f64 b], .agg #[.float .f64 c, .float .f64 d]] w fun r w' => r = .returned (.bool true) ∧ Below w.heap.size w w' := by
  rw [← h]; exact ivSame_any a b c d w

theorem half_lit (w : World) (v : Nat) (h : v = 4602678819172646912) (u l : Nat) (b : Bool) (U L : Int) (hu : u < 18446744073709551616) (hU : (u : Int) = U) (hL : (l : Int) = L) (h1 : decide (u < bnd 4602678819172646912) = b) (h2 : leftN u (bnd 4602678819172646912) = l) :
    Calls Try.prog 47 #[.int .u64 U, .float .f64 v] w fun r w' => r = .returned (.tuple #[.bool b, .int .u64 L, .int .i64 0]) ∧ Below w.heap.size w w' := by
  subst h; exact split_at u _ l b U L w hu (by decide) (by decide +kernel) hU hL h1 h2

theorem pow_m64 (w : World) : Calls Try.prog 52 #[.float .f64 4607182418800017408, .int .i64 (-64)] w fun r w' => r = .returned (.float .f64 4318952042648305664) ∧ w = w' :=
  ldexp_at 4607182418800017408 0 4318952042648305664 4318952042648305664 4318952042648305664 (-64) 1023 (-64) w (by decide +kernel) (by decide +kernel) (by decide +kernel) (by decide +kernel) (by decide +kernel) (by decide) (by decide) (by decide) (by decide +kernel) (by decide) (by decide) (by decide) (by decide) (by decide) (by decide +kernel) (by decide +kernel) (by decide +kernel) (by decide +kernel)

theorem pow_m53 (w : World) : Calls Try.prog 52 #[.float .f64 4607182418800017408, .int .i64 (-53)] w fun r w' => r = .returned (.float .f64 4368491638549381120) ∧ w = w' :=
  ldexp_at 4607182418800017408 0 4368491638549381120 4368491638549381120 4368491638549381120 (-53) 1023 (-53) w (by decide +kernel) (by decide +kernel) (by decide +kernel) (by decide +kernel) (by decide +kernel) (by decide) (by decide) (by decide) (by decide +kernel) (by decide) (by decide) (by decide) (by decide) (by decide) (by decide +kernel) (by decide +kernel) (by decide +kernel) (by decide +kernel)

set_option maxRecDepth 100000 in
set_option maxHeartbeats 2000000 in
theorem awake3_any (w : World) : Calls Try.prog 51 #[] w fun r w' => r = .returned (.bool true) ∧ Below w.heap.size w w' := by
  have ha := fun w => run_float_arith (P := Try.prog) w .sub 22 .f64 4607182418800017408 4368491638549381120 4607182418800017407 (by decide +kernel)
  go_enter Try.func51, Try.ntmps51
  go_wp2_with fail
  refine (pow_m64 _).mono ?_
  rintro r ww ⟨rfl, rfl⟩
  go_wp2_with fail
  refine (half_at 9223372036854775813 10 false _ 10 _ (by decide) rfl rfl (by decide +kernel) (by decide +kernel)).mono ?_
  rintro r w1 ⟨rfl, hb⟩
  have M := Lib.hid (((Mem.nil w).made _ _).below hb)
  clear hb
  go_wp2_with fail
  refine (half_at 7 14 true _ 14 _ (by decide) rfl rfl (by decide +kernel) (by decide +kernel)).mono ?_
  rintro r w2 ⟨rfl, hb⟩
  replace M := Lib.hid (M.out.below hb)
  clear hb
  go_wp2_with fail
  refine (split_at 4611686018427387904 _ 9223372036854775808 true _ 9223372036854775808 _ (by decide) (by decide) (by decide +kernel) rfl rfl (by decide +kernel) (by decide +kernel)).mono ?_
  rintro r w3 ⟨rfl, hb⟩
  replace M := Lib.hid (M.out.below hb)
  clear hb
  go_wp2_with fail
  refine (split_at 9223372036854775808 _ 0 false _ 0 _ (by decide) (by decide) (by decide +kernel) rfl rfl (by decide +kernel) (by decide +kernel)).mono ?_
  rintro r w4 ⟨rfl, hb⟩
  replace M := Lib.hid (M.out.below hb)
  clear hb
  go_wp2_with fail
  refine (split_at 77 _ 77 true _ 77 _ (by decide) (by decide) (by decide +kernel) rfl rfl (by decide +kernel) (by decide +kernel)).mono ?_
  rintro r w5 ⟨rfl, hb⟩
  replace M := Lib.hid (M.out.below hb)
  clear hb
  go_wp2_with fail
  refine (split_at 77 _ 77 false _ 77 _ (by decide) (by decide) (by decide +kernel) rfl rfl (by decide +kernel) (by decide +kernel)).mono ?_
  rintro r w6 ⟨rfl, hb⟩
  replace M := Lib.hid (M.out.below hb)
  clear hb
  go_wp2_with fail
  refine (split_at 9223372036854775808 _ 12297829382473034410 true _ 12297829382473034410 _ (by decide) (by decide) (by decide +kernel) rfl rfl (by decide +kernel) (by decide +kernel)).mono ?_
  rintro r w7 ⟨rfl, hb⟩
  replace M := Lib.hid (M.out.below hb)
  clear hb
  go_upto_region 10 with fail
  have k1 := (M.out.nth 0 rfl).2.1 0
  have k2 := (M.out.nth 0 rfl).2.1 1
  replace M := Lib.hid M.out.drew
  simp only [List.append_eq, List.cons_append, List.nil_append]
  go_region_held3 (fun w' => w'.cell? ⟨w.heap.size, 0, none⟩ = some (.float .f64 4602678819172646912) ∧ w'.cell? ⟨w.heap.size, 1, none⟩ = some (.float .f64 4602678819172646912)) (go_keep)
    (first
      | (go_at_call 49; (with_reducible refine (of_at 9223372036854775808 4602678819172646912 4602678819172646912 9223372036854775808 _ (by decide) rfl (by decide +kernel) (by decide +kernel)).mono ?_); rintro rr w8 ⟨rfl, hb⟩; (with_reducible have M' := Lib.hid (M.out.below hb)); clear M hb; have M := M'; clear M'; clear k1 k2; have k1 := (M.out.nth 0 rfl).2.1 0; have k2 := (M.out.nth 0 rfl).2.1 1)
      | (go_at_call 49; (with_reducible refine (of_at 1 4318952042648305664 4318952042648305664 1 _ (by decide) rfl (by decide +kernel) (by decide +kernel)).mono ?_); rintro rr w8 ⟨rfl, hb⟩; (with_reducible have M' := Lib.hid (M.out.below hb)); clear M hb; have M := M'; clear M'; clear k1 k2; have k1 := (M.out.nth 0 rfl).2.1 0; have k2 := (M.out.nth 0 rfl).2.1 1)
      | (go_at_call 49; (with_reducible refine (of_at 18446744073709551615 4607182418800017407 4607182418800017408 18446744073709551615 _ (by decide) rfl (by decide +kernel) (by decide +kernel)).mono ?_); rintro rr w8 ⟨rfl, hb⟩; (with_reducible have M' := Lib.hid (M.out.below hb)); clear M hb; have M := M'; clear M'; clear k1 k2; have k1 := (M.out.nth 0 rfl).2.1 0; have k2 := (M.out.nth 0 rfl).2.1 1)
      | (go_at_call 40; refine (same_at _ _ _ _ _ (by decide)).mono ?_; rintro rr w8 ⟨rfl, hb⟩; (with_reducible have M' := Lib.hid (M.out.below hb)); clear M hb; have M := M'; clear M'; clear k1 k2; have k1 := (M.out.nth 0 rfl).2.1 0; have k2 := (M.out.nth 0 rfl).2.1 1)
      | (go_at_call 52; refine (pow_m53 _).mono ?_; rintro rr w8 ⟨rfl, rfl⟩))
  all_goals go_wp2
  all_goals go_ret
  all_goals exact ⟨rfl, M.out.base⟩

end Go.Proofs.Ytddgcdpmnfdpdaa
