
/- The walks of the law UnitSides. -/
import Derived.Test.YtddgcdpmnfdpdaaUnitH
namespace Go.Proofs.Ytddgcdpmnfdpdaa
open Go.RowKit
attribute [local go_sem] run_store_float

theorem run_field0 (a b : Nat) (w : World) : (Instr.field 39 (.agg #[.float .f64 a, .float .f64 b]) 0).run Try.prog w = .ok (.float .f64 a) w := by kernel_rfl
theorem run_field1 (a b : Nat) (w : World) : (Instr.field 39 (.agg #[.float .f64 a, .float .f64 b]) 1).run Try.prog w = .ok (.float .f64 b) w := by kernel_rfl

set_option maxRecDepth 100000 in
set_option maxHeartbeats 2000000 in
theorem sides_none (v u : Nat) (r l g : Bool) (w : World) (cR : Hid (∀ w, Calls Try.prog 25 #[.float .f64 v] w fun e w' => e = .returned (.bool r) ∧ w = w'))
    (o1 : (FloatKind.f64.format.order v 0 == some Ordering.lt) = l) (o2 : (FloatKind.f64.format.order v 4607182418800017408 == some Ordering.gt) = g) (h : Hid (r = false ∨ l = true ∨ g = true))
    (cS : Hid (∀ w, Calls Try.prog 47 #[.int .u64 u, .float .f64 v] w fun e w' => e = .returned (.tuple #[.bool false, .int .u64 0, .int .i64 2]) ∧ Below w.heap.size w w')) :
    Calls Try.prog 10 #[.float .f64 v, .int .u64 u] w fun r w' => r = .returned (.bool true) ∧ Below w.heap.size w w' := by
  have f0 := run_field0
  have f1 := run_field1
  go_enter Try.func10, Try.ntmps10
  go_wp2_with fail
  refine (cR.out _).mono ?_
  rintro e ww ⟨rfl, rfl⟩
  have B0 := Lib.hid (Below.refl w.heap.size w)
  cases r
  · skip
    go_wp2_with fail
    refine (cS.out _).mono ?_
    rintro r w1 ⟨rfl, hb⟩
    have B1' := Lib.hid (B0.out.trans (hb.mono B0.out.size)); clear hb B0
    go_wp2_with fail
    refine (awake3_any _).mono ?_
    rintro r we ⟨rfl, hb⟩
    have BE := Lib.hid (B1'.out.trans (hb.mono B1'.out.size)); clear hb B1'
    go_wp2
    go_ret
    exact ⟨rfl, BE.out⟩
  · cases l
    · have hg : g = true := by rcases h.out with h | h | h <;> first | exact h | cases h
      subst hg
      go_wp2_with fail
      refine (cS.out _).mono ?_
      rintro r w1 ⟨rfl, hb⟩
      have B1' := Lib.hid (B0.out.trans (hb.mono B0.out.size)); clear hb B0
      go_wp2_with fail
      refine (awake3_any _).mono ?_
      rintro r we ⟨rfl, hb⟩
      have BE := Lib.hid (B1'.out.trans (hb.mono B1'.out.size)); clear hb B1'
      go_wp2
      go_ret
      exact ⟨rfl, BE.out⟩
    · skip
      go_wp2_with fail
      refine (cS.out _).mono ?_
      rintro r w1 ⟨rfl, hb⟩
      have B1' := Lib.hid (B0.out.trans (hb.mono B0.out.size)); clear hb B0
      go_wp2_with fail
      refine (awake3_any _).mono ?_
      rintro r we ⟨rfl, hb⟩
      have BE := Lib.hid (B1'.out.trans (hb.mono B1'.out.size)); clear hb B1'
      go_wp2
      go_ret
      exact ⟨rfl, BE.out⟩

set_option maxRecDepth 100000 in
set_option maxHeartbeats 2000000 in
theorem sides_t1 (v u lo hi p : Nat) (H : Bool) (w : World)
    (cR : Hid (∀ w, Calls Try.prog 25 #[.float .f64 v] w fun e w' => e = .returned (.bool true) ∧ w = w'))
    (o1 : (FloatKind.f64.format.order v 0 == some Ordering.lt) = false) (o2 : (FloatKind.f64.format.order v 4607182418800017408 == some Ordering.gt) = false)
    (cS : Hid (∀ w, Calls Try.prog 47 #[.int .u64 u, .float .f64 v] w fun e w' => e = .returned (.tuple #[.bool true, .int .u64 p, .int .i64 0]) ∧ Below w.heap.size w w'))
    (cO : Hid (∀ w, Calls Try.prog 49 #[.int .u64 u] w fun r w' => r = .returned (.agg #[.float .f64 lo, .float .f64 hi]) ∧ Below w.heap.size w w'))
    (oH : (FloatKind.f64.format.order hi v == some Ordering.lt) = H)
    (oL : (FloatKind.f64.format.order lo v == some Ordering.lt) = true)
    (oG1 : (FloatKind.f64.format.order lo v == some Ordering.gt) = false) (oG2 : (FloatKind.f64.format.order lo v == some Ordering.eq) = false)
    (oE : (FloatKind.f64.format.order v 4607182418800017408 == some Ordering.eq) = true)
    (hp : ((p : Int) == (u : Int)) = true) :
    Calls Try.prog 10 #[.float .f64 v, .int .u64 u] w fun r w' => r = .returned (.bool true) ∧ Below w.heap.size w w' := by
  have f0 := run_field0
  have f1 := run_field1
  go_enter Try.func10, Try.ntmps10
  go_wp2_with fail
  refine (cR.out _).mono ?_
  rintro e ww ⟨rfl, rfl⟩
  go_wp2_with fail
  refine (cS.out _).mono ?_
  rintro r w1 ⟨rfl, hb⟩
  have B1' := Lib.hid hb; clear hb
  go_wp2_with fail
  refine (cO.out _).mono ?_
  rintro r w2 ⟨rfl, hb⟩
  have B2' := Lib.hid (B1'.out.trans (hb.mono B1'.out.size)); clear hb B1'
  cases H
  · skip
    go_wp2_with fail
    refine (cO.out _).mono ?_
    rintro r w4 ⟨rfl, hb⟩
    have B3' := Lib.hid (B2'.out.trans (hb.mono B2'.out.size)); clear hb B2'
    go_wp2_with fail
    refine (cO.out _).mono ?_
    rintro r w4 ⟨rfl, hb⟩
    have B4' := Lib.hid (B3'.out.trans (hb.mono B3'.out.size)); clear hb B3'
    go_wp2_with fail
    refine (cS.out _).mono ?_
    rintro r w5 ⟨rfl, hb⟩
    have B5' := Lib.hid (B4'.out.trans (hb.mono B4'.out.size)); clear hb B4'
    go_wp2_with fail
    refine (awake3_any _).mono ?_
    rintro r we ⟨rfl, hb⟩
    have BE := Lib.hid (B5'.out.trans (hb.mono B5'.out.size)); clear hb B5'
    go_wp2
    go_ret
    exact ⟨rfl, BE.out⟩
  · skip
    go_wp2_with fail
    refine (cO.out _).mono ?_
    rintro r w4 ⟨rfl, hb⟩
    have B4' := Lib.hid (B2'.out.trans (hb.mono B2'.out.size)); clear hb B2'
    go_wp2_with fail
    refine (cS.out _).mono ?_
    rintro r w5 ⟨rfl, hb⟩
    have B5' := Lib.hid (B4'.out.trans (hb.mono B4'.out.size)); clear hb B4'
    go_wp2_with fail
    refine (awake3_any _).mono ?_
    rintro r we ⟨rfl, hb⟩
    have BE := Lib.hid (B5'.out.trans (hb.mono B5'.out.size)); clear hb B5'
    go_wp2
    go_ret
    exact ⟨rfl, BE.out⟩

set_option maxRecDepth 100000 in
set_option maxHeartbeats 2000000 in
theorem sides_t0 (v u lo hi p L B B1 P : Nat) (H b1 : Bool) (w : World)
    (cR : Hid (∀ w, Calls Try.prog 25 #[.float .f64 v] w fun e w' => e = .returned (.bool true) ∧ w = w'))
    (o1 : (FloatKind.f64.format.order v 0 == some Ordering.lt) = false) (o2 : (FloatKind.f64.format.order v 4607182418800017408 == some Ordering.gt) = false)
    (cS : Hid (∀ w, Calls Try.prog 47 #[.int .u64 u, .float .f64 v] w fun e w' => e = .returned (.tuple #[.bool true, .int .u64 p, .int .i64 0]) ∧ Below w.heap.size w w'))
    (cO : Hid (∀ w, Calls Try.prog 49 #[.int .u64 u] w fun r w' => r = .returned (.agg #[.float .f64 lo, .float .f64 hi]) ∧ Below w.heap.size w w'))
    (oH : (FloatKind.f64.format.order hi v == some Ordering.lt) = H)
    (oL : (FloatKind.f64.format.order lo v == some Ordering.lt) = true)
    (oG1 : (FloatKind.f64.format.order lo v == some Ordering.gt) = false) (oG2 : (FloatKind.f64.format.order lo v == some Ordering.eq) = false)
    (oE : (FloatKind.f64.format.order v 4607182418800017408 == some Ordering.eq) = false)
    (cW : Hid (∀ w, Calls Try.prog 52 #[.float .f64 v, .int .i64 64] w fun r w' => r = .returned (.float .f64 L) ∧ w = w'))
    (oS : (FloatKind.f64.format.order L 4607182418800017408 == some Ordering.lt) = false)
    (kB : ∀ w, (convert 22 58 (.float .f64 L)).run Try.prog w = .ok (.int .u64 B) w) (hB1 : IntKind.u64.wrap ((B : Int) - 1) = (B1 : Int)) (c1 : Hid (∀ w, Calls Try.prog 47 #[.int .u64 B1, .float .f64 v] w fun e w' => e = .returned (.tuple #[.bool true, .int .u64 P, .int .i64 0]) ∧ Below w.heap.size w w')) (c2 : Hid (∀ w, Calls Try.prog 47 #[.int .u64 B, .float .f64 v] w fun e w' => e = .returned (.tuple #[.bool false, .int .u64 0, .int .i64 0]) ∧ Below w.heap.size w w')) (c3 : Hid (∀ w, Calls Try.prog 47 #[.int .u64 0, .float .f64 v] w fun e w' => e = .returned (.tuple #[.bool true, .int .u64 0, .int .i64 0]) ∧ Below w.heap.size w w')) (hB : ((B : Int) == 1) = b1) (hP : Hid (b1 = false → decide (0 < P) = true)) :
    Calls Try.prog 10 #[.float .f64 v, .int .u64 u] w fun r w' => r = .returned (.bool true) ∧ Below w.heap.size w w' := by
  have f0 := run_field0
  have f1 := run_field1
  go_enter Try.func10, Try.ntmps10
  go_wp2_with fail
  refine (cR.out _).mono ?_
  rintro e ww ⟨rfl, rfl⟩
  go_wp2_with fail
  refine (cS.out _).mono ?_
  rintro r w1 ⟨rfl, hb⟩
  have B1' := Lib.hid hb; clear hb
  go_wp2_with fail
  refine (cO.out _).mono ?_
  rintro r w2 ⟨rfl, hb⟩
  have B2' := Lib.hid (B1'.out.trans (hb.mono B1'.out.size)); clear hb B1'
  cases H
  · skip
    go_wp2_with fail
    refine (cO.out _).mono ?_
    rintro r w4 ⟨rfl, hb⟩
    have B3' := Lib.hid (B2'.out.trans (hb.mono B2'.out.size)); clear hb B2'
    go_wp2_with fail
    refine (cO.out _).mono ?_
    rintro r w4 ⟨rfl, hb⟩
    have B4' := Lib.hid (B3'.out.trans (hb.mono B3'.out.size)); clear hb B3'
    go_wp2_with fail
    refine (cW.out _).mono ?_
    rintro r ww ⟨rfl, rfl⟩
    go_wp2_with fail
    refine (cW.out _).mono ?_
    rintro r ww ⟨rfl, rfl⟩
    go_wp2_with fail
    refine (c1.out _).mono ?_
    rintro r w5 ⟨rfl, hb⟩
    have B5' := Lib.hid (B4'.out.trans (hb.mono B4'.out.size)); clear hb B4'
    go_wp2_with fail
    refine (c2.out _).mono ?_
    rintro r w6 ⟨rfl, hb⟩
    have B6' := Lib.hid (B5'.out.trans (hb.mono B5'.out.size)); clear hb B5'
    go_wp2_with fail
    refine (c3.out _).mono ?_
    rintro r w7 ⟨rfl, hb⟩
    have B7' := Lib.hid (B6'.out.trans (hb.mono B6'.out.size)); clear hb B6'
    cases b1
    · have hp' := hP.out (by simp)
      go_wp2_with fail
      refine (awake3_any _).mono ?_
      rintro r we ⟨rfl, hb⟩
      have BE := Lib.hid (B7'.out.trans (hb.mono B7'.out.size)); clear hb B7'
      go_wp2
      go_ret
      exact ⟨rfl, BE.out⟩
    · skip
      go_wp2_with fail
      refine (awake3_any _).mono ?_
      rintro r we ⟨rfl, hb⟩
      have BE := Lib.hid (B7'.out.trans (hb.mono B7'.out.size)); clear hb B7'
      go_wp2
      go_ret
      exact ⟨rfl, BE.out⟩
  · skip
    go_wp2_with fail
    refine (cO.out _).mono ?_
    rintro r w4 ⟨rfl, hb⟩
    have B4' := Lib.hid (B2'.out.trans (hb.mono B2'.out.size)); clear hb B2'
    go_wp2_with fail
    refine (cW.out _).mono ?_
    rintro r ww ⟨rfl, rfl⟩
    go_wp2_with fail
    refine (cW.out _).mono ?_
    rintro r ww ⟨rfl, rfl⟩
    go_wp2_with fail
    refine (c1.out _).mono ?_
    rintro r w5 ⟨rfl, hb⟩
    have B5' := Lib.hid (B4'.out.trans (hb.mono B4'.out.size)); clear hb B4'
    go_wp2_with fail
    refine (c2.out _).mono ?_
    rintro r w6 ⟨rfl, hb⟩
    have B6' := Lib.hid (B5'.out.trans (hb.mono B5'.out.size)); clear hb B5'
    go_wp2_with fail
    refine (c3.out _).mono ?_
    rintro r w7 ⟨rfl, hb⟩
    have B7' := Lib.hid (B6'.out.trans (hb.mono B6'.out.size)); clear hb B6'
    cases b1
    · have hp' := hP.out (by simp)
      go_wp2_with fail
      refine (awake3_any _).mono ?_
      rintro r we ⟨rfl, hb⟩
      have BE := Lib.hid (B7'.out.trans (hb.mono B7'.out.size)); clear hb B7'
      go_wp2
      go_ret
      exact ⟨rfl, BE.out⟩
    · skip
      go_wp2_with fail
      refine (awake3_any _).mono ?_
      rintro r we ⟨rfl, hb⟩
      have BE := Lib.hid (B7'.out.trans (hb.mono B7'.out.size)); clear hb B7'
      go_wp2
      go_ret
      exact ⟨rfl, BE.out⟩

set_option maxRecDepth 100000 in
set_option maxHeartbeats 2000000 in
theorem sides_f_small_true (v u lo hi p L : Nat) (w : World)
    (cR : Hid (∀ w, Calls Try.prog 25 #[.float .f64 v] w fun e w' => e = .returned (.bool true) ∧ w = w'))
    (o1 : (FloatKind.f64.format.order v 0 == some Ordering.lt) = false) (o2 : (FloatKind.f64.format.order v 4607182418800017408 == some Ordering.gt) = false)
    (cS : Hid (∀ w, Calls Try.prog 47 #[.int .u64 u, .float .f64 v] w fun e w' => e = .returned (.tuple #[.bool false, .int .u64 p, .int .i64 0]) ∧ Below w.heap.size w w'))
    (cO : Hid (∀ w, Calls Try.prog 49 #[.int .u64 u] w fun r w' => r = .returned (.agg #[.float .f64 lo, .float .f64 hi]) ∧ Below w.heap.size w w'))
    (oH : (FloatKind.f64.format.order hi v == some Ordering.lt) = false)
    (oL : (FloatKind.f64.format.order lo v == some Ordering.lt) = true)
    (oG1 : (FloatKind.f64.format.order lo v == some Ordering.gt) = false) (oG2 : (FloatKind.f64.format.order lo v == some Ordering.eq) = false)
    (oE : (FloatKind.f64.format.order v 4607182418800017408 == some Ordering.eq) = false)
    (cW : Hid (∀ w, Calls Try.prog 52 #[.float .f64 v, .int .i64 64] w fun r w' => r = .returned (.float .f64 L) ∧ w = w'))
    (oS : (FloatKind.f64.format.order L 4607182418800017408 == some Ordering.lt) = true)
    (hp : ((p : Int) == (u : Int)) = true) :
    Calls Try.prog 10 #[.float .f64 v, .int .u64 u] w fun r w' => r = .returned (.bool true) ∧ Below w.heap.size w w' := by
  have f0 := run_field0
  have f1 := run_field1
  go_enter Try.func10, Try.ntmps10
  go_wp2_with fail
  refine (cR.out _).mono ?_
  rintro e ww ⟨rfl, rfl⟩
  go_wp2_with fail
  refine (cS.out _).mono ?_
  rintro r w1 ⟨rfl, hb⟩
  have B1' := Lib.hid hb; clear hb
  go_wp2_with fail
  refine (cO.out _).mono ?_
  rintro r w2 ⟨rfl, hb⟩
  have B2' := Lib.hid (B1'.out.trans (hb.mono B1'.out.size)); clear hb B1'
  go_wp2_with fail
  refine (cO.out _).mono ?_
  rintro r w4 ⟨rfl, hb⟩
  have B3' := Lib.hid (B2'.out.trans (hb.mono B2'.out.size)); clear hb B2'
  go_wp2_with fail
  refine (cO.out _).mono ?_
  rintro r w4 ⟨rfl, hb⟩
  have B4' := Lib.hid (B3'.out.trans (hb.mono B3'.out.size)); clear hb B3'
  go_wp2_with fail
  refine (cW.out _).mono ?_
  rintro r ww ⟨rfl, rfl⟩
  go_wp2_with fail
  refine (cS.out _).mono ?_
  rintro r w5 ⟨rfl, hb⟩
  have B5' := Lib.hid (B4'.out.trans (hb.mono B4'.out.size)); clear hb B4'
  go_wp2_with fail
  refine (awake3_any _).mono ?_
  rintro r we ⟨rfl, hb⟩
  have BE := Lib.hid (B5'.out.trans (hb.mono B5'.out.size)); clear hb B5'
  go_wp2
  go_ret
  exact ⟨rfl, BE.out⟩

set_option maxRecDepth 100000 in
set_option maxHeartbeats 2000000 in
theorem sides_f_small_false (v u lo hi p L : Nat) (g1 g2 : Bool) (w : World)
    (cR : Hid (∀ w, Calls Try.prog 25 #[.float .f64 v] w fun e w' => e = .returned (.bool true) ∧ w = w'))
    (o1 : (FloatKind.f64.format.order v 0 == some Ordering.lt) = false) (o2 : (FloatKind.f64.format.order v 4607182418800017408 == some Ordering.gt) = false)
    (cS : Hid (∀ w, Calls Try.prog 47 #[.int .u64 u, .float .f64 v] w fun e w' => e = .returned (.tuple #[.bool false, .int .u64 p, .int .i64 0]) ∧ Below w.heap.size w w'))
    (cO : Hid (∀ w, Calls Try.prog 49 #[.int .u64 u] w fun r w' => r = .returned (.agg #[.float .f64 lo, .float .f64 hi]) ∧ Below w.heap.size w w'))
    (oH : (FloatKind.f64.format.order hi v == some Ordering.lt) = false)
    (oL : (FloatKind.f64.format.order lo v == some Ordering.lt) = false)
    (oG1 : (FloatKind.f64.format.order lo v == some Ordering.gt) = g1) (oG2 : (FloatKind.f64.format.order lo v == some Ordering.eq) = g2)
    (oE : (FloatKind.f64.format.order v 4607182418800017408 == some Ordering.eq) = false)
    (cW : Hid (∀ w, Calls Try.prog 52 #[.float .f64 v, .int .i64 64] w fun r w' => r = .returned (.float .f64 L) ∧ w = w'))
    (oS : (FloatKind.f64.format.order L 4607182418800017408 == some Ordering.lt) = true)
    (hp : ((p : Int) == (u : Int)) = true) :
    Calls Try.prog 10 #[.float .f64 v, .int .u64 u] w fun r w' => r = .returned (.bool true) ∧ Below w.heap.size w w' := by
  have f0 := run_field0
  have f1 := run_field1
  go_enter Try.func10, Try.ntmps10
  go_wp2_with fail
  refine (cR.out _).mono ?_
  rintro e ww ⟨rfl, rfl⟩
  go_wp2_with fail
  refine (cS.out _).mono ?_
  rintro r w1 ⟨rfl, hb⟩
  have B1' := Lib.hid hb; clear hb
  go_wp2_with fail
  refine (cO.out _).mono ?_
  rintro r w2 ⟨rfl, hb⟩
  have B2' := Lib.hid (B1'.out.trans (hb.mono B1'.out.size)); clear hb B1'
  go_wp2_with fail
  refine (cO.out _).mono ?_
  rintro r w4 ⟨rfl, hb⟩
  have B3' := Lib.hid (B2'.out.trans (hb.mono B2'.out.size)); clear hb B2'
  go_wp2_with fail
  refine (cO.out _).mono ?_
  rintro r w4 ⟨rfl, hb⟩
  have B4' := Lib.hid (B3'.out.trans (hb.mono B3'.out.size)); clear hb B3'
  cases g1 <;> cases g2
  all_goals
  go_wp2_with fail
  refine (cW.out _).mono ?_
  rintro r ww ⟨rfl, rfl⟩
  go_wp2_with fail
  refine (cS.out _).mono ?_
  rintro r w5 ⟨rfl, hb⟩
  have B5' := Lib.hid (B4'.out.trans (hb.mono B4'.out.size)); clear hb B4'
  go_wp2_with fail
  refine (awake3_any _).mono ?_
  rintro r we ⟨rfl, hb⟩
  have BE := Lib.hid (B5'.out.trans (hb.mono B5'.out.size)); clear hb B5'
  go_wp2
  go_ret
  exact ⟨rfl, BE.out⟩

set_option maxRecDepth 100000 in
set_option maxHeartbeats 2000000 in
theorem sides_f_small_diff (v u lo hi p L K D : Nat) (w : World)
    (cR : Hid (∀ w, Calls Try.prog 25 #[.float .f64 v] w fun e w' => e = .returned (.bool true) ∧ w = w'))
    (o1 : (FloatKind.f64.format.order v 0 == some Ordering.lt) = false) (o2 : (FloatKind.f64.format.order v 4607182418800017408 == some Ordering.gt) = false)
    (cS : Hid (∀ w, Calls Try.prog 47 #[.int .u64 u, .float .f64 v] w fun e w' => e = .returned (.tuple #[.bool false, .int .u64 p, .int .i64 0]) ∧ Below w.heap.size w w'))
    (cO : Hid (∀ w, Calls Try.prog 49 #[.int .u64 u] w fun r w' => r = .returned (.agg #[.float .f64 lo, .float .f64 hi]) ∧ Below w.heap.size w w'))
    (oH : (FloatKind.f64.format.order hi v == some Ordering.lt) = true)
    (oG1 : (FloatKind.f64.format.order lo v == some Ordering.gt) = false) (oG2 : (FloatKind.f64.format.order lo v == some Ordering.eq) = false)
    (oE : (FloatKind.f64.format.order v 4607182418800017408 == some Ordering.eq) = false)
    (cW : Hid (∀ w, Calls Try.prog 52 #[.float .f64 v, .int .i64 64] w fun r w' => r = .returned (.float .f64 L) ∧ w = w'))
    (oS : (FloatKind.f64.format.order L 4607182418800017408 == some Ordering.lt) = true)
    (hp : ((p : Int) == (u : Int)) = true)
    (cK : Hid (∀ w, Calls Try.prog 52 #[.float .f64 lo, .int .i64 64] w fun r w' => r = .returned (.float .f64 K) ∧ w = w'))
    (kD : ∀ w, (binOp .sub 22 (.float .f64 L) (.float .f64 K)).run Try.prog w = .ok (.float .f64 D) w) (oD1 : (FloatKind.f64.format.order D 4611686018427387904 == some Ordering.gt) = false) (oD2 : (FloatKind.f64.format.order D 4611686018427387904 == some Ordering.eq) = false) :
    Calls Try.prog 10 #[.float .f64 v, .int .u64 u] w fun r w' => r = .returned (.bool true) ∧ Below w.heap.size w w' := by
  have f0 := run_field0
  have f1 := run_field1
  go_enter Try.func10, Try.ntmps10
  go_wp2_with fail
  refine (cR.out _).mono ?_
  rintro e ww ⟨rfl, rfl⟩
  go_wp2_with fail
  refine (cS.out _).mono ?_
  rintro r w1 ⟨rfl, hb⟩
  have B1' := Lib.hid hb; clear hb
  go_wp2_with fail
  refine (cO.out _).mono ?_
  rintro r w2 ⟨rfl, hb⟩
  have B2' := Lib.hid (B1'.out.trans (hb.mono B1'.out.size)); clear hb B1'
  go_wp2_with fail
  refine (cW.out _).mono ?_
  rintro r ww ⟨rfl, rfl⟩
  go_wp2_with fail
  refine (cO.out _).mono ?_
  rintro r w4 ⟨rfl, hb⟩
  have B3' := Lib.hid (B2'.out.trans (hb.mono B2'.out.size)); clear hb B2'
  go_wp2_with fail
  refine (cK.out _).mono ?_
  rintro r ww ⟨rfl, rfl⟩
  go_wp2_with fail
  refine (cO.out _).mono ?_
  rintro r w4 ⟨rfl, hb⟩
  have B4' := Lib.hid (B3'.out.trans (hb.mono B3'.out.size)); clear hb B3'
  go_wp2_with fail
  refine (cW.out _).mono ?_
  rintro r ww ⟨rfl, rfl⟩
  go_wp2_with fail
  refine (cS.out _).mono ?_
  rintro r w5 ⟨rfl, hb⟩
  have B5' := Lib.hid (B4'.out.trans (hb.mono B4'.out.size)); clear hb B4'
  go_wp2_with fail
  refine (awake3_any _).mono ?_
  rintro r we ⟨rfl, hb⟩
  have BE := Lib.hid (B5'.out.trans (hb.mono B5'.out.size)); clear hb B5'
  go_wp2
  go_ret
  exact ⟨rfl, BE.out⟩

set_option maxRecDepth 100000 in
set_option maxHeartbeats 2000000 in
theorem sides_f_more_true (v u lo hi p L B B1 P : Nat) (b1 : Bool) (w : World)
    (cR : Hid (∀ w, Calls Try.prog 25 #[.float .f64 v] w fun e w' => e = .returned (.bool true) ∧ w = w'))
    (o1 : (FloatKind.f64.format.order v 0 == some Ordering.lt) = false) (o2 : (FloatKind.f64.format.order v 4607182418800017408 == some Ordering.gt) = false)
    (cS : Hid (∀ w, Calls Try.prog 47 #[.int .u64 u, .float .f64 v] w fun e w' => e = .returned (.tuple #[.bool false, .int .u64 p, .int .i64 0]) ∧ Below w.heap.size w w'))
    (cO : Hid (∀ w, Calls Try.prog 49 #[.int .u64 u] w fun r w' => r = .returned (.agg #[.float .f64 lo, .float .f64 hi]) ∧ Below w.heap.size w w'))
    (oH : (FloatKind.f64.format.order hi v == some Ordering.lt) = false)
    (oL : (FloatKind.f64.format.order lo v == some Ordering.lt) = true)
    (oG1 : (FloatKind.f64.format.order lo v == some Ordering.gt) = false) (oG2 : (FloatKind.f64.format.order lo v == some Ordering.eq) = false)
    (oE : (FloatKind.f64.format.order v 4607182418800017408 == some Ordering.eq) = false)
    (cW : Hid (∀ w, Calls Try.prog 52 #[.float .f64 v, .int .i64 64] w fun r w' => r = .returned (.float .f64 L) ∧ w = w'))
    (oS : (FloatKind.f64.format.order L 4607182418800017408 == some Ordering.lt) = false)
    (kB : ∀ w, (convert 22 58 (.float .f64 L)).run Try.prog w = .ok (.int .u64 B) w) (hB1 : IntKind.u64.wrap ((B : Int) - 1) = (B1 : Int)) (c1 : Hid (∀ w, Calls Try.prog 47 #[.int .u64 B1, .float .f64 v] w fun e w' => e = .returned (.tuple #[.bool true, .int .u64 P, .int .i64 0]) ∧ Below w.heap.size w w')) (c2 : Hid (∀ w, Calls Try.prog 47 #[.int .u64 B, .float .f64 v] w fun e w' => e = .returned (.tuple #[.bool false, .int .u64 0, .int .i64 0]) ∧ Below w.heap.size w w')) (c3 : Hid (∀ w, Calls Try.prog 47 #[.int .u64 0, .float .f64 v] w fun e w' => e = .returned (.tuple #[.bool true, .int .u64 0, .int .i64 0]) ∧ Below w.heap.size w w')) (hB : ((B : Int) == 1) = b1) (hP : Hid (b1 = false → decide (0 < P) = true)) :
    Calls Try.prog 10 #[.float .f64 v, .int .u64 u] w fun r w' => r = .returned (.bool true) ∧ Below w.heap.size w w' := by
  have f0 := run_field0
  have f1 := run_field1
  go_enter Try.func10, Try.ntmps10
  go_wp2_with fail
  refine (cR.out _).mono ?_
  rintro e ww ⟨rfl, rfl⟩
  go_wp2_with fail
  refine (cS.out _).mono ?_
  rintro r w1 ⟨rfl, hb⟩
  have B1' := Lib.hid hb; clear hb
  go_wp2_with fail
  refine (cO.out _).mono ?_
  rintro r w2 ⟨rfl, hb⟩
  have B2' := Lib.hid (B1'.out.trans (hb.mono B1'.out.size)); clear hb B1'
  go_wp2_with fail
  refine (cO.out _).mono ?_
  rintro r w4 ⟨rfl, hb⟩
  have B3' := Lib.hid (B2'.out.trans (hb.mono B2'.out.size)); clear hb B2'
  go_wp2_with fail
  refine (cO.out _).mono ?_
  rintro r w4 ⟨rfl, hb⟩
  have B4' := Lib.hid (B3'.out.trans (hb.mono B3'.out.size)); clear hb B3'
  go_wp2_with fail
  refine (cW.out _).mono ?_
  rintro r ww ⟨rfl, rfl⟩
  go_wp2_with fail
  refine (cW.out _).mono ?_
  rintro r ww ⟨rfl, rfl⟩
  go_wp2_with fail
  refine (c1.out _).mono ?_
  rintro r w5 ⟨rfl, hb⟩
  have B5' := Lib.hid (B4'.out.trans (hb.mono B4'.out.size)); clear hb B4'
  go_wp2_with fail
  refine (c2.out _).mono ?_
  rintro r w6 ⟨rfl, hb⟩
  have B6' := Lib.hid (B5'.out.trans (hb.mono B5'.out.size)); clear hb B5'
  go_wp2_with fail
  refine (c3.out _).mono ?_
  rintro r w7 ⟨rfl, hb⟩
  have B7' := Lib.hid (B6'.out.trans (hb.mono B6'.out.size)); clear hb B6'
  cases b1
  · have hp' := hP.out (by simp)
    go_wp2_with fail
    refine (awake3_any _).mono ?_
    rintro r we ⟨rfl, hb⟩
    have BE := Lib.hid (B7'.out.trans (hb.mono B7'.out.size)); clear hb B7'
    go_wp2
    go_ret
    exact ⟨rfl, BE.out⟩
  · skip
    go_wp2_with fail
    refine (awake3_any _).mono ?_
    rintro r we ⟨rfl, hb⟩
    have BE := Lib.hid (B7'.out.trans (hb.mono B7'.out.size)); clear hb B7'
    go_wp2
    go_ret
    exact ⟨rfl, BE.out⟩

set_option maxRecDepth 100000 in
set_option maxHeartbeats 2000000 in
theorem sides_f_more_false (v u lo hi p L B B1 P : Nat) (b1 g1 g2 : Bool) (w : World)
    (cR : Hid (∀ w, Calls Try.prog 25 #[.float .f64 v] w fun e w' => e = .returned (.bool true) ∧ w = w'))
    (o1 : (FloatKind.f64.format.order v 0 == some Ordering.lt) = false) (o2 : (FloatKind.f64.format.order v 4607182418800017408 == some Ordering.gt) = false)
    (cS : Hid (∀ w, Calls Try.prog 47 #[.int .u64 u, .float .f64 v] w fun e w' => e = .returned (.tuple #[.bool false, .int .u64 p, .int .i64 0]) ∧ Below w.heap.size w w'))
    (cO : Hid (∀ w, Calls Try.prog 49 #[.int .u64 u] w fun r w' => r = .returned (.agg #[.float .f64 lo, .float .f64 hi]) ∧ Below w.heap.size w w'))
    (oH : (FloatKind.f64.format.order hi v == some Ordering.lt) = false)
    (oL : (FloatKind.f64.format.order lo v == some Ordering.lt) = false)
    (oG1 : (FloatKind.f64.format.order lo v == some Ordering.gt) = g1) (oG2 : (FloatKind.f64.format.order lo v == some Ordering.eq) = g2)
    (oE : (FloatKind.f64.format.order v 4607182418800017408 == some Ordering.eq) = false)
    (cW : Hid (∀ w, Calls Try.prog 52 #[.float .f64 v, .int .i64 64] w fun r w' => r = .returned (.float .f64 L) ∧ w = w'))
    (oS : (FloatKind.f64.format.order L 4607182418800017408 == some Ordering.lt) = false)
    (kB : ∀ w, (convert 22 58 (.float .f64 L)).run Try.prog w = .ok (.int .u64 B) w) (hB1 : IntKind.u64.wrap ((B : Int) - 1) = (B1 : Int)) (c1 : Hid (∀ w, Calls Try.prog 47 #[.int .u64 B1, .float .f64 v] w fun e w' => e = .returned (.tuple #[.bool true, .int .u64 P, .int .i64 0]) ∧ Below w.heap.size w w')) (c2 : Hid (∀ w, Calls Try.prog 47 #[.int .u64 B, .float .f64 v] w fun e w' => e = .returned (.tuple #[.bool false, .int .u64 0, .int .i64 0]) ∧ Below w.heap.size w w')) (c3 : Hid (∀ w, Calls Try.prog 47 #[.int .u64 0, .float .f64 v] w fun e w' => e = .returned (.tuple #[.bool true, .int .u64 0, .int .i64 0]) ∧ Below w.heap.size w w')) (hB : ((B : Int) == 1) = b1) (hP : Hid (b1 = false → decide (0 < P) = true)) :
    Calls Try.prog 10 #[.float .f64 v, .int .u64 u] w fun r w' => r = .returned (.bool true) ∧ Below w.heap.size w w' := by
  have f0 := run_field0
  have f1 := run_field1
  go_enter Try.func10, Try.ntmps10
  go_wp2_with fail
  refine (cR.out _).mono ?_
  rintro e ww ⟨rfl, rfl⟩
  go_wp2_with fail
  refine (cS.out _).mono ?_
  rintro r w1 ⟨rfl, hb⟩
  have B1' := Lib.hid hb; clear hb
  go_wp2_with fail
  refine (cO.out _).mono ?_
  rintro r w2 ⟨rfl, hb⟩
  have B2' := Lib.hid (B1'.out.trans (hb.mono B1'.out.size)); clear hb B1'
  go_wp2_with fail
  refine (cO.out _).mono ?_
  rintro r w4 ⟨rfl, hb⟩
  have B3' := Lib.hid (B2'.out.trans (hb.mono B2'.out.size)); clear hb B2'
  go_wp2_with fail
  refine (cO.out _).mono ?_
  rintro r w4 ⟨rfl, hb⟩
  have B4' := Lib.hid (B3'.out.trans (hb.mono B3'.out.size)); clear hb B3'
  cases g1 <;> cases g2
  all_goals
  go_wp2_with fail
  refine (cW.out _).mono ?_
  rintro r ww ⟨rfl, rfl⟩
  go_wp2_with fail
  refine (cW.out _).mono ?_
  rintro r ww ⟨rfl, rfl⟩
  go_wp2_with fail
  refine (c1.out _).mono ?_
  rintro r w5 ⟨rfl, hb⟩
  have B5' := Lib.hid (B4'.out.trans (hb.mono B4'.out.size)); clear hb B4'
  go_wp2_with fail
  refine (c2.out _).mono ?_
  rintro r w6 ⟨rfl, hb⟩
  have B6' := Lib.hid (B5'.out.trans (hb.mono B5'.out.size)); clear hb B5'
  go_wp2_with fail
  refine (c3.out _).mono ?_
  rintro r w7 ⟨rfl, hb⟩
  have B7' := Lib.hid (B6'.out.trans (hb.mono B6'.out.size)); clear hb B6'
  cases b1
  · have hp' := hP.out (by simp)
    go_wp2_with fail
    refine (awake3_any _).mono ?_
    rintro r we ⟨rfl, hb⟩
    have BE := Lib.hid (B7'.out.trans (hb.mono B7'.out.size)); clear hb B7'
    go_wp2
    go_ret
    exact ⟨rfl, BE.out⟩
  · skip
    go_wp2_with fail
    refine (awake3_any _).mono ?_
    rintro r we ⟨rfl, hb⟩
    have BE := Lib.hid (B7'.out.trans (hb.mono B7'.out.size)); clear hb B7'
    go_wp2
    go_ret
    exact ⟨rfl, BE.out⟩

set_option maxRecDepth 100000 in
set_option maxHeartbeats 2000000 in
theorem sides_f_more_diff (v u lo hi p L B B1 P K D : Nat) (b1 : Bool) (w : World)
    (cR : Hid (∀ w, Calls Try.prog 25 #[.float .f64 v] w fun e w' => e = .returned (.bool true) ∧ w = w'))
    (o1 : (FloatKind.f64.format.order v 0 == some Ordering.lt) = false) (o2 : (FloatKind.f64.format.order v 4607182418800017408 == some Ordering.gt) = false)
    (cS : Hid (∀ w, Calls Try.prog 47 #[.int .u64 u, .float .f64 v] w fun e w' => e = .returned (.tuple #[.bool false, .int .u64 p, .int .i64 0]) ∧ Below w.heap.size w w'))
    (cO : Hid (∀ w, Calls Try.prog 49 #[.int .u64 u] w fun r w' => r = .returned (.agg #[.float .f64 lo, .float .f64 hi]) ∧ Below w.heap.size w w'))
    (oH : (FloatKind.f64.format.order hi v == some Ordering.lt) = true)
    (oG1 : (FloatKind.f64.format.order lo v == some Ordering.gt) = false) (oG2 : (FloatKind.f64.format.order lo v == some Ordering.eq) = false)
    (oE : (FloatKind.f64.format.order v 4607182418800017408 == some Ordering.eq) = false)
    (cW : Hid (∀ w, Calls Try.prog 52 #[.float .f64 v, .int .i64 64] w fun r w' => r = .returned (.float .f64 L) ∧ w = w'))
    (oS : (FloatKind.f64.format.order L 4607182418800017408 == some Ordering.lt) = false)
    (kB : ∀ w, (convert 22 58 (.float .f64 L)).run Try.prog w = .ok (.int .u64 B) w) (hB1 : IntKind.u64.wrap ((B : Int) - 1) = (B1 : Int)) (c1 : Hid (∀ w, Calls Try.prog 47 #[.int .u64 B1, .float .f64 v] w fun e w' => e = .returned (.tuple #[.bool true, .int .u64 P, .int .i64 0]) ∧ Below w.heap.size w w')) (c2 : Hid (∀ w, Calls Try.prog 47 #[.int .u64 B, .float .f64 v] w fun e w' => e = .returned (.tuple #[.bool false, .int .u64 0, .int .i64 0]) ∧ Below w.heap.size w w')) (c3 : Hid (∀ w, Calls Try.prog 47 #[.int .u64 0, .float .f64 v] w fun e w' => e = .returned (.tuple #[.bool true, .int .u64 0, .int .i64 0]) ∧ Below w.heap.size w w')) (hB : ((B : Int) == 1) = b1) (hP : Hid (b1 = false → decide (0 < P) = true))
    (cK : Hid (∀ w, Calls Try.prog 52 #[.float .f64 lo, .int .i64 64] w fun r w' => r = .returned (.float .f64 K) ∧ w = w'))
    (kD : ∀ w, (binOp .sub 22 (.float .f64 L) (.float .f64 K)).run Try.prog w = .ok (.float .f64 D) w) (oD1 : (FloatKind.f64.format.order D 4611686018427387904 == some Ordering.gt) = false) (oD2 : (FloatKind.f64.format.order D 4611686018427387904 == some Ordering.eq) = false) :
    Calls Try.prog 10 #[.float .f64 v, .int .u64 u] w fun r w' => r = .returned (.bool true) ∧ Below w.heap.size w w' := by
  have f0 := run_field0
  have f1 := run_field1
  go_enter Try.func10, Try.ntmps10
  go_wp2_with fail
  refine (cR.out _).mono ?_
  rintro e ww ⟨rfl, rfl⟩
  go_wp2_with fail
  refine (cS.out _).mono ?_
  rintro r w1 ⟨rfl, hb⟩
  have B1' := Lib.hid hb; clear hb
  go_wp2_with fail
  refine (cO.out _).mono ?_
  rintro r w2 ⟨rfl, hb⟩
  have B2' := Lib.hid (B1'.out.trans (hb.mono B1'.out.size)); clear hb B1'
  go_wp2_with fail
  refine (cW.out _).mono ?_
  rintro r ww ⟨rfl, rfl⟩
  go_wp2_with fail
  refine (cO.out _).mono ?_
  rintro r w4 ⟨rfl, hb⟩
  have B3' := Lib.hid (B2'.out.trans (hb.mono B2'.out.size)); clear hb B2'
  go_wp2_with fail
  refine (cK.out _).mono ?_
  rintro r ww ⟨rfl, rfl⟩
  go_wp2_with fail
  refine (cO.out _).mono ?_
  rintro r w4 ⟨rfl, hb⟩
  have B4' := Lib.hid (B3'.out.trans (hb.mono B3'.out.size)); clear hb B3'
  go_wp2_with fail
  refine (cW.out _).mono ?_
  rintro r ww ⟨rfl, rfl⟩
  go_wp2_with fail
  refine (cW.out _).mono ?_
  rintro r ww ⟨rfl, rfl⟩
  go_wp2_with fail
  refine (c1.out _).mono ?_
  rintro r w5 ⟨rfl, hb⟩
  have B5' := Lib.hid (B4'.out.trans (hb.mono B4'.out.size)); clear hb B4'
  go_wp2_with fail
  refine (c2.out _).mono ?_
  rintro r w6 ⟨rfl, hb⟩
  have B6' := Lib.hid (B5'.out.trans (hb.mono B5'.out.size)); clear hb B5'
  go_wp2_with fail
  refine (c3.out _).mono ?_
  rintro r w7 ⟨rfl, hb⟩
  have B7' := Lib.hid (B6'.out.trans (hb.mono B6'.out.size)); clear hb B6'
  cases b1
  · have hp' := hP.out (by simp)
    go_wp2_with fail
    refine (awake3_any _).mono ?_
    rintro r we ⟨rfl, hb⟩
    have BE := Lib.hid (B7'.out.trans (hb.mono B7'.out.size)); clear hb B7'
    go_wp2
    go_ret
    exact ⟨rfl, BE.out⟩
  · skip
    go_wp2_with fail
    refine (awake3_any _).mono ?_
    rintro r we ⟨rfl, hb⟩
    have BE := Lib.hid (B7'.out.trans (hb.mono B7'.out.size)); clear hb B7'
    go_wp2
    go_ret
    exact ⟨rfl, BE.out⟩

end Go.Proofs.Ytddgcdpmnfdpdaa
