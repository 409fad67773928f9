
/- The law UnitTells answers true, for any draw and any float64. -/
import Derived.Test.YtddgcdpmnfdpdaaUnitN
import Derived.Test.YtddgcdpmnfdpdaaUnitJ
namespace Go.Proofs.Ytddgcdpmnfdpdaa
open Go.RowKit
attribute [local go_sem] run_store_float

theorem refHalf_walk (u x d y : Nat) (b : Bool) (w : World) (h : decide ((u : Int) < 9223372036854775808) = b) (h1 : Hid (b = true → IntKind.u64.wrap ((u : Int) * 2) = (x : Int))) (h2 : Hid (b = false → IntKind.u64.wrap ((u : Int) - 9223372036854775808) = (d : Int) ∧ IntKind.u64.wrap ((d : Int) * 2) = (y : Int))) :
    Calls Try.prog 46 #[.int .u64 u] w fun r w' => r = .returned (.tuple #[.bool b, .int .u64 (if b then (x : Int) else (y : Int))]) ∧ w = w' := by
  cases b
  · obtain ⟨e1, e2⟩ := h2.out rfl
    go_enter Try.func46, Try.ntmps46
    go_wp2
    go_ret2
    exact ⟨rfl, rfl⟩
  · have e1 := h1.out rfl
    go_enter Try.func46, Try.ntmps46
    go_wp2
    go_ret2
    exact ⟨rfl, rfl⟩

theorem refHalf_any (u : Nat) (w : World) (hu : u < 18446744073709551616) :
    Calls Try.prog 46 #[.int .u64 u] w fun r w' => r = .returned (.tuple #[.bool (decide (u < 9223372036854775808)), .int .u64 (leftN u 9223372036854775808 : Nat)]) ∧ w = w' := by
  by_cases h : u < 9223372036854775808
  · have hl : leftN u 9223372036854775808 = u * 2 := by unfold leftN; rw [if_pos h]; omega
    have c := refHalf_walk u (u * 2) 0 0 true w (decide_eq_true (by omega)) (Lib.hid fun _ => by rw [IntKind.wrap_u64]; omega) (Lib.hid fun h => by cases h)
    rw [if_pos rfl, ← hl] at c
    rw [decide_eq_true h]
    exact c
  · have hl : leftN u 9223372036854775808 = (u - 9223372036854775808) * 2 := by unfold leftN; rw [if_neg h]; omega
    have c := refHalf_walk u 0 (u - 9223372036854775808) ((u - 9223372036854775808) * 2) false w (decide_eq_false (by omega)) (Lib.hid fun h => by cases h) (Lib.hid fun _ => ⟨by rw [IntKind.wrap_u64]; omega, by rw [IntKind.wrap_u64]; omega⟩)
    rw [if_neg Bool.false_ne_true, ← hl] at c
    rw [decide_eq_false h]
    exact c

theorem refSplit_wrong (u v : Nat) (r l g : Bool) (w : World) (cR : Hid (∀ w, Calls Try.prog 26 #[.float .f64 v] w fun e w' => e = .returned (.bool r) ∧ w = w'))
    (o1 : (FloatKind.f64.format.order v 0 == some Ordering.lt) = l) (o2 : (FloatKind.f64.format.order v 4607182418800017408 == some Ordering.gt) = g) (h : Hid (r = false ∨ l = true ∨ g = true)) :
    Calls Try.prog 48 #[.int .u64 u, .float .f64 v] w fun r w' => r = .returned (.tuple #[.bool false, .int .u64 0, .int .i64 2]) ∧ w = w' := by
  go_enter Try.func48, Try.ntmps48
  go_wp2_with fail
  refine (cR.out _).mono ?_
  rintro e ww ⟨rfl, rfl⟩
  cases r
  · go_wp2
    go_ret3
    exact ⟨rfl, rfl⟩
  · cases l
    · have hg : g = true := by rcases h.out with h | h | h <;> first | exact h | cases h
      subst hg
      go_wp2
      go_ret3
      exact ⟨rfl, rfl⟩
    · go_wp2
      go_ret3
      exact ⟨rfl, rfl⟩

/-- What the document's Split does with a bound. -/
theorem refSplit_one (u v : Nat) (w : World) (cR : Hid (∀ w, Calls Try.prog 26 #[.float .f64 v] w fun e w' => e = .returned (.bool true) ∧ w = w'))
    (o1 : (FloatKind.f64.format.order v 0 == some Ordering.lt) = false) (o2 : (FloatKind.f64.format.order v 4607182418800017408 == some Ordering.gt) = false) (o3 : (FloatKind.f64.format.order v 4607182418800017408 == some Ordering.eq) = true) :
    Calls Try.prog 48 #[.int .u64 u, .float .f64 v] w fun r w' => r = .returned (.tuple #[.bool true, .int .u64 u, .int .i64 0]) ∧ w = w' := by
  go_enter Try.func48, Try.ntmps48
  go_wp2_with fail
  refine (cR.out _).mono ?_
  rintro e ww ⟨rfl, rfl⟩
  go_wp2
  go_ret3
  exact ⟨rfl, rfl⟩

theorem refSplit_low (u v b L x : Nat) (w : World) (cR : Hid (∀ w, Calls Try.prog 26 #[.float .f64 v] w fun e w' => e = .returned (.bool true) ∧ w = w'))
    (o1 : (FloatKind.f64.format.order v 0 == some Ordering.lt) = false) (o2 : (FloatKind.f64.format.order v 4607182418800017408 == some Ordering.gt) = false) (o3 : (FloatKind.f64.format.order v 4607182418800017408 == some Ordering.eq) = false)
    (cL : Hid (∀ w, Calls Try.prog 52 #[.float .f64 v, .int .i64 64] w fun r w' => r = .returned (.float .f64 L) ∧ w = w')) (kB : ∀ w, (convert 22 58 (.float .f64 L)).run Try.prog w = .ok (.int .u64 b) w)
    (h : decide (u < b) = true) (cP : Hid (∀ w, Calls Try.prog 97 #[.int .u64 u, .int .u64 b] w fun e w' => e = .returned (.int .u64 x) ∧ w = w')) :
    Calls Try.prog 48 #[.int .u64 u, .float .f64 v] w fun r w' => r = .returned (.tuple #[.bool true, .int .u64 x, .int .i64 0]) ∧ w = w' := by
  go_enter Try.func48, Try.ntmps48
  go_wp2_with fail
  refine (cR.out _).mono ?_
  rintro e ww ⟨rfl, rfl⟩
  go_wp2_with fail
  refine (cL.out _).mono ?_
  rintro e ww ⟨rfl, rfl⟩
  go_wp2_with fail
  refine (cP.out _).mono ?_
  rintro e ww ⟨rfl, rfl⟩
  go_wp2
  go_ret3
  exact ⟨rfl, rfl⟩

theorem refSplit_zero (u v b L : Nat) (w : World) (cR : Hid (∀ w, Calls Try.prog 26 #[.float .f64 v] w fun e w' => e = .returned (.bool true) ∧ w = w'))
    (o1 : (FloatKind.f64.format.order v 0 == some Ordering.lt) = false) (o2 : (FloatKind.f64.format.order v 4607182418800017408 == some Ordering.gt) = false) (o3 : (FloatKind.f64.format.order v 4607182418800017408 == some Ordering.eq) = false)
    (cL : Hid (∀ w, Calls Try.prog 52 #[.float .f64 v, .int .i64 64] w fun r w' => r = .returned (.float .f64 L) ∧ w = w')) (kB : ∀ w, (convert 22 58 (.float .f64 L)).run Try.prog w = .ok (.int .u64 b) w)
    (h : decide (u < b) = false) (hz : ((b : Int) == 0) = true) :
    Calls Try.prog 48 #[.int .u64 u, .float .f64 v] w fun r w' => r = .returned (.tuple #[.bool false, .int .u64 u, .int .i64 0]) ∧ w = w' := by
  go_enter Try.func48, Try.ntmps48
  go_wp2_with fail
  refine (cR.out _).mono ?_
  rintro e ww ⟨rfl, rfl⟩
  go_wp2_with fail
  refine (cL.out _).mono ?_
  rintro e ww ⟨rfl, rfl⟩
  go_wp2
  go_ret3
  exact ⟨rfl, rfl⟩

theorem refSplit_high (u v b d s L x : Nat) (w : World) (cR : Hid (∀ w, Calls Try.prog 26 #[.float .f64 v] w fun e w' => e = .returned (.bool true) ∧ w = w'))
    (o1 : (FloatKind.f64.format.order v 0 == some Ordering.lt) = false) (o2 : (FloatKind.f64.format.order v 4607182418800017408 == some Ordering.gt) = false) (o3 : (FloatKind.f64.format.order v 4607182418800017408 == some Ordering.eq) = false)
    (cL : Hid (∀ w, Calls Try.prog 52 #[.float .f64 v, .int .i64 64] w fun r w' => r = .returned (.float .f64 L) ∧ w = w')) (kB : ∀ w, (convert 22 58 (.float .f64 L)).run Try.prog w = .ok (.int .u64 b) w)
    (h : decide (u < b) = false) (hz : ((b : Int) == 0) = false) (e1 : IntKind.u64.wrap ((u : Int) - b) = (d : Int)) (e2 : IntKind.u64.wrap (-(b : Int)) = (s : Int))
    (cP : Hid (∀ w, Calls Try.prog 97 #[.int .u64 d, .int .u64 s] w fun e w' => e = .returned (.int .u64 x) ∧ w = w')) :
    Calls Try.prog 48 #[.int .u64 u, .float .f64 v] w fun r w' => r = .returned (.tuple #[.bool false, .int .u64 x, .int .i64 0]) ∧ w = w' := by
  go_enter Try.func48, Try.ntmps48
  go_wp2_with fail
  refine (cR.out _).mono ?_
  rintro e ww ⟨rfl, rfl⟩
  go_wp2_with fail
  refine (cL.out _).mono ?_
  rintro e ww ⟨rfl, rfl⟩
  go_wp2_with fail
  refine (cP.out _).mono ?_
  rintro e ww ⟨rfl, rfl⟩
  go_wp2
  go_ret3
  exact ⟨rfl, rfl⟩

theorem refRight_at (v : Nat) (b : Bool) (w : World) (hv : v < 18446744073709551616) (h : rightB v = b) : Calls Try.prog 26 #[.float .f64 v] w fun e w' => e = .returned (.bool b) ∧ w = w' := by
  rw [← h]; exact refRight_any v w hv

theorem refSplit_none (u v : Nat) (w : World) (hv : v < 18446744073709551616) (h : wtB v = false) :
    Calls Try.prog 48 #[.int .u64 u, .float .f64 v] w fun r w' => r = .returned (.tuple #[.bool false, .int .u64 0, .int .i64 2]) ∧ w = w' := by
  cases hr : rightB v
  · exact refSplit_wrong u v false _ _ w (Lib.hid (fun w => refRight_at v false w hv hr)) rfl rfl (Lib.hid (Or.inl rfl))
  · refine refSplit_wrong u v true _ _ w (Lib.hid (fun w => refRight_at v true w hv hr)) (order_lt v 0 hv (by decide) hr right_0) (order_gt v _ hv (by decide) hr right_one) (Lib.hid (Or.inr ?_))
    rw [val_0, val_one, decide_eq_true_eq, decide_eq_true_eq]
    unfold wtB at h
    rw [hr, Bool.true_and] at h
    by_cases h0 : 0 ≤ val v
    · rw [decide_eq_true h0, Bool.true_and, decide_eq_false_iff_not] at h
      exact Or.inr (by omega)
    · exact Or.inl (by omega)

theorem refSplit_any (u v : Nat) (w : World) (hu : u < 18446744073709551616) (hv : v < 18446744073709551616) (h : wtB v = true) :
    Calls Try.prog 48 #[.int .u64 u, .float .f64 v] w fun r w' => r = .returned (.tuple #[.bool (decide (u < bnd v)), .int .u64 (leftN u (bnd v) : Nat), .int .i64 0]) ∧ w = w' := by
  obtain ⟨r1, r2, r3⟩ := wt_facts v h
  obtain ⟨v1, v2⟩ := one_word v hv r1 r2 r3
  obtain ⟨_, _, _, _, v5⟩ := pos_facts v v1
  have cR := Lib.hid (fun w => refRight_at v true w hv r1)
  have o1 : (FloatKind.f64.format.order v 0 == some Ordering.lt) = false := by rw [order_lt v 0 hv (by decide) r1 right_0, val_0]; exact decide_eq_false (by omega)
  have o2 : (FloatKind.f64.format.order v 4607182418800017408 == some Ordering.gt) = false := by rw [order_gt v _ hv (by decide) r1 right_one, val_one]; exact decide_eq_false (by omega)
  have oE := order_eq v 4607182418800017408 hv (by decide) r1 right_one
  rw [v5, val_one] at oE
  by_cases h1 : steps v = 2 ^ sq
  · rw [decide_eq_true (by omega)] at oE
    rw [bnd_one v h1, decide_eq_true (by omega : u < 18446744073709551616), left_one u hu]
    exact refSplit_one u v w cR o1 o2 oE
  · rw [decide_eq_false (by omega)] at oE
    have hlt : steps v < 2 ^ sq := by omega
    have hB := bnd_lt v hlt
    obtain ⟨L, l1, l2, l3⟩ := ldexp_wt v v1 v2
    have kB := fun w => run_convert_float_int (P := Try.prog) w 22 58 _ _ _ _ (by rw [Try.underlying22]; rfl) Try.underlying58 (cut_end v L l2 l3 hlt)
    by_cases hs : u < bnd v
    · have hl : leftN u (bnd v) = u * 18446744073709551616 / bnd v := if_pos hs
      rw [decide_eq_true hs, hl]
      exact refSplit_low u v (bnd v) L _ w cR o1 o2 oE (Lib.hid l1) kB (decide_eq_true hs) (Lib.hid fun w => part_any u (bnd v) w hs hB)
    · have hl : leftN u (bnd v) = (u - bnd v) * 18446744073709551616 / (18446744073709551616 - bnd v) := if_neg hs
      rw [decide_eq_false hs]
      by_cases h0 : bnd v = 0
      · rw [h0, left_zero]
        exact refSplit_zero u v (bnd v) L w cR o1 o2 oE (Lib.hid l1) kB (decide_eq_false hs) (by rw [beq_iff_eq]; omega)
      · rw [hl]
        have hn := neg_wrap (bnd v) hB
        rw [if_neg h0] at hn
        exact refSplit_high u v (bnd v) (u - bnd v) (18446744073709551616 - bnd v) L _ w cR o1 o2 oE (Lib.hid l1) kB (decide_eq_false hs) (by rw [beq_eq_false_iff_ne]; omega) (sub_le_word _ _ (by omega) hu) hn (Lib.hid fun w => part_any _ _ w (by omega) (by omega))

set_option maxRecDepth 100000 in
set_option maxHeartbeats 1000000 in
theorem tells_walk (u v lo hi : Nat) (a b : Bool) (p q e : Int) (w : World)
    (c1 : Hid (∀ w, Calls Try.prog 45 #[.int .u64 u] w fun r w' => r = .returned (.tuple #[.bool a, .int .u64 p]) ∧ Below w.heap.size w w'))
    (c2 : Hid (∀ w, Calls Try.prog 46 #[.int .u64 u] w fun r w' => r = .returned (.tuple #[.bool a, .int .u64 p]) ∧ w = w'))
    (c3 : Hid (∀ w, Calls Try.prog 47 #[.int .u64 u, .float .f64 v] w fun r w' => r = .returned (.tuple #[.bool b, .int .u64 q, .int .i64 e]) ∧ Below w.heap.size w w'))
    (c4 : Hid (∀ w, Calls Try.prog 48 #[.int .u64 u, .float .f64 v] w fun r w' => r = .returned (.tuple #[.bool b, .int .u64 q, .int .i64 e]) ∧ w = w'))
    (c5 : Hid (∀ w, Calls Try.prog 49 #[.int .u64 u] w fun r w' => r = .returned (.agg #[.float .f64 lo, .float .f64 hi]) ∧ Below w.heap.size w w'))
    (c6 : Hid (∀ w, Calls Try.prog 50 #[.int .u64 u] w fun r w' => r = .returned (.agg #[.float .f64 lo, .float .f64 hi]) ∧ Below w.heap.size w w')) :
    Calls Try.prog 8 #[.int .u64 u, .float .f64 v] w fun r w' => r = .returned (.bool true) ∧ Below w.heap.size w w' := by
  have cS := Lib.hid (fun w => same_at lo hi lo hi w (by unfold sameB; simp))
  go_enter Try.func8, Try.ntmps8
  go_wp2_with fail
  refine (c1.out _).mono ?_
  rintro r w1 ⟨rfl, hb⟩
  have B1 := Lib.hid hb; clear hb
  go_wp2_with fail
  refine (c2.out _).mono ?_
  rintro r ww ⟨rfl, rfl⟩
  go_wp2_with fail
  refine (c3.out _).mono ?_
  rintro r w2 ⟨rfl, hb⟩
  have B2 := Lib.hid (B1.out.trans (hb.mono B1.out.size)); clear hb B1
  go_wp2_with fail
  refine (c4.out _).mono ?_
  rintro r ww ⟨rfl, rfl⟩
  go_wp2_with fail
  refine (c5.out _).mono ?_
  rintro r w3 ⟨rfl, hb⟩
  have B3 := Lib.hid (B2.out.trans (hb.mono B2.out.size)); clear hb B2
  go_wp2_with fail
  refine (c6.out _).mono ?_
  rintro r w4 ⟨rfl, hb⟩
  have B4 := Lib.hid (B3.out.trans (hb.mono B3.out.size)); clear hb B3
  go_wp2_with fail
  refine (cS.out _).mono ?_
  rintro r w5 ⟨rfl, hb⟩
  have B5 := Lib.hid (B4.out.trans (hb.mono B4.out.size)); clear hb B4
  cases a <;> cases b
  all_goals
    go_wp2_with fail
    refine (awake3_any _).mono ?_
    rintro r w6 ⟨rfl, hb⟩
    have B6 := Lib.hid (B5.out.trans (hb.mono B5.out.size)); clear hb B5
    go_wp2
    go_ret
    exact ⟨rfl, B6.out⟩

theorem unittells_any (u v : Nat) (w : World) (hu : u < 18446744073709551616) (hv : v < 18446744073709551616) :
    Calls Try.prog 8 #[.int .u64 u, .float .f64 v] w fun r w' => r = .returned (.bool true) ∧ Below w.heap.size w w' := by
  have c1 := Lib.hid fun w => half_any u w hu
  have c2 := Lib.hid fun w => refHalf_any u w hu
  have c5 := Lib.hid fun w => of_any u w hu
  have c6 := Lib.hid fun w => refOf_any u w hu
  cases h : wtB v
  · exact tells_walk u v _ _ _ _ _ _ _ w c1 c2 (Lib.hid fun w => usplit_none u v w hv h) (Lib.hid fun w => refSplit_none u v w hv h) c5 c6
  · exact tells_walk u v _ _ _ _ _ _ _ w c1 c2 (Lib.hid fun w => usplit_any u v w hu hv h) (Lib.hid fun w => refSplit_any u v w hu hv h) c5 c6

end Go.Proofs.Ytddgcdpmnfdpdaa
