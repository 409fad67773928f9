
/- The law UnitLeft answers true, whatever it is given. -/
import Derived.Test.YtddgcdpmnfdpdaaUnitD
namespace Go.Proofs.Ytddgcdpmnfdpdaa
open Go.RowKit

theorem left_mono (u v B : Nat) (h : u ≤ v) (hs : decide (u < B) = decide (v < B)) : leftN u B ≤ leftN v B := by
  unfold leftN
  by_cases h1 : v < B
  · rw [if_pos (by omega), if_pos h1]
    exact Nat.div_le_div_right (Nat.mul_le_mul_right _ h)
  · have h2 : ¬ u < B := by rw [decide_eq_false h1, decide_eq_false_iff_not] at hs; exact hs
    rw [if_neg h2, if_neg h1]
    exact Nat.div_le_div_right (Nat.mul_le_mul_right _ (by omega))

theorem run_minmax (u v : Nat) (ts : Array TypeId) (t : TypeId) (w : World) :
    (Builtin.min_ ts t #[.int .u64 u, .int .u64 v]).run Try.prog w = .ok (.int .u64 (min u v : Nat)) w ∧ (Builtin.max_ ts t #[.int .u64 u, .int .u64 v]).run Try.prog w = .ok (.int .u64 (max u v : Nat)) w := by
  rcases Nat.lt_or_ge u v with h | h
  · rw [Nat.min_eq_left (by omega), Nat.max_eq_right (by omega)]
    simp [Builtin.min_, Builtin.min2, Builtin.max_, Builtin.max2]
    omega
  · rw [Nat.min_eq_right h, Nat.max_eq_left h]
    simp [Builtin.min_, Builtin.min2, Builtin.max_, Builtin.max2]
    omega

theorem leftlaw_none (v u t : Nat) (r l g : Bool) (w : World) (cR : Hid (∀ w, Calls Try.prog 25 #[.float .f64 v] w fun e w' => e = .returned (.bool r) ∧ w = w'))
    (o1 : (FloatKind.f64.format.order v 0 == some Ordering.lt) = l) (o2 : (FloatKind.f64.format.order v 4607182418800017408 == some Ordering.gt) = g) (h : Hid (r = false ∨ l = true ∨ g = true)) :
    Calls Try.prog 11 #[.float .f64 v, .int .u64 u, .int .u64 t] w fun r w' => r = .returned (.bool true) ∧ Below w.heap.size w w' := by
  go_enter Try.func11, Try.ntmps11
  go_wp2_with fail
  refine (cR.out _).mono ?_
  rintro e ww ⟨rfl, rfl⟩
  cases r
  · go_wp2_with fail
    refine (awake3_any _).mono ?_
    rintro r w1 ⟨rfl, hb⟩
    have B1 := Lib.hid hb; clear hb
    go_wp2
    go_ret
    exact ⟨rfl, B1.out⟩
  · cases l
    · have hg : g = true := by rcases h.out with h | h | h <;> first | exact h | cases h
      subst hg
      go_wp2_with fail
      refine (awake3_any _).mono ?_
      rintro r w1 ⟨rfl, hb⟩
      have B1 := Lib.hid hb; clear hb
      go_wp2
      go_ret
      exact ⟨rfl, B1.out⟩
    · go_wp2_with fail
      refine (awake3_any _).mono ?_
      rintro r w1 ⟨rfl, hb⟩
      have B1 := Lib.hid hb; clear hb
      go_wp2
      go_ret
      exact ⟨rfl, B1.out⟩

set_option maxHeartbeats 800000 in
theorem leftlaw_walk (v u t x y p q r : Nat) (a b c : Bool) (w : World) (cR : Hid (∀ w, Calls Try.prog 25 #[.float .f64 v] w fun e w' => e = .returned (.bool true) ∧ w = w'))
    (o1 : (FloatKind.f64.format.order v 0 == some Ordering.lt) = false) (o2 : (FloatKind.f64.format.order v 4607182418800017408 == some Ordering.gt) = false)
    (m1 : ∀ ts t' w, (Builtin.min_ ts t' #[.int .u64 u, .int .u64 t]).run Try.prog w = .ok (.int .u64 x) w) (m2 : ∀ ts t' w, (Builtin.max_ ts t' #[.int .u64 u, .int .u64 t]).run Try.prog w = .ok (.int .u64 y) w)
    (c1 : Hid (∀ w, Calls Try.prog 47 #[.int .u64 x, .float .f64 v] w fun e w' => e = .returned (.tuple #[.bool a, .int .u64 p, .int .i64 0]) ∧ Below w.heap.size w w'))
    (c2 : Hid (∀ w, Calls Try.prog 47 #[.int .u64 y, .float .f64 v] w fun e w' => e = .returned (.tuple #[.bool b, .int .u64 q, .int .i64 0]) ∧ Below w.heap.size w w'))
    (c3 : Hid (∀ w, Calls Try.prog 45 #[.int .u64 x] w fun e w' => e = .returned (.tuple #[.bool c, .int .u64 r]) ∧ Below w.heap.size w w'))
    (c4 : Hid (∀ w, Calls Try.prog 47 #[.int .u64 x, .float .f64 4602678819172646912] w fun e w' => e = .returned (.tuple #[.bool c, .int .u64 r, .int .i64 0]) ∧ Below w.heap.size w w'))
    (h : Hid (a = true ∧ b = false ∨ a = b ∧ decide (q < p) = false)) :
    Calls Try.prog 11 #[.float .f64 v, .int .u64 u, .int .u64 t] w fun r w' => r = .returned (.bool true) ∧ Below w.heap.size w w' := by
  go_enter Try.func11, Try.ntmps11
  go_wp2_with fail
  refine (cR.out _).mono ?_
  rintro e ww ⟨rfl, rfl⟩
  go_wp2_with fail
  refine (c1.out _).mono ?_
  rintro e w1 ⟨rfl, hb⟩
  have B1 := Lib.hid hb; clear hb
  go_wp2_with fail
  refine (c2.out _).mono ?_
  rintro e w2 ⟨rfl, hb⟩
  have B2 := Lib.hid (B1.out.trans (hb.mono B1.out.size)); clear hb B1
  clear m1 m2
  rcases h.out with ⟨rfl, rfl⟩ | ⟨rfl, hd⟩
  · go_wp2_with fail
    refine (c3.out _).mono ?_
    rintro e w3 ⟨rfl, hb⟩
    have B3 := Lib.hid (B2.out.trans (hb.mono B2.out.size)); clear hb B2
    go_wp2_with fail
    refine (c4.out _).mono ?_
    rintro e w4 ⟨rfl, hb⟩
    have B4 := Lib.hid (B3.out.trans (hb.mono B3.out.size)); clear hb B3
    cases c
    all_goals
      go_wp2_with fail
      refine (awake3_any _).mono ?_
      rintro r w5 ⟨rfl, hb⟩
      have B5 := Lib.hid (B4.out.trans (hb.mono B4.out.size)); clear hb B4
      go_wp2
      go_ret
      exact ⟨rfl, B5.out⟩
  · cases a
    all_goals
      go_wp2_with fail
      refine (c3.out _).mono ?_
      rintro e w3 ⟨rfl, hb⟩
      have B3 := Lib.hid (B2.out.trans (hb.mono B2.out.size)); clear hb B2
      go_wp2_with fail
      refine (c4.out _).mono ?_
      rintro e w4 ⟨rfl, hb⟩
      have B4 := Lib.hid (B3.out.trans (hb.mono B3.out.size)); clear hb B3
      cases c
      all_goals
        go_wp2_with fail
        refine (awake3_any _).mono ?_
        rintro r w5 ⟨rfl, hb⟩
        have B5 := Lib.hid (B4.out.trans (hb.mono B4.out.size)); clear hb B4
        go_wp2
        go_ret
        exact ⟨rfl, B5.out⟩

theorem bnd_half : bnd 4602678819172646912 = 9223372036854775808 := by decide +kernel

theorem leftlaw_any (v u t : Nat) (w : World) (hv : v < 18446744073709551616) (hu : u < 18446744073709551616) (ht : t < 18446744073709551616) :
    Calls Try.prog 11 #[.float .f64 v, .int .u64 u, .int .u64 t] w fun r w' => r = .returned (.bool true) ∧ Below w.heap.size w w' := by
  cases hw : wtB v
  · cases hr : rightB v
    · exact leftlaw_none v u t false _ _ w (Lib.hid (fun w => right_at v false w hv hr)) rfl rfl (Lib.hid (Or.inl rfl))
    · refine leftlaw_none v u t true _ _ w (Lib.hid (fun w => right_at v true w hv hr)) (order_lt v 0 hv (by decide) hr right_0) (order_gt v _ hv (by decide) hr right_one) (Lib.hid (Or.inr ?_))
      rw [val_0, val_one, decide_eq_true_eq, decide_eq_true_eq]
      unfold wtB at hw
      rw [hr, Bool.true_and] at hw
      by_cases h0 : 0 ≤ val v
      · rw [decide_eq_true h0, Bool.true_and, decide_eq_false_iff_not] at hw
        exact Or.inr (by omega)
      · exact Or.inl (by omega)
  · obtain ⟨r1, r2, r3⟩ := wt_facts v hw
    have o1 : (FloatKind.f64.format.order v 0 == some Ordering.lt) = false := by rw [order_lt v 0 hv (by decide) r1 right_0, val_0]; exact decide_eq_false (by omega)
    have o2 : (FloatKind.f64.format.order v 4607182418800017408 == some Ordering.gt) = false := by rw [order_gt v _ hv (by decide) r1 right_one, val_one]; exact decide_eq_false (by omega)
    have c4 := fun w => usplit_any (min u t) 4602678819172646912 w (by omega) (by decide) (by decide +kernel)
    rw [bnd_half] at c4
    refine leftlaw_walk v u t (min u t) (max u t) _ _ _ _ _ _ w (Lib.hid (fun w => right_at v true w hv r1)) o1 o2 (fun ts t' w => (run_minmax u t ts t' w).1) (fun ts t' w => (run_minmax u t ts t' w).2)
      (Lib.hid (fun w => usplit_any _ v w (by omega) hv hw)) (Lib.hid (fun w => usplit_any _ v w (by omega) hv hw)) (Lib.hid (fun w => half_any _ w (by omega))) (Lib.hid c4) (Lib.hid ?_)
    by_cases h : decide (min u t < bnd v) = decide (max u t < bnd v)
    · exact Or.inr ⟨h, decide_eq_false (by have := left_mono (min u t) (max u t) (bnd v) (by omega) h; omega)⟩
    · left
      by_cases h1 : min u t < bnd v
      · by_cases h2 : max u t < bnd v
        · rw [decide_eq_true h1, decide_eq_true h2] at h; exact absurd rfl h
        · exact ⟨decide_eq_true h1, decide_eq_false h2⟩
      · have h2 : ¬ max u t < bnd v := by omega
        rw [decide_eq_false h1, decide_eq_false h2] at h; exact absurd rfl h

end Go.Proofs.Ytddgcdpmnfdpdaa
