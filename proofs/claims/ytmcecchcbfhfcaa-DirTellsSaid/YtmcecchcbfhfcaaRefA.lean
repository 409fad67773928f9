
/- The document's answer for layer 1: its Right is the program's, for every word. -/
import Derived.Test.YtmcecchcbfhfcaaGrows
import Derived.Test.YtmcecchcbfhfcaaUnitM
import Derived.Test.YtmcecchcbfhfcaaMem
namespace Go.Proofs.Ytmcecchcbfhfcaa
open Go.RowKit

theorem read_inf (a : Nat) (ha : a < 18446744073709551616) (h : rung a = 9218868437227405312) : Ieee.double.read a = .infinity (sgnB a) := by
  unfold Ieee.Format.read
  rw [sw64, bin64, inf64]
  have hs : (a / 9223372036854775808 % 2 == 1) = sgnB a := by
    unfold sgnB
    by_cases g : 9223372036854775808 ≤ a
    · rw [decide_eq_true g, beq_iff_eq]; omega
    · rw [decide_eq_false g, beq_eq_false_iff_ne]; omega
  have hr : a % 9223372036854775808 = rung a := rfl
  dsimp only
  rw [hs, hr, if_neg (by omega), if_neg (by omega), if_pos h]

theorem read_nan (a : Nat) (h : 9218868437227405312 < rung a) : ∃ s f, Ieee.double.read a = .nan s f := by
  unfold Ieee.Format.read
  rw [sw64, bin64, inf64]
  have hr : a % 9223372036854775808 = rung a := rfl
  dsimp only
  rw [hr, if_neg (by omega), if_neg (by omega), if_neg (by omega)]
  exact ⟨_, _, rfl⟩

/-- Is it no number, as the model's order tells? -/
def nanB (a : Nat) : Bool := decide (9218868437227405312 < rung a)
def infB (a : Nat) : Bool := decide (rung a = 9218868437227405312)

theorem order_nan (a : Nat) (ha : a < 18446744073709551616) : (FloatKind.f64.format.order a a != some Ordering.eq) = nanB a := by
  unfold nanB
  rcases Nat.lt_trichotomy (rung a) 9218868437227405312 with h | h | h
  · rw [order_val a a ha ha h h, Int.compare_eq_eq.2 rfl, decide_eq_false (by omega)]; rfl
  · rw [fmt64]
    unfold Ieee.Format.order
    rw [read_inf a ha h, decide_eq_false (by omega)]
    unfold Ieee.Datum.order
    dsimp only
    rw [Nat.compare_eq_eq.2 rfl]
    rfl
  · rw [fmt64]
    unfold Ieee.Format.order
    obtain ⟨s, f, e⟩ := read_nan a h
    rw [e, decide_eq_true h]
    rfl

theorem isNaN_any (a : Nat) (w : World) (ha : a < 18446744073709551616) : Calls Try.prog 90 #[.float .f64 a] w fun r w' => r = .returned (.bool (nanB a)) ∧ w = w' := by
  have h := Lib.hid (order_nan a ha)
  go_enter Try.func90, Try.ntmps90
  go_wp2
  go_ret
  exact ⟨by rw [← h.out]; rfl, rfl⟩

theorem order_inf (a : Nat) (_ha : a < 18446744073709551616) (hn : nanB a = false) : (FloatKind.f64.format.order (rung a) 9218868437227405311 == some Ordering.gt) = infB a := by
  unfold nanB at hn
  rw [decide_eq_false_iff_not] at hn
  unfold infB
  by_cases h : rung a = 9218868437227405312
  · rw [decide_eq_true h, h]; decide +kernel
  · obtain ⟨p1, p2, _, _, p5⟩ := pos_facts (rung a) (by omega)
    rw [decide_eq_false h, order_gt _ _ p1 (by decide) p2 right_max]
    exact decide_eq_false (by have := val_max (rung a) p2; omega)

theorem abs_rung (c : Nat) (w : World) (hc : c < 18446744073709551616) :
    Calls Try.prog 58 #[.float .f64 c] w fun r w' => r = .returned (.float .f64 (rung c)) ∧ w = w' := abs_any c w hc

set_option maxRecDepth 100000 in
theorem isInf0_any (a : Nat) (w : World) (ha : a < 18446744073709551616) (hn : nanB a = false) : Calls Try.prog 79 #[.float .f64 a, .int .i64 0] w fun r w' => r = .returned (.bool (infB a)) ∧ w = w' := by
  have h := Lib.hid (order_inf a ha hn)
  have c := Lib.hid (fun w => abs_rung a w ha)
  clear hn
  go_enter Try.func79, Try.ntmps79
  go_wp2_with fail
  refine (c.out _).mono ?_
  rintro r ww ⟨rfl, rfl⟩
  go_wp2
  go_ret
  exact ⟨by rw [← h.out]; rfl, rfl⟩

set_option maxRecDepth 100000 in
theorem signbit_any (a : Nat) (w : World) (ha : a < 18446744073709551616) : Calls Try.prog 91 #[.float .f64 a] w fun r w' => r = .returned (.bool (sgnB a)) ∧ w = w' := by
  have h1 := run_bits
  have h2 : decide (wrap64 (a : Int) < 0) = sgnB a := by
    unfold sgnB wrap64
    by_cases g : 9223372036854775808 ≤ a
    · rw [decide_eq_true g]; exact decide_eq_true (by omega)
    · rw [decide_eq_false g]; exact decide_eq_false (by omega)
  have H := Lib.hid h2
  clear h2
  go_enter Try.func91, Try.ntmps91
  go_wp2
  go_ret
  exact ⟨by rw [← H.out]; rfl, rfl⟩

theorem refRight_nan (a : Nat) (w : World) (c1 : Hid (∀ w, Calls Try.prog 90 #[.float .f64 a] w fun r w' => r = .returned (.bool true) ∧ w = w')) :
    Calls Try.prog 26 #[.float .f64 a] w fun r w' => r = .returned (.bool false) ∧ w = w' := by
  go_enter Try.func26, Try.ntmps26
  go_wp2_with fail
  refine (c1.out _).mono ?_
  rintro r ww ⟨rfl, rfl⟩
  go_wp2
  go_ret
  exact ⟨rfl, rfl⟩

theorem refRight_inf (a : Nat) (w : World) (c1 : Hid (∀ w, Calls Try.prog 90 #[.float .f64 a] w fun r w' => r = .returned (.bool false) ∧ w = w'))
    (c2 : Hid (∀ w, Calls Try.prog 79 #[.float .f64 a, .int .i64 0] w fun r w' => r = .returned (.bool true) ∧ w = w')) :
    Calls Try.prog 26 #[.float .f64 a] w fun r w' => r = .returned (.bool false) ∧ w = w' := by
  go_enter Try.func26, Try.ntmps26
  go_wp2_with fail
  refine (c1.out _).mono ?_
  rintro r ww ⟨rfl, rfl⟩
  go_wp2_with fail
  refine (c2.out _).mono ?_
  rintro r ww ⟨rfl, rfl⟩
  go_wp2
  go_ret
  exact ⟨rfl, rfl⟩

theorem refRight_num (a : Nat) (z s : Bool) (w : World) (c1 : Hid (∀ w, Calls Try.prog 90 #[.float .f64 a] w fun r w' => r = .returned (.bool false) ∧ w = w'))
    (c2 : Hid (∀ w, Calls Try.prog 79 #[.float .f64 a, .int .i64 0] w fun r w' => r = .returned (.bool false) ∧ w = w'))
    (o : (FloatKind.f64.format.order a 0 != some Ordering.eq) = z) (c3 : Hid (∀ w, Calls Try.prog 91 #[.float .f64 a] w fun r w' => r = .returned (.bool s) ∧ w = w')) :
    Calls Try.prog 26 #[.float .f64 a] w fun r w' => r = .returned (.bool (z || !s)) ∧ w = w' := by
  go_enter Try.func26, Try.ntmps26
  go_wp2_with fail
  refine (c1.out _).mono ?_
  rintro r ww ⟨rfl, rfl⟩
  go_wp2_with fail
  refine (c2.out _).mono ?_
  rintro r ww ⟨rfl, rfl⟩
  cases z
  · go_wp2_with fail
    refine (c3.out _).mono ?_
    rintro r ww ⟨rfl, rfl⟩
    go_wp2
    go_ret
    exact ⟨by cases s <;> rfl, rfl⟩
  · go_wp2
    go_ret
    exact ⟨by cases s <;> rfl, rfl⟩

theorem refRight_any (a : Nat) (w : World) (ha : a < 18446744073709551616) :
    Calls Try.prog 26 #[.float .f64 a] w fun r w' => r = .returned (.bool (rightB a)) ∧ w = w' := by
  have c1 := fun w => isNaN_any a w ha
  cases hn : nanB a
  · rw [hn] at c1
    have c2 := fun w => isInf0_any a w ha hn
    cases hi : infB a
    · rw [hi] at c2
      have hr : rung a < 9218868437227405312 := by
        unfold nanB at hn; unfold infB at hi
        rw [decide_eq_false_iff_not] at hn hi
        omega
      have c3 := fun w => signbit_any a w ha
      have hz : (FloatKind.f64.format.order a 0 != some Ordering.eq) = !decide (rung a = 0) := by
        rw [bne, order_val a 0 ha (by decide) hr (by decide), val_0]
        have hs := steps_zero (rung a)
        by_cases h : rung a = 0
        · have hv : val a = 0 := by unfold val; rw [hs.2 h]; simp
          rw [hv, Int.compare_eq_eq.2 rfl, decide_eq_true h]; rfl
        · have h1 : steps (rung a) ≠ 0 := fun h' => h (hs.1 h')
          rw [decide_eq_false h]
          rcases Int.lt_trichotomy (val a) 0 with g | g | g
          · rw [Int.compare_eq_lt.2 g]; rfl
          · exfalso; unfold val at g; split at g <;> omega
          · rw [Int.compare_eq_gt.2 g]; rfl
      have c := refRight_num a _ _ w (Lib.hid c1) (Lib.hid c2) hz (Lib.hid c3)
      have e : (!decide (rung a = 0) || !sgnB a) = rightB a := by
        unfold rightB sgnB
        rw [decide_eq_true (show a % 9223372036854775808 < 9218868437227405312 from hr), Bool.true_and]
        unfold rung
        by_cases h : a = 9223372036854775808
        · subst h; decide
        · rw [decide_eq_false h]
          by_cases h2 : a % 9223372036854775808 = 0
          · rw [decide_eq_true h2, decide_eq_false (by omega)]; rfl
          · rw [decide_eq_false h2]; rfl
      rw [e] at c
      exact c
    · rw [hi] at c2
      have e : rightB a = false := by
        unfold infB at hi
        rw [decide_eq_true_eq] at hi
        unfold rightB
        rw [decide_eq_false (show ¬ a % 9223372036854775808 < 9218868437227405312 by unfold rung at hi; omega)]; rfl
      rw [e]
      exact refRight_inf a w (Lib.hid c1) (Lib.hid c2)
  · rw [hn] at c1
    have e : rightB a = false := by
      unfold nanB at hn
      rw [decide_eq_true_eq] at hn
      unfold rightB
      rw [decide_eq_false (show ¬ a % 9223372036854775808 < 9218868437227405312 by unfold rung at hn; omega)]; rfl
    rw [e]
    exact refRight_nan a w (Lib.hid c1)

end Go.Proofs.Ytmcecchcbfhfcaa
