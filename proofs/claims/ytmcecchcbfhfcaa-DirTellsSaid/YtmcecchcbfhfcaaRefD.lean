
/- The document's answer for layer 1: its function side, for every word: of what is nearest, and on which side of the real result that is. -/
import Derived.Test.YtmcecchcbfhfcaaRefC
import Derived.Test.YtmcecchcbfhfcaaBest
import Derived.Test.YtmcecchcbfhfcaaSidesA
namespace Go.Proofs.Ytmcecchcbfhfcaa
open Go.RowKit

/-- A word with its sign turned. -/
def flipW (a : Nat) : Nat := if a < 9223372036854775808 then a + 9223372036854775808 else a - 9223372036854775808
theorem neg_any (a : Nat) (ha : a < 18446744073709551616) : Op.unary .neg (.float .f64 a) = pure (.float .f64 (flipW a)) := by
  have h : Op.negFloat .f64 a = flipW a := by
    have e : Op.negFloat .f64 a = a ^^^ 2 ^ 63 := rfl
    rw [e]
    unfold flipW
    by_cases h1 : a < 9223372036854775808
    · rw [if_pos h1, xor_top a h1]; omega
    · rw [if_neg h1]
      obtain ⟨b, hb⟩ : ∃ b, b = a - 9223372036854775808 := ⟨_, rfl⟩
      have hx := xor_top b (by omega)
      have ea : a = b ^^^ 2 ^ 63 := by rw [hx]; omega
      rw [← hb]
      rw [ea, Nat.xor_assoc, Nat.xor_self, Nat.xor_zero]
  show pure (Value.float .f64 (Op.negFloat .f64 a)) = _
  rw [h]
theorem flip_facts (a : Nat) (ha : a < 18446744073709551616) : flipW a < 18446744073709551616 ∧ rung (flipW a) = rung a ∧ sgnB (flipW a) = !sgnB a ∧ val (flipW a) = -val a := by
  have h1 : flipW a < 18446744073709551616 ∧ rung (flipW a) = rung a ∧ sgnB (flipW a) = !sgnB a := by
    unfold flipW rung sgnB
    by_cases h : a < 9223372036854775808
    · rw [if_pos h, decide_eq_true (by omega), decide_eq_false (by omega)]
      exact ⟨by omega, by omega, rfl⟩
    · rw [if_neg h, decide_eq_false (by omega), decide_eq_true (by omega)]
      exact ⟨by omega, by omega, rfl⟩
  refine ⟨h1.1, h1.2.1, h1.2.2, ?_⟩
  unfold val
  rw [h1.2.1, h1.2.2]
  cases sgnB a <;> simp

theorem inf_cases (c : Nat) (hc : c < 18446744073709551616) (h : rung c = 9218868437227405312) : (c = 9218868437227405312 ∧ sgnB c = false) ∨ (c = 18442240474082181120 ∧ sgnB c = true) := by
  unfold rung at h
  unfold sgnB
  by_cases g : c < 9223372036854775808
  · left; exact ⟨by omega, decide_eq_false (by omega)⟩
  · right; exact ⟨by omega, decide_eq_true (by omega)⟩
theorem val_top : val 9218868437227405311 = (steps 9218868437227405311 : Int) := by
  have h : sgnB 9218868437227405311 = false := by decide
  have h2 : rung 9218868437227405311 = 9218868437227405311 := by decide
  unfold val; rw [h, h2]; rfl
theorem val_in (c : Nat) (h : rung c < 9218868437227405312) : (val c).natAbs ≤ steps 9218868437227405311 := by
  have := steps_le (show rung c ≤ 9218868437227405311 by omega)
  unfold val; split <;> omega

/-- Beyond the greatest number. -/
theorem order_pinf (c : Nat) (hc : c < 18446744073709551616) (hn : nanB c = false) : (FloatKind.f64.format.order c 9218868437227405311 == some Ordering.gt) = (infB c && !sgnB c) := by
  unfold nanB at hn
  rw [decide_eq_false_iff_not] at hn
  by_cases h : rung c = 9218868437227405312
  · rcases inf_cases c hc h with ⟨rfl, _⟩ | ⟨rfl, _⟩ <;> decide +kernel
  · have hi : infB c = false := decide_eq_false h
    rw [hi, order_val c _ hc (by decide) (by omega) (by decide)]
    have hv := val_in c (by omega)
    have ht := val_top
    have : ¬ val 9218868437227405311 < val c := by omega
    rcases Int.lt_trichotomy (val c) (val 9218868437227405311) with g | g | g
    · rw [Int.compare_eq_lt.2 g]; rfl
    · rw [Int.compare_eq_eq.2 g]; rfl
    · exact absurd g this

set_option maxRecDepth 100000 in
theorem isInf1_any (a : Nat) (w : World) (ha : a < 18446744073709551616) (hn : nanB a = false) : Calls Try.prog 79 #[.float .f64 a, .int .i64 1] w fun r w' => r = .returned (.bool (infB a && !sgnB a)) ∧ w = w' := by
  have h := Lib.hid (order_pinf a ha hn)
  clear hn
  go_enter Try.func79, Try.ntmps79
  go_wp2
  go_ret
  exact ⟨by rw [← h.out]; rfl, rfl⟩
set_option maxRecDepth 100000 in
theorem isInfm_any (a : Nat) (w : World) (ha : a < 18446744073709551616) (hn : nanB a = false) : Calls Try.prog 79 #[.float .f64 a, .int .i64 (-1)] w fun r w' => r = .returned (.bool (infB a && sgnB a)) ∧ w = w' := by
  obtain ⟨f1, f2, f3, _⟩ := flip_facts a ha
  have h := order_pinf (flipW a) f1 (by unfold nanB at hn ⊢; rw [f2]; exact hn)
  have e : (infB (flipW a) && !sgnB (flipW a)) = (infB a && sgnB a) := by
    unfold infB; rw [f2, f3, Bool.not_not]
  rw [e] at h
  have h := Lib.hid h
  have g := neg_any a ha
  clear hn f1 f2 f3 e
  go_enter Try.func79, Try.ntmps79
  go_wp2
  go_ret
  exact ⟨by rw [← h.out]; rfl, rfl⟩

/-- The next number, of 0 with a sign too. -/
theorem nextafter_mz (y r : Nat) (w : World) (c1 : Hid (∀ w, Calls Try.prog 90 #[.float .f64 9223372036854775808] w fun r w' => r = .returned (.bool false) ∧ w = w')) (c2 : Hid (∀ w, Calls Try.prog 90 #[.float .f64 y] w fun r w' => r = .returned (.bool false) ∧ w = w'))
    (o1 : (FloatKind.f64.format.order 9223372036854775808 y == some Ordering.eq) = false) (o2 : (FloatKind.f64.format.order 9223372036854775808 0 == some Ordering.eq) = true)
    (c3 : Hid (∀ w, Calls Try.prog 141 #[.float .f64 1, .float .f64 y] w fun e w' => e = .returned (.float .f64 r) ∧ w = w')) :
    Calls Try.prog 88 #[.float .f64 9223372036854775808, .float .f64 y] w fun e w' => e = .returned (.float .f64 r) ∧ w = w' := by
  obtain ⟨z, hz⟩ : ∃ z, z = 9223372036854775808 := ⟨_, rfl⟩
  rw [← hz] at c1 o1 o2 ⊢
  clear hz
  have b2 := run_frombits
  go_enter Try.func88, Try.ntmps88
  go_wp2_with fail
  refine (c1.out _).mono ?_
  rintro r ww ⟨rfl, rfl⟩
  go_wp2_with fail
  refine (c2.out _).mono ?_
  rintro r ww ⟨rfl, rfl⟩
  go_wp2_with fail
  refine (c3.out _).mono ?_
  rintro r ww ⟨rfl, rfl⟩
  go_wp2
  go_ret
  exact ⟨rfl, rfl⟩
theorem nextafter_all (c : Nat) (up : Bool) (w : World) (hc : c < 18446744073709551616) (h : rung c < 9218868437227405312) :
    Calls Try.prog 88 #[.float .f64 c, .float .f64 (infW up)] w fun e w' => e = .returned (.float .f64 (besideW (plainW c) up)) ∧ w = w' := by
  by_cases hz : c = 9223372036854775808
  · subst hz
    have e1 : besideW (plainW 9223372036854775808) up = if up then 1 else 9223372036854775809 := by cases up <;> decide +kernel
    rw [e1]
    have c1 := fun w => isNaN_any 9223372036854775808 w (by decide)
    rw [show nanB 9223372036854775808 = false by decide] at c1
    have hy : infW up < 18446744073709551616 := by cases up <;> decide
    have c2 := fun w => isNaN_any (infW up) w hy
    rw [show nanB (infW up) = false by cases up <;> decide] at c2
    exact nextafter_mz (infW up) _ w (Lib.hid c1) (Lib.hid c2) (by cases up <;> decide +kernel) (by decide +kernel) (Lib.hid fun w => copysign_lit (infW up) _ w (by cases up <;> exact ⟨_, rfl, by decide +kernel⟩))
  · have rc : rightB c = true := by
      unfold rightB rung at *
      rw [decide_eq_true h, decide_eq_false hz]; rfl
    have e : plainW c = c := by
      unfold plainW
      by_cases g : rung c = 0
      · rw [if_pos g]; unfold rung at g; omega
      · exact if_neg g
    rw [e]
    exact nextafter_any c up w hc rc

/-- What side answers of a number: the next one, if the real result lies on that side. -/
def sideF (c : Nat) (gp gn up : Bool) : Nat × Int :=
  if (if up then gp else gn) = true then (stepW (plainW c) up, stepE (plainW c) up) else (plainW c, 0)
/-- Likewise of what is too great. -/
def sideI (up : Bool) (neg : Bool) : Nat × Int := if neg = up then (if up then (18442240474082181119, 0) else (9218868437227405311, 0)) else (0, 10)
def sideR (c : Nat) (gp gn up : Bool) : Nat × Int := if rung c = 9218868437227405312 then sideI up (sgnB c) else sideF c gp gn up

set_option maxRecDepth 100000 in
theorem refSide_inf (c d : Nat) (up s : Bool) (w : World) (c1 : Hid (∀ w, Calls Try.prog 79 #[.float .f64 c, .int .i64 1] w fun r w' => r = .returned (.bool (!s)) ∧ w = w')) (c2 : Hid (∀ w, Calls Try.prog 79 #[.float .f64 c, .int .i64 (-1)] w fun r w' => r = .returned (.bool s) ∧ w = w')) :
    Calls Try.prog 80 #[.float .f64 c, .float .f64 d, .bool up] w fun r w' => r = .returned (.tuple #[.float .f64 (sideI up s).1, .int .i64 (sideI up s).2]) ∧ w = w' := by
  cases s
  · cases up
    · go_enter Try.func80, Try.ntmps80
      go_wp2_with fail
      refine (c1.out _).mono ?_
      rintro r ww ⟨rfl, rfl⟩
      go_wp2
      go_ret2
      exact ⟨rfl, rfl⟩
    · go_enter Try.func80, Try.ntmps80
      go_wp2_with fail
      refine (c1.out _).mono ?_
      rintro r ww ⟨rfl, rfl⟩
      go_wp2
      go_ret2
      exact ⟨rfl, rfl⟩
  · cases up
    · go_enter Try.func80, Try.ntmps80
      go_wp2_with fail
      refine (c1.out _).mono ?_
      rintro r ww ⟨rfl, rfl⟩
      go_wp2_with fail
      refine (c2.out _).mono ?_
      rintro r ww ⟨rfl, rfl⟩
      go_wp2
      go_ret2
      exact ⟨rfl, rfl⟩
    · go_enter Try.func80, Try.ntmps80
      go_wp2_with fail
      refine (c1.out _).mono ?_
      rintro r ww ⟨rfl, rfl⟩
      go_wp2_with fail
      refine (c2.out _).mono ?_
      rintro r ww ⟨rfl, rfl⟩
      go_wp2
      go_ret2
      exact ⟨rfl, rfl⟩

set_option maxRecDepth 100000 in
theorem refSide_walk (c d n v : Nat) (up gp gn i : Bool) (e : Int) (w : World) (c1 : Hid (∀ w, Calls Try.prog 79 #[.float .f64 c, .int .i64 1] w fun r w' => r = .returned (.bool false) ∧ w = w')) (c2 : Hid (∀ w, Calls Try.prog 79 #[.float .f64 c, .int .i64 (-1)] w fun r w' => r = .returned (.bool false) ∧ w = w'))
    (o1 : (FloatKind.f64.format.order d 0 == some Ordering.gt) = gp) (o2 : (FloatKind.f64.format.order d 0 == some Ordering.lt) = gn)
    (cN : Hid ((if up then gp else gn) = true → ∀ w, Calls Try.prog 88 #[.float .f64 c, .float .f64 (infW up)] w fun r w' => r = .returned (.float .f64 n) ∧ w = w')) (hN : Hid ((if up then gp else gn) = false → n = c))
    (cI : Hid (∀ w, Calls Try.prog 79 #[.float .f64 n, .int .i64 0] w fun r w' => r = .returned (.bool i) ∧ w = w'))
    (cP : Hid (i = false → ∀ w, Calls Try.prog 82 #[.float .f64 n] w fun r w' => r = .returned (.float .f64 v) ∧ w = w'))
    (h : Hid (i = true → v = 0 ∧ e = 10)) (h' : Hid (i = false → e = 0)) :
    Calls Try.prog 80 #[.float .f64 c, .float .f64 d, .bool up] w fun r w' => r = .returned (.tuple #[.float .f64 v, .int .i64 e]) ∧ w = w' := by
  cases up
  · have iw : infW false = 18442240474082181120 := rfl
    rw [iw] at cN
    cases gn
    · obtain rfl := hN.out rfl
      clear cN hN
      go_enter Try.func80, Try.ntmps80
      go_wp2_with fail
      refine (c1.out _).mono ?_
      rintro r ww ⟨rfl, rfl⟩
      go_wp2_with fail
      refine (c2.out _).mono ?_
      rintro r ww ⟨rfl, rfl⟩
      go_wp2_with fail
      refine (cI.out _).mono ?_
      rintro r ww ⟨rfl, rfl⟩
      cases i
      · obtain rfl := h'.out (by simp)
        go_wp2_with fail
        refine (cP.out (by simp) _).mono ?_
        rintro r ww ⟨rfl, rfl⟩
        go_wp2
        go_ret2
        exact ⟨rfl, rfl⟩
      · obtain ⟨rfl, rfl⟩ := h.out (by simp)
        go_wp2
        go_ret2
        exact ⟨rfl, rfl⟩
    · have cN' := Lib.hid (cN.out rfl)
      clear cN hN
      go_enter Try.func80, Try.ntmps80
      go_wp2_with fail
      refine (c1.out _).mono ?_
      rintro r ww ⟨rfl, rfl⟩
      go_wp2_with fail
      refine (c2.out _).mono ?_
      rintro r ww ⟨rfl, rfl⟩
      go_wp2_with fail
      refine (inf_down _).mono ?_
      rintro r ww ⟨rfl, rfl⟩
      go_wp2_with fail
      refine (cN'.out _).mono ?_
      rintro r ww ⟨rfl, rfl⟩
      go_wp2_with fail
      refine (cI.out _).mono ?_
      rintro r ww ⟨rfl, rfl⟩
      cases i
      · obtain rfl := h'.out (by simp)
        go_wp2_with fail
        refine (cP.out (by simp) _).mono ?_
        rintro r ww ⟨rfl, rfl⟩
        go_wp2
        go_ret2
        exact ⟨rfl, rfl⟩
      · obtain ⟨rfl, rfl⟩ := h.out (by simp)
        go_wp2
        go_ret2
        exact ⟨rfl, rfl⟩
  · have iw : infW true = 9218868437227405312 := rfl
    rw [iw] at cN
    cases gp
    · obtain rfl := hN.out rfl
      clear cN hN
      go_enter Try.func80, Try.ntmps80
      go_wp2_with fail
      refine (c1.out _).mono ?_
      rintro r ww ⟨rfl, rfl⟩
      go_wp2_with fail
      refine (c2.out _).mono ?_
      rintro r ww ⟨rfl, rfl⟩
      go_wp2_with fail
      refine (cI.out _).mono ?_
      rintro r ww ⟨rfl, rfl⟩
      cases i
      · obtain rfl := h'.out (by simp)
        go_wp2_with fail
        refine (cP.out (by simp) _).mono ?_
        rintro r ww ⟨rfl, rfl⟩
        go_wp2
        go_ret2
        exact ⟨rfl, rfl⟩
      · obtain ⟨rfl, rfl⟩ := h.out (by simp)
        go_wp2
        go_ret2
        exact ⟨rfl, rfl⟩
    · have cN' := Lib.hid (cN.out rfl)
      clear cN hN
      go_enter Try.func80, Try.ntmps80
      go_wp2_with fail
      refine (c1.out _).mono ?_
      rintro r ww ⟨rfl, rfl⟩
      go_wp2_with fail
      refine (c2.out _).mono ?_
      rintro r ww ⟨rfl, rfl⟩
      go_wp2_with fail
      refine (inf_up _).mono ?_
      rintro r ww ⟨rfl, rfl⟩
      go_wp2_with fail
      refine (cN'.out _).mono ?_
      rintro r ww ⟨rfl, rfl⟩
      go_wp2_with fail
      refine (cI.out _).mono ?_
      rintro r ww ⟨rfl, rfl⟩
      cases i
      · obtain rfl := h'.out (by simp)
        go_wp2_with fail
        refine (cP.out (by simp) _).mono ?_
        rintro r ww ⟨rfl, rfl⟩
        go_wp2
        go_ret2
        exact ⟨rfl, rfl⟩
      · obtain ⟨rfl, rfl⟩ := h.out (by simp)
        go_wp2
        go_ret2
        exact ⟨rfl, rfl⟩

theorem plain_facts (c : Nat) (hc : c < 18446744073709551616) (h : rung c < 9218868437227405312) : plainW c < 18446744073709551616 ∧ rightB (plainW c) = true ∧ val (plainW c) = val c ∧ rung (plainW c) < 9218868437227405312 := by
  unfold plainW
  by_cases g : rung c = 0
  · rw [if_pos g]
    refine ⟨by decide, by decide, ?_, by decide⟩
    rw [val_0]
    have := (steps_zero 0).2 rfl
    unfold val; rw [g, this]; simp
  · rw [if_neg g]
    refine ⟨hc, ?_, rfl, h⟩
    unfold rightB
    unfold rung at g h
    rw [decide_eq_true h, decide_eq_false (by omega)]; rfl
theorem refSide_any (c d : Nat) (gp gn up : Bool) (w : World) (hc : c < 18446744073709551616) (h : rung c ≤ 9218868437227405312)
    (o1 : (FloatKind.f64.format.order d 0 == some Ordering.gt) = gp) (o2 : (FloatKind.f64.format.order d 0 == some Ordering.lt) = gn) :
    Calls Try.prog 80 #[.float .f64 c, .float .f64 d, .bool up] w fun r w' => r = .returned (.tuple #[.float .f64 (sideR c gp gn up).1, .int .i64 (sideR c gp gn up).2]) ∧ w = w' := by
  have hn : nanB c = false := decide_eq_false (by omega)
  have c1 := fun w => isInf1_any c w hc hn
  have c2 := fun w => isInfm_any c w hc hn
  by_cases hi : rung c = 9218868437227405312
  · have e : infB c = true := decide_eq_true hi
    rw [e, Bool.true_and] at c1 c2
    have e2 : sideR c gp gn up = sideI up (sgnB c) := if_pos hi
    rw [e2]
    exact refSide_inf c d up (sgnB c) w (Lib.hid c1) (Lib.hid c2)
  · have e : infB c = false := decide_eq_false hi
    rw [e, Bool.false_and] at c1 c2
    have e2 : sideR c gp gn up = sideF c gp gn up := if_neg hi
    rw [e2]
    have hf : rung c < 9218868437227405312 := by omega
    obtain ⟨p1, p2, p3, p4⟩ := plain_facts c hc hf
    obtain ⟨b1, b2⟩ := beside_in (plainW c) up p1 p2
    cases hg : (if up then gp else gn)
    · have e3 : sideF c gp gn up = (plainW c, 0) := by unfold sideF; rw [hg, if_neg Bool.false_ne_true]
      rw [e3]
      refine refSide_walk c d c _ up gp gn false _ w (Lib.hid c1) (Lib.hid c2) o1 o2 (Lib.hid (fun k => by rw [hg] at k; cases k)) (Lib.hid fun _ => rfl) (Lib.hid fun w => ?_) (Lib.hid fun _ w => plain_any c w hc hf) (Lib.hid fun k => by cases k) (Lib.hid fun _ => rfl)
      have := isInf0_any c w hc hn
      rw [e] at this; exact this
    · have e3 : sideF c gp gn up = (stepW (plainW c) up, stepE (plainW c) up) := by unfold sideF; rw [hg, if_pos rfl]
      rw [e3]
      have hn2 : nanB (besideW (plainW c) up) = false := decide_eq_false (by omega)
      refine refSide_walk c d (besideW (plainW c) up) _ up gp gn _ _ w (Lib.hid c1) (Lib.hid c2) o1 o2 (Lib.hid (fun _ w => nextafter_all c up w hc hf)) (Lib.hid fun k => by rw [hg] at k; cases k) (Lib.hid fun w => isInf0_any _ w b1 hn2) (Lib.hid ?_) (Lib.hid ?_) (Lib.hid ?_)
      · intro hi w
        unfold infB at hi
        rw [decide_eq_false_iff_not] at hi
        have e : stepW (plainW c) up = plainW (besideW (plainW c) up) := by
          unfold stepW
          rw [if_neg hi]
          generalize besideW (plainW c) up = y at *
          unfold plainW
          unfold rung at hi b2 ⊢
          by_cases h : y = 9223372036854775808
          · rw [if_pos h, h]; rfl
          · rw [if_neg h]
            by_cases h2 : y % 9223372036854775808 = 0
            · rw [if_pos h2]; omega
            · rw [if_neg h2]
        show Calls _ _ _ _ fun r w' => r = .returned (.float .f64 (stepW (plainW c) up)) ∧ _
        rw [e]
        exact plain_any _ w b1 (by omega)
      · intro hi
        unfold infB at hi
        rw [decide_eq_true_eq] at hi
        exact ⟨if_pos hi, if_pos hi⟩
      · intro hi
        unfold infB at hi
        rw [decide_eq_false_iff_not] at hi
        exact if_neg hi

/-- A word that no number lies between and T / s. -/
structure Faith (s : Nat) (T : Int) (c : Nat) : Prop where
  lt : c < 18446744073709551616
  le : rung c ≤ 9218868437227405312
  low : rung c < 9218868437227405312 → ∀ d, d < 18446744073709551616 → rightB d = true → val d * (s : Int) ≤ T → val d ≤ val c
  high : rung c < 9218868437227405312 → ∀ d, d < 18446744073709551616 → rightB d = true → T ≤ val d * (s : Int) → val c ≤ val d
  pinf : rung c = 9218868437227405312 → sgnB c = false → ∀ d, d < 18446744073709551616 → rightB d = true → val d * (s : Int) < T
  ninf : rung c = 9218868437227405312 → sgnB c = true → ∀ d, d < 18446744073709551616 → rightB d = true → T < val d * (s : Int)

theorem mul_lt_of {a b : Int} {s : Nat} (h : a * (s : Int) < b * (s : Int)) : a < b := Int.lt_of_mul_lt_mul_right h (Int.natCast_nonneg s)
theorem mul_le_of {a b : Int} (s : Nat) (h : a ≤ b) : a * (s : Int) ≤ b * (s : Int) := Int.mul_le_mul_of_nonneg_right h (Int.natCast_nonneg s)

theorem faith_dir {s : Nat} {T : Int} {c : Nat} {gp gn : Bool} (F : Faith s T c) (hp : rung c < 9218868437227405312 → gp = decide (val c * (s : Int) < T)) (hn : rung c < 9218868437227405312 → gn = decide (T < val c * (s : Int))) :
    Down s T (sideR c gp gn false).1 (sideR c gp gn false).2 ∧ Up s T (sideR c gp gn true).1 (sideR c gp gn true).2 := by
  by_cases hi : rung c = 9218868437227405312
  · have e1 : ∀ up, sideR c gp gn up = sideI up (sgnB c) := fun up => if_pos hi
    rw [e1, e1]
    cases hs : sgnB c
    · have hT := F.pinf hi hs
      refine ⟨Or.inl ⟨rfl, by decide, by decide, Int.le_of_lt (hT _ (by decide) (by decide)), fun d hd rd _ => ?_⟩, Or.inr ⟨rfl, rfl, hT⟩⟩
      have h1 := val_in d (right_rung d rd)
      have h2 := val_top
      show val d ≤ val 9218868437227405311
      omega
    · have hT := F.ninf hi hs
      refine ⟨Or.inr ⟨rfl, rfl, hT⟩, Or.inl ⟨rfl, by decide, by decide, Int.le_of_lt (hT _ (by decide) (by decide)), fun d hd rd _ => ?_⟩⟩
      have h1 := val_in d (right_rung d rd)
      have h2 : val 18442240474082181119 = -(steps 9218868437227405311 : Int) := by
        have h : sgnB 18442240474082181119 = true := by decide
        have h2 : rung 18442240474082181119 = 9218868437227405311 := by decide
        unfold val; rw [h, h2]; rfl
      show val 18442240474082181119 ≤ val d
      omega
  · have e1 : ∀ up, sideR c gp gn up = sideF c gp gn up := fun up => if_neg hi
    rw [e1, e1]
    have hf : rung c < 9218868437227405312 := by have := F.le; omega
    obtain ⟨p1, p2, p3, p4⟩ := plain_facts c F.lt hf
    have lo := F.low hf
    have hi := F.high hf
    have hp' := hp hf
    have hn' := hn hf
    constructor
    · by_cases g : T < val c * (s : Int)
      · have e2 : sideF c gp gn false = (stepW (plainW c) false, stepE (plainW c) false) := by unfold sideF; rw [hn', decide_eq_true g]; rfl
        rw [e2]
        rcases down_step (plainW c) p1 p2 with ⟨e0, l, r, le, mx⟩ | ⟨e0, z, no⟩
        · refine Or.inl ⟨e0, l, r, ?_, fun d hd rd h => ?_⟩
          · rcases Int.lt_or_le T (val (stepW (plainW c) false) * (s : Int)) with k | k
            · have := hi _ l r (Int.le_of_lt k); omega
            · exact k
          · have := mul_lt_of (Int.lt_of_le_of_lt h g)
            exact mx d hd rd (by omega)
        · refine Or.inr ⟨e0, z, fun d hd rd => ?_⟩
          have h1 := no d hd rd
          exact Int.lt_of_lt_of_le g (mul_le_of s (by omega))
      · have e2 : sideF c gp gn false = (plainW c, 0) := by unfold sideF; rw [hn', decide_eq_false g]; rfl
        rw [e2]
        exact Or.inl ⟨rfl, p1, p2, by rw [p3]; omega, fun d hd rd h => by rw [p3]; exact lo d hd rd h⟩
    · by_cases g : val c * (s : Int) < T
      · have e2 : sideF c gp gn true = (stepW (plainW c) true, stepE (plainW c) true) := by unfold sideF; rw [hp', decide_eq_true g]; rfl
        rw [e2]
        rcases up_step (plainW c) p1 p2 with ⟨e0, l, r, le, mx⟩ | ⟨e0, z, no⟩
        · refine Or.inl ⟨e0, l, r, ?_, fun d hd rd h => ?_⟩
          · rcases Int.lt_or_le (val (stepW (plainW c) true) * (s : Int)) T with k | k
            · have := lo _ l r (Int.le_of_lt k); omega
            · exact k
          · have := mul_lt_of (Int.lt_of_lt_of_le g h)
            exact mx d hd rd (by omega)
        · refine Or.inr ⟨e0, z, fun d hd rd => ?_⟩
          have h1 := no d hd rd
          exact Int.lt_of_le_of_lt (mul_le_of s (by omega)) g
      · have e2 : sideF c gp gn true = (plainW c, 0) := by unfold sideF; rw [hp', decide_eq_false g]; rfl
        rw [e2]
        exact Or.inl ⟨rfl, p1, p2, by rw [p3]; omega, fun d hd rd h => by rw [p3]; exact hi d hd rd h⟩

end Go.Proofs.Ytmcecchcbfhfcaa
