
/- The document's answer for layer 1: its Next, walked. -/
import Derived.Test.YtmcecchcbfhfcaaRefB
namespace Go.Proofs.Ytmcecchcbfhfcaa
open Go.RowKit

def plainW (c : Nat) : Nat := if rung c = 0 then 0 else c

theorem order_zero_any (c : Nat) (hc : c < 18446744073709551616) (h : rung c < 9218868437227405312) : (FloatKind.f64.format.order c 0 == some Ordering.eq) = decide (rung c = 0) := by
  rw [order_val c 0 hc (by decide) h (by decide), val_0]
  have hs := steps_zero (rung c)
  by_cases h : rung c = 0
  · have hv : val c = 0 := by unfold val; rw [hs.2 h]; simp
    rw [hv, Int.compare_eq_eq.2 rfl, decide_eq_true h]; rfl
  · have h1 : steps (rung c) ≠ 0 := fun h' => h (hs.1 h')
    rw [decide_eq_false h]
    rcases Int.lt_trichotomy (val c) 0 with g | g | g
    · rw [Int.compare_eq_lt.2 g]; rfl
    · exfalso; unfold val at g; split at g <;> omega
    · rw [Int.compare_eq_gt.2 g]; rfl

theorem plain_any (c : Nat) (w : World) (hc : c < 18446744073709551616) (h : rung c < 9218868437227405312) :
    Calls Try.prog 82 #[.float .f64 c] w fun e w' => e = .returned (.float .f64 (plainW c)) ∧ w = w' := by
  have o := order_zero_any c hc h
  cases hz : decide (rung c = 0)
  · have e : plainW c = c := if_neg (by rw [decide_eq_false_iff_not] at hz; exact hz)
    rw [hz] at o
    rw [e]
    clear e hz
    go_enter Try.func82, Try.ntmps82
    go_wp2
    go_ret
    exact ⟨rfl, rfl⟩
  · have e : plainW c = 0 := if_pos (by rw [decide_eq_true_eq] at hz; exact hz)
    rw [hz] at o
    rw [e]
    clear e hz
    go_enter Try.func82, Try.ntmps82
    go_wp2
    go_ret
    exact ⟨rfl, rfl⟩

def infW (up : Bool) : Nat := if up then 9218868437227405312 else 18442240474082181120

set_option maxRecDepth 100000 in
theorem inf_up (w : World) : Calls Try.prog 89 #[.int .i64 1] w fun e w' => e = .returned (.float .f64 9218868437227405312) ∧ w = w' := by
  have b2 := run_frombits
  go_enter Try.func89, Try.ntmps89
  go_wp2
  go_ret
  exact ⟨rfl, rfl⟩
set_option maxRecDepth 100000 in
theorem inf_down (w : World) : Calls Try.prog 89 #[.int .i64 (-1)] w fun e w' => e = .returned (.float .f64 18442240474082181120) ∧ w = w' := by
  have b2 := run_frombits
  go_enter Try.func89, Try.ntmps89
  go_wp2
  go_ret
  exact ⟨rfl, rfl⟩

theorem nextafter_any (x : Nat) (up : Bool) (w : World) (hx : x < 18446744073709551616) (rx : rightB x = true) :
    Calls Try.prog 88 #[.float .f64 x, .float .f64 (infW up)] w fun e w' => e = .returned (.float .f64 (besideW x up)) ∧ w = w' := by
  have hr := right_rung x rx
  have hn := right_ne x rx
  have c1 := fun w => isNaN_any x w hx
  rw [show nanB x = false from decide_eq_false (by omega)] at c1
  have hy : infW up < 18446744073709551616 := by cases up <;> decide
  have c2 := fun w => isNaN_any (infW up) w hy
  rw [show nanB (infW up) = false by cases up <;> decide] at c2
  have ot := order_top x hx rx up
  have o1 : (FloatKind.f64.format.order x (infW up) == some Ordering.eq) = false := by
    show (FloatKind.f64.format.order x (if up then 9218868437227405312 else 18442240474082181120) == some Ordering.eq) = false
    rw [ot.1]; cases up <;> rfl
  by_cases hz : x = 0
  · subst hz
    have hb : besideW 0 up = if up then 1 else 9223372036854775809 := if_pos rfl
    rw [hb]
    exact nextafter_zero (infW up) _ w (Lib.hid c1) (Lib.hid c2) o1 (by decide +kernel) (Lib.hid fun w => copysign_lit (infW up) _ w (by cases up <;> exact ⟨_, rfl, by decide +kernel⟩))
  · have o3 : (FloatKind.f64.format.order (infW up) x == some Ordering.gt) = up := by
      show (FloatKind.f64.format.order (if up then 9218868437227405312 else 18442240474082181120) x == some Ordering.gt) = up
      rw [ot.2]; cases up <;> rfl
    have o2 : (FloatKind.f64.format.order x 0 == some Ordering.eq) = false := by rw [order_zero x hx rx]; exact decide_eq_false hz
    have o4 : (FloatKind.f64.format.order x 0 == some Ordering.gt) = decide (x < 9223372036854775808) := by
      rw [order_gt x 0 hx (by decide) rx right_0, val_0]
      rcases word_cases x hx rx with ⟨h1, hv⟩ | ⟨r, h0, h1, h2, hv⟩
      · have h3 : steps x ≠ 0 := fun h' => hz ((steps_zero x).1 h')
        rw [hv, decide_eq_true (by omega : (0 : Int) < (steps x : Int)), decide_eq_true (by omega)]
      · rw [hv, decide_eq_false (by omega), decide_eq_false (by omega)]
    have u1 : IntKind.u64.wrap ((x : Int) + 1) = ((x + 1 : Nat) : Int) := by rw [IntKind.wrap_u64]; unfold rung at hr; omega
    have u2 : IntKind.u64.wrap ((x : Int) - 1) = ((x - 1 : Nat) : Int) := by rw [IntKind.wrap_u64]; omega
    have c := nextafter_walk x (infW up) (x + 1) (x - 1) up _ w (Lib.hid c1) (Lib.hid c2) o1 o2 o3 o4 u1 u2
    have hb : besideW x up = if up = decide (x < 9223372036854775808) then x + 1 else x - 1 := if_neg hz
    rw [hb]
    exact c

theorem beside_in (x : Nat) (up : Bool) (hx : x < 18446744073709551616) (rx : rightB x = true) : besideW x up < 18446744073709551616 ∧ rung (besideW x up) ≤ 9218868437227405312 := by
  have hr := right_rung x rx
  have hn := right_ne x rx
  unfold besideW
  unfold rung at *
  by_cases hz : x = 0
  · rw [if_pos hz]; cases up <;> decide
  · rw [if_neg hz]
    by_cases h : x < 9223372036854775808
    · rw [decide_eq_true h]; cases up
      · rw [if_neg Bool.false_ne_true]; omega
      · rw [if_pos rfl]; omega
    · rw [decide_eq_false h]; cases up
      · rw [if_pos rfl]; omega
      · rw [if_neg (by simp)]; omega

/-- The walk of Next: b: the word beside; i: is it infinite; v: what is left of it. -/
theorem refNext_walk (x b v : Nat) (up i : Bool) (e : Int) (w : World) (cR : Hid (∀ w, Calls Try.prog 26 #[.float .f64 x] w fun r w' => r = .returned (.bool true) ∧ w = w'))
    (cN : Hid (∀ w, Calls Try.prog 88 #[.float .f64 x, .float .f64 (infW up)] w fun r w' => r = .returned (.float .f64 b) ∧ w = w'))
    (cI : Hid (∀ w, Calls Try.prog 79 #[.float .f64 b, .int .i64 0] w fun r w' => r = .returned (.bool i) ∧ w = w'))
    (cP : Hid (i = false → ∀ w, Calls Try.prog 82 #[.float .f64 b] w fun r w' => r = .returned (.float .f64 v) ∧ w = w'))
    (h : Hid (i = true → v = 0 ∧ e = 10)) (h' : Hid (i = false → e = 0)) :
    Calls Try.prog 24 #[.float .f64 x, .bool up] w fun r w' => r = .returned (.tuple #[.float .f64 v, .int .i64 e]) ∧ w = w' := by
  cases up
  · have iw : infW false = 18442240474082181120 := rfl
    rw [iw] at cN
    go_enter Try.func24, Try.ntmps24
    go_wp2_with fail
    refine (cR.out _).mono ?_
    rintro r ww ⟨rfl, rfl⟩
    go_wp2_with fail
    refine (inf_down _).mono ?_
    rintro r ww ⟨rfl, rfl⟩
    go_wp2_with fail
    refine (cN.out _).mono ?_
    rintro r ww ⟨rfl, rfl⟩
    go_wp2_with fail
    refine (cI.out _).mono ?_
    rintro r ww ⟨rfl, rfl⟩
    cases i
    · obtain rfl := h'.out (by simp)
      go_wp2_with fail
      refine (cP.out (by simp) _).mono ?_
      rintro r ww ⟨rfl, rfl⟩
      go_wp2
      go_ret2
      exact ⟨rfl, rfl⟩
    · obtain ⟨rfl, rfl⟩ := h.out (by simp)
      go_wp2
      go_ret2
      exact ⟨rfl, rfl⟩
  · have iw : infW true = 9218868437227405312 := rfl
    rw [iw] at cN
    go_enter Try.func24, Try.ntmps24
    go_wp2_with fail
    refine (cR.out _).mono ?_
    rintro r ww ⟨rfl, rfl⟩
    go_wp2_with fail
    refine (inf_up _).mono ?_
    rintro r ww ⟨rfl, rfl⟩
    go_wp2_with fail
    refine (cN.out _).mono ?_
    rintro r ww ⟨rfl, rfl⟩
    go_wp2_with fail
    refine (cI.out _).mono ?_
    rintro r ww ⟨rfl, rfl⟩
    cases i
    · obtain rfl := h'.out (by simp)
      go_wp2_with fail
      refine (cP.out (by simp) _).mono ?_
      rintro r ww ⟨rfl, rfl⟩
      go_wp2
      go_ret2
      exact ⟨rfl, rfl⟩
    · obtain ⟨rfl, rfl⟩ := h.out (by simp)
      go_wp2
      go_ret2
      exact ⟨rfl, rfl⟩

theorem refNext_wrong (x : Nat) (up : Bool) (w : World) (cR : Hid (∀ w, Calls Try.prog 26 #[.float .f64 x] w fun r w' => r = .returned (.bool false) ∧ w = w')) :
    Calls Try.prog 24 #[.float .f64 x, .bool up] w fun r w' => r = .returned (.tuple #[.float .f64 0, .int .i64 13]) ∧ w = w' := by
  go_enter Try.func24, Try.ntmps24
  go_wp2_with fail
  refine (cR.out _).mono ?_
  rintro r ww ⟨rfl, rfl⟩
  go_wp2
  go_ret2
  exact ⟨rfl, rfl⟩

theorem refNext_any (x : Nat) (up : Bool) (w : World) (hx : x < 18446744073709551616) :
    Calls Try.prog 24 #[.float .f64 x, .bool up] w fun r w' => r = .returned (.tuple #[.float .f64 (addW x (tinyW up) up), .int .i64 (addE x (tinyW up) up)]) ∧ w = w' := by
  have cR := fun w => refRight_any x w hx
  cases rx : rightB x
  · rw [rx] at cR
    have e1 : addW x (tinyW up) up = 0 := if_neg (by rw [rx]; exact Bool.false_ne_true)
    have e2 : addE x (tinyW up) up = 13 := if_neg (by rw [rx]; exact Bool.false_ne_true)
    rw [e1, e2]
    exact refNext_wrong x up w (Lib.hid cR)
  · rw [rx] at cR
    obtain ⟨b1, b2⟩ := beside_in x up hx rx
    obtain ⟨s1, s2⟩ := step_dir x hx rx up
    rw [← s1, ← s2]
    have hn : nanB (besideW x up) = false := decide_eq_false (by omega)
    refine refNext_walk x (besideW x up) _ up _ _ w (Lib.hid cR) (Lib.hid fun w => nextafter_any x up w hx rx) (Lib.hid fun w => isInf0_any _ w b1 hn) (Lib.hid ?_) (Lib.hid ?_) (Lib.hid ?_)
    · intro hi w
      unfold infB at hi
      rw [decide_eq_false_iff_not] at hi
      have e : stepW x up = plainW (besideW x up) := by
        unfold stepW plainW
        rw [if_neg hi]
        unfold rung at hi b2 ⊢
        by_cases h : besideW x up = 9223372036854775808
        · rw [if_pos h, h]; rfl
        · rw [if_neg h]
          by_cases h2 : besideW x up % 9223372036854775808 = 0
          · rw [if_pos h2]; omega
          · rw [if_neg h2]
      rw [e]
      exact plain_any _ w b1 (by omega)
    · intro hi
      unfold infB at hi
      rw [decide_eq_true_eq] at hi
      exact ⟨if_pos hi, if_pos hi⟩
    · intro hi
      unfold infB at hi
      rw [decide_eq_false_iff_not] at hi
      exact if_neg hi

end Go.Proofs.Ytmcecchcbfhfcaa
