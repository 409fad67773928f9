
/- The statement DirNext: the next one up, and down again, is where it was. No conditions. -/
import Derived.Test.YtdppppaoflhgdaaSums
namespace Go.Proofs.Ytdppppaoflhgdaa
open Go.RowKit

theorem word_parts (a : Nat) (ha : a < 18446744073709551616) : a = if sgnB a then 9223372036854775808 + rung a else rung a := by
  unfold sgnB rung
  by_cases g : 9223372036854775808 ≤ a
  · rw [decide_eq_true g, if_pos rfl]; omega
  · rw [decide_eq_false g, if_neg Bool.false_ne_true]; omega

theorem steps_inj {r s : Nat} (h : steps r = steps s) : r = s := by
  have h1 := (steps_le_iff r s).1 (by omega)
  have h2 := (steps_le_iff s r).1 (by omega)
  omega

theorem val_inj {a b : Nat} (ha : a < 18446744073709551616) (hb : b < 18446744073709551616) (ra : rightB a = true) (rb : rightB b = true) (h : val a = val b) : a = b := by
  have na := val_neg a ha ra
  have nb := val_neg b hb rb
  have hs : sgnB a = sgnB b := by
    cases sa : sgnB a <;> cases sb : sgnB b <;> simp_all
  have hst : steps (rung a) = steps (rung b) := by
    unfold val at h
    rw [hs] at h
    revert h
    cases sgnB b
    · intro h; exact Int.ofNat.inj h
    · intro h; exact Int.ofNat.inj (Int.neg_inj.1 h)
  rw [word_parts a ha, word_parts b hb, hs, steps_inj hst]

theorem order_eq (a b : Nat) (ha : a < 18446744073709551616) (hb : b < 18446744073709551616) (ra : rightB a = true) (rb : rightB b = true) : (FloatKind.f64.format.order a b == some Ordering.eq) = decide (val a = val b) := by
  rw [order_val a b ha hb (right_rung a ra) (right_rung b rb)]
  rcases Int.lt_trichotomy (val a) (val b) with g | g | g
  · rw [Int.compare_eq_lt.2 g, decide_eq_false (by omega)]; rfl
  · rw [Int.compare_eq_eq.2 g, decide_eq_true g]; rfl
  · rw [Int.compare_eq_gt.2 g, decide_eq_false (by omega)]; rfl
theorem order_lt (a b : Nat) (ha : a < 18446744073709551616) (hb : b < 18446744073709551616) (ra : rightB a = true) (rb : rightB b = true) : (FloatKind.f64.format.order a b == some Ordering.lt) = decide (val a < val b) := by
  rw [order_val a b ha hb (right_rung a ra) (right_rung b rb)]
  rcases Int.lt_trichotomy (val a) (val b) with g | g | g
  · rw [Int.compare_eq_lt.2 g, decide_eq_true g]; rfl
  · rw [Int.compare_eq_eq.2 g, decide_eq_false (by omega)]; rfl
  · rw [Int.compare_eq_gt.2 g, decide_eq_false (by omega)]; rfl

/-- The greatest number. -/
theorem val_max (d : Nat) (rd : rightB d = true) : val d ≤ val 9218868437227405311 := by
  have e : val 9218868437227405311 = (steps 9218868437227405311 : Int) := by
    have := (sw_facts false 9218868437227405311 (Nat.le_refl _)).2.2
    exact this
  have hm := rung_max rd
  have hle := steps_le hm
  rw [e]
  cases hc : sgnB d
  · rw [val_pos hc]; omega
  · rw [val_negs hc]; omega
theorem right_max : rightB 9218868437227405311 = true := by decide

/-- The step down from what was stepped up to. -/
theorem next_back (x : Nat) (hx : x < 18446744073709551616) (rx : rightB x = true) (h0 : addE x 1 true = 0) : addE (addW x 1 true) 9223372036854775809 false = 0 ∧ addW (addW x 1 true) 9223372036854775809 false = x := by
  rcases next_up x rx with ⟨_, n2, n3, n4, n5⟩ | ⟨h, _⟩
  · have hd := add_down (addW x 1 true) 9223372036854775809 n3 right_m1
    rw [val_m1] at hd
    rcases hd with ⟨e0, d1, d2, d3, d4⟩ | ⟨_, _, d3⟩
    · refine ⟨e0, val_inj d1 hx d2 rx ?_⟩
      have a1 := d4 x hx rx (by omega)
      rcases Int.lt_or_le (val x) (val (addW (addW x 1 true) 9223372036854775809 false)) with g | g
      · have := n5 _ d1 d2 g; omega
      · omega
    · have := d3 x hx rx; omega
  · omega

theorem add_tiny (x : Nat) (hx : x < 18446744073709551616) (rx : rightB x = true) : addE x 1 false = 0 ∧ addW x 1 false < 18446744073709551616 ∧ rightB (addW x 1 false) = true ∧ val x ≤ val (addW x 1 false) := by
  have hd := add_down x 1 rx right_1
  rw [val_1] at hd
  rcases hd with ⟨e0, d1, d2, _, d4⟩ | ⟨_, _, d3⟩
  · exact ⟨e0, d1, d2, d4 x hx rx (by omega)⟩
  · have := d3 x hx rx; omega

theorem half_down (w : World) : Calls Try.prog 89 #[.float .f64 1, .float .f64 4611686018427387904, .bool false] w fun r w' => r = .returned (.tuple #[.float .f64 0, .int .i64 0]) ∧ Below w.heap.size w w' :=
  div_lit _ _ _ _ _ w (by decide) (by decide) (by decide +kernel) (by decide +kernel)
theorem half_up (w : World) : Calls Try.prog 89 #[.float .f64 1, .float .f64 4611686018427387904, .bool true] w fun r w' => r = .returned (.tuple #[.float .f64 1, .int .i64 0]) ∧ Below w.heap.size w w' :=
  div_lit _ _ _ _ _ w (by decide) (by decide) (by decide +kernel) (by decide +kernel)

theorem same_self (a : Nat) (w : World) : Calls Try.prog 80 #[.float .f64 a, .float .f64 a] w fun r w' => r = .returned (.bool true) ∧ w = w' := by
  have h1 := run_bits
  go_enter Try.func80, Try.ntmps80
  go_wp2
  go_ret
  exact ⟨by simp, rfl⟩

end Go.Proofs.Ytdppppaoflhgdaa
