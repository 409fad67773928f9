/- Plain mathematics of layer 1: the two sides of an operation, and its nearest number. -/
import Derived.Test.YtoiaefgpegiieaaGreatKNearD
import Derived.Test.YtoiaefgpegiieaaGreatKNext
namespace Go.Proofs.YtoiaefgpegiieaaGreat
open Go.RowKit

def turnW (d : Nat) : Nat := if d = 0 then 0 else if d < 9223372036854775808 then d + 9223372036854775808 else d - 9223372036854775808

theorem turn_facts (d : Nat) (hd : d < 18446744073709551616) (rd : rightB d = true) : turnW d < 18446744073709551616 ∧ rightB (turnW d) = true ∧ val (turnW d) = -val d := by
  unfold turnW
  by_cases h0 : d = 0
  · subst h0; rw [if_pos rfl]; decide
  · rw [if_neg h0]
    have hr := right_rung d rd
    have hn : d ≠ 9223372036854775808 := fun h => by subst h; exact absurd rd (by decide)
    by_cases h1 : d < 9223372036854775808
    · rw [if_pos h1]
      have e1 : rung (d + 9223372036854775808) = rung d := by unfold rung; omega
      have e2 : sgnB (d + 9223372036854775808) = true := by unfold sgnB; exact decide_eq_true (by omega)
      have e3 : sgnB d = false := by unfold sgnB; exact decide_eq_false (by omega)
      refine ⟨by omega, ?_, ?_⟩
      · unfold rung at hr
        unfold rightB
        rw [decide_eq_true (by omega), decide_eq_false (by omega)]; rfl
      · rw [val_negs e2, val_pos e3, e1]
    · rw [if_neg h1]
      have e1 : rung (d - 9223372036854775808) = rung d := by unfold rung; omega
      have e2 : sgnB (d - 9223372036854775808) = false := by unfold sgnB; exact decide_eq_false (by omega)
      have e3 : sgnB d = true := by unfold sgnB; exact decide_eq_true (by omega)
      refine ⟨by omega, ?_, ?_⟩
      · unfold rung at hr
        unfold rightB
        rw [decide_eq_true (by omega), decide_eq_false (by omega)]; rfl
      · rw [val_pos e2, val_negs e3, e1, Int.neg_neg]

theorem turn_max : turnW 9218868437227405311 = 18442240474082181119 := by decide
theorem val_min (d : Nat) (hd : d < 18446744073709551616) (rd : rightB d = true) : val 18442240474082181119 ≤ val d := by
  obtain ⟨_, a2, a3⟩ := turn_facts d hd rd
  have h1 := val_max _ a2
  obtain ⟨_, _, b3⟩ := turn_facts 9218868437227405311 (by decide) right_max
  rw [turn_max] at b3
  omega

structure Fair (x y r : Nat) : Prop where
  lx : x < 18446744073709551616
  ly : y < 18446744073709551616
  rx : rightB x = true
  ry : rightB y = true
  gt : (FloatKind.f64.format.order x y == some Ordering.gt) = false
  step : (FloatKind.f64.format.order x y == some Ordering.eq) = true ∨ (FloatKind.f64.format.order x y == some Ordering.eq) = false ∧ (FloatKind.f64.format.order (addW x 1 true) y == some Ordering.eq) = true
  near : (FloatKind.f64.format.order r x == some Ordering.eq) = true ∨ (FloatKind.f64.format.order r y == some Ordering.eq) = true

end Go.Proofs.YtoiaefgpegiieaaGreat
