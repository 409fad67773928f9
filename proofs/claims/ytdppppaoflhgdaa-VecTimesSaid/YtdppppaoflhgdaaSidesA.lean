
/- Contracts that the law DirSides calls: turned, math.Sqrt, and its five function literals. -/
import Derived.Test.YtdppppaoflhgdaaFair
import Derived.Test.YtdppppaoflhgdaaPartsW
namespace Go.Proofs.Ytdppppaoflhgdaa
open Go.RowKit

theorem xor_top (b : Nat) (h : b < 9223372036854775808) : b ^^^ 2 ^ 63 = 2 ^ 63 + b := by
  apply Nat.eq_of_testBit_eq
  intro i
  rw [Nat.testBit_xor]
  rcases Nat.lt_trichotomy i 63 with g | g | g
  · rw [Nat.testBit_two_pow_add_gt g, Nat.testBit_two_pow_of_ne (by omega), Bool.xor_false]
  · subst g
    rw [Nat.testBit_two_pow_add_eq, Nat.testBit_two_pow_self, Bool.xor_true]
  · have h1 : 2 ^ 64 ≤ 2 ^ i := Nat.pow_le_pow_right (by decide) g
    have h2 : b.testBit i = false := Nat.testBit_lt_two_pow (Nat.lt_of_lt_of_le (by omega) h1)
    have h3 : (2 ^ 63 + b).testBit i = false := Nat.testBit_lt_two_pow (Nat.lt_of_lt_of_le (by omega) h1)
    rw [h2, h3, Nat.testBit_two_pow_of_ne (by omega)]
    rfl

theorem neg_word (a : Nat) (ha : a < 18446744073709551616) (h0 : a ≠ 0) : Op.unary .neg (.float .f64 a) = pure (.float .f64 (turnW a)) := by
  have h : Op.negFloat .f64 a = turnW a := by
    have e : Op.negFloat .f64 a = a ^^^ 2 ^ 63 := rfl
    rw [e]
    unfold turnW
    rw [if_neg h0]
    by_cases h1 : a < 9223372036854775808
    · rw [if_pos h1, xor_top a h1]; omega
    · rw [if_neg h1]
      obtain ⟨b, hb⟩ : ∃ b, b = a - 9223372036854775808 := ⟨_, rfl⟩
      have hx := xor_top b (by omega)
      have ea : a = b ^^^ 2 ^ 63 := by rw [hx]; omega
      rw [← hb]
      rw [ea, Nat.xor_assoc, Nat.xor_self, Nat.xor_zero]
  show pure (Value.float .f64 (Op.negFloat .f64 a)) = _
  rw [h]

theorem root_neg (digits m : Nat) (i : Int) (hm : m ≠ 0) : Ieee.Datum.root digits (.number true m i) = none := by
  unfold Ieee.Datum.root
  simp only [if_neg hm, if_pos]

theorem sqrt_none (a : Nat) (ha : a < 18446744073709551616) (ra : rightB a = true) (sa : sgnB a = true) : FloatKind.f64.format.sqrt a = none := by
  have hm : mant a ≠ 0 := by
    intro h
    have := neg_rung ha ra sa
    rw [steps_parts, h, Nat.zero_mul] at this
    omega
  rw [fmt64]
  unfold Ieee.Format.sqrt
  rw [read_num a ha (right_rung a ra), sa, root_neg _ _ _ hm, Option.map_none]

theorem quo_inf (digits m : Nat) (s t : Bool) (i j : Int) (hm : m ≠ 0) : Ieee.Datum.quotient digits (.number s m i) (.number t 0 j) = some (.infinity (s ^^ t)) := by
  unfold Ieee.Datum.quotient
  simp only [if_pos, if_neg hm]

theorem quo_nil (a : Nat) (ha : a < 18446744073709551616) (ra : rightB a = true) (h0 : a ≠ 0) : ∃ r, floatBits .quo .f64 a 0 = some r := by
  have hm : mant a ≠ 0 := by
    intro h
    have h2 : steps (rung a) = 0 := by rw [steps_parts, h, Nat.zero_mul]
    have := (steps_zero _).1 h2
    have := right_ne a ra
    unfold rung at *
    omega
  have e0 : mant 0 = 0 := by decide
  refine ⟨Ieee.double.write (.infinity (sgnB a ^^ sgnB 0)), ?_⟩
  show ((Ieee.double.read a).quotient (Ieee.double.fractionBits + 2) (Ieee.double.read 0)).map Ieee.double.write = _
  rw [read_num a ha (right_rung a ra), read_num 0 (by decide) (by decide), e0, quo_inf _ _ _ _ _ _ hm, Option.map_some]

theorem quo_none : floatBits .quo .f64 0 0 = none := by decide +kernel

theorem run_quo_none (t : TypeId) (w : World) : ∃ r n, (binOp .quo t (.float .f64 0) (.float .f64 0)).run Try.prog w = .ok (.float .f64 r) (w.drewN n) := by
  have h : Ieee.Format.div FloatKind.f64.format 0 0 = none := quo_none
  by_cases hf : (Question.nanBits .f64 0 0).forced = true
  · refine ⟨0, 0, ?_⟩
    simp [binOp, Op.floatArith, h, hf]
    rfl
  · refine ⟨(Question.nanBits .f64 0 0).cut (w.tape w.drawn (.nanBits .f64 0 0)), 1, ?_⟩
    simp [binOp, Op.floatArith, h, hf]
    rfl

end Go.Proofs.Ytdppppaoflhgdaa
