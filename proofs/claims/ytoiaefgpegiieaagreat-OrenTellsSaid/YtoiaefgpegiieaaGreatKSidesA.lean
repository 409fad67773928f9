/- Contracts that the law DirSides calls: turned, math.Sqrt, and its five function literals. -/
import Derived.Test.YtoiaefgpegiieaaGreatKFair
import Derived.Test.YtoiaefgpegiieaaGreatKParts
namespace Go.Proofs.YtoiaefgpegiieaaGreat
open Go.RowKit

theorem xor_top (b : Nat) (h : b < 9223372036854775808) : b ^^^ 2 ^ 63 = 2 ^ 63 + b := by
  apply Nat.eq_of_testBit_eq
  intro i
  rw [Nat.testBit_xor]
  rcases Nat.lt_trichotomy i 63 with g | g | g
  · rw [Nat.testBit_two_pow_add_gt g, Nat.testBit_two_pow_of_ne (by omega), Bool.xor_false]
  · subst g
    rw [Nat.testBit_two_pow_add_eq, Nat.testBit_two_pow_self, Bool.xor_true]
  · have h1 : 2 ^ 64 ≤ 2 ^ i := Nat.pow_le_pow_right (by decide) g
    have h2 : b.testBit i = false := Nat.testBit_lt_two_pow (Nat.lt_of_lt_of_le (by omega) h1)
    have h3 : (2 ^ 63 + b).testBit i = false := Nat.testBit_lt_two_pow (Nat.lt_of_lt_of_le (by omega) h1)
    rw [h2, h3, Nat.testBit_two_pow_of_ne (by omega)]
    rfl

end Go.Proofs.YtoiaefgpegiieaaGreat
