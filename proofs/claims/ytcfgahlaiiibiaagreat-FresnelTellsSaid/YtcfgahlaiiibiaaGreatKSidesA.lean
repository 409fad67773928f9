/- Contracts that the law DirSides calls: turned, math.Sqrt, and its five function literals. -/
import Derived.Test.YtcfgahlaiiibiaaGreatKFair
import Derived.Test.YtcfgahlaiiibiaaGreatKPartsW
namespace Go.Proofs.YtcfgahlaiiibiaaGreat
open Go.RowKit

theorem xor_top (b : Nat) (h : b < 9223372036854775808) : b ^^^ 2 ^ 63 = 2 ^ 63 + b := by
  apply Nat.eq_of_testBit_eq
  intro i
  rw [Nat.testBit_xor]
  rcases Nat.lt_trichotomy i 63 with g | g | g
  · rw [Nat.testBit_two_pow_add_gt g, Nat.testBit_two_pow_of_ne (by omega), Bool.xor_false]
  · subst g
    rw [Nat.testBit_two_pow_add_eq, Nat.testBit_two_pow_self, Bool.xor_true]
  · have h1 : 2 ^ 64 ≤ 2 ^ i := Nat.pow_le_pow_right (by decide) g
    have h2 : b.testBit i = false := Nat.testBit_lt_two_pow (Nat.lt_of_lt_of_le (by omega) h1)
    have h3 : (2 ^ 63 + b).testBit i = false := Nat.testBit_lt_two_pow (Nat.lt_of_lt_of_le (by omega) h1)
    rw [h2, h3, Nat.testBit_two_pow_of_ne (by omega)]
    rfl

theorem neg_word (a : Nat) (ha : a < 18446744073709551616) (h0 : a ≠ 0) : Op.unary .neg (.float .f64 a) = pure (.float .f64 (turnW a)) := by
  have h : Op.negFloat .f64 a = turnW a := by
    have e : Op.negFloat .f64 a = a ^^^ 2 ^ 63 := rfl
    rw [e]
    unfold turnW
    rw [if_neg h0]
    by_cases h1 : a < 9223372036854775808
    · rw [if_pos h1, xor_top a h1]; omega
    · rw [if_neg h1]
      obtain ⟨b, hb⟩ : ∃ b, b = a - 9223372036854775808 := ⟨_, rfl⟩
      have hx := xor_top b (by omega)
      have ea : a = b ^^^ 2 ^ 63 := by rw [hx]; omega
      rw [← hb]
      rw [ea, Nat.xor_assoc, Nat.xor_self, Nat.xor_zero]
  show pure (Value.float .f64 (Op.negFloat .f64 a)) = _
  rw [h]

theorem run_root (a r : Nat) (h : FloatKind.f64.format.sqrt a = some r) (w : World) : (callFunc 166 #[.float .f64 a]).run Tryz.prog w = .ok (.value (.float .f64 r)) w := by
  rw [run_callFunc_extern (e := Extern.MathSqrt.sqrt) Tryz.func166 (by kernel_rfl) (by kernel_rfl) (by kernel_rfl) (by kernel_rfl)]
  have e : Extern.MathSqrt.sqrt #[.float .f64 a] = (match FloatKind.f64.format.sqrt a with
    | some r => pure (.float .f64 r)
    | none => do pure (.float .f64 (← choose (.nanBits .f64 a a)))) := rfl
  rw [e, h]
  rfl

theorem sqrt_call (a r : Nat) (h : FloatKind.f64.format.sqrt a = some r) (w : World) :
    Calls Tryz.prog 155 #[.float .f64 a] w fun e w' => e = .returned (.float .f64 r) ∧ w = w' := by
  have h1 := run_root a r h
  go_enter Tryz.func155, Tryz.ntmps155
  go_wp2
  go_ret
  exact ⟨rfl, rfl⟩

end Go.Proofs.YtcfgahlaiiibiaaGreat
