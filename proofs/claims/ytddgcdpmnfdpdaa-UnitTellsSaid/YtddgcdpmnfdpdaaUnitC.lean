
/- math.Ldexp of a number from 2^-1022 to 1 by 64: what it answers is 2^64 times the number. The examples of layer 3. -/
import Derived.Test.YtddgcdpmnfdpdaaUnitB
namespace Go.Proofs.Ytddgcdpmnfdpdaa
open Go.RowKit

set_option maxRecDepth 100000 in
theorem and_2047 : ∀ n : Nat, n < 2048 → bits .and .i64 (n : Int) 2047 = (n : Int) := by decide +kernel

theorem andNot_field (a : Nat) (ha : a < 9223372036854775808) : bits .andNot .u64 (a : Int) 9218868437227405312 = ((a % 4503599627370496 : Nat) : Int) := by
  rw [show (9218868437227405312 : Int) = ((9218868437227405312 : Nat) : Int) from rfl, bits_andNot_u64_nat a _ (by omega) (by decide)]
  congr 1
  have e : (18446744073709551615 - 9218868437227405312 : Nat) = 2 ^ 63 ||| (2 ^ 52 - 1) := by decide
  rw [e, Nat.and_or_distrib_left, Nat.and_two_pow_sub_one_eq_mod]
  have h : a &&& 2 ^ 63 = 0 := by
    have h1 := and_two_pow_eq a 63
    rw [h1, Nat.div_eq_of_lt (by omega)]
  rw [h, Nat.zero_or]

theorem or_field (a k : Nat) (ha : a < 4503599627370496) (hk : k < 2048) : bits .or .u64 ((a : Nat) : Int) ((k * 4503599627370496 : Nat) : Int) = ((k * 4503599627370496 + a : Nat) : Int) := by
  rw [bits_or_u64_nat _ _ (by omega) (by omega)]
  congr 1
  rw [Nat.or_comm]
  have := or_add k a 52 (by omega)
  exact this

/-- A number that is not subnormal, 64 powers of two up. -/
theorem steps_up (F : Nat) (h : 4503599627370496 ≤ F) : steps (F + 288230376151711744) = steps F * 18446744073709551616 := by
  unfold steps
  rw [if_neg (by omega), if_neg (by omega), show (F + 288230376151711744) / 4503599627370496 - 1 = F / 4503599627370496 - 1 + 64 by omega, show (F + 288230376151711744) % 4503599627370496 = F % 4503599627370496 by omega, Nat.pow_add, ← Nat.mul_assoc]

theorem val_least_normal : val 4503599627370496 = 4503599627370496 := by decide

theorem ldexp_64 (F : Nat) (w : World) (h1 : 4503599627370496 ≤ F) (h2 : F ≤ 4607182418800017408) :
    Calls Try.prog 52 #[.float .f64 F, .int .i64 64] w fun r w' => r = .returned (.float .f64 (F + 288230376151711744)) ∧ w = w' := by
  obtain ⟨f1, f2, f3, f4, f5⟩ := pos_facts F (by omega)
  obtain ⟨g1, g2, g3, g4, g5⟩ := pos_facts (F + 288230376151711744) (by omega)
  have hge : 4503599627370496 ≤ steps F := by
    have := steps_le h1
    have e : steps 4503599627370496 = 4503599627370496 := by decide
    omega
  have hup := steps_up F h1
  obtain ⟨E, hE⟩ : ∃ E, E = F / 4503599627370496 := ⟨_, rfl⟩
  obtain ⟨M, hM⟩ : ∃ M, M = F % 4503599627370496 := ⟨_, rfl⟩
  have hX : (E + 64) * 4503599627370496 + M = F + 288230376151711744 := by omega
  refine ldexp_at F M ((E + 64) * 4503599627370496) (F + 288230376151711744) (F + 288230376151711744) 64 E (64 + ((E : Int) - 1023)) w (by rw [andNot_sign F f1, f4]) ?_ ?_ ?_ ?_ (by rw [hE]; exact (Int.natCast_ediv _ _).symm) (by omega) (by omega) (and_2047 E (by omega)) (by decide) (by decide) rfl (by omega) (by omega)
    (by rw [andNot_field F (by omega), hM]) ?_ ?_ ?_
  · rw [order_eq F 0 f1 (by decide) f2 right_0, val_0]; exact decide_eq_false (by omega)
  · rw [order_gt F _ f1 (by decide) f2 right_max]
    refine decide_eq_false ?_
    have := val_max F f2
    omega
  · have := order_eq F F f1 f1 f2 f2
    rw [decide_eq_true rfl] at this
    rw [bne, this]; rfl
  · rw [order_lt F _ f1 (by decide) f2 (by decide), val_least_normal]; exact decide_eq_false (by omega)
  · rw [IntKind.wrap_u64]; omega
  · rw [or_field M (E + 64) (by omega) (by omega), hX]
  · exact mul_exact _ _ _ (by decide) g1 right_one g2 (by omega) (by omega) (by rw [val_one, Int.mul_comm])

theorem ldexp_zero (e : Int) (w : World) : Calls Try.prog 52 #[.float .f64 0, .int .i64 e] w fun r w' => r = .returned (.float .f64 0) ∧ w = w' := by
  have o1 : (FloatKind.f64.format.order 0 0 == some Ordering.eq) = true := by decide +kernel
  go_enter Try.func52, Try.ntmps52
  go_wp2
  go_ret
  exact ⟨rfl, rfl⟩

end Go.Proofs.Ytddgcdpmnfdpdaa
