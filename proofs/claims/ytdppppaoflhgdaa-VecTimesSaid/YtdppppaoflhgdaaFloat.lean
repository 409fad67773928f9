
/- Plain mathematics of layer 1: what a word stands for, as a whole number of the least steps, and how words compare. No program is named here. -/
import Derived.Test.YtdppppaoflhgdaaNum
import Ieee.Arith
import GoSem.Core.Float
namespace Go.Proofs.Ytdppppaoflhgdaa
open Go.RowKit

theorem fmt64 : FloatKind.f64.format = Ieee.double := rfl
theorem sw64 : Ieee.double.signWeight = 9223372036854775808 := by decide
theorem bin64 : Ieee.double.binade = 4503599627370496 := by decide
theorem inf64 : Ieee.double.infRung = 9218868437227405312 := by decide
theorem lp64 : Ieee.double.leastPlace = -1074 := by decide

/-- A word whose rung is below that of infinity stands for its parts. -/
theorem read_num (a : Nat) (ha : a < 18446744073709551616) (h : rung a < 9218868437227405312) : Ieee.double.read a = .number (sgnB a) (mant a) (expo a) := by
  unfold Ieee.Format.read
  rw [sw64, bin64, inf64, lp64]
  have hs : (a / 9223372036854775808 % 2 == 1) = sgnB a := by
    unfold sgnB
    by_cases g : 9223372036854775808 ≤ a
    · rw [decide_eq_true g, beq_iff_eq]; omega
    · rw [decide_eq_false g, beq_eq_false_iff_ne]; omega
  have hr : a % 9223372036854775808 = rung a := rfl
  dsimp only
  rw [hs, hr]
  unfold mant expo
  by_cases g : rung a < 4503599627370496
  · have g' : rung a / 4503599627370496 = 0 := by omega
    rw [if_pos g, if_pos g', if_pos g']
  · have g' : ¬ rung a / 4503599627370496 = 0 := by omega
    rw [if_neg g, if_pos h, if_neg g', if_neg g']
    have : (-1074 : Int) + ((rung a / 4503599627370496 - 1 : Nat) : Int) = -1075 + ((rung a / 4503599627370496 : Nat) : Int) := by omega
    rw [this]

theorem right_rung (a : Nat) (h : rightB a = true) : rung a < 9218868437227405312 := by
  unfold rightB at h; simp at h; exact h.1
theorem right_ne (a : Nat) (h : rightB a = true) : a ≠ 9223372036854775808 := by
  unfold rightB at h; simp at h; exact h.2

/-- How many of the least steps a rung stands for. -/
def steps (r : Nat) : Nat := if r / 4503599627370496 = 0 then r else (4503599627370496 + r % 4503599627370496) * 2 ^ (r / 4503599627370496 - 1)
/-- The number that a word stands for, in least steps. -/
def val (a : Nat) : Int := if sgnB a then -(steps (rung a) : Int) else (steps (rung a) : Int)

theorem steps_parts (a : Nat) : steps (rung a) = mant a * 2 ^ (expo a + 1074).toNat := by
  unfold steps mant expo
  by_cases g : rung a / 4503599627370496 = 0
  · rw [if_pos g, if_pos g, if_pos g]
    show _ = rung a * 2 ^ 0
    rw [Nat.pow_zero, Nat.mul_one]
  · rw [if_neg g, if_neg g, if_neg g]
    congr 2
    omega

theorem signed_mul (s : Bool) (m i k : Nat) : Ieee.signed s m (i + k) = Ieee.signed s m i * ((2 ^ k : Nat) : Int) := by
  unfold Ieee.signed
  rw [Nat.shiftLeft_eq, Nat.shiftLeft_eq, Nat.pow_add, ← Nat.mul_assoc]
  cases s <;> simp [Int.natCast_mul, Int.neg_mul]

theorem val_signed (a : Nat) : val a = Ieee.signed (sgnB a) (mant a) (expo a + 1074).toNat := by
  unfold val Ieee.signed
  rw [steps_parts, Nat.shiftLeft_eq]

theorem compare_mul (x y : Int) (k : Nat) (hk : 0 < k) : compare (x * (k : Int)) (y * (k : Int)) = compare x y := by
  have hk' : (0 : Int) < k := by omega
  rcases Int.lt_trichotomy x y with h | h | h
  · rw [Int.compare_eq_lt.2 h, Int.compare_eq_lt.2 (Int.mul_lt_mul_of_pos_right h hk')]
  · subst h; rw [Int.compare_eq_eq.2 rfl, Int.compare_eq_eq.2 rfl]
  · rw [Int.compare_eq_gt.2 h, Int.compare_eq_gt.2 (Int.mul_lt_mul_of_pos_right h hk')]

theorem expo_ge (a : Nat) : -1074 ≤ expo a := by unfold expo; split <;> omega

/-- Words of finite numbers compare as their numbers do. -/
theorem order_val (a b : Nat) (ha : a < 18446744073709551616) (hb : b < 18446744073709551616) (ra : rung a < 9218868437227405312) (rb : rung b < 9218868437227405312) :
    FloatKind.f64.format.order a b = some (compare (val a) (val b)) := by
  rw [fmt64]
  unfold Ieee.Format.order
  rw [read_num a ha ra, read_num b hb rb]
  unfold Ieee.Datum.order
  have ea := expo_ge a
  have eb := expo_ge b
  have hpos : 0 < 2 ^ (min (expo a) (expo b) + 1074).toNat := Nat.two_pow_pos _
  have e1 : val a = Ieee.signed (sgnB a) (mant a) (expo a - min (expo a) (expo b)).toNat * ((2 ^ (min (expo a) (expo b) + 1074).toNat : Nat) : Int) := by
    rw [val_signed, ← signed_mul]; congr 1; omega
  have e2 : val b = Ieee.signed (sgnB b) (mant b) (expo b - min (expo a) (expo b)).toNat * ((2 ^ (min (expo a) (expo b) + 1074).toNat : Nat) : Int) := by
    rw [val_signed, ← signed_mul]; congr 1; omega
  rw [e1, e2, compare_mul _ _ _ hpos]

end Go.Proofs.Ytdppppaoflhgdaa
