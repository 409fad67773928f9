
/- Plain mathematics of layer 1: how a word of 64 bits is a number. No program is named here. -/
import Derived.Laws.Bits64b
import Derived.Lib.ItoaNum
import Derived.RowKit
namespace Go.Proofs.Ytdppppaoflhgdaa
open Go.RowKit

/-- Is the word a finite number, and not minus 0? -/
def rightB (a : Nat) : Bool := decide (a % 9223372036854775808 < 9218868437227405312) && !decide (a = 9223372036854775808)
/-- Is it negative? -/
def sgnB (a : Nat) : Bool := decide (9223372036854775808 ≤ a)
/-- The word without its sign. -/
def rung (a : Nat) : Nat := a % 9223372036854775808
/-- The whole number, and the place of its last digit. -/
def mant (a : Nat) : Nat := if rung a / 4503599627370496 = 0 then rung a else 4503599627370496 + rung a % 4503599627370496
def expo (a : Nat) : Int := if rung a / 4503599627370496 = 0 then -1074 else -1075 + (rung a / 4503599627370496 : Nat)

theorem and_mask (a k : Nat) : a &&& (2 ^ k - 1) = a % 2 ^ k := Nat.and_two_pow_sub_one_eq_mod a k

theorem bits_andNot_u64_nat (a b : Nat) (ha : a < 18446744073709551616) (hb : b < 18446744073709551616) :
    bits .andNot .u64 (a : Int) (b : Int) = ((a &&& (18446744073709551615 - b) : Nat) : Int) := by
  have hx : a &&& (18446744073709551615 - b) < 2 ^ 64 := Nat.and_lt_two_pow _ (by omega)
  have h1 : (BitVec.ofInt 64 (a : Int)).toNat = a := by
    rw [BitVec.ofInt_natCast, BitVec.toNat_ofNat]; exact Nat.mod_eq_of_lt (by omega)
  have h2 : (BitVec.ofInt 64 (b : Int)).toNat = b := by
    rw [BitVec.ofInt_natCast, BitVec.toNat_ofNat]; exact Nat.mod_eq_of_lt (by omega)
  show IntKind.u64.wrap ((BitVec.ofInt 64 (a : Int) &&& ~~~ BitVec.ofInt 64 (b : Int)).toNat : Int) = _
  rw [BitVec.toNat_and, BitVec.toNat_not, h1, h2, IntKind.wrap_u64]
  have : (2 ^ 64 - 1 - b : Nat) = 18446744073709551615 - b := rfl
  rw [this]
  omega

theorem andNot_sign (a : Nat) (ha : a < 18446744073709551616) : bits .andNot .u64 (a : Int) 9223372036854775808 = (rung a : Int) := by
  rw [show (9223372036854775808 : Int) = ((9223372036854775808 : Nat) : Int) from rfl, bits_andNot_u64_nat a _ ha (by omega)]
  have h := and_mask a 63
  have e1 : (2 ^ 63 - 1 : Nat) = 18446744073709551615 - 9223372036854775808 := by decide
  have e2 : (2 ^ 63 : Nat) = 9223372036854775808 := by decide
  rw [e1, e2] at h
  rw [h]; rfl

theorem and_fract (a : Nat) (ha : a < 18446744073709551616) : bits .and .u64 (a : Int) 4503599627370495 = ((a % 4503599627370496 : Nat) : Int) := by
  rw [show (4503599627370495 : Int) = ((4503599627370495 : Nat) : Int) from rfl, bits_and_u64_nat a _ ha (by omega)]
  have h := and_mask a 52
  have e1 : (2 ^ 52 - 1 : Nat) = 4503599627370495 := by decide
  have e2 : (2 ^ 52 : Nat) = 4503599627370496 := by decide
  rw [e1, e2] at h
  rw [h]

theorem and_two_pow_eq (a k : Nat) : a &&& 2 ^ k = a / 2 ^ k % 2 * 2 ^ k := by
  have h1 : (a &&& 2 ^ k) / 2 ^ k = a / 2 ^ k % 2 := by
    rw [Nat.and_div_two_pow, Nat.div_self (Nat.two_pow_pos k), Nat.and_one_is_mod]
  have h2 : (a &&& 2 ^ k) % 2 ^ k = 0 := by
    rw [Nat.and_mod_two_pow, Nat.mod_self, Nat.and_zero]
  have h3 := Nat.div_add_mod (a &&& 2 ^ k) (2 ^ k)
  rw [h1, h2, Nat.add_zero, Nat.mul_comm] at h3
  exact h3.symm

theorem and_sign (a : Nat) (ha : a < 18446744073709551616) : (bits .and .u64 (a : Int) 9223372036854775808 != 0) = sgnB a := by
  rw [show (9223372036854775808 : Int) = ((9223372036854775808 : Nat) : Int) from rfl, bits_and_u64_nat a _ ha (by omega)]
  have h := and_two_pow_eq a 63
  have e2 : (2 ^ 63 : Nat) = 9223372036854775808 := by decide
  rw [e2] at h
  rw [h]
  unfold sgnB
  by_cases g : 9223372036854775808 ≤ a
  · rw [decide_eq_true g, bne_iff_ne]; omega
  · rw [decide_eq_false g]
    have : a / 9223372036854775808 % 2 * 9223372036854775808 = 0 := by omega
    rw [this]; rfl

theorem or_lead (m : Nat) (h : m < 4503599627370496) : bits .or .u64 (m : Int) 4503599627370496 = ((4503599627370496 + m : Nat) : Int) := by
  rw [show (4503599627370496 : Int) = ((4503599627370496 : Nat) : Int) from rfl, bits_or_u64_nat m _ (by omega) (by omega)]
  have e2 : (2 ^ 52 : Nat) = 4503599627370496 := by decide
  have g := Nat.two_pow_add_eq_or_of_lt (i := 52) (b := m) (by omega) 1
  rw [e2, Nat.mul_one] at g
  rw [g, Nat.or_comm]

theorem or_sign (m : Nat) (h : m < 9223372036854775808) : bits .or .u64 (m : Int) 9223372036854775808 = ((9223372036854775808 + m : Nat) : Int) := by
  rw [show (9223372036854775808 : Int) = ((9223372036854775808 : Nat) : Int) from rfl, bits_or_u64_nat m _ (by omega) (by omega)]
  have e2 : (2 ^ 63 : Nat) = 9223372036854775808 := by decide
  have g := Nat.two_pow_add_eq_or_of_lt (i := 63) (b := m) (by omega) 1
  rw [e2, Nat.mul_one] at g
  rw [g, Nat.or_comm]

theorem wrap64_in (n : Int) (h0 : -9223372036854775808 ≤ n) (h1 : n ≤ 9223372036854775807) : wrap64 n = n := by
  unfold wrap64; omega

theorem split_vals (a : Nat) (h : ((rung a : Int) / 4503599627370496 != 0) = true) :
    bits BinOp.or IntKind.u64 ((a : Int) % 4503599627370496) 4503599627370496 = (mant a : Int) ∧ wrap64 (-1074 + wrap64 (wrap64 ((rung a : Int) / 4503599627370496) - 1)) = expo a := by
  rw [bne_iff_ne] at h
  have hr : rung a < 9223372036854775808 := Nat.mod_lt _ (by decide)
  have e : ((a : Int) % 4503599627370496) = ((a % 4503599627370496 : Nat) : Int) := by omega
  have hm : rung a % 4503599627370496 = a % 4503599627370496 := by unfold rung; omega
  have hn : ¬ rung a / 4503599627370496 = 0 := by omega
  refine ⟨?_, ?_⟩
  · rw [e, or_lead _ (Nat.mod_lt _ (by decide))]; unfold mant; rw [if_neg hn, hm]
  · unfold expo
    rw [if_neg hn, wrap64_in ((rung a : Int) / 4503599627370496) (by omega) (by omega), wrap64_in ((rung a : Int) / 4503599627370496 - 1) (by omega) (by omega), wrap64_in _ (by omega) (by omega)]
    omega

theorem split_vals0 (a : Nat) (h : ((rung a : Int) / 4503599627370496 != 0) = false) : ((a : Int) % 4503599627370496) = (mant a : Int) ∧ (-1074 : Int) = expo a := by
  have hr : rung a / 4503599627370496 = 0 := by
    rw [bne_eq_false_iff_eq] at h; omega
  unfold mant expo; rw [if_pos hr, if_pos hr]
  refine ⟨?_, rfl⟩
  unfold rung at *; omega

/-- The two words of an integer of 128 bits. -/
def hiW (W : Nat) : Nat := W / 18446744073709551616
def loW (W : Nat) : Nat := W % 18446744073709551616
theorem hi_lo (W : Nat) : hiW W * 18446744073709551616 + loW W = W := by unfold hiW loW; omega
theorem lo_lt (W : Nat) : loW W < 18446744073709551616 := Nat.mod_lt _ (by decide)
theorem hi_lt (W : Nat) (h : W < 340282366920938463463374607431768211456) : hiW W < 18446744073709551616 := by unfold hiW; omega
theorem hi_mk (h l : Nat) (hl : l < 18446744073709551616) : hiW (h * 18446744073709551616 + l) = h := by unfold hiW; omega
theorem lo_mk (h l : Nat) (hl : l < 18446744073709551616) : loW (h * 18446744073709551616 + l) = l := by unfold loW; omega

/-- What a part with the whole number m, moved to the right by so many bits of 128, is (from 65 on: a mark that there is something). -/
def lowerW (m : Nat) (d : Int) : Nat := if 64 < d then min m 1 else m * 2 ^ (64 - d.toNat)

theorem lower_far (m : Nat) (d : Int) (h : 64 < d) : lowerW m d = min m 1 := by unfold lowerW; rw [if_pos h]

theorem pow_split (k : Nat) (h : k ≤ 64) : 2 ^ k * 2 ^ (64 - k) = 18446744073709551616 := by
  rw [← Nat.pow_add, show k + (64 - k) = 64 by omega]

theorem lower_near (m k : Nat) (h : k ≤ 64) : ((m : Int) / 2 ^ (k : Int).toNat) = (hiW (lowerW m k) : Int) ∧ IntKind.u64.wrap ((m : Int) * 2 ^ ((64 : Int) - k).toNat) = (loW (lowerW m k) : Int) := by
  have e1 : ((64 : Int) - k).toNat = 64 - k := by omega
  have e2 : (k : Int).toNat = k := by omega
  have e3 : lowerW m k = m * 2 ^ (64 - k) := by unfold lowerW; rw [if_neg (by omega), e2]
  have hp := pow_split k h
  have p1 : 0 < 2 ^ k := Nat.two_pow_pos k
  have p2 : 0 < 2 ^ (64 - k) := Nat.two_pow_pos _
  rw [e1, e2, e3, IntKind.wrap_u64]
  refine ⟨?_, ?_⟩
  · unfold hiW
    rw [← hp, Nat.mul_comm (2 ^ k), Nat.mul_comm m, Nat.mul_div_mul_left _ _ p2, Int.natCast_ediv]
    simp
  · unfold loW
    rw [Int.natCast_emod, Int.natCast_mul]
    simp

theorem min_one (m : Nat) : (if (m : Int) < 1 then (m : Int) else 1) = ((min m 1 : Nat) : Int) := by omega

/-- Is a part with the place e and the whole number m nearer to 0? -/
def nearB (e f m n : Int) : Bool := decide (e < f ∨ e = f ∧ m < n)

end Go.Proofs.Ytdppppaoflhgdaa
