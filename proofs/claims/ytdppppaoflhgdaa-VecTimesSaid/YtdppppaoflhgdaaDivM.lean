
/- Plain mathematics of the long division of math/bits: a guess of a digit, made less while it is too great, becomes the digit. No program is named here. -/
import Derived.Test.YtdppppaoflhgdaaNum
namespace Go.Proofs.Ytdppppaoflhgdaa
open Go.RowKit

/-- What holds of a guess q and its rest r, for the dividend u and its next digit d (of 32 bits), by the divisor y1 * 2^32 + y0. -/
structure Guess (y1 y0 u d q r : Nat) : Prop where
  y1lo : 2147483648 ≤ y1
  y1hi : y1 < 4294967296
  y0hi : y0 < 4294967296
  dhi : d < 4294967296
  ulo : u < y1 * 4294967296 + y0
  eq : q * y1 + r = u
  rlo : r < 4294967296
  qlo : (u * 4294967296 + d) / (y1 * 4294967296 + y0) ≤ q
  qhi : q ≤ 8589934592

theorem Guess.start (y1 y0 u d : Nat) (y1lo : 2147483648 ≤ y1) (y1hi : y1 < 4294967296) (y0hi : y0 < 4294967296) (dhi : d < 4294967296) (ulo : u < y1 * 4294967296 + y0) :
    Guess y1 y0 u d (u / y1) (u % y1) := by
  have h1 : u / y1 * y1 + u % y1 = u := by rw [Nat.mul_comm]; exact Nat.div_add_mod u y1
  have h2 : u % y1 < y1 := Nat.mod_lt _ (by omega)
  refine ⟨y1lo, y1hi, y0hi, dhi, ulo, h1, by omega, ?_, ?_⟩
  · -- (u * 2^32 + d) / N ≤ (u * 2^32 + d) / (y1 * 2^32) = u / y1
    have a1 : (u * 4294967296 + d) / (y1 * 4294967296 + y0) ≤ (u * 4294967296 + d) / (y1 * 4294967296) := Nat.div_le_div_left (by omega) (by omega)
    have a2 : (u * 4294967296 + d) / (y1 * 4294967296) = u / y1 := by
      rw [Nat.mul_comm y1, ← Nat.div_div_eq_div_mul]
      congr 1; omega
    omega
  · have : u / y1 ≤ u / 2147483648 := Nat.div_le_div_left y1lo (by decide)
    omega

theorem mulN (q y1 y0 r u d : Nat) (h : q * y1 + r = u) : q * (y1 * 4294967296 + y0) + (r * 4294967296 + d) = u * 4294967296 + d + q * y0 := by
  rw [Nat.mul_add, ← Nat.mul_assoc, ← h, Nat.add_mul]; omega

/-- A guess that is not too great is the digit. -/
theorem Guess.fits {y1 y0 u d q r : Nat} (g : Guess y1 y0 u d q r) (h : q * y0 ≤ 4294967296 * r + d) : q = (u * 4294967296 + d) / (y1 * 4294967296 + y0) := by
  have m := mulN q y1 y0 r u d g.eq
  have hN : 0 < y1 * 4294967296 + y0 := by have := g.y1lo; omega
  have : q ≤ (u * 4294967296 + d) / (y1 * 4294967296 + y0) := (Nat.le_div_iff_mul_le hN).2 (by omega)
  have := g.qlo
  omega

theorem digit_of (u d N : Nat) (h : u < N) (hd : d < 4294967296) : (u * 4294967296 + d) / N < 4294967296 := by
  rw [Nat.div_lt_iff_lt_mul (by omega)]
  have : (u + 1) * 4294967296 ≤ N * 4294967296 := Nat.mul_le_mul_right _ h
  omega

theorem digit_lt {y1 y0 u d : Nat} (h : u < y1 * 4294967296 + y0) (hd : d < 4294967296) : (u * 4294967296 + d) / (y1 * 4294967296 + y0) < 4294967296 := digit_of u d _ h hd

/-- A guess that is too great is at least 1, and one less is not too small. -/
theorem Guess.less {y1 y0 u d q r : Nat} (g : Guess y1 y0 u d q r) (h : 4294967296 ≤ q ∨ 4294967296 * r + d < q * y0) : 1 ≤ q ∧ (u * 4294967296 + d) / (y1 * 4294967296 + y0) ≤ q - 1 := by
  have hN : 0 < y1 * 4294967296 + y0 := by have := g.y1lo; omega
  have key : (u * 4294967296 + d) / (y1 * 4294967296 + y0) < q := by
    rcases h with h | h
    · exact Nat.lt_of_lt_of_le (digit_lt g.ulo g.dhi) h
    · rw [Nat.div_lt_iff_lt_mul hN]
      have m := mulN q y1 y0 r u d g.eq
      omega
  exact ⟨Nat.lt_of_le_of_lt (Nat.zero_le _) key, Nat.le_sub_one_of_lt key⟩

theorem Guess.on {y1 y0 u d q r : Nat} (g : Guess y1 y0 u d q r) (h : 4294967296 ≤ q ∨ 4294967296 * r + d < q * y0) (hr : r + y1 < 4294967296) : Guess y1 y0 u d (q - 1) (r + y1) := by
  obtain ⟨h1, h2⟩ := g.less h
  have e := g.eq
  have hq := g.qhi
  have e2 : (q - 1) * y1 + (r + y1) = u := by
    rw [← e, Nat.sub_mul, Nat.one_mul]
    have : y1 ≤ q * y1 := Nat.le_mul_of_pos_left y1 h1
    omega
  exact ⟨g.y1lo, g.y1hi, g.y0hi, g.dhi, g.ulo, e2, hr, h2, by omega⟩

/-- A guess that is left since its rest became great is the digit. -/
theorem Guess.out {y1 y0 u d q r : Nat} (g : Guess y1 y0 u d q r) (h : 4294967296 ≤ q ∨ 4294967296 * r + d < q * y0) (hr : 4294967296 ≤ r + y1) : q - 1 = (u * 4294967296 + d) / (y1 * 4294967296 + y0) := by
  obtain ⟨h1, h2⟩ := g.less h
  have e := g.eq
  have hN : 0 < y1 * 4294967296 + y0 := by have := g.y1lo; omega
  have e2 : (q - 1) * y1 + (r + y1) = u := by
    rw [← e, Nat.sub_mul, Nat.one_mul]
    have : y1 ≤ q * y1 := Nat.le_mul_of_pos_left y1 h1
    omega
  have hq : q - 1 ≤ 4294967296 := by
    -- (q - 1) * y1 ≤ u < (y1 + 1) * 2^32, and r + y1 ≥ 2^32
    have := g.ulo; have := g.y0hi; have := g.y1lo
    by_cases hc : q - 1 ≤ 4294967296
    · exact hc
    · have h3 : 4294967297 * y1 ≤ (q - 1) * y1 := Nat.mul_le_mul_right _ (by omega)
      omega
  have hy : (q - 1) * y0 ≤ 4294967296 * 4294967296 := Nat.mul_le_mul hq (Nat.le_of_lt g.y0hi)
  have m := mulN (q - 1) y1 y0 (r + y1) u d e2
  have h4 : 4294967296 * 4294967296 ≤ (r + y1) * 4294967296 := Nat.mul_le_mul_right _ hr
  have : q - 1 ≤ (u * 4294967296 + d) / (y1 * 4294967296 + y0) := (Nat.le_div_iff_mul_le hN).2 (by omega)
  omega

/-- A difference of words, where the true one is a word. -/
theorem sub_word (a u z x M : Nat) (hM : M = 18446744073709551616) (h : a * 4294967296 + u = z + x) (hx : x < M) :
    IntKind.u64.wrap (IntKind.u64.wrap (IntKind.u64.wrap ((a : Int) * 4294967296) + u) - IntKind.u64.wrap (z : Int)) = x := by
  subst hM
  simp only [IntKind.wrap_u64]
  omega

theorem join_word (a b : Nat) (ha : a < 4294967296) (hb : b < 4294967296) : IntKind.u64.wrap (IntKind.u64.wrap ((a : Int) * 4294967296) + b) = ((a * 4294967296 + b : Nat) : Int) := by
  simp only [IntKind.wrap_u64]
  omega

theorem two_steps (X K u N q r : Nat) (h : N * q + r = X) (hN : 0 < N) : (X * K + u) / N = q * K + (r * K + u) / N ∧ (X * K + u) % N = (r * K + u) % N := by
  have e2 : X * K + u = N * (q * K) + (r * K + u) := by
    rw [← h, Nat.add_mul, Nat.mul_assoc, Nat.add_assoc]
  rw [e2]
  exact ⟨by rw [Nat.mul_add_div hN], by rw [Nat.mul_add_mod]⟩

/-- The two digits are the quotient. -/
theorem two_digits (U u1 u0 N : Nat) (hN : 0 < N) :
    (U * 18446744073709551616 + (u1 * 4294967296 + u0)) / N = (U * 4294967296 + u1) / N * 4294967296 + ((U * 4294967296 + u1) % N * 4294967296 + u0) / N ∧
    (U * 18446744073709551616 + (u1 * 4294967296 + u0)) % N = ((U * 4294967296 + u1) % N * 4294967296 + u0) % N := by
  have e : U * 18446744073709551616 + (u1 * 4294967296 + u0) = (U * 4294967296 + u1) * 4294967296 + u0 := by omega
  rw [e]
  exact two_steps (U * 4294967296 + u1) 4294967296 u0 N _ _ (Nat.div_add_mod (U * 4294967296 + u1) N) hN

end Go.Proofs.Ytdppppaoflhgdaa
