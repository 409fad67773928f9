
/- Plain mathematics of layer 1: the nearest word of the model's floats is the floor or the ceiling. No program is named here. -/
import Derived.Test.YtdppppaoflhgdaaDivR
namespace Go.Proofs.Ytdppppaoflhgdaa
open Go.RowKit

theorem cut_even (neg : Bool) (n drop : Nat) : Ieee.Toward.even.cut neg n drop = n / 2 ^ drop ∨ (Ieee.Toward.even.cut neg n drop = n / 2 ^ drop + 1 ∧ n % 2 ^ drop ≠ 0) := by
  unfold Ieee.Toward.cut
  simp only [Nat.shiftLeft_eq, Nat.one_mul]
  by_cases h : drop ≤ n.log2 + 2
  · rw [Nat.min_eq_left h]
    have hp : 0 < 2 ^ drop := Nat.two_pow_pos _
    cases hc : (decide (2 ^ drop < 2 * (n % 2 ^ drop)) || (2 ^ drop == 2 * (n % 2 ^ drop) && n / 2 ^ drop % 2 == 1))
    · left; rfl
    · right
      refine ⟨rfl, ?_⟩
      intro h0
      rw [h0] at hc
      simp at hc
  · rw [Nat.min_eq_right (by omega)]
    have h1 : n < 2 ^ (n.log2 + 1) := Nat.lt_log2_self
    have e : 2 ^ (n.log2 + 2) = 2 ^ (n.log2 + 1) * 2 := Nat.pow_succ ..
    have h2 : n < 2 ^ (n.log2 + 2) := by omega
    have h3 : n < 2 ^ drop := Nat.lt_of_lt_of_le h2 (Nat.pow_le_pow_right (by decide) (by omega))
    left
    rw [Nat.div_eq_of_lt h2, Nat.mod_eq_of_lt h2, Nat.div_eq_of_lt h3]
    have hc : (decide (2 ^ (n.log2 + 2) < 2 * n) || (2 ^ (n.log2 + 2) == 2 * n && 0 % 2 == 1)) = false := by
      rw [decide_eq_false (by omega)]
      simp
    rw [hc]
    rfl

/-- The nearest rung is no less than each that is not above, and no greater than each that is not below. -/
theorem near_rung (neg : Bool) (mag : Nat) (place : Int) (h0 : mag ≠ 0) (hp : -6000 ≤ place) :
    ∃ R, Ieee.double.nearest neg mag place = Ieee.double.word neg (min R 9218868437227405312) ∧ (∀ r, steps r * 2 ^ sc ≤ real mag place → r ≤ R) ∧ (∀ r, real mag place ≤ steps r * 2 ^ sc → R ≤ r) := by
  have hs := sc_eq
  have l1 : 2 ^ mag.log2 ≤ mag := Nat.log2_self_le h0
  have l2 : mag < 2 ^ (mag.log2 + 1) := Nat.lt_log2_self
  -- the place of the last digit that is kept
  obtain ⟨last, hlast⟩ : ∃ last : Int, last = max (place + mag.log2 - 52) (-1074) := ⟨_, rfl⟩
  have hR : Ieee.double.nearest neg mag place = Ieee.double.word neg (min ((last + 1074).toNat * 4503599627370496 + Ieee.Toward.even.cut neg (mag * 2 ^ (place - last).toNat) (last - place).toNat) 9218868437227405312) := by
    unfold Ieee.Format.nearest
    rw [if_neg h0, bin64, inf64, lp64]
    have e1 : (max (place + (mag.log2 : Int) - ((Ieee.double.fractionBits : Nat) : Int)) (-1074)) = last := by rw [hlast]; rfl
    simp only [e1, Nat.shiftLeft_eq]
    have e2 : (last - -1074).toNat = (last + 1074).toNat := by omega
    rw [e2]
  refine ⟨_, hR, ?_⟩
  have hc := cut_even neg (mag * 2 ^ (place - last).toNat) (last - place).toNat
  -- the digits that are kept, and what they stand for
  obtain ⟨low, hlow⟩ : ∃ low, low = mag * 2 ^ (place - last).toNat / 2 ^ (last - place).toNat := ⟨_, rfl⟩
  have hd : 0 < 2 ^ (last - place).toNat := Nat.two_pow_pos _
  have hpp : 0 < 2 ^ (place + 1074 + (sc : Int) - (place - last).toNat).toNat := Nat.two_pow_pos _
  have b1 : low * 2 ^ (last - place).toNat ≤ mag * 2 ^ (place - last).toNat := by rw [hlow]; exact Nat.div_mul_le_self _ _
  have b2 : mag * 2 ^ (place - last).toNat < (low + 1) * 2 ^ (last - place).toNat := by
    have := Nat.lt_mul_div_succ (mag * 2 ^ (place - last).toNat) hd
    rw [Nat.mul_comm (2 ^ (last - place).toNat)] at this; rw [hlow]; exact this
  have eK : ∀ M, M * 2 ^ (last + 1074).toNat * 2 ^ sc = M * 2 ^ (last - place).toNat * 2 ^ (place + 1074 + (sc : Int) - (place - last).toNat).toNat := by
    intro M
    rw [Nat.mul_assoc, Nat.mul_assoc, ← Nat.pow_add, ← Nat.pow_add]
    congr 2; omega
  have eR : real mag place = mag * 2 ^ (place - last).toNat * 2 ^ (place + 1074 + (sc : Int) - (place - last).toNat).toNat := by
    unfold real
    rw [Nat.mul_assoc, ← Nat.pow_add]
    congr 2; omega
  have hnorm : low < 9007199254740992 ∧ ((last + 1074).toNat = 0 ∨ 4503599627370496 ≤ low) := by
    have e53 : (9007199254740992 : Nat) = 2 ^ 53 := by decide
    have e52 : (4503599627370496 : Nat) = 2 ^ 52 := by decide
    constructor
    · rw [hlow, Nat.div_lt_iff_lt_mul hd, e53, ← Nat.pow_add]
      have : mag * 2 ^ (place - last).toNat < 2 ^ (mag.log2 + 1) * 2 ^ (place - last).toNat := Nat.mul_lt_mul_of_pos_right l2 (Nat.two_pow_pos _)
      rw [← Nat.pow_add] at this
      exact Nat.lt_of_lt_of_le this (Nat.pow_le_pow_right (by decide) (by omega))
    · by_cases c : last = -1074
      · left; omega
      · right
        rw [hlow, Nat.le_div_iff_mul_le hd, e52, ← Nat.pow_add]
        have : 2 ^ mag.log2 * 2 ^ (place - last).toNat ≤ mag * 2 ^ (place - last).toNat := Nat.mul_le_mul_right _ l1
        rw [← Nat.pow_add] at this
        exact Nat.le_trans (Nat.pow_le_pow_right (by decide) (by omega)) this
  have s1 := steps_km (last + 1074).toNat low (by omega) hnorm.2
  have s2 := steps_km (last + 1074).toNat (low + 1) (by omega) (by omega)
  have f1 : steps ((last + 1074).toNat * 4503599627370496 + low) * 2 ^ sc ≤ real mag place := by
    rw [s1, eK, eR]; exact Nat.mul_le_mul_right _ b1
  have f2 : real mag place < steps ((last + 1074).toNat * 4503599627370496 + (low + 1)) * 2 ^ sc := by
    rw [s2, eK, eR]; exact Nat.mul_lt_mul_of_pos_right b2 hpp
  have hsc : 0 < 2 ^ sc := Nat.two_pow_pos _
  have floor : ∀ r, steps r * 2 ^ sc ≤ real mag place → r ≤ (last + 1074).toNat * 4503599627370496 + low := by
    intro r h
    have := Nat.lt_of_mul_lt_mul_right (Nat.lt_of_le_of_lt h f2)
    rcases Nat.lt_or_ge ((last + 1074).toNat * 4503599627370496 + low) r with g | g
    · have := steps_le (show (last + 1074).toNat * 4503599627370496 + (low + 1) ≤ r by omega); omega
    · exact g
  have ceil0 : ∀ r, real mag place ≤ steps r * 2 ^ sc → (last + 1074).toNat * 4503599627370496 + low ≤ r := by
    intro r h
    exact (steps_le_iff _ _).1 (Nat.le_of_mul_le_mul_right (Nat.le_trans f1 h) hsc)
  rw [← hlow] at hc
  rcases hc with hc | ⟨hc, hne⟩
  · rw [hc]; exact ⟨floor, ceil0⟩
  · rw [hc]
    refine ⟨fun r h => by have := floor r h; omega, fun r h => ?_⟩
    have hlt : steps ((last + 1074).toNat * 4503599627370496 + low) * 2 ^ sc < real mag place := by
      rw [s1, eK, eR]
      refine Nat.mul_lt_mul_of_pos_right ?_ hpp
      have h1 := Nat.div_add_mod (mag * 2 ^ (place - last).toNat) (2 ^ (last - place).toNat)
      rw [← hlow, Nat.mul_comm] at h1
      omega
    have := Nat.lt_of_mul_lt_mul_right (Nat.lt_of_lt_of_le hlt h)
    rcases Nat.lt_or_ge ((last + 1074).toNat * 4503599627370496 + low) r with g | g
    · omega
    · have := steps_le g; omega

end Go.Proofs.Ytdppppaoflhgdaa
