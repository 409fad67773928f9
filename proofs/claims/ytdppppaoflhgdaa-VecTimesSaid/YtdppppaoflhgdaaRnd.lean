
/- Plain mathematics of layer 1: what is cut off and kept in rounding is the greatest rung not above, and the least one not below. -/
import Derived.Test.YtdppppaoflhgdaaDirG
namespace Go.Proofs.Ytdppppaoflhgdaa
open Go.RowKit

theorem steps_succ (r : Nat) : steps (r + 1) = steps r + 2 ^ (r / 4503599627370496 - 1) := by
  unfold steps
  by_cases h0 : r / 4503599627370496 = 0
  · rw [if_pos h0, h0]
    by_cases h1 : (r + 1) / 4503599627370496 = 0
    · rw [if_pos h1]
    · rw [if_neg h1]
      have e1 : (r + 1) / 4503599627370496 = 1 := by omega
      have e2 : (r + 1) % 4503599627370496 = 0 := by omega
      rw [e1, e2]
      show (4503599627370496 + 0) * 2 ^ 0 = r + 2 ^ 0
      rw [Nat.pow_zero]; omega
  · rw [if_neg h0, if_neg (by omega)]
    by_cases h1 : (r + 1) % 4503599627370496 = 0
    · have e1 : (r + 1) / 4503599627370496 - 1 = r / 4503599627370496 - 1 + 1 := by omega
      have e2 : r % 4503599627370496 = 4503599627370495 := by omega
      rw [e1, h1, e2, Nat.pow_succ]
      omega
    · have e1 : (r + 1) / 4503599627370496 = r / 4503599627370496 := by omega
      have e2 : (r + 1) % 4503599627370496 = r % 4503599627370496 + 1 := by omega
      rw [e1, e2, ← Nat.add_assoc, Nat.add_mul (4503599627370496 + r % 4503599627370496), Nat.one_mul]

theorem steps_lt_succ (r : Nat) : steps r < steps (r + 1) := by
  rw [steps_succ]; have := Nat.two_pow_pos (r / 4503599627370496 - 1); omega

theorem steps_lt {r s : Nat} (h : r < s) : steps r < steps s := by
  induction s with
  | zero => omega
  | succ s ih =>
    have := steps_lt_succ s
    by_cases c : r = s
    · subst c; exact this
    · have := ih (by omega); omega

theorem steps_le {r s : Nat} (h : r ≤ s) : steps r ≤ steps s := by
  by_cases c : r = s
  · subst c; exact Nat.le_refl _
  · exact Nat.le_of_lt (steps_lt (by omega))

theorem steps_le_iff (r s : Nat) : steps r ≤ steps s ↔ r ≤ s :=
  ⟨fun h => by
    rcases Nat.lt_or_ge s r with g | g
    · have := steps_lt g; omega
    · exact g, steps_le⟩

theorem steps_km (K M : Nat) (hM : M ≤ 9007199254740992) (h : K = 0 ∨ 4503599627370496 ≤ M) : steps (K * 4503599627370496 + M) = M * 2 ^ K := by
  unfold steps
  by_cases h1 : M < 4503599627370496
  · have hK : K = 0 := by omega
    subst hK
    have e1 : (0 * 4503599627370496 + M) / 4503599627370496 = 0 := by omega
    rw [if_pos e1]; simp
  · by_cases h2 : M = 9007199254740992
    · have e1 : (K * 4503599627370496 + M) / 4503599627370496 = K + 2 := by omega
      have e2 : (K * 4503599627370496 + M) % 4503599627370496 = 0 := by omega
      rw [if_neg (by omega), e1, e2, h2]
      show (4503599627370496 + 0) * 2 ^ (K + 1) = _
      rw [Nat.pow_succ]; omega
    · have e1 : (K * 4503599627370496 + M) / 4503599627370496 = K + 1 := by omega
      have e2 : (K * 4503599627370496 + M) % 4503599627370496 = M - 4503599627370496 := by omega
      rw [if_neg (by omega), e1, e2]
      rw [show 4503599627370496 + (M - 4503599627370496) = M by omega, show K + 1 - 1 = K by omega]

/-- A scale that is fine enough for all that is rounded. -/
def sc : Nat := 6000
theorem sc_eq : sc = 6000 := rfl
/-- What is to be rounded, in that scale. -/
def real (W : Nat) (x : Int) : Nat := W * 2 ^ (x + 1074 + sc).toNat

structure Kept (W : Nat) (x : Int) : Prop where
  floor : steps (keptK W x * 4503599627370496 + keptM W x) * 2 ^ sc ≤ real W x
  ceil : real W x < steps (keptK W x * 4503599627370496 + keptM W x + 1) * 2 ^ sc
  all : keptAll W x = true ↔ steps (keptK W x * 4503599627370496 + keptM W x) * 2 ^ sc = real W x

theorem div_two (V C : Nat) : V / 18446744073709551616 / 2 ^ C = V / 2 ^ (64 + C) := by
  rw [Nat.div_div_eq_div_mul, Nat.pow_add]

theorem all_iff (V C : Nat) (hV : V < 340282366920938463463374607431768211456) :
    (V / 18446744073709551616 = V / 2 ^ (64 + C) * 2 ^ C % 18446744073709551616 ∧ V % 18446744073709551616 = 0) ↔ V / 2 ^ (64 + C) * 2 ^ (64 + C) = V := by
  have e : V / 2 ^ (64 + C) = V / 18446744073709551616 / 2 ^ C := (div_two V C).symm
  have hle : V / 18446744073709551616 / 2 ^ C * 2 ^ C ≤ V / 18446744073709551616 := Nat.div_mul_le_self _ _
  have hlt : V / 18446744073709551616 / 2 ^ C * 2 ^ C < 18446744073709551616 := by omega
  rw [e, Nat.mod_eq_of_lt hlt, Nat.pow_add, ← Nat.mul_assoc, Nat.mul_right_comm]
  show _ ↔ V / 18446744073709551616 / 2 ^ C * 2 ^ C * 18446744073709551616 = V
  omega

theorem kept (W : Nat) (x : Int) (h0 : W ≠ 0) (hW : W < 340282366920938463463374607431768211456) (hx : -5000 ≤ x) : Kept W x := by
  obtain ⟨hV2, hV1⟩ := ahead_lt W h0 hW
  have hC := keptC_ge W x
  have hlz : lzW W ≤ 127 := by unfold lzW; omega
  have hs := sc_eq
  -- exponents
  have hp : (x + 1074 + (sc : Int)).toNat = lzW W + (x - (lzW W : Int) + 1074 + sc).toNat := by omega
  have hKC : keptK W x + sc = 64 + keptC W x + (x - (lzW W : Int) + 1074 + sc).toNat := by unfold keptK keptC; omega
  have hMdef : keptM W x = W * 2 ^ lzW W / 2 ^ (64 + keptC W x) := by
    unfold keptM shrN hiW; exact div_two _ _
  have hMle := keptM_le W x (hi_lt _ hV2)
  have hnorm : keptK W x = 0 ∨ 4503599627370496 ≤ keptM W x := by
    by_cases c : keptC W x = 11
    · right
      unfold keptM shrN hiW
      rw [c]
      omega
    · left
      unfold keptC at c
      unfold keptK
      omega
  have hreal : real W x = W * 2 ^ lzW W * 2 ^ (x - (lzW W : Int) + 1074 + sc).toNat := by
    unfold real; rw [hp, Nat.pow_add, Nat.mul_assoc]
  have hfl : ∀ M, M ≤ 9007199254740992 → (keptK W x = 0 ∨ 4503599627370496 ≤ M) → steps (keptK W x * 4503599627370496 + M) * 2 ^ sc = M * 2 ^ (64 + keptC W x) * 2 ^ (x - (lzW W : Int) + 1074 + sc).toNat := by
    intro M h1 h2
    rw [steps_km _ _ h1 h2, Nat.mul_assoc, ← Nat.pow_add, hKC, Nat.pow_add, Nat.mul_assoc]
  have hpp : 0 < 2 ^ (x - (lzW W : Int) + 1074 + sc).toNat := Nat.two_pow_pos _
  have hcc : 0 < 2 ^ (64 + keptC W x) := Nat.two_pow_pos _
  have f1 := hfl (keptM W x) (by omega) hnorm
  have f2 := hfl (keptM W x + 1) (by omega) (by omega)
  rw [← Nat.add_assoc] at f2
  have b1 : keptM W x * 2 ^ (64 + keptC W x) ≤ W * 2 ^ lzW W := by rw [hMdef]; exact Nat.div_mul_le_self _ _
  have b2 : W * 2 ^ lzW W < (keptM W x + 1) * 2 ^ (64 + keptC W x) := by
    have := Nat.lt_mul_div_succ (W * 2 ^ lzW W) hcc
    rw [Nat.mul_comm (2 ^ (64 + keptC W x))] at this
    rw [hMdef]; exact this
  refine ⟨?_, ?_, ?_⟩
  · rw [f1, hreal]; exact Nat.mul_le_mul_right _ b1
  · rw [f2, hreal]; exact Nat.mul_lt_mul_of_pos_right b2 hpp
  · rw [f1, hreal]
    have key := all_iff (W * 2 ^ lzW W) (keptC W x) hV2
    have hk : keptAll W x = true ↔ (W * 2 ^ lzW W / 18446744073709551616 = W * 2 ^ lzW W / 2 ^ (64 + keptC W x) * 2 ^ keptC W x % 18446744073709551616 ∧ W * 2 ^ lzW W % 18446744073709551616 = 0) := by
      unfold keptAll
      rw [decide_eq_true_eq]
      unfold shlN hiW loW
      rw [hMdef]
    rw [hk, key, ← hMdef]
    constructor
    · intro h; rw [h]
    · intro h; exact Nat.eq_of_mul_eq_mul_right hpp h

/-- The rungs not above what is rounded, and those not below it. -/
theorem rung_floor (W : Nat) (x : Int) (h0 : W ≠ 0) (hW : W < 340282366920938463463374607431768211456) (hx : -5000 ≤ x) (r : Nat) : steps r * 2 ^ sc ≤ real W x ↔ r ≤ rungOf W x false := by
  obtain ⟨k1, k2, _⟩ := kept W x h0 hW hx
  have hp : 0 < 2 ^ sc := Nat.two_pow_pos _
  have e : rungOf W x false = keptK W x * 4503599627370496 + keptM W x := rfl
  rw [e]
  constructor
  · intro h
    have : steps r * 2 ^ sc < steps (keptK W x * 4503599627370496 + keptM W x + 1) * 2 ^ sc := Nat.lt_of_le_of_lt h k2
    have := Nat.lt_of_mul_lt_mul_right this
    rcases Nat.lt_or_ge (keptK W x * 4503599627370496 + keptM W x) r with g | g
    · have := steps_le (show keptK W x * 4503599627370496 + keptM W x + 1 ≤ r from g); omega
    · exact g
  · intro h
    exact Nat.le_trans (Nat.mul_le_mul_right _ (steps_le h)) k1

theorem rung_ceil (W : Nat) (x : Int) (h0 : W ≠ 0) (hW : W < 340282366920938463463374607431768211456) (hx : -5000 ≤ x) (r : Nat) : real W x ≤ steps r * 2 ^ sc ↔ rungOf W x true ≤ r := by
  obtain ⟨k1, k2, k3⟩ := kept W x h0 hW hx
  have hp : 0 < 2 ^ sc := Nat.two_pow_pos _
  cases hA : keptAll W x
  · have e : rungOf W x true = keptK W x * 4503599627370496 + keptM W x + 1 := by unfold rungOf; rw [hA, Nat.add_assoc]; rfl
    rw [e]
    have hne : steps (keptK W x * 4503599627370496 + keptM W x) * 2 ^ sc ≠ real W x := fun h => by rw [k3.2 h] at hA; cases hA
    constructor
    · intro h
      have : steps (keptK W x * 4503599627370496 + keptM W x) * 2 ^ sc < steps r * 2 ^ sc := Nat.lt_of_lt_of_le (Nat.lt_of_le_of_ne k1 hne) h
      have := Nat.lt_of_mul_lt_mul_right this
      rcases Nat.lt_or_ge (keptK W x * 4503599627370496 + keptM W x) r with g | g
      · exact g
      · have := steps_le g; omega
    · intro h
      exact Nat.le_trans (Nat.le_of_lt k2) (Nat.mul_le_mul_right _ (steps_le h))
  · have e : rungOf W x true = keptK W x * 4503599627370496 + keptM W x := by unfold rungOf; rw [hA]; rfl
    rw [e, ← k3.1 hA]
    constructor
    · intro h
      exact (steps_le_iff _ _).1 (Nat.le_of_mul_le_mul_right h hp)
    · intro h
      exact Nat.mul_le_mul_right _ (steps_le h)

end Go.Proofs.Ytdppppaoflhgdaa
