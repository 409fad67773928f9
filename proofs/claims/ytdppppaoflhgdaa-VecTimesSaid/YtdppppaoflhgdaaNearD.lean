
/- Plain mathematics of layer 1: the nearest quotient and the nearest root are what is rounded down, or what is rounded up. -/
import Derived.Test.YtdppppaoflhgdaaNear
namespace Go.Proofs.Ytdppppaoflhgdaa
open Go.RowKit

theorem grain2 (r q E : Nat) (hq : 9007199254740992 ≤ q) : steps r * 2 ^ sc ≤ q * 2 ^ E ∨ ∃ t, steps r * 2 ^ sc = t * 2 ^ E := by
  obtain ⟨u, k, h1, h2⟩ := steps_form r
  rw [h1, Nat.mul_assoc, ← Nat.pow_add]
  rcases Nat.lt_or_ge (k + sc) E with g | g
  · left
    have a1 : 2 ^ (k + sc) ≤ 2 ^ E := Nat.pow_le_pow_right (by decide) (by omega)
    exact Nat.mul_le_mul (by omega) a1
  · right
    refine ⟨u * 2 ^ (k + sc - E), ?_⟩
    rw [Nat.mul_assoc, ← Nat.pow_add]
    congr 2; omega

/-- A quotient with a mark of what is left. -/
theorem cell_mark (Y q P P' N o m : Nat) (hY : Y ≤ q * P ∨ ∃ t, Y = t * P) (hP : P = 2 * P') (hP' : 0 < P') (ho : o < N) (hm : m ≤ 1) (hz : o = 0 ↔ m = 0) :
    (Y * N ≤ (q * N + o) * P ↔ Y ≤ q * P + m * P') ∧ ((q * N + o) * P ≤ Y * N ↔ q * P + m * P' ≤ Y) := by
  have hNp : 0 < N := by omega
  have hPp : 0 < P := by omega
  have hmP : m * P' < P := by
    have := Nat.mul_le_mul_right P' hm
    omega
  by_cases hc : Y ≤ q * P
  · have h1 : Y * N ≤ q * N * P := by rw [Nat.mul_right_comm]; exact Nat.mul_le_mul_right _ hc
    rw [Nat.add_mul]
    refine ⟨⟨fun _ => by omega, fun _ => by omega⟩, ?_⟩
    constructor
    · intro h
      have ho0 : o * P = 0 := by omega
      have ho1 : o = 0 := by rcases Nat.mul_eq_zero.1 ho0 with g | g <;> omega
      have hm0 := hz.1 ho1
      subst ho1; subst hm0
      have h2 : q * P * N ≤ Y * N := by rw [Nat.mul_right_comm]; omega
      have := Nat.le_of_mul_le_mul_right h2 hNp
      omega
    · intro h
      have hm0 : m * P' = 0 := by omega
      have hm1 : m = 0 := by rcases Nat.mul_eq_zero.1 hm0 with g | g <;> omega
      have ho0 := hz.2 hm1
      subst ho0; subst hm1
      have h2 : q * P ≤ Y := by omega
      have h3 := Nat.mul_le_mul_right N h2
      rw [Nat.mul_right_comm] at h3
      omega
  · obtain ⟨t, rfl⟩ : ∃ t, Y = t * P := by
      rcases hY with h | h
      · exact absurd h hc
      · exact h
    have ht : q + 1 ≤ t := by
      rcases Nat.lt_or_ge q t with g | g
      · exact g
      · exact absurd (Nat.mul_le_mul_right P g) hc
    have h1 : (q + 1) * P ≤ t * P := Nat.mul_le_mul_right _ ht
    have h2 : (q + 1) * N ≤ t * N := Nat.mul_le_mul_right _ ht
    rw [Nat.add_mul, Nat.one_mul] at h1 h2
    have h3 : q * N + o < t * N := by omega
    have h4 : (q * N + o) * P < t * P * N := by rw [Nat.mul_right_comm]; exact Nat.mul_lt_mul_of_pos_right h3 hPp
    refine ⟨⟨fun h => by omega, fun h => by omega⟩, ⟨fun _ => by omega, fun _ => by omega⟩⟩

theorem div_mark (a b : Nat) (xa : -1074 ≤ expo a) (xa1 : expo a ≤ 971) (xb : -1074 ≤ expo b) (xb1 : expo b ≤ 971) (hm0 : mant a ≠ 0) (hn0 : mant b ≠ 0) (more : Nat) (hmore : more = 54 + (mant b).log2 - (mant a).log2) (r : Nat) :
    (steps r * steps (rung b) ≤ steps (rung a) * 2 ^ sq ↔ steps r * 2 ^ sc ≤ real (2 * (mant a * 2 ^ more / mant b) + (mant a * 2 ^ more % mant b != 0).toNat) (expo a - expo b - more - 1)) ∧
    (steps (rung a) * 2 ^ sq ≤ steps r * steps (rung b) ↔ real (2 * (mant a * 2 ^ more / mant b) + (mant a * 2 ^ more % mant b != 0).toNat) (expo a - expo b - more - 1) ≤ steps r * 2 ^ sc) := by
  have hs := sc_eq
  have hq := sq_eq
  have la : (mant a).log2 < 53 := (Nat.log2_lt hm0).2 (mant_lt a)
  have lb : (mant b).log2 < 53 := (Nat.log2_lt hn0).2 (mant_lt b)
  have hsum : (mant a).log2 + more = 54 + (mant b).log2 := by omega
  have hbig : 9007199254740992 ≤ mant a * 2 ^ more / mant b := by
    rw [Nat.le_div_iff_mul_le (Nat.pos_of_ne_zero hn0)]
    have h1 : mant b < 2 ^ ((mant b).log2 + 1) := Nat.lt_log2_self
    have h2 : 2 ^ (mant a).log2 ≤ mant a := Nat.log2_self_le hm0
    have h3 : 9007199254740992 * mant b ≤ 9007199254740992 * 2 ^ ((mant b).log2 + 1) := Nat.mul_le_mul_left _ (Nat.le_of_lt h1)
    have e53 : (9007199254740992 : Nat) = 2 ^ 53 := by decide
    have h4 : 9007199254740992 * 2 ^ ((mant b).log2 + 1) = 2 ^ (mant a).log2 * 2 ^ more := by
      rw [e53, ← Nat.pow_add, ← Nat.pow_add]; congr 1; omega
    have h5 : 2 ^ (mant a).log2 * 2 ^ more ≤ mant a * 2 ^ more := Nat.mul_le_mul_right _ h2
    rw [h4] at h3
    exact Nat.le_trans h3 h5
  have eE : (expo a - expo b - (more : Int) + 1074 + (sc : Int)).toNat = (expo a - expo b - (more : Int) - 1 + 1074 + (sc : Int)).toNat + 1 := by omega
  have eP : 2 ^ (expo a - expo b - (more : Int) + 1074 + (sc : Int)).toNat = 2 * 2 ^ (expo a - expo b - (more : Int) - 1 + 1074 + (sc : Int)).toNat := by
    rw [eE, Nat.pow_succ, Nat.mul_comm]
  have hcell := cell_mark (steps r * 2 ^ sc) _ _ _ (mant b) (mant a * 2 ^ more % mant b) ((mant a * 2 ^ more % mant b != 0).toNat)
    (grain2 r _ _ hbig) eP (Nat.two_pow_pos _) (Nat.mod_lt _ (Nat.pos_of_ne_zero hn0)) (by cases (mant a * 2 ^ more % mant b != 0) <;> decide)
    (by
      by_cases c : mant a * 2 ^ more % mant b = 0
      · simp [c]
      · simp [c])
  have hZ : mant a * 2 ^ more / mant b * mant b + mant a * 2 ^ more % mant b = mant a * 2 ^ more := by
    rw [Nat.mul_comm (_ / _)]; exact Nat.div_add_mod _ _
  rw [hZ] at hcell
  have hR : real (2 * (mant a * 2 ^ more / mant b) + (mant a * 2 ^ more % mant b != 0).toNat) (expo a - expo b - more - 1) = mant a * 2 ^ more / mant b * 2 ^ (expo a - expo b - (more : Int) + 1074 + (sc : Int)).toNat + (mant a * 2 ^ more % mant b != 0).toNat * 2 ^ (expo a - expo b - (more : Int) - 1 + 1074 + (sc : Int)).toNat := by
    unfold real
    rw [Nat.add_mul, eP, Nat.mul_assoc, Nat.mul_left_comm]
  rw [hR]
  have hsc := iff_scale (steps r * steps (rung b)) (steps (rung a) * 2 ^ sq) (steps r * 2 ^ sc * mant b) (mant a * 2 ^ more * 2 ^ (expo a - expo b - (more : Int) + 1074 + (sc : Int)).toNat)
    (2 ^ sc) (2 ^ (expo b + 1074).toNat) (Nat.two_pow_pos _) (Nat.two_pow_pos _)
    (by rw [steps_parts b]; simp only [Nat.mul_assoc, Nat.mul_comm, Nat.mul_left_comm])
    (by
      rw [steps_parts a]
      simp only [Nat.mul_assoc, ← Nat.pow_add]
      congr 2
      omega)
  exact ⟨hsc.1.trans hcell.1, hsc.2.trans hcell.2⟩

theorem div_beside (a b : Nat) (ha : a < 18446744073709551616) (hb : b < 18446744073709551616) (ra : rightB a = true) (rb : rightB b = true) (hb0 : b ≠ 0) :
    ∃ r, floatBits .quo .f64 a b = some r ∧ Beside (steps (rung b)) (sg (!(sgnB a == sgnB b)) (steps (rung a) * 2 ^ sq)) r := by
  have xa := expo_in a ra
  have xb := expo_in b rb
  have hrb : rung b ≠ 0 := by
    have := right_ne b rb
    unfold rung at *
    omega
  have hB : 0 < steps (rung b) := by
    rcases Nat.eq_zero_or_pos (steps (rung b)) with h | h
    · exact absurd ((steps_zero _).1 h) hrb
    · exact h
  have hn0 : mant b ≠ 0 := by
    intro h
    rw [steps_parts, h, Nat.zero_mul] at hB
    omega
  have hx : (sgnB a ^^ sgnB b) = !(sgnB a == sgnB b) := by cases sgnB a <;> cases sgnB b <;> rfl
  obtain ⟨more, hmore⟩ : ∃ more, more = 54 + (mant b).log2 - (mant a).log2 := ⟨_, rfl⟩
  refine ⟨Ieee.double.nearest (sgnB a ^^ sgnB b) (2 * (mant a * 2 ^ more / mant b) + (mant a * 2 ^ more % mant b != 0).toNat) (expo a - expo b - more - 1), ?_, ?_⟩
  · show ((Ieee.double.read a).quotient (Ieee.double.fractionBits + 2) (Ieee.double.read b)).map Ieee.double.write = _
    rw [read_num a ha (right_rung a ra), read_num b hb (right_rung b rb)]
    unfold Ieee.Datum.quotient
    simp only [if_neg hn0, Nat.shiftLeft_eq]
    have e : Ieee.double.fractionBits + 2 + (mant b).log2 - (mant a).log2 = more := by rw [hmore]; rfl
    rw [e]
    rfl
  · rw [← hx]
    by_cases hm0 : mant a = 0
    · have hA : steps (rung a) = 0 := by rw [steps_parts, hm0, Nat.zero_mul]
      have hM : 2 * (mant a * 2 ^ more / mant b) + (mant a * 2 ^ more % mant b != 0).toNat = 0 := by
        rw [hm0, Nat.zero_mul, Nat.zero_div, Nat.zero_mod]; rfl
      have hR : real 0 (expo a - expo b - more - 1) = 0 := Nat.zero_mul _
      have hm1 : more ≤ 107 := by
        have lb : (mant b).log2 < 53 := (Nat.log2_lt hn0).2 (mant_lt b)
        omega
      rw [hM, hA, Nat.zero_mul]
      refine beside_near _ _ _ _ _ hB (by omega) (fun r => ?_) (fun r => ?_)
      · rw [hR, Nat.le_zero, Nat.le_zero, Nat.mul_eq_zero, Nat.mul_eq_zero]
        have := Nat.two_pow_pos sc
        constructor
        · rintro (h | h)
          · exact Or.inl h
          · omega
        · rintro (h | h)
          · exact Or.inl h
          · omega
      · rw [hR]; exact ⟨fun _ => Nat.zero_le _, fun _ => Nat.zero_le _⟩
    · have la : (mant a).log2 < 53 := (Nat.log2_lt hm0).2 (mant_lt a)
      have lb : (mant b).log2 < 53 := (Nat.log2_lt hn0).2 (mant_lt b)
      exact beside_near _ _ _ _ _ hB (by omega) (fun r => (div_mark a b xa.1 xa.2 xb.1 xb.2 hm0 hn0 more hmore r).1) (fun r => (div_mark a b xa.1 xa.2 xb.1 xb.2 hm0 hn0 more hmore r).2)

end Go.Proofs.Ytdppppaoflhgdaa
