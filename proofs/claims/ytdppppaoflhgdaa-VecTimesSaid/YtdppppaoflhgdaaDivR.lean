
/- Plain mathematics of layer 1: what Div and Sqrt answer is the real result, rounded. -/
import Derived.Test.YtdppppaoflhgdaaAddM
namespace Go.Proofs.Ytdppppaoflhgdaa
open Go.RowKit

theorem steps_form (r : Nat) : ∃ u k, steps r = u * 2 ^ k ∧ u < 9007199254740992 := by
  unfold steps
  split
  · exact ⟨r, 0, by rw [Nat.pow_zero, Nat.mul_one], by omega⟩
  · exact ⟨_, _, rfl, by omega⟩

/-- What is beyond a great multiple of a unit is a multiple of it. -/
theorem grain (r q E : Nat) (hq : 4611686018427387904 ≤ q) : steps r * 2 ^ sc ≤ q * 2 ^ E ∨ ∃ t, steps r * 2 ^ sc = t * 2 ^ E := by
  obtain ⟨u, k, h1, h2⟩ := steps_form r
  rw [h1, Nat.mul_assoc, ← Nat.pow_add]
  rcases Nat.lt_or_ge (k + sc) E with g | g
  · left
    have a1 : 2 ^ (k + sc) ≤ 2 ^ E := Nat.pow_le_pow_right (by decide) (by omega)
    exact Nat.mul_le_mul (by omega) a1
  · right
    refine ⟨u * 2 ^ (k + sc - E), ?_⟩
    rw [Nat.mul_assoc, ← Nat.pow_add]
    congr 2; omega

/-- A quotient with what is left of it stands on the same side of all numbers as the real one. -/
theorem cell_div (Y q P P' N o K : Nat) (hY : Y ≤ q * P ∨ ∃ t, Y = t * P) (hP : P = K * P') (hP' : 0 < P') (ho : o < N) (hN : N ≤ K) :
    (Y * N ≤ (q * N + o) * P ↔ Y ≤ q * P + o * P') ∧ ((q * N + o) * P ≤ Y * N ↔ q * P + o * P' ≤ Y) := by
  have hNp : 0 < N := by omega
  have hPp : 0 < P := by rw [hP]; exact Nat.mul_pos (by omega) hP'
  have hoP : o * P' < P := by rw [hP]; exact Nat.mul_lt_mul_of_pos_right (by omega) hP'
  by_cases hc : Y ≤ q * P
  · have h1 : Y * N ≤ q * N * P := by rw [Nat.mul_right_comm]; exact Nat.mul_le_mul_right _ hc
    rw [Nat.add_mul]
    refine ⟨⟨fun _ => by omega, fun _ => by omega⟩, ?_⟩
    constructor
    · intro h
      have ho0 : o * P = 0 := by omega
      have ho1 : o = 0 := by rcases Nat.mul_eq_zero.1 ho0 with g | g <;> omega
      subst ho1
      have h2 : q * P * N ≤ Y * N := by rw [Nat.mul_right_comm]; omega
      have := Nat.le_of_mul_le_mul_right h2 hNp
      omega
    · intro h
      have ho0 : o * P' = 0 := by omega
      have ho1 : o = 0 := by rcases Nat.mul_eq_zero.1 ho0 with g | g <;> omega
      subst ho1
      have h2 : q * P ≤ Y := by omega
      have h3 := Nat.mul_le_mul_right N h2
      rw [Nat.mul_right_comm] at h3
      omega
  · obtain ⟨t, rfl⟩ : ∃ t, Y = t * P := by
      rcases hY with h | h
      · exact absurd h hc
      · exact h
    have ht : q + 1 ≤ t := by
      rcases Nat.lt_or_ge q t with g | g
      · exact g
      · exact absurd (Nat.mul_le_mul_right P g) hc
    have h1 : (q + 1) * P ≤ t * P := Nat.mul_le_mul_right _ ht
    have h2 : (q + 1) * N ≤ t * N := Nat.mul_le_mul_right _ ht
    rw [Nat.add_mul, Nat.one_mul] at h1 h2
    have h3 : q * N + o < t * N := by omega
    have h4 : (q * N + o) * P < t * P * N := by rw [Nat.mul_right_comm]; exact Nat.mul_lt_mul_of_pos_right h3 hPp
    refine ⟨⟨fun h => by omega, fun h => by omega⟩, ⟨fun _ => by omega, fun _ => by omega⟩⟩

/-- A whole root with a mark of what is left of it likewise. -/
theorem cell_root (Y q P P' V o K : Nat) (hY : Y ≤ q * P ∨ ∃ t, Y = t * P) (hP : P = K * P') (hP' : 0 < P') (hK : 1 < K) (ho : o ≤ 1) (h1 : q * q ≤ V) (h2 : V < (q + 1) * (q + 1)) (hoz : o = 0 ↔ q * q = V) :
    (Y * Y ≤ V * (P * P) ↔ Y ≤ q * P + o * P') ∧ (V * (P * P) ≤ Y * Y ↔ q * P + o * P' ≤ Y) := by
  have hPp : 0 < P := by rw [hP]; exact Nat.mul_pos (by omega) hP'
  have hPP : 0 < P * P := Nat.mul_pos hPp hPp
  have hoP : o * P' < P := by rw [hP]; exact Nat.mul_lt_mul_of_pos_right (by omega) hP'
  have hqq : q * P * (q * P) = q * q * (P * P) := Nat.mul_mul_mul_comm _ _ _ _
  by_cases hc : Y ≤ q * P
  · have h3 : Y * Y ≤ q * q * (P * P) := by rw [← hqq]; exact Nat.mul_le_mul hc hc
    have h4 := Nat.mul_le_mul_right (P * P) h1
    refine ⟨⟨fun _ => by omega, fun _ => by omega⟩, ?_⟩
    constructor
    · intro h
      have h5 : V * (P * P) ≤ q * q * (P * P) := Nat.le_trans h h3
      have h6 := Nat.le_of_mul_le_mul_right h5 hPP
      have h7 : q * q = V := by omega
      have ho0 := hoz.2 h7
      subst ho0
      rw [← h7, ← hqq] at h
      rcases Nat.lt_or_ge Y (q * P) with g | g
      · have := Nat.mul_lt_mul_of_lt_of_le g hc (by omega); omega
      · omega
    · intro h
      have ho0 : o * P' = 0 := by omega
      have ho1 : o = 0 := by rcases Nat.mul_eq_zero.1 ho0 with g | g <;> omega
      have h7 := hoz.1 ho1
      have h8 : q * P ≤ Y := by omega
      rw [← h7, ← hqq]
      exact Nat.mul_le_mul h8 h8
  · obtain ⟨t, rfl⟩ : ∃ t, Y = t * P := by
      rcases hY with h | h
      · exact absurd h hc
      · exact h
    have ht : q + 1 ≤ t := by
      rcases Nat.lt_or_ge q t with g | g
      · exact g
      · exact absurd (Nat.mul_le_mul_right P g) hc
    have h3 : (q + 1) * P ≤ t * P := Nat.mul_le_mul_right _ ht
    rw [Nat.add_mul, Nat.one_mul] at h3
    have h4 := Nat.mul_le_mul ht ht
    have h5 : V * (P * P) < t * P * (t * P) := by
      rw [Nat.mul_mul_mul_comm]; exact Nat.mul_lt_mul_of_pos_right (by omega) hPP
    refine ⟨⟨fun h => by omega, fun h => by omega⟩, ⟨fun _ => by omega, fun _ => by omega⟩⟩

theorem iff_scale (X Z X' Z' C C' : Nat) (hC : 0 < C) (hC' : 0 < C') (h1 : X * C = X' * C') (h2 : Z * C = Z' * C') : (X ≤ Z ↔ X' ≤ Z') ∧ (Z ≤ X ↔ Z' ≤ X') := by
  have a1 : X ≤ Z ↔ X * C ≤ Z * C := (Nat.mul_le_mul_right_iff hC).symm
  have a2 : X' ≤ Z' ↔ X' * C' ≤ Z' * C' := (Nat.mul_le_mul_right_iff hC').symm
  have b1 : Z ≤ X ↔ Z * C ≤ X * C := (Nat.mul_le_mul_right_iff hC).symm
  have b2 : Z' ≤ X' ↔ Z' * C' ≤ X' * C' := (Nat.mul_le_mul_right_iff hC').symm
  rw [a1, a2, b1, b2, h1, h2]
  exact ⟨Iff.rfl, Iff.rfl⟩

theorem quo_big (m n : Nat) (hm : m < 9007199254740992) (hn : n < 9007199254740992) (hm0 : m ≠ 0) (hn0 : n ≠ 0) : 4611686018427387904 ≤ m * 2 ^ (lz64 m - 1) * 18446744073709551616 / (n * 2 ^ lz64 n) := by
  obtain ⟨h1, h2⟩ := lz_shift n hn0 (by omega)
  obtain ⟨h3, _⟩ := lz_shift m hm0 (by omega)
  have hl := lz_ge m hm
  have e : 2 ^ lz64 m = 2 ^ (lz64 m - 1) * 2 := by rw [← Nat.pow_succ]; congr 1; omega
  rw [e, ← Nat.mul_assoc] at h3
  rw [Nat.le_div_iff_mul_le (by omega)]
  have h4 : 4611686018427387904 * (n * 2 ^ lz64 n) ≤ 4611686018427387904 * 18446744073709551616 := Nat.mul_le_mul_left _ (Nat.le_of_lt h2)
  have h5 : 4611686018427387904 * 18446744073709551616 ≤ m * 2 ^ (lz64 m - 1) * 18446744073709551616 := Nat.mul_le_mul_right _ (by omega)
  exact Nat.le_trans h4 h5

theorem div_real (a b : Nat) (xa : -1074 ≤ expo a) (xa1 : expo a ≤ 971) (xb : -1074 ≤ expo b) (xb1 : expo b ≤ 971) (hm0 : mant a ≠ 0) (hn0 : mant b ≠ 0) (r : Nat) :
    (steps r * steps (rung b) ≤ steps (rung a) * 2 ^ sq ↔ steps r * 2 ^ sc ≤ real (quoW (mant a) (mant b)) (quoX (mant a) (mant b) (expo a) (expo b))) ∧
    (steps (rung a) * 2 ^ sq ≤ steps r * steps (rung b) ↔ real (quoW (mant a) (mant b)) (quoX (mant a) (mant b) (expo a) (expo b)) ≤ steps r * 2 ^ sc) := by
  have hs := sc_eq
  have hq := sq_eq
  have hqx := quoX_in (mant a) (mant b) (expo a) (expo b) xa xa1 xb xb1
  have hla := lz_ge (mant a) (mant_lt a)
  obtain ⟨_, hN2⟩ := lz_shift (mant b) hn0 (by have := mant_lt b; omega)
  have hbig := quo_big (mant a) (mant b) (mant_lt a) (mant_lt b) hm0 hn0
  have hNp : 0 < mant b * 2 ^ lz64 (mant b) := Nat.mul_pos (Nat.pos_of_ne_zero hn0) (Nat.two_pow_pos _)
  have eE : (quoX (mant a) (mant b) (expo a) (expo b) + 64 + 1074 + (sc : Int)).toNat = 64 + (quoX (mant a) (mant b) (expo a) (expo b) + 1074 + (sc : Int)).toNat := by omega
  have eP : 2 ^ (quoX (mant a) (mant b) (expo a) (expo b) + 64 + 1074 + (sc : Int)).toNat = 18446744073709551616 * 2 ^ (quoX (mant a) (mant b) (expo a) (expo b) + 1074 + (sc : Int)).toNat := by
    rw [eE, Nat.pow_add]
  have hcell := cell_div (steps r * 2 ^ sc) _ _ _ (mant b * 2 ^ lz64 (mant b)) (mant a * 2 ^ (lz64 (mant a) - 1) * 18446744073709551616 % (mant b * 2 ^ lz64 (mant b))) 18446744073709551616
    (grain r _ _ hbig) eP (Nat.two_pow_pos _) (Nat.mod_lt _ hNp) (Nat.le_of_lt hN2)
  have hZ : mant a * 2 ^ (lz64 (mant a) - 1) * 18446744073709551616 / (mant b * 2 ^ lz64 (mant b)) * (mant b * 2 ^ lz64 (mant b)) + mant a * 2 ^ (lz64 (mant a) - 1) * 18446744073709551616 % (mant b * 2 ^ lz64 (mant b)) = mant a * 2 ^ (lz64 (mant a) - 1) * 18446744073709551616 := by
    rw [Nat.mul_comm (_ / _)]; exact Nat.div_add_mod _ _
  rw [hZ] at hcell
  have hR : real (quoW (mant a) (mant b)) (quoX (mant a) (mant b) (expo a) (expo b)) = mant a * 2 ^ (lz64 (mant a) - 1) * 18446744073709551616 / (mant b * 2 ^ lz64 (mant b)) * 2 ^ (quoX (mant a) (mant b) (expo a) (expo b) + 64 + 1074 + (sc : Int)).toNat + mant a * 2 ^ (lz64 (mant a) - 1) * 18446744073709551616 % (mant b * 2 ^ lz64 (mant b)) * 2 ^ (quoX (mant a) (mant b) (expo a) (expo b) + 1074 + (sc : Int)).toNat := by
    unfold real quoW
    rw [Nat.add_mul, eP, Nat.mul_assoc]
  rw [hR]
  have hsc := iff_scale (steps r * steps (rung b)) (steps (rung a) * 2 ^ sq) (steps r * 2 ^ sc * (mant b * 2 ^ lz64 (mant b))) (mant a * 2 ^ (lz64 (mant a) - 1) * 18446744073709551616 * 2 ^ (quoX (mant a) (mant b) (expo a) (expo b) + 64 + 1074 + (sc : Int)).toNat)
    (2 ^ (sc + lz64 (mant b) + (lz64 (mant a) - 1))) (2 ^ ((expo b + 1074).toNat + (lz64 (mant a) - 1))) (Nat.two_pow_pos _) (Nat.two_pow_pos _)
    (by
      rw [steps_parts b]
      have e1 : steps r * (mant b * 2 ^ (expo b + 1074).toNat) * 2 ^ (sc + lz64 (mant b) + (lz64 (mant a) - 1)) = steps r * mant b * (2 ^ (expo b + 1074).toNat * 2 ^ (sc + lz64 (mant b) + (lz64 (mant a) - 1))) := by simp only [Nat.mul_assoc]
      have e2 : steps r * 2 ^ sc * (mant b * 2 ^ lz64 (mant b)) * 2 ^ ((expo b + 1074).toNat + (lz64 (mant a) - 1)) = steps r * mant b * (2 ^ sc * 2 ^ lz64 (mant b) * 2 ^ ((expo b + 1074).toNat + (lz64 (mant a) - 1))) := by
        rw [Nat.mul_mul_mul_comm]; simp only [Nat.mul_assoc]
      rw [e1, e2, ← Nat.pow_add, ← Nat.pow_add, ← Nat.pow_add]
      congr 2; omega)
    (by
      rw [steps_parts a]
      have e64 : (18446744073709551616 : Nat) = 2 ^ 64 := by decide
      rw [e64]
      simp only [Nat.mul_assoc, ← Nat.pow_add]
      congr 2
      unfold quoX at hqx ⊢
      omega)
  exact ⟨hsc.1.trans hcell.1, hsc.2.trans hcell.2⟩

theorem div_dir (a b : Nat) (ra : rightB a = true) (rb : rightB b = true) (hb : b < 18446744073709551616) (hb0 : b ≠ 0) (up : Bool) :
    (up = false → Down (steps (rung b)) (sg (!(sgnB a == sgnB b)) (steps (rung a) * 2 ^ sq)) (divW a b up) (divE a b up)) ∧ (up = true → Up (steps (rung b)) (sg (!(sgnB a == sgnB b)) (steps (rung a) * 2 ^ sq)) (divW a b up) (divE a b up)) := by
  have xa := expo_in a ra
  have xb := expo_in b rb
  have hrb : rung b ≠ 0 := by
    have := right_ne b rb
    have hm := right_rung b rb
    unfold rung at *
    intro h
    omega
  have hB : 0 < steps (rung b) := by
    rcases Nat.eq_zero_or_pos (steps (rung b)) with h | h
    · exact absurd ((steps_zero _).1 h) hrb
    · exact h
  have hn0 : mant b ≠ 0 := by
    intro h
    rw [steps_parts, h, Nat.zero_mul] at hB
    omega
  have hlt := (quo_hi (mant a) (mant b) (mant_lt a) (mant_lt b) hn0).1
  have hqx := quoX_in (mant a) (mant b) (expo a) (expo b) xa.1 xa.2 xb.1 xb.2
  have e1 : divW a b up = _ := if_pos (by rw [ra, rb, decide_eq_false hb0]; rfl)
  have e2 : divE a b up = _ := (if_pos (by rw [ra, rb]; rfl)).trans (if_neg hb0)
  rw [e1, e2]
  by_cases hm0 : mant a = 0
  · have hA : steps (rung a) = 0 := by rw [steps_parts, hm0, Nat.zero_mul]
    have hW : quoW (mant a) (mant b) = 0 := by
      unfold quoW; rw [hm0, Nat.zero_mul, Nat.zero_mul, Nat.zero_div, Nat.zero_mod, Nat.zero_mul]
    have hR : real (quoW (mant a) (mant b)) (quoX (mant a) (mant b) (expo a) (expo b)) = 0 := by unfold real; rw [hW, Nat.zero_mul]
    refine round_real _ _ _ up _ _ hB hlt (by omega) (fun r => ?_) (fun r => ?_)
    · rw [hA, hR, Nat.zero_mul, Nat.le_zero, Nat.le_zero, Nat.mul_eq_zero, Nat.mul_eq_zero]
      have := Nat.two_pow_pos sc
      constructor
      · rintro (h | h)
        · exact Or.inl h
        · omega
      · rintro (h | h)
        · exact Or.inl h
        · omega
    · rw [hA, hR, Nat.zero_mul]; exact ⟨fun _ => Nat.zero_le _, fun _ => Nat.zero_le _⟩
  · exact round_real _ _ _ up _ _ hB hlt (by omega) (fun r => (div_real a b xa.1 xa.2 xb.1 xb.2 hm0 hn0 r).1) (fun r => (div_real a b xa.1 xa.2 xb.1 xb.2 hm0 hn0 r).2)

theorem root_big (m : Nat) (e : Int) (h0 : m ≠ 0) (hm : m < 9007199254740992) : 4611686018427387904 ≤ Nat.sqrt (rootV m e) := by
  obtain ⟨h1, _, _, _⟩ := rootB_in m e h0 hm
  have h2 := Nat.lt_succ_sqrt (rootV m e)
  have h3 : 4611686018427387904 * 4611686018427387904 < Nat.succ (Nat.sqrt (rootV m e)) * Nat.succ (Nat.sqrt (rootV m e)) := by
    refine Nat.lt_of_le_of_lt ?_ h2
    unfold rootV; omega
  have := sq_lt h3
  omega

theorem root_real (a : Nat) (xa : -1074 ≤ expo a) (xa1 : expo a ≤ 971) (hm0 : mant a ≠ 0) (r : Nat) :
    (steps r * steps r ≤ steps (rung a) * 2 ^ sq ↔ steps r * 2 ^ sc ≤ real (rootW (mant a) (expo a)) (rootX (mant a) (expo a))) ∧
    (steps (rung a) * 2 ^ sq ≤ steps r * steps r ↔ real (rootW (mant a) (expo a)) (rootX (mant a) (expo a)) ≤ steps r * 2 ^ sc) := by
  have hs := sc_eq
  have hq := sq_eq
  obtain ⟨b1, b2, b3, b4⟩ := rootB_in (mant a) (expo a) hm0 (mant_lt a)
  have hX : rootX (mant a) (expo a) = (expo a - (rootB (mant a) (expo a) : Int) - 64) / 2 - 64 := if_neg hm0
  have hxin := rootX_in (mant a) (expo a) (mant_lt a) xa xa1
  have eE : (rootX (mant a) (expo a) + 64 + 1074 + (sc : Int)).toNat = 64 + (rootX (mant a) (expo a) + 1074 + (sc : Int)).toNat := by omega
  have eP : 2 ^ (rootX (mant a) (expo a) + 64 + 1074 + (sc : Int)).toNat = 18446744073709551616 * 2 ^ (rootX (mant a) (expo a) + 1074 + (sc : Int)).toNat := by
    rw [eE, Nat.pow_add]
  have hcell := cell_root (steps r * 2 ^ sc) (Nat.sqrt (rootV (mant a) (expo a))) _ _ (rootV (mant a) (expo a)) (restR (rootV (mant a) (expo a))) 18446744073709551616
    (grain r _ _ (root_big _ _ hm0 (mant_lt a))) eP (Nat.two_pow_pos _) (by decide) (restR_le _) (Nat.sqrt_le _) (Nat.lt_succ_sqrt _)
    (by unfold restR; split <;> simp_all)
  have hR : real (rootW (mant a) (expo a)) (rootX (mant a) (expo a)) = Nat.sqrt (rootV (mant a) (expo a)) * 2 ^ (rootX (mant a) (expo a) + 64 + 1074 + (sc : Int)).toNat + restR (rootV (mant a) (expo a)) * 2 ^ (rootX (mant a) (expo a) + 1074 + (sc : Int)).toNat := by
    have e : rootW (mant a) (expo a) = _ := if_neg hm0
    unfold real
    rw [e, Nat.add_mul, eP, Nat.mul_assoc]
  rw [hR]
  have hsc := iff_scale (steps r * steps r) (steps (rung a) * 2 ^ sq) (steps r * 2 ^ sc * (steps r * 2 ^ sc)) (rootV (mant a) (expo a) * (2 ^ (rootX (mant a) (expo a) + 64 + 1074 + (sc : Int)).toNat * 2 ^ (rootX (mant a) (expo a) + 64 + 1074 + (sc : Int)).toNat))
    (2 ^ sc * 2 ^ sc) 1 (Nat.mul_pos (Nat.two_pow_pos _) (Nat.two_pow_pos _)) (by decide)
    (by rw [Nat.mul_one, Nat.mul_mul_mul_comm])
    (by
      rw [steps_parts a, Nat.mul_one]
      unfold rootV
      have e64 : (18446744073709551616 : Nat) = 2 ^ 64 := by decide
      rw [e64]
      simp only [Nat.mul_assoc, ← Nat.pow_add]
      congr 2
      omega)
  exact ⟨hsc.1.trans hcell.1, hsc.2.trans hcell.2⟩

theorem steps_ge (r : Nat) (h : sq + 1 ≤ r / 4503599627370496) : 2 ^ sq ≤ steps r := by
  unfold steps
  rw [if_neg (by omega)]
  have h1 : 2 ^ sq ≤ 2 ^ (r / 4503599627370496 - 1) := Nat.pow_le_pow_right (by decide) (by omega)
  exact Nat.le_trans h1 (Nat.le_mul_of_pos_left _ (by omega))
theorem steps_inf : 2 ^ sq ≤ steps 9218868437227405312 := steps_ge _ (by rw [sq_eq]; decide)

/-- The root of a number that is not negative: its rungs. -/
theorem sqrt_rungs (a : Nat) (ra : rightB a = true) (sa : sgnB a = false) (up : Bool) :
    sqrtE a up = 0 ∧ sqrtW a up ≤ 9218868437227405311 ∧ (up = false → ∀ r, steps r * steps r ≤ steps (rung a) * 2 ^ sq ↔ r ≤ sqrtW a up) ∧ (up = true → ∀ r, steps (rung a) * 2 ^ sq ≤ steps r * steps r ↔ sqrtW a up ≤ r) := by
  have xa := expo_in a ra
  have e1 : sqrtW a up = roundW false (rootW (mant a) (expo a)) (rootX (mant a) (expo a)) up := if_pos (by rw [ra, sa]; rfl)
  have e2 : sqrtE a up = roundE false (rootW (mant a) (expo a)) (rootX (mant a) (expo a)) up := (if_pos ra).trans (if_neg (by rw [sa]; exact Bool.false_ne_true))
  rw [e1, e2]
  by_cases hm0 : mant a = 0
  · have hA : steps (rung a) = 0 := by rw [steps_parts, hm0, Nat.zero_mul]
    have hW : rootW (mant a) (expo a) = 0 := if_pos hm0
    have r1 : roundW false (rootW (mant a) (expo a)) (rootX (mant a) (expo a)) up = 0 := if_pos hW
    have r2 : roundE false (rootW (mant a) (expo a)) (rootX (mant a) (expo a)) up = 0 := if_pos hW
    rw [r1, r2, hA, Nat.zero_mul]
    refine ⟨rfl, by decide, fun _ r => ?_, fun _ r => ⟨fun _ => Nat.zero_le _, fun _ => Nat.zero_le _⟩⟩
    rw [Nat.le_zero, Nat.le_zero, Nat.mul_eq_zero, or_self]
    exact steps_zero r
  · have hlt := rootW_lt (mant a) (expo a) (mant_lt a)
    have hxin := rootX_in (mant a) (expo a) (mant_lt a) xa.1 xa.2
    have hW0 : rootW (mant a) (expo a) ≠ 0 := by
      have e : rootW (mant a) (expo a) = _ := if_neg hm0
      have := root_big (mant a) (expo a) hm0 (mant_lt a)
      rw [e]; omega
    have hF : ∀ r, steps r * steps r ≤ steps (rung a) * 2 ^ sq ↔ r ≤ rungOf (rootW (mant a) (expo a)) (rootX (mant a) (expo a)) false := fun r => (root_real a xa.1 xa.2 hm0 r).1.trans (rung_floor _ _ hW0 hlt (by omega) r)
    have hG : ∀ r, steps (rung a) * 2 ^ sq ≤ steps r * steps r ↔ rungOf (rootW (mant a) (expo a)) (rootX (mant a) (expo a)) true ≤ r := fun r => (root_real a xa.1 xa.2 hm0 r).2.trans (rung_ceil _ _ hW0 hlt (by omega) r)
    have hAm : steps (rung a) < steps 9218868437227405312 := steps_lt (right_rung a ra)
    have r1 : roundW false (rootW (mant a) (expo a)) (rootX (mant a) (expo a)) up = packW false (rungOf (rootW (mant a) (expo a)) (rootX (mant a) (expo a)) (up != false)) (up != false) := if_neg hW0
    have r2 : roundE false (rootW (mant a) (expo a)) (rootX (mant a) (expo a)) up = packE (rungOf (rootW (mant a) (expo a)) (rootX (mant a) (expo a)) (up != false)) (up != false) := if_neg hW0
    rw [r1, r2]
    cases up
    · have hb : rungOf (rootW (mant a) (expo a)) (rootX (mant a) (expo a)) false ≤ 9218868437227405311 := by
        rcases Nat.lt_or_ge 9218868437227405311 (rungOf (rootW (mant a) (expo a)) (rootX (mant a) (expo a)) false) with g | g
        · have h1 := (hF 9218868437227405312).2 g
          have h2 := Nat.mul_lt_mul_of_lt_of_le hAm steps_inf (by have := Nat.two_pow_pos sq; have := steps_inf; omega)
          omega
        · exact g
      obtain ⟨p1, p2⟩ := pack_floor false (rungOf (rootW (mant a) (expo a)) (rootX (mant a) (expo a)) false)
      show packE (rungOf (rootW (mant a) (expo a)) (rootX (mant a) (expo a)) false) false = 0 ∧ packW false (rungOf (rootW (mant a) (expo a)) (rootX (mant a) (expo a)) false) false ≤ _ ∧ (_ → ∀ r, _ ↔ r ≤ packW false (rungOf (rootW (mant a) (expo a)) (rootX (mant a) (expo a)) false) false) ∧ _
      rw [p1, p2, Nat.min_eq_left hb, sw_false]
      exact ⟨rfl, hb, fun _ => hF, fun h => (by cases h)⟩
    · have hb : rungOf (rootW (mant a) (expo a)) (rootX (mant a) (expo a)) true ≤ 9218868437227405311 := by
        refine (hG _).1 ?_
        have hle : steps (rung a) ≤ steps 9218868437227405311 := steps_le (rung_max ra)
        have h3 : 2 ^ sq ≤ steps 9218868437227405311 := steps_ge _ (by rw [sq_eq]; decide)
        exact Nat.mul_le_mul hle h3
      obtain ⟨p1, p2⟩ := pack_ceil false (rungOf (rootW (mant a) (expo a)) (rootX (mant a) (expo a)) true) hb
      show packE (rungOf (rootW (mant a) (expo a)) (rootX (mant a) (expo a)) true) true = 0 ∧ packW false (rungOf (rootW (mant a) (expo a)) (rootX (mant a) (expo a)) true) true ≤ _ ∧ _ ∧ (_ → ∀ r, _ ↔ packW false (rungOf (rootW (mant a) (expo a)) (rootX (mant a) (expo a)) true) true ≤ r)
      rw [p1, p2, sw_false]
      exact ⟨rfl, hb, fun h => (by cases h), fun _ => hG⟩

end Go.Proofs.Ytdppppaoflhgdaa
