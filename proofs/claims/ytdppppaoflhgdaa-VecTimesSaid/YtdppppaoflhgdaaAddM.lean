
/- Plain mathematics of layer 1: what Add, Sub and Mul answer is the real result, rounded. -/
import Derived.Test.YtdppppaoflhgdaaVal
namespace Go.Proofs.Ytdppppaoflhgdaa
open Go.RowKit

theorem same_scale (s Tm P R : Nat) (hP : 0 < P) (h1 : s * P = 2 ^ sc) (h2 : Tm * P = R) :
    (∀ r, steps r * s ≤ Tm ↔ steps r * 2 ^ sc ≤ R) ∧ (∀ r, Tm ≤ steps r * s ↔ R ≤ steps r * 2 ^ sc) := by
  refine ⟨fun r => ?_, fun r => ?_⟩
  · rw [← h1, ← h2, ← Nat.mul_assoc]; exact (Nat.mul_le_mul_right_iff hP).symm
  · rw [← h1, ← h2, ← Nat.mul_assoc]; exact (Nat.mul_le_mul_right_iff hP).symm

/-- The places of numbers that are neighbours, about a number that is not subnormal. -/
theorem gap_above (a : Nat) : steps (rung a + 1) = steps (rung a) + 2 ^ (expo a + 1074).toNat := by
  rw [steps_succ]
  congr 2
  unfold expo
  split <;> omega

theorem gap_below (a : Nat) (h : -1074 < expo a) : 0 < rung a ∧ steps (rung a - 1) + 2 ^ (expo a + 1073).toNat ≤ steps (rung a) := by
  have hq : rung a / 4503599627370496 ≠ 0 ∧ (expo a + 1073).toNat = rung a / 4503599627370496 - 2 ∧ 2 ≤ rung a / 4503599627370496 := by
    unfold expo at h ⊢
    split at h
    · omega
    · rename_i g; rw [if_neg g]; omega
  have hr : 0 < rung a := by omega
  refine ⟨hr, ?_⟩
  have e := steps_succ (rung a - 1)
  rw [Nat.sub_add_cancel hr] at e
  rw [e, hq.2.1]
  exact Nat.add_le_add_left (Nat.pow_le_pow_right (by decide) (by omega)) _

/-- A little more than a number, or a little less, rounds as any other little. -/
theorem little (a B B' : Nat) (h : -1074 < expo a) (h1 : 0 < B) (h2 : B < 2 ^ (expo a + 1073).toNat) (h1' : 0 < B') (h2' : B' < 2 ^ (expo a + 1073).toNat) (r : Nat) :
    (steps r ≤ steps (rung a) + B ↔ steps r ≤ steps (rung a) + B') ∧ (steps (rung a) + B ≤ steps r ↔ steps (rung a) + B' ≤ steps r) ∧
    (steps r ≤ steps (rung a) - B ↔ steps r ≤ steps (rung a) - B') ∧ (steps (rung a) - B ≤ steps r ↔ steps (rung a) - B' ≤ steps r) := by
  have g1 := gap_above a
  obtain ⟨hr, g2⟩ := gap_below a h
  have e : 2 ^ (expo a + 1074).toNat = 2 * 2 ^ (expo a + 1073).toNat := by
    rw [show (expo a + 1074).toNat = (expo a + 1073).toNat + 1 by omega, Nat.pow_succ, Nat.mul_comm]
  rw [e] at g1
  generalize 2 ^ (expo a + 1073).toNat = H at *
  rcases Nat.lt_trichotomy r (rung a) with c | c | c
  · have := steps_le (show r ≤ rung a - 1 by omega)
    omega
  · subst c; omega
  · have := steps_le (show rung a + 1 ≤ r by omega)
    omega

theorem toNat_add (i j k : Int) (h1 : 0 ≤ i) (h2 : 0 ≤ j) (h : i + j = k) : k.toNat = i.toNat + j.toNat := by omega

theorem sumW_t (m V : Nat) : sumW true m V = m * 18446744073709551616 + V := if_pos rfl
theorem sumW_f (m V : Nat) : sumW false m V = m * 18446744073709551616 - V := if_neg Bool.false_ne_true
/-- A sum, or a difference. -/
def plusOr (same : Bool) (A B : Nat) : Nat := if same then A + B else A - B
theorem plusOr_t (A B : Nat) : plusOr true A B = A + B := if_pos rfl
theorem plusOr_f (A B : Nat) : plusOr false A B = A - B := if_neg Bool.false_ne_true

theorem scale_a (a : Nat) (h : -1074 ≤ expo a) : mant a * 18446744073709551616 * 2 ^ (expo a - 64 + 1074 + (sc : Int)).toNat = steps (rung a) * 2 ^ sc := by
  have hs := sc_eq
  have e64 : (18446744073709551616 : Nat) = 2 ^ 64 := by decide
  rw [steps_parts, Nat.mul_assoc, Nat.mul_assoc, e64, ← Nat.pow_add, ← Nat.pow_add]
  congr 2; omega

theorem real_plus (same : Bool) (a V Z : Nat) (h : -1074 ≤ expo a) (hV : V * 2 ^ (expo a - 64 + 1074 + (sc : Int)).toNat = Z * 2 ^ sc) :
    real (sumW same (mant a) V) (expo a - 64) = plusOr same (steps (rung a)) Z * 2 ^ sc := by
  have eA := scale_a a h
  unfold real
  cases same
  · rw [sumW_f, plusOr_f, Nat.sub_mul, Nat.sub_mul, eA, hV]
  · rw [sumW_t, plusOr_t, Nat.add_mul, Nat.add_mul, eA, hV]

theorem below_of (a b : Nat) (xa : -1074 ≤ expo a) (xb : -1074 ≤ expo b) (hord : ¬ (expo a < expo b ∨ expo a = expo b ∧ (mant a : Int) < mant b)) : steps (rung b) ≤ steps (rung a) := by
  rw [steps_parts, steps_parts]
  by_cases c : expo a = expo b
  · rw [c]; exact Nat.mul_le_mul_right _ (by omega)
  · have hlt : expo b < expo a := by omega
    have hmb := mant_lt b
    have h1 := mant_norm a (by omega)
    have e : (expo a + 1074).toNat = (expo b + 1074).toNat + (expo a - expo b).toNat := by omega
    have h2 : 2 ^ 1 ≤ 2 ^ (expo a - expo b).toNat := Nat.pow_le_pow_right (by decide) (by omega)
    rw [e, Nat.pow_add, ← Nat.mul_assoc, Nat.mul_right_comm]
    refine Nat.mul_le_mul_right _ ?_
    have h3 := Nat.mul_le_mul h1 h2
    exact Nat.le_trans (Nat.le_of_lt hmb) h3

theorem lower_small (a b : Nat) (xb : -1074 ≤ expo b) (hd : 64 < expo a - expo b) : steps (rung b) < 2 ^ (expo a + 1073).toNat := by
  rw [steps_parts]
  have h1 : mant b * 2 ^ (expo b + 1074).toNat < 9007199254740992 * 2 ^ (expo b + 1074).toNat := Nat.mul_lt_mul_of_pos_right (mant_lt b) (Nat.two_pow_pos _)
  have e53 : (9007199254740992 : Nat) = 2 ^ 53 := by decide
  refine Nat.lt_of_lt_of_le h1 ?_
  rw [e53, ← Nat.pow_add]
  exact Nat.pow_le_pow_right (by decide) (by omega)

/-- What two parts come to, the first one being no nearer to 0 than the second one: far apart. -/
theorem sum_far (a b : Nat) (xa : -1074 ≤ expo a) (xb : -1074 ≤ expo b) (hd : 64 < expo a - expo b) (same : Bool) :
    (∀ r, steps r * 1 ≤ plusOr same (steps (rung a)) (steps (rung b)) ↔ steps r * 2 ^ sc ≤ real (sumW same (mant a) (lowerW (mant b) (expo a - expo b))) (expo a - 64)) ∧
    (∀ r, plusOr same (steps (rung a)) (steps (rung b)) ≤ steps r * 1 ↔ real (sumW same (mant a) (lowerW (mant b) (expo a - expo b))) (expo a - 64) ≤ steps r * 2 ^ sc) := by
  have hs := sc_eq
  have hp : 0 < 2 ^ sc := Nat.two_pow_pos _
  have eL : lowerW (mant b) (expo a - expo b) = min (mant b) 1 := lower_far _ _ hd
  rw [eL]
  by_cases hb0 : mant b = 0
  · have hB0 : steps (rung b) = 0 := by rw [steps_parts, hb0, Nat.zero_mul]
    rw [hb0, hB0, Nat.zero_min]
    exact same_scale 1 _ (2 ^ sc) _ hp (Nat.one_mul _) (real_plus same a 0 0 xa (by rw [Nat.zero_mul, Nat.zero_mul])).symm
  · have hmin : min (mant b) 1 = 1 := Nat.min_eq_right (Nat.pos_of_ne_zero hb0)
    rw [hmin]
    have hea : -1074 < expo a := by omega
    have eM : 1 * 2 ^ (expo a - 64 + 1074 + (sc : Int)).toNat = 2 ^ (expo a + 1010).toNat * 2 ^ sc := by
      rw [Nat.one_mul, ← Nat.pow_add]; congr 1; omega
    have hB1 : 0 < steps (rung b) := by
      rw [steps_parts]; exact Nat.mul_pos (Nat.pos_of_ne_zero hb0) (Nat.two_pow_pos _)
    have hM2 : 2 ^ (expo a + 1010).toNat < 2 ^ (expo a + 1073).toNat := Nat.pow_lt_pow_right (by decide) (by omega)
    have hlit := little a (steps (rung b)) (2 ^ (expo a + 1010).toNat) hea hB1 (lower_small a b xb hd) (Nat.two_pow_pos _) hM2
    rw [real_plus same a 1 _ xa eM]
    cases same
    · rw [plusOr_f, plusOr_f]
      refine ⟨fun r => ?_, fun r => ?_⟩
      · rw [Nat.mul_one]; exact (hlit r).2.2.1.trans (Nat.mul_le_mul_right_iff hp).symm
      · rw [Nat.mul_one]; exact (hlit r).2.2.2.trans (Nat.mul_le_mul_right_iff hp).symm
    · rw [plusOr_t, plusOr_t]
      refine ⟨fun r => ?_, fun r => ?_⟩
      · rw [Nat.mul_one]; exact (hlit r).1.trans (Nat.mul_le_mul_right_iff hp).symm
      · rw [Nat.mul_one]; exact (hlit r).2.1.trans (Nat.mul_le_mul_right_iff hp).symm

theorem sum_near (a b : Nat) (xa : -1074 ≤ expo a) (xb : -1074 ≤ expo b) (h0 : 0 ≤ expo a - expo b) (hd : ¬ 64 < expo a - expo b) (same : Bool) :
    (∀ r, steps r * 1 ≤ plusOr same (steps (rung a)) (steps (rung b)) ↔ steps r * 2 ^ sc ≤ real (sumW same (mant a) (lowerW (mant b) (expo a - expo b))) (expo a - 64)) ∧
    (∀ r, plusOr same (steps (rung a)) (steps (rung b)) ≤ steps r * 1 ↔ real (sumW same (mant a) (lowerW (mant b) (expo a - expo b))) (expo a - 64) ≤ steps r * 2 ^ sc) := by
  have hs := sc_eq
  have hp : 0 < 2 ^ sc := Nat.two_pow_pos _
  have eL : lowerW (mant b) (expo a - expo b) = mant b * 2 ^ (64 - (expo a - expo b).toNat) := if_neg hd
  rw [eL]
  have eB : mant b * 2 ^ (64 - (expo a - expo b).toNat) * 2 ^ (expo a - 64 + 1074 + (sc : Int)).toNat = steps (rung b) * 2 ^ sc := by
    rw [steps_parts, Nat.mul_assoc, Nat.mul_assoc, ← Nat.pow_add, ← Nat.pow_add]
    congr 2; omega
  exact same_scale 1 _ (2 ^ sc) _ hp (Nat.one_mul _) (real_plus same a _ _ xa eB).symm

theorem sum_real (a b : Nat) (xa : -1074 ≤ expo a) (xb : -1074 ≤ expo b) (hn : nearB (expo a) (expo b) (mant a) (mant b) = false) (same : Bool) :
    steps (rung b) ≤ steps (rung a) ∧
    (∀ r, steps r * 1 ≤ plusOr same (steps (rung a)) (steps (rung b)) ↔ steps r * 2 ^ sc ≤ real (sumW same (mant a) (lowerW (mant b) (expo a - expo b))) (expo a - 64)) ∧
    (∀ r, plusOr same (steps (rung a)) (steps (rung b)) ≤ steps r * 1 ↔ real (sumW same (mant a) (lowerW (mant b) (expo a - expo b))) (expo a - 64) ≤ steps r * 2 ^ sc) := by
  have hord : ¬ (expo a < expo b ∨ expo a = expo b ∧ (mant a : Int) < mant b) := by unfold nearB at hn; exact of_decide_eq_false hn
  refine ⟨below_of a b xa xb hord, ?_⟩
  by_cases hd : 64 < expo a - expo b
  · exact sum_far a b xa xb hd same
  · exact sum_near a b xa xb (by omega) hd same

theorem near_flip (e f m n : Int) (h : nearB e f m n = true) : nearB f e n m = false := by
  unfold nearB at *
  have := of_decide_eq_true h
  exact decide_eq_false (by omega)

theorem sg_plus (s t : Bool) (A B : Nat) (h : B ≤ A) : sg s (plusOr (s == t) A B) = sg s A + sg t B := by
  cases s <;> cases t
  · show ((plusOr true A B : Nat) : Int) = (A : Int) + (B : Int); rw [plusOr_t]; omega
  · show ((plusOr false A B : Nat) : Int) = (A : Int) + -(B : Int); rw [plusOr_f]; omega
  · show -((plusOr false A B : Nat) : Int) = -(A : Int) + (B : Int); rw [plusOr_f]; omega
  · show -((plusOr true A B : Nat) : Int) = -(A : Int) + -(B : Int); rw [plusOr_t]; omega

/-- The sum of two numbers, whatever signs they are given, rounded. -/
theorem plus_dir (s t : Bool) (a b : Nat) (ra : rightB a = true) (rb : rightB b = true) (up : Bool) :
    (up = false → Down 1 (sg s (steps (rung a)) + sg t (steps (rung b))) (roundW (plusN s t (mant a) (mant b) (expo a) (expo b)) (plusW s t (mant a) (mant b) (expo a) (expo b)) (plusX (mant a) (mant b) (expo a) (expo b)) up) (roundE (plusN s t (mant a) (mant b) (expo a) (expo b)) (plusW s t (mant a) (mant b) (expo a) (expo b)) (plusX (mant a) (mant b) (expo a) (expo b)) up)) ∧
    (up = true → Up 1 (sg s (steps (rung a)) + sg t (steps (rung b))) (roundW (plusN s t (mant a) (mant b) (expo a) (expo b)) (plusW s t (mant a) (mant b) (expo a) (expo b)) (plusX (mant a) (mant b) (expo a) (expo b)) up) (roundE (plusN s t (mant a) (mant b) (expo a) (expo b)) (plusW s t (mant a) (mant b) (expo a) (expo b)) (plusX (mant a) (mant b) (expo a) (expo b)) up)) := by
  have xa := expo_in a ra
  have xb := expo_in b rb
  have hlt := plusW_lt s t (mant a) (mant b) (expo a) (expo b) (mant_lt a) (mant_lt b) (mant_norm a) (mant_norm b) xa.1 xb.1
  have hx := plusX_in (mant a) (mant b) (expo a) (expo b) xa.1 (by omega) xb.1 (by omega)
  cases hn : nearB (expo a) (expo b) (mant a) (mant b)
  · obtain ⟨h1, h2, h3⟩ := sum_real a b xa.1 xb.1 hn (s == t)
    have eN : plusN s t (mant a) (mant b) (expo a) (expo b) = s := if_neg (by rw [hn]; exact Bool.false_ne_true)
    have eW : plusW s t (mant a) (mant b) (expo a) (expo b) = sumW (s == t) (mant a) (lowerW (mant b) (expo a - expo b)) := if_neg (by rw [hn]; exact Bool.false_ne_true)
    have eX : plusX (mant a) (mant b) (expo a) (expo b) = expo a - 64 := if_neg (by rw [hn]; exact Bool.false_ne_true)
    rw [eW] at hlt
    rw [eN, eW, eX, ← sg_plus s t _ _ h1]
    exact round_real s _ _ up 1 _ (by decide) hlt (by omega) h2 h3
  · obtain ⟨h1, h2, h3⟩ := sum_real b a xb.1 xa.1 (near_flip _ _ _ _ hn) (t == s)
    have eN : plusN s t (mant a) (mant b) (expo a) (expo b) = t := if_pos hn
    have eW : plusW s t (mant a) (mant b) (expo a) (expo b) = sumW (t == s) (mant b) (lowerW (mant a) (expo b - expo a)) := if_pos hn
    have eX : plusX (mant a) (mant b) (expo a) (expo b) = expo b - 64 := if_pos hn
    rw [eW] at hlt
    rw [eN, eW, eX, Int.add_comm, ← sg_plus t s _ _ h1]
    exact round_real t _ _ up 1 _ (by decide) hlt (by omega) h2 h3

theorem val_sg (a : Nat) : val a = sg (sgnB a) (steps (rung a)) := rfl
theorem neg_sg (s : Bool) (A : Nat) : sg (!s) A = -sg s A := by cases s <;> simp [sg]

theorem add_down (a b : Nat) (ra : rightB a = true) (rb : rightB b = true) : Down 1 (val a + val b) (addW a b false) (addE a b false) := by
  have e1 : addW a b false = _ := if_pos (by rw [ra, rb]; rfl)
  have e2 : addE a b false = _ := if_pos (by rw [ra, rb]; rfl)
  rw [e1, e2]; exact (plus_dir (sgnB a) (sgnB b) a b ra rb false).1 rfl
theorem add_up (a b : Nat) (ra : rightB a = true) (rb : rightB b = true) : Up 1 (val a + val b) (addW a b true) (addE a b true) := by
  have e1 : addW a b true = _ := if_pos (by rw [ra, rb]; rfl)
  have e2 : addE a b true = _ := if_pos (by rw [ra, rb]; rfl)
  rw [e1, e2]; exact (plus_dir (sgnB a) (sgnB b) a b ra rb true).2 rfl
theorem sub_down (a b : Nat) (ra : rightB a = true) (rb : rightB b = true) : Down 1 (val a - val b) (subW a b false) (subE a b false) := by
  have e1 : subW a b false = _ := if_pos (by rw [ra, rb]; rfl)
  have e2 : subE a b false = _ := if_pos (by rw [ra, rb]; rfl)
  rw [e1, e2, Int.sub_eq_add_neg, val_sg b, ← neg_sg]; exact (plus_dir (sgnB a) (!sgnB b) a b ra rb false).1 rfl
theorem sub_up (a b : Nat) (ra : rightB a = true) (rb : rightB b = true) : Up 1 (val a - val b) (subW a b true) (subE a b true) := by
  have e1 : subW a b true = _ := if_pos (by rw [ra, rb]; rfl)
  have e2 : subE a b true = _ := if_pos (by rw [ra, rb]; rfl)
  rw [e1, e2, Int.sub_eq_add_neg, val_sg b, ← neg_sg]; exact (plus_dir (sgnB a) (!sgnB b) a b ra rb true).2 rfl

/-- How many least steps make 1, as a power of two. -/
def sq : Nat := 1074
theorem sq_eq : sq = 1074 := rfl

theorem mul_real (a b : Nat) (xa : -1074 ≤ expo a) (xb : -1074 ≤ expo b) :
    (∀ r, steps r * 2 ^ sq ≤ steps (rung a) * steps (rung b) ↔ steps r * 2 ^ sc ≤ real (mant a * mant b) (expo a + expo b)) ∧
    (∀ r, steps (rung a) * steps (rung b) ≤ steps r * 2 ^ sq ↔ real (mant a * mant b) (expo a + expo b) ≤ steps r * 2 ^ sc) := by
  have hs := sc_eq
  have hq := sq_eq
  refine same_scale _ _ (2 ^ (sc - sq)) _ (Nat.two_pow_pos _) ?_ ?_
  · rw [← Nat.pow_add]; congr 1
  · unfold real
    rw [steps_parts, steps_parts, Nat.mul_mul_mul_comm, Nat.mul_assoc, ← Nat.pow_add, ← Nat.pow_add]
    congr 2; omega

theorem sg_mul (s t : Bool) (A B : Nat) : sg (!(s == t)) (A * B) = sg s A * sg t B := by
  cases s <;> cases t <;> simp [sg, Int.natCast_mul, Int.neg_mul, Int.mul_neg]

theorem mul_dir (a b : Nat) (ra : rightB a = true) (rb : rightB b = true) (up : Bool) :
    (up = false → Down (2 ^ sq) (val a * val b) (mulW a b up) (mulE a b up)) ∧ (up = true → Up (2 ^ sq) (val a * val b) (mulW a b up) (mulE a b up)) := by
  have xa := expo_in a ra
  have xb := expo_in b rb
  obtain ⟨h2, h3⟩ := mul_real a b xa.1 xb.1
  have hlt : mant a * mant b < 340282366920938463463374607431768211456 := Nat.lt_of_le_of_lt (Nat.mul_le_mul (Nat.le_of_lt (mant_lt a)) (Nat.le_of_lt (mant_lt b))) (by decide)
  have e1 : mulW a b up = _ := if_pos (by rw [ra, rb]; rfl)
  have e2 : mulE a b up = _ := if_pos (by rw [ra, rb]; rfl)
  rw [e1, e2, val_sg a, val_sg b, ← sg_mul]
  exact round_real _ _ _ up _ _ (Nat.two_pow_pos _) hlt (by omega) h2 h3

end Go.Proofs.Ytdppppaoflhgdaa
