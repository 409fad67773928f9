
/- Plain mathematics of layer 3: whole numbers as words, exact products, words as whole numbers; a draw's two ends; a weight's bound; what is left of a draw. No program is named here. -/
import Derived.Test.YtdppppaoflhgdaaNearD
import Derived.Test.YtdppppaoflhgdaaNext
import Derived.Laws.FloatArith
import Derived.Laws.Cover2
namespace Go.Proofs.Ytdppppaoflhgdaa
open Go.RowKit

/-- Each whole number below 2^53, times a power of two, is a number. -/
theorem num_at (m k : Nat) (hm : m < 9007199254740992) (h1 : 53 ≤ k) (h2 : k ≤ 1900) : ∃ r, r < 9218868437227405312 ∧ steps r = m * 2 ^ k := by
  by_cases h0 : m = 0
  · subst h0; exact ⟨0, by decide, by rw [Nat.zero_mul]; rfl⟩
  · have l1 : 2 ^ m.log2 ≤ m := Nat.log2_self_le h0
    have l2 : m < 2 ^ (m.log2 + 1) := Nat.lt_log2_self
    have e53 : (9007199254740992 : Nat) = 2 ^ 53 := by decide
    have e52 : (4503599627370496 : Nat) = 2 ^ 52 := by decide
    have hl : m.log2 < 53 := (Nat.pow_lt_pow_iff_right (by decide : 1 < 2)).1 (by omega)
    obtain ⟨j, hj⟩ : ∃ j, j = 52 - m.log2 := ⟨_, rfl⟩
    have b1 : m * 2 ^ j < 9007199254740992 := by
      have h := Nat.mul_lt_mul_of_pos_right l2 (Nat.two_pow_pos j)
      rw [← Nat.pow_add, show m.log2 + 1 + j = 53 by omega] at h
      omega
    have b2 : 4503599627370496 ≤ m * 2 ^ j := by
      have h := Nat.mul_le_mul_right (2 ^ j) l1
      rw [← Nat.pow_add, show m.log2 + j = 52 by omega] at h
      omega
    refine ⟨(k - j) * 4503599627370496 + m * 2 ^ j, by omega, ?_⟩
    rw [steps_km _ _ (by omega) (Or.inr b2), Nat.mul_assoc, ← Nat.pow_add]
    congr 2; omega

/-- A word below that of infinity is a number that is not below 0. -/
theorem pos_facts (c : Nat) (h : c < 9218868437227405312) : c < 18446744073709551616 ∧ rightB c = true ∧ sgnB c = false ∧ rung c = c ∧ val c = (steps c : Int) := by
  obtain ⟨f1, f2, f3⟩ := sw_facts false c (by omega)
  rw [sw_false] at f1 f2 f3
  refine ⟨f1, f2, ?_, ?_, f3⟩
  · unfold sgnB; exact decide_eq_false (by omega)
  · unfold rung; omega

/-- A number that is not below 0 is a word below that of infinity. -/
theorem pos_word (c : Nat) (hc : c < 18446744073709551616) (rc : rightB c = true) (h : 0 ≤ val c) : c < 9218868437227405312 := by
  have h1 := right_rung c rc
  have h2 : sgnB c ≠ true := fun h' => by have := (val_neg c hc rc).2 h'; omega
  have h3 : ¬ 9223372036854775808 ≤ c := fun h' => h2 (by unfold sgnB; exact decide_eq_true h')
  unfold rung at h1
  omega

/-- The word of a whole number. -/
theorem from_int (n : Nat) (h : n < 9007199254740992) : FloatKind.f64.nearest (n : Int) < 9218868437227405312 ∧ steps (FloatKind.f64.nearest (n : Int)) = n * 2 ^ sq := by
  by_cases h0 : n = 0
  · subst h0
    have e : FloatKind.f64.nearest ((0 : Nat) : Int) = 0 := by decide +kernel
    rw [e, Nat.zero_mul]; exact ⟨by decide, rfl⟩
  · have e : FloatKind.f64.nearest (n : Int) = Ieee.double.nearest false n 0 := by
      unfold FloatKind.nearest FloatKind.encode Ieee.Format.write
      rw [fmt64]
      have : decide ((n : Int) < 0) = false := decide_eq_false (by omega)
      simp only [this, Int.natAbs_natCast]
    have hq := sq_eq
    have hs := sc_eq
    obtain ⟨R, r1, r2, r3⟩ := near_rung false n 0 h0 (by omega)
    obtain ⟨r, hr, hv⟩ := num_at n sq h (by omega) (by omega)
    have er : real n 0 = steps r * 2 ^ sc := by
      unfold real
      rw [hv, Nat.mul_assoc, ← Nat.pow_add]
      congr 2
    have q1 := r2 r (by rw [er]; exact Nat.le_refl _)
    have q2 := r3 r (by rw [er]; exact Nat.le_refl _)
    have hR : R = r := by omega
    rw [e, r1, hR, Nat.min_eq_left (by omega)]
    exact ⟨hr, hv⟩

/-- A product that is a number is that number. -/
theorem mul_exact (a b c : Nat) (ha : a < 18446744073709551616) (hb : b < 18446744073709551616) (ra : rightB a = true) (rb : rightB b = true) (hc : c < 9218868437227405312) (h0 : c ≠ 0) (h : val c * ((2 ^ sq : Nat) : Int) = val a * val b) : floatBits .mul .f64 a b = some c := by
  obtain ⟨c1, c2, _, _, c5⟩ := pos_facts c hc
  obtain ⟨r, hr, hB⟩ := mul_beside a b ha hb ra rb
  have hp : (0 : Int) < ((2 ^ sq : Nat) : Int) := Int.natCast_pos.2 (Nat.two_pow_pos _)
  obtain ⟨b1, b2, b3⟩ := hB c c (Or.inl ⟨rfl, c1, c2, by omega, fun d _ _ hd => Int.le_of_mul_le_mul_right (by omega : val d * ((2 ^ sq : Nat) : Int) ≤ val c * ((2 ^ sq : Nat) : Int)) hp⟩)
    (Or.inl ⟨rfl, c1, c2, by omega, fun d _ _ hd => Int.le_of_mul_le_mul_right (by omega : val c * ((2 ^ sq : Nat) : Int) ≤ val d * ((2 ^ sq : Nat) : Int)) hp⟩)
  have hv : val r = val c := by rcases b3 with h | h <;> exact h
  have hpos : 0 < steps c := by
    rcases Nat.eq_zero_or_pos (steps c) with h | h
    · exact absurd ((steps_zero c).1 h) h0
    · exact h
  have rr : rightB r = true := by
    unfold rightB
    rw [decide_eq_true (show r % 9223372036854775808 < 9218868437227405312 from b2), decide_eq_false]
    · rfl
    · intro h
      subst h
      have : val 9223372036854775808 = 0 := by decide
      omega
  rw [hr, val_inj b1 c1 rr c2 hv]

/-- What is not above a number is that number, where it is one. -/
theorem Down.exact {s : Nat} {T : Int} {x c : Nat} {e : Int} (hd : Down s T x e) (hs : 0 < s) (hc : c < 9218868437227405312) (h : val c * (s : Int) = T) : e = 0 ∧ x = c := by
  obtain ⟨c1, c2, _, _, _⟩ := pos_facts c hc
  rcases hd with ⟨he, x1, x2, x3, x4⟩ | ⟨_, _, g⟩
  · have hp : (0 : Int) < (s : Int) := by omega
    have h1 := x4 c c1 c2 (by omega)
    have h2 : val x ≤ val c := Int.le_of_mul_le_mul_right (by omega : val x * (s : Int) ≤ val c * (s : Int)) hp
    exact ⟨he, val_inj x1 c1 x2 c2 (by omega)⟩
  · have := g c c1 c2; omega

/-- The size of a draw's step, in least steps. -/
def dr : Nat := 1010
theorem dr_eq : dr = 1010 := rfl
theorem one_dr : (2 : Nat) ^ sq = 18446744073709551616 * 2 ^ dr := by
  rw [show (18446744073709551616 : Nat) = 2 ^ 64 by decide, ← Nat.pow_add, show 64 + dr = sq from rfl]

/-- A whole number times a power of two, by the model's floats. -/
def partW (n : Int) (X : Nat) : Nat := (floatBits .mul .f64 (floatOfInt .f64 n) X).getD 0

theorem part_word (n k X : Nat) (hn : n < 9007199254740992) (h1 : 53 ≤ k) (h2 : k ≤ 1900) (hX : X < 9218868437227405312) (hv : steps X = 2 ^ k) (hz : floatBits .mul .f64 0 X = some 0) :
    floatBits .mul .f64 (floatOfInt .f64 (n : Int)) X = some (partW n X) ∧ partW n X < 9218868437227405312 ∧ steps (partW n X) = n * 2 ^ k := by
  obtain ⟨f1, f2⟩ := from_int n hn
  by_cases h0 : n = 0
  · subst h0
    have e : FloatKind.f64.nearest ((0 : Nat) : Int) = 0 := by decide +kernel
    unfold partW floatOfInt
    rw [e, hz, Nat.zero_mul]
    exact ⟨rfl, by decide, rfl⟩
  · obtain ⟨c, hc, hcv⟩ := num_at n k hn h1 h2
    obtain ⟨a1, a2, _, _, a5⟩ := pos_facts _ f1
    obtain ⟨x1, x2, _, _, x5⟩ := pos_facts X hX
    obtain ⟨_, _, _, _, c5⟩ := pos_facts c hc
    have hne : c ≠ 0 := by
      intro h
      subst h
      have h3 : n * 2 ^ k = 0 := hcv.symm
      rcases Nat.mul_eq_zero.1 h3 with h | h
      · omega
      · have := Nat.two_pow_pos k; omega
    have hm := mul_exact (FloatKind.f64.nearest (n : Int)) X c a1 x1 a2 x2 hc hne (by
      rw [a5, x5, c5, f2, hv, hcv, ← Int.natCast_mul, ← Int.natCast_mul, Nat.mul_right_comm])
    unfold partW floatOfInt
    rw [hm]
    exact ⟨rfl, hc, hcv⟩

/-- The two ends of a draw's interval. -/
def ofLo (u : Nat) : Nat := addW (partW ((u / 4294967296 : Nat) : Int) 4463067230724161536) (partW ((u % 4294967296 : Nat) : Int) 4318952042648305664) false
def ofHi (u : Nat) : Nat := addW (partW ((u / 4294967296 : Nat) : Int) 4463067230724161536) (partW ((u % 4294967296 : Nat) : Int) 4318952042648305664) true

theorem part_high (u : Nat) (hu : u < 18446744073709551616) : floatBits .mul .f64 (floatOfInt .f64 ((u / 4294967296 : Nat) : Int)) 4463067230724161536 = some (partW ((u / 4294967296 : Nat) : Int) 4463067230724161536) ∧ partW ((u / 4294967296 : Nat) : Int) 4463067230724161536 < 9218868437227405312 ∧ steps (partW ((u / 4294967296 : Nat) : Int) 4463067230724161536) = u / 4294967296 * 2 ^ (dr + 32) :=
  part_word (u / 4294967296) (dr + 32) 4463067230724161536 (by omega) (by rw [dr_eq]; decide) (by rw [dr_eq]; decide) (by decide) (by decide +kernel) (by decide +kernel)
theorem part_low (u : Nat) : floatBits .mul .f64 (floatOfInt .f64 ((u % 4294967296 : Nat) : Int)) 4318952042648305664 = some (partW ((u % 4294967296 : Nat) : Int) 4318952042648305664) ∧ partW ((u % 4294967296 : Nat) : Int) 4318952042648305664 < 9218868437227405312 ∧ steps (partW ((u % 4294967296 : Nat) : Int) 4318952042648305664) = u % 4294967296 * 2 ^ dr :=
  part_word (u % 4294967296) dr 4318952042648305664 (by omega) (by rw [dr_eq]; decide) (by rw [dr_eq]; decide) (by decide) (by decide +kernel) (by decide +kernel)

theorem val_one : val 4607182418800017408 = ((2 ^ sq : Nat) : Int) := by decide +kernel

/-- They are the greatest number that is not above the draw, and the least one that is not below it. -/
theorem of_tight (u : Nat) (hu : u < 18446744073709551616) : Down 1 ((u * 2 ^ dr : Nat) : Int) (ofLo u) 0 ∧ Up 1 ((u * 2 ^ dr : Nat) : Int) (ofHi u) 0 ∧
    addE (partW ((u / 4294967296 : Nat) : Int) 4463067230724161536) (partW ((u % 4294967296 : Nat) : Int) 4318952042648305664) false = 0 ∧ addE (partW ((u / 4294967296 : Nat) : Int) 4463067230724161536) (partW ((u % 4294967296 : Nat) : Int) 4318952042648305664) true = 0 := by
  obtain ⟨_, a2, a3⟩ := part_high u hu
  obtain ⟨_, b2, b3⟩ := part_low u
  obtain ⟨_, ar, _, _, av⟩ := pos_facts _ a2
  obtain ⟨_, br, _, _, bv⟩ := pos_facts _ b2
  have hT : val (partW ((u / 4294967296 : Nat) : Int) 4463067230724161536) + val (partW ((u % 4294967296 : Nat) : Int) 4318952042648305664) = ((u * 2 ^ dr : Nat) : Int) := by
    rw [av, bv, a3, b3, ← Int.natCast_add, Nat.pow_add, Nat.mul_comm (2 ^ dr), ← Nat.mul_assoc, ← Nat.add_mul]
    congr 2; omega
  have hd := add_down _ _ ar br
  have hup := add_up _ _ ar br
  rw [hT] at hd hup
  have e1 : addE (partW ((u / 4294967296 : Nat) : Int) 4463067230724161536) (partW ((u % 4294967296 : Nat) : Int) 4318952042648305664) false = 0 := by
    rcases hd with ⟨h, _⟩ | ⟨_, _, g⟩
    · exact h
    · have := g 0 (by decide) (by decide)
      rw [val_0] at this; omega
  have e2 : addE (partW ((u / 4294967296 : Nat) : Int) 4463067230724161536) (partW ((u % 4294967296 : Nat) : Int) 4318952042648305664) true = 0 := by
    rcases hup with ⟨h, _⟩ | ⟨_, _, g⟩
    · exact h
    · have := g 4607182418800017408 (by decide) (by decide)
      rw [val_one, one_dr] at this
      have h2 : u * 2 ^ dr ≤ 18446744073709551616 * 2 ^ dr := Nat.mul_le_mul_right _ (by omega)
      omega
  rw [e1] at hd
  rw [e2] at hup
  exact ⟨hd, hup, e1, e2⟩

/-- A number cut to a whole one. -/
theorem to_u64 (x : Nat) (hx : x < 9218868437227405312) (h : steps x < 18446744073709551616 * 2 ^ sq) : floatToIntVal .f64 x .u64 = some ((steps x / 2 ^ sq : Nat) : Int) := by
  obtain ⟨x1, x2, x3, x4, x5⟩ := pos_facts x hx
  have hq := sq_eq
  have he := expo_ge x
  have e : (FloatKind.f64.decode x).toInt .zero = some ((steps x / 2 ^ sq : Nat) : Int) := by
    unfold FloatKind.decode
    rw [fmt64, read_num x x1 (by omega), x3]
    unfold Ieee.Datum.toInt Ieee.Datum.integral Ieee.signed
    simp only [Nat.shiftLeft_zero]
    rw [if_neg Bool.false_ne_true]
    congr 2
    unfold Ieee.Toward.cut
    simp only [Nat.shiftLeft_eq, Nat.one_mul]
    show mant x * 2 ^ (expo x).toNat / 2 ^ min (-expo x).toNat ((mant x * 2 ^ (expo x).toNat).log2 + 2) + 0 = _
    have hs : steps x = mant x * 2 ^ (expo x + 1074).toNat := by have := steps_parts x; rw [x4] at this; exact this
    rw [hs, Nat.add_zero]
    have hd : mant x * 2 ^ (expo x).toNat / 2 ^ min (-expo x).toNat ((mant x * 2 ^ (expo x).toNat).log2 + 2) = mant x * 2 ^ (expo x).toNat / 2 ^ (-expo x).toNat := by
      by_cases c : (-expo x).toNat ≤ (mant x * 2 ^ (expo x).toNat).log2 + 2
      · rw [Nat.min_eq_left c]
      · rw [Nat.min_eq_right (by omega)]
        have h1 : mant x * 2 ^ (expo x).toNat < 2 ^ ((mant x * 2 ^ (expo x).toNat).log2 + 1) := Nat.lt_log2_self
        have h2 : 2 ^ ((mant x * 2 ^ (expo x).toNat).log2 + 1) ≤ 2 ^ ((mant x * 2 ^ (expo x).toNat).log2 + 2) := Nat.pow_le_pow_right (by decide) (by omega)
        have h3 : 2 ^ ((mant x * 2 ^ (expo x).toNat).log2 + 1) ≤ 2 ^ (-expo x).toNat := Nat.pow_le_pow_right (by decide) (by omega)
        rw [Nat.div_eq_of_lt (by omega), Nat.div_eq_of_lt (by omega)]
    rw [hd]
    by_cases c : 0 ≤ expo x
    · rw [show (-expo x).toNat = 0 by omega, Nat.pow_zero, Nat.div_one, show (expo x + 1074).toNat = (expo x).toNat + sq by omega, Nat.pow_add, ← Nat.mul_assoc, Nat.mul_div_cancel _ (Nat.two_pow_pos _)]
    · rw [show (expo x).toNat = 0 by omega, Nat.pow_zero, Nat.mul_one]
      have e2 : (2 : Nat) ^ sq = 2 ^ (-expo x).toNat * 2 ^ (expo x + 1074).toNat := by
        rw [← Nat.pow_add]; congr 1; omega
      rw [e2, Nat.mul_div_mul_right _ _ (Nat.two_pow_pos _)]
  have hlt : steps x / 2 ^ sq < 18446744073709551616 := (Nat.div_lt_iff_lt_mul (Nat.two_pow_pos _)).2 h
  unfold floatToIntVal
  rw [e]
  obtain ⟨q, hq2⟩ : ∃ q, q = steps x / 2 ^ sq := ⟨_, rfl⟩
  rw [← hq2] at hlt ⊢
  have m1 : IntKind.u64.min = 0 := by decide
  have m2 : IntKind.u64.max = 18446744073709551615 := by decide
  simp only [m1, m2]
  rw [if_pos ⟨by omega, by omega⟩]

/-- The bound of a weight; what is left of a draw. -/
def bnd (w : Nat) : Nat := steps w / 2 ^ dr
def leftN (u B : Nat) : Nat := if u < B then u * 18446744073709551616 / B else (u - B) * 18446744073709551616 / (18446744073709551616 - B)

theorem one_word (w : Nat) (hw : w < 18446744073709551616) (rw' : rightB w = true) (h0 : 0 ≤ val w) (h1 : val w ≤ ((2 ^ sq : Nat) : Int)) : w < 9218868437227405312 ∧ steps w ≤ 2 ^ sq := by
  have h := pos_word w hw rw' h0
  obtain ⟨_, _, _, _, h5⟩ := pos_facts w h
  exact ⟨h, by omega⟩

/-- A number from 0 to 1, times 2^64. -/
theorem scale_up (w : Nat) (h1 : steps w ≤ 2 ^ sq) : ∃ c, c < 9218868437227405312 ∧ steps c = steps w * 18446744073709551616 := by
  have hq := sq_eq
  obtain ⟨m, k, hk, hm⟩ := steps_form w
  by_cases h0 : m = 0
  · exact ⟨0, by decide, by rw [hk, h0, Nat.zero_mul, Nat.zero_mul]; rfl⟩
  · have hkq : k ≤ sq := by
      rcases Nat.lt_or_ge sq k with g | g
      · have g1 : 2 ^ sq < 2 ^ k := Nat.pow_lt_pow_right (by decide) g
        have g2 : 1 * 2 ^ k ≤ m * 2 ^ k := Nat.mul_le_mul_right _ (by omega)
        omega
      · exact g
    obtain ⟨c, c1, c2⟩ := num_at m (k + 64) hm (by omega) (by omega)
    refine ⟨c, c1, ?_⟩
    rw [c2, hk, show (18446744073709551616 : Nat) = 2 ^ 64 by decide, Nat.pow_add, Nat.mul_assoc]

theorem val_whole : val 4895412794951729152 = ((2 ^ (sq + 64) : Nat) : Int) := by decide +kernel

/-- The product that the bound is cut from. -/
theorem bound_word (w : Nat) (hw : w < 18446744073709551616) (rw' : rightB w = true) (h0 : 0 ≤ val w) (h1 : val w ≤ ((2 ^ sq : Nat) : Int)) :
    mulE w 4895412794951729152 false = 0 ∧ mulW w 4895412794951729152 false < 9218868437227405312 ∧ steps (mulW w 4895412794951729152 false) = steps w * 18446744073709551616 := by
  obtain ⟨w1, w2⟩ := one_word w hw rw' h0 h1
  obtain ⟨c, c1, c2⟩ := scale_up w w2
  obtain ⟨_, _, _, _, w5⟩ := pos_facts w w1
  obtain ⟨_, _, _, _, c5⟩ := pos_facts c c1
  have hd := (mul_dir w 4895412794951729152 rw' (by decide) false).1 rfl
  obtain ⟨e, hx⟩ := hd.exact (Nat.two_pow_pos _) c1 (by
    rw [c5, c2, w5, val_whole, ← Int.natCast_mul, ← Int.natCast_mul, Nat.pow_add, Nat.mul_assoc, Nat.mul_comm (2 ^ sq)])
  rw [hx]
  exact ⟨e, c1, c2⟩

theorem bnd_cut (w : Nat) : steps w * 18446744073709551616 / 2 ^ sq = bnd w := by
  unfold bnd
  rw [one_dr, Nat.mul_comm, Nat.mul_div_mul_left _ _ (by decide)]

theorem bnd_le (w : Nat) (h : steps w ≤ 2 ^ sq) : bnd w ≤ 18446744073709551616 := by
  unfold bnd
  have := Nat.div_le_div_right (c := 2 ^ dr) h
  rw [one_dr, Nat.mul_div_cancel _ (Nat.two_pow_pos _)] at this
  exact this
theorem bnd_lt (w : Nat) (h : steps w < 2 ^ sq) : bnd w < 18446744073709551616 := by
  unfold bnd
  rw [Nat.div_lt_iff_lt_mul (Nat.two_pow_pos _), ← one_dr]
  exact h
theorem bnd_one (w : Nat) (h : steps w = 2 ^ sq) : bnd w = 18446744073709551616 := by
  unfold bnd
  rw [h, one_dr, Nat.mul_div_cancel _ (Nat.two_pow_pos _)]

end Go.Proofs.Ytdppppaoflhgdaa
