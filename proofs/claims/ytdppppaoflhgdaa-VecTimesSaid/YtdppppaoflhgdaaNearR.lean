
/- Plain mathematics of layer 1: the nearest root is what is rounded down, or what is rounded up. -/
import Derived.Test.YtdppppaoflhgdaaNearD
namespace Go.Proofs.Ytdppppaoflhgdaa
open Go.RowKit

theorem rootFrom_is (n : Nat) : ∀ (todo root : Nat), root * root ≤ n → n < (root + 2 ^ todo) * (root + 2 ^ todo) →
    Ieee.Datum.rootFrom n todo root * Ieee.Datum.rootFrom n todo root ≤ n ∧ n < (Ieee.Datum.rootFrom n todo root + 1) * (Ieee.Datum.rootFrom n todo root + 1)
  | 0, root, h1, h2 => ⟨h1, by rw [Nat.pow_zero] at h2; exact h2⟩
  | todo + 1, root, h1, h2 => by
    unfold Ieee.Datum.rootFrom
    simp only [Nat.shiftLeft_eq, Nat.one_mul]
    have e : root + 2 ^ (todo + 1) = root + 2 ^ todo + 2 ^ todo := by rw [Nat.pow_succ]; omega
    rw [e] at h2
    by_cases c : (root + 2 ^ todo) * (root + 2 ^ todo) ≤ n
    · rw [if_pos c]
      exact rootFrom_is n todo _ c h2
    · rw [if_neg c]
      exact rootFrom_is n todo _ h1 (by omega)

theorem whole_root (n : Nat) (h0 : n ≠ 0) : Ieee.Datum.rootFrom n (n.log2 / 2 + 1) 0 * Ieee.Datum.rootFrom n (n.log2 / 2 + 1) 0 ≤ n ∧ n < (Ieee.Datum.rootFrom n (n.log2 / 2 + 1) 0 + 1) * (Ieee.Datum.rootFrom n (n.log2 / 2 + 1) 0 + 1) := by
  refine rootFrom_is n _ 0 (by omega) ?_
  rw [Nat.zero_add, ← Nat.pow_add]
  exact (Nat.log2_lt h0).1 (by omega)

theorem root_mark (a : Nat) (xa : -1074 ≤ expo a) (xa1 : expo a ≤ 971) (hm0 : mant a ≠ 0) (more whole : Nat) (hm1 : 108 ≤ (mant a).log2 + more) (hm2 : more ≤ 110) (hpar : (expo a - more) % 2 = 0)
    (w1 : whole * whole ≤ mant a * 2 ^ more) (w2 : mant a * 2 ^ more < (whole + 1) * (whole + 1)) (r : Nat) :
    (steps r * steps r ≤ steps (rung a) * 2 ^ sq ↔ steps r * 2 ^ sc ≤ real (2 * whole + (whole * whole != mant a * 2 ^ more).toNat) ((expo a - more) / 2 - 1)) ∧
    (steps (rung a) * 2 ^ sq ≤ steps r * steps r ↔ real (2 * whole + (whole * whole != mant a * 2 ^ more).toNat) ((expo a - more) / 2 - 1) ≤ steps r * 2 ^ sc) := by
  have hs := sc_eq
  have hq := sq_eq
  have hbig : 9007199254740992 ≤ whole := by
    have h2 : 2 ^ (mant a).log2 ≤ mant a := Nat.log2_self_le hm0
    have h3 : 2 ^ 108 ≤ 2 ^ (mant a).log2 * 2 ^ more := by rw [← Nat.pow_add]; exact Nat.pow_le_pow_right (by decide) hm1
    have h4 : 2 ^ (mant a).log2 * 2 ^ more ≤ mant a * 2 ^ more := Nat.mul_le_mul_right _ h2
    have h5 : 9007199254740992 * 9007199254740992 ≤ 2 ^ 108 := by decide
    have := sq_lt (Nat.lt_of_le_of_lt (Nat.le_trans h5 (Nat.le_trans h3 h4)) w2)
    omega
  have eE : ((expo a - (more : Int)) / 2 + 1074 + (sc : Int)).toNat = ((expo a - (more : Int)) / 2 - 1 + 1074 + (sc : Int)).toNat + 1 := by omega
  have eP : 2 ^ ((expo a - (more : Int)) / 2 + 1074 + (sc : Int)).toNat = 2 * 2 ^ ((expo a - (more : Int)) / 2 - 1 + 1074 + (sc : Int)).toNat := by
    rw [eE, Nat.pow_succ, Nat.mul_comm]
  have hcell := cell_root (steps r * 2 ^ sc) whole _ _ (mant a * 2 ^ more) ((whole * whole != mant a * 2 ^ more).toNat) 2
    (grain2 r _ _ hbig) eP (Nat.two_pow_pos _) (by decide) (by cases (whole * whole != mant a * 2 ^ more) <;> decide) w1 w2
    (by
      by_cases c : whole * whole = mant a * 2 ^ more
      · simp [c]
      · simp [c])
  have hR : real (2 * whole + (whole * whole != mant a * 2 ^ more).toNat) ((expo a - more) / 2 - 1) = whole * 2 ^ ((expo a - (more : Int)) / 2 + 1074 + (sc : Int)).toNat + (whole * whole != mant a * 2 ^ more).toNat * 2 ^ ((expo a - (more : Int)) / 2 - 1 + 1074 + (sc : Int)).toNat := by
    unfold real
    rw [Nat.add_mul, eP, Nat.mul_assoc, Nat.mul_left_comm]
  rw [hR]
  have hsc := iff_scale (steps r * steps r) (steps (rung a) * 2 ^ sq) (steps r * 2 ^ sc * (steps r * 2 ^ sc)) (mant a * 2 ^ more * (2 ^ ((expo a - (more : Int)) / 2 + 1074 + (sc : Int)).toNat * 2 ^ ((expo a - (more : Int)) / 2 + 1074 + (sc : Int)).toNat))
    (2 ^ sc * 2 ^ sc) 1 (Nat.mul_pos (Nat.two_pow_pos _) (Nat.two_pow_pos _)) (by decide)
    (by rw [Nat.mul_one, Nat.mul_mul_mul_comm])
    (by
      rw [steps_parts a, Nat.mul_one]
      simp only [Nat.mul_assoc, ← Nat.pow_add]
      congr 2
      omega)
  exact ⟨hsc.1.trans hcell.1, hsc.2.trans hcell.2⟩

theorem root_num (digits m more whole : Nat) (i : Int) (hm : m ≠ 0) (e : 2 * digits - m.log2 + ((i - ((2 * digits - m.log2 : Nat) : Int)) % 2).toNat = more)
    (w : Ieee.Datum.rootFrom (m * 2 ^ more) ((m * 2 ^ more).log2 / 2 + 1) 0 = whole) :
    Ieee.Datum.root digits (.number false m i) = some (.number false (2 * whole + (whole * whole != m * 2 ^ more).toNat) ((i - more) / 2 - 1)) := by
  unfold Ieee.Datum.root
  simp only [if_neg hm, Nat.shiftLeft_eq, e, w]
  simp

theorem root_nil (digits : Nat) (i : Int) : Ieee.Datum.root digits (.number false 0 i) = some (.number false 0 i) := by
  unfold Ieee.Datum.root
  simp only [if_pos]

theorem write_num (f : Ieee.Format) (s : Bool) (m : Nat) (i : Int) : f.write (.number s m i) = f.nearest s m i := rfl

theorem near_nil (f : Ieee.Format) (s : Bool) (i : Int) : f.nearest s 0 i = f.word s 0 := by
  unfold Ieee.Format.nearest; rw [if_pos rfl]

theorem root_done (a R : Nat) (ra : rightB a = true) (sa : sgnB a = false)
    (h1 : ∀ r, steps r * steps r ≤ steps (rung a) * 2 ^ sq → r ≤ R) (h2 : ∀ r, steps (rung a) * 2 ^ sq ≤ steps r * steps r → R ≤ r) :
    R < 9218868437227405312 ∧ R < 18446744073709551616 ∧ rightB R = true ∧ (val R = val (sqrtW a false) ∨ val R = val (sqrtW a true)) := by
  obtain ⟨d1, d2, d3, _⟩ := sqrt_rungs a ra sa false
  obtain ⟨u1, u2, _, u4⟩ := sqrt_rungs a ra sa true
  have d3' := d3 rfl
  have u4' := u4 rfl
  have hRu := h2 _ ((u4' _).2 (Nat.le_refl _))
  have hRd := h1 _ ((d3' _).2 (Nat.le_refl _))
  have hlt : R < 9218868437227405312 := by omega
  obtain ⟨f1, f2, _⟩ := sw_facts false R (by omega)
  rw [sw_false] at f1 f2
  refine ⟨hlt, f1, f2, ?_⟩
  rcases Nat.le_total (steps R * steps R) (steps (rung a) * 2 ^ sq) with g | g
  · left
    have := (d3' R).1 g
    rw [show R = sqrtW a false by omega]
  · right
    have := (u4' R).1 g
    rw [show R = sqrtW a true by omega]

theorem word_least (R : Nat) (h : R < 9218868437227405312) : Ieee.double.word false (min R 9218868437227405312) = R := by
  rw [Nat.min_eq_left (by omega)]; rfl

theorem sqrt_is (a : Nat) (d : Ieee.Datum) (r : Nat) (digits : Nat) (hd : Ieee.double.fractionBits + 2 = digits) (hr : Ieee.double.read a = d) (h : (d.root digits).map Ieee.double.write = some r) : FloatKind.f64.format.sqrt a = some r := by
  rw [fmt64]
  unfold Ieee.Format.sqrt
  rw [hr, hd]
  exact h

/-- The nearest root of a number that is not negative. -/
theorem sqrt_beside (a : Nat) (ha : a < 18446744073709551616) (ra : rightB a = true) (sa : sgnB a = false) :
    ∃ r, FloatKind.f64.format.sqrt a = some r ∧ r < 18446744073709551616 ∧ rightB r = true ∧ (val r = val (sqrtW a false) ∨ val r = val (sqrtW a true)) := by
  have xa := expo_in a ra
  have hread := read_num a ha (right_rung a ra)
  rw [sa] at hread
  by_cases hm0 : mant a = 0
  · have hA : steps (rung a) = 0 := by rw [steps_parts, hm0, Nat.zero_mul]
    obtain ⟨g1, g2⟩ := root_done a 0 ra sa (fun r h => by
      rw [hA, Nat.zero_mul, Nat.le_zero, Nat.mul_eq_zero, or_self] at h
      rw [(steps_zero r).1 h]
      exact Nat.le_refl _) (fun r _ => Nat.zero_le _)
    refine ⟨0, sqrt_is a _ 0 54 (by decide) hread ?_, g2⟩
    rw [hm0, root_nil, Option.map_some, write_num, near_nil]
    decide
  · have la : (mant a).log2 < 53 := (Nat.log2_lt hm0).2 (mant_lt a)
    obtain ⟨more, hmore⟩ : ∃ more : Nat, 2 * 54 - (mant a).log2 + ((expo a - ((2 * 54 - (mant a).log2 : Nat) : Int)) % 2).toNat = more := ⟨_, rfl⟩
    have hn0 : mant a * 2 ^ more ≠ 0 := Nat.ne_of_gt (Nat.mul_pos (Nat.pos_of_ne_zero hm0) (Nat.two_pow_pos _))
    obtain ⟨w1, w2⟩ := whole_root (mant a * 2 ^ more) hn0
    have hroot := fun whole w => root_num 54 (mant a) more whole (expo a) hm0 hmore w
    generalize hw : Ieee.Datum.rootFrom (mant a * 2 ^ more) ((mant a * 2 ^ more).log2 / 2 + 1) 0 = whole at w1 w2
    have hrt := hroot whole hw
    clear hroot
    have hk := fun r => root_mark a xa.1 xa.2 hm0 more whole (by omega) (by omega) (by omega) w1 w2 r
    have hmag : 2 * whole + (whole * whole != mant a * 2 ^ more).toNat ≠ 0 := by
      intro h
      have hz : whole = 0 := by omega
      rw [hz] at w2
      have : mant a * 2 ^ more = 0 := by omega
      exact hn0 this
    obtain ⟨R, e, h1, h2⟩ := near_rung false _ ((expo a - (more : Int)) / 2 - 1) hmag (by omega)
    obtain ⟨g1, g2⟩ := root_done a R ra sa (fun r h => h1 r ((hk r).1.1 h)) (fun r h => h2 r ((hk r).2.1 h))
    refine ⟨R, sqrt_is a _ R 54 (by decide) hread ?_, g2⟩
    rw [hrt, Option.map_some, write_num, e, word_least R g1]

end Go.Proofs.Ytdppppaoflhgdaa
