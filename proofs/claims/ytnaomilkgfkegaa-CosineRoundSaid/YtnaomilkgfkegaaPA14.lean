/- What the claim stands on, part 15: QM, LmM, QVu, QTU, CoML, LmV. -/
import Derived.Test.YtnaomilkgfkegaaPA12
import Derived.Test.YtnaomilkgfkegaaPA8
import Derived.Test.YtnaomilkgfkegaaPA11
import Derived.Deep.RegionHeld3
import Derived.Test.YtnaomilkgfkegaaPA13
set_option maxHeartbeats 16000000
set_option maxRecDepth 100000
namespace Go.Proofs.Ytnaomilkgfkegaa
section
open Go.RowKit

theorem corner_lo {l h l' h' X Y M : Int} (x1 : l ≤ X) (x2 : X ≤ h) (y1 : l' ≤ Y) (y2 : Y ≤ h') (c1 : M ≤ l * l') (c2 : M ≤ l * h') (c3 : M ≤ h * l') (c4 : M ≤ h * h') : M ≤ X * Y := by
  rcases Int.le_total 0 Y with g | g
  · have k : l * Y ≤ X * Y := Int.mul_le_mul_of_nonneg_right x1 g
    rcases Int.le_total 0 l with g' | g'
    · exact Int.le_trans (Int.le_trans c1 (mul_le_l y1 g')) k
    · exact Int.le_trans (Int.le_trans c2 (mul_le_n y2 g')) k
  · have k : h * Y ≤ X * Y := Int.mul_le_mul_of_nonpos_right x2 g
    rcases Int.le_total 0 h with g' | g'
    · exact Int.le_trans (Int.le_trans c3 (mul_le_l y1 g')) k
    · exact Int.le_trans (Int.le_trans c4 (mul_le_n y2 g')) k
theorem corner_hi {l h l' h' X Y M : Int} (x1 : l ≤ X) (x2 : X ≤ h) (y1 : l' ≤ Y) (y2 : Y ≤ h') (c1 : l * l' ≤ M) (c2 : l * h' ≤ M) (c3 : h * l' ≤ M) (c4 : h * h' ≤ M) : X * Y ≤ M := by
  have k := corner_lo (l := -h) (h := -l) (X := -X) (M := -M) (by omega) (by omega) y1 y2 (by rw [Int.neg_mul]; omega) (by rw [Int.neg_mul]; omega) (by rw [Int.neg_mul]; omega) (by rw [Int.neg_mul]; omega)
  rw [Int.neg_mul] at k
  omega

def HasP (r : Res) (P T : Int) : Prop := val r.lo * P ≤ T ∧ T ≤ val r.hi * P
def SS : Int := ((2 ^ sq : Nat) : Int)
theorem ss_pos : 0 ≤ SS := Int.natCast_nonneg _
theorem HasP.one (x : Nat) : HasP (oneR x) 1 (val x) := ⟨by show val x * 1 ≤ _; omega, by show _ ≤ val x * 1; omega⟩
theorem quad (a b c d : Int) : a * b * (c * d) = a * c * (b * d) := by ac_rfl

theorem HasP.mul {r s : Res} {P Q T U : Int} (hP : 0 ≤ P) (hQ : 0 ≤ Q) (fr : Fit r) (fs : Fit s) (h : HasP r P T) (h' : HasP s Q U) (he : (mulR r s).e = 0) : HasP (mulR r s) (SS * (P * Q)) (T * U) := by
  obtain ⟨T0, U0, ⟨R, _, _⟩, W⟩ := mul_worth r.lo r.hi s.lo s.hi fr.lo fr.hi fs.lo fs.hi fr.iv fs.iv
  obtain ⟨d, u⟩ := W.ends he
  obtain ⟨_, _, d3, _⟩ := d.ok
  obtain ⟨_, _, u3, _⟩ := u.ok
  have hPQ : 0 ≤ P * Q := Int.mul_nonneg hP hQ
  have l1 := fr.le
  have l2 := fs.le
  have c1 := R _ _ (Int.le_refl _) l1 (Int.le_refl _) l2
  have c2 := R _ _ (Int.le_refl _) l1 l2 (Int.le_refl _)
  have c3 := R _ _ l1 (Int.le_refl _) (Int.le_refl _) l2
  have c4 := R _ _ l1 (Int.le_refl _) l2 (Int.le_refl _)
  constructor
  · have k1 : val (mulR r s).lo * (SS * (P * Q)) ≤ T0 * (P * Q) := by
      rw [← Int.mul_assoc (val (mulR r s).lo)]
      exact Int.mul_le_mul_of_nonneg_right d3 hPQ
    refine Int.le_trans k1 (corner_lo h.1 h.2 h'.1 h'.2 ?_ ?_ ?_ ?_)
    · rw [quad]; exact Int.mul_le_mul_of_nonneg_right c1.1 hPQ
    · rw [quad]; exact Int.mul_le_mul_of_nonneg_right c2.1 hPQ
    · rw [quad]; exact Int.mul_le_mul_of_nonneg_right c3.1 hPQ
    · rw [quad]; exact Int.mul_le_mul_of_nonneg_right c4.1 hPQ
  · have k1 : U0 * (P * Q) ≤ val (mulR r s).hi * (SS * (P * Q)) := by
      rw [← Int.mul_assoc (val (mulR r s).hi)]
      exact Int.mul_le_mul_of_nonneg_right u3 hPQ
    refine Int.le_trans (corner_hi h.1 h.2 h'.1 h'.2 ?_ ?_ ?_ ?_) k1
    · rw [quad]; exact Int.mul_le_mul_of_nonneg_right c1.2 hPQ
    · rw [quad]; exact Int.mul_le_mul_of_nonneg_right c2.2 hPQ
    · rw [quad]; exact Int.mul_le_mul_of_nonneg_right c3.2 hPQ
    · rw [quad]; exact Int.mul_le_mul_of_nonneg_right c4.2 hPQ

theorem HasP.add {r s : Res} {P T U : Int} (hP : 0 ≤ P) (fr : Fit r) (fs : Fit s) (h : HasP r P T) (h' : HasP s P U) (he : (addR r s).e = 0) : HasP (addR r s) P (T + U) := by
  obtain ⟨e1, e2, e3⟩ := tight_e he
  have d := add_down r.lo s.lo fr.rlo fs.rlo
  have u := add_up r.hi s.hi fr.rhi fs.rhi
  rw [e1] at d
  rw [e2] at u
  obtain ⟨_, _, d3, _⟩ := d.ok
  obtain ⟨_, _, u3, _⟩ := u.ok
  have m1 : (addR r s).lo = addW r.lo s.lo false := congrArg Res.lo e3
  have m2 : (addR r s).hi = addW r.hi s.hi true := congrArg Res.hi e3
  unfold HasP at h h' ⊢
  rw [m1, m2]
  have k1 : val (addW r.lo s.lo false) * P ≤ (val r.lo + val s.lo) * P := Int.mul_le_mul_of_nonneg_right (by omega) hP
  have k2 : (val r.hi + val s.hi) * P ≤ val (addW r.hi s.hi true) * P := Int.mul_le_mul_of_nonneg_right (by omega) hP
  rw [Int.add_mul] at k1 k2
  omega
theorem HasP.sub {r s : Res} {P T U : Int} (hP : 0 ≤ P) (fr : Fit r) (fs : Fit s) (h : HasP r P T) (h' : HasP s P U) (he : (subR r s).e = 0) : HasP (subR r s) P (T - U) := by
  obtain ⟨e1, e2, e3⟩ := tight_e he
  have d := sub_down r.lo s.hi fr.rlo fs.rhi
  have u := sub_up r.hi s.lo fr.rhi fs.rlo
  rw [e1] at d
  rw [e2] at u
  obtain ⟨_, _, d3, _⟩ := d.ok
  obtain ⟨_, _, u3, _⟩ := u.ok
  have m1 : (subR r s).lo = subW r.lo s.hi false := congrArg Res.lo e3
  have m2 : (subR r s).hi = subW r.hi s.lo true := congrArg Res.hi e3
  unfold HasP at h h' ⊢
  rw [m1, m2]
  have k1 : val (subW r.lo s.hi false) * P ≤ (val r.lo - val s.hi) * P := Int.mul_le_mul_of_nonneg_right (by omega) hP
  have k2 : (val r.hi - val s.lo) * P ≤ val (subW r.hi s.lo true) * P := Int.mul_le_mul_of_nonneg_right (by omega) hP
  rw [Int.sub_mul] at k1 k2
  omega
theorem HasP.sqr {r : Res} {P T : Int} (hP : 0 ≤ P) (fr : Fit r) (h : HasP r P T) (he : (sqrR r).e = 0) : HasP (sqrR r) (SS * (P * P)) (T * T) := by
  obtain ⟨_, _, p1, p2, a1, a2⟩ := abs_facts r.lo r.hi fr.lo fr.hi fr.iv
  obtain ⟨e1, e2, e3⟩ := tight_e he
  have d := (mul_dir _ _ p1 p1 false).1 rfl
  have u := (mul_dir _ _ p2 p2 true).2 rfl
  rw [e1] at d
  rw [e2] at u
  obtain ⟨_, _, d3, _⟩ := d.ok
  obtain ⟨_, _, u3, _⟩ := u.ok
  have m1 : (sqrR r).lo = mulW (absLo r.lo r.hi) (absLo r.lo r.hi) false := congrArg Res.lo e3
  have m2 : (sqrR r).hi = mulW (absHi r.lo r.hi) (absHi r.lo r.hi) true := congrArg Res.hi e3
  have hPP : 0 ≤ P * P := Int.mul_nonneg hP hP
  have l1 := fr.le
  obtain ⟨h1, h2⟩ := h
  have b0 : 0 ≤ val (absLo r.lo r.hi) * P := Int.mul_nonneg (by rw [a1]; split <;> (try split) <;> omega) hP
  have n1 : -(val r.hi) * P = -(val r.hi * P) := Int.neg_mul _ _
  have n2 : -(val r.lo) * P = -(val r.lo * P) := Int.neg_mul _ _
  have lowT : val (absLo r.lo r.hi) * P ≤ T ∨ val (absLo r.lo r.hi) * P ≤ -T := by
    rw [a1]
    split
    · exact Or.inl h1
    · split
      · right; omega
      · rw [Int.zero_mul]; omega
  have mx1 : val r.hi * P ≤ val (absHi r.lo r.hi) * P := Int.mul_le_mul_of_nonneg_right (by rw [a2]; omega) hP
  have mx2 : -(val r.lo) * P ≤ val (absHi r.lo r.hi) * P := Int.mul_le_mul_of_nonneg_right (by rw [a2]; omega) hP
  constructor
  · rw [m1, ← Int.mul_assoc]
    refine Int.le_trans (Int.mul_le_mul_of_nonneg_right d3 hPP) ?_
    rw [quad]
    rcases lowT with g | g
    · exact Int.mul_le_mul g g b0 (by omega)
    · have := Int.mul_le_mul g g b0 (by omega)
      rw [Int.neg_mul_neg] at this; exact this
  · rw [m2, ← Int.mul_assoc]
    refine Int.le_trans ?_ (Int.mul_le_mul_of_nonneg_right u3 hPP)
    rw [quad]
    rcases Int.le_total 0 T with g | g
    · exact Int.mul_le_mul (by omega) (by omega) g (by omega)
    · have : -T * -T ≤ val (absHi r.lo r.hi) * P * (val (absHi r.lo r.hi) * P) := Int.mul_le_mul (by omega) (by omega) (by omega) (by omega)
      rw [Int.neg_mul_neg] at this; exact this

end
section
open Go.RowKit

theorem neg_num (r : Nat) (h1 : 1 ≤ r) (h2 : r < 9218868437227405312) : 9223372036854775808 + r < 18446744073709551616 ∧ rightB (9223372036854775808 + r) = true ∧ val (9223372036854775808 + r) = -(steps r : Int) := by
  obtain ⟨f1, f2, f3⟩ := sw_facts true r (by omega)
  rw [sw_true r (by omega)] at f1 f2 f3
  exact ⟨f1, f2, f3⟩

theorem num_nat (m k : Nat) (hm : m ≤ 9007199254740992) (k1 : 53 ≤ k) (k2 : k ≤ 1899) : ∃ r, r < 9218868437227405312 ∧ steps r = m * 2 ^ k := by
  rcases Nat.lt_or_ge m 9007199254740992 with g | g
  · exact num_at m k g k1 (by omega)
  · obtain rfl : m = 9007199254740992 := by omega
    obtain ⟨r, hr, e⟩ := num_at 4503599627370496 (k + 1) (by decide) (by omega) (by omega)
    refine ⟨r, hr, ?_⟩
    rw [e, Nat.pow_succ]; omega
theorem num_int (q : Int) (k : Nat) (h1 : -9007199254740992 ≤ q) (h2 : q ≤ 9007199254740992) (k1 : 53 ≤ k) (k2 : k ≤ 1899) : ∃ d, d < 18446744073709551616 ∧ rightB d = true ∧ val d = q * ((2 ^ k : Nat) : Int) := by
  rcases Int.lt_or_le 0 (-q) with g | g
  · obtain ⟨m, hm⟩ : ∃ m : Nat, -q = (m : Int) := ⟨(-q).toNat, by omega⟩
    obtain ⟨r, hr, e⟩ := num_nat m k (by omega) k1 k2
    have hr1 : 1 ≤ r := by
      rcases Nat.eq_zero_or_pos r with z | z
      · subst z
        have : m * 2 ^ k = 0 := by rw [← e]; rfl
        have hp := Nat.two_pow_pos k
        have := Nat.mul_pos (show 0 < m by omega) hp
        omega
      · exact z
    obtain ⟨f1, f2, f3⟩ := neg_num r hr1 hr
    refine ⟨_, f1, f2, ?_⟩
    rw [f3, e, Int.natCast_mul, ← hm, Int.neg_mul, Int.neg_neg]
  · obtain ⟨m, hm⟩ : ∃ m : Nat, q = (m : Int) := ⟨q.toNat, by omega⟩
    obtain ⟨r, hr, e⟩ := num_nat m k (by omega) k1 k2
    obtain ⟨f1, f2, _, _, f3⟩ := pos_facts r hr
    refine ⟨r, f1, f2, ?_⟩
    rw [f3, e, Int.natCast_mul, ← hm]

section
variable {s : Nat} {T : Int} {c k : Nat} (k1 : 53 ≤ k) (k2 : k ≤ 1899) (hs : 0 < s)
include k1 k2 hs
theorem down_gap (h : Down s T c 0) (h1 : -9007199254740992 * ((2 ^ k : Nat) : Int) ≤ val c) (h2 : val c < 9007199254740992 * ((2 ^ k : Nat) : Int)) : T < (val c + ((2 ^ k : Nat) : Int)) * s := by
  obtain ⟨_, _, _, best⟩ := h.ok
  obtain ⟨P, hP⟩ : ∃ P : Int, P = ((2 ^ k : Nat) : Int) := ⟨_, rfl⟩
  have p0 : 0 < P := by rw [hP]; exact Int.natCast_pos.2 (Nat.two_pow_pos k)
  rw [← hP] at h1 h2 ⊢
  have s0 : (0 : Int) < s := Int.natCast_pos.2 hs
  obtain ⟨q, hq⟩ : ∃ q : Int, q = val c / P := ⟨_, rfl⟩
  have q1 : q * P ≤ val c := by rw [hq]; exact Int.ediv_mul_le _ (Int.ne_of_gt p0)
  have q2 : val c < (q + 1) * P := by rw [hq]; exact Int.lt_ediv_add_one_mul_self _ p0
  have g1 : -9007199254740992 ≤ q := by rw [hq, Int.le_ediv_iff_mul_le p0]; exact h1
  have g2 : q < 9007199254740992 := by rw [hq, Int.ediv_lt_iff_lt_mul p0]; exact h2
  obtain ⟨d, d1, d2, d3⟩ := num_int (q + 1) k (by omega) (by omega) k1 k2
  rw [← hP] at d3
  rcases Int.lt_or_le T ((val c + P) * s) with g | g
  · exact g
  · have h3 : val d * (s : Int) ≤ T := by
      refine Int.le_trans (Int.mul_le_mul_of_nonneg_right ?_ (Int.le_of_lt s0)) g
      rw [d3, Int.add_mul, Int.one_mul]; omega
    have := best d d1 d2 h3
    omega
theorem up_gap (h : Up s T c 0) (h1 : -9007199254740992 * ((2 ^ k : Nat) : Int) < val c) (h2 : val c ≤ 9007199254740992 * ((2 ^ k : Nat) : Int)) : (val c - ((2 ^ k : Nat) : Int)) * s < T := by
  obtain ⟨_, _, _, best⟩ := h.ok
  obtain ⟨P, hP⟩ : ∃ P : Int, P = ((2 ^ k : Nat) : Int) := ⟨_, rfl⟩
  have p0 : 0 < P := by rw [hP]; exact Int.natCast_pos.2 (Nat.two_pow_pos k)
  rw [← hP] at h1 h2 ⊢
  have s0 : (0 : Int) < s := Int.natCast_pos.2 hs
  obtain ⟨q, hq⟩ : ∃ q : Int, q = (val c - 1) / P := ⟨_, rfl⟩
  have q1 : q * P ≤ val c - 1 := by rw [hq]; exact Int.ediv_mul_le _ (Int.ne_of_gt p0)
  have q2 : val c - 1 < (q + 1) * P := by rw [hq]; exact Int.lt_ediv_add_one_mul_self _ p0
  have g1 : -9007199254740992 ≤ q := by rw [hq, Int.le_ediv_iff_mul_le p0]; omega
  have g2 : q < 9007199254740992 := by rw [hq, Int.ediv_lt_iff_lt_mul p0]; omega
  obtain ⟨d, d1, d2, d3⟩ := num_int q k g1 (by omega) k1 k2
  rw [← hP] at d3
  rcases Int.lt_or_le ((val c - P) * s) T with g | g
  · exact g
  · have h3 : T ≤ val d * (s : Int) := by
      refine Int.le_trans g (Int.mul_le_mul_of_nonneg_right ?_ (Int.le_of_lt s0))
      rw [d3]
      rw [Int.add_mul, Int.one_mul] at q2
      omega
    have := best d d1 d2 h3
    omega
end

end
section
open Go.RowKit

theorem add_parts {r s : Res} (fr : Fit r) (fs : Fit s) (he : (addR r s).e = 0) : Down 1 (val r.lo + val s.lo) (addR r s).lo 0 ∧ Up 1 (val r.hi + val s.hi) (addR r s).hi 0 := by
  obtain ⟨e1, e2, e3⟩ := tight_e he
  have d := add_down r.lo s.lo fr.rlo fs.rlo
  have u := add_up r.hi s.hi fr.rhi fs.rhi
  rw [e1] at d
  rw [e2] at u
  have m1 : (addR r s).lo = addW r.lo s.lo false := congrArg Res.lo e3
  have m2 : (addR r s).hi = addW r.hi s.hi true := congrArg Res.hi e3
  rw [m1, m2]
  exact ⟨d, u⟩
theorem sqr_parts {r : Res} (fr : Fit r) (he : (sqrR r).e = 0) : ∃ m M : Int, m = (if 0 ≤ val r.lo then val r.lo else if val r.hi ≤ 0 then -val r.hi else 0) ∧ M = max (val r.hi) (-val r.lo) ∧ 0 ≤ m ∧ m ≤ M ∧
    Down (2 ^ sq) (m * m) (sqrR r).lo 0 ∧ Up (2 ^ sq) (M * M) (sqrR r).hi 0 := by
  obtain ⟨_, _, p1, p2, a1, a2⟩ := abs_facts r.lo r.hi fr.lo fr.hi fr.iv
  obtain ⟨e1, e2, e3⟩ := tight_e he
  have d := (mul_dir _ _ p1 p1 false).1 rfl
  have u := (mul_dir _ _ p2 p2 true).2 rfl
  rw [e1] at d
  rw [e2] at u
  have m1 : (sqrR r).lo = mulW (absLo r.lo r.hi) (absLo r.lo r.hi) false := congrArg Res.lo e3
  have m2 : (sqrR r).hi = mulW (absHi r.lo r.hi) (absHi r.lo r.hi) true := congrArg Res.hi e3
  rw [m1, m2]
  have l1 := fr.le
  refine ⟨val (absLo r.lo r.hi), val (absHi r.lo r.hi), a1, a2, ?_, ?_, d, u⟩
  · rw [a1]; split <;> (try split) <;> omega
  · rw [a1, a2]; split <;> (try split) <;> omega
theorem word_val {x : Nat} (hx : x ≤ 9218868437227405311) : x < 18446744073709551616 ∧ rightB x = true ∧ val x = (steps x : Int) := by
  have h := sw_facts false x hx
  rw [sw_false] at h
  exact h
theorem sqrt_parts {r : Res} (fr : Fit r) (he : (sqrtR r).e = 0) : 0 ≤ val r.lo ∧
    (0 ≤ val (sqrtR r).lo ∧ val (sqrtR r).lo * val (sqrtR r).lo ≤ val r.lo * SS ∧ ∀ d, d < 18446744073709551616 → rightB d = true → 0 ≤ val d → val d * val d ≤ val r.lo * SS → val d ≤ val (sqrtR r).lo) ∧
    (0 ≤ val (sqrtR r).hi ∧ val r.hi * SS ≤ val (sqrtR r).hi * val (sqrtR r).hi ∧ ∀ d, d < 18446744073709551616 → rightB d = true → 0 ≤ val d → val r.hi * SS ≤ val d * val d → val (sqrtR r).hi ≤ val d) := by
  have he' : (sqrtI r.lo r.hi).e = 0 := he
  have hn : ltB r.lo 0 = false := by
    cases h : ltB r.lo 0
    · rfl
    · unfold sqrtI at he'; rw [if_pos h] at he'; exact absurd he' (by decide)
  have hv : 0 ≤ val r.lo := by
    unfold ltB at hn; rw [val_nil] at hn; simp at hn; exact hn
  have l1 := fr.le
  have sa := (sgn_of_val r.lo fr.lo fr.rlo).1 hv
  have sh := (sgn_of_val r.hi fr.hi fr.rhi).1 (by omega)
  obtain ⟨p1, p2, p3, _⟩ := sqrt_rungs r.lo fr.rlo sa false
  obtain ⟨q1, q2, _, q4⟩ := sqrt_rungs r.hi fr.rhi sh true
  have e1 : sqrtR r = ⟨0, sqrtW r.lo false, sqrtW r.hi true⟩ := by
    show sqrtI r.lo r.hi = _
    unfold sqrtI tightR; rw [if_neg (by rw [hn]; exact Bool.false_ne_true), if_pos p1, if_pos q1]
  obtain ⟨w1, w2, w3⟩ := word_val p2
  obtain ⟨z1, z2, z3⟩ := word_val q2
  have va := val_pos sa
  have vh := val_pos sh
  have p3' := p3 rfl
  have q4' := q4 rfl
  have SSe : SS = ((2 ^ sq : Nat) : Int) := rfl
  rw [e1]
  refine ⟨hv, ⟨?_, ?_, ?_⟩, ⟨?_, ?_, ?_⟩⟩
  · show 0 ≤ val (sqrtW r.lo false)
    omega
  · show val (sqrtW r.lo false) * val (sqrtW r.lo false) ≤ val r.lo * SS
    have h := (p3' _).2 (Nat.le_refl _)
    rw [w3, va, SSe, ← Int.natCast_mul, ← Int.natCast_mul]
    exact Int.ofNat_le.2 h
  · intro d d1 d2 d3 d4
    show val d ≤ val (sqrtW r.lo false)
    have hd := pos_word d d1 d2 d3
    obtain ⟨_, _, _, _, vd⟩ := pos_facts d hd
    rw [vd, va, SSe, ← Int.natCast_mul, ← Int.natCast_mul] at d4
    rw [vd, w3]
    exact Int.ofNat_le.2 (steps_le ((p3' d).1 (Int.ofNat_le.1 d4)))
  · show 0 ≤ val (sqrtW r.hi true)
    omega
  · show val r.hi * SS ≤ val (sqrtW r.hi true) * val (sqrtW r.hi true)
    have h := (q4' _).2 (Nat.le_refl _)
    rw [z3, vh, SSe, ← Int.natCast_mul, ← Int.natCast_mul]
    exact Int.ofNat_le.2 h
  · intro d d1 d2 d3 d4
    show val (sqrtW r.hi true) ≤ val d
    have hd := pos_word d d1 d2 d3
    obtain ⟨_, _, _, _, vd⟩ := pos_facts d hd
    rw [vd, vh, SSe, ← Int.natCast_mul, ← Int.natCast_mul] at d4
    rw [vd, z3]
    exact Int.ofNat_le.2 (steps_le ((q4' d).1 (Int.ofNat_le.1 d4)))

theorem root_gaps {r : Res} (fr : Fit r) (he : (sqrtR r).e = 0) {k : Nat} (k1 : 53 ≤ k) (k2 : k ≤ 1899) {G : Int} (hG : G = ((2 ^ k : Nat) : Int)) (h1 : G ≤ val (sqrtR r).hi) (h2 : val (sqrtR r).hi < 9007199254740992 * G) (h3 : val (sqrtR r).lo < 9007199254740992 * G) :
    (val (sqrtR r).hi - G) * (val (sqrtR r).hi - G) < val r.hi * SS ∧ val r.lo * SS < (val (sqrtR r).lo + G) * (val (sqrtR r).lo + G) := by
  obtain ⟨_, ⟨n1, _, n3⟩, ⟨n4, _, n6⟩⟩ := sqrt_parts fr he
  have p0 : 0 < G := by rw [hG]; exact Int.natCast_pos.2 (Nat.two_pow_pos k)
  constructor
  · obtain ⟨q, hq⟩ : ∃ q : Int, q = (val (sqrtR r).hi - 1) / G := ⟨_, rfl⟩
    have q1 : q * G ≤ val (sqrtR r).hi - 1 := by rw [hq]; exact Int.ediv_mul_le _ (Int.ne_of_gt p0)
    have q2 : val (sqrtR r).hi - 1 < (q + 1) * G := by rw [hq]; exact Int.lt_ediv_add_one_mul_self _ p0
    have g1 : 0 ≤ q := by rw [hq]; exact Int.ediv_nonneg (by omega) (by omega)
    have g2 : q < 9007199254740992 := by rw [hq, Int.ediv_lt_iff_lt_mul p0]; omega
    obtain ⟨d, d1, d2, d3⟩ := num_int q k (by omega) (by omega) k1 k2
    rw [← hG] at d3
    rw [Int.add_mul, Int.one_mul] at q2
    have dn : 0 ≤ val d := by rw [d3]; exact Int.mul_nonneg g1 (by omega)
    rcases Int.lt_or_le (val d * val d) (val r.hi * SS) with g | g
    · exact Int.lt_of_le_of_lt (Int.mul_le_mul (by omega) (by omega) (by omega) dn) g
    · have := n6 d d1 d2 dn g
      omega
  · obtain ⟨q, hq⟩ : ∃ q : Int, q = val (sqrtR r).lo / G := ⟨_, rfl⟩
    have q1 : q * G ≤ val (sqrtR r).lo := by rw [hq]; exact Int.ediv_mul_le _ (Int.ne_of_gt p0)
    have q2 : val (sqrtR r).lo < (q + 1) * G := by rw [hq]; exact Int.lt_ediv_add_one_mul_self _ p0
    have g1 : 0 ≤ q := by rw [hq]; exact Int.ediv_nonneg n1 (by omega)
    have g2 : q < 9007199254740992 := by rw [hq, Int.ediv_lt_iff_lt_mul p0]; omega
    obtain ⟨d, d1, d2, d3⟩ := num_int (q + 1) k (by omega) (by omega) k1 k2
    rw [← hG] at d3
    have dn : 0 ≤ val d := by rw [d3]; exact Int.mul_nonneg (by omega) (by omega)
    rcases Int.lt_or_le (val r.lo * SS) (val d * val d) with g | g
    · refine Int.lt_of_lt_of_le g (Int.mul_le_mul ?_ ?_ dn (by omega))
      · rw [d3, Int.add_mul, Int.one_mul]; omega
      · rw [d3, Int.add_mul, Int.one_mul]; omega
    · have := n3 d d1 d2 dn g
      omega

end
section
open Go.RowKit

structure Wid (r R : Res) (w : Int) : Prop where
  has : In r R
  wide : val r.hi - val r.lo ≤ w
def magn (R : Res) : Nat := max (val R.lo).natAbs (val R.hi).natAbs
def gapK (R : Res) : Nat := max 53 ((magn R).log2 + 1 - 53)
def gapP (R : Res) : Int := ((2 ^ gapK R : Nat) : Int)

theorem gapP_pos (R : Res) : 0 < gapP R := Int.natCast_pos.2 (Nat.two_pow_pos _)
theorem magn_lt (R : Res) : (magn R : Int) < 9007199254740992 * gapP R := by
  have l2 : magn R < 2 ^ ((magn R).log2 + 1) := Nat.lt_log2_self
  have l3 : 2 ^ ((magn R).log2 + 1) ≤ 2 ^ (53 + gapK R) := Nat.pow_le_pow_right (by decide) (by unfold gapK; omega)
  have l4 : 2 ^ (53 + gapK R) = 9007199254740992 * 2 ^ gapK R := by rw [Nat.pow_add]
  have : magn R < 9007199254740992 * 2 ^ gapK R := by omega
  unfold gapP
  have h := Int.ofNat_lt.2 this
  rw [Int.natCast_mul] at h
  exact h
theorem In.size {r R : Res} (h : In r R) : -(magn R : Int) ≤ val r.lo ∧ val r.lo ≤ magn R ∧ -(magn R : Int) ≤ val r.hi ∧ val r.hi ≤ magn R := by
  have h1 := h.lo
  have h2 := h.hi
  have h3 := h.fit.le
  unfold magn
  omega

section
variable {r R : Res} (hk : gapK R ≤ 1899) (h : In r R) {s : Nat} {T : Int} (hs : 0 < s)
include hk h hs
theorem Wid.up (u : Up s T r.hi 0) : (val r.hi - gapP R) * s < T := by
  obtain ⟨_, _, h3, h4⟩ := h.size
  have m := magn_lt R
  exact up_gap (by unfold gapK; omega) hk hs u (by show -9007199254740992 * gapP R < _; omega) (by show _ ≤ 9007199254740992 * gapP R; omega)
theorem Wid.down (d : Down s T r.lo 0) : T < (val r.lo + gapP R) * s := by
  obtain ⟨h3, h4, _, _⟩ := h.size
  have m := magn_lt R
  exact down_gap (by unfold gapK; omega) hk hs d (by show -9007199254740992 * gapP R ≤ _; omega) (by show _ < 9007199254740992 * gapP R; omega)
end

theorem Wid.one {x : Nat} {R : Res} (h : In (oneR x) R) : Wid (oneR x) R 0 := ⟨h, by show val x - val x ≤ 0; omega⟩
theorem Wid.more {r R : Res} {w w' : Int} (h : Wid r R w) (hw : w ≤ w') : Wid r R w' := ⟨h.has, Int.le_trans h.wide hw⟩

theorem sub_parts {r s : Res} (fr : Fit r) (fs : Fit s) (he : (subR r s).e = 0) : Down 1 (val r.lo - val s.hi) (subR r s).lo 0 ∧ Up 1 (val r.hi - val s.lo) (subR r s).hi 0 := by
  obtain ⟨e1, e2, e3⟩ := tight_e he
  have d := sub_down r.lo s.hi fr.rlo fs.rhi
  have u := sub_up r.hi s.lo fr.rhi fs.rlo
  rw [e1] at d
  rw [e2] at u
  have m1 : (subR r s).lo = subW r.lo s.hi false := congrArg Res.lo e3
  have m2 : (subR r s).hi = subW r.hi s.lo true := congrArg Res.hi e3
  rw [m1, m2]
  exact ⟨d, u⟩

theorem near_products {x y z v wa wb mA mB : Int} (h1 : z - x ≤ wa) (h2 : x - z ≤ wa) (h3 : v - y ≤ wb) (h4 : y - v ≤ wb) (h5 : -mB ≤ v) (h6 : v ≤ mB) (h7 : -mA ≤ x) (h8 : x ≤ mA) (w1 : 0 ≤ wa) (w2 : 0 ≤ wb) : z * v - x * y ≤ wa * mB + mA * wb := by
  have k1 : z * v - x * y = (z - x) * v + x * (v - y) := by grind
  have k2 : (z - x) * v ≤ wa * mB := by
    rcases Int.le_total 0 v with g | g
    · exact Int.le_trans (Int.mul_le_mul_of_nonneg_right h1 g) (Int.mul_le_mul_of_nonneg_left h6 w1)
    · have e : (z - x) * v = (x - z) * (-v) := by grind
      rw [e]
      exact Int.le_trans (Int.mul_le_mul_of_nonneg_right h2 (by omega)) (Int.mul_le_mul_of_nonneg_left (by omega) w1)
  have k3 : x * (v - y) ≤ mA * wb := by
    rcases Int.le_total 0 x with g | g
    · exact Int.le_trans (Int.mul_le_mul_of_nonneg_left h3 g) (Int.mul_le_mul_of_nonneg_right h8 w2)
    · have e : x * (v - y) = (-x) * (y - v) := by grind
      rw [e]
      exact Int.le_trans (Int.mul_le_mul_of_nonneg_left h4 (by omega)) (Int.mul_le_mul_of_nonneg_right (by omega) w2)
  omega

theorem root_in {a A : Res} (ha : In a A) (fA : Fit A) (he : (sqrtR A).e = 0) : In (sqrtR a) (sqrtR A) := ask_in a A a A 7 (by decide) ha fA ha fA he

section
variable {a A b B : Res} {wa wb : Int} (ha : Wid a A wa) (fA : Fit A) (hb : Wid b B wb) (fB : Fit B)
include ha fA hb fB
theorem Wid.add (he : (addR A B).e = 0) (hk : gapK (addR A B) ≤ 1899) : Wid (addR a b) (addR A B) (wa + wb + 2 * gapP (addR A B)) := by
  have i := add_in ha.has fA hb.has fB he
  obtain ⟨d, u⟩ := add_parts ha.has.fit hb.has.fit i.fit.e
  have g1 := Wid.up hk i (by decide) u
  have g2 := Wid.down hk i (by decide) d
  have h1 := ha.wide
  have h2 := hb.wide
  exact ⟨i, by omega⟩
theorem Wid.sub (he : (subR A B).e = 0) (hk : gapK (subR A B) ≤ 1899) : Wid (subR a b) (subR A B) (wa + wb + 2 * gapP (subR A B)) := by
  have i := sub_in ha.has fA hb.has fB he
  obtain ⟨d, u⟩ := sub_parts ha.has.fit hb.has.fit i.fit.e
  have g1 := Wid.up hk i (by decide) u
  have g2 := Wid.down hk i (by decide) d
  have h1 := ha.wide
  have h2 := hb.wide
  exact ⟨i, by omega⟩
theorem Wid.mul (he : (mulR A B).e = 0) (hk : gapK (mulR A B) ≤ 1899) : Wid (mulR a b) (mulR A B) ((wa * magn B + magn A * wb) / SS + 2 * gapP (mulR A B)) := by
  have i := mul_in ha.has fA hb.has fB he
  have fa := ha.has.fit
  have fb := hb.has.fit
  obtain ⟨T, U, ⟨_, ⟨x, y, x1, x2, y1, y2, eT⟩, ⟨z, v, z1, z2, v1, v2, eU⟩⟩, W⟩ := mul_worth a.lo a.hi b.lo b.hi fa.lo fa.hi fb.lo fb.hi fa.iv fb.iv
  obtain ⟨d, u⟩ := W.ends i.fit.e
  have g1 := Wid.up hk i (Nat.two_pow_pos sq) u
  have g2 := Wid.down hk i (Nat.two_pow_pos sq) d
  have h1 := ha.wide
  have h2 := hb.wide
  obtain ⟨s1, s2, s3, s4⟩ := ha.has.size
  obtain ⟨t1, t2, t3, t4⟩ := hb.has.size
  have near := near_products (x := x) (y := y) (z := z) (v := v) (wa := wa) (wb := wb) (mA := magn A) (mB := magn B) (by omega) (by omega) (by omega) (by omega) (by omega) (by omega) (by omega) (by omega) (by have := fa.le; omega) (by have := fb.le; omega)
  refine ⟨i, ?_⟩
  have S0 : 0 < SS := Int.natCast_pos.2 (Nat.two_pow_pos sq)
  have eS : ((2 ^ sq : Nat) : Int) = SS := rfl
  rw [eS] at g1 g2
  have k : (val (mulR a b).hi - val (mulR a b).lo - 2 * gapP (mulR A B)) * SS ≤ wa * magn B + magn A * wb := by
    have e : (val (mulR a b).hi - val (mulR a b).lo - 2 * gapP (mulR A B)) * SS = (val (mulR a b).hi - gapP (mulR A B)) * SS - (val (mulR a b).lo + gapP (mulR A B)) * SS := by grind
    rw [e]; omega
  have := (Int.le_ediv_iff_mul_le S0).2 k
  omega
theorem Wid.div (hB : 0 < val B.lo) (he : (divR A B).e = 0) (hk : gapK (divR A B) ≤ 1899) : Wid (divR a b) (divR A B) (SS * (wa * magn B + magn A * wb) / (val B.lo * val B.lo) + 2 * gapP (divR A B)) := by
  have i := div_in ha.has fA hb.has fB he
  have fa := ha.has.fit
  have fb := hb.has.fit
  have lb := hb.has.lo
  have l1 := fb.le
  have l2 := fa.le
  have b0 : 0 < val b.lo := by omega
  have e0 := i.fit.e
  have hz : hasB b.lo b.hi 0 = false := by
    rw [has_zero fb.lo fb.hi fb.iv]; exact decide_eq_false (by omega)
  have eI : divR a b = div1 a.lo a.hi b.lo b.hi := by
    show divI a.lo a.hi b.lo b.hi = _
    unfold divI; rw [if_neg (by rw [hz]; exact Bool.false_ne_true)]
  have bl : ltB b.lo 0 = false := by unfold ltB; rw [val_nil]; exact decide_eq_false (by omega)
  have el : lowOf a.lo a.hi b.lo = a.lo := by unfold lowOf; rw [if_neg (by rw [bl]; exact Bool.false_ne_true)]
  have eh : highOf a.lo a.hi b.lo = a.hi := by unfold highOf; rw [if_neg (by rw [bl]; exact Bool.false_ne_true)]
  rw [eI] at e0
  obtain ⟨e1, e2, e3⟩ := tight_e e0
  rw [el] at e1
  rw [eh] at e2
  have m1 : (divR a b).lo = divW (lowOf a.lo a.hi b.lo) (endW b.lo b.hi (leB 0 (lowOf a.lo a.hi b.lo))) false := by rw [eI]; exact congrArg Res.lo e3
  have m2 : (divR a b).hi = divW (highOf a.lo a.hi b.lo) (endW b.lo b.hi (ltB (highOf a.lo a.hi b.lo) 0)) true := by rw [eI]; exact congrArg Res.hi e3
  rw [el] at m1
  rw [eh] at m2
  -- both divisors: ends of b
  obtain ⟨p, hp⟩ : ∃ p, p = endW b.lo b.hi (leB 0 a.lo) := ⟨_, rfl⟩
  obtain ⟨q, hq⟩ : ∃ q, q = endW b.lo b.hi (ltB a.hi 0) := ⟨_, rfl⟩
  rw [← hp] at m1 e1
  rw [← hq] at m2 e2
  have pe : p = b.lo ∨ p = b.hi := by rw [hp]; unfold endW; split <;> simp
  have qe : q = b.lo ∨ q = b.hi := by rw [hq]; unfold endW; split <;> simp
  have pf : p < 18446744073709551616 ∧ rightB p = true ∧ val b.lo ≤ val p ∧ val p ≤ val b.hi := by
    rcases pe with e | e <;> rw [e]
    · exact ⟨fb.lo, fb.rlo, by omega, by omega⟩
    · exact ⟨fb.hi, fb.rhi, by omega, by omega⟩
  have qf : q < 18446744073709551616 ∧ rightB q = true ∧ val b.lo ≤ val q ∧ val q ≤ val b.hi := by
    rcases qe with e | e <;> rw [e]
    · exact ⟨fb.lo, fb.rlo, by omega, by omega⟩
    · exact ⟨fb.hi, fb.rhi, by omega, by omega⟩
  obtain ⟨p1, p2, p3, p4⟩ := pf
  obtain ⟨q1, q2, q3, q4⟩ := qf
  obtain ⟨s, s0, es, s3, _⟩ := div_pos a.lo p fa.rlo p1 p2 (by omega) false
  obtain ⟨t, t0, et, _, t4⟩ := div_pos a.hi q fa.rhi q1 q2 (by omega) true
  have d := s3 rfl
  have u := t4 rfl
  rw [e1] at d
  rw [e2] at u
  rw [← m1] at d
  rw [← m2] at u
  have g1 := Wid.up hk i t0 u
  have g2 := Wid.down hk i s0 d
  have eS : ((2 ^ sq : Nat) : Int) = SS := rfl
  rw [eS, et] at g1
  rw [eS, es] at g2
  have S0 : 0 < SS := Int.natCast_pos.2 (Nat.two_pow_pos sq)
  have h1 := ha.wide
  have h2 := hb.wide
  obtain ⟨c1, c2, c3, c4⟩ := ha.has.size
  obtain ⟨f1, f2, f3, f4⟩ := hb.has.size
  have near := near_products (x := val a.lo) (y := val q) (z := val a.hi) (v := val p) (wa := wa) (wb := wb) (mA := magn A) (mB := magn B) (by omega) (by omega) (by omega) (by omega) (by omega) (by omega) (by omega) (by omega) (by omega) (by omega)
  refine ⟨i, ?_⟩
  obtain ⟨D, hD⟩ : ∃ D : Int, D = val (divR a b).hi - val (divR a b).lo - 2 * gapP (divR A B) := ⟨_, rfl⟩
  have X0 : 0 ≤ SS * (wa * magn B + magn A * wb) := by
    refine Int.mul_nonneg (by omega) ?_
    have k1 : 0 ≤ wa * (magn B : Int) := Int.mul_nonneg (by omega) (Int.natCast_nonneg _)
    have k2 : 0 ≤ (magn A : Int) * wb := Int.mul_nonneg (Int.natCast_nonneg _) (by omega)
    omega
  have BB : 0 < val B.lo * val B.lo := Int.mul_pos hB hB
  have k : D ≤ SS * (wa * magn B + magn A * wb) / (val B.lo * val B.lo) := by
    rw [Int.le_ediv_iff_mul_le BB]
    rcases Int.lt_or_le D 0 with g | g
    · have : D * (val B.lo * val B.lo) ≤ 0 := Int.mul_nonpos_of_nonpos_of_nonneg (by omega) (by omega)
      omega
    · have vp : 0 < val p := by omega
      have vq : 0 < val q := by omega
      have k1 : val B.lo * val B.lo ≤ val p * val q := Int.mul_le_mul (by omega) (by omega) (by omega) (by omega)
      have k2 : D * (val B.lo * val B.lo) ≤ D * (val p * val q) := Int.mul_le_mul_of_nonneg_left k1 g
      have k3 : (val (divR a b).hi - gapP (divR A B)) * val q * val p < val a.hi * SS * val p := Int.mul_lt_mul_of_pos_right g1 vp
      have k4 : val a.lo * SS * val q < (val (divR a b).lo + gapP (divR A B)) * val p * val q := Int.mul_lt_mul_of_pos_right g2 vq
      have k5 : D * (val p * val q) = (val (divR a b).hi - gapP (divR A B)) * val q * val p - (val (divR a b).lo + gapP (divR A B)) * val p * val q := by rw [hD]; grind
      have k6 : val a.hi * SS * val p - val a.lo * SS * val q = SS * (val a.hi * val p - val a.lo * val q) := by grind
      have k7 : SS * (val a.hi * val p - val a.lo * val q) ≤ SS * (wa * magn B + magn A * wb) := Int.mul_le_mul_of_nonneg_left near (by omega)
      omega
  omega
end

section
variable {a A : Res} {wa : Int} (ha : Wid a A wa) (fA : Fit A)
include ha fA
theorem Wid.sqr (he : (sqrR A).e = 0) (hk : gapK (sqrR A) ≤ 1899) : Wid (sqrR a) (sqrR A) (wa * (2 * magn A) / SS + 2 * gapP (sqrR A)) := by
  have i := sqr_in ha.has fA he
  have fa := ha.has.fit
  obtain ⟨m, M, e1, e2, m0, mM, d, u⟩ := sqr_parts fa i.fit.e
  have g1 := Wid.up hk i (Nat.two_pow_pos sq) u
  have g2 := Wid.down hk i (Nat.two_pow_pos sq) d
  have h1 := ha.wide
  have l := fa.le
  obtain ⟨s1, s2, s3, s4⟩ := ha.has.size
  have w1 : M - m ≤ wa := by rw [e1]; split <;> (try split) <;> omega
  have w2 : M + m ≤ 2 * magn A := by omega
  have k1 : M * M - m * m = (M - m) * (M + m) := by grind
  have k2 : (M - m) * (M + m) ≤ wa * (2 * magn A) := Int.mul_le_mul w1 w2 (by omega) (by omega)
  refine ⟨i, ?_⟩
  have S0 : 0 < SS := Int.natCast_pos.2 (Nat.two_pow_pos sq)
  have eS : ((2 ^ sq : Nat) : Int) = SS := rfl
  rw [eS] at g1 g2
  have k : (val (sqrR a).hi - val (sqrR a).lo - 2 * gapP (sqrR A)) * SS ≤ wa * (2 * magn A) := by
    have e : (val (sqrR a).hi - val (sqrR a).lo - 2 * gapP (sqrR A)) * SS = (val (sqrR a).hi - gapP (sqrR A)) * SS - (val (sqrR a).lo + gapP (sqrR A)) * SS := by grind
    rw [e]; omega
  have := (Int.le_ediv_iff_mul_le S0).2 k
  omega
theorem Wid.sqrt (hL : 0 < val (sqrtR A).lo) (he : (sqrtR A).e = 0) (hk : gapK (sqrtR A) ≤ 1899) : Wid (sqrtR a) (sqrtR A) (wa * SS / (2 * val (sqrtR A).lo) + 2 * gapP (sqrtR A)) := by
  have i := root_in ha.has fA he
  have fa := ha.has.fit
  obtain ⟨_, ⟨n1, _, _⟩, ⟨n4, _, _⟩⟩ := sqrt_parts fa i.fit.e
  have lN := i.fit.le
  have lo := i.lo
  have h1 := ha.wide
  have l := fa.le
  have P0 := gapP_pos (sqrtR A)
  have m := magn_lt (sqrtR A)
  obtain ⟨s1, s2, s3, s4⟩ := i.size
  refine ⟨i, ?_⟩
  have S0 : 0 < SS := Int.natCast_pos.2 (Nat.two_pow_pos sq)
  have w0 : 0 ≤ wa * SS := Int.mul_nonneg (by omega) (by omega)
  have L2 : 0 < 2 * val (sqrtR A).lo := by omega
  obtain ⟨D, hD⟩ : ∃ D : Int, D = val (sqrtR a).hi - val (sqrtR a).lo - 2 * gapP (sqrtR A) := ⟨_, rfl⟩
  have k : D ≤ wa * SS / (2 * val (sqrtR A).lo) := by
    rw [Int.le_ediv_iff_mul_le L2]
    rcases Int.lt_or_le D 0 with g | g
    · have : D * (2 * val (sqrtR A).lo) ≤ 0 := Int.mul_nonpos_of_nonpos_of_nonneg (by omega) (by omega)
      omega
    · obtain ⟨r1, r2⟩ := root_gaps fa i.fit.e (by unfold gapK; omega) hk (G := gapP (sqrtR A)) rfl (by omega) (by omega) (by omega)
      have k1 : (val (sqrtR a).hi - gapP (sqrtR A)) * (val (sqrtR a).hi - gapP (sqrtR A)) - (val (sqrtR a).lo + gapP (sqrtR A)) * (val (sqrtR a).lo + gapP (sqrtR A)) = D * (val (sqrtR a).hi + val (sqrtR a).lo) := by rw [hD]; grind
      have k2 : D * (2 * val (sqrtR A).lo) ≤ D * (val (sqrtR a).hi + val (sqrtR a).lo) := Int.mul_le_mul_of_nonneg_left (by omega) g
      have k3 : (val a.hi - val a.lo) * SS ≤ wa * SS := Int.mul_le_mul_of_nonneg_right h1 (by omega)
      rw [Int.sub_mul] at k3
      omega
  omega
end

end
section
open Go.RowKit

structure HasV (r : Res) (P T : Int) : Prop where
  pos : 0 < P
  low : val r.lo * P ≤ T * SS
  high : T * SS ≤ val r.hi * P
theorem SS0 : 0 < SS := Int.natCast_pos.2 (Nat.two_pow_pos sq)
theorem HasV.hasP {r : Res} {P T : Int} (h : HasV r P T) : HasP r P (T * SS) := ⟨h.low, h.high⟩
theorem HasV.of {r : Res} {P T : Int} (hP : 0 < P) (h : HasP r P (T * SS)) : HasV r P T := ⟨hP, h.1, h.2⟩
theorem HasV.one (x : Nat) : HasV (oneR x) SS (val x) := ⟨SS0, Int.le_refl _, Int.le_refl _⟩
theorem HasV.lit {x : Nat} {P T : Int} (hP : 0 < P) (h : val x * P = T * SS) : HasV (oneR x) P T := ⟨hP, Int.le_of_eq h, Int.le_of_eq h.symm⟩
theorem HasV.scale {r : Res} {P T Q : Int} (h : HasV r P T) (hQ : 0 < Q) : HasV r (P * Q) (T * Q) := by
  refine ⟨Int.mul_pos h.pos hQ, ?_, ?_⟩
  · have k := Int.mul_le_mul_of_nonneg_right h.low (Int.le_of_lt hQ)
    have e1 : val r.lo * (P * Q) = val r.lo * P * Q := by grind
    have e2 : T * Q * SS = T * SS * Q := by grind
    rw [e1, e2]; exact k
  · have k := Int.mul_le_mul_of_nonneg_right h.high (Int.le_of_lt hQ)
    have e1 : val r.hi * (P * Q) = val r.hi * P * Q := by grind
    have e2 : T * Q * SS = T * SS * Q := by grind
    rw [e1, e2]; exact k
theorem HasV.turn {r : Res} {P T P' T' : Int} (h : HasV r P T) (h1 : P = P') (h2 : T = T') : HasV r P' T' := by rw [← h1, ← h2]; exact h

section
variable {r s : Res} {P T Q U : Int} (fr : Fit r) (fs : Fit s) (h : HasV r P T) (h' : HasV s Q U)
include fr fs h h'
theorem HasV.mul (he : (mulR r s).e = 0) : HasV (mulR r s) (P * Q) (T * U) := by
  have k := HasP.mul (Int.le_of_lt h.pos) (Int.le_of_lt h'.pos) fr fs h.hasP h'.hasP he
  refine ⟨Int.mul_pos h.pos h'.pos, ?_, ?_⟩
  · refine Int.le_of_mul_le_mul_right ?_ SS0
    have e1 : val (mulR r s).lo * (P * Q) * SS = val (mulR r s).lo * (SS * (P * Q)) := by grind
    have e2 : T * U * SS * SS = T * SS * (U * SS) := by grind
    rw [e1, e2]; exact k.1
  · refine Int.le_of_mul_le_mul_right ?_ SS0
    have e1 : val (mulR r s).hi * (P * Q) * SS = val (mulR r s).hi * (SS * (P * Q)) := by grind
    have e2 : T * U * SS * SS = T * SS * (U * SS) := by grind
    rw [e1, e2]; exact k.2
theorem HasV.add (he : (addR r s).e = 0) : HasV (addR r s) (P * Q) (T * Q + U * P) := by
  have a := h.scale h'.pos
  have b := (h'.scale h.pos).turn (Int.mul_comm Q P) rfl
  have k := HasP.add (Int.le_of_lt a.pos) fr fs a.hasP b.hasP he
  rw [← Int.add_mul] at k
  exact .of a.pos k
theorem HasV.sub (he : (subR r s).e = 0) : HasV (subR r s) (P * Q) (T * Q - U * P) := by
  have a := h.scale h'.pos
  have b := (h'.scale h.pos).turn (Int.mul_comm Q P) rfl
  have k := HasP.sub (Int.le_of_lt a.pos) fr fs a.hasP b.hasP he
  rw [← Int.sub_mul] at k
  exact .of a.pos k
theorem HasV.div (hs : 0 < val s.lo) (he : (divR r s).e = 0) : 0 < U ∧ HasV (divR r s) (P * U) (T * Q) := by
  have l1 := fs.le
  have l2 := fr.le
  have hU : 0 < U := by
    have k : 0 < val s.lo * Q := Int.mul_pos hs h'.pos
    have k2 := h'.low
    rcases Int.lt_or_le 0 U with g | g
    · exact g
    · have : U * SS ≤ 0 := Int.mul_nonpos_of_nonpos_of_nonneg g (Int.le_of_lt SS0)
      omega
  have hz : hasB s.lo s.hi 0 = false := by
    rw [has_zero fs.lo fs.hi fs.iv]; exact decide_eq_false (by omega)
  have eI : divR r s = div1 r.lo r.hi s.lo s.hi := by
    show divI r.lo r.hi s.lo s.hi = _
    unfold divI; rw [if_neg (by rw [hz]; exact Bool.false_ne_true)]
  have bl : ltB s.lo 0 = false := by unfold ltB; rw [val_nil]; exact decide_eq_false (by omega)
  have el : lowOf r.lo r.hi s.lo = r.lo := by unfold lowOf; rw [if_neg (by rw [bl]; exact Bool.false_ne_true)]
  have eh : highOf r.lo r.hi s.lo = r.hi := by unfold highOf; rw [if_neg (by rw [bl]; exact Bool.false_ne_true)]
  rw [eI] at he
  obtain ⟨e1, e2, e3⟩ := tight_e he
  rw [el] at e1
  rw [eh] at e2
  have m1 : (divR r s).lo = divW (lowOf r.lo r.hi s.lo) (endW s.lo s.hi (leB 0 (lowOf r.lo r.hi s.lo))) false := by rw [eI]; exact congrArg Res.lo e3
  have m2 : (divR r s).hi = divW (highOf r.lo r.hi s.lo) (endW s.lo s.hi (ltB (highOf r.lo r.hi s.lo) 0)) true := by rw [eI]; exact congrArg Res.hi e3
  rw [el] at m1
  rw [eh] at m2
  have b1 : leB 0 r.lo = decide (0 ≤ val r.lo) := by unfold leB; rw [val_nil]
  have b2 : ltB r.hi 0 = decide (val r.hi < 0) := by unfold ltB; rw [val_nil]
  have eS : ((2 ^ sq : Nat) : Int) = SS := rfl
  have QS : 0 < Q * SS := Int.mul_pos h'.pos SS0
  have US : 0 ≤ U * SS := Int.mul_nonneg (Int.le_of_lt hU) (Int.le_of_lt SS0)
  refine ⟨hU, ⟨Int.mul_pos h.pos hU, ?_, ?_⟩⟩
  · refine Int.le_of_mul_le_mul_right ?_ SS0
    have k0 : val (divR r s).lo * (U * SS) ≤ val r.lo * SS * Q := by
      rcases Int.lt_or_le (val r.lo) 0 with g | g
      · rw [b1, decide_eq_false (by omega)] at m1 e1
        obtain ⟨y, y0, ey, d3, _⟩ := div_pos r.lo s.lo fr.rlo fs.lo fs.rlo hs false
        have d := d3 rfl
        have e1' : divE r.lo s.lo false = 0 := e1
        have m1' : (divR r s).lo = divW r.lo s.lo false := m1
        rw [e1', ← m1'] at d
        obtain ⟨_, _, k1, _⟩ := d.ok
        rw [eS, ey] at k1
        have neg : val (divR r s).lo < 0 := by
          rcases Int.lt_or_le (val (divR r s).lo) 0 with c | c
          · exact c
          · have a1 : 0 ≤ val (divR r s).lo * val s.lo := Int.mul_nonneg c (by omega)
            have a2 : val r.lo * SS < 0 := Int.mul_neg_of_neg_of_pos g SS0
            omega
        have k2 : val (divR r s).lo * (U * SS) ≤ val (divR r s).lo * (val s.lo * Q) := Int.mul_le_mul_of_nonpos_left (by omega) h'.low
        have k3 := Int.mul_le_mul_of_nonneg_right k1 (Int.le_of_lt h'.pos)
        rw [Int.mul_assoc] at k3
        omega
      · rw [b1, decide_eq_true g] at m1 e1
        obtain ⟨y, y0, ey, d3, _⟩ := div_pos r.lo s.hi fr.rlo fs.hi fs.rhi (by omega) false
        have d := d3 rfl
        have e1' : divE r.lo s.hi false = 0 := e1
        have m1' : (divR r s).lo = divW r.lo s.hi false := m1
        rw [e1', ← m1'] at d
        obtain ⟨_, _, k1, kb⟩ := d.ok
        have nn : 0 ≤ val (divR r s).lo := by
          have := kb 0 (by decide) right_0 (by rw [val_nil, Int.zero_mul]; exact Int.mul_nonneg g (Int.le_of_lt SS0))
          rw [val_nil] at this; exact this
        rw [eS, ey] at k1
        have k2 : val (divR r s).lo * (U * SS) ≤ val (divR r s).lo * (val s.hi * Q) := Int.mul_le_mul_of_nonneg_left h'.high nn
        have k3 := Int.mul_le_mul_of_nonneg_right k1 (Int.le_of_lt h'.pos)
        rw [Int.mul_assoc] at k3
        omega
    have k4 := Int.mul_le_mul_of_nonneg_right k0 (Int.le_of_lt h.pos)
    have k5 := Int.mul_le_mul_of_nonneg_right h.low (Int.le_of_lt QS)
    have a1 : val (divR r s).lo * (P * U) * SS = val (divR r s).lo * (U * SS) * P := by grind
    have a2 : val r.lo * SS * Q * P = val r.lo * P * (Q * SS) := by grind
    have a3 : T * SS * (Q * SS) = T * Q * SS * SS := by grind
    omega
  · refine Int.le_of_mul_le_mul_right ?_ SS0
    have k0 : val r.hi * SS * Q ≤ val (divR r s).hi * (U * SS) := by
      rcases Int.lt_or_le (val r.hi) 0 with g | g
      · rw [b2, decide_eq_true g] at m2 e2
        obtain ⟨y, y0, ey, _, u4⟩ := div_pos r.hi s.hi fr.rhi fs.hi fs.rhi (by omega) true
        have u := u4 rfl
        have e2' : divE r.hi s.hi true = 0 := e2
        have m2' : (divR r s).hi = divW r.hi s.hi true := m2
        rw [e2', ← m2'] at u
        obtain ⟨_, _, k1, kb⟩ := u.ok
        have np : val (divR r s).hi ≤ 0 := by
          have := kb 0 (by decide) right_0 (by rw [val_nil, Int.zero_mul]; exact Int.mul_nonpos_of_nonpos_of_nonneg (by omega) (Int.le_of_lt SS0))
          rw [val_nil] at this; exact this
        rw [eS, ey] at k1
        have k2 : val (divR r s).hi * (val s.hi * Q) ≤ val (divR r s).hi * (U * SS) := Int.mul_le_mul_of_nonpos_left np h'.high
        have k3 := Int.mul_le_mul_of_nonneg_right k1 (Int.le_of_lt h'.pos)
        rw [Int.mul_assoc (val (divR r s).hi)] at k3
        omega
      · rw [b2, decide_eq_false (by omega)] at m2 e2
        obtain ⟨y, y0, ey, _, u4⟩ := div_pos r.hi s.lo fr.rhi fs.lo fs.rlo hs true
        have u := u4 rfl
        have e2' : divE r.hi s.lo true = 0 := e2
        have m2' : (divR r s).hi = divW r.hi s.lo true := m2
        rw [e2', ← m2'] at u
        obtain ⟨_, _, k1, _⟩ := u.ok
        rw [eS, ey] at k1
        have nn : 0 ≤ val (divR r s).hi := by
          rcases Int.lt_or_le (val (divR r s).hi) 0 with c | c
          · have a1 : val (divR r s).hi * val s.lo < 0 := Int.mul_neg_of_neg_of_pos c hs
            have a2 : 0 ≤ val r.hi * SS := Int.mul_nonneg g (Int.le_of_lt SS0)
            omega
          · exact c
        have k2 : val (divR r s).hi * (val s.lo * Q) ≤ val (divR r s).hi * (U * SS) := Int.mul_le_mul_of_nonneg_left h'.low nn
        have k3 := Int.mul_le_mul_of_nonneg_right k1 (Int.le_of_lt h'.pos)
        rw [Int.mul_assoc (val (divR r s).hi)] at k3
        omega
    have k4 := Int.mul_le_mul_of_nonneg_right k0 (Int.le_of_lt h.pos)
    have k5 := Int.mul_le_mul_of_nonneg_right h.high (Int.le_of_lt QS)
    have a1 : val (divR r s).hi * (P * U) * SS = val (divR r s).hi * (U * SS) * P := by grind
    have a2 : val r.hi * SS * Q * P = val r.hi * P * (Q * SS) := by grind
    have a3 : T * SS * (Q * SS) = T * Q * SS * SS := by grind
    omega
end

section
variable {r : Res} {P T : Int} (fr : Fit r) (h : HasV r P T)
include fr h
theorem HasV.sqr (he : (sqrR r).e = 0) : HasV (sqrR r) (P * P) (T * T) := by
  have k := HasP.sqr (Int.le_of_lt h.pos) fr h.hasP he
  refine ⟨Int.mul_pos h.pos h.pos, ?_, ?_⟩
  · refine Int.le_of_mul_le_mul_right ?_ SS0
    have e1 : val (sqrR r).lo * (P * P) * SS = val (sqrR r).lo * (SS * (P * P)) := by grind
    have e2 : T * T * SS * SS = T * SS * (T * SS) := by grind
    rw [e1, e2]; exact k.1
  · refine Int.le_of_mul_le_mul_right ?_ SS0
    have e1 : val (sqrR r).hi * (P * P) * SS = val (sqrR r).hi * (SS * (P * P)) := by grind
    have e2 : T * T * SS * SS = T * SS * (T * SS) := by grind
    rw [e1, e2]; exact k.2
theorem HasV.sqrt (he : (sqrtR r).e = 0) {Q V : Int} (hQ : 0 < Q) (hV : 0 ≤ V) (e : V * V * P = T * (Q * Q)) : HasV (sqrtR r) Q V := by
  obtain ⟨_, ⟨n1, n2, _⟩, ⟨n4, n5, _⟩⟩ := sqrt_parts fr he
  have hs := SS0
  have QQ : 0 < Q * Q := Int.mul_pos hQ hQ
  have VS : 0 ≤ V * SS := Int.mul_nonneg hV (Int.le_of_lt hs)
  refine ⟨hQ, ?_, ?_⟩
  · rcases Int.lt_or_le (V * SS) (val (sqrtR r).lo * Q) with g | g
    · exfalso
      have k1 : V * SS * (V * SS) < val (sqrtR r).lo * Q * (val (sqrtR r).lo * Q) := by
        have a1 : V * SS * (V * SS) ≤ V * SS * (val (sqrtR r).lo * Q) := Int.mul_le_mul_of_nonneg_left (by omega) VS
        have a2 : V * SS * (val (sqrtR r).lo * Q) < val (sqrtR r).lo * Q * (val (sqrtR r).lo * Q) := Int.mul_lt_mul_of_pos_right g (by omega)
        omega
      have k2 := Int.mul_lt_mul_of_pos_right k1 h.pos
      have k3 := Int.mul_le_mul_of_nonneg_right n2 (Int.le_of_lt (Int.mul_pos QQ h.pos))
      have k4 := Int.mul_le_mul_of_nonneg_right h.low (Int.le_of_lt (Int.mul_pos QQ hs))
      have a1 : V * SS * (V * SS) * P = V * V * P * (SS * SS) := by grind
      have a2 : val (sqrtR r).lo * Q * (val (sqrtR r).lo * Q) * P = val (sqrtR r).lo * val (sqrtR r).lo * (Q * Q * P) := by grind
      have a3 : val r.lo * SS * (Q * Q * P) = val r.lo * P * (Q * Q * SS) := by grind
      have a4 : T * SS * (Q * Q * SS) = T * (Q * Q) * (SS * SS) := by grind
      rw [e] at a1
      omega
    · exact g
  · rcases Int.lt_or_le (val (sqrtR r).hi * Q) (V * SS) with g | g
    · exfalso
      have hq : 0 ≤ val (sqrtR r).hi * Q := Int.mul_nonneg n4 (Int.le_of_lt hQ)
      have k1 : val (sqrtR r).hi * Q * (val (sqrtR r).hi * Q) < V * SS * (V * SS) := by
        have a1 : val (sqrtR r).hi * Q * (val (sqrtR r).hi * Q) ≤ val (sqrtR r).hi * Q * (V * SS) := Int.mul_le_mul_of_nonneg_left (by omega) hq
        have a2 : val (sqrtR r).hi * Q * (V * SS) < V * SS * (V * SS) := Int.mul_lt_mul_of_pos_right g (by omega)
        omega
      have k2 := Int.mul_lt_mul_of_pos_right k1 h.pos
      have k3 := Int.mul_le_mul_of_nonneg_right n5 (Int.le_of_lt (Int.mul_pos QQ h.pos))
      have k4 := Int.mul_le_mul_of_nonneg_right h.high (Int.le_of_lt (Int.mul_pos QQ hs))
      have a1 : V * SS * (V * SS) * P = V * V * P * (SS * SS) := by grind
      have a2 : val (sqrtR r).hi * Q * (val (sqrtR r).hi * Q) * P = val (sqrtR r).hi * val (sqrtR r).hi * (Q * Q * P) := by grind
      have a3 : val r.hi * SS * (Q * Q * P) = val r.hi * P * (Q * Q * SS) := by grind
      have a4 : T * SS * (Q * Q * SS) = T * (Q * Q) * (SS * SS) := by grind
      rw [e] at a1
      omega
    · exact g
end
end
section
open Go.RowKit

def unI : Res := ⟨0, 0, u1⟩
def capR (a c : Res) : Res := mulR a (subR (oneR u1) (sqrR c))
theorem un_fit : Fit unI := .of (by decide +kernel)
theorem un_sqr : Fit (sqrR unI) := .of (by decide +kernel)
theorem un_left : Fit (subR (oneR u1) (sqrR unI)) := .of (by decide +kernel)
theorem un_cap : Fit (capR unI unI) := .of (by decide +kernel)
theorem In.trans {a b c : Res} (h : In a b) (k : In b c) : In a c := ⟨h.fit, Int.le_trans k.lo h.lo, Int.le_trans h.hi k.hi⟩
section
variable {a A c C : Res}
theorem sqr_fit1 (hc : In c unI) : Fit (sqrR c) := (sqr_in hc un_fit un_sqr.e).fit
theorem left_fit (hc : In c unI) : Fit (subR (oneR u1) (sqrR c)) := (sub_in (.refl u1_fit) u1_fit (sqr_in hc un_fit un_sqr.e) un_sqr un_left.e).fit
theorem left_in (hc : In c C) (hC : In C unI) : In (subR (oneR u1) (sqrR c)) (subR (oneR u1) (sqrR C)) :=
  sub_in (.refl u1_fit) u1_fit (sqr_in hc hC.fit (sqr_fit1 hC).e) (sqr_fit1 hC) (left_fit hC).e
theorem cap_fit (ha : In a unI) (hc : In c unI) : Fit (capR a c) := (mul_in ha un_fit (left_in hc (.refl un_fit)) un_left un_cap.e).fit
end

section
variable {a c : Res}
end
end
section
open Go.RowKit

end
section
open Go.RowKit

end
section
open Go.RowKit

def DD : Int := ((2 ^ 1022 : Nat) : Int)
theorem ones : val u1 = SS ∧ val m1 = -SS ∧ val 4611686018427387904 = 2 * SS ∧ val 13835058055282163712 = -(2 * SS) := by decide +kernel

structure PartOf (x : Nat) (n p : Res) (m M : Int) : Prop where
  low : 0 ≤ m
  le : m ≤ M
  top : M ≤ SS
  under : ∃ a : Int, (a = val x ∨ a = -val x) ∧ 0 ≤ a ∧ m * val n.hi ≤ a * SS ∧ (M = SS ∨ a * SS ≤ M * val n.lo)
  wide : M - m ≤ 16 * DD
  side : (0 ≤ val x ∧ val p.lo = m ∧ val p.hi = M) ∨ (val x ≤ 0 ∧ val p.lo = -M ∧ val p.hi = -m)
  nil : val x = 0 → M = 0

theorem bound_ends {r : Res} (f : Fit r) (h1 : val r.lo ≤ SS) (h2 : -SS ≤ val r.hi) : val (boundR r).lo = max (val r.lo) (-SS) ∧ val (boundR r).hi = min (val r.hi) SS := by
  obtain ⟨x1, x2, x3⟩ := max_facts r.lo m1 f.lo (by decide) f.rlo (by decide)
  obtain ⟨y1, y2, y3⟩ := min_facts r.hi u1 f.hi (by decide) f.rhi (by decide)
  obtain ⟨o1, o2, _, _⟩ := ones
  have l := f.le
  have s0 : 0 ≤ SS := ss_pos
  have hb : bothB r.lo r.hi m1 u1 = true := by
    unfold bothB leB
    refine decide_eq_true ?_
    rw [x3, y3, o1, o2]; omega
  have e1 : (boundR r).lo = maxW r.lo m1 := by
    show (if bothB r.lo r.hi m1 u1 then maxW r.lo m1 else 0) = _
    rw [if_pos hb]
  have e2 : (boundR r).hi = minW r.hi u1 := by
    show (if bothB r.lo r.hi m1 u1 then minW r.hi u1 else 0) = _
    rw [if_pos hb]
  rw [e1, e2, x3, y3, o1, o2]
  exact ⟨rfl, rfl⟩

end
section
open Go.RowKit
end
section
open Go.RowKit
attribute [local go_sem] run_store_float

def MemIs (w : World) (l : List (Nat × Array Value)) (wx : World) : Prop := Mem w l wx
abbrev CalcH (al ah bl bh rl rh : Nat) : Prop := ∀ w : World, Calls Try.prog 38 #[.agg #[.float .f64 al, .float .f64 ah], .agg #[.float .f64 bl, .float .f64 bh]] w fun r w' => r = .returned (.agg #[.float .f64 rl, .float .f64 rh]) ∧ Below w.heap.size w w'
abbrev CalcO (x sl sh kl kh : Nat) : Prop := ∀ (pb : Nat) (v : World), Has1 v (pb, #[.int .i64 0]) → Calls Try.prog 37 #[.pointer (some ⟨pb, 0, none⟩), .float .f64 x] v fun r w' => r = .returned (.tuple #[.agg #[.float .f64 sl, .float .f64 sh], .agg #[.float .f64 kl, .float .f64 kh]]) ∧ Put ⟨pb, 0, none⟩ (.int .i64 0) v w'
abbrev CalcHas (al ah x : Nat) (b : Bool) : Prop := ∀ w : World, Calls Try.prog 39 #[.agg #[.float .f64 al, .float .f64 ah], .float .f64 x] w fun r w' => r = .returned (.bool b) ∧ Below w.heap.size w w'

theorem sin_walk (al ah sl sh kl kh tl th vl vh pl ph ql qh xl xh yl yh gl gh il ih jl jh : Nat) (b1 b2 b3 : Bool) (w : World)
    (cR : Hid (∀ w, Calls Try.prog 22 #[.agg #[.float .f64 al, .float .f64 ah]] w fun r w' => r = .returned (.bool true) ∧ Below w.heap.size w w'))
    (o1 : (FloatKind.f64.format.order al 0 == some Ordering.lt) = false) (o2 : (FloatKind.f64.format.order ah 4607182418800017408 == some Ordering.gt) = false)
    (cO1 : Hid (CalcO al sl sh kl kh)) (cO2 : Hid (CalcO ah tl th vl vh)) (cS : Hid (CalcH sl sh tl th pl ph)) (cK : Hid (CalcH kl kh vl vh ql qh))
    (h1 : Hid (CalcHas al ah 4598175219545276416 b1)) (h2 : Hid (CalcHas al ah 4604930618986332160 b2)) (h3 : Hid (CalcHas al ah 4602678819172646912 b3))
    (cN1 : Hid (∀ pb, CalcN pb 4607182418800017408)) (cN2 : Hid (∀ pb, CalcN pb 13830554455654793216))
    (c1 : Hid (CalcH pl ph 4607182418800017408 4607182418800017408 gl gh)) (c2 : Hid (CalcH xl xh 13830554455654793216 13830554455654793216 il ih)) (c3 : Hid (CalcH ql qh 13830554455654793216 13830554455654793216 jl jh))
    (e1 : Hid (xl = (cond b1 gl pl) ∧ xh = (cond b1 gh ph))) (e2 : Hid (yl = (cond b2 il xl) ∧ yh = (cond b2 ih xh))) (zl zh : Nat) (e3 : Hid (zl = (cond b3 jl ql) ∧ zh = (cond b3 jh qh))) :
    Calls Try.prog 15 #[.agg #[.float .f64 al, .float .f64 ah]] w fun r w' => r = .returned (.tuple #[.agg #[.float .f64 yl, .float .f64 yh], .agg #[.float .f64 zl, .float .f64 zh], .int .i64 0]) ∧ Below w.heap.size w w' := by
  have M : Hid (Mem w [(w.heap.size + 1 + 1, #[.float .f64 0, .float .f64 0]), (w.heap.size + 1, #[.float .f64 0, .float .f64 0]), (w.heap.size, #[.float .f64 al, .float .f64 ah])] (((w.alloc (.cells #[.float .f64 al, .float .f64 ah] 26)).alloc (.cells #[.float .f64 0, .float .f64 0] 26)).alloc (.cells #[.float .f64 0, .float .f64 0] 26))) := by
    have h := (((Mem.nil w).made #[.float .f64 al, .float .f64 ah] 26).made #[.float .f64 0, .float .f64 0] 26).made #[.float .f64 0, .float .f64 0] 26
    simp only [World.size_alloc] at h
    exact Lib.hid h
  obtain ⟨k1, k2⟩ := (M.out.nth 2 rfl).two
  go_enter Try.func15, Try.ntmps15
  go_wp2_with fail
  refine (cR.out _).mono ?_
  rintro r w1 ⟨rfl, hb⟩
  have M0 := Lib.hid (M.out.below hb)
  have z1 : w.heap.size + 1 + 1 < w1.heap.size := M0.out.size 0 rfl
  clear hb k1 k2 cR M
  obtain ⟨k1, k2⟩ := (M0.out.blocks (w.heap.size, #[.float .f64 al, .float .f64 ah]) (by simp)).two
  go_upto_region 4 with fail
  have M := Lib.hid (M0.out.made #[.int .i64 0] 41)
  clear k1 k2 M0 o1 o2
  obtain ⟨k1, k2⟩ := (M.out.blocks (w.heap.size, #[.float .f64 al, .float .f64 ah]) (by simp)).two
  go_wp2_with fail
  refine (cO1.out _ _ (M.out.nth 0 rfl)).mono ?_
  rintro r w2 ⟨rfl, hb⟩
  have z2 : w1.heap.size < w2.heap.size := (M.out.put hb (by omega) (by simp; omega) : Mem w [(w1.heap.size, #[.int .i64 0]), (w.heap.size + 1 + 1, #[.float .f64 0, .float .f64 0]), (w.heap.size + 1, #[.float .f64 0, .float .f64 0]), (w.heap.size, #[.float .f64 al, .float .f64 ah])] w2).size 0 rfl
  have M0 := Lib.hid ((M.out.put hb (by omega) (by simp; omega) : Mem w [(w1.heap.size, #[.int .i64 0]), (w.heap.size + 1 + 1, #[.float .f64 0, .float .f64 0]), (w.heap.size + 1, #[.float .f64 0, .float .f64 0]), (w.heap.size, #[.float .f64 al, .float .f64 ah])] w2))
  clear hb k1 k2 M cO1
  have M : Hid (Mem w [(w2.heap.size + 1, #[.float .f64 kl, .float .f64 kh]), (w2.heap.size, #[.float .f64 sl, .float .f64 sh]), (w1.heap.size, #[.int .i64 0]), (w.heap.size + 1 + 1, #[.float .f64 0, .float .f64 0]), (w.heap.size + 1, #[.float .f64 0, .float .f64 0]), (w.heap.size, #[.float .f64 al, .float .f64 ah])] ((w2.alloc (.cells #[.float .f64 sl, .float .f64 sh] 26)).alloc (.cells #[.float .f64 kl, .float .f64 kh] 26))) := by
    have h := (M0.out.made #[.float .f64 sl, .float .f64 sh] 26).made #[.float .f64 kl, .float .f64 kh] 26
    simp only [World.size_alloc] at h
    exact Lib.hid h
  clear M0
  obtain ⟨k1, k2⟩ := (M.out.blocks (w.heap.size, #[.float .f64 al, .float .f64 ah]) (by simp)).two
  go_wp2_with fail
  refine (cO2.out _ _ (M.out.blocks (w1.heap.size, #[.int .i64 0]) (by simp))).mono ?_
  rintro r w3 ⟨rfl, hb⟩
  have M0 : Hid (Mem w [(w1.heap.size, #[.int .i64 0]), (w2.heap.size, #[.float .f64 sl, .float .f64 sh]), (w2.heap.size + 1, #[.float .f64 kl, .float .f64 kh]), (w.heap.size + 1 + 1, #[.float .f64 0, .float .f64 0]), (w.heap.size + 1, #[.float .f64 0, .float .f64 0]), (w.heap.size, #[.float .f64 al, .float .f64 ah])] w3) := Lib.hid ((M.out.sub (by simp) : Mem w [(w1.heap.size, #[.int .i64 0]), (w2.heap.size, #[.float .f64 sl, .float .f64 sh]), (w2.heap.size + 1, #[.float .f64 kl, .float .f64 kh]), (w.heap.size + 1 + 1, #[.float .f64 0, .float .f64 0]), (w.heap.size + 1, #[.float .f64 0, .float .f64 0]), (w.heap.size, #[.float .f64 al, .float .f64 ah])] _).put hb (by omega) (by simp; omega))
  have z3 : w2.heap.size + 1 < w3.heap.size := M0.out.size 2 rfl
  clear hb k1 k2 M cO2
  have M : Hid (Mem w [(w1.heap.size, #[.int .i64 0]), (w2.heap.size, #[.float .f64 sl, .float .f64 sh]), (w2.heap.size + 1, #[.float .f64 kl, .float .f64 kh]), (w3.heap.size, #[.float .f64 tl, .float .f64 th]), (w3.heap.size + 1, #[.float .f64 vl, .float .f64 vh]), (w.heap.size + 1 + 1, #[.float .f64 0, .float .f64 0]), (w.heap.size + 1, #[.float .f64 0, .float .f64 0]), (w.heap.size, #[.float .f64 al, .float .f64 ah])] ((w3.alloc (.cells #[.float .f64 tl, .float .f64 th] 26)).alloc (.cells #[.float .f64 vl, .float .f64 vh] 26))) := by
    have h := (M0.out.made #[.float .f64 tl, .float .f64 th] 26).made #[.float .f64 vl, .float .f64 vh] 26
    simp only [World.size_alloc] at h
    exact Lib.hid (h.sub (by simp))
  clear M0
  go_upto_region 6 with fail
  revert M
  generalize ((w3.alloc (.cells #[.float .f64 tl, .float .f64 th] 26)).alloc (.cells #[.float .f64 vl, .float .f64 vh] 26)) = W
  intro M
  replace M := Lib.hid M.out.drew
  obtain ⟨k1, k2⟩ := (M.out.blocks (w2.heap.size, #[.float .f64 sl, .float .f64 sh]) (by simp)).two; obtain ⟨k3, k4⟩ := (M.out.blocks (w3.heap.size, #[.float .f64 tl, .float .f64 th]) (by simp)).two; obtain ⟨k5, k6⟩ := (M.out.blocks (w2.heap.size + 1, #[.float .f64 kl, .float .f64 kh]) (by simp)).two; obtain ⟨k7, k8⟩ := (M.out.blocks (w3.heap.size + 1, #[.float .f64 vl, .float .f64 vh]) (by simp)).two
  refine wp_region_noPanic ?_
  refine tails_region (S := fun w' => w'.cell? ⟨w2.heap.size, 0, none⟩ = some (.float .f64 sl) ∧ w'.cell? ⟨w2.heap.size, 1, none⟩ = some (.float .f64 sh) ∧ w'.cell? ⟨w3.heap.size, 0, none⟩ = some (.float .f64 tl) ∧ w'.cell? ⟨w3.heap.size, 1, none⟩ = some (.float .f64 th) ∧ w'.cell? ⟨w2.heap.size + 1, 0, none⟩ = some (.float .f64 kl) ∧ w'.cell? ⟨w2.heap.size + 1, 1, none⟩ = some (.float .f64 kh) ∧ w'.cell? ⟨w3.heap.size + 1, 0, none⟩ = some (.float .f64 vl) ∧ w'.cell? ⟨w3.heap.size + 1, 1, none⟩ = some (.float .f64 vh)) [6, 7] (by kernel_rfl) ?_ (fun hS => ?_)
  · exact ⟨k1, k2, k3, k4, k5, k6, k7, k8⟩
  refine tails_take (T := [6, 7]) (i := 0) (o := _) (x := ?_) rfl (by kernel_rfl) (by kernel_rfl) (by kernel_rfl) (by kernel_rfl) (fun _ _ _ h => h) (Or.inl ⟨by rfl, ?_⟩) (by assumption) ?_
  rotate_left; focus (intro w hSw; (try dsimp only at hSw); go_simp; first | done | with_reducible rfl)
  refine tails_take (T := [6, 7]) (i := 1) (o := _) (x := ?_) rfl (by kernel_rfl) (by kernel_rfl) (by kernel_rfl) (by kernel_rfl) (fun _ _ _ h => h) (Or.inl ⟨by rfl, ?_⟩) (by assumption) ?_
  rotate_left; focus (intro w hSw; (try dsimp only at hSw); go_simp; first | done | with_reducible rfl)
  refine tails_take (T := [6, 7]) (i := 3) (o := _) (x := ?_) rfl (by kernel_rfl) (by kernel_rfl) (by kernel_rfl) (by kernel_rfl) (fun _ _ _ h => h) (Or.inl ⟨by rfl, ?_⟩) (by assumption) ?_
  rotate_left; focus (intro w hSw; (try dsimp only at hSw); go_simp; first | done | with_reducible rfl)
  refine tails_take (T := [6, 7]) (i := 4) (o := _) (x := ?_) rfl (by kernel_rfl) (by kernel_rfl) (by kernel_rfl) (by kernel_rfl) (fun _ _ _ h => h) (Or.inl ⟨by rfl, ?_⟩) (by assumption) ?_
  rotate_left; focus (intro w hSw; (try dsimp only at hSw); go_simp; first | done | with_reducible rfl)
  refine tails_one (T := [6, 7]) (i := 2) (o := _) rfl (by kernel_rfl) (fun K hK => ?_)
  go_simp
  ((with_reducible refine (cS.out _).mono ?_); rintro rr w7 ⟨rfl, hb⟩; replace M := Lib.hid (M.out.below hb); clear hb k1 k2 k3 k4 k5 k6 k7 k8; obtain ⟨k1, k2⟩ := (M.out.blocks (w2.heap.size, #[.float .f64 sl, .float .f64 sh]) (by simp)).two; obtain ⟨k3, k4⟩ := (M.out.blocks (w3.heap.size, #[.float .f64 tl, .float .f64 th]) (by simp)).two; obtain ⟨k5, k6⟩ := (M.out.blocks (w2.heap.size + 1, #[.float .f64 kl, .float .f64 kh]) (by simp)).two; obtain ⟨k7, k8⟩ := (M.out.blocks (w3.heap.size + 1, #[.float .f64 vl, .float .f64 vh]) (by simp)).two)
  try go_wp2_with fail
  refine hK.out _ _ (Or.inr ⟨k1, k2, k3, k4, k5, k6, k7, k8⟩) (fun hHeld => ?_)
  clear hK K hS
  have hS := hHeld.resolve_left (by decide)
  clear hHeld
  refine tails_one (T := [6, 7]) (i := 5) (o := _) rfl (by kernel_rfl) (fun K hK => ?_)
  go_simp
  ((with_reducible refine (cK.out _).mono ?_); rintro rr w7 ⟨rfl, hb⟩; replace M := Lib.hid (M.out.below hb); clear hb k1 k2 k3 k4 k5 k6 k7 k8; obtain ⟨k1, k2⟩ := (M.out.blocks (w2.heap.size, #[.float .f64 sl, .float .f64 sh]) (by simp)).two; obtain ⟨k3, k4⟩ := (M.out.blocks (w3.heap.size, #[.float .f64 tl, .float .f64 th]) (by simp)).two; obtain ⟨k5, k6⟩ := (M.out.blocks (w2.heap.size + 1, #[.float .f64 kl, .float .f64 kh]) (by simp)).two; obtain ⟨k7, k8⟩ := (M.out.blocks (w3.heap.size + 1, #[.float .f64 vl, .float .f64 vh]) (by simp)).two)
  try go_wp2_with fail
  refine hK.out _ _ (Or.inr ⟨k1, k2, k3, k4, k5, k6, k7, k8⟩) (fun hHeld => ?_)
  clear hK K hS
  have hS := hHeld.resolve_left (by decide)
  clear hHeld
  clear k1 k2 k3 k4 k5 k6 k7 k8 hS
  refine tails_one (T := [6, 7]) (i := 6) (o := _) rfl (by kernel_rfl) (fun K hK => ?_)
  have kc := (M.out.blocks (w2.heap.size, #[.float .f64 sl, .float .f64 sh]) (by simp)).2.1
  have kf := (M.out.blocks (w2.heap.size, #[.float .f64 sl, .float .f64 sh]) (by simp)).2.2
  replace M := Lib.hid (M.out.sets (M.out.blocks (w2.heap.size, #[.float .f64 sl, .float .f64 sh]) (by simp)) (.float .f64 pl) (.float .f64 ph) (by omega) [(w1.heap.size, #[.int .i64 0]), (w2.heap.size, #[.float .f64 pl, .float .f64 ph]), (w2.heap.size + 1, #[.float .f64 kl, .float .f64 kh]), (w3.heap.size, #[.float .f64 tl, .float .f64 th]), (w3.heap.size + 1, #[.float .f64 vl, .float .f64 vh]), (w.heap.size + 1 + 1, #[.float .f64 0, .float .f64 0]), (w.heap.size + 1, #[.float .f64 0, .float .f64 0]), (w.heap.size, #[.float .f64 al, .float .f64 ah])] (by simp; omega))
  go_simp
  refine hK.out _ _ (Or.inl (by decide)) (fun hHeld => ?_)
  clear hK K hHeld kc kf
  refine tails_one (T := [6, 7]) (i := 7) (o := _) rfl (by kernel_rfl) (fun K hK => ?_)
  have kc := (M.out.blocks (w2.heap.size + 1, #[.float .f64 kl, .float .f64 kh]) (by simp)).2.1
  have kf := (M.out.blocks (w2.heap.size + 1, #[.float .f64 kl, .float .f64 kh]) (by simp)).2.2
  replace M := Lib.hid (M.out.sets (M.out.blocks (w2.heap.size + 1, #[.float .f64 kl, .float .f64 kh]) (by simp)) (.float .f64 ql) (.float .f64 qh) (by omega) [(w1.heap.size, #[.int .i64 0]), (w2.heap.size, #[.float .f64 pl, .float .f64 ph]), (w2.heap.size + 1, #[.float .f64 ql, .float .f64 qh]), (w3.heap.size, #[.float .f64 tl, .float .f64 th]), (w3.heap.size + 1, #[.float .f64 vl, .float .f64 vh]), (w.heap.size + 1 + 1, #[.float .f64 0, .float .f64 0]), (w.heap.size + 1, #[.float .f64 0, .float .f64 0]), (w.heap.size, #[.float .f64 al, .float .f64 ah])] (by simp; omega))
  go_simp
  refine hK.out _ _ (Or.inl (by decide)) (fun hHeld => ?_)
  clear hK K hHeld kc kf
  refine tails_done (by kernel_rfl) ?_ _
  refine NoPanic.normal ?_
  replace M : Hid (Mem w [(w1.heap.size, #[.int .i64 0]), (w2.heap.size, #[.float .f64 pl, .float .f64 ph]), (w2.heap.size + 1, #[.float .f64 ql, .float .f64 qh]), (w.heap.size + 1 + 1, #[.float .f64 0, .float .f64 0]), (w.heap.size + 1, #[.float .f64 0, .float .f64 0]), (w.heap.size, #[.float .f64 al, .float .f64 ah])] _) := Lib.hid (M.out.sub (by simp))
  obtain ⟨k1, k2⟩ := (M.out.blocks (w.heap.size, #[.float .f64 al, .float .f64 ah]) (by simp)).two
  go_wp2_with fail
  refine (h1.out _).mono ?_
  rintro r w5 ⟨rfl, hb⟩
  replace M := Lib.hid (M.out.below hb)
  clear hb k1 k2
  go_upto_if 44 with (fail)
  go_cut [] (MemIs w [(w1.heap.size, #[.int .i64 0]), (w2.heap.size, #[.float .f64 xl, .float .f64 xh]), (w2.heap.size + 1, #[.float .f64 ql, .float .f64 qh]), (w.heap.size + 1 + 1, #[.float .f64 0, .float .f64 0]), (w.heap.size + 1, #[.float .f64 0, .float .f64 0]), (w.heap.size, #[.float .f64 al, .float .f64 ah])])
  case first =>
    cases b1
    · obtain ⟨d1, d2⟩ : xl = pl ∧ xh = ph := e1.out
      subst d1 d2
      go_wp2_with fail
      go_meet
      exact M.out
    · obtain ⟨d1, d2⟩ : xl = gl ∧ xh = gh := e1.out
      subst d1 d2
      go_upto_region 8 with fail
      replace M := Lib.hid M.out.drew
      obtain ⟨k1, k2⟩ := (M.out.blocks (w2.heap.size, #[.float .f64 pl, .float .f64 ph]) (by simp)).two
      refine wp_region_noPanic ?_
      refine tails_region (S := fun w' => w'.cell? ⟨w2.heap.size, 0, none⟩ = some (.float .f64 pl) ∧ w'.cell? ⟨w2.heap.size, 1, none⟩ = some (.float .f64 ph)) [3] (by kernel_rfl) ?_ (fun hS => ?_)
      · exact ⟨k1, k2⟩
      refine tails_take (T := [3]) (i := 0) (o := _) (x := ?_) rfl (by kernel_rfl) (by kernel_rfl) (by kernel_rfl) (by kernel_rfl) (fun _ _ _ h => h) (Or.inl ⟨by rfl, ?_⟩) (by assumption) ?_
      rotate_left; focus (intro w hSw; (try dsimp only at hSw); go_simp; first | done | with_reducible rfl)
      refine tails_one (T := [3]) (i := 1) (o := _) rfl (by kernel_rfl) (fun K hK => ?_)
      go_simp
      ((with_reducible refine (cN1.out _ _ (M.out.blocks (w1.heap.size, #[.int .i64 0]) (by simp))).mono ?_); rintro rr w7 ⟨rfl, hb⟩; replace M := Lib.hid (M.out.put hb (by omega) (by simp; omega)); clear hb k1 k2; obtain ⟨k1, k2⟩ := (M.out.blocks (w2.heap.size, #[.float .f64 pl, .float .f64 ph]) (by simp)).two)
      try go_wp2_with fail
      refine hK.out _ _ (Or.inr ⟨k1, k2⟩) (fun hHeld => ?_)
      clear hK K hS
      have hS := hHeld.resolve_left (by decide)
      clear hHeld
      refine tails_one (T := [3]) (i := 2) (o := _) rfl (by kernel_rfl) (fun K hK => ?_)
      go_simp
      ((with_reducible refine (c1.out _).mono ?_); rintro rr w7 ⟨rfl, hb⟩; replace M := Lib.hid (M.out.below hb); clear hb k1 k2; obtain ⟨k1, k2⟩ := (M.out.blocks (w2.heap.size, #[.float .f64 pl, .float .f64 ph]) (by simp)).two)
      try go_wp2_with fail
      refine hK.out _ _ (Or.inr ⟨k1, k2⟩) (fun hHeld => ?_)
      clear hK K hS
      have hS := hHeld.resolve_left (by decide)
      clear hHeld
      clear k1 k2 hS
      refine tails_one (T := [3]) (i := 3) (o := _) rfl (by kernel_rfl) (fun K hK => ?_)
      have kc := (M.out.blocks (w2.heap.size, #[.float .f64 pl, .float .f64 ph]) (by simp)).2.1
      have kf := (M.out.blocks (w2.heap.size, #[.float .f64 pl, .float .f64 ph]) (by simp)).2.2
      replace M := Lib.hid (M.out.sets (M.out.blocks (w2.heap.size, #[.float .f64 pl, .float .f64 ph]) (by simp)) (.float .f64 xl) (.float .f64 xh) (by omega) [(w1.heap.size, #[.int .i64 0]), (w2.heap.size, #[.float .f64 xl, .float .f64 xh]), (w2.heap.size + 1, #[.float .f64 ql, .float .f64 qh]), (w.heap.size + 1 + 1, #[.float .f64 0, .float .f64 0]), (w.heap.size + 1, #[.float .f64 0, .float .f64 0]), (w.heap.size, #[.float .f64 al, .float .f64 ah])] (by simp; omega))
      go_simp
      refine hK.out _ _ (Or.inl (by decide)) (fun hHeld => ?_)
      clear hK K hHeld kc kf
      refine tails_done (by kernel_rfl) ?_ _
      refine NoPanic.normal ?_
      go_wp2_with fail
      go_meet
      exact M.out
  case rest =>
    obtain ⟨w4, rfl⟩ : ∃ x : World, x = wc := ⟨_, rfl⟩
    have M' := hcut
    unfold MemIs at M'
    clear M
    have M := Lib.hid M'
    clear M' hcut
    obtain ⟨k1, k2⟩ := (M.out.blocks (w.heap.size, #[.float .f64 al, .float .f64 ah]) (by simp)).two
    go_wp2_with fail
    refine (h2.out _).mono ?_
    rintro r w5 ⟨rfl, hb⟩
    replace M := Lib.hid (M.out.below hb)
    clear hb k1 k2
    go_upto_if 49 with (fail)
    go_cut [] (MemIs w [(w1.heap.size, #[.int .i64 0]), (w2.heap.size, #[.float .f64 yl, .float .f64 yh]), (w2.heap.size + 1, #[.float .f64 ql, .float .f64 qh]), (w.heap.size + 1 + 1, #[.float .f64 0, .float .f64 0]), (w.heap.size + 1, #[.float .f64 0, .float .f64 0]), (w.heap.size, #[.float .f64 al, .float .f64 ah])])
    case first =>
      cases b2
      · obtain ⟨d1, d2⟩ : yl = xl ∧ yh = xh := e2.out
        subst d1 d2
        go_wp2_with fail
        go_meet
        exact M.out
      · obtain ⟨d1, d2⟩ : yl = il ∧ yh = ih := e2.out
        subst d1 d2
        go_upto_region 10 with fail
        replace M := Lib.hid M.out.drew
        obtain ⟨k1, k2⟩ := (M.out.blocks (w2.heap.size, #[.float .f64 xl, .float .f64 xh]) (by simp)).two
        refine wp_region_noPanic ?_
        refine tails_region (S := fun w' => w'.cell? ⟨w2.heap.size, 0, none⟩ = some (.float .f64 xl) ∧ w'.cell? ⟨w2.heap.size, 1, none⟩ = some (.float .f64 xh)) [3] (by kernel_rfl) ?_ (fun hS => ?_)
        · exact ⟨k1, k2⟩
        refine tails_take (T := [3]) (i := 0) (o := _) (x := ?_) rfl (by kernel_rfl) (by kernel_rfl) (by kernel_rfl) (by kernel_rfl) (fun _ _ _ h => h) (Or.inl ⟨by rfl, ?_⟩) (by assumption) ?_
        rotate_left; focus (intro w hSw; (try dsimp only at hSw); go_simp; first | done | with_reducible rfl)
        refine tails_one (T := [3]) (i := 1) (o := _) rfl (by kernel_rfl) (fun K hK => ?_)
        go_simp
        ((with_reducible refine (cN2.out _ _ (M.out.blocks (w1.heap.size, #[.int .i64 0]) (by simp))).mono ?_); rintro rr w7 ⟨rfl, hb⟩; replace M := Lib.hid (M.out.put hb (by omega) (by simp; omega)); clear hb k1 k2; obtain ⟨k1, k2⟩ := (M.out.blocks (w2.heap.size, #[.float .f64 xl, .float .f64 xh]) (by simp)).two)
        try go_wp2_with fail
        refine hK.out _ _ (Or.inr ⟨k1, k2⟩) (fun hHeld => ?_)
        clear hK K hS
        have hS := hHeld.resolve_left (by decide)
        clear hHeld
        refine tails_one (T := [3]) (i := 2) (o := _) rfl (by kernel_rfl) (fun K hK => ?_)
        go_simp
        ((with_reducible refine (c2.out _).mono ?_); rintro rr w7 ⟨rfl, hb⟩; replace M := Lib.hid (M.out.below hb); clear hb k1 k2; obtain ⟨k1, k2⟩ := (M.out.blocks (w2.heap.size, #[.float .f64 xl, .float .f64 xh]) (by simp)).two)
        try go_wp2_with fail
        refine hK.out _ _ (Or.inr ⟨k1, k2⟩) (fun hHeld => ?_)
        clear hK K hS
        have hS := hHeld.resolve_left (by decide)
        clear hHeld
        clear k1 k2 hS
        refine tails_one (T := [3]) (i := 3) (o := _) rfl (by kernel_rfl) (fun K hK => ?_)
        have kc := (M.out.blocks (w2.heap.size, #[.float .f64 xl, .float .f64 xh]) (by simp)).2.1
        have kf := (M.out.blocks (w2.heap.size, #[.float .f64 xl, .float .f64 xh]) (by simp)).2.2
        replace M := Lib.hid (M.out.sets (M.out.blocks (w2.heap.size, #[.float .f64 xl, .float .f64 xh]) (by simp)) (.float .f64 yl) (.float .f64 yh) (by omega) [(w1.heap.size, #[.int .i64 0]), (w2.heap.size, #[.float .f64 yl, .float .f64 yh]), (w2.heap.size + 1, #[.float .f64 ql, .float .f64 qh]), (w.heap.size + 1 + 1, #[.float .f64 0, .float .f64 0]), (w.heap.size + 1, #[.float .f64 0, .float .f64 0]), (w.heap.size, #[.float .f64 al, .float .f64 ah])] (by simp; omega))
        go_simp
        refine hK.out _ _ (Or.inl (by decide)) (fun hHeld => ?_)
        clear hK K hHeld kc kf
        refine tails_done (by kernel_rfl) ?_ _
        refine NoPanic.normal ?_
        go_wp2_with fail
        go_meet
        exact M.out
    case rest =>
      obtain ⟨w4, rfl⟩ : ∃ x : World, x = wc := ⟨_, rfl⟩
      have M' := hcut
      unfold MemIs at M'
      clear M
      have M := Lib.hid M'
      clear M' hcut
      obtain ⟨k1, k2⟩ := (M.out.blocks (w.heap.size, #[.float .f64 al, .float .f64 ah]) (by simp)).two
      go_wp2_with fail
      refine (h3.out _).mono ?_
      rintro r w5 ⟨rfl, hb⟩
      replace M := Lib.hid (M.out.below hb)
      clear hb k1 k2
      go_upto_if 54 with (fail)
      go_cut [] (MemIs w [(w1.heap.size, #[.int .i64 0]), (w2.heap.size, #[.float .f64 yl, .float .f64 yh]), (w2.heap.size + 1, #[.float .f64 zl, .float .f64 zh]), (w.heap.size + 1 + 1, #[.float .f64 0, .float .f64 0]), (w.heap.size + 1, #[.float .f64 0, .float .f64 0]), (w.heap.size, #[.float .f64 al, .float .f64 ah])])
      case first =>
        cases b3
        · obtain ⟨d1, d2⟩ : zl = ql ∧ zh = qh := e3.out
          subst d1 d2
          go_wp2_with fail
          go_meet
          exact M.out
        · obtain ⟨d1, d2⟩ : zl = jl ∧ zh = jh := e3.out
          subst d1 d2
          go_upto_region 12 with fail
          replace M := Lib.hid M.out.drew
          obtain ⟨k1, k2⟩ := (M.out.blocks (w2.heap.size + 1, #[.float .f64 ql, .float .f64 qh]) (by simp)).two
          refine wp_region_noPanic ?_
          refine tails_region (S := fun w' => w'.cell? ⟨w2.heap.size + 1, 0, none⟩ = some (.float .f64 ql) ∧ w'.cell? ⟨w2.heap.size + 1, 1, none⟩ = some (.float .f64 qh)) [3] (by kernel_rfl) ?_ (fun hS => ?_)
          · exact ⟨k1, k2⟩
          refine tails_take (T := [3]) (i := 0) (o := _) (x := ?_) rfl (by kernel_rfl) (by kernel_rfl) (by kernel_rfl) (by kernel_rfl) (fun _ _ _ h => h) (Or.inl ⟨by rfl, ?_⟩) (by assumption) ?_
          rotate_left; focus (intro w hSw; (try dsimp only at hSw); go_simp; first | done | with_reducible rfl)
          refine tails_one (T := [3]) (i := 1) (o := _) rfl (by kernel_rfl) (fun K hK => ?_)
          go_simp
          ((with_reducible refine (cN2.out _ _ (M.out.blocks (w1.heap.size, #[.int .i64 0]) (by simp))).mono ?_); rintro rr w7 ⟨rfl, hb⟩; replace M := Lib.hid (M.out.put hb (by omega) (by simp; omega)); clear hb k1 k2; obtain ⟨k1, k2⟩ := (M.out.blocks (w2.heap.size + 1, #[.float .f64 ql, .float .f64 qh]) (by simp)).two)
          try go_wp2_with fail
          refine hK.out _ _ (Or.inr ⟨k1, k2⟩) (fun hHeld => ?_)
          clear hK K hS
          have hS := hHeld.resolve_left (by decide)
          clear hHeld
          refine tails_one (T := [3]) (i := 2) (o := _) rfl (by kernel_rfl) (fun K hK => ?_)
          go_simp
          ((with_reducible refine (c3.out _).mono ?_); rintro rr w7 ⟨rfl, hb⟩; replace M := Lib.hid (M.out.below hb); clear hb k1 k2; obtain ⟨k1, k2⟩ := (M.out.blocks (w2.heap.size + 1, #[.float .f64 ql, .float .f64 qh]) (by simp)).two)
          try go_wp2_with fail
          refine hK.out _ _ (Or.inr ⟨k1, k2⟩) (fun hHeld => ?_)
          clear hK K hS
          have hS := hHeld.resolve_left (by decide)
          clear hHeld
          clear k1 k2 hS
          refine tails_one (T := [3]) (i := 3) (o := _) rfl (by kernel_rfl) (fun K hK => ?_)
          have kc := (M.out.blocks (w2.heap.size + 1, #[.float .f64 ql, .float .f64 qh]) (by simp)).2.1
          have kf := (M.out.blocks (w2.heap.size + 1, #[.float .f64 ql, .float .f64 qh]) (by simp)).2.2
          replace M := Lib.hid (M.out.sets (M.out.blocks (w2.heap.size + 1, #[.float .f64 ql, .float .f64 qh]) (by simp)) (.float .f64 zl) (.float .f64 zh) (by omega) [(w1.heap.size, #[.int .i64 0]), (w2.heap.size, #[.float .f64 yl, .float .f64 yh]), (w2.heap.size + 1, #[.float .f64 zl, .float .f64 zh]), (w.heap.size + 1 + 1, #[.float .f64 0, .float .f64 0]), (w.heap.size + 1, #[.float .f64 0, .float .f64 0]), (w.heap.size, #[.float .f64 al, .float .f64 ah])] (by simp; omega))
          go_simp
          refine hK.out _ _ (Or.inl (by decide)) (fun hHeld => ?_)
          clear hK K hHeld kc kf
          refine tails_done (by kernel_rfl) ?_ _
          refine NoPanic.normal ?_
          go_wp2_with fail
          go_meet
          exact M.out
      case rest =>
        obtain ⟨w4, rfl⟩ : ∃ x : World, x = wc := ⟨_, rfl⟩
        have M' := hcut
        unfold MemIs at M'
        clear M
        have M := Lib.hid M'
        clear M' hcut
        obtain ⟨k1, k2⟩ := (M.out.blocks (w2.heap.size, #[.float .f64 yl, .float .f64 yh]) (by simp)).two
        obtain ⟨k3, k4⟩ := (M.out.blocks (w2.heap.size + 1, #[.float .f64 zl, .float .f64 zh]) (by simp)).two
        have k5 := (M.out.blocks (w.heap.size + 1, #[.float .f64 0, .float .f64 0]) (by simp)).2.1
        have k6 := (M.out.blocks (w.heap.size + 1, #[.float .f64 0, .float .f64 0]) (by simp)).2.2
        have k7 := (M.out.blocks (w.heap.size + 1 + 1, #[.float .f64 0, .float .f64 0]) (by simp)).2.1
        have k8 := (M.out.blocks (w.heap.size + 1 + 1, #[.float .f64 0, .float .f64 0]) (by simp)).2.2
        go_upto_region 13 with fail
        go_region_held3 (fun w' => w'.cell? ⟨w2.heap.size, 0, none⟩ = some (.float .f64 yl) ∧ w'.cell? ⟨w2.heap.size, 1, none⟩ = some (.float .f64 yh) ∧ w'.cell? ⟨w2.heap.size + 1, 0, none⟩ = some (.float .f64 zl) ∧ w'.cell? ⟨w2.heap.size + 1, 1, none⟩ = some (.float .f64 zh)) (((try dsimp only); (repeat' apply And.intro); all_goals (repeat (first | (with_reducible assumption) | ((with_reducible refine keep_undrew ?_); (with_reducible assumption)) | (with_reducible refine keep_drew ?_) | (with_reducible refine keep_alloc _ ?_) | (with_reducible refine keep_set _ (by first | (with_reducible assumption) | omega) ?_)))))
          (fail)
        have M1 := Lib.hid (M.out.sets (M.out.blocks (w.heap.size + 1, #[.float .f64 0, .float .f64 0]) (by simp)) (.float .f64 yl) (.float .f64 yh) (by omega) [(w.heap.size + 1, #[.float .f64 yl, .float .f64 yh]), (w.heap.size + 1 + 1, #[.float .f64 0, .float .f64 0])] (by simp))
        have M2 := Lib.hid (M1.out.sets (M1.out.nth 1 rfl) (.float .f64 zl) (.float .f64 zh) (by omega) [(w.heap.size + 1, #[.float .f64 yl, .float .f64 yh]), (w.heap.size + 1 + 1, #[.float .f64 zl, .float .f64 zh])] (by simp))
        go_wp2
        have M3 := Lib.hid M2.out.drew
        have f1 := (M3.out.nth 0 rfl).2.1
        have g1 := (M3.out.nth 1 rfl).2.1
        exact bodyPost_ret (v := .tuple #[.agg #[.float .f64 yl, .float .f64 yh], .agg #[.float .f64 zl, .float .f64 zh], .int .i64 0]) (by simp [results, Try.results15, go_sem, f1, g1]) rfl ⟨rfl, M3.out.base⟩
end
section
open Go.RowKit
attribute [local go_sem] run_store_float

theorem cmid_good {a0 a1 a2 a3 a4 a5 m0 m1 m2 : Nat} (w : World)
    (c1 : Hid (∀ w, Calls Try.prog 21 #[.agg #[.float .f64 a0, .float .f64 a1, .float .f64 a2, .float .f64 a3, .float .f64 a4, .float .f64 a5]] w fun r w' => r = .returned (.tuple #[.agg #[.float .f64 m0, .float .f64 m1, .float .f64 m2], .int .i64 0]) ∧ Below w.heap.size w w'))
    (c2 : Hid (∀ w, Calls Try.prog 22 #[.agg #[.float .f64 a0, .float .f64 a1]] w fun r w' => r = .returned (.bool true) ∧ Below w.heap.size w w'))
    (c3 : Hid (∀ w, Calls Try.prog 22 #[.agg #[.float .f64 a2, .float .f64 a3]] w fun r w' => r = .returned (.bool true) ∧ Below w.heap.size w w'))
    (c4 : Hid (∀ w, Calls Try.prog 22 #[.agg #[.float .f64 a4, .float .f64 a5]] w fun r w' => r = .returned (.bool true) ∧ Below w.heap.size w w'))
    (c5 : Hid (∀ w, Calls Try.prog 23 #[.agg #[.float .f64 a0, .float .f64 a1], .float .f64 m0] w fun r w' => r = .returned (.bool true) ∧ Below w.heap.size w w'))
    (c6 : Hid (∀ w, Calls Try.prog 23 #[.agg #[.float .f64 a2, .float .f64 a3], .float .f64 m1] w fun r w' => r = .returned (.bool true) ∧ Below w.heap.size w w'))
    (c7 : Hid (∀ w, Calls Try.prog 23 #[.agg #[.float .f64 a4, .float .f64 a5], .float .f64 m2] w fun r w' => r = .returned (.bool true) ∧ Below w.heap.size w w'))
    (c8 : Hid (∀ w, Calls Try.prog 12 #[] w fun r w' => r = .returned (.bool true) ∧ Below w.heap.size w w')) :
    Calls Try.prog 6 #[.agg #[.float .f64 a0, .float .f64 a1, .float .f64 a2, .float .f64 a3, .float .f64 a4, .float .f64 a5]] w fun r w' => r = .returned (.bool true) ∧ Below w.heap.size w w' := by
  have M := Lib.hid ((Own.nil w).made #[.float .f64 a0, .float .f64 a1, .float .f64 a2, .float .f64 a3, .float .f64 a4, .float .f64 a5] 28)
  have eqF := eq_floats
  go_enter Try.func6, Try.ntmps6
  obtain ⟨k1, k2, k3, k4, k5, k6⟩ := (M.out.nth 0 rfl).six
  go_wp2_with fail
  refine (c1.out _).mono ?_
  rintro r w1_ ⟨rfl, hb⟩
  replace M := Lib.hid (M.out.below hb)
  clear hb
  clear k1 k2 k3 k4 k5 k6
  replace M := Lib.hid (M.out.made #[.float .f64 m0, .float .f64 m1, .float .f64 m2] 51)
  obtain ⟨k1, k2, k3, k4, k5, k6⟩ := (M.out.nth 1 rfl).six
  go_wp2_with fail
  refine (c2.out _).mono ?_
  rintro r w2_ ⟨rfl, hb⟩
  replace M := Lib.hid (M.out.below hb)
  clear hb
  clear k1 k2 k3 k4 k5 k6
  obtain ⟨k1, k2, k3, k4, k5, k6⟩ := (M.out.nth 1 rfl).six
  go_wp2_with fail
  refine (c3.out _).mono ?_
  rintro r w3_ ⟨rfl, hb⟩
  replace M := Lib.hid (M.out.below hb)
  clear hb
  clear k1 k2 k3 k4 k5 k6
  obtain ⟨k1, k2, k3, k4, k5, k6⟩ := (M.out.nth 1 rfl).six
  go_wp2_with fail
  refine (c4.out _).mono ?_
  rintro r w4_ ⟨rfl, hb⟩
  replace M := Lib.hid (M.out.below hb)
  clear hb
  clear k1 k2 k3 k4 k5 k6
  obtain ⟨k1, k2, k3, k4, k5, k6⟩ := (M.out.nth 1 rfl).six
  obtain ⟨k7, k8, k9⟩ := (M.out.nth 0 rfl).three
  go_wp2_with fail
  refine (c5.out _).mono ?_
  rintro r w5_ ⟨rfl, hb⟩
  replace M := Lib.hid (M.out.below hb)
  clear hb
  clear k1 k2 k3 k4 k5 k6 k7 k8 k9
  obtain ⟨k1, k2, k3, k4, k5, k6⟩ := (M.out.nth 1 rfl).six
  obtain ⟨k7, k8, k9⟩ := (M.out.nth 0 rfl).three
  go_wp2_with fail
  refine (c6.out _).mono ?_
  rintro r w6_ ⟨rfl, hb⟩
  replace M := Lib.hid (M.out.below hb)
  clear hb
  clear k1 k2 k3 k4 k5 k6 k7 k8 k9
  obtain ⟨k1, k2, k3, k4, k5, k6⟩ := (M.out.nth 1 rfl).six
  obtain ⟨k7, k8, k9⟩ := (M.out.nth 0 rfl).three
  go_wp2_with fail
  refine (c7.out _).mono ?_
  rintro r w7_ ⟨rfl, hb⟩
  replace M := Lib.hid (M.out.below hb)
  clear hb
  clear k1 k2 k3 k4 k5 k6 k7 k8 k9
  go_wp2_with fail
  refine (c8.out _).mono ?_
  rintro r w8_ ⟨rfl, hb⟩
  replace M := Lib.hid (M.out.below hb)
  clear hb
  go_wp2
  go_ret
  exact ⟨rfl, M.out.base⟩

theorem cmid_bad0 {a0 a1 a2 a3 a4 a5 : Nat} (w : World)
    (c1 : Hid (∀ w, Calls Try.prog 21 #[.agg #[.float .f64 a0, .float .f64 a1, .float .f64 a2, .float .f64 a3, .float .f64 a4, .float .f64 a5]] w fun r w' => r = .returned (.tuple #[.agg #[.float .f64 0, .float .f64 0, .float .f64 0], .int .i64 20]) ∧ Below w.heap.size w w'))
    (c2 : Hid (∀ w, Calls Try.prog 22 #[.agg #[.float .f64 a0, .float .f64 a1]] w fun r w' => r = .returned (.bool false) ∧ Below w.heap.size w w'))
    (e_0_0 : (Op.floatEq .f64 0 0 = true))
    (c3 : Hid (∀ w, Calls Try.prog 12 #[] w fun r w' => r = .returned (.bool true) ∧ Below w.heap.size w w')) :
    Calls Try.prog 6 #[.agg #[.float .f64 a0, .float .f64 a1, .float .f64 a2, .float .f64 a3, .float .f64 a4, .float .f64 a5]] w fun r w' => r = .returned (.bool true) ∧ Below w.heap.size w w' := by
  have M := Lib.hid ((Own.nil w).made #[.float .f64 a0, .float .f64 a1, .float .f64 a2, .float .f64 a3, .float .f64 a4, .float .f64 a5] 28)
  have eqF := eq_floats
  go_enter Try.func6, Try.ntmps6
  obtain ⟨k1, k2, k3, k4, k5, k6⟩ := (M.out.nth 0 rfl).six
  go_wp2_with fail
  refine (c1.out _).mono ?_
  rintro r w1_ ⟨rfl, hb⟩
  replace M := Lib.hid (M.out.below hb)
  clear hb
  clear k1 k2 k3 k4 k5 k6
  replace M := Lib.hid (M.out.made #[.float .f64 0, .float .f64 0, .float .f64 0] 51)
  obtain ⟨k1, k2, k3, k4, k5, k6⟩ := (M.out.nth 1 rfl).six
  go_wp2_with fail
  refine (c2.out _).mono ?_
  rintro r w2_ ⟨rfl, hb⟩
  replace M := Lib.hid (M.out.below hb)
  clear hb
  clear k1 k2 k3 k4 k5 k6
  obtain ⟨k1, k2, k3⟩ := (M.out.nth 0 rfl).three
  go_wp2_with fail
  refine (c3.out _).mono ?_
  rintro r w3_ ⟨rfl, hb⟩
  replace M := Lib.hid (M.out.below hb)
  clear hb
  clear k1 k2 k3
  go_wp2
  go_ret
  exact ⟨rfl, M.out.base⟩

theorem cmid_bad1 {a0 a1 a2 a3 a4 a5 : Nat} (w : World)
    (c1 : Hid (∀ w, Calls Try.prog 21 #[.agg #[.float .f64 a0, .float .f64 a1, .float .f64 a2, .float .f64 a3, .float .f64 a4, .float .f64 a5]] w fun r w' => r = .returned (.tuple #[.agg #[.float .f64 0, .float .f64 0, .float .f64 0], .int .i64 20]) ∧ Below w.heap.size w w'))
    (c2 : Hid (∀ w, Calls Try.prog 22 #[.agg #[.float .f64 a0, .float .f64 a1]] w fun r w' => r = .returned (.bool true) ∧ Below w.heap.size w w'))
    (c3 : Hid (∀ w, Calls Try.prog 22 #[.agg #[.float .f64 a2, .float .f64 a3]] w fun r w' => r = .returned (.bool false) ∧ Below w.heap.size w w'))
    (e_0_0 : (Op.floatEq .f64 0 0 = true))
    (c4 : Hid (∀ w, Calls Try.prog 12 #[] w fun r w' => r = .returned (.bool true) ∧ Below w.heap.size w w')) :
    Calls Try.prog 6 #[.agg #[.float .f64 a0, .float .f64 a1, .float .f64 a2, .float .f64 a3, .float .f64 a4, .float .f64 a5]] w fun r w' => r = .returned (.bool true) ∧ Below w.heap.size w w' := by
  have M := Lib.hid ((Own.nil w).made #[.float .f64 a0, .float .f64 a1, .float .f64 a2, .float .f64 a3, .float .f64 a4, .float .f64 a5] 28)
  have eqF := eq_floats
  go_enter Try.func6, Try.ntmps6
  obtain ⟨k1, k2, k3, k4, k5, k6⟩ := (M.out.nth 0 rfl).six
  go_wp2_with fail
  refine (c1.out _).mono ?_
  rintro r w1_ ⟨rfl, hb⟩
  replace M := Lib.hid (M.out.below hb)
  clear hb
  clear k1 k2 k3 k4 k5 k6
  replace M := Lib.hid (M.out.made #[.float .f64 0, .float .f64 0, .float .f64 0] 51)
  obtain ⟨k1, k2, k3, k4, k5, k6⟩ := (M.out.nth 1 rfl).six
  go_wp2_with fail
  refine (c2.out _).mono ?_
  rintro r w2_ ⟨rfl, hb⟩
  replace M := Lib.hid (M.out.below hb)
  clear hb
  clear k1 k2 k3 k4 k5 k6
  obtain ⟨k1, k2, k3, k4, k5, k6⟩ := (M.out.nth 1 rfl).six
  go_wp2_with fail
  refine (c3.out _).mono ?_
  rintro r w3_ ⟨rfl, hb⟩
  replace M := Lib.hid (M.out.below hb)
  clear hb
  clear k1 k2 k3 k4 k5 k6
  obtain ⟨k1, k2, k3⟩ := (M.out.nth 0 rfl).three
  go_wp2_with fail
  refine (c4.out _).mono ?_
  rintro r w4_ ⟨rfl, hb⟩
  replace M := Lib.hid (M.out.below hb)
  clear hb
  clear k1 k2 k3
  go_wp2
  go_ret
  exact ⟨rfl, M.out.base⟩

theorem cmid_bad2 {a0 a1 a2 a3 a4 a5 : Nat} (w : World)
    (c1 : Hid (∀ w, Calls Try.prog 21 #[.agg #[.float .f64 a0, .float .f64 a1, .float .f64 a2, .float .f64 a3, .float .f64 a4, .float .f64 a5]] w fun r w' => r = .returned (.tuple #[.agg #[.float .f64 0, .float .f64 0, .float .f64 0], .int .i64 20]) ∧ Below w.heap.size w w'))
    (c2 : Hid (∀ w, Calls Try.prog 22 #[.agg #[.float .f64 a0, .float .f64 a1]] w fun r w' => r = .returned (.bool true) ∧ Below w.heap.size w w'))
    (c3 : Hid (∀ w, Calls Try.prog 22 #[.agg #[.float .f64 a2, .float .f64 a3]] w fun r w' => r = .returned (.bool true) ∧ Below w.heap.size w w'))
    (c4 : Hid (∀ w, Calls Try.prog 22 #[.agg #[.float .f64 a4, .float .f64 a5]] w fun r w' => r = .returned (.bool false) ∧ Below w.heap.size w w'))
    (e_0_0 : (Op.floatEq .f64 0 0 = true))
    (c5 : Hid (∀ w, Calls Try.prog 12 #[] w fun r w' => r = .returned (.bool true) ∧ Below w.heap.size w w')) :
    Calls Try.prog 6 #[.agg #[.float .f64 a0, .float .f64 a1, .float .f64 a2, .float .f64 a3, .float .f64 a4, .float .f64 a5]] w fun r w' => r = .returned (.bool true) ∧ Below w.heap.size w w' := by
  have M := Lib.hid ((Own.nil w).made #[.float .f64 a0, .float .f64 a1, .float .f64 a2, .float .f64 a3, .float .f64 a4, .float .f64 a5] 28)
  have eqF := eq_floats
  go_enter Try.func6, Try.ntmps6
  obtain ⟨k1, k2, k3, k4, k5, k6⟩ := (M.out.nth 0 rfl).six
  go_wp2_with fail
  refine (c1.out _).mono ?_
  rintro r w1_ ⟨rfl, hb⟩
  replace M := Lib.hid (M.out.below hb)
  clear hb
  clear k1 k2 k3 k4 k5 k6
  replace M := Lib.hid (M.out.made #[.float .f64 0, .float .f64 0, .float .f64 0] 51)
  obtain ⟨k1, k2, k3, k4, k5, k6⟩ := (M.out.nth 1 rfl).six
  go_wp2_with fail
  refine (c2.out _).mono ?_
  rintro r w2_ ⟨rfl, hb⟩
  replace M := Lib.hid (M.out.below hb)
  clear hb
  clear k1 k2 k3 k4 k5 k6
  obtain ⟨k1, k2, k3, k4, k5, k6⟩ := (M.out.nth 1 rfl).six
  go_wp2_with fail
  refine (c3.out _).mono ?_
  rintro r w3_ ⟨rfl, hb⟩
  replace M := Lib.hid (M.out.below hb)
  clear hb
  clear k1 k2 k3 k4 k5 k6
  obtain ⟨k1, k2, k3, k4, k5, k6⟩ := (M.out.nth 1 rfl).six
  go_wp2_with fail
  refine (c4.out _).mono ?_
  rintro r w4_ ⟨rfl, hb⟩
  replace M := Lib.hid (M.out.below hb)
  clear hb
  clear k1 k2 k3 k4 k5 k6
  obtain ⟨k1, k2, k3⟩ := (M.out.nth 0 rfl).three
  go_wp2_with fail
  refine (c5.out _).mono ?_
  rintro r w5_ ⟨rfl, hb⟩
  replace M := Lib.hid (M.out.below hb)
  clear hb
  clear k1 k2 k3
  go_wp2
  go_ret
  exact ⟨rfl, M.out.base⟩
end
section
open Go.RowKit
attribute [local go_sem] run_store_float

section
variable {a c : Res}
theorem lcheck2_ok (i : In a unI) (j : In c unI) (q : Nat) (v : World) (h : Has1 v (q, #[.float .f64 a.lo, .float .f64 a.hi, .float .f64 c.lo, .float .f64 c.hi])) :
    Calls Try.prog 54 #[.slice (some ⟨q, 0, none⟩) 2 2] v fun r w' => r = .returned (.int .i64 0) ∧ Below v.heap.size v w' :=
  lcheck2_walk q a.lo a.hi c.lo c.hi true true false false false false v h (Lib.hid (right_in i.fit)) (Lib.hid (right_in j.fit)) (lt_in i un_fit) (gt_in i un_fit) (lt_in j un_fit) (gt_in j un_fit)
theorem cap_any (i : In a unI) (j : In c unI) (w : World) : Calls Try.prog 9 #[.agg #[.float .f64 a.lo, .float .f64 a.hi], .agg #[.float .f64 c.lo, .float .f64 c.hi]] w fun r w' => r = .returned (.tuple #[.agg #[.float .f64 (capR a c).lo, .float .f64 (capR a c).hi], .int .i64 0]) ∧ Below w.heap.size w w' :=
  cap_walk a.lo a.hi c.lo c.hi _ _ 0 w (Lib.hid fun p q s v hp hq hs => computed_cap a.lo a.hi c.lo c.hi _ _ 0 p q s v hp hq (Lib.hid fun u hb => lcheck2_ok i j s u (hs.below hb))
    (Lib.hid fun pb u hC hP hQ n m => capLit_walk a.lo a.hi c.lo c.hi (sqrR c).lo (sqrR c).hi (subR (oneR u1) (sqrR c)).lo (subR (oneR u1) (sqrR c)).hi (capR a c).lo (capR a c).hi 0 0 0 pb p q u hC hP hQ n m
      (Lib.hid fun pb => calc_num u1_fit pb) (Lib.hid fun pb => calc_sqr j.fit (sqr_fit1 j) pb) (Lib.hid fun pb => calc_sub u1_fit (sqr_fit1 j) (left_fit j) pb) (Lib.hid fun pb => calc_mul i.fit (left_fit j) (cap_fit i j) pb)))
end
end
end Go.Proofs.Ytnaomilkgfkegaa
