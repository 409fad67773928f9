
/- Plain mathematics of layer 1: rounding as the chapter says it: the greatest number that is not above, the least one that is not below. Numbers are counted in least steps ('val'); the real one is T / s. -/
import Derived.Test.YtdppppaoflhgdaaRnd
namespace Go.Proofs.Ytdppppaoflhgdaa
open Go.RowKit

/-- The word of a sign and a rung; 0 has no sign. -/
def sw (neg : Bool) (r : Nat) : Nat := if neg && r != 0 then 9223372036854775808 + r else r

theorem sw_false (r : Nat) : sw false r = r := rfl
theorem sw_true (r : Nat) (h : r ≠ 0) : sw true r = 9223372036854775808 + r := by
  unfold sw; rw [if_pos (by simp [h])]
theorem sw_zero (neg : Bool) : sw neg 0 = 0 := by cases neg <;> rfl

theorem sw_facts (neg : Bool) (r : Nat) (h : r ≤ 9218868437227405311) : sw neg r < 18446744073709551616 ∧ rightB (sw neg r) = true ∧ val (sw neg r) = if neg then -(steps r : Int) else (steps r : Int) := by
  have z0 : steps 0 = 0 := rfl
  cases neg
  · rw [sw_false]
    have hs : sgnB r = false := by unfold sgnB; exact decide_eq_false (by omega)
    have hr : rung r = r := by unfold rung; omega
    refine ⟨by omega, ?_, ?_⟩
    · unfold rightB
      rw [decide_eq_true (by omega : r % 9223372036854775808 < 9218868437227405312), decide_eq_false (by omega : ¬ r = 9223372036854775808)]; rfl
    · unfold val; rw [hs, hr]
  · by_cases h0 : r = 0
    · subst h0; rw [sw_zero]
      exact ⟨by decide, by decide, by rw [val_0, z0]; rfl⟩
    · rw [sw_true r h0]
      have hs : sgnB (9223372036854775808 + r) = true := by unfold sgnB; exact decide_eq_true (by omega)
      have hr : rung (9223372036854775808 + r) = r := by unfold rung; omega
      refine ⟨by omega, ?_, ?_⟩
      · unfold rightB
        rw [decide_eq_true (by omega : (9223372036854775808 + r) % 9223372036854775808 < 9218868437227405312), decide_eq_false (by omega : ¬ 9223372036854775808 + r = 9223372036854775808)]; rfl
      · unfold val; rw [hs, hr]

/-- The greatest number that is not above T / s; there is none: the error 10, and 0. -/
def Down (s : Nat) (T : Int) (c : Nat) (e : Int) : Prop :=
  (e = 0 ∧ c < 18446744073709551616 ∧ rightB c = true ∧ val c * (s : Int) ≤ T ∧ ∀ d, d < 18446744073709551616 → rightB d = true → val d * (s : Int) ≤ T → val d ≤ val c) ∨
  (e = 10 ∧ c = 0 ∧ ∀ d, d < 18446744073709551616 → rightB d = true → T < val d * (s : Int))
/-- The least number that is not below T / s. -/
def Up (s : Nat) (T : Int) (c : Nat) (e : Int) : Prop :=
  (e = 0 ∧ c < 18446744073709551616 ∧ rightB c = true ∧ T ≤ val c * (s : Int) ∧ ∀ d, d < 18446744073709551616 → rightB d = true → T ≤ val d * (s : Int) → val c ≤ val d) ∨
  (e = 10 ∧ c = 0 ∧ ∀ d, d < 18446744073709551616 → rightB d = true → val d * (s : Int) < T)

theorem val_pos {d : Nat} (h : sgnB d = false) : val d = (steps (rung d) : Int) := by unfold val; rw [h]; rfl
theorem val_negs {d : Nat} (h : sgnB d = true) : val d = -(steps (rung d) : Int) := by unfold val; rw [h]; rfl

theorem cast_le (a s b : Nat) : (a : Int) * (s : Int) ≤ (b : Int) ↔ a * s ≤ b := by rw [← Int.natCast_mul]; exact Int.ofNat_le
theorem le_cast (a s b : Nat) : (b : Int) ≤ (a : Int) * (s : Int) ↔ b ≤ a * s := by rw [← Int.natCast_mul]; exact Int.ofNat_le
theorem neg_cast_le (a s b : Nat) : -(a : Int) * (s : Int) ≤ -(b : Int) ↔ b ≤ a * s := by rw [Int.neg_mul, Int.neg_le_neg_iff]; exact le_cast a s b
theorem le_neg_cast (a s b : Nat) : -(b : Int) ≤ -(a : Int) * (s : Int) ↔ a * s ≤ b := by rw [Int.neg_mul, Int.neg_le_neg_iff]; exact cast_le a s b

theorem rung_max {d : Nat} (h : rightB d = true) : rung d ≤ 9218868437227405311 := by have := right_rung d h; omega

theorem floor_pos (s Tm b : Nat) (hF : ∀ r, steps r * s ≤ Tm ↔ r ≤ b) : Down s Tm (sw false (min b 9218868437227405311)) 0 := by
  obtain ⟨f1, f2, f3⟩ := sw_facts false (min b 9218868437227405311) (Nat.min_le_right _ _)
  have f3' : val (sw false (min b 9218868437227405311)) = (steps (min b 9218868437227405311) : Int) := f3
  refine Or.inl ⟨rfl, f1, f2, ?_, fun d _ hr hd => ?_⟩
  · rw [f3', cast_le]; exact (hF _).2 (Nat.min_le_left _ _)
  · rw [f3']
    cases hc : sgnB d
    · rw [val_pos hc] at hd ⊢
      rw [cast_le] at hd
      exact Int.ofNat_le.2 (steps_le (Nat.le_min.2 ⟨(hF _).1 hd, rung_max hr⟩))
    · rw [val_negs hc]; omega

theorem floor_neg (s Tm b : Nat) (hF : ∀ r, steps r * s ≤ Tm ↔ r ≤ b) : Up s (-(Tm : Int)) (sw true (min b 9218868437227405311)) 0 := by
  obtain ⟨f1, f2, f3⟩ := sw_facts true (min b 9218868437227405311) (Nat.min_le_right _ _)
  have f3' : val (sw true (min b 9218868437227405311)) = -(steps (min b 9218868437227405311) : Int) := f3
  refine Or.inl ⟨rfl, f1, f2, ?_, fun d _ hr hd => ?_⟩
  · rw [f3', le_neg_cast]; exact (hF _).2 (Nat.min_le_left _ _)
  · rw [f3']
    cases hc : sgnB d
    · rw [val_pos hc]; omega
    · rw [val_negs hc] at hd ⊢
      rw [le_neg_cast] at hd
      have := steps_le (Nat.le_min.2 ⟨(hF _).1 hd, rung_max hr⟩)
      omega

theorem neg_rung {d : Nat} (hd : d < 18446744073709551616) (hr : rightB d = true) (hc : sgnB d = true) : 0 < steps (rung d) := by
  have h := (val_neg d hd hr).2 hc
  rw [val_negs hc] at h
  omega

theorem ceil_pos (s Tm b : Nat) (hs : 0 < s) (hG : ∀ r, Tm ≤ steps r * s ↔ b ≤ r) (hb : b ≤ 9218868437227405311) : Up s Tm (sw false b) 0 := by
  obtain ⟨f1, f2, f3⟩ := sw_facts false b hb
  have f3' : val (sw false b) = (steps b : Int) := f3
  refine Or.inl ⟨rfl, f1, f2, ?_, fun d hd1 hr hd => ?_⟩
  · rw [f3', le_cast]; exact (hG _).2 (Nat.le_refl _)
  · rw [f3']
    cases hc : sgnB d
    · rw [val_pos hc] at hd ⊢
      rw [le_cast] at hd
      exact Int.ofNat_le.2 (steps_le ((hG _).1 hd))
    · exfalso
      have hp := Nat.mul_pos (neg_rung hd1 hr hc) hs
      rw [val_negs hc, Int.neg_mul, ← Int.natCast_mul] at hd
      omega

theorem ceil_neg (s Tm b : Nat) (hs : 0 < s) (hG : ∀ r, Tm ≤ steps r * s ↔ b ≤ r) (hb : b ≤ 9218868437227405311) : Down s (-(Tm : Int)) (sw true b) 0 := by
  obtain ⟨f1, f2, f3⟩ := sw_facts true b hb
  have f3' : val (sw true b) = -(steps b : Int) := f3
  refine Or.inl ⟨rfl, f1, f2, ?_, fun d hd1 hr hd => ?_⟩
  · rw [f3', neg_cast_le]; exact (hG _).2 (Nat.le_refl _)
  · rw [f3']
    cases hc : sgnB d
    · rw [val_pos hc] at hd ⊢
      have h0 : Tm = 0 ∧ steps (rung d) * s = 0 := by rw [← Int.natCast_mul] at hd; omega
      have hb0 : b = 0 := by
        have := (hG 0).1 (by rw [h0.1]; exact Nat.zero_le _); omega
      have hz : steps (rung d) = 0 := by
        rcases Nat.mul_eq_zero.1 h0.2 with h | h
        · exact h
        · omega
      rw [hb0, hz]; decide
    · rw [val_negs hc] at hd ⊢
      rw [neg_cast_le] at hd
      have := steps_le ((hG _).1 hd)
      omega

theorem none_pos (s Tm b : Nat) (hG : ∀ r, Tm ≤ steps r * s ↔ b ≤ r) (hb : 9218868437227405311 < b) : Up s Tm 0 10 := by
  refine Or.inr ⟨rfl, rfl, fun d _ hr => ?_⟩
  have hm := rung_max hr
  have h1 : ¬ Tm ≤ steps (rung d) * s := fun h => by have := (hG _).1 h; omega
  cases hc : sgnB d
  · rw [val_pos hc, ← Int.natCast_mul]; omega
  · rw [val_negs hc, Int.neg_mul, ← Int.natCast_mul]; omega

theorem none_neg (s Tm b : Nat) (hG : ∀ r, Tm ≤ steps r * s ↔ b ≤ r) (hb : 9218868437227405311 < b) : Down s (-(Tm : Int)) 0 10 := by
  refine Or.inr ⟨rfl, rfl, fun d _ hr => ?_⟩
  have hm := rung_max hr
  have h1 : ¬ Tm ≤ steps (rung d) * s := fun h => by have := (hG _).1 h; omega
  cases hc : sgnB d
  · rw [val_pos hc, ← Int.natCast_mul]; omega
  · rw [val_negs hc, Int.neg_mul, ← Int.natCast_mul]; omega

theorem pack_floor (neg : Bool) (b : Nat) : packW neg b false = sw neg (min b 9218868437227405311) ∧ packE b false = 0 := by
  refine ⟨?_, (packE_ok b false (by simp)).symm⟩
  unfold packW
  by_cases h : 9218868437227405312 ≤ b
  · rw [if_pos h, Nat.min_eq_right (by omega)]
    cases neg
    · rfl
    · exact (sw_true 9218868437227405311 (by decide)).symm
  · rw [if_neg h, Nat.min_eq_left (by omega)]; rfl

theorem pack_ceil (neg : Bool) (b : Nat) (h : b ≤ 9218868437227405311) : packW neg b true = sw neg b ∧ packE b true = 0 := by
  refine ⟨?_, (packE_ok b true (by omega)).symm⟩
  unfold packW
  rw [if_neg (by omega)]; rfl

/-- What is signed. -/
def sg (neg : Bool) (T : Nat) : Int := if neg then -(T : Int) else (T : Int)

/-- What is rounded, whatever real number its words stand for. -/
theorem round_real (neg : Bool) (W : Nat) (x : Int) (up : Bool) (s Tm : Nat) (hs : 0 < s) (hW : W < 340282366920938463463374607431768211456) (hx : -5000 ≤ x)
    (hF : ∀ r, steps r * s ≤ Tm ↔ steps r * 2 ^ sc ≤ real W x) (hG : ∀ r, Tm ≤ steps r * s ↔ real W x ≤ steps r * 2 ^ sc) :
    (up = false → Down s (sg neg Tm) (roundW neg W x up) (roundE neg W x up)) ∧ (up = true → Up s (sg neg Tm) (roundW neg W x up) (roundE neg W x up)) := by
  have hp : 0 < 2 ^ sc := Nat.two_pow_pos _
  by_cases h0 : W = 0
  · subst h0
    have hr0 : real 0 x = 0 := Nat.zero_mul _
    rw [hr0] at hF hG
    have hF' : ∀ r, steps r * s ≤ Tm ↔ r ≤ 0 := fun r => by
      rw [hF r, Nat.le_zero, Nat.mul_eq_zero, Nat.le_zero]
      constructor
      · rintro (h | h)
        · exact (steps_zero r).1 h
        · omega
      · intro h; exact Or.inl ((steps_zero r).2 h)
    have hG' : ∀ r, Tm ≤ steps r * s ↔ 0 ≤ r := fun r => by rw [hG r]; exact ⟨fun _ => Nat.zero_le _, fun _ => Nat.zero_le _⟩
    have e1 : roundW neg 0 x up = 0 := if_pos rfl
    have e2 : roundE neg 0 x up = 0 := if_pos rfl
    rw [e1, e2]
    have a1 := floor_pos s Tm 0 hF'
    have a2 := floor_neg s Tm 0 hF'
    have a3 := ceil_pos s Tm 0 hs hG' (by decide)
    have a4 := ceil_neg s Tm 0 hs hG' (by decide)
    rw [Nat.zero_min, sw_zero] at a1 a2
    rw [sw_zero] at a3 a4
    cases neg
    · exact ⟨fun _ => a1, fun _ => a3⟩
    · exact ⟨fun _ => a4, fun _ => a2⟩
  · have hF' : ∀ r, steps r * s ≤ Tm ↔ r ≤ rungOf W x false := fun r => (hF r).trans (rung_floor W x h0 hW hx r)
    have hG' : ∀ r, Tm ≤ steps r * s ↔ rungOf W x true ≤ r := fun r => (hG r).trans (rung_ceil W x h0 hW hx r)
    have e1 : roundW neg W x up = packW neg (rungOf W x (up != neg)) (up != neg) := if_neg h0
    have e2 : roundE neg W x up = packE (rungOf W x (up != neg)) (up != neg) := if_neg h0
    rw [e1, e2]
    cases neg <;> cases up
    · obtain ⟨p1, p2⟩ := pack_floor false (rungOf W x false)
      refine ⟨fun _ => ?_, fun h => by cases h⟩
      show Down s Tm (packW false (rungOf W x false) false) (packE (rungOf W x false) false)
      rw [p1, p2]; exact floor_pos s Tm _ hF'
    · refine ⟨fun h => (by cases h), fun _ => ?_⟩
      show Up s Tm (packW false (rungOf W x true) true) (packE (rungOf W x true) true)
      by_cases hb : rungOf W x true ≤ 9218868437227405311
      · obtain ⟨p1, p2⟩ := pack_ceil false _ hb
        rw [p1, p2]; exact ceil_pos s Tm _ hs hG' hb
      · obtain ⟨p1, p2⟩ := pack_over false (rungOf W x true) (by omega)
        rw [← p1, ← p2]; exact none_pos s Tm _ hG' (by omega)
    · refine ⟨fun _ => ?_, fun h => by cases h⟩
      show Down s (-(Tm : Int)) (packW true (rungOf W x true) true) (packE (rungOf W x true) true)
      by_cases hb : rungOf W x true ≤ 9218868437227405311
      · obtain ⟨p1, p2⟩ := pack_ceil true _ hb
        rw [p1, p2]; exact ceil_neg s Tm _ hs hG' hb
      · obtain ⟨p1, p2⟩ := pack_over true (rungOf W x true) (by omega)
        rw [← p1, ← p2]; exact none_neg s Tm _ hG' (by omega)
    · obtain ⟨p1, p2⟩ := pack_floor true (rungOf W x false)
      refine ⟨fun h => (by cases h), fun _ => ?_⟩
      show Up s (-(Tm : Int)) (packW true (rungOf W x false) false) (packE (rungOf W x false) false)
      rw [p1, p2]; exact floor_neg s Tm _ hF'

end Go.Proofs.Ytdppppaoflhgdaa
