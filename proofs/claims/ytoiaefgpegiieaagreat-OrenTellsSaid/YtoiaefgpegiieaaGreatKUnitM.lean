/- Plain mathematics of layer 3: whole numbers as words, exact products, words as whole numbers; a draw's two ends; a weight's bound; what is left of a draw. No program is named here. -/
import Derived.Test.YtoiaefgpegiieaaGreatKNearD
import Derived.Test.YtoiaefgpegiieaaGreatKNext
import Derived.Laws.FloatArith
import Derived.Laws.Cover2
namespace Go.Proofs.YtoiaefgpegiieaaGreat
open Go.RowKit

theorem num_at (m k : Nat) (hm : m < 9007199254740992) (h1 : 53 ≤ k) (h2 : k ≤ 1900) : ∃ r, r < 9218868437227405312 ∧ steps r = m * 2 ^ k := by
  by_cases h0 : m = 0
  · subst h0; exact ⟨0, by decide, by rw [Nat.zero_mul]; rfl⟩
  · have l1 : 2 ^ m.log2 ≤ m := Nat.log2_self_le h0
    have l2 : m < 2 ^ (m.log2 + 1) := Nat.lt_log2_self
    have e53 : (9007199254740992 : Nat) = 2 ^ 53 := by decide
    have e52 : (4503599627370496 : Nat) = 2 ^ 52 := by decide
    have hl : m.log2 < 53 := (Nat.pow_lt_pow_iff_right (by decide : 1 < 2)).1 (by omega)
    obtain ⟨j, hj⟩ : ∃ j, j = 52 - m.log2 := ⟨_, rfl⟩
    have b1 : m * 2 ^ j < 9007199254740992 := by
      have h := Nat.mul_lt_mul_of_pos_right l2 (Nat.two_pow_pos j)
      rw [← Nat.pow_add, show m.log2 + 1 + j = 53 by omega] at h
      omega
    have b2 : 4503599627370496 ≤ m * 2 ^ j := by
      have h := Nat.mul_le_mul_right (2 ^ j) l1
      rw [← Nat.pow_add, show m.log2 + j = 52 by omega] at h
      omega
    refine ⟨(k - j) * 4503599627370496 + m * 2 ^ j, by omega, ?_⟩
    rw [steps_km _ _ (by omega) (Or.inr b2), Nat.mul_assoc, ← Nat.pow_add]
    congr 2; omega

theorem pos_facts (c : Nat) (h : c < 9218868437227405312) : c < 18446744073709551616 ∧ rightB c = true ∧ sgnB c = false ∧ rung c = c ∧ val c = (steps c : Int) := by
  obtain ⟨f1, f2, f3⟩ := sw_facts false c (by omega)
  rw [sw_false] at f1 f2 f3
  refine ⟨f1, f2, ?_, ?_, f3⟩
  · unfold sgnB; exact decide_eq_false (by omega)
  · unfold rung; omega

theorem pos_word (c : Nat) (hc : c < 18446744073709551616) (rc : rightB c = true) (h : 0 ≤ val c) : c < 9218868437227405312 := by
  have h1 := right_rung c rc
  have h2 : sgnB c ≠ true := fun h' => by have := (val_neg c hc rc).2 h'; omega
  have h3 : ¬ 9223372036854775808 ≤ c := fun h' => h2 (by unfold sgnB; exact decide_eq_true h')
  unfold rung at h1
  omega

theorem from_int (n : Nat) (h : n < 9007199254740992) : FloatKind.f64.nearest (n : Int) < 9218868437227405312 ∧ steps (FloatKind.f64.nearest (n : Int)) = n * 2 ^ sq := by
  by_cases h0 : n = 0
  · subst h0
    have e : FloatKind.f64.nearest ((0 : Nat) : Int) = 0 := by decide +kernel
    rw [e, Nat.zero_mul]; exact ⟨by decide, rfl⟩
  · have e : FloatKind.f64.nearest (n : Int) = Ieee.double.nearest false n 0 := by
      unfold FloatKind.nearest FloatKind.encode Ieee.Format.write
      rw [fmt64]
      have : decide ((n : Int) < 0) = false := decide_eq_false (by omega)
      simp only [this, Int.natAbs_natCast]
    have hq := sq_eq
    have hs := sc_eq
    obtain ⟨R, r1, r2, r3⟩ := near_rung false n 0 h0 (by omega)
    obtain ⟨r, hr, hv⟩ := num_at n sq h (by omega) (by omega)
    have er : real n 0 = steps r * 2 ^ sc := by
      unfold real
      rw [hv, Nat.mul_assoc, ← Nat.pow_add]
      congr 2
    have q1 := r2 r (by rw [er]; exact Nat.le_refl _)
    have q2 := r3 r (by rw [er]; exact Nat.le_refl _)
    have hR : R = r := by omega
    rw [e, r1, hR, Nat.min_eq_left (by omega)]
    exact ⟨hr, hv⟩

theorem Down.exact {s : Nat} {T : Int} {x c : Nat} {e : Int} (hd : Down s T x e) (hs : 0 < s) (hc : c < 9218868437227405312) (h : val c * (s : Int) = T) : e = 0 ∧ x = c := by
  obtain ⟨c1, c2, _, _, _⟩ := pos_facts c hc
  rcases hd with ⟨he, x1, x2, x3, x4⟩ | ⟨_, _, g⟩
  · have hp : (0 : Int) < (s : Int) := by omega
    have h1 := x4 c c1 c2 (by omega)
    have h2 : val x ≤ val c := Int.le_of_mul_le_mul_right (by omega : val x * (s : Int) ≤ val c * (s : Int)) hp
    exact ⟨he, val_inj x1 c1 x2 c2 (by omega)⟩
  · have := g c c1 c2; omega

def dr : Nat := 1010
end Go.Proofs.YtoiaefgpegiieaaGreat
