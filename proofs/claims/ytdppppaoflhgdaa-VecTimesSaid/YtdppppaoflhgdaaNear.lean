
/- Plain mathematics of layer 1: the nearest sum, difference, product is what is rounded down, or what is rounded up. -/
import Derived.Test.YtdppppaoflhgdaaIeee
import Derived.Test.YtdppppaoflhgdaaParts
import Derived.Laws.FloatArith
namespace Go.Proofs.Ytdppppaoflhgdaa
open Go.RowKit

/-- A word that stands for what is rounded down, or for what is rounded up. -/
def Beside (s : Nat) (T : Int) (r : Nat) : Prop := ∀ x y, Down s T x 0 → Up s T y 0 → r < 18446744073709551616 ∧ rung r < 9218868437227405312 ∧ (val r = val x ∨ val r = val y)

theorem word_sw (neg : Bool) (R : Nat) (h : R < 9218868437227405312) : Ieee.double.word neg (min R 9218868437227405312) < 18446744073709551616 ∧ rung (Ieee.double.word neg (min R 9218868437227405312)) = R ∧ val (Ieee.double.word neg (min R 9218868437227405312)) = sg neg (steps R) := by
  rw [Nat.min_eq_left (by omega)]
  unfold Ieee.Format.word
  rw [sw64]
  cases neg
  · have hs : sgnB R = false := by unfold sgnB; exact decide_eq_false (by omega)
    have hr : rung R = R := by unfold rung; omega
    refine ⟨by simp; omega, by simpa using hr, ?_⟩
    show val R = (steps R : Int)
    unfold val; rw [hs, hr]; rfl
  · have hs : sgnB (9223372036854775808 + R) = true := by unfold sgnB; exact decide_eq_true (by omega)
    have hr : rung (9223372036854775808 + R) = R := by unfold rung; omega
    refine ⟨by simp; omega, by simpa using hr, ?_⟩
    show val (9223372036854775808 + R) = -(steps R : Int)
    unfold val; rw [hs, hr]; rfl

theorem sg_nonneg (T : Nat) : (0 : Int) ≤ sg false T := Int.natCast_nonneg T
theorem sg_nonpos (T : Nat) : sg true T ≤ (0 : Int) := by have : (0 : Int) ≤ (T : Int) := Int.natCast_nonneg T; show -(T : Int) ≤ 0; omega

/-- Between the two there is no other number. -/
theorem beside_of (neg : Bool) (s Tm R : Nat) (hs : 0 < s) (h1 : ∀ r, steps r * s ≤ Tm → r ≤ R) (h2 : ∀ r, Tm ≤ steps r * s → R ≤ r) :
    Beside s (sg neg Tm) (Ieee.double.word neg (min R 9218868437227405312)) := by
  intro x y hx hy
  obtain ⟨x1, x2, x3, x4⟩ := hx.ok
  obtain ⟨y1, y2, y3, y4⟩ := hy.ok
  cases neg
  · have e : sg false Tm = (Tm : Int) := rfl
    rw [e] at x3 x4 y3 y4
    have px : 0 ≤ val x := by
      have := x4 0 (by decide) right_0 (by rw [val_0, Int.zero_mul]; exact Int.natCast_nonneg _)
      rw [val_0] at this; exact this
    have sx := pos_sgn x1 x2 px
    have py : 0 ≤ val y := by
      rcases Int.lt_or_le (val y) 0 with g | g
      · have : val y * (s : Int) < 0 := Int.mul_neg_of_neg_of_pos g (by omega)
        have := Int.natCast_nonneg Tm; omega
      · exact g
    have sy := pos_sgn y1 y2 py
    rw [val_pos sx, cast_le] at x3
    rw [val_pos sy, le_cast] at y3
    have hRy := h2 _ y3
    have hRx := h1 _ x3
    have hRm : R < 9218868437227405312 := by have := right_rung y y2; omega
    obtain ⟨w1, w2, w3⟩ := word_sw false R hRm
    refine ⟨w1, by rw [w2]; exact hRm, ?_⟩
    have w3' : val (Ieee.double.word false (min R 9218868437227405312)) = (steps R : Int) := w3
    obtain ⟨f1, f2, f3⟩ := sw_facts false R (by omega)
    rw [sw_false] at f1 f2 f3
    have f3' : val R = (steps R : Int) := f3
    rw [w3', ← f3']
    rcases Nat.le_total (steps R * s) Tm with g | g
    · left
      have a1 := x4 R f1 f2 (by rw [f3', cast_le]; exact g)
      have a2 := steps_le hRx
      rw [val_pos sx] at a1 ⊢; rw [f3'] at a1 ⊢; omega
    · right
      have a1 := y4 R f1 f2 (by rw [f3', le_cast]; exact g)
      have a2 := steps_le hRy
      rw [val_pos sy] at a1 ⊢; rw [f3'] at a1 ⊢; omega
  · have e : sg true Tm = -(Tm : Int) := rfl
    rw [e] at x3 x4 y3 y4
    have py : val y ≤ 0 := by
      have := y4 0 (by decide) right_0 (by rw [val_0, Int.zero_mul]; have := Int.natCast_nonneg Tm; omega)
      rw [val_0] at this; exact this
    have px : val x ≤ 0 := by
      rcases Int.lt_or_le 0 (val x) with g | g
      · have : 0 < val x * (s : Int) := Int.mul_pos g (by omega)
        have := Int.natCast_nonneg Tm; omega
      · exact g
    have ex : val x = -(steps (rung x) : Int) := by
      cases hc : sgnB x
      · have := val_pos hc; omega
      · exact val_negs hc
    have ey : val y = -(steps (rung y) : Int) := by
      cases hc : sgnB y
      · have := val_pos hc; omega
      · exact val_negs hc
    rw [ex, neg_cast_le] at x3
    rw [ey, le_neg_cast] at y3
    have hRx := h2 _ x3
    have hRy := h1 _ y3
    have hRm : R < 9218868437227405312 := by have := right_rung x x2; omega
    obtain ⟨w1, w2, w3⟩ := word_sw true R hRm
    refine ⟨w1, by rw [w2]; exact hRm, ?_⟩
    have w3' : val (Ieee.double.word true (min R 9218868437227405312)) = -(steps R : Int) := w3
    obtain ⟨f1, f2, f3⟩ := sw_facts true R (by omega)
    have f3' : val (sw true R) = -(steps R : Int) := f3
    rw [w3', ← f3']
    rcases Nat.le_total (steps R * s) Tm with g | g
    · right
      have a1 := y4 _ f1 f2 (by rw [f3', le_neg_cast]; exact g)
      have a2 := steps_le hRy
      rw [ey] at a1 ⊢; rw [f3'] at a1 ⊢; omega
    · left
      have a1 := x4 _ f1 f2 (by rw [f3', neg_cast_le]; exact g)
      have a2 := steps_le hRx
      rw [ex] at a1 ⊢; rw [f3'] at a1 ⊢; omega

/-- What is written of an exact number stands beside it. -/
theorem beside_near (neg : Bool) (mag : Nat) (place : Int) (s Tm : Nat) (hs : 0 < s) (hp : -6000 ≤ place)
    (hF : ∀ r, steps r * s ≤ Tm ↔ steps r * 2 ^ sc ≤ real mag place) (hG : ∀ r, Tm ≤ steps r * s ↔ real mag place ≤ steps r * 2 ^ sc) :
    Beside s (sg neg Tm) (Ieee.double.nearest neg mag place) := by
  by_cases h0 : mag = 0
  · subst h0
    have e : Ieee.double.nearest neg 0 place = Ieee.double.word neg (min 0 9218868437227405312) := by
      unfold Ieee.Format.nearest; rw [if_pos rfl]; rfl
    have hr : real 0 place = 0 := Nat.zero_mul _
    have hp2 := Nat.two_pow_pos sc
    rw [e]
    refine beside_of neg s Tm 0 hs (fun r h => ?_) (fun r _ => Nat.zero_le _)
    have := (hF r).1 h
    rw [hr, Nat.le_zero, Nat.mul_eq_zero] at this
    rcases this with g | g
    · rw [(steps_zero r).1 g]; exact Nat.le_refl _
    · omega
  · obtain ⟨R, e, h1, h2⟩ := near_rung neg mag place h0 hp
    rw [e]
    exact beside_of neg s Tm R hs (fun r h => h1 r ((hF r).1 h)) (fun r h => h2 r ((hG r).1 h))

theorem mul_beside (a b : Nat) (ha : a < 18446744073709551616) (hb : b < 18446744073709551616) (ra : rightB a = true) (rb : rightB b = true) :
    ∃ r, floatBits .mul .f64 a b = some r ∧ Beside (2 ^ sq) (val a * val b) r := by
  have xa := expo_in a ra
  have xb := expo_in b rb
  obtain ⟨h2, h3⟩ := mul_real a b xa.1 xb.1
  refine ⟨Ieee.double.nearest (sgnB a ^^ sgnB b) (mant a * mant b) (expo a + expo b), ?_, ?_⟩
  · show (((Ieee.double.read a).product (Ieee.double.read b)).map Ieee.double.write) = _
    rw [read_num a ha (right_rung a ra), read_num b hb (right_rung b rb)]
    rfl
  · have e : val a * val b = sg (sgnB a ^^ sgnB b) (steps (rung a) * steps (rung b)) := by
      rw [val_sg a, val_sg b, ← sg_mul]
      cases sgnB a <;> cases sgnB b <;> rfl
    rw [e]
    exact beside_near _ _ _ _ _ (Nat.two_pow_pos _) (by omega) h2 h3

/-- The exact sum of two parts. -/
theorem sum_beside (s t : Bool) (a b : Nat) (xa : -1074 ≤ expo a) (xb : -1074 ≤ expo b) :
    ∃ r, ((Ieee.Datum.number s (mant a) (expo a)).sum (.number t (mant b) (expo b))).map Ieee.double.write = some r ∧ Beside 1 (sg s (steps (rung a)) + sg t (steps (rung b))) r := by
  have hs := sc_eq
  obtain ⟨base, hbase⟩ : ∃ base : Int, base = min (expo a) (expo b) := ⟨_, rfl⟩
  obtain ⟨total, htot⟩ : ∃ total : Int, total = Ieee.signed s (mant a) (expo a - base).toNat + Ieee.signed t (mant b) (expo b - base).toNat := ⟨_, rfl⟩
  have e1 : sg s (steps (rung a)) = Ieee.signed s (mant a) (expo a - base).toNat * ((2 ^ (base + 1074).toNat : Nat) : Int) := by
    rw [← signed_mul, show (expo a - base).toNat + (base + 1074).toNat = (expo a + 1074).toNat by omega]
    unfold Ieee.signed sg; rw [steps_parts, Nat.shiftLeft_eq]
  have e2 : sg t (steps (rung b)) = Ieee.signed t (mant b) (expo b - base).toNat * ((2 ^ (base + 1074).toNat : Nat) : Int) := by
    rw [← signed_mul, show (expo b - base).toNat + (base + 1074).toNat = (expo b + 1074).toNat by omega]
    unfold Ieee.signed sg; rw [steps_parts, Nat.shiftLeft_eq]
  have eT : sg s (steps (rung a)) + sg t (steps (rung b)) = total * ((2 ^ (base + 1074).toNat : Nat) : Int) := by
    rw [e1, e2, htot, Int.add_mul]
  have hsame := same_scale 1 (total.natAbs * 2 ^ (base + 1074).toNat) (2 ^ sc) (real total.natAbs base) (Nat.two_pow_pos _) (Nat.one_mul _) (by
    unfold real; rw [Nat.mul_assoc, ← Nat.pow_add]; congr 2; omega)
  refine ⟨Ieee.double.nearest (if total = 0 then s && t else decide (total < 0)) total.natAbs base, ?_, ?_⟩
  · unfold Ieee.Datum.sum
    simp only [← hbase, ← htot]
    rfl
  · have eS : sg s (steps (rung a)) + sg t (steps (rung b)) = sg (if total = 0 then s && t else decide (total < 0)) (total.natAbs * 2 ^ (base + 1074).toNat) := by
      rw [eT]
      by_cases h0 : total = 0
      · rw [h0, if_pos rfl, Int.zero_mul]
        cases (s && t) <;> simp [sg]
      · rw [if_neg h0]
        by_cases h1 : total < 0
        · rw [decide_eq_true h1]
          show _ = -((total.natAbs * 2 ^ (base + 1074).toNat : Nat) : Int)
          rw [Int.natCast_mul, ← Int.neg_mul]; congr 1; omega
        · rw [decide_eq_false h1]
          show _ = ((total.natAbs * 2 ^ (base + 1074).toNat : Nat) : Int)
          rw [Int.natCast_mul]; congr 1; omega
    rw [eS]
    exact beside_near _ _ _ 1 _ (by decide) (by omega) hsame.1 hsame.2

theorem add_beside (a b : Nat) (ha : a < 18446744073709551616) (hb : b < 18446744073709551616) (ra : rightB a = true) (rb : rightB b = true) :
    ∃ r, floatBits .add .f64 a b = some r ∧ Beside 1 (val a + val b) r := by
  obtain ⟨r, h1, h2⟩ := sum_beside (sgnB a) (sgnB b) a b (expo_in a ra).1 (expo_in b rb).1
  refine ⟨r, ?_, h2⟩
  show ((Ieee.double.read a).sum (Ieee.double.read b)).map Ieee.double.write = _
  rw [read_num a ha (right_rung a ra), read_num b hb (right_rung b rb)]
  exact h1

theorem sub_beside (a b : Nat) (ha : a < 18446744073709551616) (hb : b < 18446744073709551616) (ra : rightB a = true) (rb : rightB b = true) :
    ∃ r, floatBits .sub .f64 a b = some r ∧ Beside 1 (val a - val b) r := by
  obtain ⟨r, h1, h2⟩ := sum_beside (sgnB a) (!sgnB b) a b (expo_in a ra).1 (expo_in b rb).1
  refine ⟨r, ?_, ?_⟩
  · show ((Ieee.double.read a).sum (Ieee.double.read b).opposite).map Ieee.double.write = _
    rw [read_num a ha (right_rung a ra), read_num b hb (right_rung b rb)]
    exact h1
  · rw [neg_sg, ← Int.sub_eq_add_neg] at h2
    exact h2

end Go.Proofs.Ytdppppaoflhgdaa
