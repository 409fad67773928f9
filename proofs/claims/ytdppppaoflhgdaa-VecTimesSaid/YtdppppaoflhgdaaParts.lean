
/- The statement DirParts: down of a quotient is the greatest number that is not above it, and likewise of a product. No conditions. -/
import Derived.Test.YtdppppaoflhgdaaDivR
import Derived.Test.YtdppppaoflhgdaaNext
namespace Go.Proofs.Ytdppppaoflhgdaa
open Go.RowKit

theorem right_0 : rightB 0 = true := by decide
theorem pos_sgn {a : Nat} (ha : a < 18446744073709551616) (ra : rightB a = true) (h : 0 ≤ val a) : sgnB a = false := by
  cases hc : sgnB a
  · rfl
  · have := (val_neg a ha ra).2 hc; omega

theorem Down.nonneg {s : Nat} {T : Int} {c : Nat} {e : Int} (h : Down s T c e) (hT : 0 ≤ T) : e = 0 ∧ c < 18446744073709551616 ∧ rightB c = true ∧ val c * (s : Int) ≤ T ∧ 0 ≤ val c ∧ ∀ d, d < 18446744073709551616 → rightB d = true → val d * (s : Int) ≤ T → val d ≤ val c := by
  rcases h with ⟨h1, h2, h3, h4, h5⟩ | ⟨_, _, h3⟩
  · have := h5 0 (by decide) right_0 (by rw [val_0, Int.zero_mul]; exact hT)
    rw [val_0] at this
    exact ⟨h1, h2, h3, h4, this, h5⟩
  · have := h3 0 (by decide) right_0
    rw [val_0, Int.zero_mul] at this
    omega
theorem Up.upto {s : Nat} {T : Int} {c : Nat} {e : Int} (h : Up s T c e) {a : Nat} (ha : a < 18446744073709551616) (ra : rightB a = true) (hT : T ≤ val a * (s : Int)) : e = 0 ∧ c < 18446744073709551616 ∧ rightB c = true ∧ val c ≤ val a := by
  rcases h with ⟨h1, h2, h3, _, h5⟩ | ⟨_, _, h3⟩
  · exact ⟨h1, h2, h3, h5 a ha ra hT⟩
  · have := h3 a ha ra; omega
theorem Up.above {s : Nat} {T : Int} {c : Nat} {e : Int} (h : Up s T c e) {a : Nat} (hT : val a * (s : Int) < T) : (e = 0 ∧ c < 18446744073709551616 ∧ rightB c = true ∧ val a < val c) ∨ e = 10 := by
  rcases h with ⟨h1, h2, h3, h4, _⟩ | ⟨h1, _, _⟩
  · refine Or.inl ⟨h1, h2, h3, ?_⟩
    rcases Int.lt_or_le (val a) (val c) with g | g
    · exact g
    · have := Int.mul_le_mul_of_nonneg_right g (Int.natCast_nonneg s); omega
  · exact Or.inr h1

/-- What Div of numbers above 0 rounds, by values. -/
theorem div_val (a b : Nat) (ha : a < 18446744073709551616) (hb : b < 18446744073709551616) (ra : rightB a = true) (rb : rightB b = true) (pa : 0 ≤ val a) (pb : 0 < val b) :
    ((steps (rung b) : Nat) : Int) = val b ∧ Down (steps (rung b)) (val a * ((2 ^ sq : Nat) : Int)) (divW a b false) (divE a b false) ∧ Up (steps (rung b)) (val a * ((2 ^ sq : Nat) : Int)) (divW a b true) (divE a b true) := by
  have sa := pos_sgn ha ra pa
  have sb := pos_sgn hb rb (by omega)
  have hb0 : b ≠ 0 := fun h => by rw [h, val_0] at pb; omega
  have e : sg (!(sgnB a == sgnB b)) (steps (rung a) * 2 ^ sq) = val a * ((2 ^ sq : Nat) : Int) := by
    rw [sa, sb, val_pos sa, ← Int.natCast_mul]; rfl
  have h1 := (div_dir a b ra rb hb hb0 false).1 rfl
  have h2 := (div_dir a b ra rb hb hb0 true).2 rfl
  rw [e] at h1 h2
  exact ⟨(val_pos sb).symm, h1, h2⟩

theorem le_fact (a b : Nat) (ha : a < 18446744073709551616) (hb : b < 18446744073709551616) (ra : rightB a = true) (rb : rightB b = true) : ((FloatKind.f64.format.order a b == some Ordering.lt) || (FloatKind.f64.format.order a b == some Ordering.eq)) = decide (val a ≤ val b) := by
  rw [order_lt a b ha hb ra rb, order_eq a b ha hb ra rb]
  by_cases h : val a ≤ val b
  · rw [decide_eq_true h, Bool.or_eq_true, decide_eq_true_eq, decide_eq_true_eq]; omega
  · rw [decide_eq_false h, Bool.or_eq_false_iff, decide_eq_false_iff_not, decide_eq_false_iff_not]; omega

/-- The quotient's half. -/
theorem parts_div (a b : Nat) (ha : a < 18446744073709551616) (hb : b < 18446744073709551616) (ra : rightB a = true) (rb : rightB b = true) (pa : 0 < val a) (pb : 0 < val b) :
    divE a b false = 0 ∧ divW a b false < 18446744073709551616 ∧ rightB (divW a b false) = true ∧
    (val (divW a b false) < val 9218868437227405311 → addE (divW a b false) 1 true = 0 ∧ addW (divW a b false) 1 true < 18446744073709551616 ∧
      mulE (divW a b false) b true = 0 ∧ (FloatKind.f64.format.order (mulW (divW a b false) b true) a == some Ordering.gt) = false ∧
      ((mulE (addW (divW a b false) 1 true) b true = 0 ∧ ((FloatKind.f64.format.order (mulW (addW (divW a b false) 1 true) b true) a == some Ordering.lt) || (FloatKind.f64.format.order (mulW (addW (divW a b false) 1 true) b true) a == some Ordering.eq)) = false) ∨ mulE (addW (divW a b false) 1 true) b true = 10)) := by
  obtain ⟨eb, hd, _⟩ := div_val a b ha hb ra rb (by omega) pb
  have hS : (0 : Int) < ((2 ^ sq : Nat) : Int) := by have := Nat.two_pow_pos sq; omega
  obtain ⟨d1, d2, d3, d4, d5, d6⟩ := hd.nonneg (Int.mul_nonneg (by omega) (by omega))
  rw [eb] at d4
  refine ⟨d1, d2, d3, fun hlt => ?_⟩
  rcases next_up (divW a b false) d3 with ⟨n1, n2, n3, n4, _⟩ | ⟨_, n2⟩
  · have hm := (mul_dir (divW a b false) b d3 rb true).2 rfl
    obtain ⟨m1, m2, m3, m4⟩ := hm.upto ha ra d4
    have hn := (mul_dir (addW (divW a b false) 1 true) b n3 rb true).2 rfl
    have hgt : val a * ((2 ^ sq : Nat) : Int) < val (addW (divW a b false) 1 true) * val b := by
      rcases Int.lt_or_le (val a * ((2 ^ sq : Nat) : Int)) (val (addW (divW a b false) 1 true) * val b) with g | g
      · exact g
      · have := d6 _ n2 n3 (by rw [eb]; exact g); omega
    refine ⟨n1, n2, m1, by rw [order_gt _ _ m2 ha m3 ra]; exact decide_eq_false (by omega), ?_⟩
    rcases hn.above hgt with ⟨u1, u2, u3, u4⟩ | u1
    · exact Or.inl ⟨u1, by rw [le_fact _ _ u2 ha u3 ra]; exact decide_eq_false (by omega)⟩
    · exact Or.inr u1
  · have := n2 9218868437227405311 (by decide) right_max; omega

/-- The product's half. -/
theorem parts_mul (a b : Nat) (ha : a < 18446744073709551616) (hb : b < 18446744073709551616) (ra : rightB a = true) (rb : rightB b = true) (pa : 0 < val a) (pb : 0 < val b) :
    mulE a b false = 0 ∧ mulW a b false < 18446744073709551616 ∧ rightB (mulW a b false) = true ∧
    (val (mulW a b false) ≠ val 9218868437227405311 → addE (mulW a b false) 1 true = 0 ∧ addW (mulW a b false) 1 true < 18446744073709551616 ∧
      divE (mulW a b false) b true = 0 ∧ ((FloatKind.f64.format.order (divW (mulW a b false) b true) a == some Ordering.lt) || (FloatKind.f64.format.order (divW (mulW a b false) b true) a == some Ordering.eq)) = true ∧
      ((divE (addW (mulW a b false) 1 true) b true = 0 ∧ (FloatKind.f64.format.order (divW (addW (mulW a b false) 1 true) b true) a == some Ordering.gt) = true) ∨ divE (addW (mulW a b false) 1 true) b true = 10)) := by
  have hd := (mul_dir a b ra rb false).1 rfl
  have hS : (0 : Int) < ((2 ^ sq : Nat) : Int) := by have := Nat.two_pow_pos sq; omega
  obtain ⟨d1, d2, d3, d4, d5, d6⟩ := hd.nonneg (Int.mul_nonneg (by omega) (by omega))
  refine ⟨d1, d2, d3, fun hlt => ?_⟩
  have hmx := val_max _ d3
  rcases next_up (mulW a b false) d3 with ⟨n1, n2, n3, n4, _⟩ | ⟨_, n2⟩
  · obtain ⟨eb, _, hm⟩ := div_val (mulW a b false) b d2 hb d3 rb d5 pb
    obtain ⟨m1, m2, m3, m4⟩ := hm.upto ha ra (by rw [eb]; exact d4)
    obtain ⟨_, _, hn⟩ := div_val (addW (mulW a b false) 1 true) b n2 hb n3 rb (by omega) pb
    have hgt : val a * ((steps (rung b) : Nat) : Int) < val (addW (mulW a b false) 1 true) * ((2 ^ sq : Nat) : Int) := by
      rw [eb]
      rcases Int.lt_or_le (val a * val b) (val (addW (mulW a b false) 1 true) * ((2 ^ sq : Nat) : Int)) with g | g
      · exact g
      · have := d6 _ n2 n3 g; omega
    refine ⟨n1, n2, m1, by rw [le_fact _ _ m2 ha m3 ra]; exact decide_eq_true m4, ?_⟩
    rcases hn.above hgt with ⟨u1, u2, u3, u4⟩ | u1
    · exact Or.inl ⟨u1, by rw [order_gt _ _ u2 ha u3 ra]; exact decide_eq_true u4⟩
    · exact Or.inr u1
  · have := n2 9218868437227405311 (by decide) right_max; omega

end Go.Proofs.Ytdppppaoflhgdaa
