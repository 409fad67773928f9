/- The statement DirParts: down of a quotient is the greatest number that is not above it, and likewise of a product. No conditions. -/
import Derived.Test.YtoiaefgpegiieaaGreatKDivR
import Derived.Test.YtoiaefgpegiieaaGreatKNext
namespace Go.Proofs.YtoiaefgpegiieaaGreat
open Go.RowKit

theorem right_0 : rightB 0 = true := by decide
theorem pos_sgn {a : Nat} (ha : a < 18446744073709551616) (ra : rightB a = true) (h : 0 ≤ val a) : sgnB a = false := by
  cases hc : sgnB a
  · rfl
  · have := (val_neg a ha ra).2 hc; omega

theorem Up.above {s : Nat} {T : Int} {c : Nat} {e : Int} (h : Up s T c e) {a : Nat} (hT : val a * (s : Int) < T) : (e = 0 ∧ c < 18446744073709551616 ∧ rightB c = true ∧ val a < val c) ∨ e = 10 := by
  rcases h with ⟨h1, h2, h3, h4, _⟩ | ⟨h1, _, _⟩
  · refine Or.inl ⟨h1, h2, h3, ?_⟩
    rcases Int.lt_or_le (val a) (val c) with g | g
    · exact g
    · have := Int.mul_le_mul_of_nonneg_right g (Int.natCast_nonneg s); omega
  · exact Or.inr h1

end Go.Proofs.YtoiaefgpegiieaaGreat
