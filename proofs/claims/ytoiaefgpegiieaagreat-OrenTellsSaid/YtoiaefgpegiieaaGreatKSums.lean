/- The statement DirSums: down of a sum is the greatest number that is not above it. No conditions. -/
import Derived.Test.YtoiaefgpegiieaaGreatKAddM
import Derived.Test.YtoiaefgpegiieaaGreatKDirG
import Derived.Test.YtoiaefgpegiieaaGreatKLdexp
namespace Go.Proofs.YtoiaefgpegiieaaGreat
open Go.RowKit

theorem order_gt (a b : Nat) (ha : a < 18446744073709551616) (hb : b < 18446744073709551616) (ra : rightB a = true) (rb : rightB b = true) : (FloatKind.f64.format.order a b == some Ordering.gt) = decide (val b < val a) := by
  rw [order_val a b ha hb (right_rung a ra) (right_rung b rb)]
  rcases Int.lt_trichotomy (val a) (val b) with g | g | g
  · rw [Int.compare_eq_lt.2 g, decide_eq_false (by omega)]; rfl
  · rw [Int.compare_eq_eq.2 g, decide_eq_false (by omega)]; rfl
  · rw [Int.compare_eq_gt.2 g, decide_eq_true g]; rfl

theorem Down.ok {s : Nat} {T : Int} {c : Nat} (h : Down s T c 0) : c < 18446744073709551616 ∧ rightB c = true ∧ val c * (s : Int) ≤ T ∧ ∀ d, d < 18446744073709551616 → rightB d = true → val d * (s : Int) ≤ T → val d ≤ val c := by
  rcases h with ⟨_, h⟩ | ⟨h, _⟩
  · exact h
  · omega
theorem Up.ok {s : Nat} {T : Int} {c : Nat} (h : Up s T c 0) : c < 18446744073709551616 ∧ rightB c = true ∧ T ≤ val c * (s : Int) ∧ ∀ d, d < 18446744073709551616 → rightB d = true → T ≤ val d * (s : Int) → val c ≤ val d := by
  rcases h with ⟨_, h⟩ | ⟨h, _⟩
  · exact h
  · omega

end Go.Proofs.YtoiaefgpegiieaaGreat
