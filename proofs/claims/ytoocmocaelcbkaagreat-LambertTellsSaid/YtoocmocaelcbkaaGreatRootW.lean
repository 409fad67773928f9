
/- What wholeRoot and root of package dir answer, and Sqrt. -/
import Derived.Test.YtoocmocaelcbkaaGreatDirF
import Derived.Test.YtoocmocaelcbkaaGreatRootM
import Derived.Test.YtoocmocaelcbkaaGreatFloat
namespace Go.Proofs.YtoocmocaelcbkaaGreat
open Go.RowKit

/-- What wholeRoot answers: the whole root. -/
def SomeRoot (W : Nat) (w : World) (e : Ending) (w' : World) : Prop := ∃ r : Nat, e = .returned (.int .u64 r) ∧ Above W r ∧ r * r ≤ W ∧ Below w.heap.size w w'

/-- Is something left of a root? -/
def restR (W : Nat) : Nat := if Nat.sqrt W * Nat.sqrt W = W then 0 else 1

theorem root_is {x r : Nat} (h : Above (x * 18446744073709551616) r) (hsq : r * r ≤ x * 18446744073709551616) :
    r = Nat.sqrt (x * 18446744073709551616) ∧ ((hiW (r * r) : Int) == (x : Int) && (loW (r * r) : Int) == 0) = decide (restR (x * 18446744073709551616) = 0) ∧ r < 18446744073709551616 := by
  have e1 := Nat.sqrt_le (x * 18446744073709551616)
  have e2 := Nat.lt_succ_sqrt (x * 18446744073709551616)
  have e3 := h.above
  have h3 := h.hi
  have a1 : r < Nat.sqrt (x * 18446744073709551616) + 1 := sq_lt (Nat.lt_of_le_of_lt hsq e2)
  have a2 : Nat.sqrt (x * 18446744073709551616) < r + 1 := sq_lt (Nat.lt_of_le_of_lt e1 e3)
  have hr : r = Nat.sqrt (x * 18446744073709551616) := by omega
  refine ⟨hr, ?_, by omega⟩
  unfold restR
  rw [← hr]
  have hl := hi_lo (r * r)
  have hlt := lo_lt (r * r)
  by_cases c : r * r = x * 18446744073709551616
  · rw [if_pos c]
    have : hiW (r * r) = x ∧ loW (r * r) = 0 := by omega
    simp [this.1, this.2]
  · rw [if_neg c]
    rw [show decide (1 = 0) = false from rfl, Bool.and_eq_false_iff, beq_eq_false_iff_ne, beq_eq_false_iff_ne]
    omega

end Go.Proofs.YtoocmocaelcbkaaGreat
