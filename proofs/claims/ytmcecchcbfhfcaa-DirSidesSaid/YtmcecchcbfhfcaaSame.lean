
/- Law file 1's and 2's Same, for all words. -/
import Derived.Test.YtmcecchcbfhfcaaDirA
import Derived.Test.YtmcecchcbfhfcaaPut
namespace Go.Proofs.Ytmcecchcbfhfcaa
open Go.RowKit
attribute [local go_sem] run_store_float

/-- The same words. -/
def sameB (a b c d : Nat) : Bool := decide (a = c) && decide (b = d)

theorem same_any (a b : Nat) (w : World) :
    Calls Try.prog 20 #[.float .f64 a, .float .f64 b] w fun r w' => r = .returned (.bool (decide (a = b))) ∧ w = w' := by
  have hb := run_bits
  have e : ((a : Int) == (b : Int)) = decide (a = b) := by
    by_cases h : a = b
    · rw [decide_eq_true h, beq_iff_eq]; omega
    · rw [decide_eq_false h, beq_eq_false_iff_ne]; omega
  have E := Lib.hid e
  clear e
  go_enter Try.func20, Try.ntmps20
  go_wp2
  go_ret
  exact ⟨by rw [← E.out]; rfl, rfl⟩

set_option maxHeartbeats 400000 in
theorem ivSame_any (a b c d : Nat) (w : World) :
    Calls Try.prog 38 #[.agg #[.float .f64 a, .float .f64 b], .agg #[.float .f64 c, .float .f64 d]] w fun r w' => r = .returned (.bool (sameB a b c d)) ∧ Below w.heap.size w w' := by
  have c1 := Lib.hid (fun w => same_any a c w)
  have c2 := Lib.hid (fun w => same_any b d w)
  cases h : decide (a = c)
  · have E := Lib.hid (show sameB a b c d = false by unfold sameB; rw [h]; rfl)
    rw [h] at c1
    clear h
    go_enter Try.func38, Try.ntmps38
    go_wp2_with fail
    refine (c1.out _).mono ?_
    rintro r w1 ⟨rfl, rfl⟩
    go_wp2
    go_ret
    exact ⟨by rw [E.out]; rfl, bel2 _ _ _⟩
  · have E := Lib.hid (show sameB a b c d = decide (b = d) by unfold sameB; rw [h]; rfl)
    rw [h] at c1
    clear h
    go_enter Try.func38, Try.ntmps38
    go_wp2_with fail
    refine (c1.out _).mono ?_
    rintro r w1 ⟨rfl, rfl⟩
    go_wp2_with fail
    refine (c2.out _).mono ?_
    rintro r w1 ⟨rfl, rfl⟩
    go_wp2
    go_ret
    exact ⟨by rw [E.out]; rfl, bel2 _ _ _⟩

end Go.Proofs.Ytmcecchcbfhfcaa
