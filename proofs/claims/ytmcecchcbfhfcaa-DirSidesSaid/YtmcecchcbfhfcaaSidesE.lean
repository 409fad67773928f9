
/- The law DirSides answers true, for any two words. -/
import Derived.Test.YtmcecchcbfhfcaaSidesD
namespace Go.Proofs.Ytmcecchcbfhfcaa
open Go.RowKit

set_option maxRecDepth 100000 in
set_option maxHeartbeats 1000000 in
theorem sides_bad (a b : Nat) (w : World) (la : a < 18446744073709551616) (lb : b < 18446744073709551616) (h : (rightB a && rightB b) = false) :
    Calls Try.prog 4 #[.float .f64 a, .float .f64 b] w fun r w' => r = .returned (.bool true) ∧ Below w.heap.size w w' := by
  have cA := Lib.hid (fun w => right_any a w la)
  have cB := Lib.hid (fun w => right_any b w lb)
  have M := Lib.hid (Mem.two w #[.float .f64 a] #[.float .f64 b] 22 22)
  clear la lb
  cases hr : rightB a
  · rw [hr] at cA
    clear h hr
    go_enter Try.func4, Try.ntmps4
    go_wp2_with fail
    refine (cA.out _).mono ?_
    rintro r w1 ⟨rfl, rfl⟩
    go_wp2_with fail
    refine (awake_any _).mono ?_
    rintro r w2 ⟨rfl, hb⟩
    have B := Lib.hid (M.out.below hb).base
    clear hb
    go_wp2
    go_ret
    exact ⟨rfl, B.out⟩
  · rw [hr, Bool.true_and] at h
    rw [hr] at cA
    rw [h] at cB
    clear h hr
    go_enter Try.func4, Try.ntmps4
    go_wp2_with fail
    refine (cA.out _).mono ?_
    rintro r w1 ⟨rfl, rfl⟩
    go_wp2_with fail
    refine (cB.out _).mono ?_
    rintro r w1 ⟨rfl, rfl⟩
    go_wp2_with fail
    refine (awake_any _).mono ?_
    rintro r w2 ⟨rfl, hb⟩
    have B := Lib.hid (M.out.below hb).base
    clear hb
    go_wp2
    go_ret
    exact ⟨rfl, B.out⟩

theorem sides_any (a b : Nat) (w : World) (la : a < 18446744073709551616) (lb : b < 18446744073709551616) :
    Calls Try.prog 4 #[.float .f64 a, .float .f64 b] w fun r w' => r = .returned (.bool true) ∧ Below w.heap.size w w' := by
  cases h : (rightB a && rightB b)
  · exact sides_bad a b w la lb h
  · obtain ⟨ra, rb⟩ : rightB a = true ∧ rightB b = true := by simpa using h
    exact sides_walk a b w la lb ra rb

end Go.Proofs.Ytmcecchcbfhfcaa
