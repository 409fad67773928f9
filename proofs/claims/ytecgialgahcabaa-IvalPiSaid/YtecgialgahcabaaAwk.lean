/- Law file 2's small functions: Same, iv; and what the chapter's examples of ival come to. -/
import Derived.Test.YtecgialgahcabaaIvJ
import Derived.Test.YtecgialgahcabaaMem
import Derived.Test.YtecgialgahcabaaAwakeB
namespace Go.Proofs.Ytecgialgahcabaa
open Go.RowKit
attribute [local go_sem] run_store_float

/-- The same words. -/
def sameB (a b c d : Nat) : Bool := decide (a = c) && decide (b = d)

theorem same_any (a b : Nat) (w : World) :
    Calls Try.prog 22 #[.float .f64 a, .float .f64 b] w fun r w' => r = .returned (.bool (decide (a = b))) ∧ w = w' := by
  have hb := run_bits
  have e : ((a : Int) == (b : Int)) = decide (a = b) := by
    by_cases h : a = b
    · rw [decide_eq_true h, beq_iff_eq]; omega
    · rw [decide_eq_false h, beq_eq_false_iff_ne]; omega
  have E := Lib.hid e
  clear e
  go_enter Try.func22, Try.ntmps22
  go_wp2
  go_ret
  exact ⟨by rw [← E.out]; rfl, rfl⟩

set_option maxHeartbeats 400000 in
theorem ivSame_any (a b c d : Nat) (w : World) :
    Calls Try.prog 44 #[.agg #[.float .f64 a, .float .f64 b], .agg #[.float .f64 c, .float .f64 d]] w fun r w' => r = .returned (.bool (sameB a b c d)) ∧ Below w.heap.size w w' := by
  have c1 := Lib.hid (fun w => same_any a c w)
  have c2 := Lib.hid (fun w => same_any b d w)
  cases h : decide (a = c)
  · have E := Lib.hid (show sameB a b c d = false by unfold sameB; rw [h]; rfl)
    rw [h] at c1
    clear h
    go_enter Try.func44, Try.ntmps44
    go_wp2_with fail
    refine (c1.out _).mono ?_
    rintro r w1 ⟨rfl, rfl⟩
    go_wp2
    go_ret
    exact ⟨by rw [E.out]; rfl, bel2 _ _ _⟩
  · have E := Lib.hid (show sameB a b c d = decide (b = d) by unfold sameB; rw [h]; rfl)
    rw [h] at c1
    clear h
    go_enter Try.func44, Try.ntmps44
    go_wp2_with fail
    refine (c1.out _).mono ?_
    rintro r w1 ⟨rfl, rfl⟩
    go_wp2_with fail
    refine (c2.out _).mono ?_
    rintro r w1 ⟨rfl, rfl⟩
    go_wp2
    go_ret
    exact ⟨by rw [E.out]; rfl, bel2 _ _ _⟩

theorem iv_any (a b : Nat) (w : World) :
    Calls Try.prog 48 #[.float .f64 a, .float .f64 b] w fun r w' => r = .returned (.agg #[.float .f64 a, .float .f64 b]) ∧ Below w.heap.size w w' := by
  go_enter Try.func48, Try.ntmps48
  go_wp2
  exact bodyPost_ret (v := .agg #[.float .f64 a, .float .f64 b]) (by simp [results, Try.results48, go_sem]) rfl ⟨rfl, bel1 _ _⟩

theorem res_eq {r : Res} {e : Int} {lo hi : Nat} (h : r.e = e ∧ r.lo = lo ∧ r.hi = hi) : r = ⟨e, lo, hi⟩ := by
  cases r; simp at h; simp [h]

theorem x_num1 : stepI 0 true (ofI 4607182418800017408) = ⟨0, 4607182418800017408, 4607182418800017408⟩ := res_eq (by decide +kernel)
theorem x_num3 : stepI 0 true (ofI 4613937818241073152) = ⟨0, 4613937818241073152, 4613937818241073152⟩ := res_eq (by decide +kernel)
theorem x_div : stepI 0 (ivR 4607182418800017408 4607182418800017408 && ivR 4613937818241073152 4613937818241073152) (divI 4607182418800017408 4607182418800017408 4613937818241073152 4613937818241073152) = ⟨0, 4599676419421066581, 4599676419421066582⟩ := res_eq (by decide +kernel)
theorem x_add : stepI 0 (ivR 4607182418800017408 4611686018427387904 && ivR 4613937818241073152 4616189618054758400) (addI 4607182418800017408 4611686018427387904 4613937818241073152 4616189618054758400) = ⟨0, 4616189618054758400, 4618441417868443648⟩ := res_eq (by decide +kernel)
theorem x_mul : stepI 0 (ivR 13830554455654793216 4611686018427387904 && ivR 13837309855095848960 4616189618054758400) (mulI 13830554455654793216 4611686018427387904 13837309855095848960 4616189618054758400) = ⟨0, 13841813454723219456, 4620693217682128896⟩ := res_eq (by decide +kernel)
theorem x_sqr : stepI 0 (ivR 13835058055282163712 4607182418800017408) (sqrI 13835058055282163712 4607182418800017408) = ⟨0, 0, 4616189618054758400⟩ := res_eq (by decide +kernel)
theorem x_div0 : stepI 0 (ivR 4607182418800017408 4607182418800017408 && ivR 13830554455654793216 4607182418800017408) (divI 4607182418800017408 4607182418800017408 13830554455654793216 4607182418800017408) = ⟨11, 0, 0⟩ := res_eq (by decide +kernel)
theorem x_then : stepI 11 (ivR 4607182418800017408 4607182418800017408 && ivR 4607182418800017408 4607182418800017408) (addI 4607182418800017408 4607182418800017408 4607182418800017408 4607182418800017408) = ⟨11, 0, 0⟩ := res_eq (by decide +kernel)
theorem x_has : hasB 4599676419421066581 4599676419421066582 4599676419421066581 = true := by decide +kernel
theorem x_meet1 : bothB 0 4611686018427387904 4607182418800017408 4613937818241073152 = true ∧ meetLo 0 4611686018427387904 4607182418800017408 4613937818241073152 = 4607182418800017408 ∧ meetHi 0 4611686018427387904 4607182418800017408 4613937818241073152 = 4611686018427387904 := by decide +kernel
theorem x_meet2 : bothB 0 4607182418800017408 4611686018427387904 4613937818241073152 = false ∧ meetLo 0 4607182418800017408 4611686018427387904 4613937818241073152 = 0 ∧ meetHi 0 4607182418800017408 4611686018427387904 4613937818241073152 = 0 := by decide +kernel

end Go.Proofs.Ytecgialgahcabaa
