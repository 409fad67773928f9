
/- Contracts that the law DirSides calls: turned, math.Sqrt, and its five function literals. -/
import Derived.Test.YtmcecchcbfhfcaaFair
import Derived.Test.YtmcecchcbfhfcaaPartsW
namespace Go.Proofs.Ytmcecchcbfhfcaa
open Go.RowKit

theorem xor_top (b : Nat) (h : b < 9223372036854775808) : b ^^^ 2 ^ 63 = 2 ^ 63 + b := by
  apply Nat.eq_of_testBit_eq
  intro i
  rw [Nat.testBit_xor]
  rcases Nat.lt_trichotomy i 63 with g | g | g
  · rw [Nat.testBit_two_pow_add_gt g, Nat.testBit_two_pow_of_ne (by omega), Bool.xor_false]
  · subst g
    rw [Nat.testBit_two_pow_add_eq, Nat.testBit_two_pow_self, Bool.xor_true]
  · have h1 : 2 ^ 64 ≤ 2 ^ i := Nat.pow_le_pow_right (by decide) g
    have h2 : b.testBit i = false := Nat.testBit_lt_two_pow (Nat.lt_of_lt_of_le (by omega) h1)
    have h3 : (2 ^ 63 + b).testBit i = false := Nat.testBit_lt_two_pow (Nat.lt_of_lt_of_le (by omega) h1)
    rw [h2, h3, Nat.testBit_two_pow_of_ne (by omega)]
    rfl

theorem neg_word (a : Nat) (ha : a < 18446744073709551616) (h0 : a ≠ 0) : Op.unary .neg (.float .f64 a) = pure (.float .f64 (turnW a)) := by
  have h : Op.negFloat .f64 a = turnW a := by
    have e : Op.negFloat .f64 a = a ^^^ 2 ^ 63 := rfl
    rw [e]
    unfold turnW
    rw [if_neg h0]
    by_cases h1 : a < 9223372036854775808
    · rw [if_pos h1, xor_top a h1]; omega
    · rw [if_neg h1]
      obtain ⟨b, hb⟩ : ∃ b, b = a - 9223372036854775808 := ⟨_, rfl⟩
      have hx := xor_top b (by omega)
      have ea : a = b ^^^ 2 ^ 63 := by rw [hx]; omega
      rw [← hb]
      rw [ea, Nat.xor_assoc, Nat.xor_self, Nat.xor_zero]
  show pure (Value.float .f64 (Op.negFloat .f64 a)) = _
  rw [h]

theorem turned_any (a : Nat) (w : World) (ha : a < 18446744073709551616) (ra : rightB a = true) :
    Calls Try.prog 35 #[.float .f64 a] w fun r w' => r = .returned (.float .f64 (turnW a)) ∧ w = w' := by
  by_cases h0 : a = 0
  · have o := order_zero a ha ra
    rw [decide_eq_true h0] at o
    have ht : turnW a = 0 := if_pos h0
    rw [ht]
    go_enter Try.func35, Try.ntmps35
    go_wp2
    go_ret
    exact ⟨rfl, rfl⟩
  · have o := order_zero a ha ra
    rw [decide_eq_false h0] at o
    have hn := neg_word a ha h0
    go_enter Try.func35, Try.ntmps35
    go_wp2
    go_ret
    exact ⟨rfl, rfl⟩

theorem run_root (a r : Nat) (h : FloatKind.f64.format.sqrt a = some r) (w : World) : (callFunc 99 #[.float .f64 a]).run Try.prog w = .ok (.value (.float .f64 r)) w := by
  rw [run_callFunc_extern (e := Extern.MathSqrt.sqrt) Try.func99 (by kernel_rfl) (by kernel_rfl) (by kernel_rfl) (by kernel_rfl)]
  have e : Extern.MathSqrt.sqrt #[.float .f64 a] = (match FloatKind.f64.format.sqrt a with
    | some r => pure (.float .f64 r)
    | none => do pure (.float .f64 (← choose (.nanBits .f64 a a)))) := rfl
  rw [e, h]
  rfl

/-- Of a number that has no root: some word. -/
theorem run_noroot (a : Nat) (h : FloatKind.f64.format.sqrt a = none) (w : World) : ∃ r n, (callFunc 99 #[.float .f64 a]).run Try.prog w = .ok (.value (.float .f64 r)) (w.drewN n) := by
  rw [run_callFunc_extern (e := Extern.MathSqrt.sqrt) Try.func99 (by kernel_rfl) (by kernel_rfl) (by kernel_rfl) (by kernel_rfl)]
  have e : Extern.MathSqrt.sqrt #[.float .f64 a] = (match FloatKind.f64.format.sqrt a with
    | some r => pure (.float .f64 r)
    | none => do pure (.float .f64 (← choose (.nanBits .f64 a a)))) := rfl
  rw [e, h]
  by_cases hf : (Question.nanBits .f64 a a).forced = true
  · refine ⟨0, 0, ?_⟩
    simp [hf]
    rfl
  · refine ⟨(Question.nanBits .f64 a a).cut (w.tape w.drawn (.nanBits .f64 a a)), 1, ?_⟩
    simp [hf]
    rfl

theorem root_neg (digits m : Nat) (i : Int) (hm : m ≠ 0) : Ieee.Datum.root digits (.number true m i) = none := by
  unfold Ieee.Datum.root
  simp only [if_neg hm, if_pos]

theorem sqrt_none (a : Nat) (ha : a < 18446744073709551616) (ra : rightB a = true) (sa : sgnB a = true) : FloatKind.f64.format.sqrt a = none := by
  have hm : mant a ≠ 0 := by
    intro h
    have := neg_rung ha ra sa
    rw [steps_parts, h, Nat.zero_mul] at this
    omega
  rw [fmt64]
  unfold Ieee.Format.sqrt
  rw [read_num a ha (right_rung a ra), sa, root_neg _ _ _ hm, Option.map_none]

theorem sqrt_call_none (a : Nat) (h : FloatKind.f64.format.sqrt a = none) (w : World) :
    Calls Try.prog 28 #[.float .f64 a] w fun e w' => ∃ r n, e = .returned (.float .f64 r) ∧ w' = w.drewN n := by
  obtain ⟨r, n, h1⟩ := run_noroot a h w
  go_enter Try.func28, Try.ntmps28
  go_wp2
  go_ret
  exact ⟨r, n, rfl, rfl⟩

theorem quo_inf (digits m : Nat) (s t : Bool) (i j : Int) (hm : m ≠ 0) : Ieee.Datum.quotient digits (.number s m i) (.number t 0 j) = some (.infinity (s ^^ t)) := by
  unfold Ieee.Datum.quotient
  simp only [if_pos, if_neg hm]

theorem quo_nil (a : Nat) (ha : a < 18446744073709551616) (ra : rightB a = true) (h0 : a ≠ 0) : ∃ r, floatBits .quo .f64 a 0 = some r := by
  have hm : mant a ≠ 0 := by
    intro h
    have h2 : steps (rung a) = 0 := by rw [steps_parts, h, Nat.zero_mul]
    have := (steps_zero _).1 h2
    have := right_ne a ra
    unfold rung at *
    omega
  have e0 : mant 0 = 0 := by decide
  refine ⟨Ieee.double.write (.infinity (sgnB a ^^ sgnB 0)), ?_⟩
  show ((Ieee.double.read a).quotient (Ieee.double.fractionBits + 2) (Ieee.double.read 0)).map Ieee.double.write = _
  rw [read_num a ha (right_rung a ra), read_num 0 (by decide) (by decide), e0, quo_inf _ _ _ _ _ _ hm, Option.map_some]

theorem quo_none : floatBits .quo .f64 0 0 = none := by decide +kernel

theorem run_quo_none (t : TypeId) (w : World) : ∃ r n, (binOp .quo t (.float .f64 0) (.float .f64 0)).run Try.prog w = .ok (.float .f64 r) (w.drewN n) := by
  have h : Ieee.Format.div FloatKind.f64.format 0 0 = none := quo_none
  by_cases hf : (Question.nanBits .f64 0 0).forced = true
  · refine ⟨0, 0, ?_⟩
    simp [binOp, Op.floatArith, h, hf]
    rfl
  · refine ⟨(Question.nanBits .f64 0 0).cut (w.tape w.drawn (.nanBits .f64 0 0)), 1, ?_⟩
    simp [binOp, Op.floatArith, h, hf]
    rfl

theorem sqrt_call (a r : Nat) (h : FloatKind.f64.format.sqrt a = some r) (w : World) :
    Calls Try.prog 28 #[.float .f64 a] w fun e w' => e = .returned (.float .f64 r) ∧ w = w' := by
  have h1 := run_root a r h
  go_enter Try.func28, Try.ntmps28
  go_wp2
  go_ret
  exact ⟨rfl, rfl⟩

theorem clo_add (a b : Nat) (up : Bool) (p q : Nat) (w : World) (ha : a < 18446744073709551616) (hb : b < 18446744073709551616) (hp : w.cell? ⟨p, 0, none⟩ = some (.float .f64 a)) (hq : w.cell? ⟨q, 0, none⟩ = some (.float .f64 b)) :
    Calls Try.prog 29 #[.bool up, .pointer (some ⟨p, 0, none⟩), .pointer (some ⟨q, 0, none⟩)] w fun r w' => r = .returned (.tuple #[.float .f64 (addW a b up), .int .i64 (addE a b up)]) ∧ Below w.heap.size w w' := by
  have c := Lib.hid (fun w => add_any a b up w ha hb)
  go_enter Try.func29, Try.ntmps29
  go_wp2_with fail
  refine (c.out _).mono ?_
  rintro r w1 ⟨rfl, h1⟩
  have H1 := Lib.hid h1; clear h1
  go_wp2
  go_ret2
  exact ⟨rfl, H1.out⟩

theorem clo_sub (a b : Nat) (up : Bool) (p q : Nat) (w : World) (ha : a < 18446744073709551616) (hb : b < 18446744073709551616) (hp : w.cell? ⟨p, 0, none⟩ = some (.float .f64 a)) (hq : w.cell? ⟨q, 0, none⟩ = some (.float .f64 b)) :
    Calls Try.prog 30 #[.bool up, .pointer (some ⟨p, 0, none⟩), .pointer (some ⟨q, 0, none⟩)] w fun r w' => r = .returned (.tuple #[.float .f64 (subW a b up), .int .i64 (subE a b up)]) ∧ Below w.heap.size w w' := by
  have c := Lib.hid (fun w => sub_any a b up w ha hb)
  go_enter Try.func30, Try.ntmps30
  go_wp2_with fail
  refine (c.out _).mono ?_
  rintro r w1 ⟨rfl, h1⟩
  have H1 := Lib.hid h1; clear h1
  go_wp2
  go_ret2
  exact ⟨rfl, H1.out⟩

theorem clo_mul (a b : Nat) (up : Bool) (p q : Nat) (w : World) (ha : a < 18446744073709551616) (hb : b < 18446744073709551616) (hp : w.cell? ⟨p, 0, none⟩ = some (.float .f64 a)) (hq : w.cell? ⟨q, 0, none⟩ = some (.float .f64 b)) :
    Calls Try.prog 31 #[.bool up, .pointer (some ⟨p, 0, none⟩), .pointer (some ⟨q, 0, none⟩)] w fun r w' => r = .returned (.tuple #[.float .f64 (mulW a b up), .int .i64 (mulE a b up)]) ∧ Below w.heap.size w w' := by
  have c := Lib.hid (fun w => mul_any a b up w ha hb)
  go_enter Try.func31, Try.ntmps31
  go_wp2_with fail
  refine (c.out _).mono ?_
  rintro r w1 ⟨rfl, h1⟩
  have H1 := Lib.hid h1; clear h1
  go_wp2
  go_ret2
  exact ⟨rfl, H1.out⟩

theorem clo_div (a b : Nat) (up : Bool) (p q : Nat) (w : World) (ha : a < 18446744073709551616) (hb : b < 18446744073709551616) (hp : w.cell? ⟨p, 0, none⟩ = some (.float .f64 a)) (hq : w.cell? ⟨q, 0, none⟩ = some (.float .f64 b)) :
    Calls Try.prog 32 #[.bool up, .pointer (some ⟨p, 0, none⟩), .pointer (some ⟨q, 0, none⟩)] w fun r w' => r = .returned (.tuple #[.float .f64 (divW a b up), .int .i64 (divE a b up)]) ∧ Below w.heap.size w w' := by
  have c := Lib.hid (fun w => div_any a b up w ha hb)
  go_enter Try.func32, Try.ntmps32
  go_wp2_with fail
  refine (c.out _).mono ?_
  rintro r w1 ⟨rfl, h1⟩
  have H1 := Lib.hid h1; clear h1
  go_wp2
  go_ret2
  exact ⟨rfl, H1.out⟩

theorem clo_sqrt (a : Nat) (up : Bool) (p : Nat) (w : World) (ha : a < 18446744073709551616) (hp : w.cell? ⟨p, 0, none⟩ = some (.float .f64 a)) :
    Calls Try.prog 33 #[.bool up, .pointer (some ⟨p, 0, none⟩)] w fun r w' => r = .returned (.tuple #[.float .f64 (sqrtW a up), .int .i64 (sqrtE a up)]) ∧ Below w.heap.size w w' := by
  have c := Lib.hid (fun w => sqrt_any a up w ha)
  go_enter Try.func33, Try.ntmps33
  go_wp2_with fail
  refine (c.out _).mono ?_
  rintro r w1 ⟨rfl, h1⟩
  have H1 := Lib.hid h1; clear h1
  go_wp2
  go_ret2
  exact ⟨rfl, H1.out⟩

end Go.Proofs.Ytmcecchcbfhfcaa
