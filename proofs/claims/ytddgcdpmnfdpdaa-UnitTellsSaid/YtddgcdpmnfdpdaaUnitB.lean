
/- Contracts of layer 3, for all arguments: choose, Half, Split; math.Ldexp of a number by a power of two; the examples' numbers. -/
import Derived.Test.YtddgcdpmnfdpdaaUnitA
import Derived.Test.YtddgcdpmnfdpdaaLdexp
import Derived.Test.YtddgcdpmnfdpdaaSums
namespace Go.Proofs.Ytddgcdpmnfdpdaa
open Go.RowKit

theorem neg_wrap (B : Nat) (h : B < 18446744073709551616) : IntKind.u64.wrap (-(B : Int)) = if B = 0 then 0 else ((18446744073709551616 - B : Nat) : Int) := by
  rw [IntKind.wrap_u64]
  by_cases h0 : B = 0
  · rw [if_pos h0]; omega
  · rw [if_neg h0]; omega

theorem choose_any (u B b : Nat) (w : World) (hu : u < 18446744073709551616) (hB : B ≤ 18446744073709551616) (hb : b = B % 18446744073709551616) :
    Calls Try.prog 95 #[.int .u64 u, .bool (decide (u < B)), .int .u64 b] w fun r w' => r = .returned (.tuple #[.bool (decide (u < B)), .int .u64 (leftN u B : Nat)]) ∧ Below w.heap.size w w' := by
  by_cases h : u < B
  · rw [decide_eq_true h]
    have hl : leftN u B = u * 18446744073709551616 / B := if_pos h
    by_cases hf : B = 18446744073709551616
    · have b0 : (b : Int) = 0 := by omega
      have hl' : leftN u B = u := by rw [hl, hf, Nat.mul_div_cancel _ (by decide)]
      rw [b0, hl']
      exact choose_low u 0 u w (Lib.hid (fun w pb pu h1 h2 => side_full true u 0 pb pu w h1 h2))
    · have hb' : b = B := by omega
      rw [hb', hl]
      exact choose_low u B _ w (Lib.hid (fun w pb pu h1 h2 => side_part true u 0 B pb pu w h1 h2 (Nat.zero_le _) (by omega) (by omega) hu))
  · rw [decide_eq_false h]
    have hl : leftN u B = (u - B) * 18446744073709551616 / (18446744073709551616 - B) := if_neg h
    have hb' : b = B := by omega
    have hn := neg_wrap B (by omega)
    by_cases h0 : B = 0
    · rw [if_pos h0] at hn
      have hl' : leftN u B = u := by rw [hl, h0, Nat.sub_zero, Nat.sub_zero, Nat.mul_div_cancel _ (by decide)]
      rw [hb', hl']
      exact choose_high u B 0 u w hn (Lib.hid (fun w pb pu h1 h2 => side_full false u B pb pu w h1 h2))
    · rw [if_neg h0] at hn
      rw [hb', hl]
      exact choose_high u B _ _ w hn (Lib.hid (fun w pb pu h1 h2 => side_part false u B (18446744073709551616 - B) pb pu w h1 h2 (by omega) (by omega) (by omega) hu))

theorem half_any (u : Nat) (w : World) (hu : u < 18446744073709551616) :
    Calls Try.prog 45 #[.int .u64 u] w fun r w' => r = .returned (.tuple #[.bool (decide (u < 9223372036854775808)), .int .u64 (leftN u 9223372036854775808 : Nat)]) ∧ Below w.heap.size w w' := by
  have c := fun w => choose_any u 9223372036854775808 9223372036854775808 w hu (by decide) (by decide)
  cases h : decide (u < 9223372036854775808)
  · rw [h] at c; exact half_high u _ w h (Lib.hid c)
  · rw [h] at c; exact half_low u _ w h (Lib.hid c)

/-- Is it a weight? -/
def wtB (v : Nat) : Bool := rightB v && decide (0 ≤ val v) && decide (val v ≤ ((2 ^ sq : Nat) : Int))
theorem wt_facts (v : Nat) (h : wtB v = true) : rightB v = true ∧ 0 ≤ val v ∧ val v ≤ ((2 ^ sq : Nat) : Int) := by
  unfold wtB at h
  rw [Bool.and_eq_true, Bool.and_eq_true, decide_eq_true_eq, decide_eq_true_eq] at h
  exact ⟨h.1.1, h.1.2, h.2⟩

theorem right_at (v : Nat) (b : Bool) (w : World) (hv : v < 18446744073709551616) (h : rightB v = b) : Calls Try.prog 25 #[.float .f64 v] w fun e w' => e = .returned (.bool b) ∧ w = w' := by
  rw [← h]; exact right_any v w hv

theorem right_one : rightB 4607182418800017408 = true := by decide

theorem usplit_none (u v : Nat) (w : World) (hv : v < 18446744073709551616) (h : wtB v = false) :
    Calls Try.prog 47 #[.int .u64 u, .float .f64 v] w fun r w' => r = .returned (.tuple #[.bool false, .int .u64 0, .int .i64 2]) ∧ Below w.heap.size w w' := by
  cases hr : rightB v
  · exact split_wrong u v false _ _ w (Lib.hid (fun w => right_at v false w hv hr)) rfl rfl (Lib.hid (Or.inl rfl))
  · refine split_wrong u v true _ _ w (Lib.hid (fun w => right_at v true w hv hr)) (order_lt v 0 hv (by decide) hr right_0) (order_gt v _ hv (by decide) hr right_one) (Lib.hid (Or.inr ?_))
    rw [val_0, val_one, decide_eq_true_eq, decide_eq_true_eq]
    unfold wtB at h
    rw [hr, Bool.true_and] at h
    by_cases h0 : 0 ≤ val v
    · rw [decide_eq_true h0, Bool.true_and, decide_eq_false_iff_not] at h
      exact Or.inr (by omega)
    · exact Or.inl (by omega)

theorem usplit_any (u v : Nat) (w : World) (hu : u < 18446744073709551616) (hv : v < 18446744073709551616) (h : wtB v = true) :
    Calls Try.prog 47 #[.int .u64 u, .float .f64 v] w fun r w' => r = .returned (.tuple #[.bool (decide (u < bnd v)), .int .u64 (leftN u (bnd v) : Nat), .int .i64 0]) ∧ Below w.heap.size w w' := by
  obtain ⟨r1, r2, r3⟩ := wt_facts v h
  obtain ⟨v1, v2⟩ := one_word v hv r1 r2 r3
  obtain ⟨e, x1, x2⟩ := bound_word v hv r1 r2 r3
  obtain ⟨xa, xr, _, _, xv⟩ := pos_facts _ x1
  have hB := bnd_le v v2
  have o1 : (FloatKind.f64.format.order v 0 == some Ordering.lt) = false := by rw [order_lt v 0 hv (by decide) r1 right_0, val_0]; exact decide_eq_false (by omega)
  have o2 : (FloatKind.f64.format.order v 4607182418800017408 == some Ordering.gt) = false := by rw [order_gt v _ hv (by decide) r1 right_one, val_one]; exact decide_eq_false (by omega)
  have oe := order_eq (mulW v 4895412794951729152 false) 4895412794951729152 xa (by decide) xr (by decide)
  rw [xv, x2, val_whole] at oe
  have cM := Lib.hid (fun w => (mul_any v 4895412794951729152 false w hv (by decide)).mono fun r w' (h : _ ∧ _) => (⟨by rw [h.1, e], h.2⟩ : r = .returned (.tuple #[.float .f64 (mulW v 4895412794951729152 false), .int .i64 0]) ∧ Below w.heap.size w w'))
  have hp : (2 : Nat) ^ (sq + 64) = 2 ^ sq * 18446744073709551616 := by rw [Nat.pow_add]
  by_cases h1 : steps v = 2 ^ sq
  · have hb1 := bnd_one v h1
    have o : (FloatKind.f64.format.order (mulW v 4895412794951729152 false) 4895412794951729152 == some Ordering.eq) = true := by rw [oe]; exact decide_eq_true (by rw [hp, h1])
    have hd : decide (u < bnd v) = true := decide_eq_true (by omega)
    have c := fun w => choose_any u (bnd v) 0 w hu hB (by rw [hb1])
    rw [hd] at c ⊢
    exact split_walk u v 0 _ true true w (Lib.hid (fun w => right_at v true w hv r1)) o1 o2 (Lib.hid (fun w => bound_whole v _ w cM o)) (Lib.hid c) (Lib.hid (Or.inl ⟨rfl, rfl⟩))
  · have hb1 := bnd_lt v (by omega)
    have o : (FloatKind.f64.format.order (mulW v 4895412794951729152 false) 4895412794951729152 == some Ordering.eq) = false := by
      rw [oe]
      refine decide_eq_false fun h' => h1 ?_
      rw [hp] at h'
      have h2 : steps v * 18446744073709551616 = 2 ^ sq * 18446744073709551616 := Int.ofNat.inj h'
      omega
    have hcut := to_u64 (mulW v 4895412794951729152 false) x1 (by
      rw [x2, Nat.mul_comm]
      exact Nat.mul_lt_mul_of_pos_left (by omega) (by decide))
    rw [x2, bnd_cut] at hcut
    have c := fun w => choose_any u (bnd v) (bnd v) w hu hB (by omega)
    exact split_walk u v (bnd v) _ false _ w (Lib.hid (fun w => right_at v true w hv r1)) o1 o2 (Lib.hid (fun w => bound_part v _ (bnd v) w cM o (fun w => run_convert_float_int w _ _ _ _ _ _ (by rw [Try.underlying22]; rfl) Try.underlying58 hcut)))
      (Lib.hid c) (Lib.hid (Or.inr ⟨rfl, rfl⟩))

end Go.Proofs.Ytddgcdpmnfdpdaa
