/- The statement DirNext: the next one up, and down again, is where it was. No conditions. -/
import Derived.Test.YtecgialgahcabaaSums
namespace Go.Proofs.Ytecgialgahcabaa
open Go.RowKit

theorem word_parts (a : Nat) (ha : a < 18446744073709551616) : a = if sgnB a then 9223372036854775808 + rung a else rung a := by
  unfold sgnB rung
  by_cases g : 9223372036854775808 ≤ a
  · rw [decide_eq_true g, if_pos rfl]; omega
  · rw [decide_eq_false g, if_neg Bool.false_ne_true]; omega

theorem steps_inj {r s : Nat} (h : steps r = steps s) : r = s := by
  have h1 := (steps_le_iff r s).1 (by omega)
  have h2 := (steps_le_iff s r).1 (by omega)
  omega

theorem val_inj {a b : Nat} (ha : a < 18446744073709551616) (hb : b < 18446744073709551616) (ra : rightB a = true) (rb : rightB b = true) (h : val a = val b) : a = b := by
  have na := val_neg a ha ra
  have nb := val_neg b hb rb
  have hs : sgnB a = sgnB b := by
    cases sa : sgnB a <;> cases sb : sgnB b <;> simp_all
  have hst : steps (rung a) = steps (rung b) := by
    unfold val at h
    rw [hs] at h
    revert h
    cases sgnB b
    · intro h; exact Int.ofNat.inj h
    · intro h; exact Int.ofNat.inj (Int.neg_inj.1 h)
  rw [word_parts a ha, word_parts b hb, hs, steps_inj hst]

theorem order_eq (a b : Nat) (ha : a < 18446744073709551616) (hb : b < 18446744073709551616) (ra : rightB a = true) (rb : rightB b = true) : (FloatKind.f64.format.order a b == some Ordering.eq) = decide (val a = val b) := by
  rw [order_val a b ha hb (right_rung a ra) (right_rung b rb)]
  rcases Int.lt_trichotomy (val a) (val b) with g | g | g
  · rw [Int.compare_eq_lt.2 g, decide_eq_false (by omega)]; rfl
  · rw [Int.compare_eq_eq.2 g, decide_eq_true g]; rfl
  · rw [Int.compare_eq_gt.2 g, decide_eq_false (by omega)]; rfl
theorem order_lt (a b : Nat) (ha : a < 18446744073709551616) (hb : b < 18446744073709551616) (ra : rightB a = true) (rb : rightB b = true) : (FloatKind.f64.format.order a b == some Ordering.lt) = decide (val a < val b) := by
  rw [order_val a b ha hb (right_rung a ra) (right_rung b rb)]
  rcases Int.lt_trichotomy (val a) (val b) with g | g | g
  · rw [Int.compare_eq_lt.2 g, decide_eq_true g]; rfl
  · rw [Int.compare_eq_eq.2 g, decide_eq_false (by omega)]; rfl
  · rw [Int.compare_eq_gt.2 g, decide_eq_false (by omega)]; rfl

/-- The greatest number. -/
theorem val_max (d : Nat) (rd : rightB d = true) : val d ≤ val 9218868437227405311 := by
  have e : val 9218868437227405311 = (steps 9218868437227405311 : Int) := by
    have := (sw_facts false 9218868437227405311 (Nat.le_refl _)).2.2
    exact this
  have hm := rung_max rd
  have hle := steps_le hm
  rw [e]
  cases hc : sgnB d
  · rw [val_pos hc]; omega
  · rw [val_negs hc]; omega
theorem right_max : rightB 9218868437227405311 = true := by decide

/-- The step down from what was stepped up to. -/
theorem next_back (x : Nat) (hx : x < 18446744073709551616) (rx : rightB x = true) (h0 : addE x 1 true = 0) : addE (addW x 1 true) 9223372036854775809 false = 0 ∧ addW (addW x 1 true) 9223372036854775809 false = x := by
  rcases next_up x rx with ⟨_, n2, n3, n4, n5⟩ | ⟨h, _⟩
  · have hd := add_down (addW x 1 true) 9223372036854775809 n3 right_m1
    rw [val_m1] at hd
    rcases hd with ⟨e0, d1, d2, d3, d4⟩ | ⟨_, _, d3⟩
    · refine ⟨e0, val_inj d1 hx d2 rx ?_⟩
      have a1 := d4 x hx rx (by omega)
      rcases Int.lt_or_le (val x) (val (addW (addW x 1 true) 9223372036854775809 false)) with g | g
      · have := n5 _ d1 d2 g; omega
      · omega
    · have := d3 x hx rx; omega
  · omega

theorem add_tiny (x : Nat) (hx : x < 18446744073709551616) (rx : rightB x = true) : addE x 1 false = 0 ∧ addW x 1 false < 18446744073709551616 ∧ rightB (addW x 1 false) = true ∧ val x ≤ val (addW x 1 false) := by
  have hd := add_down x 1 rx right_1
  rw [val_1] at hd
  rcases hd with ⟨e0, d1, d2, _, d4⟩ | ⟨_, _, d3⟩
  · exact ⟨e0, d1, d2, d4 x hx rx (by omega)⟩
  · have := d3 x hx rx; omega

theorem half_down (w : World) : Calls Try.prog 17 #[.float .f64 1, .float .f64 4611686018427387904, .bool false] w fun r w' => r = .returned (.tuple #[.float .f64 0, .int .i64 0]) ∧ Below w.heap.size w w' :=
  div_lit _ _ _ _ _ w (by decide) (by decide) (by decide +kernel) (by decide +kernel)
theorem half_up (w : World) : Calls Try.prog 17 #[.float .f64 1, .float .f64 4611686018427387904, .bool true] w fun r w' => r = .returned (.tuple #[.float .f64 1, .int .i64 0]) ∧ Below w.heap.size w w' :=
  div_lit _ _ _ _ _ w (by decide) (by decide) (by decide +kernel) (by decide +kernel)

theorem same_self (a : Nat) (w : World) : Calls Try.prog 22 #[.float .f64 a, .float .f64 a] w fun r w' => r = .returned (.bool true) ∧ w = w' := by
  have h1 := run_bits
  go_enter Try.func22, Try.ntmps22
  go_wp2
  go_ret
  exact ⟨by simp, rfl⟩

set_option maxRecDepth 100000 in
set_option maxHeartbeats 1000000 in
theorem next_wrong (x : Nat) (w : World) (hx : x < 18446744073709551616) (rx : rightB x = false) :
    Calls Try.prog 8 #[.float .f64 x] w fun r w' => r = .returned (.bool true) ∧ Below w.heap.size w w' := by
  have cR := Lib.hid (fun w => right_any x w hx)
  have cN := Lib.hid (fun w => next_lit x _ 13 true w hx rfl (if_neg (by rw [rx]; exact Bool.false_ne_true)))
  have cA := Lib.hid (fun w => add_lit x 4607182418800017408 _ 13 true w hx (by decide) rfl (if_neg (by rw [rx]; exact Bool.false_ne_true)))
  have cS := Lib.hid (fun w => sqrt_lit x _ 13 true w hx rfl (if_neg (by rw [rx]; exact Bool.false_ne_true)))
  have cD := Lib.hid (fun w => div_lit 4607182418800017408 x _ 13 true w (by decide) hx rfl (if_neg (by rw [rx, Bool.and_false]; exact Bool.false_ne_true)))
  have RX := Lib.hid rx
  clear hx rx
  go_enter Try.func8, Try.ntmps8
  go_wp2_with fail
  refine (cR.out _).mono ?_
  rintro r ww ⟨rfl, rfl⟩
  rw [RX.out]
  go_wp2_with fail
  refine (cN.out _).mono ?_
  rintro r w1 ⟨rfl, h1⟩
  have H1 := Lib.hid h1; clear h1
  go_wp2_with fail
  refine (cA.out _).mono ?_
  rintro r w2 ⟨rfl, h2⟩
  have H2 := Lib.hid (H1.out.trans (h2.mono H1.out.size)); clear h2 H1
  go_wp2_with fail
  refine (cS.out _).mono ?_
  rintro r w3 ⟨rfl, h3⟩
  have H3 := Lib.hid (H2.out.trans (h3.mono H2.out.size)); clear h3 H2
  go_wp2_with fail
  refine (cD.out _).mono ?_
  rintro r w4 ⟨rfl, h4⟩
  have H4 := Lib.hid (H3.out.trans (h4.mono H3.out.size)); clear h4 H3
  go_wp2_with fail
  refine (awake_any _).mono ?_
  rintro r w5 ⟨rfl, h5⟩
  have H5 := Lib.hid (H4.out.trans (h5.mono H4.out.size)); clear h5 H4
  go_wp2
  go_ret
  exact ⟨rfl, H5.out⟩

set_option maxRecDepth 100000 in
set_option maxHeartbeats 1000000 in
theorem next_last (x : Nat) (w : World) (hx : x < 18446744073709551616) (rx : rightB x = true) (h0 : addE x 1 true = 10) :
    Calls Try.prog 8 #[.float .f64 x] w fun r w' => r = .returned (.bool true) ∧ Below w.heap.size w w' := by
  have o1 : (FloatKind.f64.format.order x 9218868437227405311 == some Ordering.eq) = true := by
    rw [order_eq x _ hx (by decide) rx right_max]
    refine decide_eq_true ?_
    have a1 := val_max x rx
    rcases next_up x rx with ⟨h, _⟩ | ⟨_, h⟩
    · omega
    · have := h 9218868437227405311 (by decide) right_max; omega
  have cR := Lib.hid (fun w => right_any x w hx)
  have cN := Lib.hid (fun w => step_lit x _ 10 true false w hx rfl h0 rfl)
  have RX := Lib.hid rx
  clear hx rx h0
  go_enter Try.func8, Try.ntmps8
  go_wp2_with fail
  refine (cR.out _).mono ?_
  rintro r ww ⟨rfl, rfl⟩
  rw [RX.out]
  go_wp2_with fail
  refine (cN.out _).mono ?_
  rintro r w1 ⟨rfl, h1⟩
  have H1 := Lib.hid h1; clear h1
  go_wp2_with fail
  refine (awake_any _).mono ?_
  rintro r w5 ⟨rfl, h5⟩
  have H5 := Lib.hid (H1.out.trans (h5.mono H1.out.size)); clear h5 H1
  go_wp2
  go_ret
  exact ⟨rfl, H5.out⟩

set_option maxRecDepth 100000 in
set_option maxHeartbeats 2000000 in
theorem next_walk (x n a : Nat) (w : World)
    (cR : Hid (∀ w, Calls Try.prog 27 #[.float .f64 x] w fun r w' => r = .returned (.bool true) ∧ w = w'))
    (cN : Hid (∀ w, Calls Try.prog 36 #[.float .f64 x, .bool true] w fun r w' => r = .returned (.tuple #[.float .f64 n, .bool true]) ∧ Below w.heap.size w w'))
    (cB : Hid (∀ w, Calls Try.prog 36 #[.float .f64 n, .bool false] w fun r w' => r = .returned (.tuple #[.float .f64 x, .bool true]) ∧ Below w.heap.size w w'))
    (cRn : Hid (∀ w, Calls Try.prog 27 #[.float .f64 n] w fun r w' => r = .returned (.bool true) ∧ w = w'))
    (cD : Hid (∀ w, Calls Try.prog 14 #[.float .f64 x, .float .f64 1, .bool false] w fun r w' => r = .returned (.tuple #[.float .f64 a, .int .i64 0]) ∧ Below w.heap.size w w'))
    (cU : Hid (∀ w, Calls Try.prog 14 #[.float .f64 x, .float .f64 1, .bool true] w fun r w' => r = .returned (.tuple #[.float .f64 n, .int .i64 0]) ∧ Below w.heap.size w w'))
    (o1 : (FloatKind.f64.format.order n x == some Ordering.lt) = false) (o2 : (FloatKind.f64.format.order n x == some Ordering.eq) = false)
    (o3 : (FloatKind.f64.format.order a x == some Ordering.lt) = false) (o4 : (FloatKind.f64.format.order n n == some Ordering.gt) = false) :
    Calls Try.prog 8 #[.float .f64 x] w fun r w' => r = .returned (.bool true) ∧ Below w.heap.size w w' := by
  have o5 : (FloatKind.f64.format.order 1 1 == some Ordering.eq) = true := by decide +kernel
  go_enter Try.func8, Try.ntmps8
  go_wp2_with fail
  refine (cR.out _).mono ?_
  rintro r ww ⟨rfl, rfl⟩
  go_wp2_with fail
  refine (cN.out _).mono ?_
  rintro r w1 ⟨rfl, h1⟩
  have H1 := Lib.hid h1; clear h1
  go_wp2_with fail
  refine (cB.out _).mono ?_
  rintro r w2 ⟨rfl, h2⟩
  have H2 := Lib.hid (H1.out.trans (h2.mono H1.out.size)); clear h2 H1
  go_wp2_with fail
  refine (same_self _ _).mono ?_
  rintro r ww ⟨rfl, rfl⟩
  go_wp2_with fail
  refine (cRn.out _).mono ?_
  rintro r ww ⟨rfl, rfl⟩
  go_wp2_with fail
  refine (power_least _).mono ?_
  rintro r ww ⟨rfl, rfl⟩
  go_wp2_with fail
  refine (cD.out _).mono ?_
  rintro r w3 ⟨rfl, h3⟩
  have H3 := Lib.hid (H2.out.trans (h3.mono H2.out.size)); clear h3 H2
  go_wp2_with fail
  refine (cU.out _).mono ?_
  rintro r w4 ⟨rfl, h4⟩
  have H4 := Lib.hid (H3.out.trans (h4.mono H3.out.size)); clear h4 H3
  go_wp2_with fail
  refine (half_down _).mono ?_
  rintro r w5 ⟨rfl, h5⟩
  have H5 := Lib.hid (H4.out.trans (h5.mono H4.out.size)); clear h5 H4
  go_wp2_with fail
  refine (half_up _).mono ?_
  rintro r w6 ⟨rfl, h6⟩
  have H6 := Lib.hid (H5.out.trans (h6.mono H5.out.size)); clear h6 H5
  go_wp2_with fail
  refine (same_zero _).mono ?_
  rintro r ww ⟨rfl, rfl⟩
  go_wp2_with fail
  refine (awake_any _).mono ?_
  rintro r w7 ⟨rfl, h7⟩
  have H7 := Lib.hid (H6.out.trans (h7.mono H6.out.size)); clear h7 H6
  go_wp2
  go_ret
  exact ⟨rfl, H7.out⟩

theorem next_all (x : Nat) (w : World) (hx : x < 18446744073709551616) :
    Calls Try.prog 8 #[.float .f64 x] w fun r w' => r = .returned (.bool true) ∧ Below w.heap.size w w' := by
  cases rx : rightB x
  · exact next_wrong x w hx rx
  · rcases next_up x rx with ⟨n1, n2, n3, n4, _⟩ | ⟨n1, _⟩
    · obtain ⟨b1, b2⟩ := next_back x hx rx n1
      obtain ⟨d1, d2, d3, d4⟩ := add_tiny x hx rx
      exact next_walk x (addW x 1 true) (addW x 1 false) w (Lib.hid (fun w => (right_any x w hx).mono fun e w' ⟨he, hw⟩ => ⟨by rw [he, rx], hw⟩))
        (Lib.hid (fun w => step_lit x _ 0 true true w hx rfl n1 rfl)) (Lib.hid (fun w => step_lit _ x 0 false true w n2 b2 b1 rfl))
        (Lib.hid (fun w => (right_any _ w n2).mono fun e w' ⟨he, hw⟩ => ⟨by rw [he, n3], hw⟩)) (Lib.hid (fun w => add_lit x 1 _ 0 false w hx (by decide) rfl d1)) (Lib.hid (fun w => add_lit x 1 _ 0 true w hx (by decide) rfl n1))
        (by rw [order_lt _ _ n2 hx n3 rx]; exact decide_eq_false (by omega)) (by rw [order_eq _ _ n2 hx n3 rx]; exact decide_eq_false (by omega))
        (by rw [order_lt _ _ d2 hx d3 rx]; exact decide_eq_false (by omega)) (by rw [order_gt _ _ n2 n2 n3 n3]; exact decide_eq_false (by omega))
    · exact next_last x w hx rx n1

end Go.Proofs.Ytecgialgahcabaa
