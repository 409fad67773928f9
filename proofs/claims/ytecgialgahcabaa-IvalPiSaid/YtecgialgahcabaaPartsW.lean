/- The walk of the statement DirParts. -/
import Derived.Test.YtecgialgahcabaaParts
namespace Go.Proofs.Ytecgialgahcabaa
open Go.RowKit

set_option maxRecDepth 100000 in
set_option maxHeartbeats 4000000 in
theorem parts_w1 (a b : Nat) (w : World) (cRa : Hid (∀ w, Calls Try.prog 27 #[.float .f64 a] w fun r w' => r = .returned (.bool false) ∧ w = w')) :
    Calls Try.prog 6 #[.float .f64 a, .float .f64 b] w fun r w' => r = .returned (.bool true) ∧ Below w.heap.size w w' := by
  go_enter Try.func6, Try.ntmps6
  go_wp2_with fail
  refine (cRa.out _).mono ?_
  rintro r ww ⟨rfl, rfl⟩
  go_wp2_with fail
  refine (awake_any _).mono ?_
  rintro r w1 ⟨rfl, h1⟩
  have H1 := Lib.hid h1; clear h1
  go_wp2
  go_ret
  exact ⟨rfl, H1.out⟩

set_option maxRecDepth 100000 in
set_option maxHeartbeats 4000000 in
theorem parts_w2 (a b : Nat) (w : World) (cRa : Hid (∀ w, Calls Try.prog 27 #[.float .f64 a] w fun r w' => r = .returned (.bool true) ∧ w = w')) (cRb : Hid (∀ w, Calls Try.prog 27 #[.float .f64 b] w fun r w' => r = .returned (.bool false) ∧ w = w')) :
    Calls Try.prog 6 #[.float .f64 a, .float .f64 b] w fun r w' => r = .returned (.bool true) ∧ Below w.heap.size w w' := by
  go_enter Try.func6, Try.ntmps6
  go_wp2_with fail
  refine (cRa.out _).mono ?_
  rintro r ww ⟨rfl, rfl⟩
  go_wp2_with fail
  refine (cRb.out _).mono ?_
  rintro r ww ⟨rfl, rfl⟩
  go_wp2_with fail
  refine (awake_any _).mono ?_
  rintro r w1 ⟨rfl, h1⟩
  have H1 := Lib.hid h1; clear h1
  go_wp2
  go_ret
  exact ⟨rfl, H1.out⟩

set_option maxRecDepth 100000 in
set_option maxHeartbeats 4000000 in
theorem parts_w3 (a b : Nat) (w : World) (cRa : Hid (∀ w, Calls Try.prog 27 #[.float .f64 a] w fun r w' => r = .returned (.bool true) ∧ w = w')) (cRb : Hid (∀ w, Calls Try.prog 27 #[.float .f64 b] w fun r w' => r = .returned (.bool true) ∧ w = w')) (o1 : (((FloatKind.f64.format.order a 0 == some Ordering.lt) || (FloatKind.f64.format.order a 0 == some Ordering.eq)) = true)) :
    Calls Try.prog 6 #[.float .f64 a, .float .f64 b] w fun r w' => r = .returned (.bool true) ∧ Below w.heap.size w w' := by
  go_enter Try.func6, Try.ntmps6
  go_wp2_with fail
  refine (cRa.out _).mono ?_
  rintro r ww ⟨rfl, rfl⟩
  go_wp2_with fail
  refine (cRb.out _).mono ?_
  rintro r ww ⟨rfl, rfl⟩
  go_wp2_with fail
  refine (awake_any _).mono ?_
  rintro r w1 ⟨rfl, h1⟩
  have H1 := Lib.hid h1; clear h1
  go_wp2
  go_ret
  exact ⟨rfl, H1.out⟩

set_option maxRecDepth 100000 in
set_option maxHeartbeats 4000000 in
theorem parts_w4 (a b : Nat) (w : World) (cRa : Hid (∀ w, Calls Try.prog 27 #[.float .f64 a] w fun r w' => r = .returned (.bool true) ∧ w = w')) (cRb : Hid (∀ w, Calls Try.prog 27 #[.float .f64 b] w fun r w' => r = .returned (.bool true) ∧ w = w')) (o1 : (((FloatKind.f64.format.order a 0 == some Ordering.lt) || (FloatKind.f64.format.order a 0 == some Ordering.eq)) = false)) (o2 : (((FloatKind.f64.format.order b 0 == some Ordering.lt) || (FloatKind.f64.format.order b 0 == some Ordering.eq)) = true)) :
    Calls Try.prog 6 #[.float .f64 a, .float .f64 b] w fun r w' => r = .returned (.bool true) ∧ Below w.heap.size w w' := by
  go_enter Try.func6, Try.ntmps6
  go_wp2_with fail
  refine (cRa.out _).mono ?_
  rintro r ww ⟨rfl, rfl⟩
  go_wp2_with fail
  refine (cRb.out _).mono ?_
  rintro r ww ⟨rfl, rfl⟩
  go_wp2_with fail
  refine (awake_any _).mono ?_
  rintro r w1 ⟨rfl, h1⟩
  have H1 := Lib.hid h1; clear h1
  go_wp2
  go_ret
  exact ⟨rfl, H1.out⟩

set_option maxRecDepth 100000 in
set_option maxHeartbeats 4000000 in
theorem parts_walk (a b : Nat) (w : World) (cRa : Hid (∀ w, Calls Try.prog 27 #[.float .f64 a] w fun r w' => r = .returned (.bool true) ∧ w = w')) (cRb : Hid (∀ w, Calls Try.prog 27 #[.float .f64 b] w fun r w' => r = .returned (.bool true) ∧ w = w')) (o1 : (((FloatKind.f64.format.order a 0 == some Ordering.lt) || (FloatKind.f64.format.order a 0 == some Ordering.eq)) = false)) (o2 : (((FloatKind.f64.format.order b 0 == some Ordering.lt) || (FloatKind.f64.format.order b 0 == some Ordering.eq)) = false))
    (q nq x1 y1 p np x2 y2 : Nat) (g1 g2 : Int)
    (cD : Hid (∀ w, Calls Try.prog 17 #[.float .f64 a, .float .f64 b, .bool false] w fun r w' => r = .returned (.tuple #[.float .f64 q, .int .i64 0]) ∧ Below w.heap.size w w'))
    (m1 : Hid ((((FloatKind.f64.format.order q 9218868437227405311 == some Ordering.lt) = false)) ∨ ((((FloatKind.f64.format.order q 9218868437227405311 == some Ordering.lt) = true)) ∧ (∀ w, Calls Try.prog 36 #[.float .f64 q, .bool true] w fun r w' => r = .returned (.tuple #[.float .f64 nq, .bool true]) ∧ Below w.heap.size w w') ∧ (∀ w, Calls Try.prog 16 #[.float .f64 q, .float .f64 b, .bool true] w fun r w' => r = .returned (.tuple #[.float .f64 x1, .int .i64 0]) ∧ Below w.heap.size w w') ∧ (∀ w, Calls Try.prog 16 #[.float .f64 nq, .float .f64 b, .bool true] w fun r w' => r = .returned (.tuple #[.float .f64 y1, .int .i64 g1]) ∧ Below w.heap.size w w') ∧ ((FloatKind.f64.format.order x1 a == some Ordering.gt) = false) ∧ ((g1 = 0 ∧ (((FloatKind.f64.format.order y1 a == some Ordering.lt) || (FloatKind.f64.format.order y1 a == some Ordering.eq)) = false)) ∨ g1 = 10))))
    (cM : Hid (∀ w, Calls Try.prog 16 #[.float .f64 a, .float .f64 b, .bool false] w fun r w' => r = .returned (.tuple #[.float .f64 p, .int .i64 0]) ∧ Below w.heap.size w w'))
    (m2 : Hid ((((FloatKind.f64.format.order p 9218868437227405311 == some Ordering.eq) = true)) ∨ ((((FloatKind.f64.format.order p 9218868437227405311 == some Ordering.eq) = false)) ∧ (∀ w, Calls Try.prog 36 #[.float .f64 p, .bool true] w fun r w' => r = .returned (.tuple #[.float .f64 np, .bool true]) ∧ Below w.heap.size w w') ∧ (∀ w, Calls Try.prog 17 #[.float .f64 p, .float .f64 b, .bool true] w fun r w' => r = .returned (.tuple #[.float .f64 x2, .int .i64 0]) ∧ Below w.heap.size w w') ∧ (∀ w, Calls Try.prog 17 #[.float .f64 np, .float .f64 b, .bool true] w fun r w' => r = .returned (.tuple #[.float .f64 y2, .int .i64 g2]) ∧ Below w.heap.size w w') ∧ (((FloatKind.f64.format.order x2 a == some Ordering.lt) || (FloatKind.f64.format.order x2 a == some Ordering.eq)) = true) ∧ ((g2 = 0 ∧ ((FloatKind.f64.format.order y2 a == some Ordering.gt) = true)) ∨ g2 = 10)))) :
    Calls Try.prog 6 #[.float .f64 a, .float .f64 b] w fun r w' => r = .returned (.bool true) ∧ Below w.heap.size w w' := by
  go_enter Try.func6, Try.ntmps6
  go_wp2_with fail
  refine (cRa.out _).mono ?_
  rintro r ww ⟨rfl, rfl⟩
  go_wp2_with fail
  refine (cRb.out _).mono ?_
  rintro r ww ⟨rfl, rfl⟩
  go_wp2_with fail
  refine (cD.out _).mono ?_
  rintro r w1 ⟨rfl, h1⟩
  have H1 := Lib.hid h1; clear h1
  rcases m1.out with s1 | ⟨s1, j1, j2, j3, s2, s3⟩
  · go_wp2_with fail
    refine (cM.out _).mono ?_
    rintro r w2 ⟨rfl, h2⟩
    have H2 := Lib.hid (H1.out.trans (h2.mono H1.out.size)); clear h2 H1
    rcases m2.out with t1 | ⟨t1, k1, k2, k3, t2, t3⟩
    · go_wp2_with fail
      refine (awake_any _).mono ?_
      rintro r w3 ⟨rfl, h3⟩
      have H3 := Lib.hid (H2.out.trans (h3.mono H2.out.size)); clear h3 H2
      go_wp2
      go_ret
      exact ⟨rfl, H3.out⟩
    · have K1 := Lib.hid k1; have K2 := Lib.hid k2; have K3 := Lib.hid k3; clear k1 k2 k3
      rcases t3 with ⟨rfl, t4⟩ | rfl
      all_goals
        go_wp2_with fail
        refine (K1.out _).mono ?_
        rintro r w3 ⟨rfl, h3⟩
        have H3 := Lib.hid (H2.out.trans (h3.mono H2.out.size)); clear h3 H2
        go_wp2_with fail
        refine (K2.out _).mono ?_
        rintro r w4 ⟨rfl, h4⟩
        have H4 := Lib.hid (H3.out.trans (h4.mono H3.out.size)); clear h4 H3
        go_wp2_with fail
        refine (K3.out _).mono ?_
        rintro r w5 ⟨rfl, h5⟩
        have H5 := Lib.hid (H4.out.trans (h5.mono H4.out.size)); clear h5 H4
        go_wp2_with fail
        refine (awake_any _).mono ?_
        rintro r w6 ⟨rfl, h6⟩
        have H6 := Lib.hid (H5.out.trans (h6.mono H5.out.size)); clear h6 H5
        go_wp2
        go_ret
        exact ⟨rfl, H6.out⟩
  · have J1 := Lib.hid j1; have J2 := Lib.hid j2; have J3 := Lib.hid j3; clear j1 j2 j3
    rcases s3 with ⟨rfl, s4⟩ | rfl
    all_goals
      go_wp2_with fail
      refine (J1.out _).mono ?_
      rintro r w2 ⟨rfl, h2⟩
      have H2 := Lib.hid (H1.out.trans (h2.mono H1.out.size)); clear h2 H1
      go_wp2_with fail
      refine (J2.out _).mono ?_
      rintro r w3 ⟨rfl, h3⟩
      have H3 := Lib.hid (H2.out.trans (h3.mono H2.out.size)); clear h3 H2
      go_wp2_with fail
      refine (J3.out _).mono ?_
      rintro r w4 ⟨rfl, h4⟩
      have H4 := Lib.hid (H3.out.trans (h4.mono H3.out.size)); clear h4 H3
      go_wp2_with fail
      refine (cM.out _).mono ?_
      rintro r w5 ⟨rfl, h5⟩
      have H5 := Lib.hid (H4.out.trans (h5.mono H4.out.size)); clear h5 H4
      rcases m2.out with t1 | ⟨t1, k1, k2, k3, t2, t3⟩
      · go_wp2_with fail
        refine (awake_any _).mono ?_
        rintro r w6 ⟨rfl, h6⟩
        have H6 := Lib.hid (H5.out.trans (h6.mono H5.out.size)); clear h6 H5
        go_wp2
        go_ret
        exact ⟨rfl, H6.out⟩
      · have K1 := Lib.hid k1; have K2 := Lib.hid k2; have K3 := Lib.hid k3; clear k1 k2 k3
        rcases t3 with ⟨rfl, t4⟩ | rfl
        all_goals
          go_wp2_with fail
          refine (K1.out _).mono ?_
          rintro r w6 ⟨rfl, h6⟩
          have H6 := Lib.hid (H5.out.trans (h6.mono H5.out.size)); clear h6 H5
          go_wp2_with fail
          refine (K2.out _).mono ?_
          rintro r w7 ⟨rfl, h7⟩
          have H7 := Lib.hid (H6.out.trans (h7.mono H6.out.size)); clear h7 H6
          go_wp2_with fail
          refine (K3.out _).mono ?_
          rintro r w8 ⟨rfl, h8⟩
          have H8 := Lib.hid (H7.out.trans (h8.mono H7.out.size)); clear h8 H7
          go_wp2_with fail
          refine (awake_any _).mono ?_
          rintro r w9 ⟨rfl, h9⟩
          have H9 := Lib.hid (H8.out.trans (h9.mono H8.out.size)); clear h9 H8
          go_wp2
          go_ret
          exact ⟨rfl, H9.out⟩

theorem right_is (a : Nat) (v : Bool) (w : World) (ha : a < 18446744073709551616) (h : rightB a = v) : Calls Try.prog 27 #[.float .f64 a] w fun r w' => r = .returned (.bool v) ∧ w = w' :=
  (right_any a w ha).mono fun e w' ⟨he, hw⟩ => ⟨by rw [he, h], hw⟩

theorem parts_any (a b : Nat) (w : World) (ha : a < 18446744073709551616) (hb : b < 18446744073709551616) :
    Calls Try.prog 6 #[.float .f64 a, .float .f64 b] w fun r w' => r = .returned (.bool true) ∧ Below w.heap.size w w' := by
  cases ra : rightB a
  · exact parts_w1 a b w (Lib.hid (fun w => right_is a _ w ha ra))
  · cases rb : rightB b
    · exact parts_w2 a b w (Lib.hid (fun w => right_is a _ w ha ra)) (Lib.hid (fun w => right_is b _ w hb rb))
    · have la := le_fact a 0 ha (by decide) ra right_0
      have lb := le_fact b 0 hb (by decide) rb right_0
      rw [val_0] at la lb
      by_cases pa : val a ≤ 0
      · exact parts_w3 a b w (Lib.hid (fun w => right_is a _ w ha ra)) (Lib.hid (fun w => right_is b _ w hb rb)) (by rw [la]; exact decide_eq_true pa)
      · by_cases pb : val b ≤ 0
        · exact parts_w4 a b w (Lib.hid (fun w => right_is a _ w ha ra)) (Lib.hid (fun w => right_is b _ w hb rb)) (by rw [la]; exact decide_eq_false pa) (by rw [lb]; exact decide_eq_true pb)
        · obtain ⟨d1, d2, d3, d4⟩ := parts_div a b ha hb ra rb (by omega) (by omega)
          obtain ⟨e1, e2, e3, e4⟩ := parts_mul a b ha hb ra rb (by omega) (by omega)
          refine parts_walk a b w (Lib.hid (fun w => right_is a _ w ha ra)) (Lib.hid (fun w => right_is b _ w hb rb)) (by rw [la]; exact decide_eq_false pa) (by rw [lb]; exact decide_eq_false pb)
            (divW a b false) (addW (divW a b false) 1 true) (mulW (divW a b false) b true) (mulW (addW (divW a b false) 1 true) b true) (mulW a b false) (addW (mulW a b false) 1 true) (divW (mulW a b false) b true) (divW (addW (mulW a b false) 1 true) b true) (mulE (addW (divW a b false) 1 true) b true) (divE (addW (mulW a b false) 1 true) b true)
            (Lib.hid (fun w => div_lit a b _ 0 false w ha hb rfl d1)) (Lib.hid ?_) (Lib.hid (fun w => mul_lit a b _ 0 false w ha hb rfl e1)) (Lib.hid ?_)
          · by_cases c : val (divW a b false) < val 9218868437227405311
            · obtain ⟨f1, f2, f3, f4, f5⟩ := d4 c
              exact Or.inr ⟨by rw [order_lt _ _ d2 (by decide) d3 right_max]; exact decide_eq_true c, fun w => step_lit _ _ 0 true true w d2 rfl f1 rfl, fun w => mul_lit _ b _ 0 true w d2 hb rfl f3, fun w => mul_any _ b true w f2 hb, f4, f5⟩
            · exact Or.inl (by rw [order_lt _ _ d2 (by decide) d3 right_max]; exact decide_eq_false c)
          · by_cases c : val (mulW a b false) = val 9218868437227405311
            · exact Or.inl (by rw [order_eq _ _ e2 (by decide) e3 right_max]; exact decide_eq_true c)
            · obtain ⟨f1, f2, f3, f4, f5⟩ := e4 c
              exact Or.inr ⟨by rw [order_eq _ _ e2 (by decide) e3 right_max]; exact decide_eq_false c, fun w => step_lit _ _ 0 true true w e2 rfl f1 rfl, fun w => div_lit _ b _ 0 true w e2 hb rfl f3, fun w => div_any _ b true w f2 hb, f4, f5⟩

end Go.Proofs.Ytecgialgahcabaa
