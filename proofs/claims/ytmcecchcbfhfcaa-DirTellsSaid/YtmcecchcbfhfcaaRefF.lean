
/- The document's answer for layer 1: its sums, but for those that are great. -/
import Derived.Test.YtmcecchcbfhfcaaRefE
namespace Go.Proofs.Ytmcecchcbfhfcaa
open Go.RowKit

abbrev RefR (x : Nat) (b : Bool) : Prop := ∀ w : World, Calls Try.prog 26 #[.float .f64 x] w fun r w' => r = .returned (.bool b) ∧ w = w'
abbrev RefS (c d : Nat) (up : Bool) (v : Nat) (e : Int) : Prop := ∀ w : World, Calls Try.prog 80 #[.float .f64 c, .float .f64 d, .bool up] w fun r w' => r = .returned (.tuple #[.float .f64 v, .int .i64 e]) ∧ w = w'

theorem ldexp_1000 (w : World) : Calls Try.prog 47 #[.float .f64 4607182418800017408, .int .i64 1000] w fun r w' => r = .returned (.float .f64 9110782046170513408) ∧ w = w' :=
  ldexp_at 4607182418800017408 0 9110782046170513408 9110782046170513408 9110782046170513408 1000 1023 1000 w (by decide +kernel) (by decide +kernel) (by decide +kernel) (by decide +kernel) (by decide +kernel) (by decide) (by decide) (by decide) (by decide +kernel) (by decide) (by decide) (by decide) (by decide) (by decide) (by decide +kernel) (by decide +kernel) (by decide +kernel) (by decide +kernel)

set_option maxRecDepth 100000 in
theorem refAdd_wrong (a b : Nat) (ra rb : Bool) (up : Bool) (w : World) (h : (ra && rb) = false) (c1 : Hid (RefR a ra)) (c2 : Hid (RefR b rb)) :
    Calls Try.prog 16 #[.float .f64 a, .float .f64 b, .bool up] w fun r w' => r = .returned (.tuple #[.float .f64 0, .int .i64 13]) ∧ w = w' := by
  cases ra
  · go_enter Try.func16, Try.ntmps16
    go_wp2_with fail
    refine (c1.out _).mono ?_
    rintro r ww ⟨rfl, rfl⟩
    go_wp2
    go_ret2
    exact ⟨rfl, rfl⟩
  · obtain rfl : rb = false := h
    go_enter Try.func16, Try.ntmps16
    go_wp2_with fail
    refine (c1.out _).mono ?_
    rintro r ww ⟨rfl, rfl⟩
    go_wp2_with fail
    refine (c2.out _).mono ?_
    rintro r ww ⟨rfl, rfl⟩
    go_wp2
    go_ret2
    exact ⟨rfl, rfl⟩

set_option maxRecDepth 100000 in
set_option maxHeartbeats 1000000 in
theorem refAdd_inf (a b s v : Nat) (e : Int) (up : Bool) (w : World) (c1 : Hid (RefR a true)) (c2 : Hid (RefR b true)) (es : floatBits .add .f64 a b = some s)
    (cI : Hid (∀ w, Calls Try.prog 79 #[.float .f64 s, .int .i64 0] w fun r w' => r = .returned (.bool true) ∧ w = w')) (cS : Hid (RefS s 0 up v e)) :
    Calls Try.prog 16 #[.float .f64 a, .float .f64 b, .bool up] w fun r w' => r = .returned (.tuple #[.float .f64 v, .int .i64 e]) ∧ w = w' := by
  have h0 := fun t w => run_float_arith (P := Try.prog) (w := w) .add t .f64 a b _ es
  clear es
  go_enter Try.func16, Try.ntmps16
  go_wp2_with fail
  refine (c1.out _).mono ?_
  rintro r ww ⟨rfl, rfl⟩
  go_wp2_with fail
  refine (c2.out _).mono ?_
  rintro r ww ⟨rfl, rfl⟩
  go_wp2_with fail
  refine (cI.out _).mono ?_
  rintro r ww ⟨rfl, rfl⟩
  go_wp2_with fail
  refine (cS.out _).mono ?_
  rintro r ww ⟨rfl, rfl⟩
  go_wp2
  go_ret2
  exact ⟨rfl, rfl⟩

set_option maxRecDepth 100000 in
set_option maxHeartbeats 1000000 in
theorem refAdd_walk (a b s t c p x y d v : Nat) (e : Int) (up : Bool) (w : World) (c1 : Hid (RefR a true)) (c2 : Hid (RefR b true)) (es : floatBits .add .f64 a b = some s)
    (cI : Hid (∀ w, Calls Try.prog 79 #[.float .f64 s, .int .i64 0] w fun r w' => r = .returned (.bool false) ∧ w = w'))
    (cA : Hid (∀ w, Calls Try.prog 58 #[.float .f64 s] w fun r w' => r = .returned (.float .f64 t) ∧ w = w'))
    (o : ((FloatKind.f64.format.order t 9110782046170513408 == some Ordering.gt) || (FloatKind.f64.format.order t 9110782046170513408 == some Ordering.eq)) = false)
    (ec : floatBits .sub .f64 s a = some c) (ep : floatBits .sub .f64 s c = some p) (ex : floatBits .sub .f64 a p = some x) (ey : floatBits .sub .f64 b c = some y) (ed : floatBits .add .f64 x y = some d) (cS : Hid (RefS s d up v e)) :
    Calls Try.prog 16 #[.float .f64 a, .float .f64 b, .bool up] w fun r w' => r = .returned (.tuple #[.float .f64 v, .int .i64 e]) ∧ w = w' := by
  have h0 := fun t w => run_float_arith (P := Try.prog) (w := w) .add t .f64 a b _ es
  have h1 := fun t w => run_float_arith (P := Try.prog) (w := w) .sub t .f64 s a _ ec
  have h2 := fun t w => run_float_arith (P := Try.prog) (w := w) .sub t .f64 s c _ ep
  have h3 := fun t w => run_float_arith (P := Try.prog) (w := w) .sub t .f64 a p _ ex
  have h4 := fun t w => run_float_arith (P := Try.prog) (w := w) .sub t .f64 b c _ ey
  have h5 := fun t w => run_float_arith (P := Try.prog) (w := w) .add t .f64 x y _ ed
  clear es ec ep ex ey ed
  go_enter Try.func16, Try.ntmps16
  go_wp2_with fail
  refine (c1.out _).mono ?_
  rintro r ww ⟨rfl, rfl⟩
  go_wp2_with fail
  refine (c2.out _).mono ?_
  rintro r ww ⟨rfl, rfl⟩
  go_wp2_with fail
  refine (cI.out _).mono ?_
  rintro r ww ⟨rfl, rfl⟩
  go_wp2_with fail
  refine (cA.out _).mono ?_
  rintro r ww ⟨rfl, rfl⟩
  go_wp2_with fail
  refine (ldexp_1000 _).mono ?_
  rintro r ww ⟨rfl, rfl⟩
  go_wp2_with fail
  refine (cS.out _).mono ?_
  rintro r ww ⟨rfl, rfl⟩
  go_wp2
  go_ret2
  exact ⟨rfl, rfl⟩

set_option maxRecDepth 100000 in
set_option maxHeartbeats 1000000 in
theorem refAdd_far (a b s t v : Nat) (e : Int) (up : Bool) (w : World) (c1 : Hid (RefR a true)) (c2 : Hid (RefR b true)) (es : floatBits .add .f64 a b = some s)
    (cI : Hid (∀ w, Calls Try.prog 79 #[.float .f64 s, .int .i64 0] w fun r w' => r = .returned (.bool false) ∧ w = w'))
    (cA : Hid (∀ w, Calls Try.prog 58 #[.float .f64 s] w fun r w' => r = .returned (.float .f64 t) ∧ w = w'))
    (o : ((FloatKind.f64.format.order t 9110782046170513408 == some Ordering.gt) || (FloatKind.f64.format.order t 9110782046170513408 == some Ordering.eq)) = true)
    (cF : Hid (∀ w, Calls Try.prog 81 #[.float .f64 a, .float .f64 b, .float .f64 s, .bool up] w fun r w' => r = .returned (.tuple #[.float .f64 v, .int .i64 e]) ∧ w = w')) :
    Calls Try.prog 16 #[.float .f64 a, .float .f64 b, .bool up] w fun r w' => r = .returned (.tuple #[.float .f64 v, .int .i64 e]) ∧ w = w' := by
  have h0 := fun t w => run_float_arith (P := Try.prog) (w := w) .add t .f64 a b _ es
  clear es
  go_enter Try.func16, Try.ntmps16
  go_wp2_with fail
  refine (c1.out _).mono ?_
  rintro r ww ⟨rfl, rfl⟩
  go_wp2_with fail
  refine (c2.out _).mono ?_
  rintro r ww ⟨rfl, rfl⟩
  go_wp2_with fail
  refine (cI.out _).mono ?_
  rintro r ww ⟨rfl, rfl⟩
  go_wp2_with fail
  refine (cA.out _).mono ?_
  rintro r ww ⟨rfl, rfl⟩
  go_wp2_with fail
  refine (ldexp_1000 _).mono ?_
  rintro r ww ⟨rfl, rfl⟩
  go_wp2_with fail
  refine (cF.out _).mono ?_
  rintro r ww ⟨rfl, rfl⟩
  go_wp2
  go_ret2
  exact ⟨rfl, rfl⟩

/-- What side answers of the nearest sum and the side of the real one: the program's sum. -/
theorem side_add {a b s : Nat} {gp gn : Bool} (ra : rightB a = true) (rb : rightB b = true) (N : NearW (val a + val b) s) (hp : rung s < 9218868437227405312 → gp = decide (val s < val a + val b)) (hn : rung s < 9218868437227405312 → gn = decide (val a + val b < val s)) (up : Bool) :
    (sideR s gp gn up).1 = addW a b up ∧ (sideR s gp gn up).2 = addE a b up := by
  obtain ⟨D, U⟩ := faith_dir N.faith (gp := gp) (gn := gn) (fun h => by rw [hp h, show val s * ((1 : Nat) : Int) = val s by omega]) (fun h => by rw [hn h, show val s * ((1 : Nat) : Int) = val s by omega])
  cases up
  · exact D.unique (add_down a b ra rb)
  · exact U.unique (add_up a b ra rb)

theorem sign_facts (d : Nat) (hd : d < 18446744073709551616) (rd : rung d < 9218868437227405312) : (FloatKind.f64.format.order d 0 == some Ordering.gt) = decide (0 < val d) ∧ (FloatKind.f64.format.order d 0 == some Ordering.lt) = decide (val d < 0) := by
  rw [order_val d 0 hd (by decide) rd (by decide), val_0]
  rcases Int.lt_trichotomy (val d) 0 with g | g | g
  · rw [Int.compare_eq_lt.2 g, decide_eq_true g, decide_eq_false (by omega)]; exact ⟨rfl, rfl⟩
  · rw [Int.compare_eq_eq.2 g, decide_eq_false (by omega), decide_eq_false (by omega)]; exact ⟨rfl, rfl⟩
  · rw [Int.compare_eq_gt.2 g, decide_eq_true g, decide_eq_false (by omega)]; exact ⟨rfl, rfl⟩

theorem low_km (e t : Nat) (h : e * 4503599627370496 + 4503599627370496 = t) : steps t = 4503599627370496 * 2 ^ e := by
  rw [← h]
  exact steps_km e 4503599627370496 (by decide) (Or.inr (by decide))
def exY : Nat := 2022
theorem exZY : exZ = exY + 23 := rfl
theorem zz_steps : steps 9110782046170513408 = ZZ := by
  have h : ZZ = 4503599627370496 * 2 ^ exY := by
    unfold ZZ
    rw [exZY, Nat.pow_add, Nat.mul_comm (2 ^ exY), ← Nat.mul_assoc]
  rw [h]
  exact low_km exY _ (by unfold exY; decide)

/-- A sum whose nearest number is less than 2^1000, or beyond all. -/
theorem refAdd_near (a b s : Nat) (up : Bool) (w : World) (la : a < 18446744073709551616) (lb : b < 18446744073709551616) (ra : rightB a = true) (rb : rightB b = true) (es : floatBits .add .f64 a b = some s) (N : NearW (val a + val b) s) (hS : rung s = 9218868437227405312 ∨ rung s < 9110782046170513408) :
    Calls Try.prog 16 #[.float .f64 a, .float .f64 b, .bool up] w fun r w' => r = .returned (.tuple #[.float .f64 (addW a b up), .int .i64 (addE a b up)]) ∧ w = w' := by
  have c1 := fun w => refRight_any a w la
  have c2 := fun w => refRight_any b w lb
  rw [ra] at c1
  rw [rb] at c2
  have hn : nanB s = false := decide_eq_false (by have := N.le; omega)
  have cI := fun w => isInf0_any s w N.lt hn
  rcases hS with hi | hS
  · rw [show infB s = true from decide_eq_true hi] at cI
    obtain ⟨e1, e2⟩ := side_add (gp := false) (gn := false) ra rb N (fun h => by omega) (fun h => by omega) up
    have cS := fun w => refSide_any s 0 false false up w N.lt N.le (by decide +kernel) (by decide +kernel)
    rw [e1, e2] at cS
    exact refAdd_inf a b s _ _ up w (Lib.hid c1) (Lib.hid c2) es (Lib.hid cI) (Lib.hid cS)
  · have rs : rung s < 9218868437227405312 := by omega
    rw [show infB s = false from decide_eq_false (by omega)] at cI
    have hz : (val s).natAbs < ZZ := by
      have h1 : (val s).natAbs = steps (rung s) := by unfold val; split <;> omega
      have h2 := steps_lt hS
      have h3 : steps 9110782046170513408 = ZZ := by
        exact zz_steps
      omega
    obtain ⟨c, p, x, y, d, ec, ep, ex, ey, ed, lc, ld, rd, hd⟩ := two_sum_w a b s la lb (right_rung a ra) (right_rung b rb) N rs hz
    obtain ⟨g1, g2⟩ := sign_facts d ld rd
    obtain ⟨e1, e2⟩ := side_add (gp := decide (0 < val d)) (gn := decide (val d < 0)) ra rb N (fun _ => by rw [hd]; congr 1; exact propext ⟨fun h => by omega, fun h => by omega⟩) (fun _ => by rw [hd]; congr 1; exact propext ⟨fun h => by omega, fun h => by omega⟩) up
    have cS := fun w => refSide_any s d _ _ up w N.lt N.le g1 g2
    rw [e1, e2] at cS
    obtain ⟨p1, p2, _, _, _⟩ := pos_facts (rung s) rs
    have o : ((FloatKind.f64.format.order (rung s) 9110782046170513408 == some Ordering.gt) || (FloatKind.f64.format.order (rung s) 9110782046170513408 == some Ordering.eq)) = false := by
      rw [order_gt _ _ p1 (by decide) p2 (by decide), order_eq _ _ p1 (by decide) p2 (by decide)]
      have q1 := (pos_facts (rung s) rs).2.2.2.2
      have q2 := (pos_facts 9110782046170513408 (by decide)).2.2.2.2
      have q3 := steps_lt hS
      rw [q1, q2, decide_eq_false (by omega), decide_eq_false (by omega)]; rfl
    exact refAdd_walk a b s (rung s) c p x y d _ _ up w (Lib.hid c1) (Lib.hid c2) es (Lib.hid cI) (Lib.hid fun w => abs_any s w N.lt) o ec ep ex ey ed (Lib.hid cS)

end Go.Proofs.Ytmcecchcbfhfcaa
