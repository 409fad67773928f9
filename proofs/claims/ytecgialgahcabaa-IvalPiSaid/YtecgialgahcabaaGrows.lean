/- The statement DirGrows: no greater operand makes a lesser sum, product or root. No conditions. -/
import Derived.Test.YtecgialgahcabaaPartsW
namespace Go.Proofs.Ytecgialgahcabaa
open Go.RowKit

theorem Down.grows {s : Nat} {T T' : Int} {c c' : Nat} (h : Down s T c 0) (h' : Down s T' c' 0) (hT : T ≤ T') : val c ≤ val c' := by
  obtain ⟨a1, a2, a3, _⟩ := h.ok
  obtain ⟨_, _, _, b4⟩ := h'.ok
  exact b4 c a1 a2 (by omega)
theorem Up.grows {s : Nat} {T T' : Int} {c c' : Nat} (h : Up s T c 0) (h' : Up s T' c' 0) (hT : T ≤ T') : val c ≤ val c' := by
  obtain ⟨_, _, _, a4⟩ := h.ok
  obtain ⟨b1, b2, b3, _⟩ := h'.ok
  exact a4 c' b1 b2 (by omega)

/-- Two answers, the first one's real result being no greater. -/
def Pair (e f : Int) (x y : Nat) : Prop := (e = 0 ∧ f = 0 ∧ (FloatKind.f64.format.order x y == some Ordering.gt) = false) ∨ e = 10 ∨ (e = 0 ∧ f = 10)

theorem pair_of (s : Nat) (T T' : Int) (x y : Nat) (e f : Int) (up : Bool) (h : (up = false → Down s T x e) ∧ (up = true → Up s T x e)) (h' : (up = false → Down s T' y f) ∧ (up = true → Up s T' y f)) (hT : T ≤ T') : Pair e f x y := by
  cases up
  · have g := h.1 rfl
    have g' := h'.1 rfl
    rcases g.err with he | he
    · rcases g'.err with hf | hf
      · subst he; subst hf
        obtain ⟨a1, a2, _, _⟩ := g.ok
        obtain ⟨b1, b2, _, _⟩ := g'.ok
        refine Or.inl ⟨rfl, rfl, ?_⟩
        rw [order_gt x y a1 b1 a2 b2]
        exact decide_eq_false (by have := g.grows g' hT; omega)
      · exact Or.inr (Or.inr ⟨he, hf⟩)
    · exact Or.inr (Or.inl he)
  · have g := h.2 rfl
    have g' := h'.2 rfl
    rcases g.err with he | he
    · rcases g'.err with hf | hf
      · subst he; subst hf
        obtain ⟨a1, a2, _, _⟩ := g.ok
        obtain ⟨b1, b2, _, _⟩ := g'.ok
        refine Or.inl ⟨rfl, rfl, ?_⟩
        rw [order_gt x y a1 b1 a2 b2]
        exact decide_eq_false (by have := g.grows g' hT; omega)
      · exact Or.inr (Or.inr ⟨he, hf⟩)
    · exact Or.inr (Or.inl he)

theorem add_dir (a b : Nat) (ra : rightB a = true) (rb : rightB b = true) (up : Bool) : (up = false → Down 1 (val a + val b) (addW a b up) (addE a b up)) ∧ (up = true → Up 1 (val a + val b) (addW a b up) (addE a b up)) := by
  cases up
  · exact ⟨fun _ => add_down a b ra rb, fun h => (by cases h)⟩
  · exact ⟨fun h => (by cases h), fun _ => add_up a b ra rb⟩

theorem sqrt_le_of (a b : Nat) (hb : b < 18446744073709551616) (ra : rightB a = true) (rb : rightB b = true) (h : val a ≤ val b) (up : Bool) :
    (sqrtE a up = 0 ∧ sqrtE b up = 0 ∧ ((FloatKind.f64.format.order (sqrtW a up) (sqrtW b up) == some Ordering.lt) || (FloatKind.f64.format.order (sqrtW a up) (sqrtW b up) == some Ordering.eq)) = true) ∨ sqrtE a up = 12 := by
  cases sa : sgnB a
  · left
    have pa : 0 ≤ val a := by rw [val_pos sa]; omega
    have sb := pos_sgn hb rb (by omega)
    have hAB : steps (rung a) ≤ steps (rung b) := by rw [val_pos sa, val_pos sb] at h; omega
    obtain ⟨a1, a2, a3, a4⟩ := sqrt_rungs a ra sa up
    obtain ⟨b1, b2, b3, b4⟩ := sqrt_rungs b rb sb up
    have hle : sqrtW a up ≤ sqrtW b up := by
      have hm := Nat.mul_le_mul_right (2 ^ sq) hAB
      cases up
      · refine (b3 rfl _).1 (Nat.le_trans ((a3 rfl _).2 (Nat.le_refl _)) hm)
      · refine (a4 rfl _).1 (Nat.le_trans hm ((b4 rfl _).2 (Nat.le_refl _)))
    obtain ⟨f1, f2, f3⟩ := sw_facts false _ a2
    obtain ⟨g1, g2, g3⟩ := sw_facts false _ b2
    rw [sw_false] at f1 f2 f3 g1 g2 g3
    refine ⟨a1, b1, ?_⟩
    rw [le_fact _ _ f1 g1 f2 g2]
    refine decide_eq_true ?_
    rw [f3, g3]
    exact Int.ofNat_le.2 (steps_le hle)
  · right
    exact (if_pos ra).trans (if_pos sa)

theorem abs_any (c : Nat) (w : World) (hc : c < 18446744073709551616) :
    Calls Try.prog 38 #[.float .f64 c] w fun r w' => r = .returned (.float .f64 (rung c)) ∧ w = w' := by
  have h1 := run_bits
  have h2 := run_frombits
  have h3 := andNot_sign c hc
  go_enter Try.func38, Try.ntmps38
  go_wp2
  go_ret
  exact ⟨rfl, rfl⟩

theorem run_min (a b : Nat) (ts : Array TypeId) (t : TypeId) (w : World) (h : FloatKind.f64.format.order a b = some Ordering.lt ∨ a = b ∧ FloatKind.f64.format.order a b = some Ordering.eq) :
    (Builtin.min_ ts t #[.float .f64 a, .float .f64 b]).run Try.prog w = .ok (.float .f64 a) w ∧ (Builtin.max_ ts t #[.float .f64 a, .float .f64 b]).run Try.prog w = .ok (.float .f64 b) w := by
  rcases h with h | ⟨rfl, h⟩
  · simp [Builtin.min_, Builtin.min2, Builtin.max_, Builtin.max2, h]
  · simp [Builtin.min_, Builtin.min2, Builtin.max_, Builtin.max2, h]
theorem run_max (a b : Nat) (ts : Array TypeId) (t : TypeId) (w : World) (h : FloatKind.f64.format.order a b = some Ordering.gt) :
    (Builtin.min_ ts t #[.float .f64 a, .float .f64 b]).run Try.prog w = .ok (.float .f64 b) w ∧ (Builtin.max_ ts t #[.float .f64 a, .float .f64 b]).run Try.prog w = .ok (.float .f64 a) w := by
  simp [Builtin.min_, Builtin.min2, Builtin.max_, Builtin.max2, h]

set_option maxRecDepth 100000 in
set_option maxHeartbeats 8000000 in
theorem grows_w1 (a b c : Nat) (up : Bool) (w : World) (cRa : Hid (∀ w, Calls Try.prog 27 #[.float .f64 a] w fun r w' => r = .returned (.bool false) ∧ w = w')) :
    Calls Try.prog 7 #[.float .f64 a, .float .f64 b, .float .f64 c, .bool up] w fun r w' => r = .returned (.bool true) ∧ Below w.heap.size w w' := by
  go_enter Try.func7, Try.ntmps7
  go_wp2_with fail
  refine (cRa.out _).mono ?_
  rintro r ww ⟨rfl, rfl⟩
  go_wp2_with fail
  refine (awake_any _).mono ?_
  rintro r w1 ⟨rfl, h1⟩
  have H1 := Lib.hid h1; clear h1
  go_wp2
  go_ret
  exact ⟨rfl, H1.out⟩

set_option maxRecDepth 100000 in
set_option maxHeartbeats 8000000 in
theorem grows_w2 (a b c : Nat) (up : Bool) (w : World) (cRa : Hid (∀ w, Calls Try.prog 27 #[.float .f64 a] w fun r w' => r = .returned (.bool true) ∧ w = w')) (cRb : Hid (∀ w, Calls Try.prog 27 #[.float .f64 b] w fun r w' => r = .returned (.bool false) ∧ w = w')) :
    Calls Try.prog 7 #[.float .f64 a, .float .f64 b, .float .f64 c, .bool up] w fun r w' => r = .returned (.bool true) ∧ Below w.heap.size w w' := by
  go_enter Try.func7, Try.ntmps7
  go_wp2_with fail
  refine (cRa.out _).mono ?_
  rintro r ww ⟨rfl, rfl⟩
  go_wp2_with fail
  refine (cRb.out _).mono ?_
  rintro r ww ⟨rfl, rfl⟩
  go_wp2_with fail
  refine (awake_any _).mono ?_
  rintro r w1 ⟨rfl, h1⟩
  have H1 := Lib.hid h1; clear h1
  go_wp2
  go_ret
  exact ⟨rfl, H1.out⟩

set_option maxRecDepth 100000 in
set_option maxHeartbeats 8000000 in
theorem grows_w3 (a b c : Nat) (up : Bool) (w : World) (cRa : Hid (∀ w, Calls Try.prog 27 #[.float .f64 a] w fun r w' => r = .returned (.bool true) ∧ w = w')) (cRb : Hid (∀ w, Calls Try.prog 27 #[.float .f64 b] w fun r w' => r = .returned (.bool true) ∧ w = w')) (cRc : Hid (∀ w, Calls Try.prog 27 #[.float .f64 c] w fun r w' => r = .returned (.bool false) ∧ w = w')) :
    Calls Try.prog 7 #[.float .f64 a, .float .f64 b, .float .f64 c, .bool up] w fun r w' => r = .returned (.bool true) ∧ Below w.heap.size w w' := by
  go_enter Try.func7, Try.ntmps7
  go_wp2_with fail
  refine (cRa.out _).mono ?_
  rintro r ww ⟨rfl, rfl⟩
  go_wp2_with fail
  refine (cRb.out _).mono ?_
  rintro r ww ⟨rfl, rfl⟩
  go_wp2_with fail
  refine (cRc.out _).mono ?_
  rintro r ww ⟨rfl, rfl⟩
  go_wp2_with fail
  refine (awake_any _).mono ?_
  rintro r w1 ⟨rfl, h1⟩
  have H1 := Lib.hid h1; clear h1
  go_wp2
  go_ret
  exact ⟨rfl, H1.out⟩

set_option maxRecDepth 100000 in
set_option maxHeartbeats 8000000 in
theorem grows_walk (a b c : Nat) (up : Bool) (w : World) (cRa : Hid (∀ w, Calls Try.prog 27 #[.float .f64 a] w fun r w' => r = .returned (.bool true) ∧ w = w')) (cRb : Hid (∀ w, Calls Try.prog 27 #[.float .f64 b] w fun r w' => r = .returned (.bool true) ∧ w = w')) (cRc : Hid (∀ w, Calls Try.prog 27 #[.float .f64 c] w fun r w' => r = .returned (.bool true) ∧ w = w'))
    (lo hi d x1 y1 x2 y2 x3 y3 : Nat) (e1 f1 e2 f2 e3 f3 : Int)
    (hmin : ∀ ts t w, (Builtin.min_ ts t #[.float .f64 a, .float .f64 b]).run Try.prog w = .ok (.float .f64 lo) w) (hmax : ∀ ts t w, (Builtin.max_ ts t #[.float .f64 a, .float .f64 b]).run Try.prog w = .ok (.float .f64 hi) w)
    (cA : Hid (∀ w, Calls Try.prog 14 #[.float .f64 lo, .float .f64 c, .bool up] w fun r w' => r = .returned (.tuple #[.float .f64 x1, .int .i64 e1]) ∧ Below w.heap.size w w'))
    (cB : Hid (∀ w, Calls Try.prog 14 #[.float .f64 hi, .float .f64 c, .bool up] w fun r w' => r = .returned (.tuple #[.float .f64 y1, .int .i64 f1]) ∧ Below w.heap.size w w'))
    (cAbs : Hid (∀ w, Calls Try.prog 38 #[.float .f64 c] w fun r w' => r = .returned (.float .f64 d) ∧ w = w'))
    (cC : Hid (∀ w, Calls Try.prog 16 #[.float .f64 lo, .float .f64 d, .bool up] w fun r w' => r = .returned (.tuple #[.float .f64 x2, .int .i64 e2]) ∧ Below w.heap.size w w'))
    (cD : Hid (∀ w, Calls Try.prog 16 #[.float .f64 hi, .float .f64 d, .bool up] w fun r w' => r = .returned (.tuple #[.float .f64 y2, .int .i64 f2]) ∧ Below w.heap.size w w'))
    (cE : Hid (∀ w, Calls Try.prog 23 #[.float .f64 lo, .bool up] w fun r w' => r = .returned (.tuple #[.float .f64 x3, .int .i64 e3]) ∧ Below w.heap.size w w'))
    (cF : Hid (∀ w, Calls Try.prog 23 #[.float .f64 hi, .bool up] w fun r w' => r = .returned (.tuple #[.float .f64 y3, .int .i64 f3]) ∧ Below w.heap.size w w'))
    (p1 : Hid (Pair e1 f1 x1 y1)) (p2 : Hid (Pair e2 f2 x2 y2)) (p3 : Hid ((e3 = 0 ∧ f3 = 0 ∧ (((FloatKind.f64.format.order x3 y3 == some Ordering.lt) || (FloatKind.f64.format.order x3 y3 == some Ordering.eq)) = true)) ∨ e3 = 12)) :
    Calls Try.prog 7 #[.float .f64 a, .float .f64 b, .float .f64 c, .bool up] w fun r w' => r = .returned (.bool true) ∧ Below w.heap.size w w' := by
  go_enter Try.func7, Try.ntmps7
  go_wp2_with fail
  refine (cRa.out _).mono ?_
  rintro r ww ⟨rfl, rfl⟩
  go_wp2_with fail
  refine (cRb.out _).mono ?_
  rintro r ww ⟨rfl, rfl⟩
  go_wp2_with fail
  refine (cRc.out _).mono ?_
  rintro r ww ⟨rfl, rfl⟩
  go_wp2_with fail
  refine (cA.out _).mono ?_
  rintro r w1 ⟨rfl, h1⟩
  have H1 := Lib.hid h1; clear h1
  go_wp2_with fail
  refine (cB.out _).mono ?_
  rintro r w2 ⟨rfl, h2⟩
  have H2 := Lib.hid (H1.out.trans (h2.mono H1.out.size)); clear h2 H1
  rcases p1.out with ⟨rfl, rfl, s1⟩ | rfl | ⟨rfl, rfl⟩
  all_goals
    go_wp2_with fail
    refine (cAbs.out _).mono ?_
    rintro r ww ⟨rfl, rfl⟩
    go_wp2_with fail
    refine (cC.out _).mono ?_
    rintro r w3 ⟨rfl, h3⟩
    have H3 := Lib.hid (H2.out.trans (h3.mono H2.out.size)); clear h3 H2
    go_wp2_with fail
    refine (cD.out _).mono ?_
    rintro r w4 ⟨rfl, h4⟩
    have H4 := Lib.hid (H3.out.trans (h4.mono H3.out.size)); clear h4 H3
    rcases p2.out with ⟨rfl, rfl, s2⟩ | rfl | ⟨rfl, rfl⟩
    all_goals
      go_wp2_with fail
      refine (cE.out _).mono ?_
      rintro r w5 ⟨rfl, h5⟩
      have H5 := Lib.hid (H4.out.trans (h5.mono H4.out.size)); clear h5 H4
      go_wp2_with fail
      refine (cF.out _).mono ?_
      rintro r w6 ⟨rfl, h6⟩
      have H6 := Lib.hid (H5.out.trans (h6.mono H5.out.size)); clear h6 H5
      rcases p3.out with ⟨rfl, rfl, s3⟩ | rfl
      all_goals
        go_wp2_with fail
        refine (awake_any _).mono ?_
        rintro r w7 ⟨rfl, h7⟩
        have H7 := Lib.hid (H6.out.trans (h7.mono H6.out.size)); clear h7 H6
        go_wp2
        go_ret
        exact ⟨rfl, H7.out⟩

theorem grows_ord (a b c lo hi : Nat) (up : Bool) (w : World) (ha : a < 18446744073709551616) (hb : b < 18446744073709551616) (hc : c < 18446744073709551616) (ra : rightB a = true) (rb : rightB b = true) (rc : rightB c = true)
    (hl : lo < 18446744073709551616) (hh : hi < 18446744073709551616) (rl : rightB lo = true) (rh : rightB hi = true) (hle : val lo ≤ val hi)
    (hmin : ∀ ts t w, (Builtin.min_ ts t #[.float .f64 a, .float .f64 b]).run Try.prog w = .ok (.float .f64 lo) w) (hmax : ∀ ts t w, (Builtin.max_ ts t #[.float .f64 a, .float .f64 b]).run Try.prog w = .ok (.float .f64 hi) w) :
    Calls Try.prog 7 #[.float .f64 a, .float .f64 b, .float .f64 c, .bool up] w fun r w' => r = .returned (.bool true) ∧ Below w.heap.size w w' := by
  have hd : rung c < 18446744073709551616 := by unfold rung; omega
  obtain ⟨_, rd, vd⟩ := sw_facts false (rung c) (rung_max rc)
  rw [sw_false] at rd vd
  have pd : 0 ≤ val (rung c) := by rw [vd]; exact Int.natCast_nonneg _
  exact grows_walk a b c up w (Lib.hid (fun w => right_is a _ w ha ra)) (Lib.hid (fun w => right_is b _ w hb rb)) (Lib.hid (fun w => right_is c _ w hc rc)) lo hi (rung c) _ _ _ _ _ _ _ _ _ _ _ _ hmin hmax
    (Lib.hid (fun w => add_any lo c up w hl hc)) (Lib.hid (fun w => add_any hi c up w hh hc)) (Lib.hid (fun w => abs_any c w hc)) (Lib.hid (fun w => mul_any lo (rung c) up w hl hd)) (Lib.hid (fun w => mul_any hi (rung c) up w hh hd))
    (Lib.hid (fun w => sqrt_any lo up w hl)) (Lib.hid (fun w => sqrt_any hi up w hh))
    (Lib.hid (pair_of 1 _ _ _ _ _ _ up (add_dir lo c rl rc up) (add_dir hi c rh rc up) (by omega)))
    (Lib.hid (pair_of _ _ _ _ _ _ _ up (mul_dir lo (rung c) rl rd up) (mul_dir hi (rung c) rh rd up) (Int.mul_le_mul_of_nonneg_right hle pd)))
    (Lib.hid (sqrt_le_of lo hi hh rl rh hle up))

theorem grows_any (a b c : Nat) (up : Bool) (w : World) (ha : a < 18446744073709551616) (hb : b < 18446744073709551616) (hc : c < 18446744073709551616) :
    Calls Try.prog 7 #[.float .f64 a, .float .f64 b, .float .f64 c, .bool up] w fun r w' => r = .returned (.bool true) ∧ Below w.heap.size w w' := by
  cases ra : rightB a
  · exact grows_w1 a b c up w (Lib.hid (fun w => right_is a _ w ha ra))
  · cases rb : rightB b
    · exact grows_w2 a b c up w (Lib.hid (fun w => right_is a _ w ha ra)) (Lib.hid (fun w => right_is b _ w hb rb))
    · cases rc : rightB c
      · exact grows_w3 a b c up w (Lib.hid (fun w => right_is a _ w ha ra)) (Lib.hid (fun w => right_is b _ w hb rb)) (Lib.hid (fun w => right_is c _ w hc rc))
      · have ho := order_val a b ha hb (right_rung a ra) (right_rung b rb)
        rcases Int.lt_trichotomy (val a) (val b) with g | g | g
        · rw [Int.compare_eq_lt.2 g] at ho
          exact grows_ord a b c a b up w ha hb hc ra rb rc ha hb ra rb (by omega) (fun ts t w => (run_min a b ts t w (Or.inl ho)).1) (fun ts t w => (run_min a b ts t w (Or.inl ho)).2)
        · rw [Int.compare_eq_eq.2 g] at ho
          have e := val_inj ha hb ra rb g
          exact grows_ord a b c a b up w ha hb hc ra rb rc ha hb ra rb (by omega) (fun ts t w => (run_min a b ts t w (Or.inr ⟨e, ho⟩)).1) (fun ts t w => (run_min a b ts t w (Or.inr ⟨e, ho⟩)).2)
        · rw [Int.compare_eq_gt.2 g] at ho
          exact grows_ord a b c b a up w ha hb hc ra rb rc hb ha rb ra (by omega) (fun ts t w => (run_max a b ts t w ho).1) (fun ts t w => (run_max a b ts t w ho).2)

end Go.Proofs.Ytecgialgahcabaa
