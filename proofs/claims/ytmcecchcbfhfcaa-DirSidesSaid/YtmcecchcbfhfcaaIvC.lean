
/- Package ival: what the small functions on ends answer: crosses, inOrder, endOf, single, negative, magnitude, Of. -/
import Derived.Test.YtmcecchcbfhfcaaIvB
import Derived.Test.YtmcecchcbfhfcaaGrows
namespace Go.Proofs.Ytmcecchcbfhfcaa
open Go.RowKit
attribute [local go_sem] run_store_float

/-- The lesser and the greater one of two. -/
def minW (a b : Nat) : Nat := if val b < val a then b else a
def maxW (a b : Nat) : Nat := if val a < val b then b else a

theorem run_less (a b : Nat) (ha : a < 18446744073709551616) (hb : b < 18446744073709551616) (ra : rightB a = true) (rb : rightB b = true) (ts : Array TypeId) (t : TypeId) (w : World) :
    (Builtin.min_ ts t #[.float .f64 a, .float .f64 b]).run Try.prog w = .ok (.float .f64 (minW a b)) w ∧ (Builtin.max_ ts t #[.float .f64 a, .float .f64 b]).run Try.prog w = .ok (.float .f64 (maxW a b)) w := by
  have o := order_val a b ha hb (right_rung a ra) (right_rung b rb)
  unfold minW maxW
  rcases Int.lt_trichotomy (val a) (val b) with g | g | g
  · rw [if_neg (by omega), if_pos g]
    rw [Int.compare_eq_lt.2 g] at o
    exact run_min a b ts t w (Or.inl o)
  · rw [if_neg (by omega), if_neg (by omega)]
    have e := val_inj ha hb ra rb g
    rw [Int.compare_eq_eq.2 g] at o
    have := run_min a b ts t w (Or.inr ⟨e, o⟩)
    rw [← e] at this ⊢
    exact this
  · rw [if_pos g, if_neg (by omega)]
    rw [Int.compare_eq_gt.2 g] at o
    exact run_max a b ts t w o

theorem min_facts (a b : Nat) (ha : a < 18446744073709551616) (hb : b < 18446744073709551616) (ra : rightB a = true) (rb : rightB b = true) : minW a b < 18446744073709551616 ∧ rightB (minW a b) = true ∧ val (minW a b) = min (val a) (val b) := by
  unfold minW
  by_cases h : val b < val a
  · rw [if_pos h]; exact ⟨hb, rb, by omega⟩
  · rw [if_neg h]; exact ⟨ha, ra, by omega⟩
theorem max_facts (a b : Nat) (ha : a < 18446744073709551616) (hb : b < 18446744073709551616) (ra : rightB a = true) (rb : rightB b = true) : maxW a b < 18446744073709551616 ∧ rightB (maxW a b) = true ∧ val (maxW a b) = max (val a) (val b) := by
  unfold maxW
  by_cases h : val a < val b
  · rw [if_pos h]; exact ⟨hb, rb, by omega⟩
  · rw [if_neg h]; exact ⟨ha, ra, by omega⟩

theorem val_nil : val 0 = 0 := by decide

/-- 0 less a number: the number, turned. -/
theorem zero_sub (a : Nat) (ha : a < 18446744073709551616) (ra : rightB a = true) : floatBits .sub .f64 0 a = some (turnW a) := by
  by_cases h0 : a = 0
  · subst h0; decide +kernel
  · obtain ⟨r, h1, h2⟩ := sub_beside 0 a (by decide) ha right_0 ra
    obtain ⟨t1, t2, t3⟩ := turn_facts a ha ra
    have hv : val 0 - val a = val (turnW a) := by rw [t3, val_nil]; omega
    have hd := sub_down 0 a right_0 ra
    have hu := sub_up 0 a right_0 ra
    rw [hv] at hd hu h2
    have d0 : subE 0 a false = 0 := by
      rcases hd.err with g | g
      · exact g
      · rcases hd with ⟨g', _⟩ | ⟨_, _, g'⟩
        · omega
        · have := g' _ t1 t2; omega
    have u0 : subE 0 a true = 0 := by
      rcases hu.err with g | g
      · exact g
      · rcases hu with ⟨g', _⟩ | ⟨_, _, g'⟩
        · omega
        · have := g' _ t1 t2; omega
    rw [d0] at hd
    rw [u0] at hu
    obtain ⟨x1, x2, x3, x4⟩ := hd.ok
    obtain ⟨y1, y2, y3, y4⟩ := hu.ok
    have ex : val (subW 0 a false) = val (turnW a) := by have := x4 _ t1 t2 (by omega); omega
    have ey : val (subW 0 a true) = val (turnW a) := by have := y4 _ t1 t2 (by omega); omega
    obtain ⟨r1, r2, r3⟩ := h2 _ _ hd hu
    have er : val r = val (turnW a) := by omega
    have hne : val r ≠ 0 := by
      rw [er, t3]
      intro h
      have : val a = val 0 := by rw [val_nil]; omega
      exact h0 (val_inj ha (by decide) ra right_0 this)
    have rr : rightB r = true := by
      have hr : r ≠ 9223372036854775808 := by
        intro h; apply hne; rw [h]; decide
      unfold rung at r2
      unfold rightB
      rw [decide_eq_true r2, decide_eq_false hr]; rfl
    rw [h1, val_inj r1 t1 rr t2 er]

theorem run_zero_sub (a : Nat) (ha : a < 18446744073709551616) (ra : rightB a = true) (t : TypeId) (w : World) : (binOp .sub t (.float .f64 0) (.float .f64 a)).run Try.prog w = .ok (.float .f64 (turnW a)) w :=
  run_float_arith (P := Try.prog) (w := w) .sub t .f64 0 a _ (zero_sub a ha ra)

/-- Has it numbers of both signs? -/
def crossB (a b : Nat) : Bool := ltB a 0 && ltB 0 b

theorem lt_zero (a : Nat) (ha : a < 18446744073709551616) (ra : rightB a = true) : (FloatKind.f64.format.order a 0 == some Ordering.lt) = ltB a 0 := order_lt a 0 ha (by decide) ra right_0
theorem gt_zero (a : Nat) (ha : a < 18446744073709551616) (ra : rightB a = true) : (FloatKind.f64.format.order a 0 == some Ordering.gt) = ltB 0 a := order_gt a 0 ha (by decide) ra right_0
theorem ge_zero (a : Nat) (ha : a < 18446744073709551616) (ra : rightB a = true) : ((FloatKind.f64.format.order a 0 == some Ordering.gt) || (FloatKind.f64.format.order a 0 == some Ordering.eq)) = leB 0 a := by
  rw [order_gt a 0 ha (by decide) ra right_0, order_eq a 0 ha (by decide) ra right_0]
  unfold leB
  by_cases h : val 0 ≤ val a
  · rw [decide_eq_true h]
    by_cases g : val 0 < val a
    · rw [decide_eq_true g]; rfl
    · rw [decide_eq_true (show val a = val 0 by omega), Bool.or_true]
  · rw [decide_eq_false h, decide_eq_false (by omega), decide_eq_false (by omega)]; rfl
theorem le_zero (a : Nat) (ha : a < 18446744073709551616) (ra : rightB a = true) : ((FloatKind.f64.format.order a 0 == some Ordering.lt) || (FloatKind.f64.format.order a 0 == some Ordering.eq)) = leB a 0 := order_le a 0 ha (by decide) ra right_0

theorem crosses_any (a b : Nat) (w : World) (ha : a < 18446744073709551616) (hb : b < 18446744073709551616) (ra : rightB a = true) (rb : rightB b = true) :
    Calls Try.prog 113 #[.agg #[.float .f64 a, .float .f64 b]] w fun r w' => r = .returned (.bool (crossB a b)) ∧ Below w.heap.size w w' := by
  have o1 := lt_zero a ha ra
  have o2 := gt_zero b hb rb
  cases h : ltB a 0
  · rw [h] at o1
    have R := Lib.hid (show crossB a b = false by unfold crossB; rw [h]; rfl)
    clear o2 h
    go_enter Try.func113, Try.ntmps113
    go_wp2
    go_ret
    exact ⟨by rw [R.out]; rfl, bel1 _ _⟩
  · rw [h] at o1
    have R := Lib.hid (show crossB a b = ltB 0 b by unfold crossB; rw [h]; rfl)
    clear h
    go_enter Try.func113, Try.ntmps113
    go_wp2
    go_ret
    exact ⟨by rw [R.out]; rfl, bel1 _ _⟩

/-- Which end of a has the least product with b, and which the greatest one. -/
def lowOf (al ah bl : Nat) : Nat := if ltB bl 0 then ah else al
def highOf (al ah bl : Nat) : Nat := if ltB bl 0 then al else ah

theorem undrewB {w w1 : World} {o q : Obj} (h : w1 = ((w.alloc o).alloc q).drew) : Below w.heap.size w w1 := by rw [h]; exact (bel2 w o q).drew

theorem inOrder_any (al ah bl bh : Nat) (w : World) (hb : bl < 18446744073709551616) (rb : rightB bl = true) :
    Calls Try.prog 115 #[.agg #[.float .f64 al, .float .f64 ah], .agg #[.float .f64 bl, .float .f64 bh]] w fun r w' => r = .returned (.tuple #[.float .f64 (lowOf al ah bl), .float .f64 (highOf al ah bl)]) ∧ Below w.heap.size w w' := by
  have o1 := lt_zero bl hb rb
  cases h : ltB bl 0
  · rw [h] at o1
    have R := Lib.hid (show lowOf al ah bl = al ∧ highOf al ah bl = ah by unfold lowOf highOf; simp [h])
    clear h
    go_enter Try.func115, Try.ntmps115
    go_wp2
    go_quiet (fail)
    go_wp2
    go_ret2
    exact ⟨by rw [R.out.1, R.out.2]; rfl, Below.drewN (bel2 _ _ _) _⟩
  · rw [h] at o1
    have R := Lib.hid (show lowOf al ah bl = ah ∧ highOf al ah bl = al by unfold lowOf highOf; simp [h])
    clear h
    go_enter Try.func115, Try.ntmps115
    go_wp2
    go_quiet (fail)
    go_wp2
    go_ret2
    exact ⟨by rw [R.out.1, R.out.2]; rfl, Below.drewN (bel2 _ _ _) _⟩

/-- The upper end, or the lower one. -/
def endW (lo hi : Nat) (up : Bool) : Nat := if up then hi else lo

theorem endOf_any (a b : Nat) (up : Bool) (w : World) :
    Calls Try.prog 116 #[.agg #[.float .f64 a, .float .f64 b], .bool up] w fun r w' => r = .returned (.float .f64 (endW a b up)) ∧ Below w.heap.size w w' := by
  cases up
  · go_enter Try.func116, Try.ntmps116
    go_wp2
    go_ret
    exact ⟨rfl, bel1 _ _⟩
  · go_enter Try.func116, Try.ntmps116
    go_wp2
    go_ret
    exact ⟨rfl, bel1 _ _⟩

theorem single_any (a : Nat) (w : World) :
    Calls Try.prog 114 #[.float .f64 a] w fun r w' => r = .returned (.agg #[.float .f64 a, .float .f64 a]) ∧ Below w.heap.size w w' := by
  go_enter Try.func114, Try.ntmps114
  go_wp2
  exact bodyPost_ret (v := .agg #[.float .f64 a, .float .f64 a]) (by simp [results, Try.results114, go_sem]) rfl ⟨rfl, bel1 _ _⟩

theorem ivNeg_any (a b : Nat) (w : World) (ha : a < 18446744073709551616) (hb : b < 18446744073709551616) (ra : rightB a = true) (rb : rightB b = true) :
    Calls Try.prog 110 #[.agg #[.float .f64 a, .float .f64 b]] w fun r w' => r = .returned (.agg #[.float .f64 (turnW b), .float .f64 (turnW a)]) ∧ Below w.heap.size w w' := by
  have h1 := run_zero_sub a ha ra
  have h2 := run_zero_sub b hb rb
  clear ra rb ha hb
  go_enter Try.func110, Try.ntmps110
  go_wp2
  exact bodyPost_ret (v := .agg #[.float .f64 (turnW b), .float .f64 (turnW a)]) (by simp [results, Try.results110, go_sem]) rfl ⟨rfl, bel2 _ _ _⟩

/-- All absolute values. -/
def absLo (a b : Nat) : Nat := if leB 0 a then a else if leB b 0 then turnW b else 0
def absHi (a b : Nat) : Nat := if leB 0 a then b else if leB b 0 then turnW a else maxW b (turnW a)

set_option maxHeartbeats 400000 in
theorem magnitude_any (a b : Nat) (w : World) (ha : a < 18446744073709551616) (hb : b < 18446744073709551616) (ra : rightB a = true) (rb : rightB b = true) :
    Calls Try.prog 106 #[.agg #[.float .f64 a, .float .f64 b]] w fun r w' => r = .returned (.agg #[.float .f64 (absLo a b), .float .f64 (absHi a b)]) ∧ Below w.heap.size w w' := by
  have o1 := ge_zero a ha ra
  have o2 := le_zero b hb rb
  obtain ⟨t1, t2, _⟩ := turn_facts a ha ra
  have hm := fun ts t w => (run_less b (turnW a) hb t1 rb t2 ts t w).2
  have cN := Lib.hid (fun w => ivNeg_any a b w ha hb ra rb)
  clear ra rb ha hb t1 t2
  cases h : leB 0 a
  · rw [h] at o1
    cases g : leB b 0
    · rw [g] at o2
      have R := Lib.hid (show absLo a b = 0 ∧ absHi a b = maxW b (turnW a) by unfold absLo absHi; simp [h, g])
      clear h g
      go_enter Try.func106, Try.ntmps106
      go_wp2_with fail
      refine (cN.out _).mono ?_
      rintro r w1 ⟨rfl, hb⟩
      obtain ⟨z1, z2, c1, f1, c2, f2, b1⟩ := after2 hb
      have B1 := Lib.hid b1
      clear hb b1
      go_wp2
      rw [R.out.1, R.out.2]
      refine bodyPost_ret (v := .agg #[.float .f64 0, .float .f64 (maxW b (turnW a))]) (by simp [results, Try.results106, go_sem, c2, z1]) rfl ⟨rfl, ?_⟩
      exact (((B1.out.setCell (by show _ ≤ w.heap.size + 1; omega) _).setCell (by show _ ≤ w.heap.size + 1; omega) _).alloc (by rw [size_set, size_set]; omega) _)
    · rw [g] at o2
      have R := Lib.hid (show absLo a b = turnW b ∧ absHi a b = turnW a by unfold absLo absHi; simp [h, g])
      clear h g
      go_enter Try.func106, Try.ntmps106
      go_wp2_with fail
      refine (cN.out _).mono ?_
      rintro r w1 ⟨rfl, hb⟩
      obtain ⟨z1, z2, c1, f1, c2, f2, b1⟩ := after2 hb
      have B1 := Lib.hid b1
      clear hb b1
      go_wp2
      rw [R.out.1, R.out.2]
      refine bodyPost_ret (v := .agg #[.float .f64 (turnW b), .float .f64 (turnW a)]) (by simp [results, Try.results106, go_sem, c2, z1]) rfl ⟨rfl, ?_⟩
      exact (((B1.out.setCell (by show _ ≤ w.heap.size + 1; omega) _).setCell (by show _ ≤ w.heap.size + 1; omega) _).alloc (by rw [size_set, size_set]; omega) _)
  · rw [h] at o1
    have R := Lib.hid (show absLo a b = a ∧ absHi a b = b by unfold absLo absHi; simp [h])
    clear h
    go_enter Try.func106, Try.ntmps106
    go_wp2
    rw [R.out.1, R.out.2]
    exact bodyPost_ret (v := .agg #[.float .f64 a, .float .f64 b]) (by simp [results, Try.results106, go_sem]) rfl ⟨rfl, bel2 _ _ _⟩

/-- What Of, and Num, answer. -/
def ofI (a : Nat) : Res := if rightB a then ⟨0, a, a⟩ else ⟨13, 0, 0⟩

set_option maxHeartbeats 400000 in
theorem of_any (a : Nat) (w : World) (ha : a < 18446744073709551616) :
    Calls Try.prog 112 #[.float .f64 a] w fun r w' => r = .returned (.tuple #[(ofI a).val, .int .i64 (ofI a).e]) ∧ Below w.heap.size w w' := by
  have cR := Lib.hid (fun w => right_any a w ha)
  cases h : rightB a
  · have R := Lib.hid h
    have E := Lib.hid (show ofI a = ⟨13, 0, 0⟩ by unfold ofI; rw [h]; rfl)
    clear h
    go_enter Try.func112, Try.ntmps112
    go_wp2_with fail
    refine (cR.out _).mono ?_
    rintro r w1 ⟨rfl, rfl⟩
    rw [R.out]
    go_wp2
    rw [E.out]
    exact bodyPost_ret (v := .tuple #[.agg #[.float .f64 0, .float .f64 0], .int .i64 13]) (by simp [results, Try.results112, go_sem]) rfl ⟨rfl, bel1 _ _⟩
  · have R := Lib.hid h
    have E := Lib.hid (show ofI a = ⟨0, a, a⟩ by unfold ofI; rw [h]; rfl)
    clear h
    go_enter Try.func112, Try.ntmps112
    go_wp2_with fail
    refine (cR.out _).mono ?_
    rintro r w1 ⟨rfl, rfl⟩
    rw [R.out]
    go_wp2
    rw [E.out]
    exact bodyPost_ret (v := .tuple #[.agg #[.float .f64 a, .float .f64 a], .int .i64 0]) (by simp [results, Try.results112, go_sem]) rfl ⟨rfl, bel1 _ _⟩

end Go.Proofs.Ytmcecchcbfhfcaa
