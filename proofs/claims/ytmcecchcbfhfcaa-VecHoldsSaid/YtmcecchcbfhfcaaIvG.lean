
/- Package ival: what Has, Width, Hull, Meet and Pi answer. -/
import Derived.Test.YtmcecchcbfhfcaaIvE
namespace Go.Proofs.Ytmcecchcbfhfcaa
open Go.RowKit
attribute [local go_sem] run_store_float

/-- Not above, of any two words, as the machine compares. -/
def rawLe (a b : Nat) : Bool := (FloatKind.f64.format.order a b == some Ordering.lt) || (FloatKind.f64.format.order a b == some Ordering.eq)
/-- Is it right, and has it the word? -/
def hasB (a b x : Nat) : Bool := ivR a b && rawLe a x && rawLe x b

set_option maxHeartbeats 400000 in
theorem has_any (a b x : Nat) (w : World) (ha : a < 18446744073709551616) (hb : b < 18446744073709551616) :
    Calls Try.prog 44 #[.agg #[.float .f64 a, .float .f64 b], .float .f64 x] w fun r w' => r = .returned (.bool (hasB a b x)) ∧ Below w.heap.size w w' := by
  have cR := Lib.hid (fun w => ivRight_any a b w ha hb)
  clear ha hb
  cases hr : ivR a b
  · have R := Lib.hid (show hasB a b x = false by unfold hasB; rw [hr]; rfl)
    have HR := Lib.hid hr
    clear hr
    go_enter Try.func44, Try.ntmps44
    go_wp2_with fail
    refine (cR.out _).mono ?_
    rintro r w1 ⟨rfl, hb⟩
    rw [HR.out]
    obtain ⟨z1, c1, f1, B⟩ := after1 hb
    have HB := Lib.hid B
    clear hb B
    go_wp2
    go_ret
    exact ⟨by rw [R.out]; rfl, HB.out⟩
  · have HR := Lib.hid hr
    cases h1 : rawLe a x
    · have R := Lib.hid (show hasB a b x = false by unfold hasB; rw [hr, h1]; rfl)
      unfold rawLe at h1
      clear hr
      go_enter Try.func44, Try.ntmps44
      go_wp2_with fail
      refine (cR.out _).mono ?_
      rintro r w1 ⟨rfl, hb⟩
      rw [HR.out]
      obtain ⟨z1, c1, f1, B⟩ := after1 hb
      have HB := Lib.hid B
      clear hb B
      go_wp2
      go_ret
      exact ⟨by rw [R.out]; rfl, HB.out⟩
    · have R := Lib.hid (show hasB a b x = rawLe x b by unfold hasB; rw [hr, h1]; rfl)
      unfold rawLe at h1
      clear hr
      go_enter Try.func44, Try.ntmps44
      go_wp2_with fail
      refine (cR.out _).mono ?_
      rintro r w1 ⟨rfl, hb⟩
      rw [HR.out]
      obtain ⟨z1, c1, f1, B⟩ := after1 hb
      have HB := Lib.hid B
      clear hb B
      go_wp2
      go_ret
      exact ⟨by rw [R.out]; rfl, HB.out⟩

/-- The width: its word, and its error. -/
def widthW (a b : Nat) : Nat := if ivR a b then subW b a true else 0
def widthE (a b : Nat) : Int := if ivR a b then subE b a true else 20

set_option maxHeartbeats 400000 in
theorem width_any (a b : Nat) (w : World) (ha : a < 18446744073709551616) (hb : b < 18446744073709551616) :
    Calls Try.prog 46 #[.agg #[.float .f64 a, .float .f64 b]] w fun r w' => r = .returned (.tuple #[.float .f64 (widthW a b), .int .i64 (widthE a b)]) ∧ Below w.heap.size w w' := by
  have cR := Lib.hid (fun w => ivRight_any a b w ha hb)
  have cS := Lib.hid (fun w => sub_any b a true w hb ha)
  clear ha hb
  cases hr : ivR a b
  · have R := Lib.hid (show widthW a b = 0 ∧ widthE a b = 20 by unfold widthW widthE; simp [hr])
    have HR := Lib.hid hr
    clear hr
    go_enter Try.func46, Try.ntmps46
    go_wp2_with fail
    refine (cR.out _).mono ?_
    rintro r w1 ⟨rfl, hb⟩
    rw [HR.out]
    obtain ⟨z1, c1, f1, B⟩ := after1 hb
    have HB := Lib.hid B
    clear hb B
    go_wp2
    go_ret2
    exact ⟨by rw [R.out.1, R.out.2]; rfl, HB.out⟩
  · have R := Lib.hid (show widthW a b = subW b a true ∧ widthE a b = subE b a true by unfold widthW widthE; simp [hr])
    have HR := Lib.hid hr
    clear hr
    go_enter Try.func46, Try.ntmps46
    go_wp2_with fail
    refine (cR.out _).mono ?_
    rintro r w1 ⟨rfl, hb⟩
    rw [HR.out]
    obtain ⟨z1, c1, f1, B⟩ := after1 hb
    have HB := Lib.hid B
    clear hb B
    go_wp2_with fail
    refine (cS.out _).mono ?_
    rintro r w2 ⟨rfl, hb⟩
    have HB2 := Lib.hid (HB.out.trans (hb.mono HB.out.size))
    clear hb
    go_wp2
    go_ret2
    exact ⟨by rw [R.out.1, R.out.2]; rfl, HB2.out⟩

set_option maxHeartbeats 400000 in
theorem hull_any (al ah bl bh : Nat) (w : World) (la : al < 18446744073709551616) (ha : ah < 18446744073709551616) (lb : bl < 18446744073709551616) (hb : bh < 18446744073709551616) (r1 : rightB al = true) (r2 : rightB ah = true) (r3 : rightB bl = true) (r4 : rightB bh = true) :
    Calls Try.prog 101 #[.agg #[.float .f64 al, .float .f64 ah], .agg #[.float .f64 bl, .float .f64 bh]] w fun r w' => r = .returned (.agg #[.float .f64 (minW al bl), .float .f64 (maxW ah bh)]) ∧ Below w.heap.size w w' := by
  have m1 := fun ts t w => (run_less al bl la lb r1 r3 ts t w).1
  have m2 := fun ts t w => (run_less ah bh ha hb r2 r4 ts t w).2
  clear la ha lb hb r1 r2 r3 r4
  go_enter Try.func101, Try.ntmps101
  go_wp2
  exact bodyPost_ret (v := .agg #[.float .f64 (minW al bl), .float .f64 (maxW ah bh)]) (by simp [results, Try.results101, go_sem]) rfl ⟨rfl, bel3 _ _ _ _⟩

/-- What both have in common: is there anything; its ends. -/
def bothB (al ah bl bh : Nat) : Bool := leB (maxW al bl) (minW ah bh)
def meetLo (al ah bl bh : Nat) : Nat := if bothB al ah bl bh then maxW al bl else 0
def meetHi (al ah bl bh : Nat) : Nat := if bothB al ah bl bh then minW ah bh else 0

set_option maxHeartbeats 400000 in
theorem meet_any (al ah bl bh : Nat) (w : World) (la : al < 18446744073709551616) (ha : ah < 18446744073709551616) (lb : bl < 18446744073709551616) (hb : bh < 18446744073709551616) (r1 : rightB al = true) (r2 : rightB ah = true) (r3 : rightB bl = true) (r4 : rightB bh = true) :
    Calls Try.prog 68 #[.agg #[.float .f64 al, .float .f64 ah], .agg #[.float .f64 bl, .float .f64 bh]] w fun r w' => r = .returned (.tuple #[.agg #[.float .f64 (meetLo al ah bl bh), .float .f64 (meetHi al ah bl bh)], .bool (bothB al ah bl bh)]) ∧ Below w.heap.size w w' := by
  have m1 := fun ts t w => (run_less al bl la lb r1 r3 ts t w).2
  have m2 := fun ts t w => (run_less ah bh ha hb r2 r4 ts t w).1
  obtain ⟨x1, x2, _⟩ := max_facts al bl la lb r1 r3
  obtain ⟨y1, y2, _⟩ := min_facts ah bh ha hb r2 r4
  have o := order_le _ _ x1 y1 x2 y2
  clear la ha lb hb r1 r2 r3 r4 x1 x2 y1 y2
  cases h : leB (maxW al bl) (minW ah bh)
  · rw [h] at o
    have R := Lib.hid (show meetLo al ah bl bh = 0 ∧ meetHi al ah bl bh = 0 ∧ bothB al ah bl bh = false by unfold meetLo meetHi bothB; simp [h])
    clear h
    go_enter Try.func68, Try.ntmps68
    go_wp2
    rw [R.out.1, R.out.2.1, R.out.2.2]
    exact bodyPost_ret (v := .tuple #[.agg #[.float .f64 0, .float .f64 0], .bool false]) (by simp [results, Try.results68, go_sem]) rfl ⟨rfl, bel4 _ _ _ _ _⟩
  · rw [h] at o
    have R := Lib.hid (show meetLo al ah bl bh = maxW al bl ∧ meetHi al ah bl bh = minW ah bh ∧ bothB al ah bl bh = true by unfold meetLo meetHi bothB; simp [h])
    clear h
    go_enter Try.func68, Try.ntmps68
    go_wp2
    rw [R.out.1, R.out.2.1, R.out.2.2]
    exact bodyPost_ret (v := .tuple #[.agg #[.float .f64 (maxW al bl), .float .f64 (minW ah bh)], .bool true]) (by simp [results, Try.results68, go_sem]) rfl ⟨rfl, bel4 _ _ _ _ _⟩

theorem pi_any (w : World) :
    Calls Try.prog 157 #[] w fun r w' => r = .returned (.agg #[.float .f64 4614256656552045848, .float .f64 4614256656552045849]) ∧ Below w.heap.size w w' := by
  go_enter Try.func157, Try.ntmps157
  go_wp2
  exact bodyPost_ret (v := .agg #[.float .f64 4614256656552045848, .float .f64 4614256656552045849]) (by simp [results, Try.results157, go_sem]) rfl ⟨rfl, bel1 _ _⟩

end Go.Proofs.Ytmcecchcbfhfcaa
