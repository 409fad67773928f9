
/- Package ival: what Right, works, takes, fail and Err answer. -/
import Derived.Test.YtmcecchcbfhfcaaSidesA
import Derived.Test.YtmcecchcbfhfcaaPut
namespace Go.Proofs.Ytmcecchcbfhfcaa
open Go.RowKit
attribute [local go_sem] run_store_float

/-- Not above; below: by their numbers. -/
def leB (a b : Nat) : Bool := decide (val a ≤ val b)
def ltB (a b : Nat) : Bool := decide (val a < val b)
/-- Is it an interval? -/
def ivR (a b : Nat) : Bool := rightB a && rightB b && leB a b

theorem order_le (a b : Nat) (ha : a < 18446744073709551616) (hb : b < 18446744073709551616) (ra : rightB a = true) (rb : rightB b = true) :
    ((FloatKind.f64.format.order a b == some Ordering.lt) || (FloatKind.f64.format.order a b == some Ordering.eq)) = leB a b := by
  rw [order_val a b ha hb (right_rung a ra) (right_rung b rb)]
  unfold leB
  rcases Int.lt_trichotomy (val a) (val b) with g | g | g
  · rw [Int.compare_eq_lt.2 g, decide_eq_true (by omega)]; rfl
  · rw [Int.compare_eq_eq.2 g, decide_eq_true (by omega)]; rfl
  · rw [Int.compare_eq_gt.2 g, decide_eq_false (by omega)]; rfl

set_option maxHeartbeats 400000 in
theorem ivRight_any (a b : Nat) (w : World) (ha : a < 18446744073709551616) (hb : b < 18446744073709551616) :
    Calls Try.prog 43 #[.agg #[.float .f64 a, .float .f64 b]] w fun e w' => e = .returned (.bool (ivR a b)) ∧ Below w.heap.size w w' := by
  have cRa := Lib.hid (fun w => right_any a w ha)
  have cRb := Lib.hid (fun w => right_any b w hb)
  cases ra : rightB a
  · have E : Hid (ivR a b = false) := by show ivR a b = false; unfold ivR; rw [ra]; rfl
    have RA := Lib.hid ra
    clear ra ha hb
    go_enter Try.func43, Try.ntmps43
    go_wp2_with fail
    refine (cRa.out _).mono ?_
    rintro r w1 ⟨rfl, rfl⟩
    rw [RA.out]
    go_wp2
    go_ret
    exact ⟨by rw [E.out]; rfl, bel1 _ _⟩
  · cases rb : rightB b
    · have E : Hid (ivR a b = false) := by show ivR a b = false; unfold ivR; rw [ra, rb]; rfl
      have RA := Lib.hid ra
      have RB := Lib.hid rb
      clear ra rb ha hb
      go_enter Try.func43, Try.ntmps43
      go_wp2_with fail
      refine (cRa.out _).mono ?_
      rintro r w1 ⟨rfl, rfl⟩
      rw [RA.out]
      go_wp2_with fail
      refine (cRb.out _).mono ?_
      rintro r w1 ⟨rfl, rfl⟩
      rw [RB.out]
      go_wp2
      go_ret
      exact ⟨by rw [E.out]; rfl, bel1 _ _⟩
    · have E : Hid (ivR a b = leB a b) := by show ivR a b = leB a b; unfold ivR; rw [ra, rb]; rfl
      have o := Lib.hid (order_le a b ha hb ra rb)
      have RA := Lib.hid ra
      have RB := Lib.hid rb
      clear ra rb ha hb
      go_enter Try.func43, Try.ntmps43
      go_wp2_with fail
      refine (cRa.out _).mono ?_
      rintro r w1 ⟨rfl, rfl⟩
      rw [RA.out]
      go_wp2_with fail
      refine (cRb.out _).mono ?_
      rintro r w1 ⟨rfl, rfl⟩
      rw [RB.out]
      go_wp2
      go_ret
      exact ⟨by rw [E.out, ← o.out]; rfl, bel1 _ _⟩

set_option maxHeartbeats 400000 in
theorem works_any (e : Int) (pb po : Nat) (w : World) (hc : w.cell? ⟨pb, po, none⟩ = some (.int .i64 e)) :
    Calls Try.prog 111 #[.pointer (some ⟨pb, po, none⟩)] w fun r w' => r = .returned (.bool (e == 0)) ∧ w = w' := by
  go_enter Try.func111, Try.ntmps111
  go_wp2
  go_ret
  exact ⟨rfl, rfl⟩

set_option maxHeartbeats 400000 in
theorem works_nil (w : World) :
    Calls Try.prog 111 #[.pointer none] w fun r w' => r = .returned (.bool false) ∧ w = w' := by
  go_enter Try.func111, Try.ntmps111
  go_wp2
  go_ret
  exact ⟨rfl, rfl⟩

set_option maxHeartbeats 400000 in
theorem err_any (e : Int) (pb po : Nat) (w : World) (hc : w.cell? ⟨pb, po, none⟩ = some (.int .i64 e)) :
    Calls Try.prog 42 #[.pointer (some ⟨pb, po, none⟩)] w fun r w' => r = .returned (.int .i64 e) ∧ w = w' := by
  go_enter Try.func42, Try.ntmps42
  go_wp2
  go_ret
  exact ⟨rfl, rfl⟩

set_option maxHeartbeats 400000 in
theorem err_nil (w : World) :
    Calls Try.prog 42 #[.pointer none] w fun r w' => r = .returned (.int .i64 1) ∧ w = w' := by
  go_enter Try.func42, Try.ntmps42
  go_wp2
  go_ret
  exact ⟨rfl, rfl⟩

set_option maxHeartbeats 400000 in
theorem fail_any (e f : Int) (pb po : Nat) (w : World) (hc : w.cell? ⟨pb, po, none⟩ = some (.int .i64 e)) (hf : w.frozen? ⟨pb, po, none⟩ = false) :
    Calls Try.prog 118 #[.pointer (some ⟨pb, po, none⟩), .int .i64 f] w fun r w' => r = .returned (.agg #[.float .f64 0, .float .f64 0]) ∧ Put ⟨pb, po, none⟩ (.int .i64 f) w w' := by
  have hz : pb < w.heap.size := cell_lt hc
  have hn : ¬ pb = w.heap.size := by omega
  have hs : (w.setCell ⟨pb, po, none⟩ (.int .i64 f)).heap.size = w.heap.size := size_set _ _ _
  go_enter Try.func118, Try.ntmps118
  go_wp2
  exact bodyPost_ret (v := .agg #[.float .f64 0, .float .f64 0]) (by simp [results, Try.results118, go_sem, hs]) rfl ⟨rfl, (bel1 _ _).mono (by rw [hs]; exact Nat.le_refl _)⟩

set_option maxHeartbeats 400000 in
theorem takes_nil (a b : Nat) (w : World) :
    Calls Try.prog 103 #[.pointer none, .agg #[.float .f64 a, .float .f64 b]] w fun r w' => r = .returned (.bool false) ∧ Below w.heap.size w w' := by
  go_enter Try.func103, Try.ntmps103
  go_wp2_with fail
  refine (works_nil _).mono ?_
  rintro r w1 ⟨rfl, rfl⟩
  go_wp2
  go_ret
  exact ⟨rfl, bel1 _ _⟩

set_option maxHeartbeats 400000 in
theorem takes_err (a b : Nat) (e : Int) (pb po : Nat) (w : World) (hc : w.cell? ⟨pb, po, none⟩ = some (.int .i64 e)) (he : (e == 0) = false) :
    Calls Try.prog 103 #[.pointer (some ⟨pb, po, none⟩), .agg #[.float .f64 a, .float .f64 b]] w fun r w' => r = .returned (.bool false) ∧ Below w.heap.size w w' := by
  have hz : pb < w.heap.size := cell_lt hc
  have hn : ¬ pb = w.heap.size := by omega
  have cW := Lib.hid (fun w hc => works_any e pb po w hc)
  have h1 : (w.alloc (.cells #[.float .f64 a, .float .f64 b] 39)).cell? ⟨pb, po, none⟩ = some (.int .i64 e) := by rw [World.cell?_alloc_lt _ _ _ hz]; exact hc
  go_enter Try.func103, Try.ntmps103
  go_wp2_with fail
  refine (cW.out _ h1).mono ?_
  rintro r w1 ⟨rfl, rfl⟩
  go_wp2
  go_ret
  exact ⟨rfl, bel1 _ _⟩

set_option maxHeartbeats 400000 in
theorem takes_ok (a b : Nat) (pb po : Nat) (w : World) (ha : a < 18446744073709551616) (hb : b < 18446744073709551616) (hc : w.cell? ⟨pb, po, none⟩ = some (.int .i64 0)) (hr : ivR a b = true) :
    Calls Try.prog 103 #[.pointer (some ⟨pb, po, none⟩), .agg #[.float .f64 a, .float .f64 b]] w fun r w' => r = .returned (.bool true) ∧ Below w.heap.size w w' := by
  have hz : pb < w.heap.size := cell_lt hc
  have hn : ¬ pb = w.heap.size := by omega
  have cW := Lib.hid (fun w hc => works_any 0 pb po w hc)
  have cR := Lib.hid (fun w => ivRight_any a b w ha hb)
  have HR := Lib.hid hr
  have h1 : (w.alloc (.cells #[.float .f64 a, .float .f64 b] 39)).cell? ⟨pb, po, none⟩ = some (.int .i64 0) := by rw [World.cell?_alloc_lt _ _ _ hz]; exact hc
  clear hr ha hb
  go_enter Try.func103, Try.ntmps103
  go_wp2_with fail
  refine (cW.out _ h1).mono ?_
  rintro r w1 ⟨rfl, rfl⟩
  go_wp2_with fail
  refine (cR.out _).mono ?_
  rintro r w1 ⟨rfl, hb⟩
  rw [HR.out]
  have h2 : w1.cell? ⟨pb, po, none⟩ = some (.int .i64 0) := by rw [hb.cell (by simp; omega)]; exact h1
  have HB := Lib.hid ((bel1 w _).trans (hb.mono (by simp)))
  clear hb h1 hn hz hc
  go_wp2_with fail
  refine (cW.out _ h2).mono ?_
  rintro r w1 ⟨rfl, rfl⟩
  go_wp2
  go_ret
  exact ⟨rfl, HB.out⟩

set_option maxHeartbeats 400000 in
theorem takes_bad (a b : Nat) (pb po : Nat) (w : World) (ha : a < 18446744073709551616) (hb : b < 18446744073709551616) (hc : w.cell? ⟨pb, po, none⟩ = some (.int .i64 0)) (hf : w.frozen? ⟨pb, po, none⟩ = false) (hr : ivR a b = false) :
    Calls Try.prog 103 #[.pointer (some ⟨pb, po, none⟩), .agg #[.float .f64 a, .float .f64 b]] w fun r w' => r = .returned (.bool false) ∧ Put ⟨pb, po, none⟩ (.int .i64 20) w w' := by
  have hz : pb < w.heap.size := cell_lt hc
  have cW := Lib.hid (fun w hc => works_any 0 pb po w hc)
  have cV := Lib.hid (fun w hc => works_any 20 pb po w hc)
  have cR := Lib.hid (fun w => ivRight_any a b w ha hb)
  have HR := Lib.hid hr
  have h1 : (w.alloc (.cells #[.float .f64 a, .float .f64 b] 39)).cell? ⟨pb, po, none⟩ = some (.int .i64 0) := by rw [World.cell?_alloc_lt _ _ _ hz]; exact hc
  have h0 : (w.alloc (.cells #[.float .f64 a, .float .f64 b] 39)).frozen? ⟨pb, po, none⟩ = false := by rw [(bel1 w _).frozen hz]; exact hf
  clear hr ha hb
  go_enter Try.func103, Try.ntmps103
  go_wp2_with fail
  refine (cW.out _ h1).mono ?_
  rintro r w1 ⟨rfl, rfl⟩
  go_wp2_with fail
  refine (cR.out _).mono ?_
  rintro r w1 ⟨rfl, hb⟩
  rw [HR.out]
  have h2 : w1.cell? ⟨pb, po, none⟩ = some (.int .i64 0) := by rw [hb.cell (by simp; omega)]; exact h1
  have h3 : w1.frozen? ⟨pb, po, none⟩ = false := by rw [hb.frozen (by simp; omega)]; exact h0
  have h4 : (w1.setCell ⟨pb, po, none⟩ (.int .i64 20)).cell? ⟨pb, po, none⟩ = some (.int .i64 20) := World.cell?_setCell_same _ _ _ h2
  have HB := Lib.hid ((bel1 w _).trans (hb.mono (by simp)))
  clear hb h1 h0 hz hc hf
  go_wp2_with fail
  refine (cV.out _ h4).mono ?_
  rintro r w2 ⟨rfl, rfl⟩
  go_wp2
  go_ret
  exact ⟨rfl, both HB.out _ _⟩

end Go.Proofs.Ytmcecchcbfhfcaa
