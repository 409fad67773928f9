
/- Package ival: the operations on ends, and the interval from one end to another one (tight). -/
import Derived.Test.YtmcecchcbfhfcaaIvA
namespace Go.Proofs.Ytmcecchcbfhfcaa
open Go.RowKit
attribute [local go_sem] run_store_float

/-- What a calculator answers: its error behind it, and the interval. -/
structure Res where
  e : Int
  lo : Nat
  hi : Nat
/-- From one end to another one, unless one of both has an error. -/
def tightR (lo : Nat) (e : Int) (hi : Nat) (f : Int) : Res := if e = 0 then (if f = 0 then ⟨0, lo, hi⟩ else ⟨f, 0, 0⟩) else ⟨e, 0, 0⟩
/-- The two ends, as the program has them. -/
def Res.val (r : Res) : Value := .agg #[.float .f64 r.lo, .float .f64 r.hi]

set_option maxHeartbeats 400000 in
theorem end_sum (a b : Nat) (up : Bool) (w : World) (ha : a < 18446744073709551616) (hb : b < 18446744073709551616) :
    Calls Try.prog 105 #[.agg #[.float .f64 a, .float .f64 b], .bool up] w fun r w' => r = .returned (.tuple #[.float .f64 (addW a b up), .int .i64 (addE a b up)]) ∧ Below w.heap.size w w' := by
  have c := Lib.hid (fun w => add_any a b up w ha hb)
  go_enter Try.func105, Try.ntmps105
  go_wp2_with fail
  refine (c.out _).mono ?_
  rintro r w1 ⟨rfl, h1⟩
  have H1 := Lib.hid ((bel1 w _).trans (h1.mono (by simp))); clear h1
  go_wp2
  go_ret2
  exact ⟨rfl, H1.out⟩

set_option maxHeartbeats 400000 in
theorem end_difference (a b : Nat) (up : Bool) (w : World) (ha : a < 18446744073709551616) (hb : b < 18446744073709551616) :
    Calls Try.prog 117 #[.agg #[.float .f64 a, .float .f64 b], .bool up] w fun r w' => r = .returned (.tuple #[.float .f64 (subW a b up), .int .i64 (subE a b up)]) ∧ Below w.heap.size w w' := by
  have c := Lib.hid (fun w => sub_any a b up w ha hb)
  go_enter Try.func117, Try.ntmps117
  go_wp2_with fail
  refine (c.out _).mono ?_
  rintro r w1 ⟨rfl, h1⟩
  have H1 := Lib.hid ((bel1 w _).trans (h1.mono (by simp))); clear h1
  go_wp2
  go_ret2
  exact ⟨rfl, H1.out⟩

set_option maxHeartbeats 400000 in
theorem end_product (a b : Nat) (up : Bool) (w : World) (ha : a < 18446744073709551616) (hb : b < 18446744073709551616) :
    Calls Try.prog 107 #[.agg #[.float .f64 a, .float .f64 b], .bool up] w fun r w' => r = .returned (.tuple #[.float .f64 (mulW a b up), .int .i64 (mulE a b up)]) ∧ Below w.heap.size w w' := by
  have c := Lib.hid (fun w => mul_any a b up w ha hb)
  go_enter Try.func107, Try.ntmps107
  go_wp2_with fail
  refine (c.out _).mono ?_
  rintro r w1 ⟨rfl, h1⟩
  have H1 := Lib.hid ((bel1 w _).trans (h1.mono (by simp))); clear h1
  go_wp2
  go_ret2
  exact ⟨rfl, H1.out⟩

set_option maxHeartbeats 400000 in
theorem end_quotient (a b : Nat) (up : Bool) (w : World) (ha : a < 18446744073709551616) (hb : b < 18446744073709551616) :
    Calls Try.prog 119 #[.agg #[.float .f64 a, .float .f64 b], .bool up] w fun r w' => r = .returned (.tuple #[.float .f64 (divW a b up), .int .i64 (divE a b up)]) ∧ Below w.heap.size w w' := by
  have c := Lib.hid (fun w => div_any a b up w ha hb)
  go_enter Try.func119, Try.ntmps119
  go_wp2_with fail
  refine (c.out _).mono ?_
  rintro r w1 ⟨rfl, h1⟩
  have H1 := Lib.hid ((bel1 w _).trans (h1.mono (by simp))); clear h1
  go_wp2
  go_ret2
  exact ⟨rfl, H1.out⟩

set_option maxHeartbeats 400000 in
theorem rootOf_any (x : Nat) (w : World) :
    Calls Try.prog 120 #[.float .f64 x] w fun r w' => r = .returned (.func (.func 151) #[] #[.pointer (some ⟨w.heap.size, 0, none⟩)]) ∧ w' = w.alloc (.cells #[.float .f64 x] 22) := by
  go_enter Try.func120, Try.ntmps120
  go_wp2
  go_ret
  exact ⟨rfl, rfl⟩

set_option maxHeartbeats 400000 in
theorem rootOf1_any (x : Nat) (up : Bool) (q : Nat) (w : World) (hx : x < 18446744073709551616) (hq : w.cell? ⟨q, 0, none⟩ = some (.float .f64 x)) :
    Calls Try.prog 151 #[.bool up, .pointer (some ⟨q, 0, none⟩)] w fun r w' => r = .returned (.tuple #[.float .f64 (sqrtW x up), .int .i64 (sqrtE x up)]) ∧ Below w.heap.size w w' := by
  have c := Lib.hid (fun w => sqrt_any x up w hx)
  go_enter Try.func151, Try.ntmps151
  go_wp2_with fail
  refine (c.out _).mono ?_
  rintro r w1 ⟨rfl, h1⟩
  have H1 := Lib.hid h1; clear h1
  go_wp2
  go_ret2
  exact ⟨rfl, H1.out⟩

set_option maxRecDepth 100000 in
set_option maxHeartbeats 1000000 in
theorem tight_sum (lo hi : Nat) (e f : Int) (pb po : Nat) (w : World) (A B : Value)
    (cL : Hid (∀ w, Calls Try.prog 105 #[A, .bool false] w fun r w' => r = .returned (.tuple #[.float .f64 lo, .int .i64 e]) ∧ Below w.heap.size w w'))
    (cH : Hid (∀ w, Calls Try.prog 105 #[B, .bool true] w fun r w' => r = .returned (.tuple #[.float .f64 hi, .int .i64 f]) ∧ Below w.heap.size w w')) (hc : w.cell? ⟨pb, po, none⟩ = some (.int .i64 0)) (hf : w.frozen? ⟨pb, po, none⟩ = false) :
    Calls Try.prog 104 #[.pointer (some ⟨pb, po, none⟩), .func (.func 105) #[A] #[], .func (.func 105) #[B] #[]] w fun r w' => r = .returned (tightR lo e hi f).val ∧ Put ⟨pb, po, none⟩ (.int .i64 (tightR lo e hi f).e) w w' := by
  have HC := Lib.hid hc
  have HF := Lib.hid hf
  have hz : pb < w.heap.size := cell_lt hc
  have hn : ¬ pb = w.heap.size := by omega
  clear hc hf
  go_enter Try.func104, Try.ntmps104
  go_wp2_with fail
  refine (cL.out _).mono ?_
  rintro r w1 ⟨rfl, hb⟩
  have hb1 := Lib.hid hb
  obtain ⟨z1, c1, f1, b1⟩ := after1 hb
  have B1 := Lib.hid b1
  clear b1 hb
  by_cases he : e = 0
  · have he' : (e != 0) = false := by simpa using he
    have HE := Lib.hid he
    clear he
    go_wp2_with fail
    refine (cH.out _).mono ?_
    rintro r w2 ⟨rfl, hb⟩
    obtain ⟨z2, c2, f2⟩ := keepB hb z1 c1 f1
    have B2 := Lib.hid (B1.out.trans (hb.mono B1.out.size))
    clear z1 c1 f1 B1 hb hb1
    by_cases hf : f = 0
    · have hf' : (f != 0) = false := by simpa using hf
      have R := Lib.hid (show tightR lo e hi f = ⟨0, lo, hi⟩ by unfold tightR; rw [if_pos HE.out, if_pos hf])
      clear hf
      go_wp2
      rw [R.out]
      refine bodyPost_ret (v := .agg #[.float .f64 lo, .float .f64 hi]) (by simp [results, Try.results104, go_sem, c2]) rfl ⟨rfl, ?_⟩
      exact Put.of_below HC.out ((B2.out.setCell (by show _ ≤ w.heap.size; omega) _).setCell (by show _ ≤ w.heap.size; omega) _)
    · have hf' : (f != 0) = true := by simpa using hf
      have R := Lib.hid (show tightR lo e hi f = ⟨f, 0, 0⟩ by unfold tightR; rw [if_pos HE.out, if_neg hf])
      clear hf
      go_wp2_with fail
      refine (fail_any 0 f pb po _ (by rw [B2.out.cell hz]; exact HC.out) (by rw [B2.out.frozen hz]; exact HF.out)).mono ?_
      rintro r w3 ⟨rfl, hp⟩
      have P2 := Lib.hid (Put.after B2.out hp)
      obtain ⟨z3, c3, f3⟩ := hp.block z2 (by simp; omega) c2 f2
      clear z2 c2 f2 hp
      go_wp2
      rw [R.out]
      refine bodyPost_ret (v := .agg #[.float .f64 0, .float .f64 0]) (by simp [results, Try.results104, go_sem, c3]) rfl ⟨rfl, ?_⟩
      exact ((Below.setCell P2.out (by show _ ≤ w.heap.size; omega) _).setCell (by show _ ≤ w.heap.size; omega) _)
  · have he' : (e != 0) = true := by simpa using he
    have R := Lib.hid (show tightR lo e hi f = ⟨e, 0, 0⟩ by unfold tightR; rw [if_neg he])
    clear he hb1
    go_wp2_with fail
    refine (fail_any 0 e pb po _ (by rw [B1.out.cell hz]; exact HC.out) (by rw [B1.out.frozen hz]; exact HF.out)).mono ?_
    rintro r w3 ⟨rfl, hp⟩
    have P2 := Lib.hid (Put.after B1.out hp)
    obtain ⟨z3, c3, f3⟩ := hp.block z1 (by simp; omega) c1 f1
    clear z1 c1 f1 hp
    go_wp2
    rw [R.out]
    refine bodyPost_ret (v := .agg #[.float .f64 0, .float .f64 0]) (by simp [results, Try.results104, go_sem, c3]) rfl ⟨rfl, ?_⟩
    exact ((Below.setCell P2.out (by show _ ≤ w.heap.size; omega) _).setCell (by show _ ≤ w.heap.size; omega) _)

set_option maxRecDepth 100000 in
set_option maxHeartbeats 1000000 in
theorem tight_difference (lo hi : Nat) (e f : Int) (pb po : Nat) (w : World) (A B : Value)
    (cL : Hid (∀ w, Calls Try.prog 117 #[A, .bool false] w fun r w' => r = .returned (.tuple #[.float .f64 lo, .int .i64 e]) ∧ Below w.heap.size w w'))
    (cH : Hid (∀ w, Calls Try.prog 117 #[B, .bool true] w fun r w' => r = .returned (.tuple #[.float .f64 hi, .int .i64 f]) ∧ Below w.heap.size w w')) (hc : w.cell? ⟨pb, po, none⟩ = some (.int .i64 0)) (hf : w.frozen? ⟨pb, po, none⟩ = false) :
    Calls Try.prog 104 #[.pointer (some ⟨pb, po, none⟩), .func (.func 117) #[A] #[], .func (.func 117) #[B] #[]] w fun r w' => r = .returned (tightR lo e hi f).val ∧ Put ⟨pb, po, none⟩ (.int .i64 (tightR lo e hi f).e) w w' := by
  have HC := Lib.hid hc
  have HF := Lib.hid hf
  have hz : pb < w.heap.size := cell_lt hc
  have hn : ¬ pb = w.heap.size := by omega
  clear hc hf
  go_enter Try.func104, Try.ntmps104
  go_wp2_with fail
  refine (cL.out _).mono ?_
  rintro r w1 ⟨rfl, hb⟩
  have hb1 := Lib.hid hb
  obtain ⟨z1, c1, f1, b1⟩ := after1 hb
  have B1 := Lib.hid b1
  clear b1 hb
  by_cases he : e = 0
  · have he' : (e != 0) = false := by simpa using he
    have HE := Lib.hid he
    clear he
    go_wp2_with fail
    refine (cH.out _).mono ?_
    rintro r w2 ⟨rfl, hb⟩
    obtain ⟨z2, c2, f2⟩ := keepB hb z1 c1 f1
    have B2 := Lib.hid (B1.out.trans (hb.mono B1.out.size))
    clear z1 c1 f1 B1 hb hb1
    by_cases hf : f = 0
    · have hf' : (f != 0) = false := by simpa using hf
      have R := Lib.hid (show tightR lo e hi f = ⟨0, lo, hi⟩ by unfold tightR; rw [if_pos HE.out, if_pos hf])
      clear hf
      go_wp2
      rw [R.out]
      refine bodyPost_ret (v := .agg #[.float .f64 lo, .float .f64 hi]) (by simp [results, Try.results104, go_sem, c2]) rfl ⟨rfl, ?_⟩
      exact Put.of_below HC.out ((B2.out.setCell (by show _ ≤ w.heap.size; omega) _).setCell (by show _ ≤ w.heap.size; omega) _)
    · have hf' : (f != 0) = true := by simpa using hf
      have R := Lib.hid (show tightR lo e hi f = ⟨f, 0, 0⟩ by unfold tightR; rw [if_pos HE.out, if_neg hf])
      clear hf
      go_wp2_with fail
      refine (fail_any 0 f pb po _ (by rw [B2.out.cell hz]; exact HC.out) (by rw [B2.out.frozen hz]; exact HF.out)).mono ?_
      rintro r w3 ⟨rfl, hp⟩
      have P2 := Lib.hid (Put.after B2.out hp)
      obtain ⟨z3, c3, f3⟩ := hp.block z2 (by simp; omega) c2 f2
      clear z2 c2 f2 hp
      go_wp2
      rw [R.out]
      refine bodyPost_ret (v := .agg #[.float .f64 0, .float .f64 0]) (by simp [results, Try.results104, go_sem, c3]) rfl ⟨rfl, ?_⟩
      exact ((Below.setCell P2.out (by show _ ≤ w.heap.size; omega) _).setCell (by show _ ≤ w.heap.size; omega) _)
  · have he' : (e != 0) = true := by simpa using he
    have R := Lib.hid (show tightR lo e hi f = ⟨e, 0, 0⟩ by unfold tightR; rw [if_neg he])
    clear he hb1
    go_wp2_with fail
    refine (fail_any 0 e pb po _ (by rw [B1.out.cell hz]; exact HC.out) (by rw [B1.out.frozen hz]; exact HF.out)).mono ?_
    rintro r w3 ⟨rfl, hp⟩
    have P2 := Lib.hid (Put.after B1.out hp)
    obtain ⟨z3, c3, f3⟩ := hp.block z1 (by simp; omega) c1 f1
    clear z1 c1 f1 hp
    go_wp2
    rw [R.out]
    refine bodyPost_ret (v := .agg #[.float .f64 0, .float .f64 0]) (by simp [results, Try.results104, go_sem, c3]) rfl ⟨rfl, ?_⟩
    exact ((Below.setCell P2.out (by show _ ≤ w.heap.size; omega) _).setCell (by show _ ≤ w.heap.size; omega) _)

set_option maxRecDepth 100000 in
set_option maxHeartbeats 1000000 in
theorem tight_product (lo hi : Nat) (e f : Int) (pb po : Nat) (w : World) (A B : Value)
    (cL : Hid (∀ w, Calls Try.prog 107 #[A, .bool false] w fun r w' => r = .returned (.tuple #[.float .f64 lo, .int .i64 e]) ∧ Below w.heap.size w w'))
    (cH : Hid (∀ w, Calls Try.prog 107 #[B, .bool true] w fun r w' => r = .returned (.tuple #[.float .f64 hi, .int .i64 f]) ∧ Below w.heap.size w w')) (hc : w.cell? ⟨pb, po, none⟩ = some (.int .i64 0)) (hf : w.frozen? ⟨pb, po, none⟩ = false) :
    Calls Try.prog 104 #[.pointer (some ⟨pb, po, none⟩), .func (.func 107) #[A] #[], .func (.func 107) #[B] #[]] w fun r w' => r = .returned (tightR lo e hi f).val ∧ Put ⟨pb, po, none⟩ (.int .i64 (tightR lo e hi f).e) w w' := by
  have HC := Lib.hid hc
  have HF := Lib.hid hf
  have hz : pb < w.heap.size := cell_lt hc
  have hn : ¬ pb = w.heap.size := by omega
  clear hc hf
  go_enter Try.func104, Try.ntmps104
  go_wp2_with fail
  refine (cL.out _).mono ?_
  rintro r w1 ⟨rfl, hb⟩
  have hb1 := Lib.hid hb
  obtain ⟨z1, c1, f1, b1⟩ := after1 hb
  have B1 := Lib.hid b1
  clear b1 hb
  by_cases he : e = 0
  · have he' : (e != 0) = false := by simpa using he
    have HE := Lib.hid he
    clear he
    go_wp2_with fail
    refine (cH.out _).mono ?_
    rintro r w2 ⟨rfl, hb⟩
    obtain ⟨z2, c2, f2⟩ := keepB hb z1 c1 f1
    have B2 := Lib.hid (B1.out.trans (hb.mono B1.out.size))
    clear z1 c1 f1 B1 hb hb1
    by_cases hf : f = 0
    · have hf' : (f != 0) = false := by simpa using hf
      have R := Lib.hid (show tightR lo e hi f = ⟨0, lo, hi⟩ by unfold tightR; rw [if_pos HE.out, if_pos hf])
      clear hf
      go_wp2
      rw [R.out]
      refine bodyPost_ret (v := .agg #[.float .f64 lo, .float .f64 hi]) (by simp [results, Try.results104, go_sem, c2]) rfl ⟨rfl, ?_⟩
      exact Put.of_below HC.out ((B2.out.setCell (by show _ ≤ w.heap.size; omega) _).setCell (by show _ ≤ w.heap.size; omega) _)
    · have hf' : (f != 0) = true := by simpa using hf
      have R := Lib.hid (show tightR lo e hi f = ⟨f, 0, 0⟩ by unfold tightR; rw [if_pos HE.out, if_neg hf])
      clear hf
      go_wp2_with fail
      refine (fail_any 0 f pb po _ (by rw [B2.out.cell hz]; exact HC.out) (by rw [B2.out.frozen hz]; exact HF.out)).mono ?_
      rintro r w3 ⟨rfl, hp⟩
      have P2 := Lib.hid (Put.after B2.out hp)
      obtain ⟨z3, c3, f3⟩ := hp.block z2 (by simp; omega) c2 f2
      clear z2 c2 f2 hp
      go_wp2
      rw [R.out]
      refine bodyPost_ret (v := .agg #[.float .f64 0, .float .f64 0]) (by simp [results, Try.results104, go_sem, c3]) rfl ⟨rfl, ?_⟩
      exact ((Below.setCell P2.out (by show _ ≤ w.heap.size; omega) _).setCell (by show _ ≤ w.heap.size; omega) _)
  · have he' : (e != 0) = true := by simpa using he
    have R := Lib.hid (show tightR lo e hi f = ⟨e, 0, 0⟩ by unfold tightR; rw [if_neg he])
    clear he hb1
    go_wp2_with fail
    refine (fail_any 0 e pb po _ (by rw [B1.out.cell hz]; exact HC.out) (by rw [B1.out.frozen hz]; exact HF.out)).mono ?_
    rintro r w3 ⟨rfl, hp⟩
    have P2 := Lib.hid (Put.after B1.out hp)
    obtain ⟨z3, c3, f3⟩ := hp.block z1 (by simp; omega) c1 f1
    clear z1 c1 f1 hp
    go_wp2
    rw [R.out]
    refine bodyPost_ret (v := .agg #[.float .f64 0, .float .f64 0]) (by simp [results, Try.results104, go_sem, c3]) rfl ⟨rfl, ?_⟩
    exact ((Below.setCell P2.out (by show _ ≤ w.heap.size; omega) _).setCell (by show _ ≤ w.heap.size; omega) _)

set_option maxRecDepth 100000 in
set_option maxHeartbeats 1000000 in
theorem tight_quotient (lo hi : Nat) (e f : Int) (pb po : Nat) (w : World) (A B : Value)
    (cL : Hid (∀ w, Calls Try.prog 119 #[A, .bool false] w fun r w' => r = .returned (.tuple #[.float .f64 lo, .int .i64 e]) ∧ Below w.heap.size w w'))
    (cH : Hid (∀ w, Calls Try.prog 119 #[B, .bool true] w fun r w' => r = .returned (.tuple #[.float .f64 hi, .int .i64 f]) ∧ Below w.heap.size w w')) (hc : w.cell? ⟨pb, po, none⟩ = some (.int .i64 0)) (hf : w.frozen? ⟨pb, po, none⟩ = false) :
    Calls Try.prog 104 #[.pointer (some ⟨pb, po, none⟩), .func (.func 119) #[A] #[], .func (.func 119) #[B] #[]] w fun r w' => r = .returned (tightR lo e hi f).val ∧ Put ⟨pb, po, none⟩ (.int .i64 (tightR lo e hi f).e) w w' := by
  have HC := Lib.hid hc
  have HF := Lib.hid hf
  have hz : pb < w.heap.size := cell_lt hc
  have hn : ¬ pb = w.heap.size := by omega
  clear hc hf
  go_enter Try.func104, Try.ntmps104
  go_wp2_with fail
  refine (cL.out _).mono ?_
  rintro r w1 ⟨rfl, hb⟩
  have hb1 := Lib.hid hb
  obtain ⟨z1, c1, f1, b1⟩ := after1 hb
  have B1 := Lib.hid b1
  clear b1 hb
  by_cases he : e = 0
  · have he' : (e != 0) = false := by simpa using he
    have HE := Lib.hid he
    clear he
    go_wp2_with fail
    refine (cH.out _).mono ?_
    rintro r w2 ⟨rfl, hb⟩
    obtain ⟨z2, c2, f2⟩ := keepB hb z1 c1 f1
    have B2 := Lib.hid (B1.out.trans (hb.mono B1.out.size))
    clear z1 c1 f1 B1 hb hb1
    by_cases hf : f = 0
    · have hf' : (f != 0) = false := by simpa using hf
      have R := Lib.hid (show tightR lo e hi f = ⟨0, lo, hi⟩ by unfold tightR; rw [if_pos HE.out, if_pos hf])
      clear hf
      go_wp2
      rw [R.out]
      refine bodyPost_ret (v := .agg #[.float .f64 lo, .float .f64 hi]) (by simp [results, Try.results104, go_sem, c2]) rfl ⟨rfl, ?_⟩
      exact Put.of_below HC.out ((B2.out.setCell (by show _ ≤ w.heap.size; omega) _).setCell (by show _ ≤ w.heap.size; omega) _)
    · have hf' : (f != 0) = true := by simpa using hf
      have R := Lib.hid (show tightR lo e hi f = ⟨f, 0, 0⟩ by unfold tightR; rw [if_pos HE.out, if_neg hf])
      clear hf
      go_wp2_with fail
      refine (fail_any 0 f pb po _ (by rw [B2.out.cell hz]; exact HC.out) (by rw [B2.out.frozen hz]; exact HF.out)).mono ?_
      rintro r w3 ⟨rfl, hp⟩
      have P2 := Lib.hid (Put.after B2.out hp)
      obtain ⟨z3, c3, f3⟩ := hp.block z2 (by simp; omega) c2 f2
      clear z2 c2 f2 hp
      go_wp2
      rw [R.out]
      refine bodyPost_ret (v := .agg #[.float .f64 0, .float .f64 0]) (by simp [results, Try.results104, go_sem, c3]) rfl ⟨rfl, ?_⟩
      exact ((Below.setCell P2.out (by show _ ≤ w.heap.size; omega) _).setCell (by show _ ≤ w.heap.size; omega) _)
  · have he' : (e != 0) = true := by simpa using he
    have R := Lib.hid (show tightR lo e hi f = ⟨e, 0, 0⟩ by unfold tightR; rw [if_neg he])
    clear he hb1
    go_wp2_with fail
    refine (fail_any 0 e pb po _ (by rw [B1.out.cell hz]; exact HC.out) (by rw [B1.out.frozen hz]; exact HF.out)).mono ?_
    rintro r w3 ⟨rfl, hp⟩
    have P2 := Lib.hid (Put.after B1.out hp)
    obtain ⟨z3, c3, f3⟩ := hp.block z1 (by simp; omega) c1 f1
    clear z1 c1 f1 hp
    go_wp2
    rw [R.out]
    refine bodyPost_ret (v := .agg #[.float .f64 0, .float .f64 0]) (by simp [results, Try.results104, go_sem, c3]) rfl ⟨rfl, ?_⟩
    exact ((Below.setCell P2.out (by show _ ≤ w.heap.size; omega) _).setCell (by show _ ≤ w.heap.size; omega) _)

set_option maxRecDepth 100000 in
set_option maxHeartbeats 1000000 in
theorem tight_root (lo hi : Nat) (e f : Int) (pb po : Nat) (w : World) (ql qh xl xh : Nat)
    (cL : Hid (∀ w, w.cell? ⟨ql, 0, none⟩ = some (.float .f64 xl) → Calls Try.prog 151 #[.bool false, .pointer (some ⟨ql, 0, none⟩)] w fun r w' => r = .returned (.tuple #[.float .f64 lo, .int .i64 e]) ∧ Below w.heap.size w w'))
    (cH : Hid (∀ w, w.cell? ⟨qh, 0, none⟩ = some (.float .f64 xh) → Calls Try.prog 151 #[.bool true, .pointer (some ⟨qh, 0, none⟩)] w fun r w' => r = .returned (.tuple #[.float .f64 hi, .int .i64 f]) ∧ Below w.heap.size w w'))
    (hl : w.cell? ⟨ql, 0, none⟩ = some (.float .f64 xl)) (hh : w.cell? ⟨qh, 0, none⟩ = some (.float .f64 xh)) (hc : w.cell? ⟨pb, po, none⟩ = some (.int .i64 0)) (hf : w.frozen? ⟨pb, po, none⟩ = false) :
    Calls Try.prog 104 #[.pointer (some ⟨pb, po, none⟩), .func (.func 151) #[] #[.pointer (some ⟨ql, 0, none⟩)], .func (.func 151) #[] #[.pointer (some ⟨qh, 0, none⟩)]] w fun r w' => r = .returned (tightR lo e hi f).val ∧ Put ⟨pb, po, none⟩ (.int .i64 (tightR lo e hi f).e) w w' := by
  have HC := Lib.hid hc
  have HF := Lib.hid hf
  have hz : pb < w.heap.size := cell_lt hc
  have hn : ¬ pb = w.heap.size := by omega
  clear hc hf
  have HL := Lib.hid hl; have HH := Lib.hid hh; clear hl hh
  go_enter Try.func104, Try.ntmps104
  go_wp2_with fail
  refine (cL.out _ (by rw [World.cell?_alloc_lt _ _ _ (cell_lt HL.out)]; exact HL.out)).mono ?_
  rintro r w1 ⟨rfl, hb⟩
  have hb1 := Lib.hid hb
  obtain ⟨z1, c1, f1, b1⟩ := after1 hb
  have B1 := Lib.hid b1
  clear b1 hb
  by_cases he : e = 0
  · have he' : (e != 0) = false := by simpa using he
    have HE := Lib.hid he
    clear he
    go_wp2_with fail
    refine (cH.out _ (by rw [hb1.out.cell (by have : qh < w.heap.size := cell_lt HH.out; simp; omega), World.cell?_alloc_lt _ _ _ (cell_lt HH.out)]; exact HH.out)).mono ?_
    rintro r w2 ⟨rfl, hb⟩
    obtain ⟨z2, c2, f2⟩ := keepB hb z1 c1 f1
    have B2 := Lib.hid (B1.out.trans (hb.mono B1.out.size))
    clear z1 c1 f1 B1 hb hb1
    by_cases hf : f = 0
    · have hf' : (f != 0) = false := by simpa using hf
      have R := Lib.hid (show tightR lo e hi f = ⟨0, lo, hi⟩ by unfold tightR; rw [if_pos HE.out, if_pos hf])
      clear hf
      go_wp2
      rw [R.out]
      refine bodyPost_ret (v := .agg #[.float .f64 lo, .float .f64 hi]) (by simp [results, Try.results104, go_sem, c2]) rfl ⟨rfl, ?_⟩
      exact Put.of_below HC.out ((B2.out.setCell (by show _ ≤ w.heap.size; omega) _).setCell (by show _ ≤ w.heap.size; omega) _)
    · have hf' : (f != 0) = true := by simpa using hf
      have R := Lib.hid (show tightR lo e hi f = ⟨f, 0, 0⟩ by unfold tightR; rw [if_pos HE.out, if_neg hf])
      clear hf
      go_wp2_with fail
      refine (fail_any 0 f pb po _ (by rw [B2.out.cell hz]; exact HC.out) (by rw [B2.out.frozen hz]; exact HF.out)).mono ?_
      rintro r w3 ⟨rfl, hp⟩
      have P2 := Lib.hid (Put.after B2.out hp)
      obtain ⟨z3, c3, f3⟩ := hp.block z2 (by simp; omega) c2 f2
      clear z2 c2 f2 hp
      go_wp2
      rw [R.out]
      refine bodyPost_ret (v := .agg #[.float .f64 0, .float .f64 0]) (by simp [results, Try.results104, go_sem, c3]) rfl ⟨rfl, ?_⟩
      exact ((Below.setCell P2.out (by show _ ≤ w.heap.size; omega) _).setCell (by show _ ≤ w.heap.size; omega) _)
  · have he' : (e != 0) = true := by simpa using he
    have R := Lib.hid (show tightR lo e hi f = ⟨e, 0, 0⟩ by unfold tightR; rw [if_neg he])
    clear he hb1
    go_wp2_with fail
    refine (fail_any 0 e pb po _ (by rw [B1.out.cell hz]; exact HC.out) (by rw [B1.out.frozen hz]; exact HF.out)).mono ?_
    rintro r w3 ⟨rfl, hp⟩
    have P2 := Lib.hid (Put.after B1.out hp)
    obtain ⟨z3, c3, f3⟩ := hp.block z1 (by simp; omega) c1 f1
    clear z1 c1 f1 hp
    go_wp2
    rw [R.out]
    refine bodyPost_ret (v := .agg #[.float .f64 0, .float .f64 0]) (by simp [results, Try.results104, go_sem, c3]) rfl ⟨rfl, ?_⟩
    exact ((Below.setCell P2.out (by show _ ≤ w.heap.size; omega) _).setCell (by show _ ≤ w.heap.size; omega) _)

end Go.Proofs.Ytmcecchcbfhfcaa
