
/- Package ival: the calculator's methods with one operand: Neg, Abs, Sqr, Sqrt, Num. -/
import Derived.Test.YtmcecchcbfhfcaaIvD
import Derived.Deep.RegionHeld3
namespace Go.Proofs.Ytmcecchcbfhfcaa
open Go.RowKit
attribute [local go_sem] run_store_float

/-- All roots. -/
def sqrtI (al ah : Nat) : Res := if ltB al 0 then ⟨12, 0, 0⟩ else tightR (sqrtW al false) (sqrtE al false) (sqrtW ah true) (sqrtE ah true)

/-- Two cells that are put, behind a block that is made. -/
theorem res2 (v : World) (b : Nat) (x y u0 u1 : Value) (h : ∀ i, v.cell? ⟨b, i, none⟩ = #[u0, u1][i]?) (o : Obj) (hb : b < v.heap.size) :
    (((v.setCell ⟨b, 0, none⟩ x).setCell ⟨b, 1, none⟩ y).alloc o).cell? ⟨b, 0, none⟩ = some x ∧ (((v.setCell ⟨b, 0, none⟩ x).setCell ⟨b, 1, none⟩ y).alloc o).cell? ⟨b, 1, none⟩ = some y := by
  have h1 : (v.setCell ⟨b, 0, none⟩ x).cell? ⟨b, 1, none⟩ = some u1 := (World.cell?_setCell_other _ _ _ _ (by simp)).trans (h 1)
  refine ⟨?_, ?_⟩
  · rw [World.cell?_alloc_lt _ _ _ (by show b < _; rw [size_set, size_set]; exact hb), World.cell?_setCell_other _ _ _ _ (by simp)]
    exact World.cell?_setCell_same _ _ _ (h 0)
  · rw [World.cell?_alloc_lt _ _ _ (by show b < _; rw [size_set, size_set]; exact hb)]
    exact World.cell?_setCell_same _ _ _ h1

set_option maxHeartbeats 400000 in
theorem cNeg_nil (al ah : Nat) (w : World) :
    Calls Try.prog 50 #[.pointer none, .agg #[.float .f64 al, .float .f64 ah]] w fun r w' => r = .returned (.agg #[.float .f64 0, .float .f64 0]) ∧ Below w.heap.size w w' := by
  go_enter Try.func50, Try.ntmps50
  go_wp2_with fail
  refine (takes_nil al ah _).mono ?_
  rintro r w1 ⟨rfl, hb⟩
  obtain ⟨z2, z3, c2, f2, c3, f3, B⟩ := after2 hb
  have HB := Lib.hid B
  clear hb B c2 f2
  go_wp2
  exact bodyPost_ret (v := .agg #[.float .f64 0, .float .f64 0]) (by simp [results, Try.results50, go_sem, c3]) rfl ⟨rfl, (HB.out.setCell (by show _ ≤ w.heap.size + 1; omega) _).setCell (by show _ ≤ w.heap.size + 1; omega) _⟩

set_option maxHeartbeats 400000 in
theorem cNeg_err (e : Int) (al ah pb po : Nat) (w : World) (hc : w.cell? ⟨pb, po, none⟩ = some (.int .i64 e)) (he : (e == 0) = false) :
    Calls Try.prog 50 #[.pointer (some ⟨pb, po, none⟩), .agg #[.float .f64 al, .float .f64 ah]] w (Told ⟨e, 0, 0⟩ pb po w) := by
  have hz : pb < w.heap.size := cell_lt hc
  have h1 : ((w.alloc (.cells #[.float .f64 al, .float .f64 ah] 39)).alloc (.cells #[.float .f64 0, .float .f64 0] 39)).cell? ⟨pb, po, none⟩ = some (.int .i64 e) := ((bel2 w _ _).cell hz).trans hc
  have cT := Lib.hid (fun w hc => takes_err al ah e pb po w hc he)
  have H1 := Lib.hid h1
  have HC := Lib.hid hc
  clear h1 hc he hz
  go_enter Try.func50, Try.ntmps50
  go_wp2_with fail
  refine (cT.out _ H1.out).mono ?_
  rintro r w1 ⟨rfl, hb⟩
  obtain ⟨z2, z3, c2, f2, c3, f3, B⟩ := after2 hb
  have HB := Lib.hid B
  clear hb B c2 f2
  go_wp2
  exact bodyPost_ret (v := .agg #[.float .f64 0, .float .f64 0]) (by simp [results, Try.results50, go_sem, c3]) rfl ⟨rfl, Put.of_below HC.out ((HB.out.setCell (by show _ ≤ w.heap.size + 1; omega) _).setCell (by show _ ≤ w.heap.size + 1; omega) _)⟩

set_option maxHeartbeats 400000 in
theorem cNeg_bad1 (al ah pb po : Nat) (w : World) (la : al < 18446744073709551616) (ha : ah < 18446744073709551616) (hc : w.cell? ⟨pb, po, none⟩ = some (.int .i64 0)) (hf : w.frozen? ⟨pb, po, none⟩ = false) (hr : ivR al ah = false) :
    Calls Try.prog 50 #[.pointer (some ⟨pb, po, none⟩), .agg #[.float .f64 al, .float .f64 ah]] w (Told ⟨20, 0, 0⟩ pb po w) := by
  have hz : pb < w.heap.size := cell_lt hc
  have h1 : ((w.alloc (.cells #[.float .f64 al, .float .f64 ah] 39)).alloc (.cells #[.float .f64 0, .float .f64 0] 39)).cell? ⟨pb, po, none⟩ = some (.int .i64 0) := ((bel2 w _ _).cell hz).trans hc
  have h2 : ((w.alloc (.cells #[.float .f64 al, .float .f64 ah] 39)).alloc (.cells #[.float .f64 0, .float .f64 0] 39)).frozen? ⟨pb, po, none⟩ = false := ((bel2 w _ _).frozen hz).trans hf
  have cT := Lib.hid (fun w hc hf => takes_bad al ah pb po w la ha hc hf hr)
  have H1 := Lib.hid h1
  have H2 := Lib.hid h2
  clear h1 h2 hc hf hr la ha
  go_enter Try.func50, Try.ntmps50
  go_wp2_with fail
  refine (cT.out _ H1.out H2.out).mono ?_
  rintro r w1 ⟨rfl, hp⟩
  have HP := Lib.hid (Put.after (bel2 w _ _) hp)
  obtain ⟨z3, c3, f3⟩ := hp.block (k := w.heap.size + 1) (by simp) (by show ¬ pb = w.heap.size + 1; omega) (fun i => World.cell?_alloc_at _ _ _ _ (by simp)) (fun i => World.frozen?_alloc_at _ _ _ _ (by simp))
  clear hp
  go_wp2
  exact bodyPost_ret (v := .agg #[.float .f64 0, .float .f64 0]) (by simp [results, Try.results50, go_sem, c3]) rfl ⟨rfl, (Below.setCell HP.out (by show _ ≤ w.heap.size + 1; omega) _).setCell (by show _ ≤ w.heap.size + 1; omega) _⟩

set_option maxRecDepth 100000 in
set_option maxHeartbeats 1000000 in
theorem cNeg_ok (al ah pb po : Nat) (w : World) (la : al < 18446744073709551616) (ha : ah < 18446744073709551616) (hc : w.cell? ⟨pb, po, none⟩ = some (.int .i64 0)) (hf : w.frozen? ⟨pb, po, none⟩ = false) (hr : ivR al ah = true) :
    Calls Try.prog 50 #[.pointer (some ⟨pb, po, none⟩), .agg #[.float .f64 al, .float .f64 ah]] w (Told (negI al ah) pb po w) := by
  have hz : pb < w.heap.size := cell_lt hc
  have h1 : ((w.alloc (.cells #[.float .f64 al, .float .f64 ah] 39)).alloc (.cells #[.float .f64 0, .float .f64 0] 39)).cell? ⟨pb, po, none⟩ = some (.int .i64 0) := ((bel2 w _ _).cell hz).trans hc
  have h2 : ((w.alloc (.cells #[.float .f64 al, .float .f64 ah] 39)).alloc (.cells #[.float .f64 0, .float .f64 0] 39)).frozen? ⟨pb, po, none⟩ = false := ((bel2 w _ _).frozen hz).trans hf
  have cT := Lib.hid (fun w hc => takes_ok al ah pb po w la ha hc hr)
  have cN := Lib.hid (fun w => ivNeg_any al ah w la ha (ivR_parts hr).1 (ivR_parts hr).2.1)
  have H0 := Lib.hid hc
  have H1 := Lib.hid h1
  have H2 := Lib.hid h2
  clear h1 h2 hc hf hr la ha
  go_enter Try.func50, Try.ntmps50
  go_wp2_with fail
  refine (cT.out _ H1.out).mono ?_
  rintro r w1 ⟨rfl, hb⟩
  have H3 := Lib.hid ((hb.cell (p := ⟨pb, po, none⟩) (by show pb < _; simp; omega)).trans H1.out)
  have H4 := Lib.hid ((hb.frozen (p := ⟨pb, po, none⟩) (by show pb < _; simp; omega)).trans H2.out)
  obtain ⟨z1, z3, c1, f1, c3, f3, B⟩ := after2 hb
  have HB := Lib.hid B
  clear hb B H1 H2
  go_wp2_with fail
  refine (cN.out _).mono ?_
  rintro r w2 ⟨rfl, hb⟩
  obtain ⟨y3, c3', f3'⟩ := keepB hb z1 c3 f3
  have HB2 := Lib.hid (HB.out.trans (hb.mono HB.out.size))
  clear hb HB z1 z3 c1 f1 c3 f3
  go_wp2
  exact bodyPost_ret (v := .agg #[.float .f64 (turnW ah), .float .f64 (turnW al)]) (by simp [results, Try.results50, go_sem, c3']) rfl ⟨rfl, Put.of_below H0.out ((HB2.out.setCell (by show _ ≤ w.heap.size + 1; omega) _).setCell (by show _ ≤ w.heap.size + 1; omega) _)⟩

theorem cNeg_any (e : Int) (al ah pb po : Nat) (w : World) (la : al < 18446744073709551616) (ha : ah < 18446744073709551616) (hc : w.cell? ⟨pb, po, none⟩ = some (.int .i64 e)) (hf : w.frozen? ⟨pb, po, none⟩ = false) :
    Calls Try.prog 50 #[.pointer (some ⟨pb, po, none⟩), .agg #[.float .f64 al, .float .f64 ah]] w (Told (stepI e (ivR al ah) (negI al ah)) pb po w) := by
  cases he : (e == 0)
  · rw [stepI_err _ _ _ he]; exact cNeg_err e al ah pb po w hc he
  · obtain rfl : e = 0 := by simpa using he
    cases hr : ivR al ah
    · rw [stepI_bad]; exact cNeg_bad1 al ah pb po w la ha hc hf hr
    · rw [stepI_ok]; exact cNeg_ok al ah pb po w la ha hc hf hr

set_option maxHeartbeats 400000 in
theorem cSqr_nil (al ah : Nat) (w : World) :
    Calls Try.prog 41 #[.pointer none, .agg #[.float .f64 al, .float .f64 ah]] w fun r w' => r = .returned (.agg #[.float .f64 0, .float .f64 0]) ∧ Below w.heap.size w w' := by
  go_enter Try.func41, Try.ntmps41
  go_wp2_with fail
  refine (takes_nil al ah _).mono ?_
  rintro r w1 ⟨rfl, hb⟩
  obtain ⟨z2, z3, c2, f2, c3, f3, B⟩ := after2 hb
  have HB := Lib.hid B
  clear hb B c2 f2
  go_wp2
  exact bodyPost_ret (v := .agg #[.float .f64 0, .float .f64 0]) (by simp [results, Try.results41, go_sem, c3]) rfl ⟨rfl, (HB.out.setCell (by show _ ≤ w.heap.size + 1; omega) _).setCell (by show _ ≤ w.heap.size + 1; omega) _⟩

set_option maxHeartbeats 400000 in
theorem cSqr_err (e : Int) (al ah pb po : Nat) (w : World) (hc : w.cell? ⟨pb, po, none⟩ = some (.int .i64 e)) (he : (e == 0) = false) :
    Calls Try.prog 41 #[.pointer (some ⟨pb, po, none⟩), .agg #[.float .f64 al, .float .f64 ah]] w (Told ⟨e, 0, 0⟩ pb po w) := by
  have hz : pb < w.heap.size := cell_lt hc
  have h1 : ((w.alloc (.cells #[.float .f64 al, .float .f64 ah] 39)).alloc (.cells #[.float .f64 0, .float .f64 0] 39)).cell? ⟨pb, po, none⟩ = some (.int .i64 e) := ((bel2 w _ _).cell hz).trans hc
  have cT := Lib.hid (fun w hc => takes_err al ah e pb po w hc he)
  have H1 := Lib.hid h1
  have HC := Lib.hid hc
  clear h1 hc he hz
  go_enter Try.func41, Try.ntmps41
  go_wp2_with fail
  refine (cT.out _ H1.out).mono ?_
  rintro r w1 ⟨rfl, hb⟩
  obtain ⟨z2, z3, c2, f2, c3, f3, B⟩ := after2 hb
  have HB := Lib.hid B
  clear hb B c2 f2
  go_wp2
  exact bodyPost_ret (v := .agg #[.float .f64 0, .float .f64 0]) (by simp [results, Try.results41, go_sem, c3]) rfl ⟨rfl, Put.of_below HC.out ((HB.out.setCell (by show _ ≤ w.heap.size + 1; omega) _).setCell (by show _ ≤ w.heap.size + 1; omega) _)⟩

set_option maxHeartbeats 400000 in
theorem cSqr_bad1 (al ah pb po : Nat) (w : World) (la : al < 18446744073709551616) (ha : ah < 18446744073709551616) (hc : w.cell? ⟨pb, po, none⟩ = some (.int .i64 0)) (hf : w.frozen? ⟨pb, po, none⟩ = false) (hr : ivR al ah = false) :
    Calls Try.prog 41 #[.pointer (some ⟨pb, po, none⟩), .agg #[.float .f64 al, .float .f64 ah]] w (Told ⟨20, 0, 0⟩ pb po w) := by
  have hz : pb < w.heap.size := cell_lt hc
  have h1 : ((w.alloc (.cells #[.float .f64 al, .float .f64 ah] 39)).alloc (.cells #[.float .f64 0, .float .f64 0] 39)).cell? ⟨pb, po, none⟩ = some (.int .i64 0) := ((bel2 w _ _).cell hz).trans hc
  have h2 : ((w.alloc (.cells #[.float .f64 al, .float .f64 ah] 39)).alloc (.cells #[.float .f64 0, .float .f64 0] 39)).frozen? ⟨pb, po, none⟩ = false := ((bel2 w _ _).frozen hz).trans hf
  have cT := Lib.hid (fun w hc hf => takes_bad al ah pb po w la ha hc hf hr)
  have H1 := Lib.hid h1
  have H2 := Lib.hid h2
  clear h1 h2 hc hf hr la ha
  go_enter Try.func41, Try.ntmps41
  go_wp2_with fail
  refine (cT.out _ H1.out H2.out).mono ?_
  rintro r w1 ⟨rfl, hp⟩
  have HP := Lib.hid (Put.after (bel2 w _ _) hp)
  obtain ⟨z3, c3, f3⟩ := hp.block (k := w.heap.size + 1) (by simp) (by show ¬ pb = w.heap.size + 1; omega) (fun i => World.cell?_alloc_at _ _ _ _ (by simp)) (fun i => World.frozen?_alloc_at _ _ _ _ (by simp))
  clear hp
  go_wp2
  exact bodyPost_ret (v := .agg #[.float .f64 0, .float .f64 0]) (by simp [results, Try.results41, go_sem, c3]) rfl ⟨rfl, (Below.setCell HP.out (by show _ ≤ w.heap.size + 1; omega) _).setCell (by show _ ≤ w.heap.size + 1; omega) _⟩

theorem abs_lt (a b : Nat) (ha : a < 18446744073709551616) (hb : b < 18446744073709551616) (ra : rightB a = true) (rb : rightB b = true) : absLo a b < 18446744073709551616 ∧ absHi a b < 18446744073709551616 := by
  obtain ⟨t1, t2, _⟩ := turn_facts a ha ra
  obtain ⟨u1, u2, _⟩ := turn_facts b hb rb
  obtain ⟨m1, _, _⟩ := max_facts b (turnW a) hb t1 rb t2
  unfold absLo absHi
  refine ⟨?_, ?_⟩
  · split
    · exact ha
    · split
      · exact u1
      · decide
  · split
    · exact hb
    · split
      · exact t1
      · exact m1

set_option maxRecDepth 100000 in
set_option maxHeartbeats 1000000 in
theorem cSqr_ok (al ah pb po : Nat) (w : World) (la : al < 18446744073709551616) (ha : ah < 18446744073709551616) (hc : w.cell? ⟨pb, po, none⟩ = some (.int .i64 0)) (hf : w.frozen? ⟨pb, po, none⟩ = false) (hr : ivR al ah = true) :
    Calls Try.prog 41 #[.pointer (some ⟨pb, po, none⟩), .agg #[.float .f64 al, .float .f64 ah]] w (Told (sqrI al ah) pb po w) := by
  have hz : pb < w.heap.size := cell_lt hc
  have h1 : ((w.alloc (.cells #[.float .f64 al, .float .f64 ah] 39)).alloc (.cells #[.float .f64 0, .float .f64 0] 39)).cell? ⟨pb, po, none⟩ = some (.int .i64 0) := ((bel2 w _ _).cell hz).trans hc
  have h2 : ((w.alloc (.cells #[.float .f64 al, .float .f64 ah] 39)).alloc (.cells #[.float .f64 0, .float .f64 0] 39)).frozen? ⟨pb, po, none⟩ = false := ((bel2 w _ _).frozen hz).trans hf
  have cT := Lib.hid (fun w hc => takes_ok al ah pb po w la ha hc hr)
  have cN := Lib.hid (fun w => magnitude_any al ah w la ha (ivR_parts hr).1 (ivR_parts hr).2.1)
  obtain ⟨x, hx⟩ : ∃ x, x = absLo al ah := ⟨_, rfl⟩
  obtain ⟨y, hy⟩ : ∃ y, y = absHi al ah := ⟨_, rfl⟩
  obtain ⟨lx, ly⟩ : x < 18446744073709551616 ∧ y < 18446744073709551616 := by rw [hx, hy]; exact abs_lt al ah la ha (ivR_parts hr).1 (ivR_parts hr).2.1
  obtain ⟨R, hR⟩ : ∃ R, R = sqrI al ah := ⟨_, rfl⟩
  have cX : Hid (∀ w, w.cell? ⟨pb, po, none⟩ = some (.int .i64 0) → w.frozen? ⟨pb, po, none⟩ = false → Calls Try.prog 104 #[.pointer (some ⟨pb, po, none⟩), .func (.func 107) #[.agg #[.float .f64 x, .float .f64 x]] #[], .func (.func 107) #[.agg #[.float .f64 y, .float .f64 y]] #[]] w (Told R pb po w)) := by
    intro w hc hf
    rw [hR]
    unfold sqrI
    rw [← hx, ← hy]
    exact tight_product _ _ _ _ pb po w _ _ (Lib.hid (fun w => end_product x x false w lx lx)) (Lib.hid (fun w => end_product y y true w ly ly)) hc hf
  rw [← hR]
  clear hR
  rw [← hx, ← hy] at cN
  clear hx hy lx ly
  have H0 := Lib.hid hc
  have H1 := Lib.hid h1
  have H2 := Lib.hid h2
  clear h1 h2 hc hf hr la ha
  go_enter Try.func41, Try.ntmps41
  go_wp2_with fail
  refine (cT.out _ H1.out).mono ?_
  rintro r w1 ⟨rfl, hb⟩
  have H3 := Lib.hid ((hb.cell (p := ⟨pb, po, none⟩) (by show pb < _; simp; omega)).trans H1.out)
  have H4 := Lib.hid ((hb.frozen (p := ⟨pb, po, none⟩) (by show pb < _; simp; omega)).trans H2.out)
  obtain ⟨z1, z3, c1, f1, c3, f3, B⟩ := after2 hb
  have HB := Lib.hid B
  clear hb B H1 H2
  go_wp2_with fail
  refine (cN.out _).mono ?_
  rintro r w2 ⟨rfl, hb⟩
  have H5 := Lib.hid ((hb.cell (p := ⟨pb, po, none⟩) (by show pb < _; omega)).trans H3.out)
  have H6 := Lib.hid ((hb.frozen (p := ⟨pb, po, none⟩) (by show pb < _; omega)).trans H4.out)
  obtain ⟨y3, c3', f3'⟩ := keepB hb z1 c3 f3
  have HB2 := Lib.hid (HB.out.trans (hb.mono HB.out.size))
  have hz2 : pb < w2.heap.size := by omega
  clear hb HB z1 z3 c1 f1 c3 f3 H3 H4
  go_wp2_with fail
  refine (cX.out _ ((World.cell?_alloc_lt _ _ _ (by show pb < _; omega)).trans H5.out) (((bel1 _ _).frozen (p := ⟨pb, po, none⟩) (by show pb < _; omega)).trans H6.out)).mono ?_
  rintro r w3 ⟨rfl, hp⟩
  have HP := Lib.hid (Put.after (HB2.out.trans ((bel1 _ _).mono HB2.out.size)) hp)
  obtain ⟨x3, d3, g3⟩ := hp.block (k := w.heap.size + 1) (by simp; omega) (by show ¬ pb = w.heap.size + 1; omega) (fun i => (World.cell?_alloc_lt _ _ _ (by show w.heap.size + 1 < _; omega)).trans (c3' i)) (fun i => ((bel1 _ _).frozen (p := ⟨w.heap.size + 1, i, none⟩) (by show w.heap.size + 1 < _; omega)).trans (f3' i))
  clear hp H5 H6 HB2 c3' f3'
  go_wp2
  exact bodyPost_ret (v := .agg #[.float .f64 R.lo, .float .f64 R.hi]) (by simp [results, Try.results41, go_sem, d3]) rfl ⟨rfl, (Below.setCell HP.out (by show _ ≤ w.heap.size + 1; omega) _).setCell (by show _ ≤ w.heap.size + 1; omega) _⟩

theorem cSqr_any (e : Int) (al ah pb po : Nat) (w : World) (la : al < 18446744073709551616) (ha : ah < 18446744073709551616) (hc : w.cell? ⟨pb, po, none⟩ = some (.int .i64 e)) (hf : w.frozen? ⟨pb, po, none⟩ = false) :
    Calls Try.prog 41 #[.pointer (some ⟨pb, po, none⟩), .agg #[.float .f64 al, .float .f64 ah]] w (Told (stepI e (ivR al ah) (sqrI al ah)) pb po w) := by
  cases he : (e == 0)
  · rw [stepI_err _ _ _ he]; exact cSqr_err e al ah pb po w hc he
  · obtain rfl : e = 0 := by simpa using he
    cases hr : ivR al ah
    · rw [stepI_bad]; exact cSqr_bad1 al ah pb po w la ha hc hf hr
    · rw [stepI_ok]; exact cSqr_ok al ah pb po w la ha hc hf hr

set_option maxHeartbeats 400000 in
theorem cNum_nil (a : Nat) (w : World) :
    Calls Try.prog 51 #[.pointer none, .float .f64 a] w fun r w' => r = .returned (.agg #[.float .f64 0, .float .f64 0]) ∧ Below w.heap.size w w' := by
  go_enter Try.func51, Try.ntmps51
  go_wp2_with fail
  refine (works_nil _).mono ?_
  rintro r w1 ⟨rfl, rfl⟩
  go_wp2
  exact bodyPost_ret (v := .agg #[.float .f64 0, .float .f64 0]) (by simp [results, Try.results51, go_sem]) rfl ⟨rfl, bel1 _ _⟩

set_option maxHeartbeats 400000 in
theorem cNum_any (e : Int) (a pb po : Nat) (w : World) (ha : a < 18446744073709551616) (hc : w.cell? ⟨pb, po, none⟩ = some (.int .i64 e)) (hf : w.frozen? ⟨pb, po, none⟩ = false) :
    Calls Try.prog 51 #[.pointer (some ⟨pb, po, none⟩), .float .f64 a] w (Told (stepI e true (ofI a)) pb po w) := by
  have hz : pb < w.heap.size := cell_lt hc
  have h1 : (w.alloc (.cells #[.float .f64 0, .float .f64 0] 39)).cell? ⟨pb, po, none⟩ = some (.int .i64 e) := ((bel1 w _).cell hz).trans hc
  have h2 : (w.alloc (.cells #[.float .f64 0, .float .f64 0] 39)).frozen? ⟨pb, po, none⟩ = false := ((bel1 w _).frozen hz).trans hf
  have cW := Lib.hid (fun w hc => works_any e pb po w hc)
  have cO := Lib.hid (fun w => of_any a w ha)
  have H0 := Lib.hid hc
  have H1 := Lib.hid h1
  have H2 := Lib.hid h2
  clear h1 h2 hc hf ha
  cases he : (e == 0)
  · rw [stepI_err _ _ _ he]
    go_enter Try.func51, Try.ntmps51
    go_wp2_with fail
    refine (cW.out _ H1.out).mono ?_
    rintro r w1 ⟨rfl, rfl⟩
    go_wp2
    exact bodyPost_ret (v := .agg #[.float .f64 0, .float .f64 0]) (by simp [results, Try.results51, go_sem]) rfl ⟨rfl, Put.of_below H0.out (bel1 _ _)⟩
  · obtain rfl : e = 0 := by simpa using he
    rw [stepI_ok]
    obtain ⟨R, hR⟩ : ∃ R, R = ofI a := ⟨_, rfl⟩
    rw [← hR] at cO ⊢
    have cO' : Hid (∀ w, Calls Try.prog 112 #[.float .f64 a] w fun r w' => r = .returned (.tuple #[.agg #[.float .f64 R.lo, .float .f64 R.hi], .int .i64 R.e]) ∧ Below w.heap.size w w') := cO
    clear hR cO he
    go_enter Try.func51, Try.ntmps51
    go_wp2_with fail
    refine (cW.out _ H1.out).mono ?_
    rintro r w1 ⟨rfl, rfl⟩
    go_wp2_with fail
    refine (cO'.out _).mono ?_
    rintro r w2 ⟨rfl, hb⟩
    have h5 := ((hb.cell (p := ⟨pb, po, none⟩) (by show pb < _; simp; omega)).trans H1.out)
    have h6 := ((hb.frozen (p := ⟨pb, po, none⟩) (by show pb < _; simp; omega)).trans H2.out)
    obtain ⟨z3, c3, f3, B⟩ := after1 hb
    have HB := Lib.hid B
    have n1 : ¬ pb = w2.heap.size := by omega
    have n2 : ¬ pb = w.heap.size := by omega
    have n3 : ¬ w.heap.size = w2.heap.size := by omega
    have n4 : ¬ w.heap.size = pb := by omega
    have hz2 : pb < w2.heap.size := by omega
    have hs : ∀ v, (w2.setCell ⟨pb, po, none⟩ v).heap.size = w2.heap.size := fun v => size_set _ _ _
    clear hb B H1 H2
    go_wp2
    have c4 : ∀ i, (w2.setCell ⟨pb, po, none⟩ (.int .i64 R.e)).cell? ⟨w.heap.size, i, none⟩ = #[Value.float .f64 0, Value.float .f64 0][i]? := fun i => (World.cell?_setCell_other _ _ _ _ (fun h => n2 (congrArg Addr.block h))).trans (c3 i)
    obtain ⟨q0, q1⟩ := res2 _ w.heap.size (.float .f64 R.lo) (.float .f64 R.hi) _ _ c4 (.cells #[.float .f64 R.lo, .float .f64 R.hi] 39) (by rw [size_set]; omega)
    refine bodyPost_ret (v := .agg #[.float .f64 R.lo, .float .f64 R.hi]) (by simp [results, Try.results51, go_sem, q0, q1]) rfl ⟨rfl, ?_⟩
    exact (((both HB.out _ _).setCell (by show _ ≤ w.heap.size; omega) _).setCell (by show _ ≤ w.heap.size; omega) _).alloc (by rw [size_set, size_set, size_set]; omega) _

end Go.Proofs.Ytmcecchcbfhfcaa
