
/- Package ival: the calculator's method Sqrt. -/
import Derived.Test.YtmcecchcbfhfcaaIvE
namespace Go.Proofs.Ytmcecchcbfhfcaa
open Go.RowKit
attribute [local go_sem] run_store_float

set_option maxHeartbeats 400000 in
theorem cSqrt_nil (al ah : Nat) (w : World) :
    Calls Try.prog 56 #[.pointer none, .agg #[.float .f64 al, .float .f64 ah]] w fun r w' => r = .returned (.agg #[.float .f64 0, .float .f64 0]) ∧ Below w.heap.size w w' := by
  go_enter Try.func56, Try.ntmps56
  go_wp2_with fail
  refine (takes_nil al ah _).mono ?_
  rintro r w1 ⟨rfl, hb⟩
  obtain ⟨z2, z3, c2, f2, c3, f3, B⟩ := after2 hb
  have HB := Lib.hid B
  clear hb B c2 f2
  go_wp2
  exact bodyPost_ret (v := .agg #[.float .f64 0, .float .f64 0]) (by simp [results, Try.results56, go_sem, c3]) rfl ⟨rfl, (HB.out.setCell (by show _ ≤ w.heap.size + 1; omega) _).setCell (by show _ ≤ w.heap.size + 1; omega) _⟩

set_option maxHeartbeats 400000 in
theorem cSqrt_err (e : Int) (al ah pb po : Nat) (w : World) (hc : w.cell? ⟨pb, po, none⟩ = some (.int .i64 e)) (he : (e == 0) = false) :
    Calls Try.prog 56 #[.pointer (some ⟨pb, po, none⟩), .agg #[.float .f64 al, .float .f64 ah]] w (Told ⟨e, 0, 0⟩ pb po w) := by
  have hz : pb < w.heap.size := cell_lt hc
  have h1 : ((w.alloc (.cells #[.float .f64 al, .float .f64 ah] 39)).alloc (.cells #[.float .f64 0, .float .f64 0] 39)).cell? ⟨pb, po, none⟩ = some (.int .i64 e) := ((bel2 w _ _).cell hz).trans hc
  have cT := Lib.hid (fun w hc => takes_err al ah e pb po w hc he)
  have H1 := Lib.hid h1
  have HC := Lib.hid hc
  clear h1 hc he hz
  go_enter Try.func56, Try.ntmps56
  go_wp2_with fail
  refine (cT.out _ H1.out).mono ?_
  rintro r w1 ⟨rfl, hb⟩
  obtain ⟨z2, z3, c2, f2, c3, f3, B⟩ := after2 hb
  have HB := Lib.hid B
  clear hb B c2 f2
  go_wp2
  exact bodyPost_ret (v := .agg #[.float .f64 0, .float .f64 0]) (by simp [results, Try.results56, go_sem, c3]) rfl ⟨rfl, Put.of_below HC.out ((HB.out.setCell (by show _ ≤ w.heap.size + 1; omega) _).setCell (by show _ ≤ w.heap.size + 1; omega) _)⟩

set_option maxHeartbeats 400000 in
theorem cSqrt_bad1 (al ah pb po : Nat) (w : World) (la : al < 18446744073709551616) (ha : ah < 18446744073709551616) (hc : w.cell? ⟨pb, po, none⟩ = some (.int .i64 0)) (hf : w.frozen? ⟨pb, po, none⟩ = false) (hr : ivR al ah = false) :
    Calls Try.prog 56 #[.pointer (some ⟨pb, po, none⟩), .agg #[.float .f64 al, .float .f64 ah]] w (Told ⟨20, 0, 0⟩ pb po w) := by
  have hz : pb < w.heap.size := cell_lt hc
  have h1 : ((w.alloc (.cells #[.float .f64 al, .float .f64 ah] 39)).alloc (.cells #[.float .f64 0, .float .f64 0] 39)).cell? ⟨pb, po, none⟩ = some (.int .i64 0) := ((bel2 w _ _).cell hz).trans hc
  have h2 : ((w.alloc (.cells #[.float .f64 al, .float .f64 ah] 39)).alloc (.cells #[.float .f64 0, .float .f64 0] 39)).frozen? ⟨pb, po, none⟩ = false := ((bel2 w _ _).frozen hz).trans hf
  have cT := Lib.hid (fun w hc hf => takes_bad al ah pb po w la ha hc hf hr)
  have H1 := Lib.hid h1
  have H2 := Lib.hid h2
  clear h1 h2 hc hf hr la ha
  go_enter Try.func56, Try.ntmps56
  go_wp2_with fail
  refine (cT.out _ H1.out H2.out).mono ?_
  rintro r w1 ⟨rfl, hp⟩
  have HP := Lib.hid (Put.after (bel2 w _ _) hp)
  obtain ⟨z3, c3, f3⟩ := hp.block (k := w.heap.size + 1) (by simp) (by show ¬ pb = w.heap.size + 1; omega) (fun i => World.cell?_alloc_at _ _ _ _ (by simp)) (fun i => World.frozen?_alloc_at _ _ _ _ (by simp))
  clear hp
  go_wp2
  exact bodyPost_ret (v := .agg #[.float .f64 0, .float .f64 0]) (by simp [results, Try.results56, go_sem, c3]) rfl ⟨rfl, (Below.setCell HP.out (by show _ ≤ w.heap.size + 1; omega) _).setCell (by show _ ≤ w.heap.size + 1; omega) _⟩

set_option maxRecDepth 100000 in
set_option maxHeartbeats 1000000 in
theorem cSqrt_ok (al ah pb po : Nat) (w : World) (la : al < 18446744073709551616) (ha : ah < 18446744073709551616) (hc : w.cell? ⟨pb, po, none⟩ = some (.int .i64 0)) (hf : w.frozen? ⟨pb, po, none⟩ = false) (hr : ivR al ah = true) :
    Calls Try.prog 56 #[.pointer (some ⟨pb, po, none⟩), .agg #[.float .f64 al, .float .f64 ah]] w (Told (sqrtI al ah) pb po w) := by
  have hz : pb < w.heap.size := cell_lt hc
  have h1 : ((w.alloc (.cells #[.float .f64 al, .float .f64 ah] 39)).alloc (.cells #[.float .f64 0, .float .f64 0] 39)).cell? ⟨pb, po, none⟩ = some (.int .i64 0) := ((bel2 w _ _).cell hz).trans hc
  have h2 : ((w.alloc (.cells #[.float .f64 al, .float .f64 ah] 39)).alloc (.cells #[.float .f64 0, .float .f64 0] 39)).frozen? ⟨pb, po, none⟩ = false := ((bel2 w _ _).frozen hz).trans hf
  have cT := Lib.hid (fun w hc => takes_ok al ah pb po w la ha hc hr)
  have o1 := lt_zero al la (ivR_parts hr).1
  have cO := Lib.hid (fun x w => rootOf_any x w)
  obtain ⟨R, hR⟩ : ∃ R, R = tightR (sqrtW al false) (sqrtE al false) (sqrtW ah true) (sqrtE ah true) := ⟨_, rfl⟩
  have cX : Hid (∀ w ql qh, w.cell? ⟨ql, 0, none⟩ = some (.float .f64 al) → w.cell? ⟨qh, 0, none⟩ = some (.float .f64 ah) → w.cell? ⟨pb, po, none⟩ = some (.int .i64 0) → w.frozen? ⟨pb, po, none⟩ = false → Calls Try.prog 104 #[.pointer (some ⟨pb, po, none⟩), .func (.func 151) #[] #[.pointer (some ⟨ql, 0, none⟩)], .func (.func 151) #[] #[.pointer (some ⟨qh, 0, none⟩)]] w (Told R pb po w)) := by
    intro w ql qh h3 h4 hc hf
    rw [hR]
    exact tight_root _ _ _ _ pb po w ql qh al ah (Lib.hid (fun w hq => rootOf1_any al false ql w la hq)) (Lib.hid (fun w hq => rootOf1_any ah true qh w ha hq)) h3 h4 hc hf
  cases hlt : ltB al 0
  · rw [hlt] at o1
    have hI : sqrtI al ah = R := by rw [hR]; unfold sqrtI; rw [if_neg (by rw [hlt]; exact Bool.false_ne_true)]
    rw [hI]
    clear hI hR hlt
    have H0 := Lib.hid hc
    have H1 := Lib.hid h1
    have H2 := Lib.hid h2
    clear h1 h2 hc hf hr la ha
    go_enter Try.func56, Try.ntmps56
    go_wp2_with fail
    refine (cT.out _ H1.out).mono ?_
    rintro r w1 ⟨rfl, hb⟩
    have H3 := Lib.hid ((hb.cell (p := ⟨pb, po, none⟩) (by show pb < _; simp; omega)).trans H1.out)
    have H4 := Lib.hid ((hb.frozen (p := ⟨pb, po, none⟩) (by show pb < _; simp; omega)).trans H2.out)
    obtain ⟨z1, z3, c1, f1, c3, f3, B⟩ := after2 hb
    have HB := Lib.hid B
    clear hb B H1 H2
    have k1 := c1 0
    have k2 := c1 1
    have W2 : Hid (Below w1.heap.size w1 ((w1.alloc (.cells #[.float .f64 al] 22)).alloc (.cells #[.float .f64 ah] 22)).drew) := Lib.hid (bel2 w1 _ _).drew
    have Q1 : Hid (((w1.alloc (.cells #[.float .f64 al] 22)).alloc (.cells #[.float .f64 ah] 22)).drew.cell? ⟨w1.heap.size, 0, none⟩ = some (.float .f64 al)) := Lib.hid ((World.cell?_alloc_lt _ _ _ (by show w1.heap.size < _; simp)).trans (World.cell?_alloc_at _ _ _ _ rfl))
    have Q2 : Hid (((w1.alloc (.cells #[.float .f64 al] 22)).alloc (.cells #[.float .f64 ah] 22)).drew.cell? ⟨w1.heap.size + 1, 0, none⟩ = some (.float .f64 ah)) := Lib.hid (World.cell?_alloc_at _ _ _ _ (by simp))
    have Q3 := Lib.hid ((W2.out.cell (p := ⟨pb, po, none⟩) (by show pb < _; omega)).trans H3.out)
    have Q4 := Lib.hid ((W2.out.frozen (p := ⟨pb, po, none⟩) (by show pb < _; omega)).trans H4.out)
    have K1 := Lib.hid (keepB W2.out z3 c1 f1)
    have K3 := Lib.hid (keepB W2.out z1 c3 f3)
    have HB2 := Lib.hid (HB.out.trans (W2.out.mono HB.out.size))
    clear c1 f1 c3 f3 HB H3 H4 W2
    go_wp2_with fail
    go_region_held3 (fun w' => w'.cell? ⟨w.heap.size, 0, none⟩ = some (.float .f64 al) ∧ w'.cell? ⟨w.heap.size, 1, none⟩ = some (.float .f64 ah)) (go_keep)
      (first
        | (go_at_call 120; refine (cO.out _ _).mono ?_; rintro r w2 ⟨rfl, rfl⟩)
        | (go_at_call 104; refine (cX.out _ w1.heap.size (w1.heap.size + 1) Q1.out Q2.out Q3.out Q4.out).mono ?_; rintro r w3 ⟨rfl, hp⟩; have HP := Lib.hid (Put.after HB2.out hp); obtain ⟨x1, d1, g1⟩ := hp.block (k := w.heap.size) K1.out.1 (by show ¬ pb = w.heap.size; omega) K1.out.2.1 K1.out.2.2; obtain ⟨x3, d3, g3⟩ := hp.block (k := w.heap.size + 1) K3.out.1 (by show ¬ pb = w.heap.size + 1; omega) K3.out.2.1 K3.out.2.2; have s1 := d1 0; have s2 := d1 1; clear hp))
    go_wp2
    exact bodyPost_ret (v := .agg #[.float .f64 R.lo, .float .f64 R.hi]) (by simp [results, Try.results56, go_sem, d3]) rfl ⟨rfl, (Below.setCell HP.out (by show _ ≤ w.heap.size + 1; omega) _).setCell (by show _ ≤ w.heap.size + 1; omega) _⟩
  · rw [hlt] at o1
    have hI : sqrtI al ah = ⟨12, 0, 0⟩ := by unfold sqrtI; rw [if_pos hlt]
    rw [hI]
    clear hI hR hlt cX cO R
    have cF := Lib.hid (fun w hc hf => fail_any 0 12 pb po w hc hf)
    have H0 := Lib.hid hc
    have H1 := Lib.hid h1
    have H2 := Lib.hid h2
    clear h1 h2 hc hf hr la ha
    go_enter Try.func56, Try.ntmps56
    go_wp2_with fail
    refine (cT.out _ H1.out).mono ?_
    rintro r w1 ⟨rfl, hb⟩
    have H3 := Lib.hid ((hb.cell (p := ⟨pb, po, none⟩) (by show pb < _; simp; omega)).trans H1.out)
    have H4 := Lib.hid ((hb.frozen (p := ⟨pb, po, none⟩) (by show pb < _; simp; omega)).trans H2.out)
    obtain ⟨z1, z3, c1, f1, c3, f3, B⟩ := after2 hb
    have HB := Lib.hid B
    clear hb B H1 H2
    go_wp2_with fail
    refine (cF.out _ H3.out H4.out).mono ?_
    rintro r w2 ⟨rfl, hp⟩
    have HP := Lib.hid (Put.after HB.out hp)
    obtain ⟨x3, d3, g3⟩ := hp.block (k := w.heap.size + 1) z1 (by show ¬ pb = w.heap.size + 1; omega) c3 f3
    clear hp H3 H4 HB c1 f1 c3 f3
    go_wp2
    exact bodyPost_ret (v := .agg #[.float .f64 0, .float .f64 0]) (by simp [results, Try.results56, go_sem, d3]) rfl ⟨rfl, (Below.setCell HP.out (by show _ ≤ w.heap.size + 1; omega) _).setCell (by show _ ≤ w.heap.size + 1; omega) _⟩

theorem cSqrt_any (e : Int) (al ah pb po : Nat) (w : World) (la : al < 18446744073709551616) (ha : ah < 18446744073709551616) (hc : w.cell? ⟨pb, po, none⟩ = some (.int .i64 e)) (hf : w.frozen? ⟨pb, po, none⟩ = false) :
    Calls Try.prog 56 #[.pointer (some ⟨pb, po, none⟩), .agg #[.float .f64 al, .float .f64 ah]] w (Told (stepI e (ivR al ah) (sqrtI al ah)) pb po w) := by
  cases he : (e == 0)
  · rw [stepI_err _ _ _ he]; exact cSqrt_err e al ah pb po w hc he
  · obtain rfl : e = 0 := by simpa using he
    cases hr : ivR al ah
    · rw [stepI_bad]; exact cSqrt_bad1 al ah pb po w la ha hc hf hr
    · rw [stepI_ok]; exact cSqrt_ok al ah pb po w la ha hc hf hr

end Go.Proofs.Ytmcecchcbfhfcaa
