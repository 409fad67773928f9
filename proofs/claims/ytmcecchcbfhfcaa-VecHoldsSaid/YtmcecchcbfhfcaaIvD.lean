
/- Package ival: what the calculator's methods answer, whatever it holds and whatever is handed in. -/
import Derived.Test.YtmcecchcbfhfcaaIvC
namespace Go.Proofs.Ytmcecchcbfhfcaa
open Go.RowKit
attribute [local go_sem] run_store_float

/-- What a calculator with the error e answers: nothing behind an error; an error if what is handed in is not right; else the result. -/
def stepI (e : Int) (ok : Bool) (r : Res) : Res := if e = 0 then (if ok then r else ⟨20, 0, 0⟩) else ⟨e, 0, 0⟩
theorem stepI_err (e : Int) (ok : Bool) (r : Res) (h : (e == 0) = false) : stepI e ok r = ⟨e, 0, 0⟩ := by unfold stepI; rw [if_neg (by simpa using h)]
theorem stepI_bad (r : Res) : stepI 0 false r = ⟨20, 0, 0⟩ := by unfold stepI; rw [if_pos rfl, if_neg (by simp)]
theorem stepI_ok (r : Res) : stepI 0 true r = r := by unfold stepI; rw [if_pos rfl, if_pos rfl]

/-- The sums, differences, lesser and greater ones, negatives, absolute values, squares of intervals. -/
def addI (al ah bl bh : Nat) : Res := tightR (addW al bl false) (addE al bl false) (addW ah bh true) (addE ah bh true)
def subI (al ah bl bh : Nat) : Res := tightR (subW al bh false) (subE al bh false) (subW ah bl true) (subE ah bl true)
def minI (al ah bl bh : Nat) : Res := ⟨0, minW al bl, minW ah bh⟩
def maxI (al ah bl bh : Nat) : Res := ⟨0, maxW al bl, maxW ah bh⟩
def negI (al ah : Nat) : Res := ⟨0, turnW ah, turnW al⟩
def absI (al ah : Nat) : Res := ⟨0, absLo al ah, absHi al ah⟩
def sqrI (al ah : Nat) : Res := tightR (mulW (absLo al ah) (absLo al ah) false) (mulE (absLo al ah) (absLo al ah) false) (mulW (absHi al ah) (absHi al ah) true) (mulE (absHi al ah) (absHi al ah) true)

theorem ivR_parts {a b : Nat} (h : ivR a b = true) : rightB a = true ∧ rightB b = true ∧ val a ≤ val b := by
  unfold ivR leB at h
  simp at h
  exact ⟨h.1.1, h.1.2, h.2⟩

/-- What a method leaves: its answer, and the calculator's cell. -/
def Told (R : Res) (pb po : Nat) (w : World) (r : Ending) (w' : World) : Prop := r = .returned (.agg #[.float .f64 R.lo, .float .f64 R.hi]) ∧ Put ⟨pb, po, none⟩ (.int .i64 R.e) w w'
theorem Told.open {R : Res} {pb po : Nat} {w w' : World} {r : Ending} (h : Told R pb po w r w') : r = .returned (.agg #[.float .f64 R.lo, .float .f64 R.hi]) ∧ Put ⟨pb, po, none⟩ (.int .i64 R.e) w w' := h

set_option maxHeartbeats 400000 in
theorem cAdd_nil (al ah bl bh : Nat) (w : World) :
    Calls Try.prog 40 #[.pointer none, .agg #[.float .f64 al, .float .f64 ah], .agg #[.float .f64 bl, .float .f64 bh]] w fun r w' => r = .returned (.agg #[.float .f64 0, .float .f64 0]) ∧ Below w.heap.size w w' := by
  go_enter Try.func40, Try.ntmps40
  go_wp2_with fail
  refine (takes_nil al ah _).mono ?_
  rintro r w1 ⟨rfl, hb⟩
  obtain ⟨z1, z2, z3, c1, f1, c2, f2, c3, f3, B⟩ := after3 hb
  have HB := Lib.hid B
  clear hb B c1 f1 c2 f2
  go_wp2
  exact bodyPost_ret (v := .agg #[.float .f64 0, .float .f64 0]) (by simp [results, Try.results40, go_sem, c3]) rfl ⟨rfl, (HB.out.setCell (by show _ ≤ w.heap.size + 1 + 1; omega) _).setCell (by show _ ≤ w.heap.size + 1 + 1; omega) _⟩

set_option maxHeartbeats 400000 in
theorem cAdd_err (e : Int) (al ah bl bh pb po : Nat) (w : World) (hc : w.cell? ⟨pb, po, none⟩ = some (.int .i64 e)) (he : (e == 0) = false) :
    Calls Try.prog 40 #[.pointer (some ⟨pb, po, none⟩), .agg #[.float .f64 al, .float .f64 ah], .agg #[.float .f64 bl, .float .f64 bh]] w (Told ⟨e, 0, 0⟩ pb po w) := by
  have hz : pb < w.heap.size := cell_lt hc
  have h1 : (((w.alloc (.cells #[.float .f64 al, .float .f64 ah] 39)).alloc (.cells #[.float .f64 bl, .float .f64 bh] 39)).alloc (.cells #[.float .f64 0, .float .f64 0] 39)).cell? ⟨pb, po, none⟩ = some (.int .i64 e) := ((bel3 w _ _ _).cell hz).trans hc
  have cT := Lib.hid (fun w hc => takes_err al ah e pb po w hc he)
  have H1 := Lib.hid h1
  have HC := Lib.hid hc
  clear h1 hc he hz
  go_enter Try.func40, Try.ntmps40
  go_wp2_with fail
  refine (cT.out _ H1.out).mono ?_
  rintro r w1 ⟨rfl, hb⟩
  obtain ⟨z1, z2, z3, c1, f1, c2, f2, c3, f3, B⟩ := after3 hb
  have HB := Lib.hid B
  clear hb B c1 f1 c2 f2
  go_wp2
  exact bodyPost_ret (v := .agg #[.float .f64 0, .float .f64 0]) (by simp [results, Try.results40, go_sem, c3]) rfl ⟨rfl, Put.of_below HC.out ((HB.out.setCell (by show _ ≤ w.heap.size + 1 + 1; omega) _).setCell (by show _ ≤ w.heap.size + 1 + 1; omega) _)⟩

set_option maxHeartbeats 400000 in
theorem cAdd_bad1 (al ah bl bh pb po : Nat) (w : World) (la : al < 18446744073709551616) (ha : ah < 18446744073709551616) (hc : w.cell? ⟨pb, po, none⟩ = some (.int .i64 0)) (hf : w.frozen? ⟨pb, po, none⟩ = false) (hr : ivR al ah = false) :
    Calls Try.prog 40 #[.pointer (some ⟨pb, po, none⟩), .agg #[.float .f64 al, .float .f64 ah], .agg #[.float .f64 bl, .float .f64 bh]] w (Told ⟨20, 0, 0⟩ pb po w) := by
  have hz : pb < w.heap.size := cell_lt hc
  have h1 : (((w.alloc (.cells #[.float .f64 al, .float .f64 ah] 39)).alloc (.cells #[.float .f64 bl, .float .f64 bh] 39)).alloc (.cells #[.float .f64 0, .float .f64 0] 39)).cell? ⟨pb, po, none⟩ = some (.int .i64 0) := ((bel3 w _ _ _).cell hz).trans hc
  have h2 : (((w.alloc (.cells #[.float .f64 al, .float .f64 ah] 39)).alloc (.cells #[.float .f64 bl, .float .f64 bh] 39)).alloc (.cells #[.float .f64 0, .float .f64 0] 39)).frozen? ⟨pb, po, none⟩ = false := ((bel3 w _ _ _).frozen hz).trans hf
  have cT := Lib.hid (fun w hc hf => takes_bad al ah pb po w la ha hc hf hr)
  have H1 := Lib.hid h1
  have H2 := Lib.hid h2
  clear h1 h2 hc hf hr la ha
  go_enter Try.func40, Try.ntmps40
  go_wp2_with fail
  refine (cT.out _ H1.out H2.out).mono ?_
  rintro r w1 ⟨rfl, hp⟩
  have HP := Lib.hid (Put.after (bel3 w _ _ _) hp)
  obtain ⟨z3, c3, f3⟩ := hp.block (k := w.heap.size + 1 + 1) (by simp) (by show ¬ pb = w.heap.size + 1 + 1; omega) (fun i => World.cell?_alloc_at _ _ _ _ (by simp)) (fun i => World.frozen?_alloc_at _ _ _ _ (by simp))
  clear hp
  go_wp2
  exact bodyPost_ret (v := .agg #[.float .f64 0, .float .f64 0]) (by simp [results, Try.results40, go_sem, c3]) rfl ⟨rfl, (Below.setCell HP.out (by show _ ≤ w.heap.size + 1 + 1; omega) _).setCell (by show _ ≤ w.heap.size + 1 + 1; omega) _⟩

set_option maxHeartbeats 1000000 in
theorem cAdd_bad2 (al ah bl bh pb po : Nat) (w : World) (la : al < 18446744073709551616) (ha : ah < 18446744073709551616) (lb : bl < 18446744073709551616) (hb : bh < 18446744073709551616) (hc : w.cell? ⟨pb, po, none⟩ = some (.int .i64 0)) (hf : w.frozen? ⟨pb, po, none⟩ = false) (hr : ivR al ah = true) (hs : ivR bl bh = false) :
    Calls Try.prog 40 #[.pointer (some ⟨pb, po, none⟩), .agg #[.float .f64 al, .float .f64 ah], .agg #[.float .f64 bl, .float .f64 bh]] w (Told ⟨20, 0, 0⟩ pb po w) := by
  have hz : pb < w.heap.size := cell_lt hc
  have h1 : (((w.alloc (.cells #[.float .f64 al, .float .f64 ah] 39)).alloc (.cells #[.float .f64 bl, .float .f64 bh] 39)).alloc (.cells #[.float .f64 0, .float .f64 0] 39)).cell? ⟨pb, po, none⟩ = some (.int .i64 0) := ((bel3 w _ _ _).cell hz).trans hc
  have h2 : (((w.alloc (.cells #[.float .f64 al, .float .f64 ah] 39)).alloc (.cells #[.float .f64 bl, .float .f64 bh] 39)).alloc (.cells #[.float .f64 0, .float .f64 0] 39)).frozen? ⟨pb, po, none⟩ = false := ((bel3 w _ _ _).frozen hz).trans hf
  have cT := Lib.hid (fun w hc => takes_ok al ah pb po w la ha hc hr)
  have cU := Lib.hid (fun w hc hf => takes_bad bl bh pb po w lb hb hc hf hs)
  have H1 := Lib.hid h1
  have H2 := Lib.hid h2
  clear h1 h2 hc hf hr hs la ha lb hb
  go_enter Try.func40, Try.ntmps40
  go_wp2_with fail
  refine (cT.out _ H1.out).mono ?_
  rintro r w1 ⟨rfl, hb⟩
  have H3 := Lib.hid ((hb.cell (p := ⟨pb, po, none⟩) (by show pb < _; simp; omega)).trans H1.out)
  have H4 := Lib.hid ((hb.frozen (p := ⟨pb, po, none⟩) (by show pb < _; simp; omega)).trans H2.out)
  obtain ⟨z1, z2, z3, c1, f1, c2, f2, c3, f3, B⟩ := after3 hb
  have HB := Lib.hid B
  clear hb B H1 H2 c1 f1
  go_wp2_with fail
  refine (cU.out _ H3.out H4.out).mono ?_
  rintro r w2 ⟨rfl, hp⟩
  have HP := Lib.hid (Put.after HB.out hp)
  obtain ⟨y3, d3, g3⟩ := hp.block (k := w.heap.size + 1 + 1) z1 (by show ¬ pb = w.heap.size + 1 + 1; omega) c3 f3
  clear hp c2 f2 c3 f3 H3 H4 HB
  go_wp2
  exact bodyPost_ret (v := .agg #[.float .f64 0, .float .f64 0]) (by simp [results, Try.results40, go_sem, d3]) rfl ⟨rfl, (Below.setCell HP.out (by show _ ≤ w.heap.size + 1 + 1; omega) _).setCell (by show _ ≤ w.heap.size + 1 + 1; omega) _⟩

set_option maxHeartbeats 1000000 in
theorem cAdd_ok (al ah bl bh pb po : Nat) (w : World) (la : al < 18446744073709551616) (ha : ah < 18446744073709551616) (lb : bl < 18446744073709551616) (hb : bh < 18446744073709551616) (hc : w.cell? ⟨pb, po, none⟩ = some (.int .i64 0)) (hf : w.frozen? ⟨pb, po, none⟩ = false) (hr : ivR al ah = true) (hs : ivR bl bh = true) :
    Calls Try.prog 40 #[.pointer (some ⟨pb, po, none⟩), .agg #[.float .f64 al, .float .f64 ah], .agg #[.float .f64 bl, .float .f64 bh]] w (Told (addI al ah bl bh) pb po w) := by
  have hz : pb < w.heap.size := cell_lt hc
  have h1 : (((w.alloc (.cells #[.float .f64 al, .float .f64 ah] 39)).alloc (.cells #[.float .f64 bl, .float .f64 bh] 39)).alloc (.cells #[.float .f64 0, .float .f64 0] 39)).cell? ⟨pb, po, none⟩ = some (.int .i64 0) := ((bel3 w _ _ _).cell hz).trans hc
  have h2 : (((w.alloc (.cells #[.float .f64 al, .float .f64 ah] 39)).alloc (.cells #[.float .f64 bl, .float .f64 bh] 39)).alloc (.cells #[.float .f64 0, .float .f64 0] 39)).frozen? ⟨pb, po, none⟩ = false := ((bel3 w _ _ _).frozen hz).trans hf
  have cT := Lib.hid (fun w hc => takes_ok al ah pb po w la ha hc hr)
  have cU := Lib.hid (fun w hc => takes_ok bl bh pb po w lb hb hc hs)
  obtain ⟨R, hR⟩ : ∃ R, R = addI al ah bl bh := ⟨_, rfl⟩
  have cX : Hid (∀ w, w.cell? ⟨pb, po, none⟩ = some (.int .i64 0) → w.frozen? ⟨pb, po, none⟩ = false → Calls Try.prog 104 #[.pointer (some ⟨pb, po, none⟩), .func (.func 105) #[.agg #[.float .f64 al, .float .f64 bl]] #[], .func (.func 105) #[.agg #[.float .f64 ah, .float .f64 bh]] #[]] w (Told R pb po w)) := by
    intro w hc hf
    rw [hR]
    exact tight_sum _ _ _ _ pb po w _ _ (Lib.hid (fun w => end_sum al bl false w (by omega) (by omega))) (Lib.hid (fun w => end_sum ah bh true w (by omega) (by omega))) hc hf
  rw [← hR]
  clear hR
  have H0 := Lib.hid hc
  have H1 := Lib.hid h1
  have H2 := Lib.hid h2
  clear h1 h2 hc hf hr hs la ha lb hb
  go_enter Try.func40, Try.ntmps40
  go_wp2_with fail
  refine (cT.out _ H1.out).mono ?_
  rintro r w1 ⟨rfl, hb⟩
  have H3 := Lib.hid ((hb.cell (p := ⟨pb, po, none⟩) (by show pb < _; simp; omega)).trans H1.out)
  have H4 := Lib.hid ((hb.frozen (p := ⟨pb, po, none⟩) (by show pb < _; simp; omega)).trans H2.out)
  obtain ⟨z1, z2, z3, c1, f1, c2, f2, c3, f3, B⟩ := after3 hb
  have HB := Lib.hid B
  clear hb B H1 H2
  go_wp2_with fail
  refine (cU.out _ H3.out).mono ?_
  rintro r w2 ⟨rfl, hb⟩
  have H5 := Lib.hid ((hb.cell (p := ⟨pb, po, none⟩) (by show pb < _; omega)).trans H3.out)
  have H6 := Lib.hid ((hb.frozen (p := ⟨pb, po, none⟩) (by show pb < _; omega)).trans H4.out)
  obtain ⟨y1, c1', f1'⟩ := keepB hb z3 c1 f1
  obtain ⟨y2, c2', f2'⟩ := keepB hb z2 c2 f2
  obtain ⟨y3, c3', f3'⟩ := keepB hb z1 c3 f3
  have HB2 := Lib.hid (HB.out.trans (hb.mono HB.out.size))
  clear hb HB H3 H4 z1 z2 z3 c1 f1 c2 f2 c3 f3
  go_wp2_with fail
  refine (cX.out _ H5.out H6.out).mono ?_
  rintro r w3 ⟨rfl, hp⟩
  have HP := Lib.hid (Put.after HB2.out hp)
  obtain ⟨x3, d3, g3⟩ := hp.block (k := w.heap.size + 1 + 1) y3 (by show ¬ pb = w.heap.size + 1 + 1; omega) c3' f3'
  clear hp H5 H6 HB2 c1' f1' c2' f2' c3' f3'
  go_wp2
  exact bodyPost_ret (v := .agg #[.float .f64 R.lo, .float .f64 R.hi]) (by simp [results, Try.results40, go_sem, d3]) rfl ⟨rfl, (Below.setCell HP.out (by show _ ≤ w.heap.size + 1 + 1; omega) _).setCell (by show _ ≤ w.heap.size + 1 + 1; omega) _⟩

theorem cAdd_any (e : Int) (al ah bl bh pb po : Nat) (w : World) (la : al < 18446744073709551616) (ha : ah < 18446744073709551616) (lb : bl < 18446744073709551616) (hb : bh < 18446744073709551616) (hc : w.cell? ⟨pb, po, none⟩ = some (.int .i64 e)) (hf : w.frozen? ⟨pb, po, none⟩ = false) :
    Calls Try.prog 40 #[.pointer (some ⟨pb, po, none⟩), .agg #[.float .f64 al, .float .f64 ah], .agg #[.float .f64 bl, .float .f64 bh]] w (Told (stepI e (ivR al ah && ivR bl bh) (addI al ah bl bh)) pb po w) := by
  cases he : (e == 0)
  · rw [stepI_err _ _ _ he]; exact cAdd_err e al ah bl bh pb po w hc he
  · obtain rfl : e = 0 := by simpa using he
    cases hr : ivR al ah
    · rw [Bool.false_and, stepI_bad]; exact cAdd_bad1 al ah bl bh pb po w la ha hc hf hr
    · cases hs : ivR bl bh
      · rw [Bool.and_false, stepI_bad]; exact cAdd_bad2 al ah bl bh pb po w la ha lb hb hc hf hr hs
      · rw [Bool.and_true, stepI_ok]; exact cAdd_ok al ah bl bh pb po w la ha lb hb hc hf hr hs

set_option maxHeartbeats 400000 in
theorem cSub_nil (al ah bl bh : Nat) (w : World) :
    Calls Try.prog 53 #[.pointer none, .agg #[.float .f64 al, .float .f64 ah], .agg #[.float .f64 bl, .float .f64 bh]] w fun r w' => r = .returned (.agg #[.float .f64 0, .float .f64 0]) ∧ Below w.heap.size w w' := by
  go_enter Try.func53, Try.ntmps53
  go_wp2_with fail
  refine (takes_nil al ah _).mono ?_
  rintro r w1 ⟨rfl, hb⟩
  obtain ⟨z1, z2, z3, c1, f1, c2, f2, c3, f3, B⟩ := after3 hb
  have HB := Lib.hid B
  clear hb B c1 f1 c2 f2
  go_wp2
  exact bodyPost_ret (v := .agg #[.float .f64 0, .float .f64 0]) (by simp [results, Try.results53, go_sem, c3]) rfl ⟨rfl, (HB.out.setCell (by show _ ≤ w.heap.size + 1 + 1; omega) _).setCell (by show _ ≤ w.heap.size + 1 + 1; omega) _⟩

set_option maxHeartbeats 400000 in
theorem cSub_err (e : Int) (al ah bl bh pb po : Nat) (w : World) (hc : w.cell? ⟨pb, po, none⟩ = some (.int .i64 e)) (he : (e == 0) = false) :
    Calls Try.prog 53 #[.pointer (some ⟨pb, po, none⟩), .agg #[.float .f64 al, .float .f64 ah], .agg #[.float .f64 bl, .float .f64 bh]] w (Told ⟨e, 0, 0⟩ pb po w) := by
  have hz : pb < w.heap.size := cell_lt hc
  have h1 : (((w.alloc (.cells #[.float .f64 al, .float .f64 ah] 39)).alloc (.cells #[.float .f64 bl, .float .f64 bh] 39)).alloc (.cells #[.float .f64 0, .float .f64 0] 39)).cell? ⟨pb, po, none⟩ = some (.int .i64 e) := ((bel3 w _ _ _).cell hz).trans hc
  have cT := Lib.hid (fun w hc => takes_err al ah e pb po w hc he)
  have H1 := Lib.hid h1
  have HC := Lib.hid hc
  clear h1 hc he hz
  go_enter Try.func53, Try.ntmps53
  go_wp2_with fail
  refine (cT.out _ H1.out).mono ?_
  rintro r w1 ⟨rfl, hb⟩
  obtain ⟨z1, z2, z3, c1, f1, c2, f2, c3, f3, B⟩ := after3 hb
  have HB := Lib.hid B
  clear hb B c1 f1 c2 f2
  go_wp2
  exact bodyPost_ret (v := .agg #[.float .f64 0, .float .f64 0]) (by simp [results, Try.results53, go_sem, c3]) rfl ⟨rfl, Put.of_below HC.out ((HB.out.setCell (by show _ ≤ w.heap.size + 1 + 1; omega) _).setCell (by show _ ≤ w.heap.size + 1 + 1; omega) _)⟩

set_option maxHeartbeats 400000 in
theorem cSub_bad1 (al ah bl bh pb po : Nat) (w : World) (la : al < 18446744073709551616) (ha : ah < 18446744073709551616) (hc : w.cell? ⟨pb, po, none⟩ = some (.int .i64 0)) (hf : w.frozen? ⟨pb, po, none⟩ = false) (hr : ivR al ah = false) :
    Calls Try.prog 53 #[.pointer (some ⟨pb, po, none⟩), .agg #[.float .f64 al, .float .f64 ah], .agg #[.float .f64 bl, .float .f64 bh]] w (Told ⟨20, 0, 0⟩ pb po w) := by
  have hz : pb < w.heap.size := cell_lt hc
  have h1 : (((w.alloc (.cells #[.float .f64 al, .float .f64 ah] 39)).alloc (.cells #[.float .f64 bl, .float .f64 bh] 39)).alloc (.cells #[.float .f64 0, .float .f64 0] 39)).cell? ⟨pb, po, none⟩ = some (.int .i64 0) := ((bel3 w _ _ _).cell hz).trans hc
  have h2 : (((w.alloc (.cells #[.float .f64 al, .float .f64 ah] 39)).alloc (.cells #[.float .f64 bl, .float .f64 bh] 39)).alloc (.cells #[.float .f64 0, .float .f64 0] 39)).frozen? ⟨pb, po, none⟩ = false := ((bel3 w _ _ _).frozen hz).trans hf
  have cT := Lib.hid (fun w hc hf => takes_bad al ah pb po w la ha hc hf hr)
  have H1 := Lib.hid h1
  have H2 := Lib.hid h2
  clear h1 h2 hc hf hr la ha
  go_enter Try.func53, Try.ntmps53
  go_wp2_with fail
  refine (cT.out _ H1.out H2.out).mono ?_
  rintro r w1 ⟨rfl, hp⟩
  have HP := Lib.hid (Put.after (bel3 w _ _ _) hp)
  obtain ⟨z3, c3, f3⟩ := hp.block (k := w.heap.size + 1 + 1) (by simp) (by show ¬ pb = w.heap.size + 1 + 1; omega) (fun i => World.cell?_alloc_at _ _ _ _ (by simp)) (fun i => World.frozen?_alloc_at _ _ _ _ (by simp))
  clear hp
  go_wp2
  exact bodyPost_ret (v := .agg #[.float .f64 0, .float .f64 0]) (by simp [results, Try.results53, go_sem, c3]) rfl ⟨rfl, (Below.setCell HP.out (by show _ ≤ w.heap.size + 1 + 1; omega) _).setCell (by show _ ≤ w.heap.size + 1 + 1; omega) _⟩

set_option maxHeartbeats 1000000 in
theorem cSub_bad2 (al ah bl bh pb po : Nat) (w : World) (la : al < 18446744073709551616) (ha : ah < 18446744073709551616) (lb : bl < 18446744073709551616) (hb : bh < 18446744073709551616) (hc : w.cell? ⟨pb, po, none⟩ = some (.int .i64 0)) (hf : w.frozen? ⟨pb, po, none⟩ = false) (hr : ivR al ah = true) (hs : ivR bl bh = false) :
    Calls Try.prog 53 #[.pointer (some ⟨pb, po, none⟩), .agg #[.float .f64 al, .float .f64 ah], .agg #[.float .f64 bl, .float .f64 bh]] w (Told ⟨20, 0, 0⟩ pb po w) := by
  have hz : pb < w.heap.size := cell_lt hc
  have h1 : (((w.alloc (.cells #[.float .f64 al, .float .f64 ah] 39)).alloc (.cells #[.float .f64 bl, .float .f64 bh] 39)).alloc (.cells #[.float .f64 0, .float .f64 0] 39)).cell? ⟨pb, po, none⟩ = some (.int .i64 0) := ((bel3 w _ _ _).cell hz).trans hc
  have h2 : (((w.alloc (.cells #[.float .f64 al, .float .f64 ah] 39)).alloc (.cells #[.float .f64 bl, .float .f64 bh] 39)).alloc (.cells #[.float .f64 0, .float .f64 0] 39)).frozen? ⟨pb, po, none⟩ = false := ((bel3 w _ _ _).frozen hz).trans hf
  have cT := Lib.hid (fun w hc => takes_ok al ah pb po w la ha hc hr)
  have cU := Lib.hid (fun w hc hf => takes_bad bl bh pb po w lb hb hc hf hs)
  have H1 := Lib.hid h1
  have H2 := Lib.hid h2
  clear h1 h2 hc hf hr hs la ha lb hb
  go_enter Try.func53, Try.ntmps53
  go_wp2_with fail
  refine (cT.out _ H1.out).mono ?_
  rintro r w1 ⟨rfl, hb⟩
  have H3 := Lib.hid ((hb.cell (p := ⟨pb, po, none⟩) (by show pb < _; simp; omega)).trans H1.out)
  have H4 := Lib.hid ((hb.frozen (p := ⟨pb, po, none⟩) (by show pb < _; simp; omega)).trans H2.out)
  obtain ⟨z1, z2, z3, c1, f1, c2, f2, c3, f3, B⟩ := after3 hb
  have HB := Lib.hid B
  clear hb B H1 H2 c1 f1
  go_wp2_with fail
  refine (cU.out _ H3.out H4.out).mono ?_
  rintro r w2 ⟨rfl, hp⟩
  have HP := Lib.hid (Put.after HB.out hp)
  obtain ⟨y3, d3, g3⟩ := hp.block (k := w.heap.size + 1 + 1) z1 (by show ¬ pb = w.heap.size + 1 + 1; omega) c3 f3
  clear hp c2 f2 c3 f3 H3 H4 HB
  go_wp2
  exact bodyPost_ret (v := .agg #[.float .f64 0, .float .f64 0]) (by simp [results, Try.results53, go_sem, d3]) rfl ⟨rfl, (Below.setCell HP.out (by show _ ≤ w.heap.size + 1 + 1; omega) _).setCell (by show _ ≤ w.heap.size + 1 + 1; omega) _⟩

set_option maxHeartbeats 1000000 in
theorem cSub_ok (al ah bl bh pb po : Nat) (w : World) (la : al < 18446744073709551616) (ha : ah < 18446744073709551616) (lb : bl < 18446744073709551616) (hb : bh < 18446744073709551616) (hc : w.cell? ⟨pb, po, none⟩ = some (.int .i64 0)) (hf : w.frozen? ⟨pb, po, none⟩ = false) (hr : ivR al ah = true) (hs : ivR bl bh = true) :
    Calls Try.prog 53 #[.pointer (some ⟨pb, po, none⟩), .agg #[.float .f64 al, .float .f64 ah], .agg #[.float .f64 bl, .float .f64 bh]] w (Told (subI al ah bl bh) pb po w) := by
  have hz : pb < w.heap.size := cell_lt hc
  have h1 : (((w.alloc (.cells #[.float .f64 al, .float .f64 ah] 39)).alloc (.cells #[.float .f64 bl, .float .f64 bh] 39)).alloc (.cells #[.float .f64 0, .float .f64 0] 39)).cell? ⟨pb, po, none⟩ = some (.int .i64 0) := ((bel3 w _ _ _).cell hz).trans hc
  have h2 : (((w.alloc (.cells #[.float .f64 al, .float .f64 ah] 39)).alloc (.cells #[.float .f64 bl, .float .f64 bh] 39)).alloc (.cells #[.float .f64 0, .float .f64 0] 39)).frozen? ⟨pb, po, none⟩ = false := ((bel3 w _ _ _).frozen hz).trans hf
  have cT := Lib.hid (fun w hc => takes_ok al ah pb po w la ha hc hr)
  have cU := Lib.hid (fun w hc => takes_ok bl bh pb po w lb hb hc hs)
  obtain ⟨R, hR⟩ : ∃ R, R = subI al ah bl bh := ⟨_, rfl⟩
  have cX : Hid (∀ w, w.cell? ⟨pb, po, none⟩ = some (.int .i64 0) → w.frozen? ⟨pb, po, none⟩ = false → Calls Try.prog 104 #[.pointer (some ⟨pb, po, none⟩), .func (.func 117) #[.agg #[.float .f64 al, .float .f64 bh]] #[], .func (.func 117) #[.agg #[.float .f64 ah, .float .f64 bl]] #[]] w (Told R pb po w)) := by
    intro w hc hf
    rw [hR]
    exact tight_difference _ _ _ _ pb po w _ _ (Lib.hid (fun w => end_difference al bh false w (by omega) (by omega))) (Lib.hid (fun w => end_difference ah bl true w (by omega) (by omega))) hc hf
  rw [← hR]
  clear hR
  have H0 := Lib.hid hc
  have H1 := Lib.hid h1
  have H2 := Lib.hid h2
  clear h1 h2 hc hf hr hs la ha lb hb
  go_enter Try.func53, Try.ntmps53
  go_wp2_with fail
  refine (cT.out _ H1.out).mono ?_
  rintro r w1 ⟨rfl, hb⟩
  have H3 := Lib.hid ((hb.cell (p := ⟨pb, po, none⟩) (by show pb < _; simp; omega)).trans H1.out)
  have H4 := Lib.hid ((hb.frozen (p := ⟨pb, po, none⟩) (by show pb < _; simp; omega)).trans H2.out)
  obtain ⟨z1, z2, z3, c1, f1, c2, f2, c3, f3, B⟩ := after3 hb
  have HB := Lib.hid B
  clear hb B H1 H2
  go_wp2_with fail
  refine (cU.out _ H3.out).mono ?_
  rintro r w2 ⟨rfl, hb⟩
  have H5 := Lib.hid ((hb.cell (p := ⟨pb, po, none⟩) (by show pb < _; omega)).trans H3.out)
  have H6 := Lib.hid ((hb.frozen (p := ⟨pb, po, none⟩) (by show pb < _; omega)).trans H4.out)
  obtain ⟨y1, c1', f1'⟩ := keepB hb z3 c1 f1
  obtain ⟨y2, c2', f2'⟩ := keepB hb z2 c2 f2
  obtain ⟨y3, c3', f3'⟩ := keepB hb z1 c3 f3
  have HB2 := Lib.hid (HB.out.trans (hb.mono HB.out.size))
  clear hb HB H3 H4 z1 z2 z3 c1 f1 c2 f2 c3 f3
  go_wp2_with fail
  refine (cX.out _ H5.out H6.out).mono ?_
  rintro r w3 ⟨rfl, hp⟩
  have HP := Lib.hid (Put.after HB2.out hp)
  obtain ⟨x3, d3, g3⟩ := hp.block (k := w.heap.size + 1 + 1) y3 (by show ¬ pb = w.heap.size + 1 + 1; omega) c3' f3'
  clear hp H5 H6 HB2 c1' f1' c2' f2' c3' f3'
  go_wp2
  exact bodyPost_ret (v := .agg #[.float .f64 R.lo, .float .f64 R.hi]) (by simp [results, Try.results53, go_sem, d3]) rfl ⟨rfl, (Below.setCell HP.out (by show _ ≤ w.heap.size + 1 + 1; omega) _).setCell (by show _ ≤ w.heap.size + 1 + 1; omega) _⟩

theorem cSub_any (e : Int) (al ah bl bh pb po : Nat) (w : World) (la : al < 18446744073709551616) (ha : ah < 18446744073709551616) (lb : bl < 18446744073709551616) (hb : bh < 18446744073709551616) (hc : w.cell? ⟨pb, po, none⟩ = some (.int .i64 e)) (hf : w.frozen? ⟨pb, po, none⟩ = false) :
    Calls Try.prog 53 #[.pointer (some ⟨pb, po, none⟩), .agg #[.float .f64 al, .float .f64 ah], .agg #[.float .f64 bl, .float .f64 bh]] w (Told (stepI e (ivR al ah && ivR bl bh) (subI al ah bl bh)) pb po w) := by
  cases he : (e == 0)
  · rw [stepI_err _ _ _ he]; exact cSub_err e al ah bl bh pb po w hc he
  · obtain rfl : e = 0 := by simpa using he
    cases hr : ivR al ah
    · rw [Bool.false_and, stepI_bad]; exact cSub_bad1 al ah bl bh pb po w la ha hc hf hr
    · cases hs : ivR bl bh
      · rw [Bool.and_false, stepI_bad]; exact cSub_bad2 al ah bl bh pb po w la ha lb hb hc hf hr hs
      · rw [Bool.and_true, stepI_ok]; exact cSub_ok al ah bl bh pb po w la ha lb hb hc hf hr hs

set_option maxHeartbeats 400000 in
theorem cMax_nil (al ah bl bh : Nat) (w : World) :
    Calls Try.prog 54 #[.pointer none, .agg #[.float .f64 al, .float .f64 ah], .agg #[.float .f64 bl, .float .f64 bh]] w fun r w' => r = .returned (.agg #[.float .f64 0, .float .f64 0]) ∧ Below w.heap.size w w' := by
  go_enter Try.func54, Try.ntmps54
  go_wp2_with fail
  refine (takes_nil al ah _).mono ?_
  rintro r w1 ⟨rfl, hb⟩
  obtain ⟨z1, z2, z3, c1, f1, c2, f2, c3, f3, B⟩ := after3 hb
  have HB := Lib.hid B
  clear hb B c1 f1 c2 f2
  go_wp2
  exact bodyPost_ret (v := .agg #[.float .f64 0, .float .f64 0]) (by simp [results, Try.results54, go_sem, c3]) rfl ⟨rfl, (HB.out.setCell (by show _ ≤ w.heap.size + 1 + 1; omega) _).setCell (by show _ ≤ w.heap.size + 1 + 1; omega) _⟩

set_option maxHeartbeats 400000 in
theorem cMax_err (e : Int) (al ah bl bh pb po : Nat) (w : World) (hc : w.cell? ⟨pb, po, none⟩ = some (.int .i64 e)) (he : (e == 0) = false) :
    Calls Try.prog 54 #[.pointer (some ⟨pb, po, none⟩), .agg #[.float .f64 al, .float .f64 ah], .agg #[.float .f64 bl, .float .f64 bh]] w (Told ⟨e, 0, 0⟩ pb po w) := by
  have hz : pb < w.heap.size := cell_lt hc
  have h1 : (((w.alloc (.cells #[.float .f64 al, .float .f64 ah] 39)).alloc (.cells #[.float .f64 bl, .float .f64 bh] 39)).alloc (.cells #[.float .f64 0, .float .f64 0] 39)).cell? ⟨pb, po, none⟩ = some (.int .i64 e) := ((bel3 w _ _ _).cell hz).trans hc
  have cT := Lib.hid (fun w hc => takes_err al ah e pb po w hc he)
  have H1 := Lib.hid h1
  have HC := Lib.hid hc
  clear h1 hc he hz
  go_enter Try.func54, Try.ntmps54
  go_wp2_with fail
  refine (cT.out _ H1.out).mono ?_
  rintro r w1 ⟨rfl, hb⟩
  obtain ⟨z1, z2, z3, c1, f1, c2, f2, c3, f3, B⟩ := after3 hb
  have HB := Lib.hid B
  clear hb B c1 f1 c2 f2
  go_wp2
  exact bodyPost_ret (v := .agg #[.float .f64 0, .float .f64 0]) (by simp [results, Try.results54, go_sem, c3]) rfl ⟨rfl, Put.of_below HC.out ((HB.out.setCell (by show _ ≤ w.heap.size + 1 + 1; omega) _).setCell (by show _ ≤ w.heap.size + 1 + 1; omega) _)⟩

set_option maxHeartbeats 400000 in
theorem cMax_bad1 (al ah bl bh pb po : Nat) (w : World) (la : al < 18446744073709551616) (ha : ah < 18446744073709551616) (hc : w.cell? ⟨pb, po, none⟩ = some (.int .i64 0)) (hf : w.frozen? ⟨pb, po, none⟩ = false) (hr : ivR al ah = false) :
    Calls Try.prog 54 #[.pointer (some ⟨pb, po, none⟩), .agg #[.float .f64 al, .float .f64 ah], .agg #[.float .f64 bl, .float .f64 bh]] w (Told ⟨20, 0, 0⟩ pb po w) := by
  have hz : pb < w.heap.size := cell_lt hc
  have h1 : (((w.alloc (.cells #[.float .f64 al, .float .f64 ah] 39)).alloc (.cells #[.float .f64 bl, .float .f64 bh] 39)).alloc (.cells #[.float .f64 0, .float .f64 0] 39)).cell? ⟨pb, po, none⟩ = some (.int .i64 0) := ((bel3 w _ _ _).cell hz).trans hc
  have h2 : (((w.alloc (.cells #[.float .f64 al, .float .f64 ah] 39)).alloc (.cells #[.float .f64 bl, .float .f64 bh] 39)).alloc (.cells #[.float .f64 0, .float .f64 0] 39)).frozen? ⟨pb, po, none⟩ = false := ((bel3 w _ _ _).frozen hz).trans hf
  have cT := Lib.hid (fun w hc hf => takes_bad al ah pb po w la ha hc hf hr)
  have H1 := Lib.hid h1
  have H2 := Lib.hid h2
  clear h1 h2 hc hf hr la ha
  go_enter Try.func54, Try.ntmps54
  go_wp2_with fail
  refine (cT.out _ H1.out H2.out).mono ?_
  rintro r w1 ⟨rfl, hp⟩
  have HP := Lib.hid (Put.after (bel3 w _ _ _) hp)
  obtain ⟨z3, c3, f3⟩ := hp.block (k := w.heap.size + 1 + 1) (by simp) (by show ¬ pb = w.heap.size + 1 + 1; omega) (fun i => World.cell?_alloc_at _ _ _ _ (by simp)) (fun i => World.frozen?_alloc_at _ _ _ _ (by simp))
  clear hp
  go_wp2
  exact bodyPost_ret (v := .agg #[.float .f64 0, .float .f64 0]) (by simp [results, Try.results54, go_sem, c3]) rfl ⟨rfl, (Below.setCell HP.out (by show _ ≤ w.heap.size + 1 + 1; omega) _).setCell (by show _ ≤ w.heap.size + 1 + 1; omega) _⟩

set_option maxHeartbeats 1000000 in
theorem cMax_bad2 (al ah bl bh pb po : Nat) (w : World) (la : al < 18446744073709551616) (ha : ah < 18446744073709551616) (lb : bl < 18446744073709551616) (hb : bh < 18446744073709551616) (hc : w.cell? ⟨pb, po, none⟩ = some (.int .i64 0)) (hf : w.frozen? ⟨pb, po, none⟩ = false) (hr : ivR al ah = true) (hs : ivR bl bh = false) :
    Calls Try.prog 54 #[.pointer (some ⟨pb, po, none⟩), .agg #[.float .f64 al, .float .f64 ah], .agg #[.float .f64 bl, .float .f64 bh]] w (Told ⟨20, 0, 0⟩ pb po w) := by
  have hz : pb < w.heap.size := cell_lt hc
  have h1 : (((w.alloc (.cells #[.float .f64 al, .float .f64 ah] 39)).alloc (.cells #[.float .f64 bl, .float .f64 bh] 39)).alloc (.cells #[.float .f64 0, .float .f64 0] 39)).cell? ⟨pb, po, none⟩ = some (.int .i64 0) := ((bel3 w _ _ _).cell hz).trans hc
  have h2 : (((w.alloc (.cells #[.float .f64 al, .float .f64 ah] 39)).alloc (.cells #[.float .f64 bl, .float .f64 bh] 39)).alloc (.cells #[.float .f64 0, .float .f64 0] 39)).frozen? ⟨pb, po, none⟩ = false := ((bel3 w _ _ _).frozen hz).trans hf
  have cT := Lib.hid (fun w hc => takes_ok al ah pb po w la ha hc hr)
  have cU := Lib.hid (fun w hc hf => takes_bad bl bh pb po w lb hb hc hf hs)
  have H1 := Lib.hid h1
  have H2 := Lib.hid h2
  clear h1 h2 hc hf hr hs la ha lb hb
  go_enter Try.func54, Try.ntmps54
  go_wp2_with fail
  refine (cT.out _ H1.out).mono ?_
  rintro r w1 ⟨rfl, hb⟩
  have H3 := Lib.hid ((hb.cell (p := ⟨pb, po, none⟩) (by show pb < _; simp; omega)).trans H1.out)
  have H4 := Lib.hid ((hb.frozen (p := ⟨pb, po, none⟩) (by show pb < _; simp; omega)).trans H2.out)
  obtain ⟨z1, z2, z3, c1, f1, c2, f2, c3, f3, B⟩ := after3 hb
  have HB := Lib.hid B
  clear hb B H1 H2 c1 f1
  go_wp2_with fail
  refine (cU.out _ H3.out H4.out).mono ?_
  rintro r w2 ⟨rfl, hp⟩
  have HP := Lib.hid (Put.after HB.out hp)
  obtain ⟨y3, d3, g3⟩ := hp.block (k := w.heap.size + 1 + 1) z1 (by show ¬ pb = w.heap.size + 1 + 1; omega) c3 f3
  clear hp c2 f2 c3 f3 H3 H4 HB
  go_wp2
  exact bodyPost_ret (v := .agg #[.float .f64 0, .float .f64 0]) (by simp [results, Try.results54, go_sem, d3]) rfl ⟨rfl, (Below.setCell HP.out (by show _ ≤ w.heap.size + 1 + 1; omega) _).setCell (by show _ ≤ w.heap.size + 1 + 1; omega) _⟩

set_option maxHeartbeats 1000000 in
theorem cMax_ok (al ah bl bh pb po : Nat) (w : World) (la : al < 18446744073709551616) (ha : ah < 18446744073709551616) (lb : bl < 18446744073709551616) (hb : bh < 18446744073709551616) (hc : w.cell? ⟨pb, po, none⟩ = some (.int .i64 0)) (hf : w.frozen? ⟨pb, po, none⟩ = false) (hr : ivR al ah = true) (hs : ivR bl bh = true) :
    Calls Try.prog 54 #[.pointer (some ⟨pb, po, none⟩), .agg #[.float .f64 al, .float .f64 ah], .agg #[.float .f64 bl, .float .f64 bh]] w (Told (maxI al ah bl bh) pb po w) := by
  have hz : pb < w.heap.size := cell_lt hc
  have h1 : (((w.alloc (.cells #[.float .f64 al, .float .f64 ah] 39)).alloc (.cells #[.float .f64 bl, .float .f64 bh] 39)).alloc (.cells #[.float .f64 0, .float .f64 0] 39)).cell? ⟨pb, po, none⟩ = some (.int .i64 0) := ((bel3 w _ _ _).cell hz).trans hc
  have h2 : (((w.alloc (.cells #[.float .f64 al, .float .f64 ah] 39)).alloc (.cells #[.float .f64 bl, .float .f64 bh] 39)).alloc (.cells #[.float .f64 0, .float .f64 0] 39)).frozen? ⟨pb, po, none⟩ = false := ((bel3 w _ _ _).frozen hz).trans hf
  have cT := Lib.hid (fun w hc => takes_ok al ah pb po w la ha hc hr)
  have cU := Lib.hid (fun w hc => takes_ok bl bh pb po w lb hb hc hs)
  have m1 := fun ts t w => (run_less al bl la lb (ivR_parts hr).1 (ivR_parts hs).1 ts t w).2
  have m2 := fun ts t w => (run_less ah bh ha hb (ivR_parts hr).2.1 (ivR_parts hs).2.1 ts t w).2
  have H0 := Lib.hid hc
  have H1 := Lib.hid h1
  have H2 := Lib.hid h2
  clear h1 h2 hc hf hr hs la ha lb hb
  go_enter Try.func54, Try.ntmps54
  go_wp2_with fail
  refine (cT.out _ H1.out).mono ?_
  rintro r w1 ⟨rfl, hb⟩
  have H3 := Lib.hid ((hb.cell (p := ⟨pb, po, none⟩) (by show pb < _; simp; omega)).trans H1.out)
  have H4 := Lib.hid ((hb.frozen (p := ⟨pb, po, none⟩) (by show pb < _; simp; omega)).trans H2.out)
  obtain ⟨z1, z2, z3, c1, f1, c2, f2, c3, f3, B⟩ := after3 hb
  have HB := Lib.hid B
  clear hb B H1 H2
  go_wp2_with fail
  refine (cU.out _ H3.out).mono ?_
  rintro r w2 ⟨rfl, hb⟩
  have H5 := Lib.hid ((hb.cell (p := ⟨pb, po, none⟩) (by show pb < _; omega)).trans H3.out)
  have H6 := Lib.hid ((hb.frozen (p := ⟨pb, po, none⟩) (by show pb < _; omega)).trans H4.out)
  obtain ⟨y1, c1', f1'⟩ := keepB hb z3 c1 f1
  obtain ⟨y2, c2', f2'⟩ := keepB hb z2 c2 f2
  obtain ⟨y3, c3', f3'⟩ := keepB hb z1 c3 f3
  have HB2 := Lib.hid (HB.out.trans (hb.mono HB.out.size))
  clear hb HB H3 H4 z1 z2 z3 c1 f1 c2 f2 c3 f3
  go_wp2
  exact bodyPost_ret (v := .agg #[.float .f64 (maxW al bl), .float .f64 (maxW ah bh)]) (by simp [results, Try.results54, go_sem, c3']) rfl ⟨rfl, Put.of_below H0.out ((HB2.out.setCell (by show _ ≤ w.heap.size + 1 + 1; omega) _).setCell (by show _ ≤ w.heap.size + 1 + 1; omega) _)⟩

theorem cMax_any (e : Int) (al ah bl bh pb po : Nat) (w : World) (la : al < 18446744073709551616) (ha : ah < 18446744073709551616) (lb : bl < 18446744073709551616) (hb : bh < 18446744073709551616) (hc : w.cell? ⟨pb, po, none⟩ = some (.int .i64 e)) (hf : w.frozen? ⟨pb, po, none⟩ = false) :
    Calls Try.prog 54 #[.pointer (some ⟨pb, po, none⟩), .agg #[.float .f64 al, .float .f64 ah], .agg #[.float .f64 bl, .float .f64 bh]] w (Told (stepI e (ivR al ah && ivR bl bh) (maxI al ah bl bh)) pb po w) := by
  cases he : (e == 0)
  · rw [stepI_err _ _ _ he]; exact cMax_err e al ah bl bh pb po w hc he
  · obtain rfl : e = 0 := by simpa using he
    cases hr : ivR al ah
    · rw [Bool.false_and, stepI_bad]; exact cMax_bad1 al ah bl bh pb po w la ha hc hf hr
    · cases hs : ivR bl bh
      · rw [Bool.and_false, stepI_bad]; exact cMax_bad2 al ah bl bh pb po w la ha lb hb hc hf hr hs
      · rw [Bool.and_true, stepI_ok]; exact cMax_ok al ah bl bh pb po w la ha lb hb hc hf hr hs

end Go.Proofs.Ytmcecchcbfhfcaa
