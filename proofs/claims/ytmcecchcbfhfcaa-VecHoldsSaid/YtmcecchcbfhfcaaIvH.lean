
/- Package ival: the calculator's methods Div and Mul. -/
import Derived.Test.YtmcecchcbfhfcaaIvG
import Derived.Test.YtmcecchcbfhfcaaIvF
namespace Go.Proofs.Ytmcecchcbfhfcaa
open Go.RowKit
attribute [local go_sem] run_store_float

/-- All quotients. -/
def div1 (al ah bl bh : Nat) : Res := tightR (divW (lowOf al ah bl) (endW bl bh (leB 0 (lowOf al ah bl))) false) (divE (lowOf al ah bl) (endW bl bh (leB 0 (lowOf al ah bl))) false) (divW (highOf al ah bl) (endW bl bh (ltB (highOf al ah bl) 0)) true) (divE (highOf al ah bl) (endW bl bh (ltB (highOf al ah bl) 0)) true)
def divI (al ah bl bh : Nat) : Res := if hasB bl bh 0 then ⟨11, 0, 0⟩ else div1 al ah bl bh
/-- All products, where b has not both signs. -/
def mul1 (al ah bl bh : Nat) : Res := tightR (mulW (lowOf al ah bl) (endW bl bh (ltB (lowOf al ah bl) 0)) false) (mulE (lowOf al ah bl) (endW bl bh (ltB (lowOf al ah bl) 0)) false) (mulW (highOf al ah bl) (endW bl bh (leB 0 (highOf al ah bl))) true) (mulE (highOf al ah bl) (endW bl bh (leB 0 (highOf al ah bl))) true)
/-- All products, where not both have both signs. -/
def mulJ (al ah bl bh : Nat) : Res := if crossB bl bh then mul1 bl bh al ah else mul1 al ah bl bh
/-- All of two rows of results. -/
def joinR (r s : Res) : Res := if r.e = 0 then (if s.e = 0 then ⟨0, minW r.lo s.lo, maxW r.hi s.hi⟩ else ⟨s.e, 0, 0⟩) else ⟨r.e, 0, 0⟩
/-- All products. -/
def mulI (al ah bl bh : Nat) : Res := if crossB al ah && crossB bl bh then joinR (mulJ al al bl bh) (mulJ ah ah bl bh) else mulJ al ah bl bh

theorem low_right (al ah bl : Nat) (la : al < 18446744073709551616) (ha : ah < 18446744073709551616) (ra : rightB al = true) (rh : rightB ah = true) : lowOf al ah bl < 18446744073709551616 ∧ rightB (lowOf al ah bl) = true ∧ highOf al ah bl < 18446744073709551616 ∧ rightB (highOf al ah bl) = true := by
  unfold lowOf highOf
  cases ltB bl 0
  · exact ⟨la, ra, ha, rh⟩
  · exact ⟨ha, rh, la, ra⟩
/-- What stands behind the calls of a method: its operand's, and its answer's, block; the calculator's cell. -/
structure Stood (w : World) (pb po k bl bh m : Nat) (v : World) : Prop where
  base : Below w.heap.size w v
  pc : v.cell? ⟨pb, po, none⟩ = some (.int .i64 0)
  pf : v.frozen? ⟨pb, po, none⟩ = false
  kz : k < v.heap.size
  kc : ∀ i, v.cell? ⟨k, i, none⟩ = #[Value.float .f64 bl, Value.float .f64 bh][i]?
  kf : ∀ i, v.frozen? ⟨k, i, none⟩ = false
  mz : m < v.heap.size
  mc : ∀ i, v.cell? ⟨m, i, none⟩ = #[Value.float .f64 0, Value.float .f64 0][i]?
  mf : ∀ i, v.frozen? ⟨m, i, none⟩ = false
theorem Stood.below {w : World} {pb po k bl bh m : Nat} {v v' : World} (h : Stood w pb po k bl bh m v) (hb : Below v.heap.size v v') : Stood w pb po k bl bh m v' := by
  obtain ⟨a1, a2, a3⟩ := keepB hb h.kz h.kc h.kf
  obtain ⟨b1, b2, b3⟩ := keepB hb h.mz h.mc h.mf
  exact ⟨h.base.trans (hb.mono h.base.size), (hb.cell (cell_lt h.pc)).trans h.pc, (hb.frozen (cell_lt h.pc)).trans h.pf, a1, a2, a3, b1, b2, b3⟩
theorem Stood.drew {w : World} {pb po k bl bh m : Nat} {v : World} (h : Stood w pb po k bl bh m v) : Stood w pb po k bl bh m v.drew := ⟨h.base.drew, h.pc, h.pf, h.kz, h.kc, h.kf, h.mz, h.mc, h.mf⟩

theorem end_lt (bl bh : Nat) (up : Bool) (lb : bl < 18446744073709551616) (hb : bh < 18446744073709551616) : endW bl bh up < 18446744073709551616 := by
  unfold endW
  cases up
  · exact lb
  · exact hb

set_option maxHeartbeats 400000 in
theorem cDiv_nil (al ah bl bh : Nat) (w : World) :
    Calls Try.prog 55 #[.pointer none, .agg #[.float .f64 al, .float .f64 ah], .agg #[.float .f64 bl, .float .f64 bh]] w fun r w' => r = .returned (.agg #[.float .f64 0, .float .f64 0]) ∧ Below w.heap.size w w' := by
  go_enter Try.func55, Try.ntmps55
  go_wp2_with fail
  refine (takes_nil al ah _).mono ?_
  rintro r w1 ⟨rfl, hb⟩
  obtain ⟨z1, z2, z3, c1, f1, c2, f2, c3, f3, B⟩ := after3 hb
  have HB := Lib.hid B
  clear hb B c1 f1 c2 f2
  go_wp2
  exact bodyPost_ret (v := .agg #[.float .f64 0, .float .f64 0]) (by simp [results, Try.results55, go_sem, c3]) rfl ⟨rfl, (HB.out.setCell (by show _ ≤ w.heap.size + 1 + 1; omega) _).setCell (by show _ ≤ w.heap.size + 1 + 1; omega) _⟩

set_option maxHeartbeats 400000 in
theorem cDiv_err (e : Int) (al ah bl bh pb po : Nat) (w : World) (hc : w.cell? ⟨pb, po, none⟩ = some (.int .i64 e)) (he : (e == 0) = false) :
    Calls Try.prog 55 #[.pointer (some ⟨pb, po, none⟩), .agg #[.float .f64 al, .float .f64 ah], .agg #[.float .f64 bl, .float .f64 bh]] w (Told ⟨e, 0, 0⟩ pb po w) := by
  have hz : pb < w.heap.size := cell_lt hc
  have h1 : (((w.alloc (.cells #[.float .f64 al, .float .f64 ah] 39)).alloc (.cells #[.float .f64 bl, .float .f64 bh] 39)).alloc (.cells #[.float .f64 0, .float .f64 0] 39)).cell? ⟨pb, po, none⟩ = some (.int .i64 e) := ((bel3 w _ _ _).cell hz).trans hc
  have cT := Lib.hid (fun w hc => takes_err al ah e pb po w hc he)
  have H1 := Lib.hid h1
  have HC := Lib.hid hc
  clear h1 hc he hz
  go_enter Try.func55, Try.ntmps55
  go_wp2_with fail
  refine (cT.out _ H1.out).mono ?_
  rintro r w1 ⟨rfl, hb⟩
  obtain ⟨z1, z2, z3, c1, f1, c2, f2, c3, f3, B⟩ := after3 hb
  have HB := Lib.hid B
  clear hb B c1 f1 c2 f2
  go_wp2
  exact bodyPost_ret (v := .agg #[.float .f64 0, .float .f64 0]) (by simp [results, Try.results55, go_sem, c3]) rfl ⟨rfl, Put.of_below HC.out ((HB.out.setCell (by show _ ≤ w.heap.size + 1 + 1; omega) _).setCell (by show _ ≤ w.heap.size + 1 + 1; omega) _)⟩

set_option maxHeartbeats 400000 in
theorem cDiv_bad1 (al ah bl bh pb po : Nat) (w : World) (la : al < 18446744073709551616) (ha : ah < 18446744073709551616) (hc : w.cell? ⟨pb, po, none⟩ = some (.int .i64 0)) (hf : w.frozen? ⟨pb, po, none⟩ = false) (hr : ivR al ah = false) :
    Calls Try.prog 55 #[.pointer (some ⟨pb, po, none⟩), .agg #[.float .f64 al, .float .f64 ah], .agg #[.float .f64 bl, .float .f64 bh]] w (Told ⟨20, 0, 0⟩ pb po w) := by
  have hz : pb < w.heap.size := cell_lt hc
  have h1 : (((w.alloc (.cells #[.float .f64 al, .float .f64 ah] 39)).alloc (.cells #[.float .f64 bl, .float .f64 bh] 39)).alloc (.cells #[.float .f64 0, .float .f64 0] 39)).cell? ⟨pb, po, none⟩ = some (.int .i64 0) := ((bel3 w _ _ _).cell hz).trans hc
  have h2 : (((w.alloc (.cells #[.float .f64 al, .float .f64 ah] 39)).alloc (.cells #[.float .f64 bl, .float .f64 bh] 39)).alloc (.cells #[.float .f64 0, .float .f64 0] 39)).frozen? ⟨pb, po, none⟩ = false := ((bel3 w _ _ _).frozen hz).trans hf
  have cT := Lib.hid (fun w hc hf => takes_bad al ah pb po w la ha hc hf hr)
  have H1 := Lib.hid h1
  have H2 := Lib.hid h2
  clear h1 h2 hc hf hr la ha
  go_enter Try.func55, Try.ntmps55
  go_wp2_with fail
  refine (cT.out _ H1.out H2.out).mono ?_
  rintro r w1 ⟨rfl, hp⟩
  have HP := Lib.hid (Put.after (bel3 w _ _ _) hp)
  obtain ⟨z3, c3, f3⟩ := hp.block (k := w.heap.size + 1 + 1) (by simp) (by show ¬ pb = w.heap.size + 1 + 1; omega) (fun i => World.cell?_alloc_at _ _ _ _ (by simp)) (fun i => World.frozen?_alloc_at _ _ _ _ (by simp))
  clear hp
  go_wp2
  exact bodyPost_ret (v := .agg #[.float .f64 0, .float .f64 0]) (by simp [results, Try.results55, go_sem, c3]) rfl ⟨rfl, (Below.setCell HP.out (by show _ ≤ w.heap.size + 1 + 1; omega) _).setCell (by show _ ≤ w.heap.size + 1 + 1; omega) _⟩

set_option maxHeartbeats 1000000 in
theorem cDiv_bad2 (al ah bl bh pb po : Nat) (w : World) (la : al < 18446744073709551616) (ha : ah < 18446744073709551616) (lb : bl < 18446744073709551616) (hb : bh < 18446744073709551616) (hc : w.cell? ⟨pb, po, none⟩ = some (.int .i64 0)) (hf : w.frozen? ⟨pb, po, none⟩ = false) (hr : ivR al ah = true) (hs : ivR bl bh = false) :
    Calls Try.prog 55 #[.pointer (some ⟨pb, po, none⟩), .agg #[.float .f64 al, .float .f64 ah], .agg #[.float .f64 bl, .float .f64 bh]] w (Told ⟨20, 0, 0⟩ pb po w) := by
  have hz : pb < w.heap.size := cell_lt hc
  have h1 : (((w.alloc (.cells #[.float .f64 al, .float .f64 ah] 39)).alloc (.cells #[.float .f64 bl, .float .f64 bh] 39)).alloc (.cells #[.float .f64 0, .float .f64 0] 39)).cell? ⟨pb, po, none⟩ = some (.int .i64 0) := ((bel3 w _ _ _).cell hz).trans hc
  have h2 : (((w.alloc (.cells #[.float .f64 al, .float .f64 ah] 39)).alloc (.cells #[.float .f64 bl, .float .f64 bh] 39)).alloc (.cells #[.float .f64 0, .float .f64 0] 39)).frozen? ⟨pb, po, none⟩ = false := ((bel3 w _ _ _).frozen hz).trans hf
  have cT := Lib.hid (fun w hc => takes_ok al ah pb po w la ha hc hr)
  have cU := Lib.hid (fun w hc hf => takes_bad bl bh pb po w lb hb hc hf hs)
  have H1 := Lib.hid h1
  have H2 := Lib.hid h2
  clear h1 h2 hc hf hr hs la ha lb hb
  go_enter Try.func55, Try.ntmps55
  go_wp2_with fail
  refine (cT.out _ H1.out).mono ?_
  rintro r w1 ⟨rfl, hb⟩
  have H3 := Lib.hid ((hb.cell (p := ⟨pb, po, none⟩) (by show pb < _; simp; omega)).trans H1.out)
  have H4 := Lib.hid ((hb.frozen (p := ⟨pb, po, none⟩) (by show pb < _; simp; omega)).trans H2.out)
  obtain ⟨z1, z2, z3, c1, f1, c2, f2, c3, f3, B⟩ := after3 hb
  have HB := Lib.hid B
  clear hb B H1 H2 c1 f1
  go_wp2_with fail
  refine (cU.out _ H3.out H4.out).mono ?_
  rintro r w2 ⟨rfl, hp⟩
  have HP := Lib.hid (Put.after HB.out hp)
  obtain ⟨y3, d3, g3⟩ := hp.block (k := w.heap.size + 1 + 1) z1 (by show ¬ pb = w.heap.size + 1 + 1; omega) c3 f3
  clear hp c2 f2 c3 f3 H3 H4 HB
  go_wp2
  exact bodyPost_ret (v := .agg #[.float .f64 0, .float .f64 0]) (by simp [results, Try.results55, go_sem, d3]) rfl ⟨rfl, (Below.setCell HP.out (by show _ ≤ w.heap.size + 1 + 1; omega) _).setCell (by show _ ≤ w.heap.size + 1 + 1; omega) _⟩

set_option maxRecDepth 100000 in
set_option maxHeartbeats 2000000 in
theorem cDiv_ok (al ah bl bh pb po : Nat) (w : World) (la : al < 18446744073709551616) (ha : ah < 18446744073709551616) (lb : bl < 18446744073709551616) (hb : bh < 18446744073709551616) (hc : w.cell? ⟨pb, po, none⟩ = some (.int .i64 0)) (hf : w.frozen? ⟨pb, po, none⟩ = false) (hr : ivR al ah = true) (hs : ivR bl bh = true) :
    Calls Try.prog 55 #[.pointer (some ⟨pb, po, none⟩), .agg #[.float .f64 al, .float .f64 ah], .agg #[.float .f64 bl, .float .f64 bh]] w (Told (divI al ah bl bh) pb po w) := by
  have hz : pb < w.heap.size := cell_lt hc
  have h1 : (((w.alloc (.cells #[.float .f64 al, .float .f64 ah] 39)).alloc (.cells #[.float .f64 bl, .float .f64 bh] 39)).alloc (.cells #[.float .f64 0, .float .f64 0] 39)).cell? ⟨pb, po, none⟩ = some (.int .i64 0) := ((bel3 w _ _ _).cell hz).trans hc
  have h2 : (((w.alloc (.cells #[.float .f64 al, .float .f64 ah] 39)).alloc (.cells #[.float .f64 bl, .float .f64 bh] 39)).alloc (.cells #[.float .f64 0, .float .f64 0] 39)).frozen? ⟨pb, po, none⟩ = false := ((bel3 w _ _ _).frozen hz).trans hf
  have cT := Lib.hid (fun w hc => takes_ok al ah pb po w la ha hc hr)
  have cU := Lib.hid (fun w hc => takes_ok bl bh pb po w lb hb hc hs)
  have cH := Lib.hid (fun w => has_any bl bh 0 w lb hb)
  have cO := Lib.hid (fun w => inOrder_any al ah bl bh w lb (ivR_parts hs).1)
  obtain ⟨x1, x2, y1, y2⟩ := low_right al ah bl la ha (ivR_parts hr).1 (ivR_parts hr).2.1
  obtain ⟨R, hR⟩ : ∃ R, R = div1 al ah bl bh := ⟨_, rfl⟩
  have cX : Hid (∀ w, w.cell? ⟨pb, po, none⟩ = some (.int .i64 0) → w.frozen? ⟨pb, po, none⟩ = false → Calls Try.prog 104 #[.pointer (some ⟨pb, po, none⟩), .func (.func 119) #[.agg #[.float .f64 (lowOf al ah bl), .float .f64 (endW bl bh (leB 0 (lowOf al ah bl)))]] #[], .func (.func 119) #[.agg #[.float .f64 (highOf al ah bl), .float .f64 (endW bl bh (ltB (highOf al ah bl) 0))]] #[]] w (Told R pb po w)) := by
    intro w hc hf
    rw [hR]
    exact tight_quotient _ _ _ _ pb po w _ _ (Lib.hid (fun w => end_quotient _ _ false w x1 (end_lt bl bh _ lb hb))) (Lib.hid (fun w => end_quotient _ _ true w y1 (end_lt bl bh _ lb hb))) hc hf
  have o1 := ge_zero _ x1 x2
  have o2 := lt_zero _ y1 y2
  clear x1 x2 y1 y2
  generalize lowOf al ah bl = x at cO cX o1
  generalize highOf al ah bl = y at cO cX o2
  rw [← o1, ← o2] at cX
  clear o1 o2
  cases hh : hasB bl bh 0
  case true =>
    have hI : divI al ah bl bh = ⟨11, 0, 0⟩ := by unfold divI; rw [if_pos hh]
    rw [hI]
    rw [hh] at cH
    clear hI hR hh cX cO
    have cF := Lib.hid (fun w hc hf => fail_any 0 11 pb po w hc hf)
    have H0 := Lib.hid hc
    have H1 := Lib.hid h1
    have H2 := Lib.hid h2
    clear h1 h2 hc hf hr hs la ha lb hb
    go_enter Try.func55, Try.ntmps55
    go_wp2_with fail
    refine (cT.out _ H1.out).mono ?_
    rintro r w1 ⟨rfl, hb⟩
    have H3 := Lib.hid ((hb.cell (p := ⟨pb, po, none⟩) (by show pb < _; simp; omega)).trans H1.out)
    have H4 := Lib.hid ((hb.frozen (p := ⟨pb, po, none⟩) (by show pb < _; simp; omega)).trans H2.out)
    obtain ⟨z1, z2, z3, c1, f1, c2, f2, c3, f3, B⟩ := after3 hb
    have HB := Lib.hid B
    clear hb B H1 H2
    go_wp2_with fail
    refine (cU.out _ H3.out).mono ?_
    rintro r w2 ⟨rfl, hb⟩
    have H5 := Lib.hid ((hb.cell (p := ⟨pb, po, none⟩) (by show pb < _; omega)).trans H3.out)
    have H6 := Lib.hid ((hb.frozen (p := ⟨pb, po, none⟩) (by show pb < _; omega)).trans H4.out)
    obtain ⟨y1, c1', f1'⟩ := keepB hb z3 c1 f1
    obtain ⟨y2, c2', f2'⟩ := keepB hb z2 c2 f2
    obtain ⟨y3, c3', f3'⟩ := keepB hb z1 c3 f3
    have HB2 := Lib.hid (HB.out.trans (hb.mono HB.out.size))
    clear hb HB H3 H4 z1 z2 z3 c1 f1 c2 f2 c3 f3
    go_wp2_with fail
    refine (cH.out _).mono ?_
    rintro r w3 ⟨rfl, hb⟩
    have H7 := Lib.hid ((hb.cell (p := ⟨pb, po, none⟩) (by show pb < _; omega)).trans H5.out)
    have H8 := Lib.hid ((hb.frozen (p := ⟨pb, po, none⟩) (by show pb < _; omega)).trans H6.out)
    obtain ⟨z3, c3, f3⟩ := keepB hb y3 c3' f3'
    have HB3 := Lib.hid (HB2.out.trans (hb.mono HB2.out.size))
    clear hb HB2 H5 H6 y1 y2 y3 c1' f1' c2' f2' c3' f3'
    go_wp2_with fail
    refine (cF.out _ H7.out H8.out).mono ?_
    rintro r w4 ⟨rfl, hp⟩
    have HP := Lib.hid (Put.after HB3.out hp)
    obtain ⟨x3, d3, g3⟩ := hp.block (k := w.heap.size + 1 + 1) z3 (by show ¬ pb = w.heap.size + 1 + 1; omega) c3 f3
    clear hp H7 H8 HB3 z3 c3 f3
    go_wp2
    exact bodyPost_ret (v := .agg #[.float .f64 0, .float .f64 0]) (by simp [results, Try.results55, go_sem, d3]) rfl ⟨rfl, (Below.setCell HP.out (by show _ ≤ w.heap.size + 1 + 1; omega) _).setCell (by show _ ≤ w.heap.size + 1 + 1; omega) _⟩
  have hI : divI al ah bl bh = R := by rw [hR]; unfold divI; rw [if_neg (by rw [hh]; exact Bool.false_ne_true)]
  rw [hI]
  rw [hh] at cH
  clear hI hR hh
  have H0 := Lib.hid hc
  have H1 := Lib.hid h1
  have H2 := Lib.hid h2
  clear h1 h2 hc hf hr hs la ha lb hb
  go_enter Try.func55, Try.ntmps55
  go_wp2_with fail
  refine (cT.out _ H1.out).mono ?_
  rintro r w1 ⟨rfl, hb⟩
  have H3 := Lib.hid ((hb.cell (p := ⟨pb, po, none⟩) (by show pb < _; simp; omega)).trans H1.out)
  have H4 := Lib.hid ((hb.frozen (p := ⟨pb, po, none⟩) (by show pb < _; simp; omega)).trans H2.out)
  obtain ⟨z1, z2, z3, c1, f1, c2, f2, c3, f3, B⟩ := after3 hb
  have HB := Lib.hid B
  clear hb B H1 H2
  go_wp2_with fail
  refine (cU.out _ H3.out).mono ?_
  rintro r w2 ⟨rfl, hb⟩
  have H5 := Lib.hid ((hb.cell (p := ⟨pb, po, none⟩) (by show pb < _; omega)).trans H3.out)
  have H6 := Lib.hid ((hb.frozen (p := ⟨pb, po, none⟩) (by show pb < _; omega)).trans H4.out)
  obtain ⟨y1, c1', f1'⟩ := keepB hb z3 c1 f1
  obtain ⟨y2, c2', f2'⟩ := keepB hb z2 c2 f2
  obtain ⟨y3, c3', f3'⟩ := keepB hb z1 c3 f3
  have HB2 := Lib.hid (HB.out.trans (hb.mono HB.out.size))
  clear hb HB H3 H4 z1 z2 z3 c1 f1 c2 f2 c3 f3
  go_wp2_with fail
  refine (cH.out _).mono ?_
  rintro r w3 ⟨rfl, hb⟩
  have H7 := Lib.hid ((hb.cell (p := ⟨pb, po, none⟩) (by show pb < _; omega)).trans H5.out)
  have H8 := Lib.hid ((hb.frozen (p := ⟨pb, po, none⟩) (by show pb < _; omega)).trans H6.out)
  obtain ⟨z1, c1, f1⟩ := keepB hb y1 c1' f1'
  obtain ⟨z2, c2, f2⟩ := keepB hb y2 c2' f2'
  obtain ⟨z3, c3, f3⟩ := keepB hb y3 c3' f3'
  have HB3 := Lib.hid (HB2.out.trans (hb.mono HB2.out.size))
  clear hb HB2 H5 H6 y1 y2 y3 c1' f1' c2' f2' c3' f3'
  go_wp2_with fail
  refine (cO.out _).mono ?_
  rintro r w4 ⟨rfl, hb⟩
  have H5 := Lib.hid ((hb.cell (p := ⟨pb, po, none⟩) (by show pb < _; omega)).trans H7.out)
  have H6 := Lib.hid ((hb.frozen (p := ⟨pb, po, none⟩) (by show pb < _; omega)).trans H8.out)
  obtain ⟨y2, c2', f2'⟩ := keepB hb z2 c2 f2
  obtain ⟨y3, c3', f3'⟩ := keepB hb z3 c3 f3
  have HB4 := Lib.hid (HB3.out.trans (hb.mono HB3.out.size))
  clear hb HB3 H7 H8 z1 z2 z3 c1 f1 c2 f2 c3 f3
  have k1 := c2' 0
  have k2 := c2' 1
  have J := Lib.hid (Stood.drew ⟨HB4.out, H5.out, H6.out, y2, c2', f2', y3, c3', f3'⟩)
  clear HB4 H5 H6 y2 c2' f2' y3 c3' f3'
  go_wp2_with fail
  go_region_held3 (fun w' => w'.cell? ⟨w.heap.size + 1, 0, none⟩ = some (.float .f64 bl) ∧ w'.cell? ⟨w.heap.size + 1, 1, none⟩ = some (.float .f64 bh)) (go_keep)
    (first
      | (go_at_call 116; refine (endOf_any _ _ _ _).mono ?_; rintro r w5 ⟨rfl, hb⟩; replace J := Lib.hid (J.out.below hb); clear hb k1 k2; have k1 := J.out.kc 0; have k2 := J.out.kc 1)
      | (go_at_call 104; refine (cX.out _ J.out.pc J.out.pf).mono ?_; rintro r w6 ⟨rfl, hp⟩; have HP := Lib.hid (Put.after J.out.base hp); clear k1 k2; obtain ⟨x1, d1, g1⟩ := hp.block (k := w.heap.size + 1) J.out.kz (by show ¬ pb = w.heap.size + 1; omega) J.out.kc J.out.kf; obtain ⟨x3, d3, g3⟩ := hp.block (k := w.heap.size + 1 + 1) J.out.mz (by show ¬ pb = w.heap.size + 1 + 1; omega) J.out.mc J.out.mf; have k1 := d1 0; have k2 := d1 1; clear hp))
  all_goals go_wp2
  all_goals exact bodyPost_ret (v := .agg #[.float .f64 R.lo, .float .f64 R.hi]) (by simp [results, Try.results55, go_sem, d3]) rfl ⟨rfl, (Below.setCell HP.out (by show _ ≤ w.heap.size + 1 + 1; omega) _).setCell (by show _ ≤ w.heap.size + 1 + 1; omega) _⟩

theorem cDiv_any (e : Int) (al ah bl bh pb po : Nat) (w : World) (la : al < 18446744073709551616) (ha : ah < 18446744073709551616) (lb : bl < 18446744073709551616) (hb : bh < 18446744073709551616) (hc : w.cell? ⟨pb, po, none⟩ = some (.int .i64 e)) (hf : w.frozen? ⟨pb, po, none⟩ = false) :
    Calls Try.prog 55 #[.pointer (some ⟨pb, po, none⟩), .agg #[.float .f64 al, .float .f64 ah], .agg #[.float .f64 bl, .float .f64 bh]] w (Told (stepI e (ivR al ah && ivR bl bh) (divI al ah bl bh)) pb po w) := by
  cases he : (e == 0)
  · rw [stepI_err _ _ _ he]; exact cDiv_err e al ah bl bh pb po w hc he
  · obtain rfl : e = 0 := by simpa using he
    cases hr : ivR al ah
    · rw [Bool.false_and, stepI_bad]; exact cDiv_bad1 al ah bl bh pb po w la ha hc hf hr
    · cases hs : ivR bl bh
      · rw [Bool.and_false, stepI_bad]; exact cDiv_bad2 al ah bl bh pb po w la ha lb hb hc hf hr hs
      · rw [Bool.and_true, stepI_ok]; exact cDiv_ok al ah bl bh pb po w la ha lb hb hc hf hr hs

end Go.Proofs.Ytmcecchcbfhfcaa
