
/- Package ival: the calculator's method Mul. -/
import Derived.Test.YtmcecchcbfhfcaaIvI
namespace Go.Proofs.Ytmcecchcbfhfcaa
open Go.RowKit
attribute [local go_sem] run_store_float

theorem Down.word {s : Nat} {T : Int} {c : Nat} {e : Int} (h : Down s T c e) : c < 18446744073709551616 ∧ rightB c = true := by
  rcases h with ⟨_, h1, h2, _⟩ | ⟨_, h, _⟩
  · exact ⟨h1, h2⟩
  · subst h; exact ⟨by decide, right_0⟩
theorem Up.word {s : Nat} {T : Int} {c : Nat} {e : Int} (h : Up s T c e) : c < 18446744073709551616 ∧ rightB c = true := by
  rcases h with ⟨_, h1, h2, _⟩ | ⟨_, h, _⟩
  · exact ⟨h1, h2⟩
  · subst h; exact ⟨by decide, right_0⟩
theorem end_right (bl bh : Nat) (up : Bool) (rb : rightB bl = true) (rh : rightB bh = true) : rightB (endW bl bh up) = true := by
  unfold endW
  cases up
  · exact rb
  · exact rh
/-- An answer whose ends are numbers. -/
def Res.fine (R : Res) : Prop := (R.lo < 18446744073709551616 ∧ rightB R.lo = true) ∧ (R.hi < 18446744073709551616 ∧ rightB R.hi = true)
theorem nil_fine (e : Int) : (Res.mk e 0 0).fine := ⟨⟨show 0 < 18446744073709551616 by decide, right_0⟩, ⟨show 0 < 18446744073709551616 by decide, right_0⟩⟩
theorem tight_fine (lo hi : Nat) (e f : Int) (h1 : lo < 18446744073709551616 ∧ rightB lo = true) (h2 : hi < 18446744073709551616 ∧ rightB hi = true) : (tightR lo e hi f).fine := by
  unfold tightR
  split
  · split
    · exact ⟨h1, h2⟩
    · exact nil_fine _
  · exact nil_fine _
theorem mul1_fine (al ah bl bh : Nat) (la : al < 18446744073709551616) (ha : ah < 18446744073709551616) (r1 : rightB al = true) (r2 : rightB ah = true) (r3 : rightB bl = true) (r4 : rightB bh = true) : (mul1 al ah bl bh).fine := by
  obtain ⟨_, x2, _, y2⟩ := low_right al ah bl la ha r1 r2
  exact tight_fine _ _ _ _ ((mul_dir _ _ x2 (end_right bl bh _ r3 r4) false).1 rfl).word ((mul_dir _ _ y2 (end_right bl bh _ r3 r4) true).2 rfl).word
theorem mulJ_fine (al ah bl bh : Nat) (la : al < 18446744073709551616) (ha : ah < 18446744073709551616) (lb : bl < 18446744073709551616) (hb : bh < 18446744073709551616) (r1 : rightB al = true) (r2 : rightB ah = true) (r3 : rightB bl = true) (r4 : rightB bh = true) : (mulJ al ah bl bh).fine := by
  unfold mulJ
  split
  · exact mul1_fine _ _ _ _ lb hb r3 r4 r1 r2
  · exact mul1_fine _ _ _ _ la ha r1 r2 r3 r4
theorem step_fine (e : Int) (ok : Bool) (r : Res) (h : r.fine) : (stepI e ok r).fine := by
  unfold stepI
  split
  · split
    · exact h
    · exact nil_fine _
  · exact nil_fine _

theorem cross_one (a : Nat) : crossB a a = false := by
  unfold crossB ltB
  by_cases h : val a < val 0
  · rw [decide_eq_false (show ¬ val 0 < val a by omega), Bool.and_false]
  · rw [decide_eq_false h, Bool.false_and]
theorem ivR_one (a : Nat) (h : rightB a = true) : ivR a a = true := by
  unfold ivR leB
  rw [h, decide_eq_true (Int.le_refl _)]; rfl

/-- Mul of a single number, and of whatever is right. -/
theorem cMul_one (e : Int) (a bl bh pb po : Nat) (w : World) (la : a < 18446744073709551616) (lb : bl < 18446744073709551616) (hb : bh < 18446744073709551616) (hc : w.cell? ⟨pb, po, none⟩ = some (.int .i64 e)) (hf : w.frozen? ⟨pb, po, none⟩ = false) (hr : rightB a = true) (hs : ivR bl bh = true) :
    Calls Try.prog 52 #[.pointer (some ⟨pb, po, none⟩), .agg #[.float .f64 a, .float .f64 a], .agg #[.float .f64 bl, .float .f64 bh]] w (Told (stepI e true (mulJ a a bl bh)) pb po w) := by
  cases he : (e == 0)
  · rw [stepI_err _ _ _ he]; exact cMul_err e a a bl bh pb po w hc he
  · obtain rfl : e = 0 := by simpa using he
    rw [stepI_ok]
    cases h2 : crossB bl bh
    · exact cMul_ff a a bl bh pb po w la la lb hb hc hf (ivR_one a hr) hs (cross_one a) h2
    · exact cMul_ft a a bl bh pb po w la la lb hb hc hf (ivR_one a hr) hs (cross_one a) h2

/-- Two blocks of ours, the answer's block, and the calculator's cell with the error e. -/
structure Stand (w : World) (pb po : Nat) (e : Int) (al ah bl bh : Nat) (v : World) : Prop where
  base : Put ⟨pb, po, none⟩ (.int .i64 e) w v
  pc : v.cell? ⟨pb, po, none⟩ = some (.int .i64 e)
  pf : v.frozen? ⟨pb, po, none⟩ = false
  az : w.heap.size < v.heap.size
  ac : ∀ i, v.cell? ⟨w.heap.size, i, none⟩ = #[Value.float .f64 al, Value.float .f64 ah][i]?
  af : ∀ i, v.frozen? ⟨w.heap.size, i, none⟩ = false
  bz : w.heap.size + 1 < v.heap.size
  bc : ∀ i, v.cell? ⟨w.heap.size + 1, i, none⟩ = #[Value.float .f64 bl, Value.float .f64 bh][i]?
  bf : ∀ i, v.frozen? ⟨w.heap.size + 1, i, none⟩ = false
  mz : w.heap.size + 1 + 1 < v.heap.size
  mc : ∀ i, v.cell? ⟨w.heap.size + 1 + 1, i, none⟩ = #[Value.float .f64 0, Value.float .f64 0][i]?
  mf : ∀ i, v.frozen? ⟨w.heap.size + 1 + 1, i, none⟩ = false
theorem Stand.below {w : World} {pb po : Nat} {e : Int} {al ah bl bh : Nat} {v v' : World} (h : Stand w pb po e al ah bl bh v) (hb : Below v.heap.size v v') : Stand w pb po e al ah bl bh v' := by
  obtain ⟨a1, a2, a3⟩ := keepB hb h.az h.ac h.af
  obtain ⟨b1, b2, b3⟩ := keepB hb h.bz h.bc h.bf
  obtain ⟨c1, c2, c3⟩ := keepB hb h.mz h.mc h.mf
  exact ⟨h.base.below hb, (hb.cell (cell_lt h.pc)).trans h.pc, (hb.frozen (cell_lt h.pc)).trans h.pf, a1, a2, a3, b1, b2, b3, c1, c2, c3⟩
theorem Stand.drew {w : World} {pb po : Nat} {e : Int} {al ah bl bh : Nat} {v : World} (h : Stand w pb po e al ah bl bh v) : Stand w pb po e al ah bl bh v.drew := ⟨Below.drew h.base, h.pc, h.pf, h.az, h.ac, h.af, h.bz, h.bc, h.bf, h.mz, h.mc, h.mf⟩
theorem Stand.put {w : World} {pb po : Nat} {e f : Int} {al ah bl bh : Nat} {v v' : World} (h : Stand w pb po e al ah bl bh v) (hw : pb < w.heap.size) (hb : Put ⟨pb, po, none⟩ (.int .i64 f) v v') : Stand w pb po f al ah bl bh v' := by
  obtain ⟨a1, a2, a3⟩ := hb.block h.az (by show pb ≠ w.heap.size; omega) h.ac h.af
  obtain ⟨b1, b2, b3⟩ := hb.block h.bz (by show pb ≠ w.heap.size + 1; omega) h.bc h.bf
  obtain ⟨c1, c2, c3⟩ := hb.block h.mz (by show pb ≠ w.heap.size + 1 + 1; omega) h.mc h.mf
  exact ⟨h.base.trans hb, hb.cell h.pc, (hb.frozen (cell_lt h.pc)).trans h.pf, a1, a2, a3, b1, b2, b3, c1, c2, c3⟩

theorem far1 {a q : Nat} (h : a + 1 + 1 < q) : ¬ q = a := by omega
theorem far2 {a q : Nat} (h : a + 1 + 1 < q) : ¬ q = a + 1 := by omega
/-- A block of ours with two cells. -/
def Block (q : Nat) (x y : Value) (v : World) : Prop := q < v.heap.size ∧ (∀ i, v.cell? ⟨q, i, none⟩ = #[x, y][i]?) ∧ ∀ i, v.frozen? ⟨q, i, none⟩ = false
theorem Block.below {q : Nat} {x y : Value} {v v' : World} (h : Block q x y v) (hb : Below v.heap.size v v') : Block q x y v' := keepB hb h.1 h.2.1 h.2.2
theorem Block.drew {q : Nat} {x y : Value} {v : World} (h : Block q x y v) : Block q x y v.drew := h
theorem Block.put {q : Nat} {x y : Value} {v v' : World} (h : Block q x y v) {pb po : Nat} {u : Value} (hq : pb ≠ q) (hb : Put ⟨pb, po, none⟩ u v v') : Block q x y v' := hb.block h.1 hq h.2.1 h.2.2
theorem Block.made (v : World) (x y : Value) (t : TypeId) : Block v.heap.size x y (v.alloc (.cells #[x, y] t)) := ⟨by simp, fun i => World.cell?_alloc_at _ _ _ _ rfl, fun i => World.frozen?_alloc_at _ _ _ _ rfl⟩
/-- What stands behind the region: the answer's block, wherever it was made. -/
def MulCut (w : World) (pb po : Nat) (e : Int) (al ah bl bh lo hi : Nat) (p : Value) (wx : World) : Prop :=
  ∃ q, p = .pointer (some ⟨q, 0, none⟩) ∧ w.heap.size + 1 + 1 < q ∧ Stand w pb po e al ah bl bh wx ∧ Block q (.float .f64 lo) (.float .f64 hi) wx
theorem Stand.set {w : World} {pb po : Nat} {e : Int} {al ah bl bh : Nat} {v : World} (h : Stand w pb po e al ah bl bh v) (hw : pb < w.heap.size) (q : Nat) (hq : w.heap.size + 1 + 1 < q) (x y : Value) : Stand w pb po e al ah bl bh ((v.setCell ⟨q, 0, none⟩ x).setCell ⟨q, 1, none⟩ y) where
  base := (Below.setCell h.base (p := ⟨q, 0, none⟩) (by show _ ≤ q; omega) _).setCell (p := ⟨q, 1, none⟩) (by show _ ≤ q; omega) _
  pc := by rw [other2 _ _ _ _ _ (by show q ≠ pb; omega)]; exact h.pc
  pf := by rw [frozen_set, frozen_set]; exact h.pf
  az := by rw [size_set, size_set]; exact h.az
  ac := fun i => by rw [other2 _ _ _ _ _ (by show q ≠ w.heap.size; omega)]; exact h.ac i
  af := fun i => by rw [frozen_set, frozen_set]; exact h.af i
  bz := by rw [size_set, size_set]; exact h.bz
  bc := fun i => by rw [other2 _ _ _ _ _ (by show q ≠ w.heap.size + 1; omega)]; exact h.bc i
  bf := fun i => by rw [frozen_set, frozen_set]; exact h.bf i
  mz := by rw [size_set, size_set]; exact h.mz
  mc := fun i => by rw [other2 _ _ _ _ _ (by show q ≠ w.heap.size + 1 + 1; omega)]; exact h.mc i
  mf := fun i => by rw [frozen_set, frozen_set]; exact h.mf i
theorem Block.set {q : Nat} {x y : Value} {v : World} (h : Block q x y v) (x' y' : Value) : Block q x' y' ((v.setCell ⟨q, 0, none⟩ x').setCell ⟨q, 1, none⟩ y') := ⟨by rw [size_set, size_set]; exact h.1, put2 h.2.1 _ _, fun i => by rw [frozen_set, frozen_set]; exact h.2.2 i⟩
theorem cut_set {w : World} {pb po : Nat} {e : Int} {al ah bl bh : Nat} {v : World} {x y : Value} (h : Stand w pb po e al ah bl bh v) (hw : pb < w.heap.size) (q : Nat) (hq : w.heap.size + 1 + 1 < q) (k : Block q x y v) (lo hi : Nat) :
    MulCut w pb po e al ah bl bh lo hi (.pointer (some ⟨q, 0, none⟩)) ((v.setCell ⟨q, 0, none⟩ (.float .f64 lo)).setCell ⟨q, 1, none⟩ (.float .f64 hi)) := ⟨q, rfl, hq, h.set hw q hq _ _, k.set _ _⟩
theorem cut_made {w : World} {pb po : Nat} {e : Int} {al ah bl bh : Nat} {v : World} (h : Stand w pb po e al ah bl bh v) (t : TypeId) (lo hi : Nat) :
    MulCut w pb po e al ah bl bh lo hi (.pointer (some ⟨v.heap.size, 0, none⟩)) (v.alloc (.cells #[.float .f64 lo, .float .f64 hi] t)) := ⟨_, rfl, h.mz, h.below (bel1 _ _), Block.made v _ _ t⟩

set_option maxRecDepth 100000 in
set_option maxHeartbeats 4000000 in
theorem cMul_tt (al ah bl bh pb po : Nat) (w : World) (la : al < 18446744073709551616) (ha : ah < 18446744073709551616) (lb : bl < 18446744073709551616) (hb : bh < 18446744073709551616) (hc : w.cell? ⟨pb, po, none⟩ = some (.int .i64 0)) (hf : w.frozen? ⟨pb, po, none⟩ = false) (hr : ivR al ah = true) (hs : ivR bl bh = true) (h1' : crossB al ah = true) (h2' : crossB bl bh = true) :
    Calls Try.prog 52 #[.pointer (some ⟨pb, po, none⟩), .agg #[.float .f64 al, .float .f64 ah], .agg #[.float .f64 bl, .float .f64 bh]] w (Told (mulI al ah bl bh) pb po w) := by
  have hz : pb < w.heap.size := cell_lt hc
  have h1 : (((w.alloc (.cells #[.float .f64 al, .float .f64 ah] 39)).alloc (.cells #[.float .f64 bl, .float .f64 bh] 39)).alloc (.cells #[.float .f64 0, .float .f64 0] 39)).cell? ⟨pb, po, none⟩ = some (.int .i64 0) := ((bel3 w _ _ _).cell hz).trans hc
  have h2 : (((w.alloc (.cells #[.float .f64 al, .float .f64 ah] 39)).alloc (.cells #[.float .f64 bl, .float .f64 bh] 39)).alloc (.cells #[.float .f64 0, .float .f64 0] 39)).frozen? ⟨pb, po, none⟩ = false := ((bel3 w _ _ _).frozen hz).trans hf
  have cT := Lib.hid (fun w hc => takes_ok al ah pb po w la ha hc hr)
  have cU := Lib.hid (fun w hc => takes_ok bl bh pb po w lb hb hc hs)
  have cC := Lib.hid (fun w => crosses_any al ah w la ha (ivR_parts hr).1 (ivR_parts hr).2.1)
  have cD := Lib.hid (fun w => crosses_any bl bh w lb hb (ivR_parts hs).1 (ivR_parts hs).2.1)
  rw [h1'] at cC
  rw [h2'] at cD
  obtain ⟨r, er⟩ : ∃ r, r = mulJ al al bl bh := ⟨_, rfl⟩
  obtain ⟨s, es⟩ : ∃ s, s = stepI r.e true (mulJ ah ah bl bh) := ⟨_, rfl⟩
  have fr : r.fine := by rw [er]; exact mulJ_fine al al bl bh la la lb hb (ivR_parts hr).1 (ivR_parts hr).1 (ivR_parts hs).1 (ivR_parts hs).2.1
  have fs : s.fine := by rw [es]; exact step_fine _ _ _ (mulJ_fine ah ah bl bh ha ha lb hb (ivR_parts hr).2.1 (ivR_parts hr).2.1 (ivR_parts hs).1 (ivR_parts hs).2.1)
  have cM : Hid (∀ w, w.cell? ⟨pb, po, none⟩ = some (.int .i64 0) → w.frozen? ⟨pb, po, none⟩ = false → Calls Try.prog 52 #[.pointer (some ⟨pb, po, none⟩), .agg #[.float .f64 al, .float .f64 al], .agg #[.float .f64 bl, .float .f64 bh]] w (Told r pb po w)) := by
    intro w hc hf
    have := cMul_one 0 al bl bh pb po w la lb hb hc hf (ivR_parts hr).1 hs
    rw [stepI_ok, ← er] at this
    exact this
  have cN : Hid (∀ w, w.cell? ⟨pb, po, none⟩ = some (.int .i64 r.e) → w.frozen? ⟨pb, po, none⟩ = false → Calls Try.prog 52 #[.pointer (some ⟨pb, po, none⟩), .agg #[.float .f64 ah, .float .f64 ah], .agg #[.float .f64 bl, .float .f64 bh]] w (Told s pb po w)) := by
    intro w hc hf
    have := cMul_one r.e ah bl bh pb po w ha lb hb hc hf (ivR_parts hr).2.1 hs
    rw [← es] at this
    exact this
  have cU' := Lib.hid (fun w => hull_any r.lo r.hi s.lo s.hi w fr.1.1 fr.2.1 fs.1.1 fs.2.1 fr.1.2 fr.2.2 fs.1.2 fs.2.2)
  have cW := Lib.hid (fun w hc => works_any s.e pb po w hc)
  have hI : mulI al ah bl bh = joinR r (mulJ ah ah bl bh) := by rw [er]; unfold mulI; rw [if_pos (by rw [h1', h2']; rfl)]
  have hJ : mulI al ah bl bh = if s.e = 0 then ⟨0, minW r.lo s.lo, maxW r.hi s.hi⟩ else ⟨s.e, 0, 0⟩ := by
    rw [hI, es]
    unfold joinR
    by_cases h : r.e = 0
    · rw [if_pos h, h, stepI_ok]
    · have hh : stepI r.e true (mulJ ah ah bl bh) = ⟨r.e, 0, 0⟩ := stepI_err _ _ _ (by simpa using h)
      rw [if_neg h, hh, if_neg h]
  obtain ⟨R, hR⟩ : ∃ R, R = mulI al ah bl bh := ⟨_, rfl⟩
  rw [← hR] at hJ ⊢
  have HJ := Lib.hid hJ
  clear hJ hI hR er es fr fs h1' h2'
  have H0 := Lib.hid hc
  have H1 := Lib.hid h1
  have H2 := Lib.hid h2
  clear h1 h2 hc hf hr hs la ha lb hb
  go_enter Try.func52, Try.ntmps52
  go_wp2_with fail
  refine (cT.out _ H1.out).mono ?_
  rintro r w1 ⟨rfl, hb⟩
  have H3 := Lib.hid ((hb.cell (p := ⟨pb, po, none⟩) (by show pb < _; simp; omega)).trans H1.out)
  have H4 := Lib.hid ((hb.frozen (p := ⟨pb, po, none⟩) (by show pb < _; simp; omega)).trans H2.out)
  obtain ⟨z1, z2, z3, c1, f1, c2, f2, c3, f3, B⟩ := after3 hb
  have HB := Lib.hid B
  clear hb B H1 H2
  go_wp2_with fail
  refine (cU.out _ H3.out).mono ?_
  rintro r w2 ⟨rfl, hb⟩
  have H5 := Lib.hid ((hb.cell (p := ⟨pb, po, none⟩) (by show pb < _; omega)).trans H3.out)
  have H6 := Lib.hid ((hb.frozen (p := ⟨pb, po, none⟩) (by show pb < _; omega)).trans H4.out)
  obtain ⟨y1, c1', f1'⟩ := keepB hb z3 c1 f1
  obtain ⟨y2, c2', f2'⟩ := keepB hb z2 c2 f2
  obtain ⟨y3, c3', f3'⟩ := keepB hb z1 c3 f3
  have HB2 := Lib.hid (HB.out.trans (hb.mono HB.out.size))
  clear hb HB H3 H4 z1 z2 z3 c1 f1 c2 f2 c3 f3
  have J : Hid (Stand w pb po 0 al ah bl bh w2) := Lib.hid ⟨Put.of_below H0.out HB2.out, H5.out, H6.out, y1, c1', f1', y2, c2', f2', y3, c3', f3'⟩
  clear HB2 H5 H6 y1 y2 c1' f1' c2' f2' y3 c3' f3'
  have c1 := J.out.ac
  have c2 := J.out.bc
  go_wp2_with fail
  refine (cC.out _).mono ?_
  rintro r w3 ⟨rfl, hb⟩
  replace J := Lib.hid (J.out.below hb)
  clear hb c1 c2
  have c1 := J.out.ac
  have c2 := J.out.bc
  go_wp2_with fail
  refine (cD.out _).mono ?_
  rintro r w4 ⟨rfl, hb⟩
  have J0 := Lib.hid (J.out.below hb)
  replace J := Lib.hid J0.out.drew
  clear hb c1 c2
  have k1 : w4.cell? ⟨w.heap.size, 0, none⟩ = _ := J.out.ac 0
  have k2 : w4.cell? ⟨w.heap.size, 1, none⟩ = _ := J.out.ac 1
  have k3 : w4.cell? ⟨w.heap.size + 1, 0, none⟩ = _ := J.out.bc 0
  have k4 : w4.cell? ⟨w.heap.size + 1, 1, none⟩ = _ := J.out.bc 1
  have z1 : w.heap.size < w4.heap.size := J.out.az
  have z2 : w.heap.size + 1 < w4.heap.size := J.out.bz
  have T0 : Hid True := trivial
  go_upto_region 4 with fail
  go_cut [7] (MulCut w pb po s.e al ah bl bh (minW r.lo s.lo) (maxW r.hi s.hi))
  case first =>
    go_region_held3 (fun w' => w'.cell? ⟨w.heap.size, 0, none⟩ = some (.float .f64 al) ∧ w'.cell? ⟨w.heap.size, 1, none⟩ = some (.float .f64 ah) ∧ w'.cell? ⟨w.heap.size + 1, 0, none⟩ = some (.float .f64 bl) ∧ w'.cell? ⟨w.heap.size + 1, 1, none⟩ = some (.float .f64 bh)) (go_keep)
      (first
        | (go_at_call 114; have _t := T0; refine (single_any _ _).mono ?_; rintro rr w5 ⟨rfl, hb⟩; (with_reducible have J' := Lib.hid (J.out.below hb)); clear J hb; have J := J'; clear J'; clear k1 k2 k3 k4 z1 z2; have k1 := J.out.ac 0; have k2 := J.out.ac 1; have k3 := J.out.bc 0; have k4 := J.out.bc 1; have z1 := J.out.az; have z2 := J.out.bz)
        | (go_at_call 114; have _t := T0; have _u := J0; refine (single_any _ _).mono ?_; rintro rr w5 ⟨rfl, hb⟩; have hm := J0.out.mz; have n1 := far1 hm; have n2 := far2 hm; (with_reducible have J' := Lib.hid (((J0.out.below (bel1 _ _)).drew).below hb)); have Q := Lib.hid ((Block.made _ _ _ _).drew.below hb); have HQ := Lib.hid hm; clear J J0 _u hb T0 _t hm; have J := J'; clear J'; clear k1 k2 k3 k4 z1 z2; have k1 := J.out.ac 0; have k2 := J.out.ac 1; have k3 := J.out.bc 0; have k4 := J.out.bc 1; have z1 := J.out.az; have z2 := J.out.bz; have q0 := Q.out.2.1 0; have q1 := Q.out.2.1 1; have qf0 := Q.out.2.2 0; have qf1 := Q.out.2.2 1)
        | (go_at_call 114; have _t := T0; refine (single_any _ _).mono ?_; rintro rr w5 ⟨rfl, hb⟩; have hm := J.out.mz; (try dsimp only [World.drew] at hm); have n1 := far1 hm; have n2 := far2 hm; have J' := Lib.hid ((J.out.below (bel1 _ _)).below hb); have Q := Lib.hid ((Block.made _ _ _ _).below hb); have HQ := Lib.hid hm; clear J hb T0 _t hm; have J := J'; clear J'; clear k1 k2 k3 k4 z1 z2; have k1 := J.out.ac 0; have k2 := J.out.ac 1; have k3 := J.out.bc 0; have k4 := J.out.bc 1; have z1 := J.out.az; have z2 := J.out.bz; have q0 := Q.out.2.1 0; have q1 := Q.out.2.1 1; have qf0 := Q.out.2.2 0; have qf1 := Q.out.2.2 1)
        | (go_at_call 114; refine (single_any _ _).mono ?_; rintro rr w5 ⟨rfl, hb⟩; have J' := Lib.hid (J.out.below hb); have Q' := Lib.hid (Q.out.below hb); clear J Q hb q0 q1 qf0 qf1; have J := J'; have Q := Q'; clear J' Q'; clear k1 k2 k3 k4 z1 z2; have k1 := J.out.ac 0; have k2 := J.out.ac 1; have k3 := J.out.bc 0; have k4 := J.out.bc 1; have z1 := J.out.az; have z2 := J.out.bz; have q0 := Q.out.2.1 0; have q1 := Q.out.2.1 1; have qf0 := Q.out.2.2 0; have qf1 := Q.out.2.2 1)
        | (go_at_call 52; have _t := T0; (with_reducible refine (cM.out _ J.out.pc J.out.pf).mono ?_); rintro rr w5 ⟨rfl, hp⟩; have J' := Lib.hid (J.out.put hz hp); clear J hp; have J := J'; clear J'; clear k1 k2 k3 k4 z1 z2; have k1 := J.out.ac 0; have k2 := J.out.ac 1; have k3 := J.out.bc 0; have k4 := J.out.bc 1; have z1 := J.out.az; have z2 := J.out.bz)
        | (go_at_call 52; have _t := T0; (with_reducible refine (cM.out _ (J.out.below (bel1 _ _)).pc (J.out.below (bel1 _ _)).pf).mono ?_); rintro rr w5 ⟨rfl, hp⟩; have hm := J.out.mz; (try dsimp only [World.drew] at hm); have n1 := far1 hm; have n2 := far2 hm; have J' := Lib.hid ((J.out.below (bel1 _ _)).put hz hp); have Q := Lib.hid ((Block.made _ _ _ _).put (by omega) hp); have HQ := Lib.hid hm; clear J hp T0 _t hm; have J := J'; clear J'; clear k1 k2 k3 k4 z1 z2; have k1 := J.out.ac 0; have k2 := J.out.ac 1; have k3 := J.out.bc 0; have k4 := J.out.bc 1; have z1 := J.out.az; have z2 := J.out.bz; have q0 := Q.out.2.1 0; have q1 := Q.out.2.1 1; have qf0 := Q.out.2.2 0; have qf1 := Q.out.2.2 1)
        | (go_at_call 52; (with_reducible refine (cM.out _ J.out.pc J.out.pf).mono ?_); rintro rr w5 ⟨rfl, hp⟩; have J' := Lib.hid (J.out.put hz hp); have hm := HQ.out; have Q' := Lib.hid (Q.out.put (by omega) hp); clear J Q hp q0 q1 qf0 qf1 hm; have J := J'; have Q := Q'; clear J' Q'; clear k1 k2 k3 k4 z1 z2; have k1 := J.out.ac 0; have k2 := J.out.ac 1; have k3 := J.out.bc 0; have k4 := J.out.bc 1; have z1 := J.out.az; have z2 := J.out.bz; have q0 := Q.out.2.1 0; have q1 := Q.out.2.1 1; have qf0 := Q.out.2.2 0; have qf1 := Q.out.2.2 1)
        | (go_at_call 52; have _t := T0; (with_reducible refine (cN.out _ J.out.pc J.out.pf).mono ?_); rintro rr w5 ⟨rfl, hp⟩; have J' := Lib.hid (J.out.put hz hp); clear J hp; have J := J'; clear J'; clear k1 k2 k3 k4 z1 z2; have k1 := J.out.ac 0; have k2 := J.out.ac 1; have k3 := J.out.bc 0; have k4 := J.out.bc 1; have z1 := J.out.az; have z2 := J.out.bz)
        | (go_at_call 52; have _t := T0; (with_reducible refine (cN.out _ (J.out.below (bel1 _ _)).pc (J.out.below (bel1 _ _)).pf).mono ?_); rintro rr w5 ⟨rfl, hp⟩; have hm := J.out.mz; (try dsimp only [World.drew] at hm); have n1 := far1 hm; have n2 := far2 hm; have J' := Lib.hid ((J.out.below (bel1 _ _)).put hz hp); have Q := Lib.hid ((Block.made _ _ _ _).put (by omega) hp); have HQ := Lib.hid hm; clear J hp T0 _t hm; have J := J'; clear J'; clear k1 k2 k3 k4 z1 z2; have k1 := J.out.ac 0; have k2 := J.out.ac 1; have k3 := J.out.bc 0; have k4 := J.out.bc 1; have z1 := J.out.az; have z2 := J.out.bz; have q0 := Q.out.2.1 0; have q1 := Q.out.2.1 1; have qf0 := Q.out.2.2 0; have qf1 := Q.out.2.2 1)
        | (go_at_call 52; (with_reducible refine (cN.out _ J.out.pc J.out.pf).mono ?_); rintro rr w5 ⟨rfl, hp⟩; have J' := Lib.hid (J.out.put hz hp); have hm := HQ.out; have Q' := Lib.hid (Q.out.put (by omega) hp); clear J Q hp q0 q1 qf0 qf1 hm; have J := J'; have Q := Q'; clear J' Q'; clear k1 k2 k3 k4 z1 z2; have k1 := J.out.ac 0; have k2 := J.out.ac 1; have k3 := J.out.bc 0; have k4 := J.out.bc 1; have z1 := J.out.az; have z2 := J.out.bz; have q0 := Q.out.2.1 0; have q1 := Q.out.2.1 1; have qf0 := Q.out.2.2 0; have qf1 := Q.out.2.2 1)
        | (go_at_call 101; have _t := T0; refine (cU'.out _).mono ?_; rintro rr w5 ⟨rfl, hb⟩; (with_reducible have J' := Lib.hid (J.out.below hb)); clear J hb; have J := J'; clear J'; clear k1 k2 k3 k4 z1 z2; have k1 := J.out.ac 0; have k2 := J.out.ac 1; have k3 := J.out.bc 0; have k4 := J.out.bc 1; have z1 := J.out.az; have z2 := J.out.bz)
        | (go_at_call 101; have _t := T0; refine (cU'.out _).mono ?_; rintro rr w5 ⟨rfl, hb⟩; have hm := J.out.mz; (try dsimp only [World.drew] at hm); have n1 := far1 hm; have n2 := far2 hm; have J' := Lib.hid ((J.out.below (bel1 _ _)).below hb); have Q := Lib.hid ((Block.made _ _ _ _).below hb); have HQ := Lib.hid hm; clear J hb T0 _t hm; have J := J'; clear J'; clear k1 k2 k3 k4 z1 z2; have k1 := J.out.ac 0; have k2 := J.out.ac 1; have k3 := J.out.bc 0; have k4 := J.out.bc 1; have z1 := J.out.az; have z2 := J.out.bz; have q0 := Q.out.2.1 0; have q1 := Q.out.2.1 1; have qf0 := Q.out.2.2 0; have qf1 := Q.out.2.2 1)
        | (go_at_call 101; refine (cU'.out _).mono ?_; rintro rr w5 ⟨rfl, hb⟩; have J' := Lib.hid (J.out.below hb); have Q' := Lib.hid (Q.out.below hb); clear J Q hb q0 q1 qf0 qf1; have J := J'; have Q := Q'; clear J' Q'; clear k1 k2 k3 k4 z1 z2; have k1 := J.out.ac 0; have k2 := J.out.ac 1; have k3 := J.out.bc 0; have k4 := J.out.bc 1; have z1 := J.out.az; have z2 := J.out.bz; have q0 := Q.out.2.1 0; have q1 := Q.out.2.1 1; have qf0 := Q.out.2.2 0; have qf1 := Q.out.2.2 1))
    all_goals (go_wp2_with fail; go_meet)
    all_goals first | exact cut_made J.out _ _ _ | exact cut_set J.out hz _ HQ.out Q.out _ _
  case rest =>
    obtain ⟨q, rfl, hq, hJ, hQ⟩ := hcut
    have J2 := Lib.hid hJ
    have q1 := hQ.2.1
    have q2 := hQ.2.2
    have m1 := hJ.mc
    have m2 := hJ.mf
    clear hJ hQ J J0 k1 k2 k3 k4 z1 z2 T0 cM cN cU' cC cD cT cU
    go_wp2_with fail
    refine (cW.out _ J2.out.pc).mono ?_
    rintro rr w6 ⟨rfl, rfl⟩
    cases he : (s.e == 0)
    · have E : Hid (R = ⟨s.e, 0, 0⟩) := by show R = _; rw [HJ.out, if_neg (by simpa using he)]
      go_wp2
      rw [E.out]
      exact bodyPost_ret (v := .agg #[.float .f64 0, .float .f64 0]) (by simp [results, Try.results52, go_sem, m1]) rfl ⟨rfl, (Below.setCell J2.out.base (by show _ ≤ w.heap.size + 1 + 1; omega) _).setCell (by show _ ≤ w.heap.size + 1 + 1; omega) _⟩
    · have E : Hid (R = ⟨0, minW r.lo s.lo, maxW r.hi s.hi⟩ ∧ s.e = 0) := by
        have hs : s.e = 0 := by simpa using he
        exact And.intro (by rw [HJ.out, if_pos hs]) hs
      go_wp2
      rw [E.out.1]
      refine bodyPost_ret (v := .agg #[.float .f64 (minW r.lo s.lo), .float .f64 (maxW r.hi s.hi)]) (by simp [results, Try.results52, go_sem, m1]) rfl ⟨rfl, ?_⟩
      have hb := J2.out.base
      rw [E.out.2] at hb
      exact (Below.setCell hb (by show _ ≤ w.heap.size + 1 + 1; omega) _).setCell (by show _ ≤ w.heap.size + 1 + 1; omega) _



theorem cMul_any (e : Int) (al ah bl bh pb po : Nat) (w : World) (la : al < 18446744073709551616) (ha : ah < 18446744073709551616) (lb : bl < 18446744073709551616) (hb : bh < 18446744073709551616) (hc : w.cell? ⟨pb, po, none⟩ = some (.int .i64 e)) (hf : w.frozen? ⟨pb, po, none⟩ = false) :
    Calls Try.prog 52 #[.pointer (some ⟨pb, po, none⟩), .agg #[.float .f64 al, .float .f64 ah], .agg #[.float .f64 bl, .float .f64 bh]] w (Told (stepI e (ivR al ah && ivR bl bh) (mulI al ah bl bh)) pb po w) := by
  cases he : (e == 0)
  · rw [stepI_err _ _ _ he]; exact cMul_err e al ah bl bh pb po w hc he
  · obtain rfl : e = 0 := by simpa using he
    cases hr : ivR al ah
    · rw [Bool.false_and, stepI_bad]; exact cMul_bad1 al ah bl bh pb po w la ha hc hf hr
    · cases hs : ivR bl bh
      · rw [Bool.and_false, stepI_bad]; exact cMul_bad2 al ah bl bh pb po w la ha lb hb hc hf hr hs
      · rw [Bool.and_true, stepI_ok]
        cases h1 : crossB al ah
        · have hI : mulI al ah bl bh = mulJ al ah bl bh := by unfold mulI; rw [if_neg (by rw [h1]; exact Bool.false_ne_true)]
          rw [hI]
          cases h2 : crossB bl bh
          · exact cMul_ff al ah bl bh pb po w la ha lb hb hc hf hr hs h1 h2
          · exact cMul_ft al ah bl bh pb po w la ha lb hb hc hf hr hs h1 h2
        · cases h2 : crossB bl bh
          · have hI : mulI al ah bl bh = mulJ al ah bl bh := by unfold mulI; rw [if_neg (by rw [h1, h2]; exact Bool.false_ne_true)]
            rw [hI]
            exact cMul_tf al ah bl bh pb po w la ha lb hb hc hf hr hs h1 h2
          · exact cMul_tt al ah bl bh pb po w la ha lb hb hc hf hr hs h1 h2

end Go.Proofs.Ytmcecchcbfhfcaa
