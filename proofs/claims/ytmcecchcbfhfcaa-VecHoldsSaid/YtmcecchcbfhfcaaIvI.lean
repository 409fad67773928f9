
/- Package ival: the calculator's method Mul, where not both have both signs. -/
import Derived.Test.YtmcecchcbfhfcaaIvH
namespace Go.Proofs.Ytmcecchcbfhfcaa
open Go.RowKit
attribute [local go_sem] run_store_float

theorem put2 {v : World} {b : Nat} {u0 u1 : Value} (h : ∀ i, v.cell? ⟨b, i, none⟩ = #[u0, u1][i]?) (x y : Value) : ∀ i, ((v.setCell ⟨b, 0, none⟩ x).setCell ⟨b, 1, none⟩ y).cell? ⟨b, i, none⟩ = #[x, y][i]? := by
  intro i
  have h1 : (v.setCell ⟨b, 0, none⟩ x).cell? ⟨b, 1, none⟩ = some u1 := (World.cell?_setCell_other _ _ _ _ (by simp)).trans (h 1)
  match i with
  | 0 => rw [World.cell?_setCell_other _ _ _ _ (by simp)]; exact World.cell?_setCell_same _ _ _ (h 0)
  | 1 => exact World.cell?_setCell_same _ _ _ h1
  | n + 2 =>
    rw [World.cell?_setCell_other _ _ _ _ (by simp), World.cell?_setCell_other _ _ _ _ (by simp), h]
    rfl
theorem other2 (v : World) (b : Nat) (x y : Value) (q : Addr) (h : b ≠ q.block) : ((v.setCell ⟨b, 0, none⟩ x).setCell ⟨b, 1, none⟩ y).cell? q = v.cell? q := by
  rw [World.cell?_setCell_other _ _ _ _ (fun e => h (by rw [← e])), World.cell?_setCell_other _ _ _ _ (fun e => h (by rw [← e]))]

theorem Stood.swap {w : World} {pb po k bl bh m : Nat} {v : World} (h : Stood w pb po k bl bh m v) {a : Nat} (al ah : Nat) (n1 : a ≠ k) (n2 : a ≠ m) (n3 : k ≠ m) (n4 : a ≠ pb) (n5 : k ≠ pb) (ga : w.heap.size ≤ a) (gk : w.heap.size ≤ k) :
    Stood w pb po k al ah m ((((v.setCell ⟨a, 0, none⟩ (.float .f64 bl)).setCell ⟨a, 1, none⟩ (.float .f64 bh)).setCell ⟨k, 0, none⟩ (.float .f64 al)).setCell ⟨k, 1, none⟩ (.float .f64 ah)) where
  base := (((h.base.setCell ga _).setCell ga _).setCell gk _).setCell gk _
  pc := by rw [other2 _ _ _ _ _ n5, other2 _ _ _ _ _ n4]; exact h.pc
  pf := by rw [frozen_set, frozen_set, frozen_set, frozen_set]; exact h.pf
  kz := by rw [size_set, size_set, size_set, size_set]; exact h.kz
  kc := put2 (fun i => (other2 _ _ _ _ _ n1).trans (h.kc i)) _ _
  kf := fun i => by rw [frozen_set, frozen_set, frozen_set, frozen_set]; exact h.kf i
  mz := by rw [size_set, size_set, size_set, size_set]; exact h.mz
  mc := fun i => by rw [other2 _ _ _ _ _ n3, other2 _ _ _ _ _ n2]; exact h.mc i
  mf := fun i => by rw [frozen_set, frozen_set, frozen_set, frozen_set]; exact h.mf i

set_option maxHeartbeats 400000 in
theorem cMul_nil (al ah bl bh : Nat) (w : World) :
    Calls Try.prog 52 #[.pointer none, .agg #[.float .f64 al, .float .f64 ah], .agg #[.float .f64 bl, .float .f64 bh]] w fun r w' => r = .returned (.agg #[.float .f64 0, .float .f64 0]) ∧ Below w.heap.size w w' := by
  go_enter Try.func52, Try.ntmps52
  go_wp2_with fail
  refine (takes_nil al ah _).mono ?_
  rintro r w1 ⟨rfl, hb⟩
  obtain ⟨z1, z2, z3, c1, f1, c2, f2, c3, f3, B⟩ := after3 hb
  have HB := Lib.hid B
  clear hb B c1 f1 c2 f2
  go_wp2
  exact bodyPost_ret (v := .agg #[.float .f64 0, .float .f64 0]) (by simp [results, Try.results52, go_sem, c3]) rfl ⟨rfl, (HB.out.setCell (by show _ ≤ w.heap.size + 1 + 1; omega) _).setCell (by show _ ≤ w.heap.size + 1 + 1; omega) _⟩

set_option maxHeartbeats 400000 in
theorem cMul_err (e : Int) (al ah bl bh pb po : Nat) (w : World) (hc : w.cell? ⟨pb, po, none⟩ = some (.int .i64 e)) (he : (e == 0) = false) :
    Calls Try.prog 52 #[.pointer (some ⟨pb, po, none⟩), .agg #[.float .f64 al, .float .f64 ah], .agg #[.float .f64 bl, .float .f64 bh]] w (Told ⟨e, 0, 0⟩ pb po w) := by
  have hz : pb < w.heap.size := cell_lt hc
  have h1 : (((w.alloc (.cells #[.float .f64 al, .float .f64 ah] 39)).alloc (.cells #[.float .f64 bl, .float .f64 bh] 39)).alloc (.cells #[.float .f64 0, .float .f64 0] 39)).cell? ⟨pb, po, none⟩ = some (.int .i64 e) := ((bel3 w _ _ _).cell hz).trans hc
  have cT := Lib.hid (fun w hc => takes_err al ah e pb po w hc he)
  have H1 := Lib.hid h1
  have HC := Lib.hid hc
  clear h1 hc he hz
  go_enter Try.func52, Try.ntmps52
  go_wp2_with fail
  refine (cT.out _ H1.out).mono ?_
  rintro r w1 ⟨rfl, hb⟩
  obtain ⟨z1, z2, z3, c1, f1, c2, f2, c3, f3, B⟩ := after3 hb
  have HB := Lib.hid B
  clear hb B c1 f1 c2 f2
  go_wp2
  exact bodyPost_ret (v := .agg #[.float .f64 0, .float .f64 0]) (by simp [results, Try.results52, go_sem, c3]) rfl ⟨rfl, Put.of_below HC.out ((HB.out.setCell (by show _ ≤ w.heap.size + 1 + 1; omega) _).setCell (by show _ ≤ w.heap.size + 1 + 1; omega) _)⟩

set_option maxHeartbeats 400000 in
theorem cMul_bad1 (al ah bl bh pb po : Nat) (w : World) (la : al < 18446744073709551616) (ha : ah < 18446744073709551616) (hc : w.cell? ⟨pb, po, none⟩ = some (.int .i64 0)) (hf : w.frozen? ⟨pb, po, none⟩ = false) (hr : ivR al ah = false) :
    Calls Try.prog 52 #[.pointer (some ⟨pb, po, none⟩), .agg #[.float .f64 al, .float .f64 ah], .agg #[.float .f64 bl, .float .f64 bh]] w (Told ⟨20, 0, 0⟩ pb po w) := by
  have hz : pb < w.heap.size := cell_lt hc
  have h1 : (((w.alloc (.cells #[.float .f64 al, .float .f64 ah] 39)).alloc (.cells #[.float .f64 bl, .float .f64 bh] 39)).alloc (.cells #[.float .f64 0, .float .f64 0] 39)).cell? ⟨pb, po, none⟩ = some (.int .i64 0) := ((bel3 w _ _ _).cell hz).trans hc
  have h2 : (((w.alloc (.cells #[.float .f64 al, .float .f64 ah] 39)).alloc (.cells #[.float .f64 bl, .float .f64 bh] 39)).alloc (.cells #[.float .f64 0, .float .f64 0] 39)).frozen? ⟨pb, po, none⟩ = false := ((bel3 w _ _ _).frozen hz).trans hf
  have cT := Lib.hid (fun w hc hf => takes_bad al ah pb po w la ha hc hf hr)
  have H1 := Lib.hid h1
  have H2 := Lib.hid h2
  clear h1 h2 hc hf hr la ha
  go_enter Try.func52, Try.ntmps52
  go_wp2_with fail
  refine (cT.out _ H1.out H2.out).mono ?_
  rintro r w1 ⟨rfl, hp⟩
  have HP := Lib.hid (Put.after (bel3 w _ _ _) hp)
  obtain ⟨z3, c3, f3⟩ := hp.block (k := w.heap.size + 1 + 1) (by simp) (by show ¬ pb = w.heap.size + 1 + 1; omega) (fun i => World.cell?_alloc_at _ _ _ _ (by simp)) (fun i => World.frozen?_alloc_at _ _ _ _ (by simp))
  clear hp
  go_wp2
  exact bodyPost_ret (v := .agg #[.float .f64 0, .float .f64 0]) (by simp [results, Try.results52, go_sem, c3]) rfl ⟨rfl, (Below.setCell HP.out (by show _ ≤ w.heap.size + 1 + 1; omega) _).setCell (by show _ ≤ w.heap.size + 1 + 1; omega) _⟩

set_option maxRecDepth 100000 in
set_option maxHeartbeats 2000000 in
theorem cMul_bad2 (al ah bl bh pb po : Nat) (w : World) (la : al < 18446744073709551616) (ha : ah < 18446744073709551616) (lb : bl < 18446744073709551616) (hb : bh < 18446744073709551616) (hc : w.cell? ⟨pb, po, none⟩ = some (.int .i64 0)) (hf : w.frozen? ⟨pb, po, none⟩ = false) (hr : ivR al ah = true) (hs : ivR bl bh = false) :
    Calls Try.prog 52 #[.pointer (some ⟨pb, po, none⟩), .agg #[.float .f64 al, .float .f64 ah], .agg #[.float .f64 bl, .float .f64 bh]] w (Told ⟨20, 0, 0⟩ pb po w) := by
  have hz : pb < w.heap.size := cell_lt hc
  have h1 : (((w.alloc (.cells #[.float .f64 al, .float .f64 ah] 39)).alloc (.cells #[.float .f64 bl, .float .f64 bh] 39)).alloc (.cells #[.float .f64 0, .float .f64 0] 39)).cell? ⟨pb, po, none⟩ = some (.int .i64 0) := ((bel3 w _ _ _).cell hz).trans hc
  have h2 : (((w.alloc (.cells #[.float .f64 al, .float .f64 ah] 39)).alloc (.cells #[.float .f64 bl, .float .f64 bh] 39)).alloc (.cells #[.float .f64 0, .float .f64 0] 39)).frozen? ⟨pb, po, none⟩ = false := ((bel3 w _ _ _).frozen hz).trans hf
  have cT := Lib.hid (fun w hc => takes_ok al ah pb po w la ha hc hr)
  have cU := Lib.hid (fun w hc hf => takes_bad bl bh pb po w lb hb hc hf hs)
  have H1 := Lib.hid h1
  have H2 := Lib.hid h2
  clear h1 h2 hc hf hr hs la ha lb hb
  go_enter Try.func52, Try.ntmps52
  go_wp2_with fail
  refine (cT.out _ H1.out).mono ?_
  rintro r w1 ⟨rfl, hb⟩
  have H3 := Lib.hid ((hb.cell (p := ⟨pb, po, none⟩) (by show pb < _; simp; omega)).trans H1.out)
  have H4 := Lib.hid ((hb.frozen (p := ⟨pb, po, none⟩) (by show pb < _; simp; omega)).trans H2.out)
  obtain ⟨z1, z2, z3, c1, f1, c2, f2, c3, f3, B⟩ := after3 hb
  have HB := Lib.hid B
  clear hb B H1 H2 c1 f1
  go_wp2_with fail
  refine (cU.out _ H3.out H4.out).mono ?_
  rintro r w2 ⟨rfl, hp⟩
  have HP := Lib.hid (Put.after HB.out hp)
  obtain ⟨y3, d3, g3⟩ := hp.block (k := w.heap.size + 1 + 1) z1 (by show ¬ pb = w.heap.size + 1 + 1; omega) c3 f3
  clear hp c2 f2 c3 f3 H3 H4 HB
  go_wp2
  exact bodyPost_ret (v := .agg #[.float .f64 0, .float .f64 0]) (by simp [results, Try.results52, go_sem, d3]) rfl ⟨rfl, (Below.setCell HP.out (by show _ ≤ w.heap.size + 1 + 1; omega) _).setCell (by show _ ≤ w.heap.size + 1 + 1; omega) _⟩

set_option maxRecDepth 100000 in
set_option maxHeartbeats 2000000 in
theorem cMul_ff (al ah bl bh pb po : Nat) (w : World) (la : al < 18446744073709551616) (ha : ah < 18446744073709551616) (lb : bl < 18446744073709551616) (hb : bh < 18446744073709551616) (hc : w.cell? ⟨pb, po, none⟩ = some (.int .i64 0)) (hf : w.frozen? ⟨pb, po, none⟩ = false) (hr : ivR al ah = true) (hs : ivR bl bh = true) (h1' : crossB al ah = false) (h2' : crossB bl bh = false) :
    Calls Try.prog 52 #[.pointer (some ⟨pb, po, none⟩), .agg #[.float .f64 al, .float .f64 ah], .agg #[.float .f64 bl, .float .f64 bh]] w (Told (mulJ al ah bl bh) pb po w) := by
  have hz : pb < w.heap.size := cell_lt hc
  have h1 : (((w.alloc (.cells #[.float .f64 al, .float .f64 ah] 39)).alloc (.cells #[.float .f64 bl, .float .f64 bh] 39)).alloc (.cells #[.float .f64 0, .float .f64 0] 39)).cell? ⟨pb, po, none⟩ = some (.int .i64 0) := ((bel3 w _ _ _).cell hz).trans hc
  have h2 : (((w.alloc (.cells #[.float .f64 al, .float .f64 ah] 39)).alloc (.cells #[.float .f64 bl, .float .f64 bh] 39)).alloc (.cells #[.float .f64 0, .float .f64 0] 39)).frozen? ⟨pb, po, none⟩ = false := ((bel3 w _ _ _).frozen hz).trans hf
  have cT := Lib.hid (fun w hc => takes_ok al ah pb po w la ha hc hr)
  have cU := Lib.hid (fun w hc => takes_ok bl bh pb po w lb hb hc hs)
  have cC := Lib.hid (fun w => crosses_any al ah w la ha (ivR_parts hr).1 (ivR_parts hr).2.1)
  have cD := Lib.hid (fun w => crosses_any bl bh w lb hb (ivR_parts hs).1 (ivR_parts hs).2.1)
  rw [h1'] at cC
  rw [h2'] at cD
  have cO := Lib.hid (fun w => inOrder_any al ah bl bh w lb (ivR_parts hs).1)
  obtain ⟨x1, x2, y1, y2⟩ := low_right al ah bl la ha (ivR_parts hr).1 (ivR_parts hr).2.1
  obtain ⟨R, hR⟩ : ∃ R, R = mul1 al ah bl bh := ⟨_, rfl⟩
  have cX : Hid (∀ w, w.cell? ⟨pb, po, none⟩ = some (.int .i64 0) → w.frozen? ⟨pb, po, none⟩ = false → Calls Try.prog 104 #[.pointer (some ⟨pb, po, none⟩), .func (.func 107) #[.agg #[.float .f64 (lowOf al ah bl), .float .f64 (endW bl bh (ltB (lowOf al ah bl) 0))]] #[], .func (.func 107) #[.agg #[.float .f64 (highOf al ah bl), .float .f64 (endW bl bh (leB 0 (highOf al ah bl)))]] #[]] w (Told R pb po w)) := by
    intro w hc hf
    rw [hR]
    exact tight_product _ _ _ _ pb po w _ _ (Lib.hid (fun w => end_product _ _ false w x1 (end_lt bl bh _ lb hb))) (Lib.hid (fun w => end_product _ _ true w y1 (end_lt bl bh _ lb hb))) hc hf
  have o1 := lt_zero _ x1 x2
  have o2 := ge_zero _ y1 y2
  clear x1 x2 y1 y2
  generalize lowOf al ah bl = x at cO cX o1
  generalize highOf al ah bl = y at cO cX o2
  rw [← o1, ← o2] at cX
  clear o1 o2
  have hI : mulJ al ah bl bh = R := by rw [hR]; unfold mulJ; rw [if_neg (by rw [h2']; exact Bool.false_ne_true)]
  rw [hI]
  clear hI hR h1' h2'
  have H0 := Lib.hid hc
  have H1 := Lib.hid h1
  have H2 := Lib.hid h2
  clear h1 h2 hc hf hr hs la ha lb hb
  go_enter Try.func52, Try.ntmps52
  go_wp2_with fail
  refine (cT.out _ H1.out).mono ?_
  rintro r w1 ⟨rfl, hb⟩
  have H3 := Lib.hid ((hb.cell (p := ⟨pb, po, none⟩) (by show pb < _; simp; omega)).trans H1.out)
  have H4 := Lib.hid ((hb.frozen (p := ⟨pb, po, none⟩) (by show pb < _; simp; omega)).trans H2.out)
  obtain ⟨z1, z2, z3, c1, f1, c2, f2, c3, f3, B⟩ := after3 hb
  have HB := Lib.hid B
  clear hb B H1 H2
  go_wp2_with fail
  refine (cU.out _ H3.out).mono ?_
  rintro r w2 ⟨rfl, hb⟩
  have H5 := Lib.hid ((hb.cell (p := ⟨pb, po, none⟩) (by show pb < _; omega)).trans H3.out)
  have H6 := Lib.hid ((hb.frozen (p := ⟨pb, po, none⟩) (by show pb < _; omega)).trans H4.out)
  obtain ⟨y1, c1', f1'⟩ := keepB hb z3 c1 f1
  obtain ⟨y2, c2', f2'⟩ := keepB hb z2 c2 f2
  obtain ⟨y3, c3', f3'⟩ := keepB hb z1 c3 f3
  have HB2 := Lib.hid (HB.out.trans (hb.mono HB.out.size))
  clear hb HB H3 H4 z1 z2 z3 c1 f1 c2 f2 c3 f3
  have J : Hid (Stood w pb po (w.heap.size + 1) bl bh (w.heap.size + 1 + 1) w2) := Lib.hid ⟨HB2.out, H5.out, H6.out, y2, c2', f2', y3, c3', f3'⟩
  have A2 := Lib.hid (And.intro y1 (And.intro c1' f1'))
  clear HB2 H5 H6 y1 y2 c1' f1' c2' f2' y3 c3' f3'
  have c1 := A2.out.2.1
  have c2 := J.out.kc
  go_wp2_with fail
  refine (cC.out _).mono ?_
  rintro r w3 ⟨rfl, hb⟩
  replace J := Lib.hid (J.out.below hb)
  have A3 := Lib.hid (keepB hb A2.out.1 A2.out.2.1 A2.out.2.2)
  clear hb A2 c1 c2
  have c1 := A3.out.2.1
  have c2 := J.out.kc
  go_wp2_with fail
  refine (cD.out _).mono ?_
  rintro r w4 ⟨rfl, hb⟩
  replace J := Lib.hid (J.out.below hb)
  have A4 := Lib.hid (keepB hb A3.out.1 A3.out.2.1 A3.out.2.2)
  clear hb A3 c1 c2
  have c1 := A4.out.2.1
  have c2 := J.out.kc
  go_wp2_with fail
  refine (cO.out _).mono ?_
  rintro r w9 ⟨rfl, hb⟩
  replace J := Lib.hid (Stood.drew (J.out.below hb))
  clear hb A4 c1 c2
  have k1 : w9.cell? ⟨w.heap.size + 1, 0, none⟩ = _ := J.out.kc 0
  have k2 : w9.cell? ⟨w.heap.size + 1, 1, none⟩ = _ := J.out.kc 1
  go_wp2_with fail
  go_region_held3 (fun w' => w'.cell? ⟨w.heap.size + 1, 0, none⟩ = some (.float .f64 bl) ∧ w'.cell? ⟨w.heap.size + 1, 1, none⟩ = some (.float .f64 bh)) (go_keep)
    (first
      | (go_at_call 116; refine (endOf_any _ _ _ _).mono ?_; rintro r w5 ⟨rfl, hb⟩; replace J := Lib.hid (J.out.below hb); clear hb k1 k2; have k1 := J.out.kc 0; have k2 := J.out.kc 1)
      | (go_at_call 104; refine (cX.out _ J.out.pc J.out.pf).mono ?_; rintro r w6 ⟨rfl, hp⟩; have HP := Lib.hid (Put.after J.out.base hp); clear k1 k2; obtain ⟨x1, d1, g1⟩ := hp.block (k := w.heap.size + 1) J.out.kz (by show ¬ pb = w.heap.size + 1; omega) J.out.kc J.out.kf; obtain ⟨x3, d3, g3⟩ := hp.block (k := w.heap.size + 1 + 1) J.out.mz (by show ¬ pb = w.heap.size + 1 + 1; omega) J.out.mc J.out.mf; have k1 := d1 0; have k2 := d1 1; clear hp))
  all_goals go_wp2
  all_goals exact bodyPost_ret (v := .agg #[.float .f64 R.lo, .float .f64 R.hi]) (by simp [results, Try.results52, go_sem, d3]) rfl ⟨rfl, (Below.setCell HP.out (by show _ ≤ w.heap.size + 1 + 1; omega) _).setCell (by show _ ≤ w.heap.size + 1 + 1; omega) _⟩

set_option maxRecDepth 100000 in
set_option maxHeartbeats 2000000 in
theorem cMul_tf (al ah bl bh pb po : Nat) (w : World) (la : al < 18446744073709551616) (ha : ah < 18446744073709551616) (lb : bl < 18446744073709551616) (hb : bh < 18446744073709551616) (hc : w.cell? ⟨pb, po, none⟩ = some (.int .i64 0)) (hf : w.frozen? ⟨pb, po, none⟩ = false) (hr : ivR al ah = true) (hs : ivR bl bh = true) (h1' : crossB al ah = true) (h2' : crossB bl bh = false) :
    Calls Try.prog 52 #[.pointer (some ⟨pb, po, none⟩), .agg #[.float .f64 al, .float .f64 ah], .agg #[.float .f64 bl, .float .f64 bh]] w (Told (mulJ al ah bl bh) pb po w) := by
  have hz : pb < w.heap.size := cell_lt hc
  have h1 : (((w.alloc (.cells #[.float .f64 al, .float .f64 ah] 39)).alloc (.cells #[.float .f64 bl, .float .f64 bh] 39)).alloc (.cells #[.float .f64 0, .float .f64 0] 39)).cell? ⟨pb, po, none⟩ = some (.int .i64 0) := ((bel3 w _ _ _).cell hz).trans hc
  have h2 : (((w.alloc (.cells #[.float .f64 al, .float .f64 ah] 39)).alloc (.cells #[.float .f64 bl, .float .f64 bh] 39)).alloc (.cells #[.float .f64 0, .float .f64 0] 39)).frozen? ⟨pb, po, none⟩ = false := ((bel3 w _ _ _).frozen hz).trans hf
  have cT := Lib.hid (fun w hc => takes_ok al ah pb po w la ha hc hr)
  have cU := Lib.hid (fun w hc => takes_ok bl bh pb po w lb hb hc hs)
  have cC := Lib.hid (fun w => crosses_any al ah w la ha (ivR_parts hr).1 (ivR_parts hr).2.1)
  have cD := Lib.hid (fun w => crosses_any bl bh w lb hb (ivR_parts hs).1 (ivR_parts hs).2.1)
  rw [h1'] at cC
  rw [h2'] at cD
  have cO := Lib.hid (fun w => inOrder_any al ah bl bh w lb (ivR_parts hs).1)
  obtain ⟨x1, x2, y1, y2⟩ := low_right al ah bl la ha (ivR_parts hr).1 (ivR_parts hr).2.1
  obtain ⟨R, hR⟩ : ∃ R, R = mul1 al ah bl bh := ⟨_, rfl⟩
  have cX : Hid (∀ w, w.cell? ⟨pb, po, none⟩ = some (.int .i64 0) → w.frozen? ⟨pb, po, none⟩ = false → Calls Try.prog 104 #[.pointer (some ⟨pb, po, none⟩), .func (.func 107) #[.agg #[.float .f64 (lowOf al ah bl), .float .f64 (endW bl bh (ltB (lowOf al ah bl) 0))]] #[], .func (.func 107) #[.agg #[.float .f64 (highOf al ah bl), .float .f64 (endW bl bh (leB 0 (highOf al ah bl)))]] #[]] w (Told R pb po w)) := by
    intro w hc hf
    rw [hR]
    exact tight_product _ _ _ _ pb po w _ _ (Lib.hid (fun w => end_product _ _ false w x1 (end_lt bl bh _ lb hb))) (Lib.hid (fun w => end_product _ _ true w y1 (end_lt bl bh _ lb hb))) hc hf
  have o1 := lt_zero _ x1 x2
  have o2 := ge_zero _ y1 y2
  clear x1 x2 y1 y2
  generalize lowOf al ah bl = x at cO cX o1
  generalize highOf al ah bl = y at cO cX o2
  rw [← o1, ← o2] at cX
  clear o1 o2
  have hI : mulJ al ah bl bh = R := by rw [hR]; unfold mulJ; rw [if_neg (by rw [h2']; exact Bool.false_ne_true)]
  rw [hI]
  clear hI hR h1' h2'
  have H0 := Lib.hid hc
  have H1 := Lib.hid h1
  have H2 := Lib.hid h2
  clear h1 h2 hc hf hr hs la ha lb hb
  go_enter Try.func52, Try.ntmps52
  go_wp2_with fail
  refine (cT.out _ H1.out).mono ?_
  rintro r w1 ⟨rfl, hb⟩
  have H3 := Lib.hid ((hb.cell (p := ⟨pb, po, none⟩) (by show pb < _; simp; omega)).trans H1.out)
  have H4 := Lib.hid ((hb.frozen (p := ⟨pb, po, none⟩) (by show pb < _; simp; omega)).trans H2.out)
  obtain ⟨z1, z2, z3, c1, f1, c2, f2, c3, f3, B⟩ := after3 hb
  have HB := Lib.hid B
  clear hb B H1 H2
  go_wp2_with fail
  refine (cU.out _ H3.out).mono ?_
  rintro r w2 ⟨rfl, hb⟩
  have H5 := Lib.hid ((hb.cell (p := ⟨pb, po, none⟩) (by show pb < _; omega)).trans H3.out)
  have H6 := Lib.hid ((hb.frozen (p := ⟨pb, po, none⟩) (by show pb < _; omega)).trans H4.out)
  obtain ⟨y1, c1', f1'⟩ := keepB hb z3 c1 f1
  obtain ⟨y2, c2', f2'⟩ := keepB hb z2 c2 f2
  obtain ⟨y3, c3', f3'⟩ := keepB hb z1 c3 f3
  have HB2 := Lib.hid (HB.out.trans (hb.mono HB.out.size))
  clear hb HB H3 H4 z1 z2 z3 c1 f1 c2 f2 c3 f3
  have J : Hid (Stood w pb po (w.heap.size + 1) bl bh (w.heap.size + 1 + 1) w2) := Lib.hid ⟨HB2.out, H5.out, H6.out, y2, c2', f2', y3, c3', f3'⟩
  have A2 := Lib.hid (And.intro y1 (And.intro c1' f1'))
  clear HB2 H5 H6 y1 y2 c1' f1' c2' f2' y3 c3' f3'
  have c1 := A2.out.2.1
  have c2 := J.out.kc
  go_wp2_with fail
  refine (cC.out _).mono ?_
  rintro r w3 ⟨rfl, hb⟩
  replace J := Lib.hid (J.out.below hb)
  have A3 := Lib.hid (keepB hb A2.out.1 A2.out.2.1 A2.out.2.2)
  clear hb A2 c1 c2
  have c1 := A3.out.2.1
  have c2 := J.out.kc
  go_wp2_with fail
  refine (cD.out _).mono ?_
  rintro r w4 ⟨rfl, hb⟩
  replace J := Lib.hid (J.out.below hb)
  have A4 := Lib.hid (keepB hb A3.out.1 A3.out.2.1 A3.out.2.2)
  clear hb A3 c1 c2
  have c1 := A4.out.2.1
  have c2 := J.out.kc
  go_wp2_with fail
  refine (cD.out _).mono ?_
  rintro r w5 ⟨rfl, hb⟩
  replace J := Lib.hid (J.out.below hb)
  have A5 := Lib.hid (keepB hb A4.out.1 A4.out.2.1 A4.out.2.2)
  clear hb A4 c1 c2
  have c1 := A5.out.2.1
  have c2 := J.out.kc
  go_wp2_with fail
  refine (cO.out _).mono ?_
  rintro r w9 ⟨rfl, hb⟩
  replace J := Lib.hid (Stood.drew (J.out.below hb))
  clear hb A5 c1 c2
  have k1 : w9.cell? ⟨w.heap.size + 1, 0, none⟩ = _ := J.out.kc 0
  have k2 : w9.cell? ⟨w.heap.size + 1, 1, none⟩ = _ := J.out.kc 1
  go_wp2_with fail
  go_region_held3 (fun w' => w'.cell? ⟨w.heap.size + 1, 0, none⟩ = some (.float .f64 bl) ∧ w'.cell? ⟨w.heap.size + 1, 1, none⟩ = some (.float .f64 bh)) (go_keep)
    (first
      | (go_at_call 116; refine (endOf_any _ _ _ _).mono ?_; rintro r w5 ⟨rfl, hb⟩; replace J := Lib.hid (J.out.below hb); clear hb k1 k2; have k1 := J.out.kc 0; have k2 := J.out.kc 1)
      | (go_at_call 104; refine (cX.out _ J.out.pc J.out.pf).mono ?_; rintro r w6 ⟨rfl, hp⟩; have HP := Lib.hid (Put.after J.out.base hp); clear k1 k2; obtain ⟨x1, d1, g1⟩ := hp.block (k := w.heap.size + 1) J.out.kz (by show ¬ pb = w.heap.size + 1; omega) J.out.kc J.out.kf; obtain ⟨x3, d3, g3⟩ := hp.block (k := w.heap.size + 1 + 1) J.out.mz (by show ¬ pb = w.heap.size + 1 + 1; omega) J.out.mc J.out.mf; have k1 := d1 0; have k2 := d1 1; clear hp))
  all_goals go_wp2
  all_goals exact bodyPost_ret (v := .agg #[.float .f64 R.lo, .float .f64 R.hi]) (by simp [results, Try.results52, go_sem, d3]) rfl ⟨rfl, (Below.setCell HP.out (by show _ ≤ w.heap.size + 1 + 1; omega) _).setCell (by show _ ≤ w.heap.size + 1 + 1; omega) _⟩

set_option maxRecDepth 100000 in
set_option maxHeartbeats 2000000 in
theorem cMul_ft (al ah bl bh pb po : Nat) (w : World) (la : al < 18446744073709551616) (ha : ah < 18446744073709551616) (lb : bl < 18446744073709551616) (hb : bh < 18446744073709551616) (hc : w.cell? ⟨pb, po, none⟩ = some (.int .i64 0)) (hf : w.frozen? ⟨pb, po, none⟩ = false) (hr : ivR al ah = true) (hs : ivR bl bh = true) (h1' : crossB al ah = false) (h2' : crossB bl bh = true) :
    Calls Try.prog 52 #[.pointer (some ⟨pb, po, none⟩), .agg #[.float .f64 al, .float .f64 ah], .agg #[.float .f64 bl, .float .f64 bh]] w (Told (mulJ al ah bl bh) pb po w) := by
  have hz : pb < w.heap.size := cell_lt hc
  have h1 : (((w.alloc (.cells #[.float .f64 al, .float .f64 ah] 39)).alloc (.cells #[.float .f64 bl, .float .f64 bh] 39)).alloc (.cells #[.float .f64 0, .float .f64 0] 39)).cell? ⟨pb, po, none⟩ = some (.int .i64 0) := ((bel3 w _ _ _).cell hz).trans hc
  have h2 : (((w.alloc (.cells #[.float .f64 al, .float .f64 ah] 39)).alloc (.cells #[.float .f64 bl, .float .f64 bh] 39)).alloc (.cells #[.float .f64 0, .float .f64 0] 39)).frozen? ⟨pb, po, none⟩ = false := ((bel3 w _ _ _).frozen hz).trans hf
  have cT := Lib.hid (fun w hc => takes_ok al ah pb po w la ha hc hr)
  have cU := Lib.hid (fun w hc => takes_ok bl bh pb po w lb hb hc hs)
  have cC := Lib.hid (fun w => crosses_any al ah w la ha (ivR_parts hr).1 (ivR_parts hr).2.1)
  have cD := Lib.hid (fun w => crosses_any bl bh w lb hb (ivR_parts hs).1 (ivR_parts hs).2.1)
  rw [h1'] at cC
  rw [h2'] at cD
  have cO := Lib.hid (fun w => inOrder_any bl bh al ah w la (ivR_parts hr).1)
  obtain ⟨x1, x2, y1, y2⟩ := low_right bl bh al lb hb (ivR_parts hs).1 (ivR_parts hs).2.1
  obtain ⟨R, hR⟩ : ∃ R, R = mul1 bl bh al ah := ⟨_, rfl⟩
  have cX : Hid (∀ w, w.cell? ⟨pb, po, none⟩ = some (.int .i64 0) → w.frozen? ⟨pb, po, none⟩ = false → Calls Try.prog 104 #[.pointer (some ⟨pb, po, none⟩), .func (.func 107) #[.agg #[.float .f64 (lowOf bl bh al), .float .f64 (endW al ah (ltB (lowOf bl bh al) 0))]] #[], .func (.func 107) #[.agg #[.float .f64 (highOf bl bh al), .float .f64 (endW al ah (leB 0 (highOf bl bh al)))]] #[]] w (Told R pb po w)) := by
    intro w hc hf
    rw [hR]
    exact tight_product _ _ _ _ pb po w _ _ (Lib.hid (fun w => end_product _ _ false w x1 (end_lt al ah _ la ha))) (Lib.hid (fun w => end_product _ _ true w y1 (end_lt al ah _ la ha))) hc hf
  have o1 := lt_zero _ x1 x2
  have o2 := ge_zero _ y1 y2
  clear x1 x2 y1 y2
  generalize lowOf bl bh al = x at cO cX o1
  generalize highOf bl bh al = y at cO cX o2
  rw [← o1, ← o2] at cX
  clear o1 o2
  have hI : mulJ al ah bl bh = R := by rw [hR]; unfold mulJ; rw [if_pos h2']
  rw [hI]
  clear hI hR h1' h2'
  have H0 := Lib.hid hc
  have H1 := Lib.hid h1
  have H2 := Lib.hid h2
  clear h1 h2 hc hf hr hs la ha lb hb
  go_enter Try.func52, Try.ntmps52
  go_wp2_with fail
  refine (cT.out _ H1.out).mono ?_
  rintro r w1 ⟨rfl, hb⟩
  have H3 := Lib.hid ((hb.cell (p := ⟨pb, po, none⟩) (by show pb < _; simp; omega)).trans H1.out)
  have H4 := Lib.hid ((hb.frozen (p := ⟨pb, po, none⟩) (by show pb < _; simp; omega)).trans H2.out)
  obtain ⟨z1, z2, z3, c1, f1, c2, f2, c3, f3, B⟩ := after3 hb
  have HB := Lib.hid B
  clear hb B H1 H2
  go_wp2_with fail
  refine (cU.out _ H3.out).mono ?_
  rintro r w2 ⟨rfl, hb⟩
  have H5 := Lib.hid ((hb.cell (p := ⟨pb, po, none⟩) (by show pb < _; omega)).trans H3.out)
  have H6 := Lib.hid ((hb.frozen (p := ⟨pb, po, none⟩) (by show pb < _; omega)).trans H4.out)
  obtain ⟨y1, c1', f1'⟩ := keepB hb z3 c1 f1
  obtain ⟨y2, c2', f2'⟩ := keepB hb z2 c2 f2
  obtain ⟨y3, c3', f3'⟩ := keepB hb z1 c3 f3
  have HB2 := Lib.hid (HB.out.trans (hb.mono HB.out.size))
  clear hb HB H3 H4 z1 z2 z3 c1 f1 c2 f2 c3 f3
  have J : Hid (Stood w pb po (w.heap.size + 1) bl bh (w.heap.size + 1 + 1) w2) := Lib.hid ⟨HB2.out, H5.out, H6.out, y2, c2', f2', y3, c3', f3'⟩
  have A2 := Lib.hid (And.intro y1 (And.intro c1' f1'))
  clear HB2 H5 H6 y1 y2 c1' f1' c2' f2' y3 c3' f3'
  have c1 := A2.out.2.1
  have c2 := J.out.kc
  go_wp2_with fail
  refine (cC.out _).mono ?_
  rintro r w3 ⟨rfl, hb⟩
  replace J := Lib.hid (J.out.below hb)
  have A3 := Lib.hid (keepB hb A2.out.1 A2.out.2.1 A2.out.2.2)
  clear hb A2 c1 c2
  have c1 := A3.out.2.1
  have c2 := J.out.kc
  go_wp2_with fail
  refine (cD.out _).mono ?_
  rintro r w4 ⟨rfl, hb⟩
  replace J := Lib.hid (J.out.below hb)
  have A4 := Lib.hid (keepB hb A3.out.1 A3.out.2.1 A3.out.2.2)
  clear hb A3 c1 c2
  have c1 := A4.out.2.1
  have c2 := J.out.kc
  have g1 := A4.out.2.2
  have g2 := J.out.kf
  have ne1 : ¬ w.heap.size + 1 = w.heap.size := by omega
  go_upto_region 10 with fail
  replace J := Lib.hid (J.out.swap (a := w.heap.size) al ah (by omega) (by omega) (by omega) (by omega) (by omega) (Nat.le_refl _) (by omega))
  have a1 : ∀ i, ((((w4.setCell ⟨w.heap.size, 0, none⟩ (.float .f64 bl)).setCell ⟨w.heap.size, 1, none⟩ (.float .f64 bh)).setCell ⟨w.heap.size + 1, 0, none⟩ (.float .f64 al)).setCell ⟨w.heap.size + 1, 1, none⟩ (.float .f64 ah)).cell? ⟨w.heap.size, i, none⟩ = #[Value.float .f64 bl, Value.float .f64 bh][i]? := fun i => (other2 _ _ _ _ _ (by show w.heap.size + 1 ≠ w.heap.size; omega)).trans (put2 c1 _ _ i)
  clear g1 g2 c1 c2
  generalize ((((w4.setCell ⟨w.heap.size, 0, none⟩ (.float .f64 bl)).setCell ⟨w.heap.size, 1, none⟩ (.float .f64 bh)).setCell ⟨w.heap.size + 1, 0, none⟩ (.float .f64 al)).setCell ⟨w.heap.size + 1, 1, none⟩ (.float .f64 ah)) = w5 at *
  have c1 := a1
  have c2 := J.out.kc
  clear a1
  go_wp2_with fail
  refine (cO.out _).mono ?_
  rintro r w9 ⟨rfl, hb⟩
  replace J := Lib.hid (Stood.drew (J.out.below hb))
  clear hb A4 c1 c2
  have k1 : w9.cell? ⟨w.heap.size + 1, 0, none⟩ = _ := J.out.kc 0
  have k2 : w9.cell? ⟨w.heap.size + 1, 1, none⟩ = _ := J.out.kc 1
  go_wp2_with fail
  go_region_held3 (fun w' => w'.cell? ⟨w.heap.size + 1, 0, none⟩ = some (.float .f64 al) ∧ w'.cell? ⟨w.heap.size + 1, 1, none⟩ = some (.float .f64 ah)) (go_keep)
    (first
      | (go_at_call 116; refine (endOf_any _ _ _ _).mono ?_; rintro r w5 ⟨rfl, hb⟩; replace J := Lib.hid (J.out.below hb); clear hb k1 k2; have k1 := J.out.kc 0; have k2 := J.out.kc 1)
      | (go_at_call 104; refine (cX.out _ J.out.pc J.out.pf).mono ?_; rintro r w6 ⟨rfl, hp⟩; have HP := Lib.hid (Put.after J.out.base hp); clear k1 k2; obtain ⟨x1, d1, g1⟩ := hp.block (k := w.heap.size + 1) J.out.kz (by show ¬ pb = w.heap.size + 1; omega) J.out.kc J.out.kf; obtain ⟨x3, d3, g3⟩ := hp.block (k := w.heap.size + 1 + 1) J.out.mz (by show ¬ pb = w.heap.size + 1 + 1; omega) J.out.mc J.out.mf; have k1 := d1 0; have k2 := d1 1; clear hp))
  all_goals go_wp2
  all_goals exact bodyPost_ret (v := .agg #[.float .f64 R.lo, .float .f64 R.hi]) (by simp [results, Try.results52, go_sem, d3]) rfl ⟨rfl, (Below.setCell HP.out (by show _ ≤ w.heap.size + 1 + 1; omega) _).setCell (by show _ ≤ w.heap.size + 1 + 1; omega) _⟩

end Go.Proofs.Ytmcecchcbfhfcaa
