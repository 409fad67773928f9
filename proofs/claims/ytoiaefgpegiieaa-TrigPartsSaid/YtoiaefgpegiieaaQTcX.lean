
/- Package trig: SinCos and what its laws ask: fine, iv, Exact, awake. -/
import Derived.Test.YtoiaefgpegiieaaQTN
import Derived.Test.YtoiaefgpegiieaaQTU
import Derived.Test.YtoiaefgpegiieaaQAwk
namespace Go.Proofs.Ytoiaefgpegiieaa
open Go.RowKit
attribute [local go_sem] run_store_float

theorem sinT0 (s c : Res) : sinT s c 0 = s := rfl
theorem sinT1 (s c : Res) : sinT s c 1 = c := rfl
theorem sinT2 (s c : Res) : sinT s c 2 = negR s := rfl
theorem sinT3 (s c : Res) : sinT s c 3 = negR c := rfl
theorem sinT4 (s c : Res) : sinT s c 4 = s := rfl
theorem cosT0 (s c : Res) : cosT s c 0 = c := rfl
theorem cosT1 (s c : Res) : cosT s c 1 = negR s := rfl
theorem cosT2 (s c : Res) : cosT s c 2 = negR c := rfl
theorem cosT3 (s c : Res) : cosT s c 3 = s := rfl
theorem cosT4 (s c : Res) : cosT s c 4 = c := rfl
theorem at_sin {x j : Nat} {r : Res} (hj : qN x = j) (hr : sinT (sinS (angleR x (qN x))) (cosS (angleR x (qN x))) j = r) : (sinR x).lo = (boundR r).lo ∧ (sinR x).hi = (boundR r).hi := by
  have h : sinR x = boundR r := (congrArg (fun k => boundR (sinT (sinS (angleR x (qN x))) (cosS (angleR x (qN x))) k)) hj).trans (congrArg boundR hr)
  rw [h]; exact ⟨rfl, rfl⟩
theorem at_cos {x j : Nat} {r : Res} (hj : qN x = j) (hr : cosT (sinS (angleR x (qN x))) (cosS (angleR x (qN x))) j = r) : (cosR x).lo = (boundR r).lo ∧ (cosR x).hi = (boundR r).hi := by
  have h : cosR x = boundR r := (congrArg (fun k => boundR (cosT (sinS (angleR x (qN x))) (cosS (angleR x (qN x))) k)) hj).trans (congrArg boundR hr)
  rw [h]; exact ⟨rfl, rfl⟩

theorem bound_call {r : Res} (h : Fit r) : CalcB r.lo r.hi (boundR r).lo (boundR r).hi := fun w => bounded_any r.lo r.hi w h.lo h.hi h.rlo h.rhi

theorem ofNum_any {x : Nat} (h : Turn x) : CalcO x (sinR x).lo (sinR x).hi (cosR x).lo (cosR x).hi := fun pb w hC => by
  have ft := (angle_in h).fit
  have fs := (sinS_in h).fit
  have fk := (cosS_in h).fit
  have f20 : Fit (serR (sqrR (angleR x (qN x))) 20) := (ser_in ok20.1 ok20.2 (square_in h) 9 (by decide)).fit
  refine of_walk x (qN x) (angleR x (qN x)).lo (angleR x (qN x)).hi (serR (sqrR (angleR x (qN x))) 20).lo (serR (sqrR (angleR x (qN x))) 20).hi (sinS (angleR x (qN x))).lo (sinS (angleR x (qN x))).hi (cosS (angleR x (qN x))).lo (cosS (angleR x (qN x))).hi
    (negR (sinS (angleR x (qN x)))).lo (negR (sinS (angleR x (qN x)))).hi (negR (cosS (angleR x (qN x)))).lo (negR (cosS (angleR x (qN x)))).hi
    (boundR (sinS (angleR x (qN x)))).lo (boundR (sinS (angleR x (qN x)))).hi (boundR (cosS (angleR x (qN x)))).lo (boundR (cosS (angleR x (qN x)))).hi
    (boundR (negR (sinS (angleR x (qN x))))).lo (boundR (negR (sinS (angleR x (qN x))))).hi (boundR (negR (cosS (angleR x (qN x))))).lo (boundR (negR (cosS (angleR x (qN x))))).hi
    (sinR x).lo (sinR x).hi (cosR x).lo (cosR x).hi pb w hC (qN_le x)
    (Lib.hid fun w => quarter_any x w h.lt h.right) (Lib.hid fun v hv => angle_any h pb v hv)
    (Lib.hid fun v hv => series_any (m := 20) (Or.inr rfl) ft (square_in h) pb v hv) (Lib.hid (calc_mul ft f20 fs pb)) (Lib.hid fun v hv => series_any (m := 19) (Or.inl rfl) ft (square_in h) pb v hv)
    (Lib.hid (calc_neg fs pb)) (Lib.hid (calc_neg fk pb)) (Lib.hid (bound_call fs)) (Lib.hid (bound_call fk)) (Lib.hid (bound_call (neg_fit fs))) (Lib.hid (bound_call (neg_fit fk))) (Lib.hid ?_)
  have hq := qN_le x
  rcases (show qN x = 0 ∨ qN x = 1 ∨ qN x = 2 ∨ qN x = 3 ∨ qN x = 4 by omega) with g | g | g | g | g
  · exact Or.inl ⟨Or.inl g, (at_sin g (sinT0 _ _)).1, (at_sin g (sinT0 _ _)).2, (at_cos g (cosT0 _ _)).1, (at_cos g (cosT0 _ _)).2⟩
  · exact Or.inr (Or.inl ⟨g, (at_sin g (sinT1 _ _)).1, (at_sin g (sinT1 _ _)).2, (at_cos g (cosT1 _ _)).1, (at_cos g (cosT1 _ _)).2⟩)
  · exact Or.inr (Or.inr (Or.inl ⟨g, (at_sin g (sinT2 _ _)).1, (at_sin g (sinT2 _ _)).2, (at_cos g (cosT2 _ _)).1, (at_cos g (cosT2 _ _)).2⟩))
  · exact Or.inr (Or.inr (Or.inr ⟨g, (at_sin g (sinT3 _ _)).1, (at_sin g (sinT3 _ _)).2, (at_cos g (cosT3 _ _)).1, (at_cos g (cosT3 _ _)).2⟩))
  · exact Or.inl ⟨Or.inr g, (at_sin g (sinT4 _ _)).1, (at_sin g (sinT4 _ _)).2, (at_cos g (cosT4 _ _)).1, (at_cos g (cosT4 _ _)).2⟩

/-- An interval of numbers from 0 to 1. -/
def fineB (al ah : Nat) : Bool := ivR al ah && leB 0 al && leB ah u1
theorem fine_turn {al ah : Nat} (la : al < 18446744073709551616) (ha : ah < 18446744073709551616) (h : fineB al ah = true) : Turn al ∧ Turn ah ∧ ivR al ah = true ∧ val al ≤ val ah := by
  unfold fineB leB at h
  simp only [Bool.and_eq_true, decide_eq_true_eq] at h
  obtain ⟨⟨h1, h2⟩, h3⟩ := h
  obtain ⟨a1, a2, a3⟩ := ivR_parts h1
  rw [val_nil] at h2
  exact ⟨⟨la, a1, h2, Int.le_trans a3 h3⟩, ⟨ha, a2, Int.le_trans h2 a3, h3⟩, h1, a3⟩

theorem hull_call {a b : Res} (fa : Fit a) (fb : Fit b) : CalcH a.lo a.hi b.lo b.hi (hullR a b).lo (hullR a b).hi := fun w => hull_any a.lo a.hi b.lo b.hi w fa.lo fa.hi fb.lo fb.hi fa.rlo fa.rhi fb.rlo fb.rhi

theorem cond_lo (b : Bool) (r s : Res) : (if b then r else s).lo = cond b r.lo s.lo ∧ (if b then r else s).hi = cond b r.hi s.hi := by cases b <;> exact ⟨rfl, rfl⟩

theorem sin_fits {al ah : Nat} (t1 : Turn al) (t2 : Turn ah) : Fit (sin2 al ah) ∧ Fit (sin3 al ah) ∧ Fit (cos2 al ah) := by
  have f2 := hull_fit (sinR_facts t1).1 (sinR_facts t2).1
  refine ⟨f2, ?_, hull_fit (cosR_facts t1).1 (cosR_facts t2).1⟩
  unfold sin3
  cases hasB al ah 4598175219545276416
  · exact f2
  · exact hull_fit f2 u1_fit

theorem sin_any (al ah : Nat) (w : World) (la : al < 18446744073709551616) (ha : ah < 18446744073709551616) (h : fineB al ah = true) :
    Calls Try.prog 13 #[.agg #[.float .f64 al, .float .f64 ah]] w fun r w' => r = .returned (.tuple #[.agg #[.float .f64 (sinU al ah).lo, .float .f64 (sinU al ah).hi], .agg #[.float .f64 (cosU al ah).lo, .float .f64 (cosU al ah).hi], .int .i64 0]) ∧ Below w.heap.size w w' := by
  obtain ⟨t1, t2, hr, hle⟩ := fine_turn la ha h
  obtain ⟨f2, f3, g2⟩ := sin_fits t1 t2
  have cR := fun w => ivRight_any al ah w la ha
  rw [hr] at cR
  have o1 : (FloatKind.f64.format.order al 0 == some Ordering.lt) = false := by
    rw [lt_zero al la t1.right]; unfold ltB; rw [val_nil]; have := t1.lo; exact decide_eq_false (by omega)
  have o2 : (FloatKind.f64.format.order ah 4607182418800017408 == some Ordering.gt) = false := by
    rw [order_gt ah _ ha (by decide) t2.right (by decide)]; have := t2.hi; exact decide_eq_false (by show ¬ val u1 < val ah; omega)
  exact sin_walk al ah (sinR al).lo (sinR al).hi (cosR al).lo (cosR al).hi (sinR ah).lo (sinR ah).hi (cosR ah).lo (cosR ah).hi (sin2 al ah).lo (sin2 al ah).hi (cos2 al ah).lo (cos2 al ah).hi (sin3 al ah).lo (sin3 al ah).hi (sinU al ah).lo (sinU al ah).hi
    (hullR (sin2 al ah) (oneR u1)).lo (hullR (sin2 al ah) (oneR u1)).hi (hullR (sin3 al ah) (oneR m1)).lo (hullR (sin3 al ah) (oneR m1)).hi (hullR (cos2 al ah) (oneR m1)).lo (hullR (cos2 al ah) (oneR m1)).hi
    (hasB al ah 4598175219545276416) (hasB al ah 4604930618986332160) (hasB al ah 4602678819172646912) w (Lib.hid cR) o1 o2 (Lib.hid (ofNum_any t1)) (Lib.hid (ofNum_any t2))
    (Lib.hid (hull_call (sinR_facts t1).1 (sinR_facts t2).1)) (Lib.hid (hull_call (cosR_facts t1).1 (cosR_facts t2).1))
    (Lib.hid fun w => has_any al ah _ w la ha) (Lib.hid fun w => has_any al ah _ w la ha) (Lib.hid fun w => has_any al ah _ w la ha)
    (Lib.hid fun pb => calc_num u1_fit pb) (Lib.hid fun pb => calc_num m1_fit pb)
    (Lib.hid (hull_call f2 u1_fit)) (Lib.hid (hull_call f3 m1_fit)) (Lib.hid (hull_call g2 m1_fit))
    (Lib.hid (cond_lo _ _ _)) (Lib.hid (cond_lo _ _ _)) (cosU al ah).lo (cosU al ah).hi (Lib.hid (cond_lo _ _ _))

set_option maxRecDepth 100000 in
set_option maxHeartbeats 1000000 in
theorem sin_refused (al ah : Nat) (w : World) (r l g : Bool)
    (cR : Hid (∀ w, Calls Try.prog 48 #[.agg #[.float .f64 al, .float .f64 ah]] w fun e w' => e = .returned (.bool r) ∧ Below w.heap.size w w'))
    (o1 : (FloatKind.f64.format.order al 0 == some Ordering.lt) = l) (o2 : (FloatKind.f64.format.order ah 4607182418800017408 == some Ordering.gt) = g) (h : Hid (r = false ∨ l = true ∨ g = true)) :
    Calls Try.prog 13 #[.agg #[.float .f64 al, .float .f64 ah]] w fun r w' => r = .returned (.tuple #[.agg #[.float .f64 0, .float .f64 0], .agg #[.float .f64 0, .float .f64 0], .int .i64 2]) ∧ Below w.heap.size w w' := by
  have M : Hid (Mem w [(w.heap.size + 1 + 1, #[.float .f64 0, .float .f64 0]), (w.heap.size + 1, #[.float .f64 0, .float .f64 0]), (w.heap.size, #[.float .f64 al, .float .f64 ah])] (((w.alloc (.cells #[.float .f64 al, .float .f64 ah] 24)).alloc (.cells #[.float .f64 0, .float .f64 0] 24)).alloc (.cells #[.float .f64 0, .float .f64 0] 24))) := by
    have h := (((Mem.nil w).made #[.float .f64 al, .float .f64 ah] 24).made #[.float .f64 0, .float .f64 0] 24).made #[.float .f64 0, .float .f64 0] 24
    simp only [World.size_alloc] at h
    exact Lib.hid h
  obtain ⟨k1, k2⟩ := (M.out.nth 2 rfl).two
  go_enter Try.func13, Try.ntmps13
  go_wp2_with fail
  refine (cR.out _).mono ?_
  rintro e w1 ⟨rfl, hb⟩
  replace M := Lib.hid (M.out.below hb)
  clear hb k1 k2 cR
  obtain ⟨k1, k2⟩ := (M.out.nth 2 rfl).two
  have k3 := (M.out.nth 0 rfl).2.1
  have k4 := (M.out.nth 0 rfl).2.2
  have k5 := (M.out.nth 1 rfl).2.1
  have k6 := (M.out.nth 1 rfl).2.2
  have M1 := Lib.hid (M.out.sets (M.out.nth 1 rfl) (.float .f64 0) (.float .f64 0) (by simp) [(w.heap.size + 1, #[.float .f64 0, .float .f64 0]), (w.heap.size + 1 + 1, #[.float .f64 0, .float .f64 0])] (by simp))
  have M2 := Lib.hid (M1.out.sets (M1.out.nth 1 rfl) (.float .f64 0) (.float .f64 0) (by omega) [(w.heap.size + 1, #[.float .f64 0, .float .f64 0]), (w.heap.size + 1 + 1, #[.float .f64 0, .float .f64 0])] (by simp))
  have f1 := (M2.out.nth 0 rfl).2.1
  have g1 := (M2.out.nth 1 rfl).2.1
  cases r
  · clear h
    go_wp2
    exact bodyPost_ret (v := .tuple #[.agg #[.float .f64 0, .float .f64 0], .agg #[.float .f64 0, .float .f64 0], .int .i64 2]) (by simp [results, Try.results13, go_sem, f1, g1]) rfl ⟨rfl, M2.out.base⟩
  · cases l
    · have hg : g = true := by rcases h.out with h | h | h <;> first | exact h | cases h
      subst hg
      clear h
      go_wp2
      exact bodyPost_ret (v := .tuple #[.agg #[.float .f64 0, .float .f64 0], .agg #[.float .f64 0, .float .f64 0], .int .i64 2]) (by simp [results, Try.results13, go_sem, f1, g1]) rfl ⟨rfl, M2.out.base⟩
    · clear h
      go_wp2
      exact bodyPost_ret (v := .tuple #[.agg #[.float .f64 0, .float .f64 0], .agg #[.float .f64 0, .float .f64 0], .int .i64 2]) (by simp [results, Try.results13, go_sem, f1, g1]) rfl ⟨rfl, M2.out.base⟩

theorem fine_parts (al ah : Nat) (la : al < 18446744073709551616) (ha : ah < 18446744073709551616) (h : fineB al ah = false) : ivR al ah = false ∨ (FloatKind.f64.format.order al 0 == some Ordering.lt) = true ∨ (FloatKind.f64.format.order ah 4607182418800017408 == some Ordering.gt) = true := by
  cases hr : ivR al ah
  · exact Or.inl rfl
  · obtain ⟨a1, a2, a3⟩ := ivR_parts hr
    right
    rw [lt_zero al la a1, order_gt ah _ ha (by decide) a2 (by decide)]
    unfold fineB leB at h
    rw [hr, val_nil] at h
    unfold ltB
    rw [val_nil]
    by_cases h1 : val al < 0
    · exact Or.inl (decide_eq_true h1)
    · right
      rw [decide_eq_true (show 0 ≤ val al by omega)] at h
      have h2 : ¬ val ah ≤ val u1 := by simpa using h
      exact decide_eq_true (by show val u1 < val ah; omega)

theorem sin_bad (al ah : Nat) (w : World) (la : al < 18446744073709551616) (ha : ah < 18446744073709551616) (h : fineB al ah = false) :
    Calls Try.prog 13 #[.agg #[.float .f64 al, .float .f64 ah]] w fun r w' => r = .returned (.tuple #[.agg #[.float .f64 0, .float .f64 0], .agg #[.float .f64 0, .float .f64 0], .int .i64 2]) ∧ Below w.heap.size w w' :=
  sin_refused al ah w _ _ _ (Lib.hid fun w => ivRight_any al ah w la ha) rfl rfl (Lib.hid (fine_parts al ah la ha h))

theorem iv4_any (a b : Nat) (w : World) :
    Calls Try.prog 14 #[.float .f64 a, .float .f64 b] w fun r w' => r = .returned (.agg #[.float .f64 a, .float .f64 b]) ∧ Below w.heap.size w w' := by
  go_enter Try.func14, Try.ntmps14
  go_wp2
  exact bodyPost_ret (v := .agg #[.float .f64 a, .float .f64 b]) (by simp [results, Try.results14, go_sem]) rfl ⟨rfl, bel1 _ _⟩

theorem fine_walk (al ah : Nat) (w : World) (r l g : Bool)
    (cR : Hid (∀ w, Calls Try.prog 48 #[.agg #[.float .f64 al, .float .f64 ah]] w fun e w' => e = .returned (.bool r) ∧ Below w.heap.size w w'))
    (o1 : r = true → ((FloatKind.f64.format.order al 0 == some Ordering.gt) || (FloatKind.f64.format.order al 0 == some Ordering.eq)) = l) (o2 : r = true → ((FloatKind.f64.format.order ah 4607182418800017408 == some Ordering.lt) || (FloatKind.f64.format.order ah 4607182418800017408 == some Ordering.eq)) = g) :
    Calls Try.prog 10 #[.agg #[.float .f64 al, .float .f64 ah]] w fun e w' => e = .returned (.bool (r && l && g)) ∧ Below w.heap.size w w' := by
  have M := Lib.hid ((Mem.nil w).made #[.float .f64 al, .float .f64 ah] 24)
  cases r
  · clear o1 o2
    go_enter Try.func10, Try.ntmps10
    go_wp2_with fail
    refine (cR.out _).mono ?_
    rintro e w1 ⟨rfl, hb⟩
    replace M := Lib.hid (M.out.below hb)
    clear hb
    go_wp2
    go_ret
    exact ⟨rfl, M.out.base⟩
  · have p1 := o1 rfl
    have p2 := o2 rfl
    clear o1 o2
    go_enter Try.func10, Try.ntmps10
    go_wp2_with fail
    refine (cR.out _).mono ?_
    rintro e w1 ⟨rfl, hb⟩
    replace M := Lib.hid (M.out.below hb)
    clear hb
    obtain ⟨k1, k2⟩ := (M.out.nth 0 rfl).two
    cases l
    · go_wp2
      go_ret
      exact ⟨rfl, M.out.base⟩
    · go_wp2
      go_ret
      exact ⟨rfl, M.out.base⟩

theorem fine_any (al ah : Nat) (w : World) (la : al < 18446744073709551616) (ha : ah < 18446744073709551616) :
    Calls Try.prog 10 #[.agg #[.float .f64 al, .float .f64 ah]] w fun e w' => e = .returned (.bool (fineB al ah)) ∧ Below w.heap.size w w' :=
  fine_walk al ah w (ivR al ah) (leB 0 al) (leB ah u1) (Lib.hid fun w => ivRight_any al ah w la ha) (fun h => ge_zero al la (ivR_parts h).1) (fun h => order_le ah u1 ha (by decide) (ivR_parts h).2.1 (by decide))

end Go.Proofs.Ytoiaefgpegiieaa

namespace Go.Proofs.Ytoiaefgpegiieaa
open Go.RowKit
attribute [local go_sem] run_store_float

/-- A number whose sine and cosine are just these. -/
def exB (x s c : Nat) : Bool := fineB x x && decide ((sinU x x).lo = s) && decide ((sinU x x).hi = s) && decide ((cosU x x).lo = c) && decide ((cosU x x).hi = c)
theorem ex_all : (exB 0 0 u1 && exB 4598175219545276416 u1 0 && exB 4602678819172646912 0 m1 && exB 4604930618986332160 m1 0 && exB u1 0 u1) = true := by decide +kernel

set_option maxRecDepth 100000 in
set_option maxHeartbeats 2000000 in
theorem exact_walk (x s c : Nat) (w : World) (cS : Hid (∀ w, Calls Try.prog 13 #[.agg #[.float .f64 x, .float .f64 x]] w fun r w' => r = .returned (.tuple #[.agg #[.float .f64 s, .float .f64 s], .agg #[.float .f64 c, .float .f64 c], .int .i64 0]) ∧ Below w.heap.size w w')) :
    Calls Try.prog 49 #[.float .f64 x, .float .f64 s, .float .f64 c] w fun r w' => r = .returned (.bool true) ∧ Below w.heap.size w w' := by
  go_enter Try.func49, Try.ntmps49
  go_wp2_with fail
  refine (iv4_any _ _ _).mono ?_
  rintro r w1 ⟨rfl, hb⟩
  have M0 := Lib.hid ((Mem.nil w).below hb)
  clear hb
  go_wp2_with fail
  refine (cS.out _).mono ?_
  rintro r w2 ⟨rfl, hb⟩
  have M : Hid (Mem w [(w2.heap.size + 1, #[.float .f64 c, .float .f64 c]), (w2.heap.size, #[.float .f64 s, .float .f64 s])] ((w2.alloc (.cells #[.float .f64 s, .float .f64 s] 24)).alloc (.cells #[.float .f64 c, .float .f64 c] 24))) := by
    have h := ((M0.out.below hb).made #[.float .f64 s, .float .f64 s] 24).made #[.float .f64 c, .float .f64 c] 24
    simp only [World.size_alloc] at h
    exact Lib.hid h
  clear hb M0
  go_upto_region 2 with fail
  obtain ⟨k1, k2⟩ := (M.out.nth 1 rfl).two
  obtain ⟨k3, k4⟩ := (M.out.nth 0 rfl).two
  go_region_held3 (fun w' => w'.cell? ⟨w2.heap.size, 0, none⟩ = some (.float .f64 s) ∧ w'.cell? ⟨w2.heap.size, 1, none⟩ = some (.float .f64 s) ∧ w'.cell? ⟨w2.heap.size + 1, 0, none⟩ = some (.float .f64 c) ∧ w'.cell? ⟨w2.heap.size + 1, 1, none⟩ = some (.float .f64 c)) (((try dsimp only); (repeat' apply And.intro); all_goals (repeat (first | (with_reducible assumption) | ((with_reducible refine keep_undrew ?_); (with_reducible assumption)) | (with_reducible refine keep_drew ?_) | (with_reducible refine keep_alloc _ ?_) | (with_reducible refine keep_set _ (by first | (with_reducible assumption) | omega) ?_)))))
    (first
      | (go_at_call 14; (with_reducible refine (iv4_any _ _ _).mono ?_); rintro rr w7 ⟨rfl, hb⟩; (with_reducible have M' := Lib.hid ((M.out).below hb)); clear M hb k1 k2 k3 k4; have M := M'; clear M'; obtain ⟨k1, k2⟩ := (M.out.nth 1 rfl).two; obtain ⟨k3, k4⟩ := (M.out.nth 0 rfl).two)
      | (go_at_call 14; (with_reducible refine (iv4_any _ _ _).mono ?_); rintro rr w7 ⟨rfl, hb⟩; (with_reducible have M' := Lib.hid ((M.out.drew).below hb)); clear M hb k1 k2 k3 k4; have M := M'; clear M'; obtain ⟨k1, k2⟩ := (M.out.nth 1 rfl).two; obtain ⟨k3, k4⟩ := (M.out.nth 0 rfl).two)
      | (go_at_call 50; (with_reducible refine (l_same _ _ _).mono ?_); rintro rr w7 ⟨rfl, hb⟩; (with_reducible have M' := Lib.hid ((M.out).below hb)); clear M hb k1 k2 k3 k4; have M := M'; clear M'; obtain ⟨k1, k2⟩ := (M.out.nth 1 rfl).two; obtain ⟨k3, k4⟩ := (M.out.nth 0 rfl).two)
      | (go_at_call 50; (with_reducible refine (l_same _ _ _).mono ?_); rintro rr w7 ⟨rfl, hb⟩; (with_reducible have M' := Lib.hid ((M.out.drew).below hb)); clear M hb k1 k2 k3 k4; have M := M'; clear M'; obtain ⟨k1, k2⟩ := (M.out.nth 1 rfl).two; obtain ⟨k3, k4⟩ := (M.out.nth 0 rfl).two))
  go_wp2
  go_ret
  exact ⟨rfl, M.out.base⟩

theorem exact_any {x s c : Nat} (lx : x < 18446744073709551616) (h : exB x s c = true) (w : World) : Calls Try.prog 49 #[.float .f64 x, .float .f64 s, .float .f64 c] w fun r w' => r = .returned (.bool true) ∧ Below w.heap.size w w' := by
  unfold exB at h
  simp only [Bool.and_eq_true, decide_eq_true_eq] at h
  obtain ⟨⟨⟨⟨h0, h1⟩, h2⟩, h3⟩, h4⟩ := h
  have cS := fun w => sin_any x x w lx lx h0
  rw [h1, h2, h3, h4] at cS
  exact exact_walk x s c w (Lib.hid cS)

theorem ex_parts : exB 0 0 4607182418800017408 = true ∧ exB 4598175219545276416 4607182418800017408 0 = true ∧ exB 4602678819172646912 0 13830554455654793216 = true ∧ exB 4604930618986332160 13830554455654793216 0 = true ∧ exB 4607182418800017408 0 4607182418800017408 = true := by
  have h := ex_all
  simp only [Bool.and_eq_true] at h
  exact ⟨h.1.1.1.1, h.1.1.1.2, h.1.1.2, h.1.2, h.2⟩
theorem exact_0 (w : World) : Calls Try.prog 49 #[.float .f64 0, .float .f64 0, .float .f64 4607182418800017408] w fun r w' => r = .returned (.bool true) ∧ Below w.heap.size w w' := exact_any (x := 0) (s := 0) (c := 4607182418800017408) (by decide) ex_parts.1 w
theorem exact_1 (w : World) : Calls Try.prog 49 #[.float .f64 4598175219545276416, .float .f64 4607182418800017408, .float .f64 0] w fun r w' => r = .returned (.bool true) ∧ Below w.heap.size w w' := exact_any (x := 4598175219545276416) (s := 4607182418800017408) (c := 0) (by decide) ex_parts.2.1 w
theorem exact_2 (w : World) : Calls Try.prog 49 #[.float .f64 4602678819172646912, .float .f64 0, .float .f64 13830554455654793216] w fun r w' => r = .returned (.bool true) ∧ Below w.heap.size w w' := exact_any (x := 4602678819172646912) (s := 0) (c := 13830554455654793216) (by decide) ex_parts.2.2.1 w
theorem exact_3 (w : World) : Calls Try.prog 49 #[.float .f64 4604930618986332160, .float .f64 13830554455654793216, .float .f64 0] w fun r w' => r = .returned (.bool true) ∧ Below w.heap.size w w' := exact_any (x := 4604930618986332160) (s := 13830554455654793216) (c := 0) (by decide) ex_parts.2.2.2.1 w
theorem exact_4 (w : World) : Calls Try.prog 49 #[.float .f64 4607182418800017408, .float .f64 0, .float .f64 4607182418800017408] w fun r w' => r = .returned (.bool true) ∧ Below w.heap.size w w' := exact_any (x := 4607182418800017408) (s := 0) (c := 4607182418800017408) (by decide) ex_parts.2.2.2.2 w

theorem aw_vals : (fineB 0 4607182418800017408 && decide ((sinU 0 4607182418800017408).lo = 13830554455654793216) && decide ((sinU 0 4607182418800017408).hi = 4607182418800017408) && decide ((cosU 0 4607182418800017408).lo = 13830554455654793216) && decide ((cosU 0 4607182418800017408).hi = 4607182418800017408)) = true := by decide +kernel
theorem aw_vals2 : (fineB 4591870180066957722 4599075939470750515 && decide ((sinU 4591870180066957722 4599075939470750515).lo = 4603469518431672925) && decide ((sinU 4591870180066957722 4599075939470750515).hi = 4607182418800017408) && decide ((cosU 4591870180066957722 4599075939470750515).lo = 13822610412055554384) && decide ((cosU 4591870180066957722 4599075939470750515).hi = 4605462196814083241)) = true := by decide +kernel
theorem aw_sin1 (w : World) : Calls Try.prog 13 #[.agg #[.float .f64 0, .float .f64 4607182418800017408]] w fun r w' => r = .returned (.tuple #[.agg #[.float .f64 13830554455654793216, .float .f64 4607182418800017408], .agg #[.float .f64 13830554455654793216, .float .f64 4607182418800017408], .int .i64 0]) ∧ Below w.heap.size w w' := by
  have h := aw_vals
  simp only [Bool.and_eq_true, decide_eq_true_eq] at h
  obtain ⟨⟨⟨⟨h0, h1⟩, h2⟩, h3⟩, h4⟩ := h
  have c := sin_any 0 4607182418800017408 w (by decide) (by decide) h0
  rw [h1, h2, h3, h4] at c
  exact c
theorem aw_sin2 (w : World) : Calls Try.prog 13 #[.agg #[.float .f64 4591870180066957722, .float .f64 4599075939470750515]] w fun r w' => r = .returned (.tuple #[.agg #[.float .f64 4603469518431672925, .float .f64 4607182418800017408], .agg #[.float .f64 13822610412055554384, .float .f64 4605462196814083241], .int .i64 0]) ∧ Below w.heap.size w w' := by
  have h := aw_vals2
  simp only [Bool.and_eq_true, decide_eq_true_eq] at h
  obtain ⟨⟨⟨⟨h0, h1⟩, h2⟩, h3⟩, h4⟩ := h
  have c := sin_any 4591870180066957722 4599075939470750515 w (by decide) (by decide) h0
  rw [h1, h2, h3, h4] at c
  exact c
theorem aw_sin3 (w : World) : Calls Try.prog 13 #[.agg #[.float .f64 4602678819172646912, .float .f64 4609434218613702656]] w fun r w' => r = .returned (.tuple #[.agg #[.float .f64 0, .float .f64 0], .agg #[.float .f64 0, .float .f64 0], .int .i64 2]) ∧ Below w.heap.size w w' :=
  sin_bad _ _ w (by decide) (by decide) (by decide +kernel)

set_option maxRecDepth 100000 in
set_option maxHeartbeats 8000000 in
theorem awake4_any (w : World) : Calls Try.prog 11 #[] w fun r w' => r = .returned (.bool true) ∧ Below w.heap.size w w' := by
  have o1 : (FloatKind.f64.format.order 4607182418800017408 4607182418800017408 == some Ordering.eq) = true := by decide +kernel
  have o2 : (FloatKind.f64.format.order 4603469518431672925 4603399395113026191 == some Ordering.gt) = true := by decide +kernel
  have o3 : (FloatKind.f64.format.order 13822610412055554384 0 == some Ordering.lt) = true := by decide +kernel
  have o4 : (FloatKind.f64.format.order 4605462196814083241 0 == some Ordering.gt) = true := by decide +kernel
  go_enter Try.func11, Try.ntmps11
  go_wp2_with fail
  refine (iv4_any _ _ _).mono ?_
  rintro r w1 ⟨rfl, hb⟩
  have M := Lib.hid ((Mem.nil w).below hb)
  clear hb
  go_wp2_with fail
  refine (aw_sin1 _).mono ?_
  rintro r w2 ⟨rfl, hb⟩
  replace M : Hid (Mem w [(w2.heap.size + 1, #[.float .f64 13830554455654793216, .float .f64 4607182418800017408]), (w2.heap.size, #[.float .f64 13830554455654793216, .float .f64 4607182418800017408])] ((w2.alloc (.cells #[.float .f64 13830554455654793216, .float .f64 4607182418800017408] 24)).alloc (.cells #[.float .f64 13830554455654793216, .float .f64 4607182418800017408] 24))) := by
    have h := ((M.out.below hb).made #[.float .f64 13830554455654793216, .float .f64 4607182418800017408] 24).made #[.float .f64 13830554455654793216, .float .f64 4607182418800017408] 24
    simp only [World.size_alloc] at h
    exact Lib.hid h
  clear hb
  go_wp2_with fail
  refine (iv4_any _ _ _).mono ?_
  rintro r w3 ⟨rfl, hb⟩
  replace M := Lib.hid (M.out.below hb)
  clear hb
  go_wp2_with fail
  refine (aw_sin2 _).mono ?_
  rintro r w4 ⟨rfl, hb⟩
  replace M : Hid (Mem w [(w4.heap.size + 1, #[.float .f64 13822610412055554384, .float .f64 4605462196814083241]), (w4.heap.size, #[.float .f64 4603469518431672925, .float .f64 4607182418800017408]), (w2.heap.size + 1, #[.float .f64 13830554455654793216, .float .f64 4607182418800017408]), (w2.heap.size, #[.float .f64 13830554455654793216, .float .f64 4607182418800017408])] ((w4.alloc (.cells #[.float .f64 4603469518431672925, .float .f64 4607182418800017408] 24)).alloc (.cells #[.float .f64 13822610412055554384, .float .f64 4605462196814083241] 24))) := by
    have h := ((M.out.below hb).made #[.float .f64 4603469518431672925, .float .f64 4607182418800017408] 24).made #[.float .f64 13822610412055554384, .float .f64 4605462196814083241] 24
    simp only [World.size_alloc] at h
    exact Lib.hid h
  clear hb
  go_wp2_with fail
  refine (iv4_any _ _ _).mono ?_
  rintro r w5 ⟨rfl, hb⟩
  replace M := Lib.hid (M.out.below hb)
  clear hb
  go_wp2_with fail
  refine (aw_sin3 _).mono ?_
  rintro r w6 ⟨rfl, hb⟩
  replace M : Hid (Mem w [(w4.heap.size + 1, #[.float .f64 13822610412055554384, .float .f64 4605462196814083241]), (w4.heap.size, #[.float .f64 4603469518431672925, .float .f64 4607182418800017408]), (w2.heap.size + 1, #[.float .f64 13830554455654793216, .float .f64 4607182418800017408]), (w2.heap.size, #[.float .f64 13830554455654793216, .float .f64 4607182418800017408])] ((w6.alloc (.cells #[.float .f64 0, .float .f64 0] 24)).alloc (.cells #[.float .f64 0, .float .f64 0] 24))) := Lib.hid ((((M.out.below hb).made #[.float .f64 0, .float .f64 0] 24).made #[.float .f64 0, .float .f64 0] 24).sub (by simp))
  clear hb
  go_upto_region 4 with fail
  obtain ⟨k1, k2⟩ := (M.out.nth 3 rfl).two
  obtain ⟨k3, k4⟩ := (M.out.nth 2 rfl).two
  obtain ⟨k5, k6⟩ := (M.out.nth 1 rfl).two
  obtain ⟨k7, k8⟩ := (M.out.nth 0 rfl).two
  go_region_held3 (fun w' => w'.cell? ⟨w2.heap.size, 0, none⟩ = some (.float .f64 13830554455654793216) ∧ w'.cell? ⟨w2.heap.size, 1, none⟩ = some (.float .f64 4607182418800017408) ∧ w'.cell? ⟨w2.heap.size + 1, 0, none⟩ = some (.float .f64 13830554455654793216) ∧ w'.cell? ⟨w2.heap.size + 1, 1, none⟩ = some (.float .f64 4607182418800017408) ∧ w'.cell? ⟨w4.heap.size, 0, none⟩ = some (.float .f64 4603469518431672925) ∧ w'.cell? ⟨w4.heap.size, 1, none⟩ = some (.float .f64 4607182418800017408) ∧ w'.cell? ⟨w4.heap.size + 1, 0, none⟩ = some (.float .f64 13822610412055554384) ∧ w'.cell? ⟨w4.heap.size + 1, 1, none⟩ = some (.float .f64 4605462196814083241)) (((try dsimp only); (repeat' apply And.intro); all_goals (repeat (first | (with_reducible assumption) | ((with_reducible refine keep_undrew ?_); (with_reducible assumption)) | (with_reducible refine keep_drew ?_) | (with_reducible refine keep_alloc _ ?_) | (with_reducible refine keep_set _ (by first | (with_reducible assumption) | omega) ?_)))))
    (first
      | (go_at_call 49; (with_reducible refine (exact_0 _).mono ?_); rintro rr w7 ⟨rfl, hb⟩; (with_reducible have M' := Lib.hid ((M.out).below hb)); clear M hb k1 k2 k3 k4 k5 k6 k7 k8; have M := M'; clear M'; obtain ⟨k1, k2⟩ := (M.out.nth 3 rfl).two; obtain ⟨k3, k4⟩ := (M.out.nth 2 rfl).two; obtain ⟨k5, k6⟩ := (M.out.nth 1 rfl).two; obtain ⟨k7, k8⟩ := (M.out.nth 0 rfl).two)
      | (go_at_call 49; (with_reducible refine (exact_0 _).mono ?_); rintro rr w7 ⟨rfl, hb⟩; (with_reducible have M' := Lib.hid ((M.out.drew).below hb)); clear M hb k1 k2 k3 k4 k5 k6 k7 k8; have M := M'; clear M'; obtain ⟨k1, k2⟩ := (M.out.nth 3 rfl).two; obtain ⟨k3, k4⟩ := (M.out.nth 2 rfl).two; obtain ⟨k5, k6⟩ := (M.out.nth 1 rfl).two; obtain ⟨k7, k8⟩ := (M.out.nth 0 rfl).two)
      | (go_at_call 49; (with_reducible refine (exact_1 _).mono ?_); rintro rr w7 ⟨rfl, hb⟩; (with_reducible have M' := Lib.hid ((M.out).below hb)); clear M hb k1 k2 k3 k4 k5 k6 k7 k8; have M := M'; clear M'; obtain ⟨k1, k2⟩ := (M.out.nth 3 rfl).two; obtain ⟨k3, k4⟩ := (M.out.nth 2 rfl).two; obtain ⟨k5, k6⟩ := (M.out.nth 1 rfl).two; obtain ⟨k7, k8⟩ := (M.out.nth 0 rfl).two)
      | (go_at_call 49; (with_reducible refine (exact_1 _).mono ?_); rintro rr w7 ⟨rfl, hb⟩; (with_reducible have M' := Lib.hid ((M.out.drew).below hb)); clear M hb k1 k2 k3 k4 k5 k6 k7 k8; have M := M'; clear M'; obtain ⟨k1, k2⟩ := (M.out.nth 3 rfl).two; obtain ⟨k3, k4⟩ := (M.out.nth 2 rfl).two; obtain ⟨k5, k6⟩ := (M.out.nth 1 rfl).two; obtain ⟨k7, k8⟩ := (M.out.nth 0 rfl).two)
      | (go_at_call 14; (with_reducible refine (iv4_any _ _ _).mono ?_); rintro rr w7 ⟨rfl, hb⟩; (with_reducible have M' := Lib.hid ((M.out).below hb)); clear M hb k1 k2 k3 k4 k5 k6 k7 k8; have M := M'; clear M'; obtain ⟨k1, k2⟩ := (M.out.nth 3 rfl).two; obtain ⟨k3, k4⟩ := (M.out.nth 2 rfl).two; obtain ⟨k5, k6⟩ := (M.out.nth 1 rfl).two; obtain ⟨k7, k8⟩ := (M.out.nth 0 rfl).two)
      | (go_at_call 14; (with_reducible refine (iv4_any _ _ _).mono ?_); rintro rr w7 ⟨rfl, hb⟩; (with_reducible have M' := Lib.hid ((M.out.drew).below hb)); clear M hb k1 k2 k3 k4 k5 k6 k7 k8; have M := M'; clear M'; obtain ⟨k1, k2⟩ := (M.out.nth 3 rfl).two; obtain ⟨k3, k4⟩ := (M.out.nth 2 rfl).two; obtain ⟨k5, k6⟩ := (M.out.nth 1 rfl).two; obtain ⟨k7, k8⟩ := (M.out.nth 0 rfl).two)
      | (go_at_call 50; (with_reducible refine (l_same _ _ _).mono ?_); rintro rr w7 ⟨rfl, hb⟩; (with_reducible have M' := Lib.hid ((M.out).below hb)); clear M hb k1 k2 k3 k4 k5 k6 k7 k8; have M := M'; clear M'; obtain ⟨k1, k2⟩ := (M.out.nth 3 rfl).two; obtain ⟨k3, k4⟩ := (M.out.nth 2 rfl).two; obtain ⟨k5, k6⟩ := (M.out.nth 1 rfl).two; obtain ⟨k7, k8⟩ := (M.out.nth 0 rfl).two)
      | (go_at_call 50; (with_reducible refine (l_same _ _ _).mono ?_); rintro rr w7 ⟨rfl, hb⟩; (with_reducible have M' := Lib.hid ((M.out.drew).below hb)); clear M hb k1 k2 k3 k4 k5 k6 k7 k8; have M := M'; clear M'; obtain ⟨k1, k2⟩ := (M.out.nth 3 rfl).two; obtain ⟨k3, k4⟩ := (M.out.nth 2 rfl).two; obtain ⟨k5, k6⟩ := (M.out.nth 1 rfl).two; obtain ⟨k7, k8⟩ := (M.out.nth 0 rfl).two))
  go_wp2
  go_ret
  exact ⟨rfl, M.out.base⟩

end Go.Proofs.Ytoiaefgpegiieaa
