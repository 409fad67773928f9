
/- LambertFalls: for all that it is given. -/
import Derived.Test.YtoocmocaelcbkaaLmF
import Derived.Test.YtoocmocaelcbkaaLmB
namespace Go.Proofs.Ytoocmocaelcbkaa
open Go.RowKit

set_option maxRecDepth 100000 in
theorem lIn_any (al ah bl bh : Nat) (w : World) (o1 : ((FloatKind.f64.format.order bl al == some Ordering.lt) || (FloatKind.f64.format.order bl al == some Ordering.eq)) = true) (o2 : ((FloatKind.f64.format.order ah bh == some Ordering.lt) || (FloatKind.f64.format.order ah bh == some Ordering.eq)) = true) :
    Calls Try.prog 53 #[.agg #[.float .f64 al, .float .f64 ah], .agg #[.float .f64 bl, .float .f64 bh]] w fun r w' => r = .returned (.bool true) ∧ Below w.heap.size w w' := by
  have M := Lib.hid (((Own.nil w).made #[.float .f64 al, .float .f64 ah] 24).made #[.float .f64 bl, .float .f64 bh] 24)
  simp only [World.size_alloc] at M
  obtain ⟨k1, k2⟩ := (M.out.nth 1 rfl).two
  obtain ⟨k3, k4⟩ := (M.out.nth 0 rfl).two
  go_enter Try.func53, Try.ntmps53
  go_wp2
  go_ret
  exact ⟨by rw [← o2]; rfl, M.out.base⟩
theorem lw_in {a A : Res} (i : In a A) (fA : Fit A) (w : World) : Calls Try.prog 53 #[.agg #[.float .f64 a.lo, .float .f64 a.hi], .agg #[.float .f64 A.lo, .float .f64 A.hi]] w fun r w' => r = .returned (.bool true) ∧ Below w.heap.size w w' :=
  lIn_any a.lo a.hi A.lo A.hi w ((order_le A.lo a.lo fA.lo i.fit.lo fA.rlo i.fit.rlo).trans (decide_eq_true i.lo)) ((order_le a.hi A.hi i.fit.hi fA.hi i.fit.rhi fA.rhi).trans (decide_eq_true i.hi))
theorem part7 {a : Res} (i : In a unI) (p q : Nat) (hp : p < 4294967296) (hq : q < 4294967296) :
    ∃ b : Res, In b a ∧ ∀ w, Calls Try.prog 52 #[.float .f64 a.lo, .float .f64 a.hi, .int .u32 p, .int .u32 q] w fun r w' => r = .returned (.agg #[.float .f64 b.lo, .float .f64 b.hi]) ∧ Below w.heap.size w w' := by
  obtain ⟨b, j, s⟩ := span_any a.lo a.hi p q i.fit.lo i.fit.hi i.fit.rlo i.fit.rhi i.nonneg i.fit.le (Int.le_trans i.hi (by decide +kernel)) hp hq
  exact ⟨b, ⟨j.fit, j.lo, j.hi⟩, s⟩
theorem span7 (p q : Nat) (hp : p < 4294967296) (hq : q < 4294967296) :
    ∃ b : Res, In b unI ∧ ∀ w, Calls Try.prog 52 #[.float .f64 0, .float .f64 4607182418800017408, .int .u32 p, .int .u32 q] w fun r w' => r = .returned (.agg #[.float .f64 b.lo, .float .f64 b.hi]) ∧ Below w.heap.size w w' :=
  span_any 0 4607182418800017408 p q (by decide) (by decide) (by decide) (by decide) (by decide +kernel) (by decide +kernel) (by decide +kernel) hp hq
theorem geW_nil {x : Nat} (lx : x < 18446744073709551616) (rx : rightB x = true) (px : 0 ≤ val x) : ((FloatKind.f64.format.order x 0 == some Ordering.gt) || (FloatKind.f64.format.order x 0 == some Ordering.eq)) = true := by
  rw [order_gt x 0 lx (by decide) rx (by decide), order_eq x 0 lx (by decide) rx (by decide), v00]
  by_cases h : 0 < val x
  · rw [decide_eq_true h]; rfl
  · rw [decide_eq_true (by omega : val x = 0), Bool.or_true]

theorem falls_any (u0 u1 u2 u3 v0 v1 v2 v3 : Nat) (w : World) (g0 : u0 < 4294967296) (g1 : u1 < 4294967296) (g2 : u2 < 4294967296) (g3 : u3 < 4294967296) (h0 : v0 < 4294967296) (h1 : v1 < 4294967296) (h2 : v2 < 4294967296) (h3 : v3 < 4294967296) :
    Calls Try.prog 11 #[.agg #[.int .u32 u0, .int .u32 u1, .int .u32 u2, .int .u32 u3], .agg #[.int .u32 v0, .int .u32 v1, .int .u32 v2, .int .u32 v3]] w fun r w' => r = .returned (.bool true) ∧ Below w.heap.size w w' := by
  obtain ⟨a, ia, sa⟩ := span7 u0 u1 g0 g1
  obtain ⟨c, ic, sc⟩ := span7 u2 u3 g2 g3
  obtain ⟨r, jr, sr⟩ := part7 ia v0 v1 h0 h1
  obtain ⟨d, jd, sd⟩ := part7 ic v2 v3 h2 h3
  have ir := jr.trans ia
  have id := jd.trans ic
  have ah := ia.high1.trans ia
  have cl := ic.low1.trans ic
  have ch := ic.high1.trans ic
  obtain ⟨e1, e2⟩ := cap_top ia
  obtain ⟨x1, x2⟩ := cap_ends ah ic
  have fX := cap_fit ah ic
  have m1 := cap_in (.refl ah.fit) ic.low1 ah ic
  have m2 := cap_in (.refl ah.fit) ic.high1 ah ic
  have fg := cap_fit ah cl
  have fm := cap_fit ah ch
  have hb := cap_below ah cl
  have pos : 0 ≤ val (capR a c).lo := by
    have := (cap_in ia ic (.refl un_fit) (.refl un_fit)).lo
    have e : val (capR unI unI).lo = 0 := by decide +kernel
    omega
  have fA := cap_fit ia ic
  exact falls_law (al := a.lo) (ah := a.hi) (cl := c.lo) (ch := c.hi) (rl := r.lo) (rh := r.hi) (dl := d.lo) (dh := d.hi) w
    (c1 := Lib.hid sa) (c2 := Lib.hid sc) (c3 := Lib.hid sr) (c4 := Lib.hid sd)
    (c5 := Lib.hid fun w => cap_any ia ic w) (c6 := Lib.hid fun w => cap_any ir id w) (c7 := Lib.hid fun w => value_any ia w) (c8 := Lib.hid fun w => value_any ir w)
    (c9 := Lib.hid (p7_lit _ (by decide +kernel))) (c10 := Lib.hid (cap_is ia un_one 0 0 e1 e2)) (c11 := Lib.hid fun w => p7_any ia.fit.hi ia.fit.rhi ia.nonneg' w)
    (c12 := Lib.hid fun w => p7_any ic.fit.lo ic.fit.rlo ic.nonneg w) (c13 := Lib.hid fun w => cap_any ah cl w) (c15 := Lib.hid fun w => p7_any ic.fit.hi ic.fit.rhi ic.nonneg' w) (c16 := Lib.hid fun w => cap_any ah ch w)
    (c17 := Lib.hid fun w => lw_in (cap_in jr jd ia ic) fA w) (c18 := Lib.hid fun w => lw_in (value_in jr ia) (value_fit ia) w)
    (e_0_0 := by decide +kernel)
    (o_leqmh_gh := (order_le _ _ fm.hi fg.hi fm.rhi fg.rhi).trans (decide_eq_true (by have h := m2.hi; rw [x2] at h; exact h)))
    (o_leqml_gl := (order_le _ _ fm.lo fg.lo fm.rlo fg.rlo).trans (decide_eq_true (by have h := m1.lo; rw [x1] at h; exact h)))
    (o_leqgh_ah := (order_le _ _ fg.hi ia.fit.hi fg.rhi ia.fit.rhi).trans (decide_eq_true hb))
    (o_geqxl_0 := geW_nil fA.lo fA.rlo pos) (c19 := Lib.hid awake7_any)

end Go.Proofs.Ytoocmocaelcbkaa
