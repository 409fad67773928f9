
/- FresnelNormal: for all that it is given. -/
import Derived.Test.YtoocmocaelcbkaaFnL
import Derived.Test.YtoocmocaelcbkaaQFN
namespace Go.Proofs.Ytoocmocaelcbkaa
open Go.RowKit

theorem sub_small {a b y0 : Nat} (ha : a < 18446744073709551616) (hb : b < 18446744073709551616) (ra : rightB a = true) (rb : rightB b = true) (pb : 0 ≤ val b) (hab : val b ≤ val a) (ly : y0 < 18446744073709551616) (ry : rightB y0 = true) (hy : val a - val b ≤ val y0) :
    ∃ r, floatBits .sub .f64 a b = some r ∧ r < 18446744073709551616 ∧ rightB r = true ∧ 0 ≤ val r ∧ val r ≤ val y0 := by
  have z0 : val 0 = 0 := by decide +kernel
  obtain ⟨r, h1, h2, h3, h4, h5⟩ := sub_near ha hb ra rb pb hab
  obtain ⟨r', k1, k2⟩ := sub_beside a b ha hb ra rb
  obtain rfl : r = r' := by
    have : some r = some r' := h1.symm.trans k1
    simpa using this
  obtain ⟨n1, n2, n3, n4⟩ := near_between (x0 := 0) (y0 := y0) (by decide) (sub_down a b ra rb) (sub_up a b ra rb) k2 (by decide) (by decide) (by rw [z0]; omega) ly ry (by omega)
  exact ⟨r, h1, h2, h3, h4, n4⟩
theorem add_nil6 {x : Nat} (lx : x < 18446744073709551616) (rx : rightB x = true) (px : 0 ≤ val x) : floatBits .add .f64 x 0 = some x := by
  have z0 : val 0 = 0 := by decide +kernel
  obtain ⟨r, h1, h2, h3, h4, h5⟩ := add_near lx (by decide : (0 : Nat) < 18446744073709551616) rx (by decide) px (by rw [z0]; exact Int.le_refl _) (y0 := x) lx rx (by rw [z0]; omega)
  rw [h1, val_inj h2 lx h3 rx (Int.le_antisymm h5 h4)]
set_option maxRecDepth 100000 in
theorem lMeets6_any (al ah bl bh : Nat) (w : World) (o1 : ((FloatKind.f64.format.order al bh == some Ordering.lt) || (FloatKind.f64.format.order al bh == some Ordering.eq)) = true) (o2 : ((FloatKind.f64.format.order bl ah == some Ordering.lt) || (FloatKind.f64.format.order bl ah == some Ordering.eq)) = true) :
    Calls Try.prog 43 #[.agg #[.float .f64 al, .float .f64 ah], .agg #[.float .f64 bl, .float .f64 bh]] w fun r w' => r = .returned (.bool true) ∧ Below w.heap.size w w' := by
  have M := Lib.hid (((Own.nil w).made #[.float .f64 al, .float .f64 ah] 24).made #[.float .f64 bl, .float .f64 bh] 24)
  simp only [World.size_alloc] at M
  obtain ⟨k1, k2⟩ := (M.out.nth 1 rfl).two
  obtain ⟨k3, k4⟩ := (M.out.nth 0 rfl).two
  go_enter Try.func43, Try.ntmps43
  go_wp2
  go_ret
  exact ⟨by rw [← o2]; rfl, M.out.base⟩
theorem meets6_any {a b : Res} (fa : Fit a) (fb : Fit b) (h : val a.lo ≤ val b.hi ∧ val b.lo ≤ val a.hi) (w : World) : Calls Try.prog 43 #[.agg #[.float .f64 a.lo, .float .f64 a.hi], .agg #[.float .f64 b.lo, .float .f64 b.hi]] w fun r w' => r = .returned (.bool true) ∧ Below w.heap.size w w' :=
  lMeets6_any a.lo a.hi b.lo b.hi w ((order_le _ _ fa.lo fb.hi fa.rlo fb.rhi).trans (decide_eq_true h.1)) ((order_le _ _ fb.lo fa.hi fb.rlo fa.rhi).trans (decide_eq_true h.2))
theorem p6_in {x : Nat} (lx : x < 18446744073709551616) (rx : rightB x = true) (px : 0 ≤ val x) (w : World) : Calls Try.prog 40 #[.float .f64 x] w fun r w' => r = .returned (.agg #[.float .f64 x, .float .f64 x]) ∧ Below w.heap.size w w' :=
  p6_any x w (add_nil6 lx rx px)

theorem co_low {c h k : Res} (D : Co.Fits c h k) (L : Co.Last c h k) : 0 ≤ val (Co.f c h k).lo := by
  have r1 : In (Co.rs c h k) unitR := clamp_unit D.r27'
  have r2 : In (Co.rp c h k) unitR := clamp_unit L.m34'
  have hf : Fit (oneR 4602678819172646912) := one_fit (by decide) (by decide)
  have fs : Fit (addR unitR unitR) := .of (by decide +kernel)
  have a : In (Co.a36 c h k) (addR unitR unitR) := add_in r1 unit_fit r2 unit_fit fs.e
  have f : In (Co.f c h k) (mulR (oneR 4602678819172646912) (addR unitR unitR)) := mul_in (.refl hf) hf a fs (by decide +kernel)
  have z : val (mulR (oneR 4602678819172646912) (addR unitR unitR)).lo = 0 := by decide +kernel
  have := f.lo
  omega
/-- The boxes of what the law works out by itself. -/
def Nd (C : Res) : Res := addR C (oneR 4607182418800017408)
def Nu (C : Res) : Res := subR C (oneR 4607182418800017408)
theorem n_ok : (fitB (Nu bigN) && fitB (Nd bigN) && decide (0 < val (Nd bigN).lo) && fitB (divR (Nu bigN) (Nd bigN)) && fitB (sqrR (divR (Nu bigN) (Nd bigN)))) = true := by decide +kernel
theorem m_ok : (fitB (sqrR bigM) && fitB (Nu bigM) && fitB (sqrR (Nu bigM)) && fitB (addR (sqrR (Nu bigM)) (sqrR bigM)) && fitB (Nd bigM) && fitB (sqrR (Nd bigM)) && fitB (addR (sqrR (Nd bigM)) (sqrR bigM)) && decide (0 < val (addR (sqrR (Nd bigM)) (sqrR bigM)).lo) && fitB (divR (addR (sqrR (Nu bigM)) (sqrR bigM)) (addR (sqrR (Nd bigM)) (sqrR bigM)))) = true := by decide +kernel

set_option maxRecDepth 100000 in
theorem normal_any (u v k : Nat) (w : World) (hu : u < 4294967296) (hv : v < 4294967296) (hk : k < 4294967296) :
    Calls Try.prog 8 #[.int .u32 u, .int .u32 v, .int .u32 k] w fun r w' => r = .returned (.bool true) ∧ Below w.heap.size w w' := by
  have z0 : val 0 = 0 := by decide +kernel
  obtain ⟨x, ax, cx⟩ := between6_any 4607463893776728064 4616189618054758400 u (by decide) (by decide) (by decide) (by decide) (by decide +kernel) (by decide +kernel) (by decide +kernel) hu
  obtain ⟨y, ay, cy⟩ := between6_any 4589168020290535424 4625196817309499392 v (by decide) (by decide) (by decide) (by decide) (by decide +kernel) (by decide +kernel) (by decide +kernel) hv
  obtain ⟨z, az, cz⟩ := between6_any 4589168020290535424 4625196817309499392 k (by decide) (by decide) (by decide) (by decide) (by decide +kernel) (by decide +kernel) (by decide +kernel) hk
  have ix : In (oneR x) bigN := ⟨one_fit ax.lt ax.right, ax.lo, ax.hi⟩
  have iy : In (oneR y) bigM := ⟨one_fit ay.lt ay.right, ay.lo, ay.hi⟩
  have iz : In (oneR z) bigM := ⟨one_fit az.lt az.right, az.lo, az.hi⟩
  have px : 0 ≤ val x := Int.le_trans (by decide +kernel : (0 : Int) ≤ val 4607463893776728064) ax.lo
  have py : 0 ≤ val y := Int.le_trans (by decide +kernel : (0 : Int) ≤ val 4589168020290535424) ay.lo
  have pz : 0 ≤ val z := Int.le_trans (by decide +kernel : (0 : Int) ≤ val 4589168020290535424) az.lo
  have one : Fit (oneR 4607182418800017408) := one_fit (by decide) (by decide)
  have kn := n_ok
  have km := m_ok
  simp only [Bool.and_eq_true, decide_eq_true_eq] at kn km
  obtain ⟨⟨⟨⟨n1, n2⟩, n3⟩, n4⟩, n5⟩ := kn
  obtain ⟨⟨⟨⟨⟨⟨⟨⟨m1, m2⟩, m3⟩, m4⟩, m5⟩, m6⟩, m7⟩, m8⟩, m9⟩ := km
  -- the square of (n - 1) / (n + 1)
  have J1 : In (Nu (oneR x)) (Nu bigN) := sub_in ix n_fit (.refl one) one (Fit.of n1).e
  have J2 : In (Nd (oneR x)) (Nd bigN) := add_in ix n_fit (.refl one) one (Fit.of n2).e
  have J3 := div_in J1 (.of n1) J2 (.of n2) (Fit.of n4).e
  have J4 := sqr_in J3 (.of n4) (Fit.of n5).e
  have V1 : HasV (oneR 4607182418800017408) SS SS := .lit SS0 (by rw [show val 4607182418800017408 = SS from by decide +kernel])
  have A1 := HasV.sub ix.fit one (HasV.one x) V1 J1.fit.e
  have A2 := HasV.add ix.fit one (HasV.one x) V1 J2.fit.e
  obtain ⟨_, A3⟩ := HasV.div J1.fit J2.fit A1 A2 (by have := J2.lo; omega) J3.fit.e
  have A4 := HasV.sqr J3.fit A3 J4.fit.e
  have Ma := HasV.meet (di_point ix) A4 (by grind)
  -- the metal's
  have K2' := sqr_in iz m_fit (Fit.of m1).e
  have L1 : In (Nu (oneR y)) (Nu bigM) := sub_in iy m_fit (.refl one) one (Fit.of m2).e
  have L2 := sqr_in L1 (.of m2) (Fit.of m3).e
  have L3 := add_in L2 (.of m3) K2' (.of m1) (Fit.of m4).e
  have L4 : In (Nd (oneR y)) (Nd bigM) := add_in iy m_fit (.refl one) one (Fit.of m5).e
  have L5 := sqr_in L4 (.of m5) (Fit.of m6).e
  have L6 := add_in L5 (.of m6) K2' (.of m1) (Fit.of m7).e
  have L7 := div_in L3 (.of m4) L6 (.of m7) (Fit.of m9).e
  have B0 := HasV.sqr iz.fit (HasV.one z) K2'.fit.e
  have B1 := HasV.sub iy.fit one (HasV.one y) V1 L1.fit.e
  have B2 := HasV.sqr L1.fit B1 L2.fit.e
  have B3 := HasV.add L2.fit K2'.fit B2 B0 L3.fit.e
  have B4 := HasV.add iy.fit one (HasV.one y) V1 L4.fit.e
  have B5 := HasV.sqr L4.fit B4 L5.fit.e
  have B6 := HasV.add L5.fit K2'.fit B5 B0 L6.fit.e
  obtain ⟨_, B7⟩ := HasV.div L3.fit L6.fit B3 B6 (by have := L6.lo; omega) L7.fit.e
  have Md := HasV.meet (co_point iy iz).2 B7 (by grind)
  -- along the surface
  obtain ⟨w1, w0⟩ := di_narrow ix
  have P1 := Di.parts Di.big i_one ix
  have D1 := P1.fits one ix.fit
  have P0 := Di.parts Di.big i_zero ix
  have D0 := P0.fits i_zero.fit ix.fit
  have bhi := di_all ix
  have fa : Fit (Di.out (oneR 4607182418800017408) (oneR x)) := clamp_fit D1.f'
  have fb : Fit (Di.out (oneR 0) (oneR x)) := clamp_fit D0.f'
  obtain ⟨CD, CP, CL, ne⟩ := co_at iy iz
  have fd : Fit (Co.f c1 (oneR y) (oneR z)) := CL.f'
  have wd := co_narrow iy iz
  have ua : 0 ≤ val (Di.out (oneR 4607182418800017408) (oneR x)).lo := by have h : val unitR.lo ≤ _ := (clamp_unit D1.f').lo; rw [show val unitR.lo = 0 from by decide +kernel] at h; exact h
  have ub : val (Di.out (oneR 0) (oneR x)).hi ≤ SS := by have h : _ ≤ val unitR.hi := (clamp_unit D0.f').hi; rw [show val unitR.hi = SS from by decide +kernel] at h; exact h
  have ud : 0 ≤ val (Co.f c1 (oneR y) (oneR z)).lo := co_low CD CL
  obtain ⟨da, q1, q2, q3, q4, q5⟩ := sub_small fa.hi fa.lo fa.rhi fa.rlo ua fa.le (y0 := 4413527634823086080) (by decide) (by decide) w1
  obtain ⟨dd, r1, r2, r3, r4, r5⟩ := sub_small fd.hi fd.lo fd.rhi fd.rlo ud fd.le (y0 := 4445052832214679552) (by decide) (by decide) wd
  have eb : val (Di.out (oneR 0) (oneR x)).hi = SS := by have := bhi.high; omega
  have e1 : val 4607182418800017408 = SS := by decide +kernel
  have e2 : val 4607182418800009216 + val 4413527634823086080 ≤ SS := by decide +kernel
  exact normal_law (u0 := u) (v0 := v) (w0 := k) (pn := x) (pe := y) (pk := z) (da := da) (dd := dd) w
    (c1 := Lib.hid cx) (c2 := Lib.hid fun w => p6_in ax.lt ax.right px w) (c3 := Lib.hid cy) (c4 := Lib.hid fun w => p6_in ay.lt ay.right py w) (c5 := Lib.hid cz) (c6 := Lib.hid fun w => p6_in az.lt az.right pz w)
    (c7 := Lib.hid fun w => p6_any _ w (by decide +kernel)) (c8 := Lib.hid fun w => diel_any i_one ix w) (c9 := Lib.hid fun w => p6_any _ w (by decide +kernel)) (c10 := Lib.hid fun w => diel_any i_zero ix w) (c12 := Lib.hid fun w => cond_some i_one iy iz w ne)
    (d13 := Lib.hid fun pb => calc_num one pb) (d14 := Lib.hid fun pb => calc_sub ix.fit one J1.fit pb) (d15 := Lib.hid fun pb => calc_add ix.fit one J2.fit pb) (d16 := Lib.hid fun pb => calc_div J1.fit J2.fit J3.fit pb) (d17 := Lib.hid fun pb => calc_sqr J3.fit J4.fit pb)
    (d18 := Lib.hid fun pb => calc_sqr iz.fit K2'.fit pb) (d19 := Lib.hid fun pb => calc_sub iy.fit one L1.fit pb) (d20 := Lib.hid fun pb => calc_sqr L1.fit L2.fit pb) (d21 := Lib.hid fun pb => calc_add L2.fit K2'.fit L3.fit pb)
    (d22 := Lib.hid fun pb => calc_add iy.fit one L4.fit pb) (d23 := Lib.hid fun pb => calc_sqr L4.fit L5.fit pb) (d24 := Lib.hid fun pb => calc_add L5.fit K2'.fit L6.fit pb) (d25 := Lib.hid fun pb => calc_div L3.fit L6.fit L7.fit pb)
    (c27 := Lib.hid fun w => meets6_any fa J4.fit Ma w)
    (o_eqlbh_418800017408 := (order_eq _ _ fb.hi (by decide) fb.rhi (by decide)).trans (decide_eq_true (eb.trans e1.symm)))
    (o_geqbl_418800009216 := by
      rw [order_gt _ _ fb.lo (by decide) fb.rlo (by decide), order_eq _ _ fb.lo (by decide) fb.rlo (by decide)]
      by_cases g : val 4607182418800009216 < val (Di.out (oneR 0) (oneR x)).lo
      · rw [decide_eq_true g]; rfl
      · rw [decide_eq_true (by omega : val (Di.out (oneR 0) (oneR x)).lo = val 4607182418800009216), Bool.or_true])
    (c28 := Lib.hid fun w => meets6_any fd L7.fit Md w)
    (q_da := fun w => run_float_arith w .sub 22 .f64 _ _ _ q1) (o_lssda_433705197568 := (order_lt _ _ q2 (by decide) q3 (by decide)).trans (decide_eq_true (Int.lt_of_le_of_lt q5 (by decide +kernel))))
    (q_dd := fun w => run_float_arith w .sub 22 .f64 _ _ _ r1) (o_lssdd_429978902528 := (order_lt _ _ r2 (by decide) r3 (by decide)).trans (decide_eq_true (Int.lt_of_le_of_lt r5 (by decide +kernel))))
    (c29 := Lib.hid awake6_any)

end Go.Proofs.Ytoocmocaelcbkaa
