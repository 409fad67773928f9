
/- FresnelSnell: for all that it is given. -/
import Derived.Test.YtoocmocaelcbkaaFsL
import Derived.Test.YtoocmocaelcbkaaFsM
import Derived.Test.YtoocmocaelcbkaaFnE
namespace Go.Proofs.Ytoocmocaelcbkaa
open Go.RowKit

def snA : Res := ⟨0, 4607463893776728064, 4609434218613702656⟩
def snB : Res := ⟨0, 4609434218613702656, 4616189618054758400⟩
theorem sn_boxes : (fitB snA && fitB snB && Di.ok bigC snA && Di.ok bigC snB && decide (Di.wf bigC snA 0 ≤ val 4467570830351532032) && decide (Di.wf bigC snB 0 ≤ val 4467570830351532032)) = true := by decide +kernel
theorem snell_box {c n : Nat} {B : Res} (ic : In (oneR c) bigC) (i_n : In (oneR n) B) (fB : Fit B) (hB : In B bigN) (ok : Di.ok bigC B = true) (w : Di.wf bigC B 0 ≤ val 4467570830351532032) :
    val (Di.out (oneR c) (oneR n)).hi - val (Di.out (oneR c) (oneR n)).lo ≤ val 4467570830351532032 := by
  have D1 := (Di.parts Di.big (.refl (c_fit : Fit bigC)) hB).fits c_fit fB
  have h := (di_wide D1 (.one ic) (.one i_n) ok).wide
  have i2 : In (oneR n) bigN := ⟨i_n.fit, Int.le_trans hB.lo i_n.lo, Int.le_trans i_n.hi hB.hi⟩
  have D := (Di.parts Di.big ic i2).fits ic.fit i2.fit
  have k := clamp_wide D.f'
  have e1 : Di.out (oneR c) (oneR n) = clampR (Di.f (oneR c) (oneR n)) := rfl
  rw [e1]
  omega
theorem snell_narrow {c n : Nat} (ic : In (oneR c) bigC) (i_n : In (oneR n) bigN) : val (Di.out (oneR c) (oneR n)).hi - val (Di.out (oneR c) (oneR n)).lo ≤ val 4467570830351532032 := by
  have b := sn_boxes
  simp only [Bool.and_eq_true, decide_eq_true_eq] at b
  obtain ⟨⟨⟨⟨⟨b1, b2⟩, b3⟩, b4⟩, b5⟩, b6⟩ := b
  have l : val bigN.lo ≤ val n := i_n.lo
  have h : val n ≤ val bigN.hi := i_n.hi
  have e1 : val snA.lo = val bigN.lo := rfl
  have e2 : val snB.hi = val bigN.hi := rfl
  have e3 : val snA.hi = val snB.lo := rfl
  have e4 : val snA.hi ≤ val bigN.hi ∧ val bigN.lo ≤ val snB.lo := by decide +kernel
  rcases Int.le_total (val n) (val snA.hi) with g | g
  · exact snell_box ic ⟨i_n.fit, by show val snA.lo ≤ val n; omega, g⟩ (.of b1) ⟨.of b1, by omega, e4.1⟩ b3 b5
  · exact snell_box ic ⟨i_n.fit, by show val snB.lo ≤ val n; omega, by show val n ≤ val snB.hi; omega⟩ (.of b2) ⟨.of b2, e4.2, by omega⟩ b4 b6

theorem snell_any (u v : Nat) (w : World) (hu : u < 4294967296) (hv : v < 4294967296) :
    Calls Try.prog 7 #[.int .u32 u, .int .u32 v] w fun r w' => r = .returned (.bool true) ∧ Below w.heap.size w w' := by
  obtain ⟨c, ac, cc⟩ := between6_any 4571153621781053440 4607182418800017408 u (by decide) (by decide) (by decide) (by decide) (by decide +kernel) (by decide +kernel) (by decide +kernel) hu
  obtain ⟨n, an, cn⟩ := between6_any 4607463893776728064 4616189618054758400 v (by decide) (by decide) (by decide) (by decide) (by decide +kernel) (by decide +kernel) (by decide +kernel) hv
  have c8 : 0 ≤ val 4571153621781053440 := by decide +kernel
  have pc : 0 ≤ val c := Int.le_trans c8 ac.lo
  have pn : 0 ≤ val n := Int.le_trans (by decide +kernel : (0 : Int) ≤ val 4607463893776728064) an.lo
  have z0 : val 0 = 0 := by decide +kernel
  have ic : In (oneR c) bigC := ⟨one_fit ac.lt ac.right, by show val 0 ≤ val c; rw [z0]; exact pc, ac.hi⟩
  have i_n : In (oneR n) bigN := ⟨one_fit an.lt an.right, an.lo, an.hi⟩
  have D := (Di.parts Di.big ic i_n).fits ic.fit i_n.fit
  have I := Sn.ins ic i_n
  have one : Fit (oneR 4607182418800017408) := one_fit (by decide) (by decide)
  have half : Fit (oneR 4602678819172646912) := one_fit (by decide) (by decide)
  have fo : Fit (Di.out (oneR c) (oneR n)) := clamp_fit D.f'
  have uo := clamp_unit D.f'
  have lo : 0 ≤ val (Di.out (oneR c) (oneR n)).lo := by have h : val unitR.lo ≤ _ := uo.lo; rw [show val unitR.lo = 0 from by decide +kernel] at h; exact h
  have hi : val (Di.out (oneR c) (oneR n)).hi ≤ val 4607182418800017408 := by have h : _ ≤ val unitR.hi := uo.hi; rw [show val unitR.hi = val 4607182418800017408 from by decide +kernel] at h; exact h
  have le := fo.le
  obtain ⟨df, q1, q2, q3, q4, q5⟩ := sub_small fo.hi fo.lo fo.rhi fo.rlo lo le (y0 := 4467570830351532032) (by decide) (by decide) (snell_narrow ic i_n)
  have M := snell_meet ic i_n
  exact snell_law (u0 := u) (v0 := v) (pc := c) (pn := n) (df := df) w
    (c1 := Lib.hid cc) (c2 := Lib.hid fun w => p6_in ac.lt ac.right pc w) (c3 := Lib.hid cn) (c4 := Lib.hid fun w => p6_in an.lt an.right pn w) (c5 := Lib.hid fun w => diel_any ic i_n w)
    (o_lssfl_0 := (order_lt _ _ fo.lo (by decide) fo.rlo (by decide)).trans (decide_eq_false (by rw [z0]; omega)))
    (o_gtrfh_418800017408 := (order_gt _ _ fo.hi (by decide) fo.rhi (by decide)).trans (decide_eq_false (by omega)))
    (o_gtrfl_fh := (order_gt _ _ fo.lo fo.hi fo.rlo fo.rhi).trans (decide_eq_false (by omega)))
    (q_df := fun w => run_float_arith w .sub 22 .f64 _ _ _ q1)
    (o_gtrdf_429978902528 := (order_gt _ _ q2 (by decide) q3 (by decide)).trans (decide_eq_false (by have h : val 4467570830351532032 ≤ val 4472074429978902528 := (by decide +kernel); omega)))
    (d6 := Lib.hid fun pb => calc_num one pb) (d8 := Lib.hid fun pb => calc_sqr ic.fit I.a'.fit pb) (d9 := Lib.hid fun pb => calc_sub one I.a'.fit I.b'.fit pb) (d10 := Lib.hid fun pb => calc_sqr i_n.fit I.d'.fit pb)
    (d11 := Lib.hid fun pb => calc_div I.b'.fit I.d'.fit I.g'.fit pb) (d12 := Lib.hid fun pb => calc_sub one I.g'.fit I.i'.fit pb) (d13 := Lib.hid fun pb => calc_sqrt I.i'.fit I.s'.fit pb) (d14 := Lib.hid fun pb => calc_mul i_n.fit I.s'.fit I.j'.fit pb)
    (d15 := Lib.hid fun pb => calc_sub ic.fit I.j'.fit I.k'.fit pb) (d17 := Lib.hid fun pb => calc_add ic.fit I.j'.fit I.l'.fit pb) (d18 := Lib.hid fun pb => calc_div I.k'.fit I.l'.fit I.m'.fit pb) (d19 := Lib.hid fun pb => calc_sqr I.m'.fit I.o'.fit pb)
    (d20 := Lib.hid fun pb => calc_mul i_n.fit ic.fit I.q'.fit pb) (d21 := Lib.hid fun pb => calc_sub I.q'.fit I.s'.fit I.r'.fit pb) (d23 := Lib.hid fun pb => calc_add I.q'.fit I.s'.fit I.t'.fit pb) (d24 := Lib.hid fun pb => calc_div I.r'.fit I.t'.fit I.u'.fit pb)
    (d25 := Lib.hid fun pb => calc_sqr I.u'.fit I.v'.fit pb) (d26 := Lib.hid fun pb => calc_num half pb) (d27 := Lib.hid fun pb => calc_add I.o'.fit I.v'.fit I.x'.fit pb) (d28 := Lib.hid fun pb => calc_mul half I.x'.fit I.y'.fit pb)
    (c30 := Lib.hid fun w => meets6_any fo I.y'.fit M w) (c31 := Lib.hid awake6_any)

end Go.Proofs.Ytoocmocaelcbkaa
