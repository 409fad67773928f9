
/- Law file 7: its functions p and awake; package lambert's functions of what is from 0 to 1. -/
import Derived.Test.YtoocmocaelcbkaaQM
import Derived.Test.YtoocmocaelcbkaaQFD
import Derived.Test.YtoocmocaelcbkaaQLtA
import Derived.Deep.RegionHeld3
namespace Go.Proofs.Ytoocmocaelcbkaa
open Go.RowKit

/-- All from 0 to 1. -/
def unI : Res := ⟨0, 0, u1⟩
def valueR (a : Res) : Res := divR a piR
def capR (a c : Res) : Res := mulR a (subR (oneR u1) (sqrR c))
theorem un_fit : Fit unI := .of (by decide +kernel)
theorem un_value : Fit (valueR unI) := .of (by decide +kernel)
theorem un_sqr : Fit (sqrR unI) := .of (by decide +kernel)
theorem un_left : Fit (subR (oneR u1) (sqrR unI)) := .of (by decide +kernel)
theorem un_cap : Fit (capR unI unI) := .of (by decide +kernel)
theorem In.trans {a b c : Res} (h : In a b) (k : In b c) : In a c := ⟨h.fit, Int.le_trans k.lo h.lo, Int.le_trans h.hi k.hi⟩
theorem v00 : val 0 = 0 := by decide +kernel

section
variable {a A c C : Res}
theorem value_fit (ha : In a unI) : Fit (valueR a) := (div_in ha un_fit (.refl big_fit.1) big_fit.1 un_value.e).fit
theorem value_in (ha : In a A) (hA : In A unI) : In (valueR a) (valueR A) := div_in ha hA.fit (.refl big_fit.1) big_fit.1 (value_fit hA).e
theorem sqr_fit1 (hc : In c unI) : Fit (sqrR c) := (sqr_in hc un_fit un_sqr.e).fit
theorem left_fit (hc : In c unI) : Fit (subR (oneR u1) (sqrR c)) := (sub_in (.refl u1_fit) u1_fit (sqr_in hc un_fit un_sqr.e) un_sqr un_left.e).fit
theorem left_in (hc : In c C) (hC : In C unI) : In (subR (oneR u1) (sqrR c)) (subR (oneR u1) (sqrR C)) :=
  sub_in (.refl u1_fit) u1_fit (sqr_in hc hC.fit (sqr_fit1 hC).e) (sqr_fit1 hC) (left_fit hC).e
theorem cap_fit (ha : In a unI) (hc : In c unI) : Fit (capR a c) := (mul_in ha un_fit (left_in hc (.refl un_fit)) un_left un_cap.e).fit
theorem cap_in (ha : In a A) (hc : In c C) (hA : In A unI) (hC : In C unI) : In (capR a c) (capR A C) :=
  mul_in ha hA.fit (left_in hc hC) (left_fit hC) (cap_fit hA hC).e
theorem In.nonneg (ha : In a unI) : 0 ≤ val a.lo := by have h : val 0 ≤ val a.lo := ha.lo; rw [v00] at h; exact h
theorem In.nonneg' (ha : In a unI) : 0 ≤ val a.hi := Int.le_trans ha.nonneg ha.fit.le
theorem In.low1 (ha : In a unI) : In (oneR a.lo) a := ⟨one_fit ha.fit.lo ha.fit.rlo, Int.le_refl _, ha.fit.le⟩
theorem In.high1 (ha : In a unI) : In (oneR a.hi) a := ⟨one_fit ha.fit.hi ha.fit.rhi, ha.fit.le, Int.le_refl _⟩
end

theorem one_lo (x : Nat) : (oneR x).lo = x := rfl
theorem one_hi (x : Nat) : (oneR x).hi = x := rfl
theorem tight_ends {lo hi : Nat} {e f : Int} (h : (tightR lo e hi f).e = 0) : (tightR lo e hi f).lo = lo ∧ (tightR lo e hi f).hi = hi := by
  obtain ⟨_, _, c⟩ := tight_e h
  rw [c]; exact ⟨rfl, rfl⟩
theorem lt_nil {a : Nat} (h : 0 ≤ val a) : ltB a 0 = false := decide_eq_false (by rw [v00]; omega)
theorem le_nil {a : Nat} (h : 0 ≤ val a) : leB 0 a = true := decide_eq_true (by rw [v00]; exact h)
theorem mul_ends {a b : Res} (ha : 0 ≤ val a.lo) (ha' : 0 ≤ val a.hi) (hb : 0 ≤ val b.lo) (he : (mulR a b).e = 0) : (mulR a b).lo = mulW a.lo b.lo false ∧ (mulR a b).hi = mulW a.hi b.hi true := by
  have c : crossB b.lo b.hi = false := by unfold crossB; rw [lt_nil hb]; rfl
  have e : mulR a b = tightR (mulW a.lo b.lo false) (mulE a.lo b.lo false) (mulW a.hi b.hi true) (mulE a.hi b.hi true) := by
    unfold mulR mulI mulJ
    rw [c, Bool.and_false, if_neg Bool.false_ne_true, if_neg Bool.false_ne_true]
    unfold mul1 lowOf highOf endW
    rw [lt_nil hb, if_neg Bool.false_ne_true, if_neg Bool.false_ne_true, lt_nil ha, le_nil ha', if_neg Bool.false_ne_true, if_pos rfl]
  rw [e] at he ⊢
  exact tight_ends he
theorem sqr_ends {a : Res} (ha : 0 ≤ val a.lo) (he : (sqrR a).e = 0) : (sqrR a).lo = mulW a.lo a.lo false ∧ (sqrR a).hi = mulW a.hi a.hi true := by
  have e : sqrR a = tightR (mulW a.lo a.lo false) (mulE a.lo a.lo false) (mulW a.hi a.hi true) (mulE a.hi a.hi true) := by
    unfold sqrR sqrI absLo absHi
    rw [le_nil ha, if_pos rfl, if_pos rfl]
  rw [e] at he ⊢
  exact tight_ends he
theorem sub_ends {a b : Res} (he : (subR a b).e = 0) : (subR a b).lo = subW a.lo b.hi false ∧ (subR a b).hi = subW a.hi b.lo true := tight_ends he
theorem pi_not : hasB piR.lo piR.hi 0 = false := by decide +kernel
theorem pi_pos : 0 ≤ val piR.lo := by decide +kernel
theorem value_ends {a : Res} (ha : 0 ≤ val a.lo) (ha' : 0 ≤ val a.hi) (he : (valueR a).e = 0) : (valueR a).lo = divW a.lo piR.hi false ∧ (valueR a).hi = divW a.hi piR.lo true := by
  have e : valueR a = tightR (divW a.lo piR.hi false) (divE a.lo piR.hi false) (divW a.hi piR.lo true) (divE a.hi piR.lo true) := by
    unfold valueR divR divI
    rw [pi_not, if_neg Bool.false_ne_true]
    unfold div1 lowOf highOf endW
    rw [lt_nil pi_pos, if_neg Bool.false_ne_true, if_neg Bool.false_ne_true, le_nil ha, lt_nil ha', if_neg Bool.false_ne_true, if_pos rfl]
  rw [e] at he ⊢
  exact tight_ends he

section
variable {a c : Res}
theorem left_pos (hc : In c unI) : 0 ≤ val (subR (oneR u1) (sqrR c)).lo := by
  have h := (left_in hc (.refl un_fit)).lo
  have e : val (subR (oneR u1) (sqrR unI)).lo = 0 := by decide +kernel
  omega
/-- A cap's ends hang on two ends each. -/
theorem cap_ends (ha : In a unI) (hc : In c unI) :
    (capR a c).lo = (capR (oneR a.lo) (oneR c.hi)).lo ∧ (capR a c).hi = (capR (oneR a.hi) (oneR c.lo)).hi := by
  have al := ha.low1.trans ha
  have ah := ha.high1.trans ha
  have cl := hc.low1.trans hc
  have ch := hc.high1.trans hc
  obtain ⟨p1, p2⟩ := mul_ends ha.nonneg ha.nonneg' (left_pos hc) (cap_fit ha hc).e
  obtain ⟨q1, q2⟩ := mul_ends al.nonneg al.nonneg' (left_pos ch) (cap_fit al ch).e
  obtain ⟨r1, r2⟩ := mul_ends ah.nonneg ah.nonneg' (left_pos cl) (cap_fit ah cl).e
  obtain ⟨s1, s2⟩ := sub_ends (left_fit hc).e
  obtain ⟨t1, t2⟩ := sub_ends (left_fit cl).e
  obtain ⟨u1', u2'⟩ := sub_ends (left_fit ch).e
  obtain ⟨x1, x2⟩ := sqr_ends hc.nonneg (sqr_fit1 hc).e
  obtain ⟨y1, y2⟩ := sqr_ends cl.nonneg (sqr_fit1 cl).e
  obtain ⟨z1, z2⟩ := sqr_ends ch.nonneg (sqr_fit1 ch).e
  refine ⟨?_, ?_⟩
  · show (mulR a _).lo = (mulR _ _).lo
    simp only [p1, q1, s1, u1', x2, z2, one_lo, one_hi]
  · show (mulR a _).hi = (mulR _ _).hi
    simp only [p2, r2, s2, t2, x1, y1, one_lo, one_hi]
theorem mul_nil (x : Nat) (up : Bool) : mulW x 0 up = 0 := by
  have e : mant 0 = 0 := by decide +kernel
  unfold mulW roundW
  rw [e, Nat.mul_zero, if_pos rfl]
  split <;> rfl
theorem top_left : (subR (oneR u1) (sqrR (oneR u1))).lo = 0 ∧ (subR (oneR u1) (sqrR (oneR u1))).hi = 0 := by decide +kernel
/-- At the normal nothing. -/
theorem cap_top (ha : In a unI) : (capR a (oneR u1)).lo = 0 ∧ (capR a (oneR u1)).hi = 0 := by
  have hc : In (oneR u1) unI := ⟨u1_fit, by decide +kernel, Int.le_refl _⟩
  obtain ⟨p1, p2⟩ := mul_ends ha.nonneg ha.nonneg' (left_pos hc) (cap_fit ha hc).e
  rw [top_left.1] at p1
  rw [top_left.2] at p2
  exact ⟨p1.trans (mul_nil _ _), p2.trans (mul_nil _ _)⟩
/-- No more than the albedo. -/
theorem cap_below (ha : In a unI) (hc : In c unI) : val (capR a c).hi ≤ val a.hi := by
  obtain ⟨p1, p2⟩ := mul_ends ha.nonneg ha.nonneg' (left_pos hc) (cap_fit ha hc).e
  have hl := (left_in hc (.refl un_fit)).hi
  have e : val (subR (oneR u1) (sqrR unI)).hi = val u1 := by decide +kernel
  rw [e] at hl
  have e' : val u1 = ((2 ^ sq : Nat) : Int) := by decide +kernel
  have hu := (mul_dir a.hi (subR (oneR u1) (sqrR c)).hi ha.fit.rhi (left_fit hc).rhi true).2 rfl
  have k : (capR a c).hi = mulW a.hi (subR (oneR u1) (sqrR c)).hi true := p2
  rw [k]
  have hle : val a.hi * val (subR (oneR u1) (sqrR c)).hi ≤ val a.hi * ((2 ^ sq : Nat) : Int) := by rw [← e']; exact Int.mul_le_mul_of_nonneg_left hl ha.nonneg'
  rcases hu with ⟨_, _, _, _, h⟩ | ⟨_, h0, h⟩
  · exact h _ ha.fit.hi ha.fit.rhi hle
  · rw [h0, v00]; exact ha.nonneg'
end
end Go.Proofs.Ytoocmocaelcbkaa

namespace Go.Proofs.Ytoocmocaelcbkaa
open Go.RowKit
attribute [local go_sem] run_store_float

set_option maxRecDepth 100000 in
set_option maxHeartbeats 16000000 in
theorem awake7_walk {al ah da : Nat} (w : World)
    (c1 : Hid (∀ w, Calls Try.prog 46 #[.float .f64 4607182418800017408] w fun r w' => r = .returned (.agg #[.float .f64 4607182418800017408, .float .f64 4607182418800017408]) ∧ Below w.heap.size w w'))
    (c2 : Hid (∀ w, Calls Try.prog 48 #[.agg #[.float .f64 4607182418800017408, .float .f64 4607182418800017408]] w fun r w' => r = .returned (.tuple #[.agg #[.float .f64 al, .float .f64 ah], .int .i64 0]) ∧ Below w.heap.size w w'))
    (c3 : Hid (∀ w, Calls Try.prog 46 #[.float .f64 0] w fun r w' => r = .returned (.agg #[.float .f64 0, .float .f64 0]) ∧ Below w.heap.size w w'))
    (c4 : Hid (∀ w, Calls Try.prog 54 #[.agg #[.float .f64 0, .float .f64 0]] w fun r w' => r = .returned (.tuple #[.agg #[.float .f64 0, .float .f64 0], .int .i64 0]) ∧ Below w.heap.size w w'))
    (c5 : Hid (∀ w, Calls Try.prog 46 #[.float .f64 4602678819172646912] w fun r w' => r = .returned (.agg #[.float .f64 4602678819172646912, .float .f64 4602678819172646912]) ∧ Below w.heap.size w w'))
    (c7 : Hid (∀ w, Calls Try.prog 49 #[.agg #[.float .f64 4602678819172646912, .float .f64 4602678819172646912], .agg #[.float .f64 0, .float .f64 0]] w fun r w' => r = .returned (.tuple #[.agg #[.float .f64 4602678819172646912, .float .f64 4602678819172646912], .int .i64 0]) ∧ Below w.heap.size w w'))
    (c10 : Hid (∀ w, Calls Try.prog 49 #[.agg #[.float .f64 4602678819172646912, .float .f64 4602678819172646912], .agg #[.float .f64 4602678819172646912, .float .f64 4602678819172646912]] w fun r w' => r = .returned (.tuple #[.agg #[.float .f64 4600427019358961664, .float .f64 4600427019358961664], .int .i64 0]) ∧ Below w.heap.size w w'))
    (c11 : Hid (∀ w, Calls Try.prog 46 #[.float .f64 4609434218613702656] w fun r w' => r = .returned (.agg #[.float .f64 4609434218613702656, .float .f64 4609434218613702656]) ∧ Below w.heap.size w w'))
    (c12 : Hid (∀ w, Calls Try.prog 48 #[.agg #[.float .f64 4609434218613702656, .float .f64 4609434218613702656]] w fun r w' => r = .returned (.tuple #[.agg #[.float .f64 0, .float .f64 0], .int .i64 2]) ∧ Below w.heap.size w w'))
    (o_geqal_781053817700 : (((FloatKind.f64.format.order al 4599405781053817700 == some Ordering.gt) || (FloatKind.f64.format.order al 4599405781053817700 == some Ordering.eq)) = true))
    (o_leqah_781071832099 : (((FloatKind.f64.format.order ah 4599405781071832099 == some Ordering.lt) || (FloatKind.f64.format.order ah 4599405781071832099 == some Ordering.eq)) = true))
    (q_da : (∀ w, (binOp .sub 22 (.float .f64 ah) (.float .f64 al)).run Try.prog w = .ok (.float .f64 da) w))
    (o_leqda_437431492608 : (((FloatKind.f64.format.order da 4382002437431492608 == some Ordering.lt) || (FloatKind.f64.format.order da 4382002437431492608 == some Ordering.eq)) = true))
    (e_0_0 : (Op.floatEq .f64 0 0 = true))
    (e_819172646912_819172646912 : (Op.floatEq .f64 4602678819172646912 4602678819172646912 = true))
    (c14 : Hid (∀ w, Calls Try.prog 46 #[.float .f64 4600427019358961664] w fun r w' => r = .returned (.agg #[.float .f64 4600427019358961664, .float .f64 4600427019358961664]) ∧ Below w.heap.size w w'))
    (e_019358961664_019358961664 : (Op.floatEq .f64 4600427019358961664 4600427019358961664 = true)) :
    Calls Try.prog 51 #[] w fun r w' => r = .returned (.bool true) ∧ Below w.heap.size w w' := by
  have M := Lib.hid (Own.nil w)
  have eqF := eq_floats
  go_enter Try.func51, Try.ntmps51
  go_wp2_with fail
  refine (c1.out _).mono ?_
  rintro r w1_ ⟨rfl, hb⟩
  replace M := Lib.hid (M.out.below hb)
  clear hb
  go_wp2_with fail
  refine (c2.out _).mono ?_
  rintro r w2_ ⟨rfl, hb⟩
  replace M := Lib.hid (M.out.below hb)
  clear hb
  replace M := Lib.hid (M.out.made #[.float .f64 al, .float .f64 ah] 24)
  go_wp2_with fail
  refine (c3.out _).mono ?_
  rintro r w3_ ⟨rfl, hb⟩
  replace M := Lib.hid (M.out.below hb)
  clear hb
  go_wp2_with fail
  refine (c4.out _).mono ?_
  rintro r w4_ ⟨rfl, hb⟩
  replace M := Lib.hid (M.out.below hb)
  clear hb
  replace M := Lib.hid (M.out.made #[.float .f64 0, .float .f64 0] 24)
  go_wp2_with fail
  refine (c5.out _).mono ?_
  rintro r w5_ ⟨rfl, hb⟩
  replace M := Lib.hid (M.out.below hb)
  clear hb
  go_wp2_with fail
  refine (c3.out _).mono ?_
  rintro r w6_ ⟨rfl, hb⟩
  replace M := Lib.hid (M.out.below hb)
  clear hb
  go_wp2_with fail
  refine (c7.out _).mono ?_
  rintro r w7_ ⟨rfl, hb⟩
  replace M := Lib.hid (M.out.below hb)
  clear hb
  replace M := Lib.hid (M.out.made #[.float .f64 4602678819172646912, .float .f64 4602678819172646912] 24)
  go_wp2_with fail
  refine (c5.out _).mono ?_
  rintro r w8_ ⟨rfl, hb⟩
  replace M := Lib.hid (M.out.below hb)
  clear hb
  go_wp2_with fail
  refine (c5.out _).mono ?_
  rintro r w9_ ⟨rfl, hb⟩
  replace M := Lib.hid (M.out.below hb)
  clear hb
  go_wp2_with fail
  refine (c10.out _).mono ?_
  rintro r w10_ ⟨rfl, hb⟩
  replace M := Lib.hid (M.out.below hb)
  clear hb
  replace M := Lib.hid (M.out.made #[.float .f64 4600427019358961664, .float .f64 4600427019358961664] 24)
  go_wp2_with fail
  refine (c11.out _).mono ?_
  rintro r w11_ ⟨rfl, hb⟩
  replace M := Lib.hid (M.out.below hb)
  clear hb
  go_wp2_with fail
  refine (c12.out _).mono ?_
  rintro r w12_ ⟨rfl, hb⟩
  replace M := Lib.hid (M.out.below hb)
  clear hb
  replace M := Lib.hid (M.out.made #[.float .f64 0, .float .f64 0] 24)
  go_upto_region 6 with fail
  replace M := Lib.hid M.out.drew
  obtain ⟨k1, k2⟩ := (M.out.nth 4 rfl).two
  obtain ⟨k3, k4⟩ := (M.out.nth 3 rfl).two
  obtain ⟨k5, k6⟩ := (M.out.nth 2 rfl).two
  obtain ⟨k7, k8⟩ := (M.out.nth 1 rfl).two
  go_region_held3 (fun w' => (w'.cell? ⟨w2_.heap.size, 0, none⟩ = some (.float .f64 al) ∧ w'.cell? ⟨w2_.heap.size, 1, none⟩ = some (.float .f64 ah)) ∧ (w'.cell? ⟨w4_.heap.size, 0, none⟩ = some (.float .f64 0) ∧ w'.cell? ⟨w4_.heap.size, 1, none⟩ = some (.float .f64 0)) ∧ (w'.cell? ⟨w7_.heap.size, 0, none⟩ = some (.float .f64 4602678819172646912) ∧ w'.cell? ⟨w7_.heap.size, 1, none⟩ = some (.float .f64 4602678819172646912)) ∧ (w'.cell? ⟨w10_.heap.size, 0, none⟩ = some (.float .f64 4600427019358961664) ∧ w'.cell? ⟨w10_.heap.size, 1, none⟩ = some (.float .f64 4600427019358961664))) (((try dsimp only); (repeat' apply And.intro); all_goals (repeat (first | (with_reducible assumption) | ((with_reducible refine keep_undrew ?_); (with_reducible assumption)) | (with_reducible refine keep_drew ?_) | (with_reducible refine keep_alloc _ ?_) | (with_reducible refine keep_set _ (by first | (with_reducible assumption) | omega) ?_)))))
    (first
      | (go_at_call 46; (with_reducible refine (c5.out _).mono ?_); rintro rr w5 ⟨rfl, hb⟩; replace M := Lib.hid (M.out.below hb); clear hb; clear k1 k2 k3 k4 k5 k6 k7 k8; obtain ⟨k1, k2⟩ := (M.out.nth 4 rfl).two; obtain ⟨k3, k4⟩ := (M.out.nth 3 rfl).two; obtain ⟨k5, k6⟩ := (M.out.nth 2 rfl).two; obtain ⟨k7, k8⟩ := (M.out.nth 1 rfl).two)
      | (go_at_call 46; (with_reducible refine (c14.out _).mono ?_); rintro rr w5 ⟨rfl, hb⟩; replace M := Lib.hid (M.out.below hb); clear hb; clear k1 k2 k3 k4 k5 k6 k7 k8; obtain ⟨k1, k2⟩ := (M.out.nth 4 rfl).two; obtain ⟨k3, k4⟩ := (M.out.nth 3 rfl).two; obtain ⟨k5, k6⟩ := (M.out.nth 2 rfl).two; obtain ⟨k7, k8⟩ := (M.out.nth 1 rfl).two))
  clear k1 k2 k3 k4 k5 k6 k7 k8
  go_wp2
  go_ret
  exact ⟨rfl, M.out.base⟩

theorem add_nil {x : Nat} (lx : x < 18446744073709551616) (rx : rightB x = true) (px : 0 ≤ val x) : floatBits .add .f64 x 0 = some x := by
  obtain ⟨r, h1, h2, h3, h4, h5⟩ := add_near lx (by decide : (0 : Nat) < 18446744073709551616) rx (by decide) px (by rw [v00]; exact Int.le_refl _) (y0 := x) lx rx (by rw [v00]; omega)
  rw [h1, val_inj h2 lx h3 rx (Int.le_antisymm h5 h4)]
set_option maxRecDepth 100000 in
theorem p7_any {x : Nat} (lx : x < 18446744073709551616) (rx : rightB x = true) (px : 0 ≤ val x) (w : World) :
    Calls Try.prog 46 #[.float .f64 x] w fun r w' => r = .returned (.agg #[.float .f64 x, .float .f64 x]) ∧ Below w.heap.size w w' := by
  have cP := Lib.hid fun w => point_walk x w (fun w => run_float_arith w .add 22 .f64 _ _ _ (add_nil lx rx px))
  clear lx rx px
  have M := Lib.hid ((Own.nil w).made #[.float .f64 0, .float .f64 0] 24)
  go_enter Try.func46, Try.ntmps46
  go_wp2_with fail
  refine (cP.out _).mono ?_
  rintro r w1 ⟨rfl, hb⟩
  replace M := Lib.hid (M.out.below hb)
  have kc := (M.out.nth 0 rfl).2.1
  have kf := (M.out.nth 0 rfl).2.2
  replace M := Lib.hid (M.out.set2 0 rfl (.float .f64 x) (.float .f64 x))
  go_wp2
  obtain ⟨f1, f2⟩ := (M.out.nth 0 rfl).two
  exact bodyPost_ret (v := .agg #[.float .f64 x, .float .f64 x]) (by simp [results, Try.results46, go_sem, f1, f2]) rfl ⟨rfl, M.out.base⟩
theorem p7_lit (x : Nat) (h : (decide (x < 18446744073709551616) && rightB x && leB 0 x) = true) (w : World) :
    Calls Try.prog 46 #[.float .f64 x] w fun r w' => r = .returned (.agg #[.float .f64 x, .float .f64 x]) ∧ Below w.heap.size w w' := by
  simp only [Bool.and_eq_true, decide_eq_true_eq] at h
  exact p7_any h.1.1 h.1.2 (by have := of_decide_eq_true h.2; rw [v00] at this; exact this) w

section
variable {a c : Res}
theorem lcheck1_ok (i : In a unI) (q : Nat) (v : World) (h : Has1 v (q, #[.float .f64 a.lo, .float .f64 a.hi])) :
    Calls Try.prog 121 #[.slice (some ⟨q, 0, none⟩) 1 1] v fun r w' => r = .returned (.int .i64 0) ∧ Below v.heap.size v w' :=
  lcheck1_walk q a.lo a.hi true false false v h (Lib.hid (right_in i.fit)) (lt_in i un_fit) (gt_in i un_fit)
theorem lcheck2_ok (i : In a unI) (j : In c unI) (q : Nat) (v : World) (h : Has1 v (q, #[.float .f64 a.lo, .float .f64 a.hi, .float .f64 c.lo, .float .f64 c.hi])) :
    Calls Try.prog 121 #[.slice (some ⟨q, 0, none⟩) 2 2] v fun r w' => r = .returned (.int .i64 0) ∧ Below v.heap.size v w' :=
  lcheck2_walk q a.lo a.hi c.lo c.hi true true false false false false v h (Lib.hid (right_in i.fit)) (Lib.hid (right_in j.fit)) (lt_in i un_fit) (gt_in i un_fit) (lt_in j un_fit) (gt_in j un_fit)
theorem over_any (i : In a unI) (w : World) : Calls Try.prog 95 #[.agg #[.float .f64 a.lo, .float .f64 a.hi]] w fun r w' => r = .returned (.tuple #[.agg #[.float .f64 (valueR a).lo, .float .f64 (valueR a).hi], .int .i64 0]) ∧ Below w.heap.size w w' :=
  overPi_walk a.lo a.hi _ _ 0 w (Lib.hid fun p s v hp hs => computed_over a.lo a.hi _ _ 0 p s v hp (Lib.hid fun u hb => lcheck1_ok i s u (hs.below hb))
    (Lib.hid fun pb u hC hP n => overLit_walk a.lo a.hi piR.lo piR.hi (valueR a).lo (valueR a).hi 0 pb p u hC hP n (Lib.hid fun w => pi_any w) (Lib.hid fun pb => calc_div i.fit big_fit.1 (value_fit i) pb)))
theorem value_any (i : In a unI) (w : World) : Calls Try.prog 48 #[.agg #[.float .f64 a.lo, .float .f64 a.hi]] w fun r w' => r = .returned (.tuple #[.agg #[.float .f64 (valueR a).lo, .float .f64 (valueR a).hi], .int .i64 0]) ∧ Below w.heap.size w w' :=
  value_walk a.lo a.hi _ _ 0 w (Lib.hid fun w => over_any i w)
theorem density_any (i : In a unI) (w : World) : Calls Try.prog 54 #[.agg #[.float .f64 a.lo, .float .f64 a.hi]] w fun r w' => r = .returned (.tuple #[.agg #[.float .f64 (valueR a).lo, .float .f64 (valueR a).hi], .int .i64 0]) ∧ Below w.heap.size w w' :=
  density_walk a.lo a.hi _ _ 0 w (Lib.hid fun w => over_any i w)
theorem cap_any (i : In a unI) (j : In c unI) (w : World) : Calls Try.prog 49 #[.agg #[.float .f64 a.lo, .float .f64 a.hi], .agg #[.float .f64 c.lo, .float .f64 c.hi]] w fun r w' => r = .returned (.tuple #[.agg #[.float .f64 (capR a c).lo, .float .f64 (capR a c).hi], .int .i64 0]) ∧ Below w.heap.size w w' :=
  cap_walk a.lo a.hi c.lo c.hi _ _ 0 w (Lib.hid fun p q s v hp hq hs => computed_cap a.lo a.hi c.lo c.hi _ _ 0 p q s v hp hq (Lib.hid fun u hb => lcheck2_ok i j s u (hs.below hb))
    (Lib.hid fun pb u hC hP hQ n m => capLit_walk a.lo a.hi c.lo c.hi (sqrR c).lo (sqrR c).hi (subR (oneR u1) (sqrR c)).lo (subR (oneR u1) (sqrR c)).hi (capR a c).lo (capR a c).hi 0 0 0 pb p q u hC hP hQ n m
      (Lib.hid fun pb => calc_num u1_fit pb) (Lib.hid fun pb => calc_sqr j.fit (sqr_fit1 j) pb) (Lib.hid fun pb => calc_sub u1_fit (sqr_fit1 j) (left_fit j) pb) (Lib.hid fun pb => calc_mul i.fit (left_fit j) (cap_fit i j) pb)))
end
theorem over_bad (al ah : Nat) (R p g : Bool) (e : Int) (he : (if R = true then (if (p || g) = true then (2 : Int) else 0) else 20) = e) (hne : (e != 0) = true)
    (cR : ∀ w, Calls Try.prog 20 #[.agg #[.float .f64 al, .float .f64 ah]] w fun r w' => r = .returned (.bool R) ∧ Below w.heap.size w w')
    (o : (FloatKind.f64.format.order al 0 == some Ordering.lt) = p) (u : (FloatKind.f64.format.order ah 4607182418800017408 == some Ordering.gt) = g) (w : World) :
    Calls Try.prog 95 #[.agg #[.float .f64 al, .float .f64 ah]] w fun r w' => r = .returned (.tuple #[.agg #[.float .f64 0, .float .f64 0], .int .i64 e]) ∧ Below w.heap.size w w' := by
  subst he
  exact overPi_walk al ah 0 0 _ w (Lib.hid fun p s v _ hs => computed_over_bad _ hne p s v (Lib.hid fun u' hb => lcheck1_walk s al ah R _ _ u' (hs.below hb) (Lib.hid cR) o u))
theorem right_one {x : Nat} (lx : x < 18446744073709551616) (rx : rightB x = true) (w : World) : Calls Try.prog 20 #[.agg #[.float .f64 x, .float .f64 x]] w fun r w' => r = .returned (.bool true) ∧ Below w.heap.size w w' := right_in (one_fit lx rx) w
theorem value_badx (x : Nat) (lx : x < 18446744073709551616) (rx : rightB x = true) (o : (FloatKind.f64.format.order x 0 == some Ordering.lt) = false) (u : (FloatKind.f64.format.order x 4607182418800017408 == some Ordering.gt) = true) (w : World) :
    Calls Try.prog 48 #[.agg #[.float .f64 x, .float .f64 x]] w fun r w' => r = .returned (.tuple #[.agg #[.float .f64 0, .float .f64 0], .int .i64 2]) ∧ Below w.heap.size w w' :=
  value_walk _ _ 0 0 2 w (Lib.hid fun w => over_bad x x true false true 2 rfl rfl (right_one lx rx) o u w)
theorem bad15 (w : World) : Calls Try.prog 48 #[.agg #[.float .f64 4609434218613702656, .float .f64 4609434218613702656]] w fun r w' => r = .returned (.tuple #[.agg #[.float .f64 0, .float .f64 0], .int .i64 2]) ∧ Below w.heap.size w w' :=
  value_badx 4609434218613702656 (by decide) (by decide) (by decide +kernel) (by decide +kernel) w
theorem un_of (x : Nat) (h : (fitB (oneR x) && leB 0 x && leB x u1) = true) : In (oneR x) unI := by
  simp only [Bool.and_eq_true] at h
  exact ⟨.of h.1.1, of_decide_eq_true h.1.2, of_decide_eq_true h.2⟩
def halfW : Nat := 4602678819172646912
theorem un_one : In (oneR u1) unI := un_of _ (by decide +kernel)
theorem un_nil : In (oneR 0) unI := un_of _ (by decide +kernel)
theorem un_half : In (oneR 4602678819172646912) unI := un_of _ (by decide +kernel)
theorem cap_is {a c : Res} (i : In a unI) (j : In c unI) (l h : Nat) (e1 : (capR a c).lo = l) (e2 : (capR a c).hi = h) (w : World) : Calls Try.prog 49 #[.agg #[.float .f64 a.lo, .float .f64 a.hi], .agg #[.float .f64 c.lo, .float .f64 c.hi]] w fun r w' => r = .returned (.tuple #[.agg #[.float .f64 l, .float .f64 h], .int .i64 0]) ∧ Below w.heap.size w w' := by
  have k := cap_any i j w
  rw [e1, e2] at k; exact k
theorem density_is {a : Res} (i : In a unI) (l h : Nat) (e1 : (valueR a).lo = l) (e2 : (valueR a).hi = h) (w : World) : Calls Try.prog 54 #[.agg #[.float .f64 a.lo, .float .f64 a.hi]] w fun r w' => r = .returned (.tuple #[.agg #[.float .f64 l, .float .f64 h], .int .i64 0]) ∧ Below w.heap.size w w' := by
  have k := density_any i w
  rw [e1, e2] at k; exact k
theorem awake7_any (w : World) : Calls Try.prog 51 #[] w fun r w' => r = .returned (.bool true) ∧ Below w.heap.size w w' :=
  awake7_walk (al := (valueR (oneR u1)).lo) (ah := (valueR (oneR u1)).hi) (da := (floatBits .sub .f64 (valueR (oneR u1)).hi (valueR (oneR u1)).lo).getD 0) w
    (Lib.hid (p7_lit _ (by decide +kernel))) (Lib.hid fun w => value_any un_one w) (Lib.hid (p7_lit _ (by decide +kernel))) (Lib.hid (density_is un_nil 0 0 (by decide +kernel) (by decide +kernel)))
    (Lib.hid (p7_lit _ (by decide +kernel))) (Lib.hid (cap_is un_half un_nil _ _ (by decide +kernel) (by decide +kernel))) (Lib.hid (cap_is un_half un_half _ _ (by decide +kernel) (by decide +kernel)))
    (Lib.hid (p7_lit _ (by decide +kernel))) (Lib.hid bad15) (by decide +kernel) (by decide +kernel) (wd_sub rfl (by decide +kernel)) (by decide +kernel) (by decide +kernel) (by decide +kernel) (Lib.hid (p7_lit _ (by decide +kernel))) (by decide +kernel)

end Go.Proofs.Ytoocmocaelcbkaa
