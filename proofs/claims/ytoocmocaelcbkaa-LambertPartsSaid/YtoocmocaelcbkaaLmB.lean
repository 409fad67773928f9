
/- Law file 7: its functions p and awake; package lambert's functions of what is from 0 to 1. -/
import Derived.Test.YtoocmocaelcbkaaLmM
import Derived.Test.YtoocmocaelcbkaaLmA
import Derived.Deep.RegionHeld3
namespace Go.Proofs.Ytoocmocaelcbkaa
open Go.RowKit
attribute [local go_sem] run_store_float

set_option maxRecDepth 100000 in
set_option maxHeartbeats 16000000 in
theorem awake7_walk {al ah da : Nat} (w : World)
    (c1 : Hid (∀ w, Calls Try.prog 46 #[.float .f64 4607182418800017408] w fun r w' => r = .returned (.agg #[.float .f64 4607182418800017408, .float .f64 4607182418800017408]) ∧ Below w.heap.size w w'))
    (c2 : Hid (∀ w, Calls Try.prog 48 #[.agg #[.float .f64 4607182418800017408, .float .f64 4607182418800017408]] w fun r w' => r = .returned (.tuple #[.agg #[.float .f64 al, .float .f64 ah], .int .i64 0]) ∧ Below w.heap.size w w'))
    (c3 : Hid (∀ w, Calls Try.prog 46 #[.float .f64 0] w fun r w' => r = .returned (.agg #[.float .f64 0, .float .f64 0]) ∧ Below w.heap.size w w'))
    (c4 : Hid (∀ w, Calls Try.prog 54 #[.agg #[.float .f64 0, .float .f64 0]] w fun r w' => r = .returned (.tuple #[.agg #[.float .f64 0, .float .f64 0], .int .i64 0]) ∧ Below w.heap.size w w'))
    (c5 : Hid (∀ w, Calls Try.prog 46 #[.float .f64 4602678819172646912] w fun r w' => r = .returned (.agg #[.float .f64 4602678819172646912, .float .f64 4602678819172646912]) ∧ Below w.heap.size w w'))
    (c7 : Hid (∀ w, Calls Try.prog 49 #[.agg #[.float .f64 4602678819172646912, .float .f64 4602678819172646912], .agg #[.float .f64 0, .float .f64 0]] w fun r w' => r = .returned (.tuple #[.agg #[.float .f64 4602678819172646912, .float .f64 4602678819172646912], .int .i64 0]) ∧ Below w.heap.size w w'))
    (c10 : Hid (∀ w, Calls Try.prog 49 #[.agg #[.float .f64 4602678819172646912, .float .f64 4602678819172646912], .agg #[.float .f64 4602678819172646912, .float .f64 4602678819172646912]] w fun r w' => r = .returned (.tuple #[.agg #[.float .f64 4600427019358961664, .float .f64 4600427019358961664], .int .i64 0]) ∧ Below w.heap.size w w'))
    (c11 : Hid (∀ w, Calls Try.prog 46 #[.float .f64 4609434218613702656] w fun r w' => r = .returned (.agg #[.float .f64 4609434218613702656, .float .f64 4609434218613702656]) ∧ Below w.heap.size w w'))
    (c12 : Hid (∀ w, Calls Try.prog 48 #[.agg #[.float .f64 4609434218613702656, .float .f64 4609434218613702656]] w fun r w' => r = .returned (.tuple #[.agg #[.float .f64 0, .float .f64 0], .int .i64 2]) ∧ Below w.heap.size w w'))
    (o_geqal_781053817700 : (((FloatKind.f64.format.order al 4599405781053817700 == some Ordering.gt) || (FloatKind.f64.format.order al 4599405781053817700 == some Ordering.eq)) = true))
    (o_leqah_781071832099 : (((FloatKind.f64.format.order ah 4599405781071832099 == some Ordering.lt) || (FloatKind.f64.format.order ah 4599405781071832099 == some Ordering.eq)) = true))
    (q_da : (∀ w, (binOp .sub 22 (.float .f64 ah) (.float .f64 al)).run Try.prog w = .ok (.float .f64 da) w))
    (o_leqda_437431492608 : (((FloatKind.f64.format.order da 4382002437431492608 == some Ordering.lt) || (FloatKind.f64.format.order da 4382002437431492608 == some Ordering.eq)) = true))
    (e_0_0 : (Op.floatEq .f64 0 0 = true))
    (e_819172646912_819172646912 : (Op.floatEq .f64 4602678819172646912 4602678819172646912 = true))
    (c14 : Hid (∀ w, Calls Try.prog 46 #[.float .f64 4600427019358961664] w fun r w' => r = .returned (.agg #[.float .f64 4600427019358961664, .float .f64 4600427019358961664]) ∧ Below w.heap.size w w'))
    (e_019358961664_019358961664 : (Op.floatEq .f64 4600427019358961664 4600427019358961664 = true)) :
    Calls Try.prog 51 #[] w fun r w' => r = .returned (.bool true) ∧ Below w.heap.size w w' := by
  have M := Lib.hid (Own.nil w)
  have eqF := eq_floats
  go_enter Try.func51, Try.ntmps51
  go_wp2_with fail
  refine (c1.out _).mono ?_
  rintro r w1_ ⟨rfl, hb⟩
  replace M := Lib.hid (M.out.below hb)
  clear hb
  go_wp2_with fail
  refine (c2.out _).mono ?_
  rintro r w2_ ⟨rfl, hb⟩
  replace M := Lib.hid (M.out.below hb)
  clear hb
  replace M := Lib.hid (M.out.made #[.float .f64 al, .float .f64 ah] 24)
  go_wp2_with fail
  refine (c3.out _).mono ?_
  rintro r w3_ ⟨rfl, hb⟩
  replace M := Lib.hid (M.out.below hb)
  clear hb
  go_wp2_with fail
  refine (c4.out _).mono ?_
  rintro r w4_ ⟨rfl, hb⟩
  replace M := Lib.hid (M.out.below hb)
  clear hb
  replace M := Lib.hid (M.out.made #[.float .f64 0, .float .f64 0] 24)
  go_wp2_with fail
  refine (c5.out _).mono ?_
  rintro r w5_ ⟨rfl, hb⟩
  replace M := Lib.hid (M.out.below hb)
  clear hb
  go_wp2_with fail
  refine (c3.out _).mono ?_
  rintro r w6_ ⟨rfl, hb⟩
  replace M := Lib.hid (M.out.below hb)
  clear hb
  go_wp2_with fail
  refine (c7.out _).mono ?_
  rintro r w7_ ⟨rfl, hb⟩
  replace M := Lib.hid (M.out.below hb)
  clear hb
  replace M := Lib.hid (M.out.made #[.float .f64 4602678819172646912, .float .f64 4602678819172646912] 24)
  go_wp2_with fail
  refine (c5.out _).mono ?_
  rintro r w8_ ⟨rfl, hb⟩
  replace M := Lib.hid (M.out.below hb)
  clear hb
  go_wp2_with fail
  refine (c5.out _).mono ?_
  rintro r w9_ ⟨rfl, hb⟩
  replace M := Lib.hid (M.out.below hb)
  clear hb
  go_wp2_with fail
  refine (c10.out _).mono ?_
  rintro r w10_ ⟨rfl, hb⟩
  replace M := Lib.hid (M.out.below hb)
  clear hb
  replace M := Lib.hid (M.out.made #[.float .f64 4600427019358961664, .float .f64 4600427019358961664] 24)
  go_wp2_with fail
  refine (c11.out _).mono ?_
  rintro r w11_ ⟨rfl, hb⟩
  replace M := Lib.hid (M.out.below hb)
  clear hb
  go_wp2_with fail
  refine (c12.out _).mono ?_
  rintro r w12_ ⟨rfl, hb⟩
  replace M := Lib.hid (M.out.below hb)
  clear hb
  replace M := Lib.hid (M.out.made #[.float .f64 0, .float .f64 0] 24)
  go_upto_region 6 with fail
  replace M := Lib.hid M.out.drew
  obtain ⟨k1, k2⟩ := (M.out.nth 4 rfl).two
  obtain ⟨k3, k4⟩ := (M.out.nth 3 rfl).two
  obtain ⟨k5, k6⟩ := (M.out.nth 2 rfl).two
  obtain ⟨k7, k8⟩ := (M.out.nth 1 rfl).two
  go_region_held3 (fun w' => (w'.cell? ⟨w2_.heap.size, 0, none⟩ = some (.float .f64 al) ∧ w'.cell? ⟨w2_.heap.size, 1, none⟩ = some (.float .f64 ah)) ∧ (w'.cell? ⟨w4_.heap.size, 0, none⟩ = some (.float .f64 0) ∧ w'.cell? ⟨w4_.heap.size, 1, none⟩ = some (.float .f64 0)) ∧ (w'.cell? ⟨w7_.heap.size, 0, none⟩ = some (.float .f64 4602678819172646912) ∧ w'.cell? ⟨w7_.heap.size, 1, none⟩ = some (.float .f64 4602678819172646912)) ∧ (w'.cell? ⟨w10_.heap.size, 0, none⟩ = some (.float .f64 4600427019358961664) ∧ w'.cell? ⟨w10_.heap.size, 1, none⟩ = some (.float .f64 4600427019358961664))) (((try dsimp only); (repeat' apply And.intro); all_goals (repeat (first | (with_reducible assumption) | ((with_reducible refine keep_undrew ?_); (with_reducible assumption)) | (with_reducible refine keep_drew ?_) | (with_reducible refine keep_alloc _ ?_) | (with_reducible refine keep_set _ (by first | (with_reducible assumption) | omega) ?_)))))
    (first
      | (go_at_call 46; (with_reducible refine (c5.out _).mono ?_); rintro rr w5 ⟨rfl, hb⟩; replace M := Lib.hid (M.out.below hb); clear hb; clear k1 k2 k3 k4 k5 k6 k7 k8; obtain ⟨k1, k2⟩ := (M.out.nth 4 rfl).two; obtain ⟨k3, k4⟩ := (M.out.nth 3 rfl).two; obtain ⟨k5, k6⟩ := (M.out.nth 2 rfl).two; obtain ⟨k7, k8⟩ := (M.out.nth 1 rfl).two)
      | (go_at_call 46; (with_reducible refine (c14.out _).mono ?_); rintro rr w5 ⟨rfl, hb⟩; replace M := Lib.hid (M.out.below hb); clear hb; clear k1 k2 k3 k4 k5 k6 k7 k8; obtain ⟨k1, k2⟩ := (M.out.nth 4 rfl).two; obtain ⟨k3, k4⟩ := (M.out.nth 3 rfl).two; obtain ⟨k5, k6⟩ := (M.out.nth 2 rfl).two; obtain ⟨k7, k8⟩ := (M.out.nth 1 rfl).two))
  clear k1 k2 k3 k4 k5 k6 k7 k8
  go_wp2
  go_ret
  exact ⟨rfl, M.out.base⟩

theorem add_nil {x : Nat} (lx : x < 18446744073709551616) (rx : rightB x = true) (px : 0 ≤ val x) : floatBits .add .f64 x 0 = some x := by
  obtain ⟨r, h1, h2, h3, h4, h5⟩ := add_near lx (by decide : (0 : Nat) < 18446744073709551616) rx (by decide) px (by rw [v00]; exact Int.le_refl _) (y0 := x) lx rx (by rw [v00]; omega)
  rw [h1, val_inj h2 lx h3 rx (Int.le_antisymm h5 h4)]
set_option maxRecDepth 100000 in
theorem p7_any {x : Nat} (lx : x < 18446744073709551616) (rx : rightB x = true) (px : 0 ≤ val x) (w : World) :
    Calls Try.prog 46 #[.float .f64 x] w fun r w' => r = .returned (.agg #[.float .f64 x, .float .f64 x]) ∧ Below w.heap.size w w' := by
  have cP := Lib.hid fun w => point_walk x w (fun w => run_float_arith w .add 22 .f64 _ _ _ (add_nil lx rx px))
  clear lx rx px
  have M := Lib.hid ((Own.nil w).made #[.float .f64 0, .float .f64 0] 24)
  go_enter Try.func46, Try.ntmps46
  go_wp2_with fail
  refine (cP.out _).mono ?_
  rintro r w1 ⟨rfl, hb⟩
  replace M := Lib.hid (M.out.below hb)
  have kc := (M.out.nth 0 rfl).2.1
  have kf := (M.out.nth 0 rfl).2.2
  replace M := Lib.hid (M.out.set2 0 rfl (.float .f64 x) (.float .f64 x))
  go_wp2
  obtain ⟨f1, f2⟩ := (M.out.nth 0 rfl).two
  exact bodyPost_ret (v := .agg #[.float .f64 x, .float .f64 x]) (by simp [results, Try.results46, go_sem, f1, f2]) rfl ⟨rfl, M.out.base⟩
theorem p7_lit (x : Nat) (h : (decide (x < 18446744073709551616) && rightB x && leB 0 x) = true) (w : World) :
    Calls Try.prog 46 #[.float .f64 x] w fun r w' => r = .returned (.agg #[.float .f64 x, .float .f64 x]) ∧ Below w.heap.size w w' := by
  simp only [Bool.and_eq_true, decide_eq_true_eq] at h
  exact p7_any h.1.1 h.1.2 (by have := of_decide_eq_true h.2; rw [v00] at this; exact this) w

section
variable {a c : Res}
theorem lcheck1_ok (i : In a unI) (q : Nat) (v : World) (h : Has1 v (q, #[.float .f64 a.lo, .float .f64 a.hi])) :
    Calls Try.prog 121 #[.slice (some ⟨q, 0, none⟩) 1 1] v fun r w' => r = .returned (.int .i64 0) ∧ Below v.heap.size v w' :=
  lcheck1_walk q a.lo a.hi true false false v h (Lib.hid (right_in i.fit)) (lt_in i un_fit) (gt_in i un_fit)
theorem lcheck2_ok (i : In a unI) (j : In c unI) (q : Nat) (v : World) (h : Has1 v (q, #[.float .f64 a.lo, .float .f64 a.hi, .float .f64 c.lo, .float .f64 c.hi])) :
    Calls Try.prog 121 #[.slice (some ⟨q, 0, none⟩) 2 2] v fun r w' => r = .returned (.int .i64 0) ∧ Below v.heap.size v w' :=
  lcheck2_walk q a.lo a.hi c.lo c.hi true true false false false false v h (Lib.hid (right_in i.fit)) (Lib.hid (right_in j.fit)) (lt_in i un_fit) (gt_in i un_fit) (lt_in j un_fit) (gt_in j un_fit)
theorem over_any (i : In a unI) (w : World) : Calls Try.prog 95 #[.agg #[.float .f64 a.lo, .float .f64 a.hi]] w fun r w' => r = .returned (.tuple #[.agg #[.float .f64 (valueR a).lo, .float .f64 (valueR a).hi], .int .i64 0]) ∧ Below w.heap.size w w' :=
  overPi_walk a.lo a.hi _ _ 0 w (Lib.hid fun p s v hp hs => computed_over a.lo a.hi _ _ 0 p s v hp (Lib.hid fun u hb => lcheck1_ok i s u (hs.below hb))
    (Lib.hid fun pb u hC hP n => overLit_walk a.lo a.hi piR.lo piR.hi (valueR a).lo (valueR a).hi 0 pb p u hC hP n (Lib.hid fun w => pi_any w) (Lib.hid fun pb => calc_div i.fit big_fit.1 (value_fit i) pb)))
theorem value_any (i : In a unI) (w : World) : Calls Try.prog 48 #[.agg #[.float .f64 a.lo, .float .f64 a.hi]] w fun r w' => r = .returned (.tuple #[.agg #[.float .f64 (valueR a).lo, .float .f64 (valueR a).hi], .int .i64 0]) ∧ Below w.heap.size w w' :=
  value_walk a.lo a.hi _ _ 0 w (Lib.hid fun w => over_any i w)
theorem density_any (i : In a unI) (w : World) : Calls Try.prog 54 #[.agg #[.float .f64 a.lo, .float .f64 a.hi]] w fun r w' => r = .returned (.tuple #[.agg #[.float .f64 (valueR a).lo, .float .f64 (valueR a).hi], .int .i64 0]) ∧ Below w.heap.size w w' :=
  density_walk a.lo a.hi _ _ 0 w (Lib.hid fun w => over_any i w)
theorem cap_any (i : In a unI) (j : In c unI) (w : World) : Calls Try.prog 49 #[.agg #[.float .f64 a.lo, .float .f64 a.hi], .agg #[.float .f64 c.lo, .float .f64 c.hi]] w fun r w' => r = .returned (.tuple #[.agg #[.float .f64 (capR a c).lo, .float .f64 (capR a c).hi], .int .i64 0]) ∧ Below w.heap.size w w' :=
  cap_walk a.lo a.hi c.lo c.hi _ _ 0 w (Lib.hid fun p q s v hp hq hs => computed_cap a.lo a.hi c.lo c.hi _ _ 0 p q s v hp hq (Lib.hid fun u hb => lcheck2_ok i j s u (hs.below hb))
    (Lib.hid fun pb u hC hP hQ n m => capLit_walk a.lo a.hi c.lo c.hi (sqrR c).lo (sqrR c).hi (subR (oneR u1) (sqrR c)).lo (subR (oneR u1) (sqrR c)).hi (capR a c).lo (capR a c).hi 0 0 0 pb p q u hC hP hQ n m
      (Lib.hid fun pb => calc_num u1_fit pb) (Lib.hid fun pb => calc_sqr j.fit (sqr_fit1 j) pb) (Lib.hid fun pb => calc_sub u1_fit (sqr_fit1 j) (left_fit j) pb) (Lib.hid fun pb => calc_mul i.fit (left_fit j) (cap_fit i j) pb)))
end
theorem over_bad (al ah : Nat) (R p g : Bool) (e : Int) (he : (if R = true then (if (p || g) = true then (2 : Int) else 0) else 20) = e) (hne : (e != 0) = true)
    (cR : ∀ w, Calls Try.prog 20 #[.agg #[.float .f64 al, .float .f64 ah]] w fun r w' => r = .returned (.bool R) ∧ Below w.heap.size w w')
    (o : (FloatKind.f64.format.order al 0 == some Ordering.lt) = p) (u : (FloatKind.f64.format.order ah 4607182418800017408 == some Ordering.gt) = g) (w : World) :
    Calls Try.prog 95 #[.agg #[.float .f64 al, .float .f64 ah]] w fun r w' => r = .returned (.tuple #[.agg #[.float .f64 0, .float .f64 0], .int .i64 e]) ∧ Below w.heap.size w w' := by
  subst he
  exact overPi_walk al ah 0 0 _ w (Lib.hid fun p s v _ hs => computed_over_bad _ hne p s v (Lib.hid fun u' hb => lcheck1_walk s al ah R _ _ u' (hs.below hb) (Lib.hid cR) o u))
theorem right_one {x : Nat} (lx : x < 18446744073709551616) (rx : rightB x = true) (w : World) : Calls Try.prog 20 #[.agg #[.float .f64 x, .float .f64 x]] w fun r w' => r = .returned (.bool true) ∧ Below w.heap.size w w' := right_in (one_fit lx rx) w
theorem value_badx (x : Nat) (lx : x < 18446744073709551616) (rx : rightB x = true) (o : (FloatKind.f64.format.order x 0 == some Ordering.lt) = false) (u : (FloatKind.f64.format.order x 4607182418800017408 == some Ordering.gt) = true) (w : World) :
    Calls Try.prog 48 #[.agg #[.float .f64 x, .float .f64 x]] w fun r w' => r = .returned (.tuple #[.agg #[.float .f64 0, .float .f64 0], .int .i64 2]) ∧ Below w.heap.size w w' :=
  value_walk _ _ 0 0 2 w (Lib.hid fun w => over_bad x x true false true 2 rfl rfl (right_one lx rx) o u w)
theorem bad15 (w : World) : Calls Try.prog 48 #[.agg #[.float .f64 4609434218613702656, .float .f64 4609434218613702656]] w fun r w' => r = .returned (.tuple #[.agg #[.float .f64 0, .float .f64 0], .int .i64 2]) ∧ Below w.heap.size w w' :=
  value_badx 4609434218613702656 (by decide) (by decide) (by decide +kernel) (by decide +kernel) w
theorem un_of (x : Nat) (h : (fitB (oneR x) && leB 0 x && leB x u1) = true) : In (oneR x) unI := by
  simp only [Bool.and_eq_true] at h
  exact ⟨.of h.1.1, of_decide_eq_true h.1.2, of_decide_eq_true h.2⟩
def halfW : Nat := 4602678819172646912
theorem un_one : In (oneR u1) unI := un_of _ (by decide +kernel)
theorem un_nil : In (oneR 0) unI := un_of _ (by decide +kernel)
theorem un_half : In (oneR 4602678819172646912) unI := un_of _ (by decide +kernel)
theorem cap_is {a c : Res} (i : In a unI) (j : In c unI) (l h : Nat) (e1 : (capR a c).lo = l) (e2 : (capR a c).hi = h) (w : World) : Calls Try.prog 49 #[.agg #[.float .f64 a.lo, .float .f64 a.hi], .agg #[.float .f64 c.lo, .float .f64 c.hi]] w fun r w' => r = .returned (.tuple #[.agg #[.float .f64 l, .float .f64 h], .int .i64 0]) ∧ Below w.heap.size w w' := by
  have k := cap_any i j w
  rw [e1, e2] at k; exact k
theorem density_is {a : Res} (i : In a unI) (l h : Nat) (e1 : (valueR a).lo = l) (e2 : (valueR a).hi = h) (w : World) : Calls Try.prog 54 #[.agg #[.float .f64 a.lo, .float .f64 a.hi]] w fun r w' => r = .returned (.tuple #[.agg #[.float .f64 l, .float .f64 h], .int .i64 0]) ∧ Below w.heap.size w w' := by
  have k := density_any i w
  rw [e1, e2] at k; exact k
theorem awake7_any (w : World) : Calls Try.prog 51 #[] w fun r w' => r = .returned (.bool true) ∧ Below w.heap.size w w' :=
  awake7_walk (al := (valueR (oneR u1)).lo) (ah := (valueR (oneR u1)).hi) (da := (floatBits .sub .f64 (valueR (oneR u1)).hi (valueR (oneR u1)).lo).getD 0) w
    (Lib.hid (p7_lit _ (by decide +kernel))) (Lib.hid fun w => value_any un_one w) (Lib.hid (p7_lit _ (by decide +kernel))) (Lib.hid (density_is un_nil 0 0 (by decide +kernel) (by decide +kernel)))
    (Lib.hid (p7_lit _ (by decide +kernel))) (Lib.hid (cap_is un_half un_nil _ _ (by decide +kernel) (by decide +kernel))) (Lib.hid (cap_is un_half un_half _ _ (by decide +kernel) (by decide +kernel)))
    (Lib.hid (p7_lit _ (by decide +kernel))) (Lib.hid bad15) (by decide +kernel) (by decide +kernel) (wd_sub rfl (by decide +kernel)) (by decide +kernel) (by decide +kernel) (by decide +kernel) (Lib.hid (p7_lit _ (by decide +kernel))) (by decide +kernel)

end Go.Proofs.Ytoocmocaelcbkaa
