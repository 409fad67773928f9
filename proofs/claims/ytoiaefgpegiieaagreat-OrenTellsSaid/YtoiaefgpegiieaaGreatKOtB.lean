/- OrenTells: the law's walk. -/
import Derived.Test.YtoiaefgpegiieaaGreatKQO1
import Derived.Deep.RegionHeld3
namespace Go.Proofs.YtoiaefgpegiieaaGreat
open Go.RowKit
attribute [local go_sem] run_store_float

set_option maxRecDepth 100000 in
set_option maxHeartbeats 16000000 in
theorem oren_tells_odd {rl rh sl sh il ih ol oh dl dh u0 u1 u2 u3 u4 u5 u6 u7 u8 u9 xl xh yl yh zl zh vl vh : Nat} {xe ye ze : Int} (w : World)
    (c1 : Hid (∀ w, Calls Tryz.prog 5 #[.agg #[.float .f64 sl, .float .f64 sh]] w fun r w' => r = .returned (.tuple #[.agg #[.float .f64 xl, .float .f64 xh], .agg #[.float .f64 yl, .float .f64 yh], .int .i64 xe]) ∧ Below w.heap.size w w'))
    (c2 : Hid (∀ w, Calls Tryz.prog 6 #[.agg #[.float .f64 sl, .float .f64 sh]] w fun r w' => r = .returned (.tuple #[.agg #[.float .f64 xl, .float .f64 xh], .agg #[.float .f64 yl, .float .f64 yh], .int .i64 xe]) ∧ Below w.heap.size w w'))
    (c3 : Hid (∀ w, Calls Tryz.prog 7 #[.agg #[.float .f64 il, .float .f64 ih], .agg #[.float .f64 ol, .float .f64 oh], .agg #[.float .f64 dl, .float .f64 dh]] w fun r w' => r = .returned (.tuple #[.agg #[.float .f64 zl, .float .f64 zh], .int .i64 ye]) ∧ Below w.heap.size w w'))
    (c4 : Hid (∀ w, Calls Tryz.prog 8 #[.agg #[.float .f64 il, .float .f64 ih], .agg #[.float .f64 ol, .float .f64 oh], .agg #[.float .f64 dl, .float .f64 dh]] w fun r w' => r = .returned (.tuple #[.agg #[.float .f64 zl, .float .f64 zh], .int .i64 ye]) ∧ Below w.heap.size w w'))
    (c5 : Hid (∀ w, Calls Tryz.prog 9 #[.agg #[.float .f64 rl, .float .f64 rh, .float .f64 sl, .float .f64 sh, .float .f64 il, .float .f64 ih, .float .f64 ol, .float .f64 oh, .float .f64 dl, .float .f64 dh]] w fun r w' => r = .returned (.tuple #[.agg #[.float .f64 vl, .float .f64 vh], .int .i64 ze]) ∧ Below w.heap.size w w'))
    (c6 : Hid (∀ w, Calls Tryz.prog 10 #[.agg #[.float .f64 rl, .float .f64 rh], .agg #[.float .f64 sl, .float .f64 sh], .agg #[.float .f64 il, .float .f64 ih], .agg #[.float .f64 ol, .float .f64 oh], .agg #[.float .f64 dl, .float .f64 dh]] w fun r w' => r = .returned (.tuple #[.agg #[.float .f64 vl, .float .f64 vh], .int .i64 ze]) ∧ Below w.heap.size w w'))
    (e_xl_xl : (Op.floatEq .f64 xl xl = true))
    (e_xh_xh : (Op.floatEq .f64 xh xh = true))
    (e_yl_yl : (Op.floatEq .f64 yl yl = true))
    (e_yh_yh : (Op.floatEq .f64 yh yh = true))
    (e_zl_zl : (Op.floatEq .f64 zl zl = true))
    (e_zh_zh : (Op.floatEq .f64 zh zh = true))
    (e_vl_vl : (Op.floatEq .f64 vl vl = true))
    (e_vh_vh : (Op.floatEq .f64 vh vh = true))
    (c7 : Hid (∀ w, Calls Tryz.prog 11 #[] w fun r w' => r = .returned (.bool true) ∧ Below w.heap.size w w'))
    (t : ((u0 : Int) % 2 == 0) = false) :
    Calls Tryz.prog 3 #[.agg #[.float .f64 rl, .float .f64 rh, .float .f64 sl, .float .f64 sh, .float .f64 il, .float .f64 ih, .float .f64 ol, .float .f64 oh, .float .f64 dl, .float .f64 dh], .agg #[.int .u32 u0, .int .u32 u1, .int .u32 u2, .int .u32 u3, .int .u32 u4, .int .u32 u5, .int .u32 u6, .int .u32 u7, .int .u32 u8, .int .u32 u9]] w fun r w' => r = .returned (.bool true) ∧ Below w.heap.size w w' := by
  have M := Lib.hid (((Own.nil w).made #[.float .f64 rl, .float .f64 rh, .float .f64 sl, .float .f64 sh, .float .f64 il, .float .f64 ih, .float .f64 ol, .float .f64 oh, .float .f64 dl, .float .f64 dh] 26).made #[.int .u32 u0, .int .u32 u1, .int .u32 u2, .int .u32 u3, .int .u32 u4, .int .u32 u5, .int .u32 u6, .int .u32 u7, .int .u32 u8, .int .u32 u9] 28)
  simp only [World.size_alloc] at M
  have eqF := eq_floats
  go_enter Tryz.func3, Tryz.ntmps3
  obtain ⟨k1, k2, k3, k4, k5, k6, k7, k8, k9, k10⟩ := (M.out.nth 0 rfl).ten
  obtain ⟨k11, k12, k13, k14, k15, k16, k17, k18, k19, k20⟩ := (M.out.nth 1 rfl).ten
  go_wp2_with fail
  refine (c1.out _).mono ?_
  rintro r w1_ ⟨rfl, hb⟩
  replace M := Lib.hid (M.out.below hb)
  clear hb
  clear k1 k2 k3 k4 k5 k6 k7 k8 k9 k10 k11 k12 k13 k14 k15 k16 k17 k18 k19 k20
  replace M := Lib.hid (M.out.made #[.float .f64 xl, .float .f64 xh] 24)
  replace M := Lib.hid (M.out.made #[.float .f64 yl, .float .f64 yh] 24)
  simp only [World.size_alloc] at M
  obtain ⟨k1, k2, k3, k4, k5, k6, k7, k8, k9, k10⟩ := (M.out.nth 3 rfl).ten
  go_wp2_with fail
  refine (c2.out _).mono ?_
  rintro r w2_ ⟨rfl, hb⟩
  replace M := Lib.hid (M.out.below hb)
  clear hb
  clear k1 k2 k3 k4 k5 k6 k7 k8 k9 k10
  replace M := Lib.hid (M.out.made #[.float .f64 xl, .float .f64 xh] 24)
  replace M := Lib.hid (M.out.made #[.float .f64 yl, .float .f64 yh] 24)
  simp only [World.size_alloc] at M
  obtain ⟨k1, k2, k3, k4, k5, k6, k7, k8, k9, k10⟩ := (M.out.nth 5 rfl).ten
  go_wp2_with fail
  refine (c3.out _).mono ?_
  rintro r w3_ ⟨rfl, hb⟩
  replace M := Lib.hid (M.out.below hb)
  clear hb
  clear k1 k2 k3 k4 k5 k6 k7 k8 k9 k10
  replace M := Lib.hid (M.out.made #[.float .f64 zl, .float .f64 zh] 24)
  obtain ⟨k1, k2, k3, k4, k5, k6, k7, k8, k9, k10⟩ := (M.out.nth 6 rfl).ten
  go_wp2_with fail
  refine (c4.out _).mono ?_
  rintro r w4_ ⟨rfl, hb⟩
  replace M := Lib.hid (M.out.below hb)
  clear hb
  clear k1 k2 k3 k4 k5 k6 k7 k8 k9 k10
  replace M := Lib.hid (M.out.made #[.float .f64 zl, .float .f64 zh] 24)
  obtain ⟨k1, k2, k3, k4, k5, k6, k7, k8, k9, k10⟩ := (M.out.nth 7 rfl).ten
  go_wp2_with fail
  refine (c5.out _).mono ?_
  rintro r w5_ ⟨rfl, hb⟩
  replace M := Lib.hid (M.out.below hb)
  clear hb
  clear k1 k2 k3 k4 k5 k6 k7 k8 k9 k10
  replace M := Lib.hid (M.out.made #[.float .f64 vl, .float .f64 vh] 24)
  obtain ⟨k1, k2, k3, k4, k5, k6, k7, k8, k9, k10⟩ := (M.out.nth 8 rfl).ten
  go_wp2_with fail
  refine (c6.out _).mono ?_
  rintro r w6_ ⟨rfl, hb⟩
  replace M := Lib.hid (M.out.below hb)
  clear hb
  clear k1 k2 k3 k4 k5 k6 k7 k8 k9 k10
  replace M := Lib.hid (M.out.made #[.float .f64 vl, .float .f64 vh] 24)
  obtain ⟨k1, k2⟩ := (M.out.nth 7 rfl).two
  obtain ⟨k3, k4⟩ := (M.out.nth 5 rfl).two
  obtain ⟨k5, k6⟩ := (M.out.nth 6 rfl).two
  obtain ⟨k7, k8⟩ := (M.out.nth 4 rfl).two
  obtain ⟨k9, k10⟩ := (M.out.nth 3 rfl).two
  obtain ⟨k11, k12⟩ := (M.out.nth 2 rfl).two
  obtain ⟨k13, k14⟩ := (M.out.nth 1 rfl).two
  go_wp2_with fail
  refine (c7.out _).mono ?_
  rintro r w7_ ⟨rfl, hb⟩
  replace M := Lib.hid (M.out.below hb)
  clear hb
  clear k1 k2 k3 k4 k5 k6 k7 k8 k9 k10 k11 k12 k13 k14
  go_wp2
  go_ret
  exact ⟨rfl, M.out.base⟩

set_option maxRecDepth 100000 in
set_option maxHeartbeats 16000000 in
theorem oren_tells_even {rl rh sl sh il ih ol oh dl dh u0 u1 u2 u3 u4 u5 u6 u7 u8 u9 pl ph ql qh al ah bl bh cl ch xl xh yl yh zl zh vl vh : Nat} {xe ye ze : Int} (w : World)
    (c1 : Hid (∀ w, Calls Tryz.prog 4 #[.agg #[.int .u32 u0, .int .u32 u1, .int .u32 u2, .int .u32 u3, .int .u32 u4, .int .u32 u5, .int .u32 u6, .int .u32 u7, .int .u32 u8, .int .u32 u9]] w fun r w' => r = .returned (.agg #[.float .f64 pl, .float .f64 ph, .float .f64 ql, .float .f64 qh, .float .f64 al, .float .f64 ah, .float .f64 bl, .float .f64 bh, .float .f64 cl, .float .f64 ch]) ∧ Below w.heap.size w w'))
    (c2 : Hid (∀ w, Calls Tryz.prog 5 #[.agg #[.float .f64 ql, .float .f64 qh]] w fun r w' => r = .returned (.tuple #[.agg #[.float .f64 xl, .float .f64 xh], .agg #[.float .f64 yl, .float .f64 yh], .int .i64 xe]) ∧ Below w.heap.size w w'))
    (c3 : Hid (∀ w, Calls Tryz.prog 6 #[.agg #[.float .f64 ql, .float .f64 qh]] w fun r w' => r = .returned (.tuple #[.agg #[.float .f64 xl, .float .f64 xh], .agg #[.float .f64 yl, .float .f64 yh], .int .i64 xe]) ∧ Below w.heap.size w w'))
    (c4 : Hid (∀ w, Calls Tryz.prog 7 #[.agg #[.float .f64 al, .float .f64 ah], .agg #[.float .f64 bl, .float .f64 bh], .agg #[.float .f64 cl, .float .f64 ch]] w fun r w' => r = .returned (.tuple #[.agg #[.float .f64 zl, .float .f64 zh], .int .i64 ye]) ∧ Below w.heap.size w w'))
    (c5 : Hid (∀ w, Calls Tryz.prog 8 #[.agg #[.float .f64 al, .float .f64 ah], .agg #[.float .f64 bl, .float .f64 bh], .agg #[.float .f64 cl, .float .f64 ch]] w fun r w' => r = .returned (.tuple #[.agg #[.float .f64 zl, .float .f64 zh], .int .i64 ye]) ∧ Below w.heap.size w w'))
    (c6 : Hid (∀ w, Calls Tryz.prog 9 #[.agg #[.float .f64 pl, .float .f64 ph, .float .f64 ql, .float .f64 qh, .float .f64 al, .float .f64 ah, .float .f64 bl, .float .f64 bh, .float .f64 cl, .float .f64 ch]] w fun r w' => r = .returned (.tuple #[.agg #[.float .f64 vl, .float .f64 vh], .int .i64 ze]) ∧ Below w.heap.size w w'))
    (c7 : Hid (∀ w, Calls Tryz.prog 10 #[.agg #[.float .f64 pl, .float .f64 ph], .agg #[.float .f64 ql, .float .f64 qh], .agg #[.float .f64 al, .float .f64 ah], .agg #[.float .f64 bl, .float .f64 bh], .agg #[.float .f64 cl, .float .f64 ch]] w fun r w' => r = .returned (.tuple #[.agg #[.float .f64 vl, .float .f64 vh], .int .i64 ze]) ∧ Below w.heap.size w w'))
    (e_xl_xl : (Op.floatEq .f64 xl xl = true))
    (e_xh_xh : (Op.floatEq .f64 xh xh = true))
    (e_yl_yl : (Op.floatEq .f64 yl yl = true))
    (e_yh_yh : (Op.floatEq .f64 yh yh = true))
    (e_zl_zl : (Op.floatEq .f64 zl zl = true))
    (e_zh_zh : (Op.floatEq .f64 zh zh = true))
    (e_vl_vl : (Op.floatEq .f64 vl vl = true))
    (e_vh_vh : (Op.floatEq .f64 vh vh = true))
    (c8 : Hid (∀ w, Calls Tryz.prog 11 #[] w fun r w' => r = .returned (.bool true) ∧ Below w.heap.size w w'))
    (t : ((u0 : Int) % 2 == 0) = true) :
    Calls Tryz.prog 3 #[.agg #[.float .f64 rl, .float .f64 rh, .float .f64 sl, .float .f64 sh, .float .f64 il, .float .f64 ih, .float .f64 ol, .float .f64 oh, .float .f64 dl, .float .f64 dh], .agg #[.int .u32 u0, .int .u32 u1, .int .u32 u2, .int .u32 u3, .int .u32 u4, .int .u32 u5, .int .u32 u6, .int .u32 u7, .int .u32 u8, .int .u32 u9]] w fun r w' => r = .returned (.bool true) ∧ Below w.heap.size w w' := by
  have M := Lib.hid (((Own.nil w).made #[.float .f64 rl, .float .f64 rh, .float .f64 sl, .float .f64 sh, .float .f64 il, .float .f64 ih, .float .f64 ol, .float .f64 oh, .float .f64 dl, .float .f64 dh] 26).made #[.int .u32 u0, .int .u32 u1, .int .u32 u2, .int .u32 u3, .int .u32 u4, .int .u32 u5, .int .u32 u6, .int .u32 u7, .int .u32 u8, .int .u32 u9] 28)
  simp only [World.size_alloc] at M
  have eqF := eq_floats
  go_enter Tryz.func3, Tryz.ntmps3
  obtain ⟨k1, k2, k3, k4, k5, k6, k7, k8, k9, k10⟩ := (M.out.nth 0 rfl).ten
  go_wp2_with fail
  refine (c1.out _).mono ?_
  rintro r w1_ ⟨rfl, hb⟩
  replace M := Lib.hid (M.out.below hb)
  clear hb
  clear k1 k2 k3 k4 k5 k6 k7 k8 k9 k10
  have kc := (M.out.nth 1 rfl).2.1
  have kf := (M.out.nth 1 rfl).2.2
  replace M : Hid (Own w [((w.heap.size + 1), #[.int .u32 u0, .int .u32 u1, .int .u32 u2, .int .u32 u3, .int .u32 u4, .int .u32 u5, .int .u32 u6, .int .u32 u7, .int .u32 u8, .int .u32 u9]), (w.heap.size, #[.float .f64 pl, .float .f64 rh, .float .f64 sl, .float .f64 sh, .float .f64 il, .float .f64 ih, .float .f64 ol, .float .f64 oh, .float .f64 dl, .float .f64 dh])] _) := Lib.hid ((M.out.setIn 1 rfl 0 (.float .f64 pl)).to (by rfl))
  replace M : Hid (Own w [((w.heap.size + 1), #[.int .u32 u0, .int .u32 u1, .int .u32 u2, .int .u32 u3, .int .u32 u4, .int .u32 u5, .int .u32 u6, .int .u32 u7, .int .u32 u8, .int .u32 u9]), (w.heap.size, #[.float .f64 pl, .float .f64 ph, .float .f64 sl, .float .f64 sh, .float .f64 il, .float .f64 ih, .float .f64 ol, .float .f64 oh, .float .f64 dl, .float .f64 dh])] _) := Lib.hid ((M.out.setIn 1 rfl 1 (.float .f64 ph)).to (by rfl))
  replace M : Hid (Own w [((w.heap.size + 1), #[.int .u32 u0, .int .u32 u1, .int .u32 u2, .int .u32 u3, .int .u32 u4, .int .u32 u5, .int .u32 u6, .int .u32 u7, .int .u32 u8, .int .u32 u9]), (w.heap.size, #[.float .f64 pl, .float .f64 ph, .float .f64 ql, .float .f64 sh, .float .f64 il, .float .f64 ih, .float .f64 ol, .float .f64 oh, .float .f64 dl, .float .f64 dh])] _) := Lib.hid ((M.out.setIn 1 rfl 2 (.float .f64 ql)).to (by rfl))
  replace M : Hid (Own w [((w.heap.size + 1), #[.int .u32 u0, .int .u32 u1, .int .u32 u2, .int .u32 u3, .int .u32 u4, .int .u32 u5, .int .u32 u6, .int .u32 u7, .int .u32 u8, .int .u32 u9]), (w.heap.size, #[.float .f64 pl, .float .f64 ph, .float .f64 ql, .float .f64 qh, .float .f64 il, .float .f64 ih, .float .f64 ol, .float .f64 oh, .float .f64 dl, .float .f64 dh])] _) := Lib.hid ((M.out.setIn 1 rfl 3 (.float .f64 qh)).to (by rfl))
  replace M : Hid (Own w [((w.heap.size + 1), #[.int .u32 u0, .int .u32 u1, .int .u32 u2, .int .u32 u3, .int .u32 u4, .int .u32 u5, .int .u32 u6, .int .u32 u7, .int .u32 u8, .int .u32 u9]), (w.heap.size, #[.float .f64 pl, .float .f64 ph, .float .f64 ql, .float .f64 qh, .float .f64 al, .float .f64 ih, .float .f64 ol, .float .f64 oh, .float .f64 dl, .float .f64 dh])] _) := Lib.hid ((M.out.setIn 1 rfl 4 (.float .f64 al)).to (by rfl))
  replace M : Hid (Own w [((w.heap.size + 1), #[.int .u32 u0, .int .u32 u1, .int .u32 u2, .int .u32 u3, .int .u32 u4, .int .u32 u5, .int .u32 u6, .int .u32 u7, .int .u32 u8, .int .u32 u9]), (w.heap.size, #[.float .f64 pl, .float .f64 ph, .float .f64 ql, .float .f64 qh, .float .f64 al, .float .f64 ah, .float .f64 ol, .float .f64 oh, .float .f64 dl, .float .f64 dh])] _) := Lib.hid ((M.out.setIn 1 rfl 5 (.float .f64 ah)).to (by rfl))
  replace M : Hid (Own w [((w.heap.size + 1), #[.int .u32 u0, .int .u32 u1, .int .u32 u2, .int .u32 u3, .int .u32 u4, .int .u32 u5, .int .u32 u6, .int .u32 u7, .int .u32 u8, .int .u32 u9]), (w.heap.size, #[.float .f64 pl, .float .f64 ph, .float .f64 ql, .float .f64 qh, .float .f64 al, .float .f64 ah, .float .f64 bl, .float .f64 oh, .float .f64 dl, .float .f64 dh])] _) := Lib.hid ((M.out.setIn 1 rfl 6 (.float .f64 bl)).to (by rfl))
  replace M : Hid (Own w [((w.heap.size + 1), #[.int .u32 u0, .int .u32 u1, .int .u32 u2, .int .u32 u3, .int .u32 u4, .int .u32 u5, .int .u32 u6, .int .u32 u7, .int .u32 u8, .int .u32 u9]), (w.heap.size, #[.float .f64 pl, .float .f64 ph, .float .f64 ql, .float .f64 qh, .float .f64 al, .float .f64 ah, .float .f64 bl, .float .f64 bh, .float .f64 dl, .float .f64 dh])] _) := Lib.hid ((M.out.setIn 1 rfl 7 (.float .f64 bh)).to (by rfl))
  replace M : Hid (Own w [((w.heap.size + 1), #[.int .u32 u0, .int .u32 u1, .int .u32 u2, .int .u32 u3, .int .u32 u4, .int .u32 u5, .int .u32 u6, .int .u32 u7, .int .u32 u8, .int .u32 u9]), (w.heap.size, #[.float .f64 pl, .float .f64 ph, .float .f64 ql, .float .f64 qh, .float .f64 al, .float .f64 ah, .float .f64 bl, .float .f64 bh, .float .f64 cl, .float .f64 dh])] _) := Lib.hid ((M.out.setIn 1 rfl 8 (.float .f64 cl)).to (by rfl))
  replace M : Hid (Own w [((w.heap.size + 1), #[.int .u32 u0, .int .u32 u1, .int .u32 u2, .int .u32 u3, .int .u32 u4, .int .u32 u5, .int .u32 u6, .int .u32 u7, .int .u32 u8, .int .u32 u9]), (w.heap.size, #[.float .f64 pl, .float .f64 ph, .float .f64 ql, .float .f64 qh, .float .f64 al, .float .f64 ah, .float .f64 bl, .float .f64 bh, .float .f64 cl, .float .f64 ch])] _) := Lib.hid ((M.out.setIn 1 rfl 9 (.float .f64 ch)).to (by rfl))
  obtain ⟨k3, k4, k5, k6, k7, k8, k9, k10, k11, k12⟩ := (M.out.nth 1 rfl).ten
  go_wp2_with fail
  refine (c2.out _).mono ?_
  rintro r w2_ ⟨rfl, hb⟩
  replace M := Lib.hid (M.out.below hb)
  clear hb
  clear kc kf k3 k4 k5 k6 k7 k8 k9 k10 k11 k12
  replace M := Lib.hid (M.out.made #[.float .f64 xl, .float .f64 xh] 24)
  replace M := Lib.hid (M.out.made #[.float .f64 yl, .float .f64 yh] 24)
  simp only [World.size_alloc] at M
  obtain ⟨k1, k2, k3, k4, k5, k6, k7, k8, k9, k10⟩ := (M.out.nth 3 rfl).ten
  go_wp2_with fail
  refine (c3.out _).mono ?_
  rintro r w3_ ⟨rfl, hb⟩
  replace M := Lib.hid (M.out.below hb)
  clear hb
  clear k1 k2 k3 k4 k5 k6 k7 k8 k9 k10
  replace M := Lib.hid (M.out.made #[.float .f64 xl, .float .f64 xh] 24)
  replace M := Lib.hid (M.out.made #[.float .f64 yl, .float .f64 yh] 24)
  simp only [World.size_alloc] at M
  obtain ⟨k1, k2, k3, k4, k5, k6, k7, k8, k9, k10⟩ := (M.out.nth 5 rfl).ten
  go_wp2_with fail
  refine (c4.out _).mono ?_
  rintro r w4_ ⟨rfl, hb⟩
  replace M := Lib.hid (M.out.below hb)
  clear hb
  clear k1 k2 k3 k4 k5 k6 k7 k8 k9 k10
  replace M := Lib.hid (M.out.made #[.float .f64 zl, .float .f64 zh] 24)
  obtain ⟨k1, k2, k3, k4, k5, k6, k7, k8, k9, k10⟩ := (M.out.nth 6 rfl).ten
  go_wp2_with fail
  refine (c5.out _).mono ?_
  rintro r w5_ ⟨rfl, hb⟩
  replace M := Lib.hid (M.out.below hb)
  clear hb
  clear k1 k2 k3 k4 k5 k6 k7 k8 k9 k10
  replace M := Lib.hid (M.out.made #[.float .f64 zl, .float .f64 zh] 24)
  obtain ⟨k1, k2, k3, k4, k5, k6, k7, k8, k9, k10⟩ := (M.out.nth 7 rfl).ten
  go_wp2_with fail
  refine (c6.out _).mono ?_
  rintro r w6_ ⟨rfl, hb⟩
  replace M := Lib.hid (M.out.below hb)
  clear hb
  clear k1 k2 k3 k4 k5 k6 k7 k8 k9 k10
  replace M := Lib.hid (M.out.made #[.float .f64 vl, .float .f64 vh] 24)
  obtain ⟨k1, k2, k3, k4, k5, k6, k7, k8, k9, k10⟩ := (M.out.nth 8 rfl).ten
  go_wp2_with fail
  refine (c7.out _).mono ?_
  rintro r w7_ ⟨rfl, hb⟩
  replace M := Lib.hid (M.out.below hb)
  clear hb
  clear k1 k2 k3 k4 k5 k6 k7 k8 k9 k10
  replace M := Lib.hid (M.out.made #[.float .f64 vl, .float .f64 vh] 24)
  obtain ⟨k1, k2⟩ := (M.out.nth 7 rfl).two
  obtain ⟨k3, k4⟩ := (M.out.nth 5 rfl).two
  obtain ⟨k5, k6⟩ := (M.out.nth 6 rfl).two
  obtain ⟨k7, k8⟩ := (M.out.nth 4 rfl).two
  obtain ⟨k9, k10⟩ := (M.out.nth 3 rfl).two
  obtain ⟨k11, k12⟩ := (M.out.nth 2 rfl).two
  obtain ⟨k13, k14⟩ := (M.out.nth 1 rfl).two
  go_wp2_with fail
  refine (c8.out _).mono ?_
  rintro r w8_ ⟨rfl, hb⟩
  replace M := Lib.hid (M.out.below hb)
  clear hb
  clear k1 k2 k3 k4 k5 k6 k7 k8 k9 k10 k11 k12 k13 k14
  go_wp2
  go_ret
  exact ⟨rfl, M.out.base⟩

end Go.Proofs.YtoiaefgpegiieaaGreat
