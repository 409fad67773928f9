
/- LambertParts: the law's walk. -/
import Derived.Test.YtoocmocaelcbkaaLmA
import Derived.Deep.RegionHeld3
namespace Go.Proofs.Ytoocmocaelcbkaa
open Go.RowKit
attribute [local go_sem] run_store_float

set_option maxRecDepth 100000 in
set_option maxHeartbeats 16000000 in
theorem parts_law {u0 v0 fu al fv bl xl xh yl yh cl tl th sl sh zl zh ql qh ml mh : Nat} (w : World)
    (c1 : Hid (∀ w, Calls Try.prog 47 #[.int .u32 u0] w fun r w' => r = .returned (.float .f64 fu) ∧ w = w'))
    (q_al : (∀ w, (binOp .quo 22 (.float .f64 fu) (.float .f64 4611686018427387904)).run Try.prog w = .ok (.float .f64 al) w))
    (c2 : Hid (∀ w, Calls Try.prog 46 #[.float .f64 al] w fun r w' => r = .returned (.agg #[.float .f64 al, .float .f64 al]) ∧ Below w.heap.size w w'))
    (c3 : Hid (∀ w, Calls Try.prog 47 #[.int .u32 v0] w fun r w' => r = .returned (.float .f64 fv) ∧ w = w'))
    (q_bl : (∀ w, (binOp .quo 22 (.float .f64 fv) (.float .f64 4611686018427387904)).run Try.prog w = .ok (.float .f64 bl) w))
    (c4 : Hid (∀ w, Calls Try.prog 46 #[.float .f64 bl] w fun r w' => r = .returned (.agg #[.float .f64 bl, .float .f64 bl]) ∧ Below w.heap.size w w'))
    (c5 : Hid (∀ w, Calls Try.prog 48 #[.agg #[.float .f64 al, .float .f64 al]] w fun r w' => r = .returned (.tuple #[.agg #[.float .f64 xl, .float .f64 xh], .int .i64 0]) ∧ Below w.heap.size w w'))
    (c6 : Hid (∀ w, Calls Try.prog 48 #[.agg #[.float .f64 bl, .float .f64 bl]] w fun r w' => r = .returned (.tuple #[.agg #[.float .f64 yl, .float .f64 yh], .int .i64 0]) ∧ Below w.heap.size w w'))
    (c7 : Hid (∀ w, Calls Try.prog 54 #[.agg #[.float .f64 al, .float .f64 al]] w fun r w' => r = .returned (.tuple #[.agg #[.float .f64 xl, .float .f64 xh], .int .i64 0]) ∧ Below w.heap.size w w'))
    (q_cl : (∀ w, (binOp .mul 22 (.float .f64 al) (.float .f64 4611686018427387904)).run Try.prog w = .ok (.float .f64 cl) w))
    (c8 : Hid (∀ w, Calls Try.prog 46 #[.float .f64 cl] w fun r w' => r = .returned (.agg #[.float .f64 cl, .float .f64 cl]) ∧ Below w.heap.size w w'))
    (c9 : Hid (∀ w, Calls Try.prog 48 #[.agg #[.float .f64 cl, .float .f64 cl]] w fun r w' => r = .returned (.tuple #[.agg #[.float .f64 tl, .float .f64 th], .int .i64 0]) ∧ Below w.heap.size w w'))
    (d10 : Hid (K2 17 0 0 al al bl bl sl sh))
    (c11 : Hid (∀ w, Calls Try.prog 48 #[.agg #[.float .f64 sl, .float .f64 sh]] w fun r w' => r = .returned (.tuple #[.agg #[.float .f64 zl, .float .f64 zh], .int .i64 0]) ∧ Below w.heap.size w w'))
    (o_gtrsh_418800017408 : ((FloatKind.f64.format.order sh 4607182418800017408 == some Ordering.gt) = false))
    (d12 : Hid (K2 17 0 0 xl xh yl yh ql qh))
    (c14 : Hid (∀ w, Calls Try.prog 43 #[.agg #[.float .f64 zl, .float .f64 zh], .agg #[.float .f64 ql, .float .f64 qh]] w fun r w' => r = .returned (.bool true) ∧ Below w.heap.size w w'))
    (e_xl_xl : (Op.floatEq .f64 xl xl = true))
    (e_xh_xh : (Op.floatEq .f64 xh xh = true))
    (q_ml : (∀ w, (binOp .mul 22 (.float .f64 xl) (.float .f64 4611686018427387904)).run Try.prog w = .ok (.float .f64 ml) w))
    (q_mh : (∀ w, (binOp .mul 22 (.float .f64 xh) (.float .f64 4611686018427387904)).run Try.prog w = .ok (.float .f64 mh) w))
    (e_tl_ml : (Op.floatEq .f64 tl ml = true))
    (e_th_mh : (Op.floatEq .f64 th mh = true))
    (c15 : Hid (∀ w, Calls Try.prog 51 #[] w fun r w' => r = .returned (.bool true) ∧ Below w.heap.size w w')) :
    Calls Try.prog 12 #[.int .u32 u0, .int .u32 v0] w fun r w' => r = .returned (.bool true) ∧ Below w.heap.size w w' := by
  have M := Lib.hid (Own.nil w)
  have eqF := eq_floats
  go_enter Try.func12, Try.ntmps12
  go_wp2_with fail
  refine (c1.out _).mono ?_
  rintro r w1_ ⟨rfl, rfl⟩
  go_wp2_with fail
  refine (c2.out _).mono ?_
  rintro r w2_ ⟨rfl, hb⟩
  replace M := Lib.hid (M.out.below hb)
  clear hb
  go_wp2_with fail
  refine (c3.out _).mono ?_
  rintro r w3_ ⟨rfl, rfl⟩
  go_wp2_with fail
  refine (c4.out _).mono ?_
  rintro r w4_ ⟨rfl, hb⟩
  replace M := Lib.hid (M.out.below hb)
  clear hb
  replace M := Lib.hid (M.out.made #[.float .f64 al, .float .f64 al] 24)
  replace M := Lib.hid (M.out.made #[.float .f64 bl, .float .f64 bl] 24)
  simp only [World.size_alloc] at M
  go_wp2_with fail
  refine (c5.out _).mono ?_
  rintro r w5_ ⟨rfl, hb⟩
  replace M := Lib.hid (M.out.below hb)
  clear hb
  replace M := Lib.hid (M.out.made #[.float .f64 xl, .float .f64 xh] 24)
  obtain ⟨k1, k2⟩ := (M.out.nth 1 rfl).two
  go_wp2_with fail
  refine (c6.out _).mono ?_
  rintro r w6_ ⟨rfl, hb⟩
  replace M := Lib.hid (M.out.below hb)
  clear hb
  clear k1 k2
  replace M := Lib.hid (M.out.made #[.float .f64 yl, .float .f64 yh] 24)
  obtain ⟨k1, k2⟩ := (M.out.nth 3 rfl).two
  go_wp2_with fail
  refine (c7.out _).mono ?_
  rintro r w7_ ⟨rfl, hb⟩
  replace M := Lib.hid (M.out.below hb)
  clear hb
  clear k1 k2
  replace M := Lib.hid (M.out.made #[.float .f64 xl, .float .f64 xh] 24)
  obtain ⟨k1, k2⟩ := (M.out.nth 4 rfl).two
  go_wp2_with fail
  refine (c8.out _).mono ?_
  rintro r w8_ ⟨rfl, hb⟩
  replace M := Lib.hid (M.out.below hb)
  clear hb
  clear k1 k2
  go_wp2_with fail
  refine (c9.out _).mono ?_
  rintro r w9_ ⟨rfl, hb⟩
  replace M := Lib.hid (M.out.below hb)
  clear hb
  replace M := Lib.hid (M.out.made #[.float .f64 tl, .float .f64 th] 24)
  replace M := Lib.hid (M.out.made #[.int .i64 0] 32)
  simp only [World.size_alloc] at M
  obtain ⟨k1, k2⟩ := (M.out.nth 6 rfl).two
  obtain ⟨k3, k4⟩ := (M.out.nth 5 rfl).two
  go_wp2_with fail
  refine (d10.out _ _ (M.out.nth 0 rfl)).mono ?_
  rintro r w10_ ⟨rfl, hb⟩
  replace M : Hid (Own w [((w9_.heap.size + 1), #[.int .i64 0]), (w9_.heap.size, #[.float .f64 tl, .float .f64 th]), (w7_.heap.size, #[.float .f64 xl, .float .f64 xh]), (w6_.heap.size, #[.float .f64 yl, .float .f64 yh]), (w5_.heap.size, #[.float .f64 xl, .float .f64 xh]), ((w4_.heap.size + 1), #[.float .f64 bl, .float .f64 bl]), (w4_.heap.size, #[.float .f64 al, .float .f64 al])] w10_) := Lib.hid (M.out.putAt 0 rfl hb)
  clear hb
  clear k1 k2 k3 k4
  replace M := Lib.hid (M.out.made #[.float .f64 sl, .float .f64 sh] 24).front
  go_wp2_with fail
  refine (c11.out _).mono ?_
  rintro r w11_ ⟨rfl, hb⟩
  replace M := Lib.hid (M.out.below hb)
  clear hb
  replace M := Lib.hid (M.out.made #[.float .f64 zl, .float .f64 zh] 24).front
  obtain ⟨k1, k2⟩ := (M.out.nth 2 rfl).two
  obtain ⟨k3, k4⟩ := (M.out.nth 6 rfl).two
  obtain ⟨k5, k6⟩ := (M.out.nth 5 rfl).two
  go_wp2_with fail
  refine (d12.out _ _ (M.out.nth 0 rfl)).mono ?_
  rintro r w12_ ⟨rfl, hb⟩
  replace M : Hid (Own w [((w9_.heap.size + 1), #[.int .i64 0]), (w11_.heap.size, #[.float .f64 zl, .float .f64 zh]), (w10_.heap.size, #[.float .f64 sl, .float .f64 sh]), (w9_.heap.size, #[.float .f64 tl, .float .f64 th]), (w7_.heap.size, #[.float .f64 xl, .float .f64 xh]), (w6_.heap.size, #[.float .f64 yl, .float .f64 yh]), (w5_.heap.size, #[.float .f64 xl, .float .f64 xh]), ((w4_.heap.size + 1), #[.float .f64 bl, .float .f64 bl]), (w4_.heap.size, #[.float .f64 al, .float .f64 al])] w12_) := Lib.hid (M.out.putAt 0 rfl hb)
  clear hb
  clear k1 k2 k3 k4 k5 k6
  replace M := Lib.hid (M.out.made #[.float .f64 ql, .float .f64 qh] 24).front
  go_wp2_with fail
  refine (err_any 0 _ 0 _ (M.out.nth 0 rfl).pc).mono ?_
  rintro r w13_ ⟨rfl, rfl⟩
  obtain ⟨k1, k2⟩ := (M.out.nth 2 rfl).two
  obtain ⟨k3, k4⟩ := (M.out.nth 1 rfl).two
  go_wp2_with fail
  refine (c14.out _).mono ?_
  rintro r w14_ ⟨rfl, hb⟩
  replace M := Lib.hid (M.out.below hb)
  clear hb
  clear k1 k2 k3 k4
  obtain ⟨k1, k2⟩ := (M.out.nth 5 rfl).two
  obtain ⟨k3, k4⟩ := (M.out.nth 7 rfl).two
  obtain ⟨k5, k6⟩ := (M.out.nth 4 rfl).two
  go_wp2_with fail
  refine (c15.out _).mono ?_
  rintro r w15_ ⟨rfl, hb⟩
  replace M := Lib.hid (M.out.below hb)
  clear hb
  clear k1 k2 k3 k4 k5 k6
  go_wp2
  go_ret
  exact ⟨rfl, M.out.base⟩

end Go.Proofs.Ytoocmocaelcbkaa
