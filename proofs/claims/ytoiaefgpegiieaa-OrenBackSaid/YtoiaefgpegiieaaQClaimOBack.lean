
/- OrenBack holds for any ten numbers of 32 bits: the law answers true, and its argument reads as before. No conditions. -/
import Derived.Test.YtoiaefgpegiieaaQO1
import Derived.Deep.RegionHeld3
import Derived.Test.YtoiaefgpegiieaaQO4
import Derived.Test.YtoiaefgpegiieaaQOpT
import Derived.ProofKit
import Derived.Carry
namespace Go.Proofs.Ytoiaefgpegiieaa
open Go.RowKit
attribute [local go_sem] run_store_float

set_option maxRecDepth 100000 in
set_option maxHeartbeats 16000000 in
theorem oback_ok {u0 u1 u2 u3 u4 u5 u6 u7 u8 u9 rl rh sl sh il ih ol oh dl dh pl ph ql qh vl vh : Nat} (w : World)
    (c1 : Hid (∀ w, Calls Try.prog 33 #[.agg #[.int .u32 u0, .int .u32 u1, .int .u32 u2, .int .u32 u3, .int .u32 u4, .int .u32 u5, .int .u32 u6, .int .u32 u7, .int .u32 u8, .int .u32 u9]] w fun r w' => r = .returned (.agg #[.float .f64 rl, .float .f64 rh, .float .f64 sl, .float .f64 sh, .float .f64 il, .float .f64 ih, .float .f64 ol, .float .f64 oh, .float .f64 dl, .float .f64 dh]) ∧ Below w.heap.size w w'))
    (c2 : Hid (∀ w, Calls Try.prog 34 #[.agg #[.float .f64 rl, .float .f64 rh, .float .f64 sl, .float .f64 sh, .float .f64 il, .float .f64 ih, .float .f64 ol, .float .f64 oh, .float .f64 dl, .float .f64 dh]] w fun r w' => r = .returned (.tuple #[.agg #[.float .f64 pl, .float .f64 ph], .int .i64 0]) ∧ Below w.heap.size w w'))
    (c3 : Hid (∀ w, Calls Try.prog 34 #[.agg #[.float .f64 rl, .float .f64 rh, .float .f64 sl, .float .f64 sh, .float .f64 ol, .float .f64 oh, .float .f64 il, .float .f64 ih, .float .f64 dl, .float .f64 dh]] w fun r w' => r = .returned (.tuple #[.agg #[.float .f64 pl, .float .f64 ph], .int .i64 0]) ∧ Below w.heap.size w w'))
    (e_pl_pl : (Op.floatEq .f64 pl pl = true))
    (e_ph_ph : (Op.floatEq .f64 ph ph = true))
    (o_lsspl_0 : ((FloatKind.f64.format.order pl 0 == some Ordering.lt) = false))
    (o_gtrph_418800017408 : ((FloatKind.f64.format.order ph 4607182418800017408 == some Ordering.gt) = false))
    (o_gtrpl_ph : ((FloatKind.f64.format.order pl ph == some Ordering.gt) = false))
    (c4 : Hid (∀ w, Calls Try.prog 35 #[.float .f64 0] w fun r w' => r = .returned (.agg #[.float .f64 0, .float .f64 0]) ∧ Below w.heap.size w w'))
    (c5 : Hid (∀ w, Calls Try.prog 34 #[.agg #[.float .f64 rl, .float .f64 rh, .float .f64 0, .float .f64 0, .float .f64 il, .float .f64 ih, .float .f64 ol, .float .f64 oh, .float .f64 dl, .float .f64 dh]] w fun r w' => r = .returned (.tuple #[.agg #[.float .f64 ql, .float .f64 qh], .int .i64 0]) ∧ Below w.heap.size w w'))
    (c6 : Hid (∀ w, Calls Try.prog 36 #[.agg #[.float .f64 rl, .float .f64 rh]] w fun r w' => r = .returned (.tuple #[.agg #[.float .f64 vl, .float .f64 vh], .int .i64 0]) ∧ Below w.heap.size w w'))
    (c7 : Hid (∀ w, Calls Try.prog 37 #[.agg #[.float .f64 ql, .float .f64 qh], .agg #[.float .f64 vl, .float .f64 vh]] w fun r w' => r = .returned (.bool true) ∧ Below w.heap.size w w'))
    (c8 : Hid (∀ w, Calls Try.prog 38 #[] w fun r w' => r = .returned (.bool true) ∧ Below w.heap.size w w')) :
    Calls Try.prog 6 #[.agg #[.int .u32 u0, .int .u32 u1, .int .u32 u2, .int .u32 u3, .int .u32 u4, .int .u32 u5, .int .u32 u6, .int .u32 u7, .int .u32 u8, .int .u32 u9]] w fun r w' => r = .returned (.bool true) ∧ Below w.heap.size w w' := by
  have M := Lib.hid ((Own.nil w).made #[.int .u32 u0, .int .u32 u1, .int .u32 u2, .int .u32 u3, .int .u32 u4, .int .u32 u5, .int .u32 u6, .int .u32 u7, .int .u32 u8, .int .u32 u9] 57)
  have eqF := eq_floats
  go_enter Try.func6, Try.ntmps6
  obtain ⟨k1, k2, k3, k4, k5, k6, k7, k8, k9, k10⟩ := (M.out.nth 0 rfl).ten
  go_wp2_with fail
  refine (c1.out _).mono ?_
  rintro r w1_ ⟨rfl, hb⟩
  replace M := Lib.hid (M.out.below hb)
  clear hb
  clear k1 k2 k3 k4 k5 k6 k7 k8 k9 k10
  replace M := Lib.hid (M.out.made #[.float .f64 rl, .float .f64 rh, .float .f64 sl, .float .f64 sh, .float .f64 il, .float .f64 ih, .float .f64 ol, .float .f64 oh, .float .f64 dl, .float .f64 dh] 59)
  replace M := Lib.hid (M.out.made #[.float .f64 rl, .float .f64 rh, .float .f64 sl, .float .f64 sh, .float .f64 il, .float .f64 ih, .float .f64 ol, .float .f64 oh, .float .f64 dl, .float .f64 dh] 59)
  simp only [World.size_alloc] at M
  go_upto_region 3 with fail
  replace M := Lib.hid M.out.drew
  revert M
  generalize ((w1_.alloc (.cells #[.float .f64 rl, .float .f64 rh, .float .f64 sl, .float .f64 sh, .float .f64 il, .float .f64 ih, .float .f64 ol, .float .f64 oh, .float .f64 dl, .float .f64 dh] 59)).alloc (.cells #[.float .f64 rl, .float .f64 rh, .float .f64 sl, .float .f64 sh, .float .f64 il, .float .f64 ih, .float .f64 ol, .float .f64 oh, .float .f64 dl, .float .f64 dh] 59)) = W2_
  intro M
  refine wp_region_noPanic ?_
  refine tails_region (S := fun w' => (w'.cell? ⟨w1_.heap.size, 0, none⟩ = some (.float .f64 rl) ∧ w'.cell? ⟨w1_.heap.size, 1, none⟩ = some (.float .f64 rh) ∧ w'.cell? ⟨w1_.heap.size, 2, none⟩ = some (.float .f64 sl) ∧ w'.cell? ⟨w1_.heap.size, 3, none⟩ = some (.float .f64 sh) ∧ w'.cell? ⟨w1_.heap.size, 4, none⟩ = some (.float .f64 il) ∧ w'.cell? ⟨w1_.heap.size, 5, none⟩ = some (.float .f64 ih) ∧ w'.cell? ⟨w1_.heap.size, 6, none⟩ = some (.float .f64 ol) ∧ w'.cell? ⟨w1_.heap.size, 7, none⟩ = some (.float .f64 oh) ∧ w'.cell? ⟨w1_.heap.size, 8, none⟩ = some (.float .f64 dl) ∧ w'.cell? ⟨w1_.heap.size, 9, none⟩ = some (.float .f64 dh))) [] (by kernel_rfl) ?_ (fun hS => ?_)
  · exact (M.out.nth 1 rfl).ten
  revert hS M
  generalize W2_.drew = V_
  intro M hS
  refine tk (x := ?_) 0 rfl (by kernel_rfl) ⟨by rfl, ?_⟩ (fun _ _ _ h => h) hS ?_
  rotate_left; focus (intro w hSw; (try dsimp only at hSw); go_simp; try with_reducible rfl)
  refine tk (x := ?_) 1 rfl (by kernel_rfl) ⟨by rfl, ?_⟩ (fun _ _ _ h => h) hS ?_
  rotate_left; focus (intro w hSw; (try dsimp only at hSw); go_simp; try with_reducible rfl)
  refine tk (x := ?_) 2 rfl (by kernel_rfl) ⟨by rfl, ?_⟩ (fun _ _ _ h => h) hS ?_
  rotate_left; focus (intro w hSw; (try dsimp only at hSw); go_simp; try with_reducible rfl)
  refine tk (x := ?_) 3 rfl (by kernel_rfl) ⟨by rfl, ?_⟩ (fun _ _ _ h => h) hS ?_
  rotate_left; focus (intro w hSw; (try dsimp only at hSw); go_simp; try with_reducible rfl)
  refine tk (x := ?_) 4 rfl (by kernel_rfl) ⟨by rfl, ?_⟩ (fun _ _ _ h => h) hS ?_
  rotate_left; focus (intro w hSw; (try dsimp only at hSw); go_simp; try with_reducible rfl)
  conv => arg 9; simp only [Act.put, go_sem]
  refine tails_one (T := []) (i := 5) (o := _) rfl (by kernel_rfl) (fun K hK => ?_)
  have kc := (M.out.nth 0 rfl).2.1
  have kf := (M.out.nth 0 rfl).2.2
  replace M : Hid (Own w [((w1_.heap.size + 1), #[.float .f64 rl, .float .f64 rh, .float .f64 sl, .float .f64 sh, .float .f64 ol, .float .f64 ih, .float .f64 ol, .float .f64 oh, .float .f64 dl, .float .f64 dh]), (w1_.heap.size, #[.float .f64 rl, .float .f64 rh, .float .f64 sl, .float .f64 sh, .float .f64 il, .float .f64 ih, .float .f64 ol, .float .f64 oh, .float .f64 dl, .float .f64 dh]), (w.heap.size, #[.int .u32 u0, .int .u32 u1, .int .u32 u2, .int .u32 u3, .int .u32 u4, .int .u32 u5, .int .u32 u6, .int .u32 u7, .int .u32 u8, .int .u32 u9])] _) := Lib.hid ((M.out.setIn 0 rfl 4 (.float .f64 ol)).to (by rfl))
  replace M : Hid (Own w [((w1_.heap.size + 1), #[.float .f64 rl, .float .f64 rh, .float .f64 sl, .float .f64 sh, .float .f64 ol, .float .f64 oh, .float .f64 ol, .float .f64 oh, .float .f64 dl, .float .f64 dh]), (w1_.heap.size, #[.float .f64 rl, .float .f64 rh, .float .f64 sl, .float .f64 sh, .float .f64 il, .float .f64 ih, .float .f64 ol, .float .f64 oh, .float .f64 dl, .float .f64 dh]), (w.heap.size, #[.int .u32 u0, .int .u32 u1, .int .u32 u2, .int .u32 u3, .int .u32 u4, .int .u32 u5, .int .u32 u6, .int .u32 u7, .int .u32 u8, .int .u32 u9])] _) := Lib.hid ((M.out.setIn 0 rfl 5 (.float .f64 oh)).to (by rfl))
  go_simp
  refine hK.out _ _ (Or.inr (M.out.nth 1 rfl).ten) (fun hHeld => ?_)
  clear hK K hHeld kc kf
  replace hS := (M.out.nth 1 rfl).ten
  refine tk (x := ?_) 6 rfl (by kernel_rfl) ⟨by rfl, ?_⟩ (fun _ _ _ h => h) hS ?_
  rotate_left; focus (intro w hSw; (try dsimp only at hSw); go_simp; try with_reducible rfl)
  conv => arg 9; simp only [Act.put, go_sem]
  refine tails_one (T := []) (i := 7) (o := _) rfl (by kernel_rfl) (fun K hK => ?_)
  have kc := (M.out.nth 0 rfl).2.1
  have kf := (M.out.nth 0 rfl).2.2
  replace M : Hid (Own w [((w1_.heap.size + 1), #[.float .f64 rl, .float .f64 rh, .float .f64 sl, .float .f64 sh, .float .f64 ol, .float .f64 oh, .float .f64 il, .float .f64 oh, .float .f64 dl, .float .f64 dh]), (w1_.heap.size, #[.float .f64 rl, .float .f64 rh, .float .f64 sl, .float .f64 sh, .float .f64 il, .float .f64 ih, .float .f64 ol, .float .f64 oh, .float .f64 dl, .float .f64 dh]), (w.heap.size, #[.int .u32 u0, .int .u32 u1, .int .u32 u2, .int .u32 u3, .int .u32 u4, .int .u32 u5, .int .u32 u6, .int .u32 u7, .int .u32 u8, .int .u32 u9])] _) := Lib.hid ((M.out.setIn 0 rfl 6 (.float .f64 il)).to (by rfl))
  replace M : Hid (Own w [((w1_.heap.size + 1), #[.float .f64 rl, .float .f64 rh, .float .f64 sl, .float .f64 sh, .float .f64 ol, .float .f64 oh, .float .f64 il, .float .f64 ih, .float .f64 dl, .float .f64 dh]), (w1_.heap.size, #[.float .f64 rl, .float .f64 rh, .float .f64 sl, .float .f64 sh, .float .f64 il, .float .f64 ih, .float .f64 ol, .float .f64 oh, .float .f64 dl, .float .f64 dh]), (w.heap.size, #[.int .u32 u0, .int .u32 u1, .int .u32 u2, .int .u32 u3, .int .u32 u4, .int .u32 u5, .int .u32 u6, .int .u32 u7, .int .u32 u8, .int .u32 u9])] _) := Lib.hid ((M.out.setIn 0 rfl 7 (.float .f64 ih)).to (by rfl))
  go_simp
  refine hK.out _ _ (Or.inr (M.out.nth 1 rfl).ten) (fun hHeld => ?_)
  clear hK K hHeld kc kf
  refine tails_done (by kernel_rfl) ?_ _
  refine NoPanic.normal ?_
  clear hS
  revert M
  generalize ((((V_.setCell ⟨(w1_.heap.size + 1), 4, none⟩ (.float .f64 ol)).setCell ⟨(w1_.heap.size + 1), 5, none⟩ (.float .f64 oh)).setCell ⟨(w1_.heap.size + 1), 6, none⟩ (.float .f64 il)).setCell ⟨(w1_.heap.size + 1), 7, none⟩ (.float .f64 ih)) = W3_
  intro M
  obtain ⟨k1, k2, k3, k4, k5, k6, k7, k8, k9, k10⟩ := (M.out.nth 1 rfl).ten
  go_wp2_with fail
  refine (c2.out _).mono ?_
  rintro r w4_ ⟨rfl, hb⟩
  replace M := Lib.hid (M.out.below hb)
  clear hb
  clear k1 k2 k3 k4 k5 k6 k7 k8 k9 k10
  replace M := Lib.hid (M.out.made #[.float .f64 pl, .float .f64 ph] 24)
  obtain ⟨k1, k2, k3, k4, k5, k6, k7, k8, k9, k10⟩ := (M.out.nth 1 rfl).ten
  go_wp2_with fail
  refine (c3.out _).mono ?_
  rintro r w5_ ⟨rfl, hb⟩
  replace M := Lib.hid (M.out.below hb)
  clear hb
  clear k1 k2 k3 k4 k5 k6 k7 k8 k9 k10
  replace M := Lib.hid (M.out.made #[.float .f64 pl, .float .f64 ph] 24)
  obtain ⟨k1, k2⟩ := (M.out.nth 1 rfl).two
  go_wp2_with fail
  refine (c4.out _).mono ?_
  rintro r w6_ ⟨rfl, hb⟩
  replace M := Lib.hid (M.out.below hb)
  clear hb
  clear k1 k2
  have kc := (M.out.nth 3 rfl).2.1
  have kf := (M.out.nth 3 rfl).2.2
  replace M : Hid (Own w [(w5_.heap.size, #[.float .f64 pl, .float .f64 ph]), (w4_.heap.size, #[.float .f64 pl, .float .f64 ph]), ((w1_.heap.size + 1), #[.float .f64 rl, .float .f64 rh, .float .f64 sl, .float .f64 sh, .float .f64 ol, .float .f64 oh, .float .f64 il, .float .f64 ih, .float .f64 dl, .float .f64 dh]), (w1_.heap.size, #[.float .f64 rl, .float .f64 rh, .float .f64 0, .float .f64 sh, .float .f64 il, .float .f64 ih, .float .f64 ol, .float .f64 oh, .float .f64 dl, .float .f64 dh]), (w.heap.size, #[.int .u32 u0, .int .u32 u1, .int .u32 u2, .int .u32 u3, .int .u32 u4, .int .u32 u5, .int .u32 u6, .int .u32 u7, .int .u32 u8, .int .u32 u9])] _) := Lib.hid ((M.out.setIn 3 rfl 2 (.float .f64 0)).to (by rfl))
  replace M : Hid (Own w [(w5_.heap.size, #[.float .f64 pl, .float .f64 ph]), (w4_.heap.size, #[.float .f64 pl, .float .f64 ph]), ((w1_.heap.size + 1), #[.float .f64 rl, .float .f64 rh, .float .f64 sl, .float .f64 sh, .float .f64 ol, .float .f64 oh, .float .f64 il, .float .f64 ih, .float .f64 dl, .float .f64 dh]), (w1_.heap.size, #[.float .f64 rl, .float .f64 rh, .float .f64 0, .float .f64 0, .float .f64 il, .float .f64 ih, .float .f64 ol, .float .f64 oh, .float .f64 dl, .float .f64 dh]), (w.heap.size, #[.int .u32 u0, .int .u32 u1, .int .u32 u2, .int .u32 u3, .int .u32 u4, .int .u32 u5, .int .u32 u6, .int .u32 u7, .int .u32 u8, .int .u32 u9])] _) := Lib.hid ((M.out.setIn 3 rfl 3 (.float .f64 0)).to (by rfl))
  obtain ⟨k3, k4, k5, k6, k7, k8, k9, k10, k11, k12⟩ := (M.out.nth 3 rfl).ten
  go_wp2_with fail
  refine (c5.out _).mono ?_
  rintro r w7_ ⟨rfl, hb⟩
  replace M := Lib.hid (M.out.below hb)
  clear hb
  clear kc kf k3 k4 k5 k6 k7 k8 k9 k10 k11 k12
  replace M := Lib.hid (M.out.made #[.float .f64 ql, .float .f64 qh] 24)
  obtain ⟨k1, k2, k3, k4, k5, k6, k7, k8, k9, k10⟩ := (M.out.nth 4 rfl).ten
  go_wp2_with fail
  refine (c6.out _).mono ?_
  rintro r w8_ ⟨rfl, hb⟩
  replace M := Lib.hid (M.out.below hb)
  clear hb
  clear k1 k2 k3 k4 k5 k6 k7 k8 k9 k10
  replace M := Lib.hid (M.out.made #[.float .f64 vl, .float .f64 vh] 24)
  obtain ⟨k1, k2⟩ := (M.out.nth 1 rfl).two
  go_wp2_with fail
  refine (c7.out _).mono ?_
  rintro r w9_ ⟨rfl, hb⟩
  replace M := Lib.hid (M.out.below hb)
  clear hb
  clear k1 k2
  go_wp2_with fail
  refine (c8.out _).mono ?_
  rintro r w10_ ⟨rfl, hb⟩
  replace M := Lib.hid (M.out.below hb)
  clear hb
  go_wp2
  go_ret
  exact ⟨rfl, M.out.base⟩

set_option maxRecDepth 100000 in
set_option maxHeartbeats 16000000 in
theorem oback_err {u0 u1 u2 u3 u4 u5 u6 u7 u8 u9 rl rh sl sh il ih ol oh dl dh pl ph ql qh vl vh : Nat} {e f : Int} (w : World)
    (c1 : Hid (∀ w, Calls Try.prog 33 #[.agg #[.int .u32 u0, .int .u32 u1, .int .u32 u2, .int .u32 u3, .int .u32 u4, .int .u32 u5, .int .u32 u6, .int .u32 u7, .int .u32 u8, .int .u32 u9]] w fun r w' => r = .returned (.agg #[.float .f64 rl, .float .f64 rh, .float .f64 sl, .float .f64 sh, .float .f64 il, .float .f64 ih, .float .f64 ol, .float .f64 oh, .float .f64 dl, .float .f64 dh]) ∧ Below w.heap.size w w'))
    (c2 : Hid (∀ w, Calls Try.prog 34 #[.agg #[.float .f64 rl, .float .f64 rh, .float .f64 sl, .float .f64 sh, .float .f64 il, .float .f64 ih, .float .f64 ol, .float .f64 oh, .float .f64 dl, .float .f64 dh]] w fun r w' => r = .returned (.tuple #[.agg #[.float .f64 pl, .float .f64 ph], .int .i64 e]) ∧ Below w.heap.size w w'))
    (c3 : Hid (∀ w, Calls Try.prog 34 #[.agg #[.float .f64 rl, .float .f64 rh, .float .f64 sl, .float .f64 sh, .float .f64 ol, .float .f64 oh, .float .f64 il, .float .f64 ih, .float .f64 dl, .float .f64 dh]] w fun r w' => r = .returned (.tuple #[.agg #[.float .f64 pl, .float .f64 ph], .int .i64 e]) ∧ Below w.heap.size w w'))
    (e_pl_pl : (Op.floatEq .f64 pl pl = true))
    (e_ph_ph : (Op.floatEq .f64 ph ph = true))
    (o_lsspl_0 : ((FloatKind.f64.format.order pl 0 == some Ordering.lt) = false))
    (o_gtrph_418800017408 : ((FloatKind.f64.format.order ph 4607182418800017408 == some Ordering.gt) = false))
    (o_gtrpl_ph : ((FloatKind.f64.format.order pl ph == some Ordering.gt) = false))
    (c4 : Hid (∀ w, Calls Try.prog 35 #[.float .f64 0] w fun r w' => r = .returned (.agg #[.float .f64 0, .float .f64 0]) ∧ Below w.heap.size w w'))
    (c5 : Hid (∀ w, Calls Try.prog 34 #[.agg #[.float .f64 rl, .float .f64 rh, .float .f64 0, .float .f64 0, .float .f64 il, .float .f64 ih, .float .f64 ol, .float .f64 oh, .float .f64 dl, .float .f64 dh]] w fun r w' => r = .returned (.tuple #[.agg #[.float .f64 ql, .float .f64 qh], .int .i64 f]) ∧ Below w.heap.size w w'))
    (c6 : Hid (∀ w, Calls Try.prog 36 #[.agg #[.float .f64 rl, .float .f64 rh]] w fun r w' => r = .returned (.tuple #[.agg #[.float .f64 vl, .float .f64 vh], .int .i64 0]) ∧ Below w.heap.size w w'))
    (c7 : Hid (∀ w, Calls Try.prog 38 #[] w fun r w' => r = .returned (.bool true) ∧ Below w.heap.size w w'))
    (ne2 : (f != 0) = true) (ne3 : (e == 0) = false) (ne4 : (f == 0) = false) :
    Calls Try.prog 6 #[.agg #[.int .u32 u0, .int .u32 u1, .int .u32 u2, .int .u32 u3, .int .u32 u4, .int .u32 u5, .int .u32 u6, .int .u32 u7, .int .u32 u8, .int .u32 u9]] w fun r w' => r = .returned (.bool true) ∧ Below w.heap.size w w' := by
  have M := Lib.hid ((Own.nil w).made #[.int .u32 u0, .int .u32 u1, .int .u32 u2, .int .u32 u3, .int .u32 u4, .int .u32 u5, .int .u32 u6, .int .u32 u7, .int .u32 u8, .int .u32 u9] 57)
  have eqF := eq_floats
  go_enter Try.func6, Try.ntmps6
  obtain ⟨k1, k2, k3, k4, k5, k6, k7, k8, k9, k10⟩ := (M.out.nth 0 rfl).ten
  go_wp2_with fail
  refine (c1.out _).mono ?_
  rintro r w1_ ⟨rfl, hb⟩
  replace M := Lib.hid (M.out.below hb)
  clear hb
  clear k1 k2 k3 k4 k5 k6 k7 k8 k9 k10
  replace M := Lib.hid (M.out.made #[.float .f64 rl, .float .f64 rh, .float .f64 sl, .float .f64 sh, .float .f64 il, .float .f64 ih, .float .f64 ol, .float .f64 oh, .float .f64 dl, .float .f64 dh] 59)
  replace M := Lib.hid (M.out.made #[.float .f64 rl, .float .f64 rh, .float .f64 sl, .float .f64 sh, .float .f64 il, .float .f64 ih, .float .f64 ol, .float .f64 oh, .float .f64 dl, .float .f64 dh] 59)
  simp only [World.size_alloc] at M
  go_upto_region 3 with fail
  replace M := Lib.hid M.out.drew
  revert M
  generalize ((w1_.alloc (.cells #[.float .f64 rl, .float .f64 rh, .float .f64 sl, .float .f64 sh, .float .f64 il, .float .f64 ih, .float .f64 ol, .float .f64 oh, .float .f64 dl, .float .f64 dh] 59)).alloc (.cells #[.float .f64 rl, .float .f64 rh, .float .f64 sl, .float .f64 sh, .float .f64 il, .float .f64 ih, .float .f64 ol, .float .f64 oh, .float .f64 dl, .float .f64 dh] 59)) = W2_
  intro M
  refine wp_region_noPanic ?_
  refine tails_region (S := fun w' => (w'.cell? ⟨w1_.heap.size, 0, none⟩ = some (.float .f64 rl) ∧ w'.cell? ⟨w1_.heap.size, 1, none⟩ = some (.float .f64 rh) ∧ w'.cell? ⟨w1_.heap.size, 2, none⟩ = some (.float .f64 sl) ∧ w'.cell? ⟨w1_.heap.size, 3, none⟩ = some (.float .f64 sh) ∧ w'.cell? ⟨w1_.heap.size, 4, none⟩ = some (.float .f64 il) ∧ w'.cell? ⟨w1_.heap.size, 5, none⟩ = some (.float .f64 ih) ∧ w'.cell? ⟨w1_.heap.size, 6, none⟩ = some (.float .f64 ol) ∧ w'.cell? ⟨w1_.heap.size, 7, none⟩ = some (.float .f64 oh) ∧ w'.cell? ⟨w1_.heap.size, 8, none⟩ = some (.float .f64 dl) ∧ w'.cell? ⟨w1_.heap.size, 9, none⟩ = some (.float .f64 dh))) [] (by kernel_rfl) ?_ (fun hS => ?_)
  · exact (M.out.nth 1 rfl).ten
  revert hS M
  generalize W2_.drew = V_
  intro M hS
  refine tk (x := ?_) 0 rfl (by kernel_rfl) ⟨by rfl, ?_⟩ (fun _ _ _ h => h) hS ?_
  rotate_left; focus (intro w hSw; (try dsimp only at hSw); go_simp; try with_reducible rfl)
  refine tk (x := ?_) 1 rfl (by kernel_rfl) ⟨by rfl, ?_⟩ (fun _ _ _ h => h) hS ?_
  rotate_left; focus (intro w hSw; (try dsimp only at hSw); go_simp; try with_reducible rfl)
  refine tk (x := ?_) 2 rfl (by kernel_rfl) ⟨by rfl, ?_⟩ (fun _ _ _ h => h) hS ?_
  rotate_left; focus (intro w hSw; (try dsimp only at hSw); go_simp; try with_reducible rfl)
  refine tk (x := ?_) 3 rfl (by kernel_rfl) ⟨by rfl, ?_⟩ (fun _ _ _ h => h) hS ?_
  rotate_left; focus (intro w hSw; (try dsimp only at hSw); go_simp; try with_reducible rfl)
  refine tk (x := ?_) 4 rfl (by kernel_rfl) ⟨by rfl, ?_⟩ (fun _ _ _ h => h) hS ?_
  rotate_left; focus (intro w hSw; (try dsimp only at hSw); go_simp; try with_reducible rfl)
  conv => arg 9; simp only [Act.put, go_sem]
  refine tails_one (T := []) (i := 5) (o := _) rfl (by kernel_rfl) (fun K hK => ?_)
  have kc := (M.out.nth 0 rfl).2.1
  have kf := (M.out.nth 0 rfl).2.2
  replace M : Hid (Own w [((w1_.heap.size + 1), #[.float .f64 rl, .float .f64 rh, .float .f64 sl, .float .f64 sh, .float .f64 ol, .float .f64 ih, .float .f64 ol, .float .f64 oh, .float .f64 dl, .float .f64 dh]), (w1_.heap.size, #[.float .f64 rl, .float .f64 rh, .float .f64 sl, .float .f64 sh, .float .f64 il, .float .f64 ih, .float .f64 ol, .float .f64 oh, .float .f64 dl, .float .f64 dh]), (w.heap.size, #[.int .u32 u0, .int .u32 u1, .int .u32 u2, .int .u32 u3, .int .u32 u4, .int .u32 u5, .int .u32 u6, .int .u32 u7, .int .u32 u8, .int .u32 u9])] _) := Lib.hid ((M.out.setIn 0 rfl 4 (.float .f64 ol)).to (by rfl))
  replace M : Hid (Own w [((w1_.heap.size + 1), #[.float .f64 rl, .float .f64 rh, .float .f64 sl, .float .f64 sh, .float .f64 ol, .float .f64 oh, .float .f64 ol, .float .f64 oh, .float .f64 dl, .float .f64 dh]), (w1_.heap.size, #[.float .f64 rl, .float .f64 rh, .float .f64 sl, .float .f64 sh, .float .f64 il, .float .f64 ih, .float .f64 ol, .float .f64 oh, .float .f64 dl, .float .f64 dh]), (w.heap.size, #[.int .u32 u0, .int .u32 u1, .int .u32 u2, .int .u32 u3, .int .u32 u4, .int .u32 u5, .int .u32 u6, .int .u32 u7, .int .u32 u8, .int .u32 u9])] _) := Lib.hid ((M.out.setIn 0 rfl 5 (.float .f64 oh)).to (by rfl))
  go_simp
  refine hK.out _ _ (Or.inr (M.out.nth 1 rfl).ten) (fun hHeld => ?_)
  clear hK K hHeld kc kf
  replace hS := (M.out.nth 1 rfl).ten
  refine tk (x := ?_) 6 rfl (by kernel_rfl) ⟨by rfl, ?_⟩ (fun _ _ _ h => h) hS ?_
  rotate_left; focus (intro w hSw; (try dsimp only at hSw); go_simp; try with_reducible rfl)
  conv => arg 9; simp only [Act.put, go_sem]
  refine tails_one (T := []) (i := 7) (o := _) rfl (by kernel_rfl) (fun K hK => ?_)
  have kc := (M.out.nth 0 rfl).2.1
  have kf := (M.out.nth 0 rfl).2.2
  replace M : Hid (Own w [((w1_.heap.size + 1), #[.float .f64 rl, .float .f64 rh, .float .f64 sl, .float .f64 sh, .float .f64 ol, .float .f64 oh, .float .f64 il, .float .f64 oh, .float .f64 dl, .float .f64 dh]), (w1_.heap.size, #[.float .f64 rl, .float .f64 rh, .float .f64 sl, .float .f64 sh, .float .f64 il, .float .f64 ih, .float .f64 ol, .float .f64 oh, .float .f64 dl, .float .f64 dh]), (w.heap.size, #[.int .u32 u0, .int .u32 u1, .int .u32 u2, .int .u32 u3, .int .u32 u4, .int .u32 u5, .int .u32 u6, .int .u32 u7, .int .u32 u8, .int .u32 u9])] _) := Lib.hid ((M.out.setIn 0 rfl 6 (.float .f64 il)).to (by rfl))
  replace M : Hid (Own w [((w1_.heap.size + 1), #[.float .f64 rl, .float .f64 rh, .float .f64 sl, .float .f64 sh, .float .f64 ol, .float .f64 oh, .float .f64 il, .float .f64 ih, .float .f64 dl, .float .f64 dh]), (w1_.heap.size, #[.float .f64 rl, .float .f64 rh, .float .f64 sl, .float .f64 sh, .float .f64 il, .float .f64 ih, .float .f64 ol, .float .f64 oh, .float .f64 dl, .float .f64 dh]), (w.heap.size, #[.int .u32 u0, .int .u32 u1, .int .u32 u2, .int .u32 u3, .int .u32 u4, .int .u32 u5, .int .u32 u6, .int .u32 u7, .int .u32 u8, .int .u32 u9])] _) := Lib.hid ((M.out.setIn 0 rfl 7 (.float .f64 ih)).to (by rfl))
  go_simp
  refine hK.out _ _ (Or.inr (M.out.nth 1 rfl).ten) (fun hHeld => ?_)
  clear hK K hHeld kc kf
  refine tails_done (by kernel_rfl) ?_ _
  refine NoPanic.normal ?_
  clear hS
  revert M
  generalize ((((V_.setCell ⟨(w1_.heap.size + 1), 4, none⟩ (.float .f64 ol)).setCell ⟨(w1_.heap.size + 1), 5, none⟩ (.float .f64 oh)).setCell ⟨(w1_.heap.size + 1), 6, none⟩ (.float .f64 il)).setCell ⟨(w1_.heap.size + 1), 7, none⟩ (.float .f64 ih)) = W3_
  intro M
  obtain ⟨k1, k2, k3, k4, k5, k6, k7, k8, k9, k10⟩ := (M.out.nth 1 rfl).ten
  go_wp2_with fail
  refine (c2.out _).mono ?_
  rintro r w4_ ⟨rfl, hb⟩
  replace M := Lib.hid (M.out.below hb)
  clear hb
  clear k1 k2 k3 k4 k5 k6 k7 k8 k9 k10
  replace M := Lib.hid (M.out.made #[.float .f64 pl, .float .f64 ph] 24)
  obtain ⟨k1, k2, k3, k4, k5, k6, k7, k8, k9, k10⟩ := (M.out.nth 1 rfl).ten
  go_wp2_with fail
  refine (c3.out _).mono ?_
  rintro r w5_ ⟨rfl, hb⟩
  replace M := Lib.hid (M.out.below hb)
  clear hb
  clear k1 k2 k3 k4 k5 k6 k7 k8 k9 k10
  replace M := Lib.hid (M.out.made #[.float .f64 pl, .float .f64 ph] 24)
  obtain ⟨k1, k2⟩ := (M.out.nth 1 rfl).two
  go_wp2_with fail
  refine (c4.out _).mono ?_
  rintro r w6_ ⟨rfl, hb⟩
  replace M := Lib.hid (M.out.below hb)
  clear hb
  clear k1 k2
  have kc := (M.out.nth 3 rfl).2.1
  have kf := (M.out.nth 3 rfl).2.2
  replace M : Hid (Own w [(w5_.heap.size, #[.float .f64 pl, .float .f64 ph]), (w4_.heap.size, #[.float .f64 pl, .float .f64 ph]), ((w1_.heap.size + 1), #[.float .f64 rl, .float .f64 rh, .float .f64 sl, .float .f64 sh, .float .f64 ol, .float .f64 oh, .float .f64 il, .float .f64 ih, .float .f64 dl, .float .f64 dh]), (w1_.heap.size, #[.float .f64 rl, .float .f64 rh, .float .f64 0, .float .f64 sh, .float .f64 il, .float .f64 ih, .float .f64 ol, .float .f64 oh, .float .f64 dl, .float .f64 dh]), (w.heap.size, #[.int .u32 u0, .int .u32 u1, .int .u32 u2, .int .u32 u3, .int .u32 u4, .int .u32 u5, .int .u32 u6, .int .u32 u7, .int .u32 u8, .int .u32 u9])] _) := Lib.hid ((M.out.setIn 3 rfl 2 (.float .f64 0)).to (by rfl))
  replace M : Hid (Own w [(w5_.heap.size, #[.float .f64 pl, .float .f64 ph]), (w4_.heap.size, #[.float .f64 pl, .float .f64 ph]), ((w1_.heap.size + 1), #[.float .f64 rl, .float .f64 rh, .float .f64 sl, .float .f64 sh, .float .f64 ol, .float .f64 oh, .float .f64 il, .float .f64 ih, .float .f64 dl, .float .f64 dh]), (w1_.heap.size, #[.float .f64 rl, .float .f64 rh, .float .f64 0, .float .f64 0, .float .f64 il, .float .f64 ih, .float .f64 ol, .float .f64 oh, .float .f64 dl, .float .f64 dh]), (w.heap.size, #[.int .u32 u0, .int .u32 u1, .int .u32 u2, .int .u32 u3, .int .u32 u4, .int .u32 u5, .int .u32 u6, .int .u32 u7, .int .u32 u8, .int .u32 u9])] _) := Lib.hid ((M.out.setIn 3 rfl 3 (.float .f64 0)).to (by rfl))
  obtain ⟨k3, k4, k5, k6, k7, k8, k9, k10, k11, k12⟩ := (M.out.nth 3 rfl).ten
  go_wp2_with fail
  refine (c5.out _).mono ?_
  rintro r w7_ ⟨rfl, hb⟩
  replace M := Lib.hid (M.out.below hb)
  clear hb
  clear kc kf k3 k4 k5 k6 k7 k8 k9 k10 k11 k12
  replace M := Lib.hid (M.out.made #[.float .f64 ql, .float .f64 qh] 24)
  obtain ⟨k1, k2, k3, k4, k5, k6, k7, k8, k9, k10⟩ := (M.out.nth 4 rfl).ten
  go_wp2_with fail
  refine (c6.out _).mono ?_
  rintro r w8_ ⟨rfl, hb⟩
  replace M := Lib.hid (M.out.below hb)
  clear hb
  clear k1 k2 k3 k4 k5 k6 k7 k8 k9 k10
  replace M := Lib.hid (M.out.made #[.float .f64 vl, .float .f64 vh] 24)
  go_wp2_with fail
  refine (c7.out _).mono ?_
  rintro r w9_ ⟨rfl, hb⟩
  replace M := Lib.hid (M.out.below hb)
  clear hb
  go_wp2
  go_ret
  exact ⟨rfl, M.out.base⟩

end Go.Proofs.Ytoiaefgpegiieaa

namespace Go.Proofs.Ytoiaefgpegiieaa
open Go.RowKit

theorem end8_lo {a A : Res} (i : In a A) : In (oneR a.lo) A := ⟨one_fit i.fit.lo i.fit.rlo, i.lo, Int.le_trans i.fit.le i.hi⟩
theorem end8_hi {a A : Res} (i : In a A) : In (oneR a.hi) A := ⟨one_fit i.fit.hi i.fit.rhi, Int.le_trans i.lo i.fit.le, i.hi⟩
theorem rv_range8 {x : Nat} (h : In (oneR x) ouI) : 0 ≤ rv x ∧ rv x ≤ 1 := by
  rw [← rv_0, ← rv_1]
  exact ⟨rv_le.2 h.lo, rv_le.2 h.hi⟩
theorem lam_check {a : Res} (i : In a ouI) (q : Nat) (v : World) (h : Has1 v (q, #[.float .f64 a.lo, .float .f64 a.hi])) :
    Calls Try.prog 130 #[.slice (some ⟨q, 0, none⟩) 1 1] v fun r w' => r = .returned (.int .i64 0) ∧ Below v.heap.size v w' :=
  lcheck1_walk q a.lo a.hi true false false v h (Lib.hid (right_in i.fit)) (lt_in i ou_fit) (gt_in i ou_fit)
theorem lam_fit {a : Res} (i : In a ouI) : Fit (divR a piR) := (div_in i ou_fit (.refl big_fit.1) big_fit.1 (Fit.of (by decide +kernel) : Fit (divR ouI piR)).e).fit
theorem lam8 {a : Res} (i : In a ouI) (w : World) : Calls Try.prog 36 #[.agg #[.float .f64 a.lo, .float .f64 a.hi]] w fun r w' => r = .returned (.tuple #[.agg #[.float .f64 (divR a piR).lo, .float .f64 (divR a piR).hi], .int .i64 0]) ∧ Below w.heap.size w w' :=
  value_walk a.lo a.hi _ _ 0 w (Lib.hid fun w => overPi_walk a.lo a.hi _ _ 0 w (Lib.hid fun p s v hp hs => computed_over a.lo a.hi _ _ 0 p s v hp (Lib.hid fun u hb => lam_check i s u (hs.below hb))
    (Lib.hid fun pb u hC hP n => overLit_walk a.lo a.hi piR.lo piR.hi (divR a piR).lo (divR a piR).hi 0 pb p u hC hP n (Lib.hid fun w => pi_any w) (Lib.hid fun pb => calc_div i.fit big_fit.1 (lam_fit i) pb))))
theorem ask8 {r s i o d : Res} (hr : In r ouI) (hs : In s ouI) (h : Dirs i o d) (he : (Or.st i o d).e = 0) (w : World) :
    Calls Try.prog 34 #[.agg #[.float .f64 r.lo, .float .f64 r.hi, .float .f64 s.lo, .float .f64 s.hi, .float .f64 i.lo, .float .f64 i.hi, .float .f64 o.lo, .float .f64 o.hi, .float .f64 d.lo, .float .f64 d.hi]] w fun x w' =>
    x = .returned (.tuple #[.agg #[.float .f64 (Or.val r s (Or.slope i o d)).lo, .float .f64 (Or.val r s (Or.slope i o d)).hi], .int .i64 0]) ∧ Below w.heap.size w w' := ask_walk w (Lib.hid fun w => value8 hr hs h he w)
theorem ask8_bad {r s i o d : Res} (hr : In r ouI) (hs : In s ouI) (h : Dirs i o d) (he : (Or.st i o d).e ≠ 0) (w : World) :
    Calls Try.prog 34 #[.agg #[.float .f64 r.lo, .float .f64 r.hi, .float .f64 s.lo, .float .f64 s.hi, .float .f64 i.lo, .float .f64 i.hi, .float .f64 o.lo, .float .f64 o.hi, .float .f64 d.lo, .float .f64 d.hi]] w fun x w' =>
    x = .returned (.tuple #[.agg #[.float .f64 0, .float .f64 0], .int .i64 (Or.st i o d).e]) ∧ Below w.heap.size w w' := ask_walk w (Lib.hid fun w => value8_bad hr hs h he w)
theorem st_turn {i o d : Res} (h : Dirs i o d) : Or.st o i d = Or.st i o d := by
  have k := slope_fits h
  have e1 : Or.p o i = Or.p i o := mul_comm_R h.i.fit h.o.fit k.p.fit.e
  have e2 : Or.top o i = Or.top i o := max_turn h.o h.i
  have e3 : Or.s o i d = Or.s i o d := by unfold Or.s; rw [e1]
  have e4 : Or.r o i d = Or.r i o d := by unfold Or.r; rw [e2, e3]
  unfold Or.st
  rw [e3, e4]
theorem slope_turn {i o d : Res} (h : Dirs i o d) : Or.slope o i d = Or.slope i o d := by
  unfold Or.slope
  rw [st_turn h]
/-- With a roughness of 0 it meets Lambert's. -/
theorem back_meets {r t : Res} (hr : In r ouI) (ht : In t oeI) : val (Or.val r (oneR 0) t).lo ≤ val (divR r piR).hi ∧ val (divR r piR).lo ≤ val (Or.val r (oneR 0) t).hi := by
  have hq := HasQ.fst hr.fit
  have lam : HasQ (divR r piR) (((val r.lo : Int) : Rat) / ((SS : Int) : Rat) / Qp) := HasQ.div hr.fit big_fit.1 hq pi_has two_pos.2.2 (lam_fit hr).e
  have h0 : HasQ (oneR 0) 0 := by have := rv_has 0; rw [rv_0] at this; exact this
  have v := val_has hr nil_ou ht hq h0 (HasQ.fst ht.fit)
  have x0 : (0 : Rat) ≤ ((val r.lo : Int) : Rat) / ((SS : Int) : Rat) ∧ ((val r.lo : Int) : Rat) / ((SS : Int) : Rat) ≤ 1 := by
    have a := end8_lo hr
    have := rv_range8 a
    exact this
  have e : valQ (((val r.lo : Int) : Rat) / ((SS : Int) : Rat)) 0 (((val t.lo : Int) : Rat) / ((SS : Int) : Rat)) = ((val r.lo : Int) : Rat) / ((SS : Int) : Rat) / Qp := by
    generalize ((val r.lo : Int) : Rat) / ((SS : Int) : Rat) = x at *
    generalize ((val t.lo : Int) : Rat) / ((SS : Int) : Rat) = y at *
    have q3 := qp_3
    have qi : 0 < Qp⁻¹ := Rat.inv_pos.2 (by grind)
    have e1 : x * (aQ 0 + bQ 0 * y) = x / Qp := by
      unfold aQ bQ
      rw [Rat.mul_zero, Rat.zero_mul, Rat.zero_mul, Rat.add_zero, Rat.add_zero, Rat.div_def, Rat.div_def, Rat.one_mul]
    unfold valQ
    rw [e1]
    have l0 : 0 ≤ x / Qp := by rw [Rat.div_def]; exact Rat.mul_nonneg x0.1 (Rat.le_of_lt qi)
    have l1 : x / Qp ≤ 1 := by
      refine Rat.le_of_mul_le_mul_right (c := Qp) ?_ (by grind)
      have e2 : x / Qp * Qp = x := by grind
      rw [e2, Rat.one_mul]; grind
    unfold clampQ
    split
    · grind
    · split <;> grind
  rw [e] at v
  exact ⟨has_le v lam Rat.le_refl, has_le lam v Rat.le_refl⟩
theorem oback_any (u0 u1' u2 u3 u4 u5 u6 u7 u8 u9 : Nat) (w : World) (g0 : u0 < 4294967296) (g1 : u1' < 4294967296) (g2 : u2 < 4294967296) (g3 : u3 < 4294967296) (g4 : u4 < 4294967296) (g5 : u5 < 4294967296) (g6 : u6 < 4294967296) (g7 : u7 < 4294967296) (g8 : u8 < 4294967296) (g9 : u9 < 4294967296) :
    Calls Try.prog 6 #[.agg #[.int .u32 u0, .int .u32 u1', .int .u32 u2, .int .u32 u3, .int .u32 u4, .int .u32 u5, .int .u32 u6, .int .u32 u7, .int .u32 u8, .int .u32 u9]] w fun r w' => r = .returned (.bool true) ∧ Below w.heap.size w w' := by
  obtain ⟨r, s, i, o, d, hr, hs, h, ca⟩ := asks8 u0 u1' u2 u3 u4 u5 u6 u7 u8 u9 g0 g1 g2 g3 g4 g5 g6 g7 g8 g9
  have h' : Dirs o i d := ⟨h.o, h.i, h.d⟩
  have et := st_turn h
  have es := slope_turn h
  have z0 : val 0 = 0 := Or.v0
  by_cases he : (Or.st i o d).e = 0
  · have t := slope_unit h he
    have V := val_fits hr hs t
    have W := clamp_unit V.l.fit
    have f : Fit (Or.val r s (Or.slope i o d)) := W.fit
    have lo : val 0 ≤ val (Or.val r s (Or.slope i o d)).lo := W.lo
    have hi : val (Or.val r s (Or.slope i o d)).hi ≤ val u1 := W.hi
    have f0 : Fit (Or.val r (oneR 0) (Or.slope i o d)) := (clamp_unit (val_fits hr nil_ou t).l.fit).fit
    have c3 := fun w => ask8 hr hs h' (by rw [et]; exact he) w
    rw [es] at c3
    exact oback_ok (u0 := u0) (u1 := u1') (u2 := u2) (u3 := u3) (u4 := u4) (u5 := u5) (u6 := u6) (u7 := u7) (u8 := u8) (u9 := u9) w (c1 := Lib.hid ca) (c2 := Lib.hid fun w => ask8 hr hs h he w) (c3 := Lib.hid c3)
      (e_pl_pl := eq_of_val8 f.lo f.lo f.rlo f.rlo rfl) (e_ph_ph := eq_of_val8 f.hi f.hi f.rhi f.rhi rfl)
      (o_lsspl_0 := (order_lt _ _ f.lo (by decide) f.rlo (by decide)).trans (decide_eq_false (by omega))) (o_gtrph_418800017408 := (order_gt _ _ f.hi (by decide) f.rhi (by decide)).trans (decide_eq_false (by show ¬ val u1 < _; omega)))
      (o_gtrpl_ph := (order_gt _ _ f.lo f.hi f.rlo f.rhi).trans (decide_eq_false (by have := f.le; omega))) (c4 := Lib.hid (p8_lit _ (by decide +kernel)))
      (c5 := Lib.hid fun w => ask8 hr nil_ou h he w) (c6 := Lib.hid fun w => lam8 hr w) (c7 := Lib.hid fun w => meets8 f0 (lam_fit hr) (back_meets hr t) w) (c8 := Lib.hid awake8_any)
  · have c3 := fun w => ask8_bad hr hs h' (by rw [et]; exact he) w
    rw [et] at c3
    exact oback_err (u0 := u0) (u1 := u1') (u2 := u2) (u3 := u3) (u4 := u4) (u5 := u5) (u6 := u6) (u7 := u7) (u8 := u8) (u9 := u9) w (c1 := Lib.hid ca) (c2 := Lib.hid fun w => ask8_bad hr hs h he w) (c3 := Lib.hid c3)
      (e_pl_pl := by decide +kernel) (e_ph_ph := by decide +kernel) (o_lsspl_0 := by decide +kernel) (o_gtrph_418800017408 := by decide +kernel) (o_gtrpl_ph := by decide +kernel) (c4 := Lib.hid (p8_lit _ (by decide +kernel)))
      (c5 := Lib.hid fun w => ask8_bad hr nil_ou h he w) (c6 := Lib.hid fun w => lam8 hr w) (c7 := Lib.hid awake8_any) (ne2 := by simpa using he) (ne3 := by simpa using he) (ne4 := by simpa using he)
end Go.Proofs.Ytoiaefgpegiieaa

namespace Go.Proofs.Ytoiaefgpegiieaa
open Go.ChangeShapes Go.WideShapes Go.ChangeAt Go.RowKit

set_option maxRecDepth 100000 in
theorem orenBack_lifted (os : Os) (started : os.Started) (H : Type) (enc : TypeId × Value → H) :
    ReturnsInHanded {} Try.checked os 6 .any (Rows.orenBackSpec.pre6 enc Try.prog Try.f6 Rows.orenBackRow.domain false) (Rows.orenBackSpec.post enc Try.prog Try.f6 false true false false) := by
  refine returnsInHanded_of_change (C := Try.checked) Try.own started (by kernel_rfl) Try.func6
    (ChangeSpec.witness6 (enc := enc) (C := Try.checked) false ⟨#[], #[.agg #[.int .u32 0, .int .u32 0, .int .u32 0, .int .u32 0, .int .u32 0, .int .u32 0, .int .u32 0, .int .u32 0, .int .u32 0, .int .u32 0]], []⟩ 8 (by kernel_rfl) (by kernel_rfl) (by kernel_rfl) (by kernel_rfl)) ?_
  intro W base args ds gs before hval0 hW hcnd _
  have hval : ∀ (j : Nat) t v, Try.f6.params[j]? = some t → args[j]? = some v → Value.okWide Try.prog W .any base t v := hval0
  have hW' := hW
  obtain ⟨p, q, hA0, hV, rfl, hfz, hnd⟩ := hW
  have hA : DataW.TrodAll enc Try.prog W 0 (fun _ => true) true Try.f6.params.toList args.toList ds p := hA0
  rw [Try.params6] at hA hval
  obtain ⟨v0, d0, rfl, rfl, h0⟩ := trodAll_one hA
  obtain ⟨rfl, rfl⟩ := trodVars_none hV
  obtain ⟨y0_0, y0_1, y0_2, y0_3, y0_4, y0_5, y0_6, y0_7, y0_8, y0_9, rfl, rfl, rfl, z0_0, z0_1, z0_2, z0_3, z0_4, z0_5, z0_6, z0_7, z0_8, z0_9⟩ := open_u10 (hval 0 57 v0 rfl rfl) h0
  clear hA0 hval0
  simp only [List.append_nil] at hW'
  obtain ⟨x0_0, rfl, c0_0⟩ := u32_nat z0_0
  obtain ⟨x0_1, rfl, c0_1⟩ := u32_nat z0_1
  obtain ⟨x0_2, rfl, c0_2⟩ := u32_nat z0_2
  obtain ⟨x0_3, rfl, c0_3⟩ := u32_nat z0_3
  obtain ⟨x0_4, rfl, c0_4⟩ := u32_nat z0_4
  obtain ⟨x0_5, rfl, c0_5⟩ := u32_nat z0_5
  obtain ⟨x0_6, rfl, c0_6⟩ := u32_nat z0_6
  obtain ⟨x0_7, rfl, c0_7⟩ := u32_nat z0_7
  obtain ⟨x0_8, rfl, c0_8⟩ := u32_nat z0_8
  obtain ⟨x0_9, rfl, c0_9⟩ := u32_nat z0_9
  refine (oback_any x0_0 x0_1 x0_2 x0_3 x0_4 x0_5 x0_6 x0_7 x0_8 x0_9 W c0_0 c0_1 c0_2 c0_3 c0_4 c0_5 c0_6 c0_7 c0_8 c0_9).mono fun e W' ⟨he, hw⟩ => ?_
  subst he
  refine ⟨_, rfl, _, _, _, [], [], [], hW', trodAll_mk1 (shut_bool Try.underlying4 _), trodAll_mk1 (shut_u10 z0_0 z0_1 z0_2 z0_3 z0_4 z0_5 z0_6 z0_7 z0_8 z0_9), rfl, hw.frame _, fun h => by cases h⟩

theorem orenBack_holds : Rows.OrenBackSaid :=
  OpenClaim.holds_of_wide 6 Try.f6 rfl rfl rfl rfl rfl rfl rfl ⟨rfl, rfl, rfl, rfl, rfl⟩ rfl rfl rfl rfl rfl (by kernel_rfl) Try.func6 (by kernel_rfl)
    (of_decide_eq_true (by kernel_rfl)) (by unfold Func.isWrapper; first | (rw [if_pos (by decide +kernel)]; kernel_rfl) | (rw [if_neg (by decide +kernel)]; exact ⟨rfl, rfl⟩))
    (fun os started H enc _ => orenBack_lifted os started H enc)

end Go.Proofs.Ytoiaefgpegiieaa
