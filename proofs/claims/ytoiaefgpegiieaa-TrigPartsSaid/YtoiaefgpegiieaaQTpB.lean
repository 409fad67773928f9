
/- TrigParts: the law's walk. -/
import Derived.Test.YtoiaefgpegiieaaLanP
import Derived.Deep.RegionHeld3
namespace Go.Proofs.Ytoiaefgpegiieaa
open Go.RowKit
attribute [local go_sem] run_store_float

theorem eq_floatsB (x y : Nat) (w : World) : (Op.equalIn 9999 22 (.float .f64 x) (.float .f64 y)).run Try.prog w = .ok (Op.floatEq .f64 x y) w := by
  have hf := run_underlying Try.underlying22 (w := w)
  show (Op.equalIn (9998 + 1) 22 _ _).run Try.prog w = _
  rw [Op.equalIn]
  simp only [Sem.run_bind, hf, Result.andThen]
  simp [go_sem]

set_option maxRecDepth 100000 in
set_option maxHeartbeats 16000000 in
theorem parts_tf {ul uh u0 px sl sh ol oh pl ph ql qh vl vh tl th el eh fl fh ph2 pr al ah bl bh dl dh gl gh pm pd : Nat} (w : World)
    (c1 : Hid (∀ w, Calls Try.prog 10 #[.agg #[.float .f64 ul, .float .f64 uh]] w fun r w' => r = .returned (.bool true) ∧ Below w.heap.size w w'))
    (c2 : Hid (∀ w, Calls Try.prog 12 #[.agg #[.float .f64 ul, .float .f64 uh], .int .u16 u0] w fun r w' => r = .returned (.float .f64 px) ∧ Below w.heap.size w w'))
    (c3 : Hid (∀ w, Calls Try.prog 13 #[.agg #[.float .f64 ul, .float .f64 uh]] w fun r w' => r = .returned (.tuple #[.agg #[.float .f64 sl, .float .f64 sh], .agg #[.float .f64 ol, .float .f64 oh], .int .i64 0]) ∧ Below w.heap.size w w'))
    (c4 : Hid (∀ w, Calls Try.prog 14 #[.float .f64 px, .float .f64 px] w fun r w' => r = .returned (.agg #[.float .f64 px, .float .f64 px]) ∧ Below w.heap.size w w'))
    (c5 : Hid (∀ w, Calls Try.prog 13 #[.agg #[.float .f64 px, .float .f64 px]] w fun r w' => r = .returned (.tuple #[.agg #[.float .f64 pl, .float .f64 ph], .agg #[.float .f64 ql, .float .f64 qh], .int .i64 0]) ∧ Below w.heap.size w w'))
    (c6 : Hid (∀ w, Calls Try.prog 14 #[.float .f64 ul, .float .f64 px] w fun r w' => r = .returned (.agg #[.float .f64 ul, .float .f64 px]) ∧ Below w.heap.size w w'))
    (c7 : Hid (∀ w, Calls Try.prog 13 #[.agg #[.float .f64 ul, .float .f64 px]] w fun r w' => r = .returned (.tuple #[.agg #[.float .f64 vl, .float .f64 vh], .agg #[.float .f64 tl, .float .f64 th], .int .i64 0]) ∧ Below w.heap.size w w'))
    (c8 : Hid (∀ w, Calls Try.prog 15 #[.agg #[.float .f64 sl, .float .f64 sh], .agg #[.float .f64 pl, .float .f64 ph]] w fun r w' => r = .returned (.bool true) ∧ Below w.heap.size w w'))
    (c9 : Hid (∀ w, Calls Try.prog 15 #[.agg #[.float .f64 ol, .float .f64 oh], .agg #[.float .f64 ql, .float .f64 qh]] w fun r w' => r = .returned (.bool true) ∧ Below w.heap.size w w'))
    (c10 : Hid (∀ w, Calls Try.prog 16 #[.float .f64 4607182418800017408, .int .i64 (-47)] w fun r w' => r = .returned (.float .f64 4395513236313604096) ∧ w = w'))
    (q_el : (∀ w, (binOp .sub 22 (.float .f64 sl) (.float .f64 4395513236313604096)).run Try.prog w = .ok (.float .f64 el) w))
    (o_lssvl_el : ((FloatKind.f64.format.order vl el == some Ordering.lt) = false))
    (q_eh : (∀ w, (binOp .add 22 (.float .f64 sh) (.float .f64 4395513236313604096)).run Try.prog w = .ok (.float .f64 eh) w))
    (o_gtrvh_eh : ((FloatKind.f64.format.order vh eh == some Ordering.gt) = false))
    (q_fl : (∀ w, (binOp .sub 22 (.float .f64 ol) (.float .f64 4395513236313604096)).run Try.prog w = .ok (.float .f64 fl) w))
    (o_lsstl_fl : ((FloatKind.f64.format.order tl fl == some Ordering.lt) = false))
    (q_fh : (∀ w, (binOp .add 22 (.float .f64 oh) (.float .f64 4395513236313604096)).run Try.prog w = .ok (.float .f64 fh) w))
    (o_gtrth_fh : ((FloatKind.f64.format.order th fh == some Ordering.gt) = false))
    (o_lsspx_819172646912 : ((FloatKind.f64.format.order px 4602678819172646912 == some Ordering.lt) = true))
    (q_ph2 : (∀ w, (binOp .add 22 (.float .f64 px) (.float .f64 4602678819172646912)).run Try.prog w = .ok (.float .f64 ph2) w))
    (q_pr : (∀ w, (binOp .sub 22 (.float .f64 ph2) (.float .f64 4602678819172646912)).run Try.prog w = .ok (.float .f64 pr) w))
    (o_eqlpr_px : ((FloatKind.f64.format.order pr px == some Ordering.eq) = true))
    (c14 : Hid (∀ w, Calls Try.prog 14 #[.float .f64 ph2, .float .f64 ph2] w fun r w' => r = .returned (.agg #[.float .f64 ph2, .float .f64 ph2]) ∧ Below w.heap.size w w'))
    (c15 : Hid (∀ w, Calls Try.prog 13 #[.agg #[.float .f64 ph2, .float .f64 ph2]] w fun r w' => r = .returned (.tuple #[.agg #[.float .f64 al, .float .f64 ah], .agg #[.float .f64 bl, .float .f64 bh], .int .i64 0]) ∧ Below w.heap.size w w'))
    (d16 : Hid (K1 17 0 0 pl ph dl dh))
    (c17 : Hid (∀ w, Calls Try.prog 15 #[.agg #[.float .f64 al, .float .f64 ah], .agg #[.float .f64 dl, .float .f64 dh]] w fun r w' => r = .returned (.bool true) ∧ Below w.heap.size w w'))
    (d18 : Hid (K1 17 0 0 ql qh gl gh))
    (c19 : Hid (∀ w, Calls Try.prog 15 #[.agg #[.float .f64 bl, .float .f64 bh], .agg #[.float .f64 gl, .float .f64 gh]] w fun r w' => r = .returned (.bool true) ∧ Below w.heap.size w w'))
    (q_pm : (∀ w, (binOp .sub 22 (.float .f64 4607182418800017408) (.float .f64 px)).run Try.prog w = .ok (.float .f64 pm) w))
    (q_pd : (∀ w, (binOp .sub 22 (.float .f64 4607182418800017408) (.float .f64 pm)).run Try.prog w = .ok (.float .f64 pd) w))
    (o_eqlpd_px : ((FloatKind.f64.format.order pd px == some Ordering.eq) = false))
    (c21 : Hid (∀ w, Calls Try.prog 11 #[] w fun r w' => r = .returned (.bool true) ∧ Below w.heap.size w w')) :
    Calls Try.prog 3 #[.agg #[.float .f64 ul, .float .f64 uh], .int .u16 u0] w fun r w' => r = .returned (.bool true) ∧ Below w.heap.size w w' := by
  have M := Lib.hid ((Own.nil w).made #[.float .f64 ul, .float .f64 uh] 24)
  have eqF := eq_floatsB
  go_enter Try.func3, Try.ntmps3
  obtain ⟨k1, k2⟩ := (M.out.nth 0 rfl).two
  go_wp2_with fail
  refine (c1.out _).mono ?_
  rintro r w1_ ⟨rfl, hb⟩
  replace M := Lib.hid (M.out.below hb)
  clear hb
  clear k1 k2
  obtain ⟨k1, k2⟩ := (M.out.nth 0 rfl).two
  go_wp2_with fail
  refine (c2.out _).mono ?_
  rintro r w2_ ⟨rfl, hb⟩
  replace M := Lib.hid (M.out.below hb)
  clear hb
  clear k1 k2
  obtain ⟨k1, k2⟩ := (M.out.nth 0 rfl).two
  go_wp2_with fail
  refine (c3.out _).mono ?_
  rintro r w3_ ⟨rfl, hb⟩
  replace M := Lib.hid (M.out.below hb)
  clear hb
  clear k1 k2
  replace M := Lib.hid (M.out.made #[.float .f64 sl, .float .f64 sh] 24)
  replace M := Lib.hid (M.out.made #[.float .f64 ol, .float .f64 oh] 24)
  simp only [World.size_alloc] at M
  go_wp2_with fail
  refine (c4.out _).mono ?_
  rintro r w4_ ⟨rfl, hb⟩
  replace M := Lib.hid (M.out.below hb)
  clear hb
  go_wp2_with fail
  refine (c5.out _).mono ?_
  rintro r w5_ ⟨rfl, hb⟩
  replace M := Lib.hid (M.out.below hb)
  clear hb
  replace M := Lib.hid (M.out.made #[.float .f64 pl, .float .f64 ph] 24)
  replace M := Lib.hid (M.out.made #[.float .f64 ql, .float .f64 qh] 24)
  simp only [World.size_alloc] at M
  obtain ⟨k1, k2⟩ := (M.out.nth 4 rfl).two
  go_wp2_with fail
  refine (c6.out _).mono ?_
  rintro r w6_ ⟨rfl, hb⟩
  replace M := Lib.hid (M.out.below hb)
  clear hb
  clear k1 k2
  go_wp2_with fail
  refine (c7.out _).mono ?_
  rintro r w7_ ⟨rfl, hb⟩
  replace M := Lib.hid (M.out.below hb)
  clear hb
  replace M := Lib.hid (M.out.made #[.float .f64 vl, .float .f64 vh] 24)
  replace M := Lib.hid (M.out.made #[.float .f64 tl, .float .f64 th] 24)
  simp only [World.size_alloc] at M
  go_upto_region 7 with fail
  replace M := Lib.hid M.out.drew
  obtain ⟨k1, k2⟩ := (M.out.nth 5 rfl).two
  obtain ⟨k3, k4⟩ := (M.out.nth 3 rfl).two
  obtain ⟨k5, k6⟩ := (M.out.nth 4 rfl).two
  obtain ⟨k7, k8⟩ := (M.out.nth 2 rfl).two
  obtain ⟨k9, k10⟩ := (M.out.nth 1 rfl).two
  obtain ⟨k11, k12⟩ := (M.out.nth 0 rfl).two
  go_region_held3 (fun w' => (w'.cell? ⟨w3_.heap.size, 0, none⟩ = some (.float .f64 sl) ∧ w'.cell? ⟨w3_.heap.size, 1, none⟩ = some (.float .f64 sh)) ∧ (w'.cell? ⟨w5_.heap.size, 0, none⟩ = some (.float .f64 pl) ∧ w'.cell? ⟨w5_.heap.size, 1, none⟩ = some (.float .f64 ph)) ∧ (w'.cell? ⟨(w3_.heap.size + 1), 0, none⟩ = some (.float .f64 ol) ∧ w'.cell? ⟨(w3_.heap.size + 1), 1, none⟩ = some (.float .f64 oh)) ∧ (w'.cell? ⟨(w5_.heap.size + 1), 0, none⟩ = some (.float .f64 ql) ∧ w'.cell? ⟨(w5_.heap.size + 1), 1, none⟩ = some (.float .f64 qh)) ∧ (w'.cell? ⟨w7_.heap.size, 0, none⟩ = some (.float .f64 vl) ∧ w'.cell? ⟨w7_.heap.size, 1, none⟩ = some (.float .f64 vh)) ∧ (w'.cell? ⟨(w7_.heap.size + 1), 0, none⟩ = some (.float .f64 tl) ∧ w'.cell? ⟨(w7_.heap.size + 1), 1, none⟩ = some (.float .f64 th))) (((try dsimp only); (repeat' apply And.intro); all_goals (repeat (first | (with_reducible assumption) | ((with_reducible refine keep_undrew ?_); (with_reducible assumption)) | (with_reducible refine keep_drew ?_) | (with_reducible refine keep_alloc _ ?_) | (with_reducible refine keep_set _ (by first | (with_reducible assumption) | omega) ?_)))))
    (first
      | (go_at_call 15; (with_reducible refine (c8.out _).mono ?_); rintro rr w5 ⟨rfl, hb⟩; replace M := Lib.hid (M.out.below hb); clear hb; clear k1 k2 k3 k4 k5 k6 k7 k8 k9 k10 k11 k12; obtain ⟨k1, k2⟩ := (M.out.nth 5 rfl).two; obtain ⟨k3, k4⟩ := (M.out.nth 3 rfl).two; obtain ⟨k5, k6⟩ := (M.out.nth 4 rfl).two; obtain ⟨k7, k8⟩ := (M.out.nth 2 rfl).two; obtain ⟨k9, k10⟩ := (M.out.nth 1 rfl).two; obtain ⟨k11, k12⟩ := (M.out.nth 0 rfl).two)
      | (go_at_call 15; (with_reducible refine (c9.out _).mono ?_); rintro rr w5 ⟨rfl, hb⟩; replace M := Lib.hid (M.out.below hb); clear hb; clear k1 k2 k3 k4 k5 k6 k7 k8 k9 k10 k11 k12; obtain ⟨k1, k2⟩ := (M.out.nth 5 rfl).two; obtain ⟨k3, k4⟩ := (M.out.nth 3 rfl).two; obtain ⟨k5, k6⟩ := (M.out.nth 4 rfl).two; obtain ⟨k7, k8⟩ := (M.out.nth 2 rfl).two; obtain ⟨k9, k10⟩ := (M.out.nth 1 rfl).two; obtain ⟨k11, k12⟩ := (M.out.nth 0 rfl).two)
      | (go_at_call 16; (with_reducible refine (c10.out _).mono ?_); rintro rr w5 ⟨rfl, rfl⟩; clear k1 k2 k3 k4 k5 k6 k7 k8 k9 k10 k11 k12; obtain ⟨k1, k2⟩ := (M.out.nth 5 rfl).two; obtain ⟨k3, k4⟩ := (M.out.nth 3 rfl).two; obtain ⟨k5, k6⟩ := (M.out.nth 4 rfl).two; obtain ⟨k7, k8⟩ := (M.out.nth 2 rfl).two; obtain ⟨k9, k10⟩ := (M.out.nth 1 rfl).two; obtain ⟨k11, k12⟩ := (M.out.nth 0 rfl).two))
  clear k1 k2 k3 k4 k5 k6 k7 k8 k9 k10 k11 k12
  replace M := Lib.hid (M.out.made #[.int .i64 0] 36)
  go_wp2_with fail
  refine (c14.out _).mono ?_
  rintro r w8_ ⟨rfl, hb⟩
  replace M := Lib.hid (M.out.below hb)
  clear hb
  go_wp2_with fail
  refine (c15.out _).mono ?_
  rintro r w9_ ⟨rfl, hb⟩
  replace M := Lib.hid (M.out.below hb)
  clear hb
  replace M := Lib.hid (M.out.made #[.float .f64 al, .float .f64 ah] 24).front
  replace M := Lib.hid (M.out.made #[.float .f64 bl, .float .f64 bh] 24).front
  simp only [World.size_alloc] at M
  go_upto_region 12 with fail
  replace M := Lib.hid M.out.drew
  revert M
  generalize ((w9_.alloc (.cells #[.float .f64 al, .float .f64 ah] 24)).alloc (.cells #[.float .f64 bl, .float .f64 bh] 24)) = W10_
  intro M
  refine wp_region_noPanic ?_
  refine tails_region (S := fun w' => (w'.cell? ⟨w9_.heap.size, 0, none⟩ = some (.float .f64 al) ∧ w'.cell? ⟨w9_.heap.size, 1, none⟩ = some (.float .f64 ah)) ∧ (w'.cell? ⟨w5_.heap.size, 0, none⟩ = some (.float .f64 pl) ∧ w'.cell? ⟨w5_.heap.size, 1, none⟩ = some (.float .f64 ph)) ∧ (w'.cell? ⟨(w9_.heap.size + 1), 0, none⟩ = some (.float .f64 bl) ∧ w'.cell? ⟨(w9_.heap.size + 1), 1, none⟩ = some (.float .f64 bh)) ∧ (w'.cell? ⟨(w5_.heap.size + 1), 0, none⟩ = some (.float .f64 ql) ∧ w'.cell? ⟨(w5_.heap.size + 1), 1, none⟩ = some (.float .f64 qh))) [] (by kernel_rfl) ?_ (fun hS => ?_)
  · exact ⟨(M.out.nth 2 rfl).two, (M.out.nth 6 rfl).two, (M.out.nth 1 rfl).two, (M.out.nth 5 rfl).two⟩
  refine tk (x := ?_) 0 rfl (by kernel_rfl) ⟨by kernel_rfl, ?_⟩ (fun _ _ _ h => h) hS ?_
  rotate_left; focus (intro w hSw; (try dsimp only at hSw); go_simp; try with_reducible rfl)
  refine tk (x := ?_) 1 rfl (by kernel_rfl) ⟨by kernel_rfl, ?_⟩ (fun _ _ _ h => h) hS ?_
  rotate_left; focus (intro w hSw; (try dsimp only at hSw); go_simp; try with_reducible rfl)
  conv => arg 9; simp only [Act.put, go_sem]
  refine tk (x := ?_) 2 rfl (by kernel_rfl) ⟨by kernel_rfl, ?_⟩ (fun _ _ _ h => h) hS ?_
  rotate_left; focus (intro w hSw; (try dsimp only at hSw); go_simp; try with_reducible rfl)
  refine tk (x := ?_) 3 rfl (by kernel_rfl) ⟨by kernel_rfl, ?_⟩ (fun _ _ _ h => h) hS ?_
  rotate_left; focus (intro w hSw; (try dsimp only at hSw); go_simp; try with_reducible rfl)
  conv => arg 9; simp only [Act.put, go_sem]
  refine tk (x := ?_) 4 rfl (by kernel_rfl) ⟨by kernel_rfl, ?_⟩ (fun _ _ _ h => h) hS ?_
  rotate_left; focus (intro w hSw; (try dsimp only at hSw); go_simp; try with_reducible rfl)
  conv => arg 9; simp only [Act.put, go_sem]
  refine tails_one (T := []) (i := 5) (o := _) rfl (by kernel_rfl) (fun K hK => ?_)
  go_simp
  refine (d16.out _ _ (M.out.nth 0 rfl)).mono ?_
  rintro rr w11_ ⟨rfl, hb⟩
  replace M : Hid (Own w [(w5.heap.size, #[.int .i64 0]), ((w9_.heap.size + 1), #[.float .f64 bl, .float .f64 bh]), (w9_.heap.size, #[.float .f64 al, .float .f64 ah]), ((w7_.heap.size + 1), #[.float .f64 tl, .float .f64 th]), (w7_.heap.size, #[.float .f64 vl, .float .f64 vh]), ((w5_.heap.size + 1), #[.float .f64 ql, .float .f64 qh]), (w5_.heap.size, #[.float .f64 pl, .float .f64 ph]), ((w3_.heap.size + 1), #[.float .f64 ol, .float .f64 oh]), (w3_.heap.size, #[.float .f64 sl, .float .f64 sh]), (w.heap.size, #[.float .f64 ul, .float .f64 uh])] w11_) := Lib.hid (M.out.putAt 0 rfl hb)
  clear hb
  try go_wp2_with fail
  refine hK.out _ _ (Or.inr ⟨(M.out.nth 2 rfl).two, (M.out.nth 6 rfl).two, (M.out.nth 1 rfl).two, (M.out.nth 5 rfl).two⟩) (fun hHeld => ?_)
  clear hK K hHeld
  replace hS := (And.intro (M.out.nth 2 rfl).two (And.intro (M.out.nth 6 rfl).two (And.intro (M.out.nth 1 rfl).two (M.out.nth 5 rfl).two)))
  refine tails_one (T := []) (i := 6) (o := _) rfl (by kernel_rfl) (fun K hK => ?_)
  go_simp
  refine (c17.out _).mono ?_
  rintro rr w12_ ⟨rfl, hb⟩
  replace M := Lib.hid (M.out.below hb)
  clear hb
  try go_wp2_with fail
  refine hK.out _ _ (Or.inr ⟨(M.out.nth 2 rfl).two, (M.out.nth 6 rfl).two, (M.out.nth 1 rfl).two, (M.out.nth 5 rfl).two⟩) (fun hHeld => ?_)
  clear hK K hHeld
  replace hS := (And.intro (M.out.nth 2 rfl).two (And.intro (M.out.nth 6 rfl).two (And.intro (M.out.nth 1 rfl).two (M.out.nth 5 rfl).two)))
  refine tk (x := ?_) 7 rfl (by kernel_rfl) ⟨by kernel_rfl, ?_⟩ (fun _ _ _ h => h) hS ?_
  rotate_left; focus (intro w hSw; (try dsimp only at hSw); go_simp; try with_reducible rfl)
  refine tk (x := ?_) 8 rfl (by kernel_rfl) ⟨by kernel_rfl, ?_⟩ (fun _ _ _ h => h) hS ?_
  rotate_left; focus (intro w hSw; (try dsimp only at hSw); go_simp; try with_reducible rfl)
  refine tk (x := ?_) 9 rfl (by kernel_rfl) ⟨by kernel_rfl, ?_⟩ (fun _ _ _ h => h) hS ?_
  rotate_left; focus (intro w hSw; (try dsimp only at hSw); go_simp; try with_reducible rfl)
  refine tk (x := ?_) 10 rfl (by kernel_rfl) ⟨by kernel_rfl, ?_⟩ (fun _ _ _ h => h) hS ?_
  rotate_left; focus (intro w hSw; (try dsimp only at hSw); go_simp; try with_reducible rfl)
  refine tk (x := ?_) 11 rfl (by kernel_rfl) ⟨by kernel_rfl, ?_⟩ (fun _ _ _ h => h) hS ?_
  rotate_left; focus (intro w hSw; (try dsimp only at hSw); go_simp; try with_reducible rfl)
  refine tails_one (T := []) (i := 12) (o := _) rfl (by kernel_rfl) (fun K hK => ?_)
  go_simp
  refine (d18.out _ _ (M.out.nth 0 rfl)).mono ?_
  rintro rr w13_ ⟨rfl, hb⟩
  replace M : Hid (Own w [(w5.heap.size, #[.int .i64 0]), ((w9_.heap.size + 1), #[.float .f64 bl, .float .f64 bh]), (w9_.heap.size, #[.float .f64 al, .float .f64 ah]), ((w7_.heap.size + 1), #[.float .f64 tl, .float .f64 th]), (w7_.heap.size, #[.float .f64 vl, .float .f64 vh]), ((w5_.heap.size + 1), #[.float .f64 ql, .float .f64 qh]), (w5_.heap.size, #[.float .f64 pl, .float .f64 ph]), ((w3_.heap.size + 1), #[.float .f64 ol, .float .f64 oh]), (w3_.heap.size, #[.float .f64 sl, .float .f64 sh]), (w.heap.size, #[.float .f64 ul, .float .f64 uh])] w13_) := Lib.hid (M.out.putAt 0 rfl hb)
  clear hb
  try go_wp2_with fail
  refine hK.out _ _ (Or.inr ⟨(M.out.nth 2 rfl).two, (M.out.nth 6 rfl).two, (M.out.nth 1 rfl).two, (M.out.nth 5 rfl).two⟩) (fun hHeld => ?_)
  clear hK K hHeld
  replace hS := (And.intro (M.out.nth 2 rfl).two (And.intro (M.out.nth 6 rfl).two (And.intro (M.out.nth 1 rfl).two (M.out.nth 5 rfl).two)))
  refine tails_one (T := []) (i := 13) (o := _) rfl (by kernel_rfl) (fun K hK => ?_)
  go_simp
  refine (c19.out _).mono ?_
  rintro rr w14_ ⟨rfl, hb⟩
  replace M := Lib.hid (M.out.below hb)
  clear hb
  try go_wp2_with fail
  refine hK.out _ _ (Or.inr ⟨(M.out.nth 2 rfl).two, (M.out.nth 6 rfl).two, (M.out.nth 1 rfl).two, (M.out.nth 5 rfl).two⟩) (fun hHeld => ?_)
  clear hK K hHeld
  replace hS := (And.intro (M.out.nth 2 rfl).two (And.intro (M.out.nth 6 rfl).two (And.intro (M.out.nth 1 rfl).two (M.out.nth 5 rfl).two)))
  refine tk (x := ?_) 14 rfl (by kernel_rfl) ⟨by kernel_rfl, ?_⟩ (fun _ _ _ h => h) hS ?_
  rotate_left; focus (intro w hSw; (try dsimp only at hSw); go_simp; try with_reducible rfl)
  refine tk (x := ?_) 15 rfl (by kernel_rfl) ⟨by kernel_rfl, ?_⟩ (fun _ _ _ h => h) hS ?_
  rotate_left; focus (intro w hSw; (try dsimp only at hSw); go_simp; try with_reducible rfl)
  refine tails_done (by kernel_rfl) ?_ _
  refine NoPanic.normal ?_
  clear hS
  go_wp2_with fail
  refine (err_any 0 _ 0 _ (M.out.nth 0 rfl).pc).mono ?_
  rintro r w15_ ⟨rfl, rfl⟩
  go_wp2_with fail
  refine (c21.out _).mono ?_
  rintro r w16_ ⟨rfl, hb⟩
  replace M := Lib.hid (M.out.below hb)
  clear hb
  go_wp2
  go_ret
  exact ⟨rfl, M.out.base⟩

set_option maxRecDepth 100000 in
set_option maxHeartbeats 16000000 in
theorem parts_lt {ul uh u0 px sl sh ol oh pl ph ql qh vl vh tl th el eh fl fh pm pd cal cah cbl cbh dl dh : Nat} (w : World)
    (c1 : Hid (∀ w, Calls Try.prog 10 #[.agg #[.float .f64 ul, .float .f64 uh]] w fun r w' => r = .returned (.bool true) ∧ Below w.heap.size w w'))
    (c2 : Hid (∀ w, Calls Try.prog 12 #[.agg #[.float .f64 ul, .float .f64 uh], .int .u16 u0] w fun r w' => r = .returned (.float .f64 px) ∧ Below w.heap.size w w'))
    (c3 : Hid (∀ w, Calls Try.prog 13 #[.agg #[.float .f64 ul, .float .f64 uh]] w fun r w' => r = .returned (.tuple #[.agg #[.float .f64 sl, .float .f64 sh], .agg #[.float .f64 ol, .float .f64 oh], .int .i64 0]) ∧ Below w.heap.size w w'))
    (c4 : Hid (∀ w, Calls Try.prog 14 #[.float .f64 px, .float .f64 px] w fun r w' => r = .returned (.agg #[.float .f64 px, .float .f64 px]) ∧ Below w.heap.size w w'))
    (c5 : Hid (∀ w, Calls Try.prog 13 #[.agg #[.float .f64 px, .float .f64 px]] w fun r w' => r = .returned (.tuple #[.agg #[.float .f64 pl, .float .f64 ph], .agg #[.float .f64 ql, .float .f64 qh], .int .i64 0]) ∧ Below w.heap.size w w'))
    (c6 : Hid (∀ w, Calls Try.prog 14 #[.float .f64 ul, .float .f64 px] w fun r w' => r = .returned (.agg #[.float .f64 ul, .float .f64 px]) ∧ Below w.heap.size w w'))
    (c7 : Hid (∀ w, Calls Try.prog 13 #[.agg #[.float .f64 ul, .float .f64 px]] w fun r w' => r = .returned (.tuple #[.agg #[.float .f64 vl, .float .f64 vh], .agg #[.float .f64 tl, .float .f64 th], .int .i64 0]) ∧ Below w.heap.size w w'))
    (c8 : Hid (∀ w, Calls Try.prog 15 #[.agg #[.float .f64 sl, .float .f64 sh], .agg #[.float .f64 pl, .float .f64 ph]] w fun r w' => r = .returned (.bool true) ∧ Below w.heap.size w w'))
    (c9 : Hid (∀ w, Calls Try.prog 15 #[.agg #[.float .f64 ol, .float .f64 oh], .agg #[.float .f64 ql, .float .f64 qh]] w fun r w' => r = .returned (.bool true) ∧ Below w.heap.size w w'))
    (c10 : Hid (∀ w, Calls Try.prog 16 #[.float .f64 4607182418800017408, .int .i64 (-47)] w fun r w' => r = .returned (.float .f64 4395513236313604096) ∧ w = w'))
    (q_el : (∀ w, (binOp .sub 22 (.float .f64 sl) (.float .f64 4395513236313604096)).run Try.prog w = .ok (.float .f64 el) w))
    (o_lssvl_el : ((FloatKind.f64.format.order vl el == some Ordering.lt) = false))
    (q_eh : (∀ w, (binOp .add 22 (.float .f64 sh) (.float .f64 4395513236313604096)).run Try.prog w = .ok (.float .f64 eh) w))
    (o_gtrvh_eh : ((FloatKind.f64.format.order vh eh == some Ordering.gt) = false))
    (q_fl : (∀ w, (binOp .sub 22 (.float .f64 ol) (.float .f64 4395513236313604096)).run Try.prog w = .ok (.float .f64 fl) w))
    (o_lsstl_fl : ((FloatKind.f64.format.order tl fl == some Ordering.lt) = false))
    (q_fh : (∀ w, (binOp .add 22 (.float .f64 oh) (.float .f64 4395513236313604096)).run Try.prog w = .ok (.float .f64 fh) w))
    (o_gtrth_fh : ((FloatKind.f64.format.order th fh == some Ordering.gt) = false))
    (o_lsspx_819172646912 : ((FloatKind.f64.format.order px 4602678819172646912 == some Ordering.lt) = false))
    (q_pm : (∀ w, (binOp .sub 22 (.float .f64 4607182418800017408) (.float .f64 px)).run Try.prog w = .ok (.float .f64 pm) w))
    (q_pd : (∀ w, (binOp .sub 22 (.float .f64 4607182418800017408) (.float .f64 pm)).run Try.prog w = .ok (.float .f64 pd) w))
    (o_eqlpd_px : ((FloatKind.f64.format.order pd px == some Ordering.eq) = true))
    (c14 : Hid (∀ w, Calls Try.prog 14 #[.float .f64 pm, .float .f64 pm] w fun r w' => r = .returned (.agg #[.float .f64 pm, .float .f64 pm]) ∧ Below w.heap.size w w'))
    (c15 : Hid (∀ w, Calls Try.prog 13 #[.agg #[.float .f64 pm, .float .f64 pm]] w fun r w' => r = .returned (.tuple #[.agg #[.float .f64 cal, .float .f64 cah], .agg #[.float .f64 cbl, .float .f64 cbh], .int .i64 0]) ∧ Below w.heap.size w w'))
    (d16 : Hid (K1 17 0 0 pl ph dl dh))
    (c17 : Hid (∀ w, Calls Try.prog 15 #[.agg #[.float .f64 cal, .float .f64 cah], .agg #[.float .f64 dl, .float .f64 dh]] w fun r w' => r = .returned (.bool true) ∧ Below w.heap.size w w'))
    (c18 : Hid (∀ w, Calls Try.prog 15 #[.agg #[.float .f64 cbl, .float .f64 cbh], .agg #[.float .f64 ql, .float .f64 qh]] w fun r w' => r = .returned (.bool true) ∧ Below w.heap.size w w'))
    (c20 : Hid (∀ w, Calls Try.prog 11 #[] w fun r w' => r = .returned (.bool true) ∧ Below w.heap.size w w')) :
    Calls Try.prog 3 #[.agg #[.float .f64 ul, .float .f64 uh], .int .u16 u0] w fun r w' => r = .returned (.bool true) ∧ Below w.heap.size w w' := by
  have M := Lib.hid ((Own.nil w).made #[.float .f64 ul, .float .f64 uh] 24)
  have eqF := eq_floatsB
  go_enter Try.func3, Try.ntmps3
  obtain ⟨k1, k2⟩ := (M.out.nth 0 rfl).two
  go_wp2_with fail
  refine (c1.out _).mono ?_
  rintro r w1_ ⟨rfl, hb⟩
  replace M := Lib.hid (M.out.below hb)
  clear hb
  clear k1 k2
  obtain ⟨k1, k2⟩ := (M.out.nth 0 rfl).two
  go_wp2_with fail
  refine (c2.out _).mono ?_
  rintro r w2_ ⟨rfl, hb⟩
  replace M := Lib.hid (M.out.below hb)
  clear hb
  clear k1 k2
  obtain ⟨k1, k2⟩ := (M.out.nth 0 rfl).two
  go_wp2_with fail
  refine (c3.out _).mono ?_
  rintro r w3_ ⟨rfl, hb⟩
  replace M := Lib.hid (M.out.below hb)
  clear hb
  clear k1 k2
  replace M := Lib.hid (M.out.made #[.float .f64 sl, .float .f64 sh] 24)
  replace M := Lib.hid (M.out.made #[.float .f64 ol, .float .f64 oh] 24)
  simp only [World.size_alloc] at M
  go_wp2_with fail
  refine (c4.out _).mono ?_
  rintro r w4_ ⟨rfl, hb⟩
  replace M := Lib.hid (M.out.below hb)
  clear hb
  go_wp2_with fail
  refine (c5.out _).mono ?_
  rintro r w5_ ⟨rfl, hb⟩
  replace M := Lib.hid (M.out.below hb)
  clear hb
  replace M := Lib.hid (M.out.made #[.float .f64 pl, .float .f64 ph] 24)
  replace M := Lib.hid (M.out.made #[.float .f64 ql, .float .f64 qh] 24)
  simp only [World.size_alloc] at M
  obtain ⟨k1, k2⟩ := (M.out.nth 4 rfl).two
  go_wp2_with fail
  refine (c6.out _).mono ?_
  rintro r w6_ ⟨rfl, hb⟩
  replace M := Lib.hid (M.out.below hb)
  clear hb
  clear k1 k2
  go_wp2_with fail
  refine (c7.out _).mono ?_
  rintro r w7_ ⟨rfl, hb⟩
  replace M := Lib.hid (M.out.below hb)
  clear hb
  replace M := Lib.hid (M.out.made #[.float .f64 vl, .float .f64 vh] 24)
  replace M := Lib.hid (M.out.made #[.float .f64 tl, .float .f64 th] 24)
  simp only [World.size_alloc] at M
  go_upto_region 7 with fail
  replace M := Lib.hid M.out.drew
  obtain ⟨k1, k2⟩ := (M.out.nth 5 rfl).two
  obtain ⟨k3, k4⟩ := (M.out.nth 3 rfl).two
  obtain ⟨k5, k6⟩ := (M.out.nth 4 rfl).two
  obtain ⟨k7, k8⟩ := (M.out.nth 2 rfl).two
  obtain ⟨k9, k10⟩ := (M.out.nth 1 rfl).two
  obtain ⟨k11, k12⟩ := (M.out.nth 0 rfl).two
  go_region_held3 (fun w' => (w'.cell? ⟨w3_.heap.size, 0, none⟩ = some (.float .f64 sl) ∧ w'.cell? ⟨w3_.heap.size, 1, none⟩ = some (.float .f64 sh)) ∧ (w'.cell? ⟨w5_.heap.size, 0, none⟩ = some (.float .f64 pl) ∧ w'.cell? ⟨w5_.heap.size, 1, none⟩ = some (.float .f64 ph)) ∧ (w'.cell? ⟨(w3_.heap.size + 1), 0, none⟩ = some (.float .f64 ol) ∧ w'.cell? ⟨(w3_.heap.size + 1), 1, none⟩ = some (.float .f64 oh)) ∧ (w'.cell? ⟨(w5_.heap.size + 1), 0, none⟩ = some (.float .f64 ql) ∧ w'.cell? ⟨(w5_.heap.size + 1), 1, none⟩ = some (.float .f64 qh)) ∧ (w'.cell? ⟨w7_.heap.size, 0, none⟩ = some (.float .f64 vl) ∧ w'.cell? ⟨w7_.heap.size, 1, none⟩ = some (.float .f64 vh)) ∧ (w'.cell? ⟨(w7_.heap.size + 1), 0, none⟩ = some (.float .f64 tl) ∧ w'.cell? ⟨(w7_.heap.size + 1), 1, none⟩ = some (.float .f64 th))) (((try dsimp only); (repeat' apply And.intro); all_goals (repeat (first | (with_reducible assumption) | ((with_reducible refine keep_undrew ?_); (with_reducible assumption)) | (with_reducible refine keep_drew ?_) | (with_reducible refine keep_alloc _ ?_) | (with_reducible refine keep_set _ (by first | (with_reducible assumption) | omega) ?_)))))
    (first
      | (go_at_call 15; (with_reducible refine (c8.out _).mono ?_); rintro rr w5 ⟨rfl, hb⟩; replace M := Lib.hid (M.out.below hb); clear hb; clear k1 k2 k3 k4 k5 k6 k7 k8 k9 k10 k11 k12; obtain ⟨k1, k2⟩ := (M.out.nth 5 rfl).two; obtain ⟨k3, k4⟩ := (M.out.nth 3 rfl).two; obtain ⟨k5, k6⟩ := (M.out.nth 4 rfl).two; obtain ⟨k7, k8⟩ := (M.out.nth 2 rfl).two; obtain ⟨k9, k10⟩ := (M.out.nth 1 rfl).two; obtain ⟨k11, k12⟩ := (M.out.nth 0 rfl).two)
      | (go_at_call 15; (with_reducible refine (c9.out _).mono ?_); rintro rr w5 ⟨rfl, hb⟩; replace M := Lib.hid (M.out.below hb); clear hb; clear k1 k2 k3 k4 k5 k6 k7 k8 k9 k10 k11 k12; obtain ⟨k1, k2⟩ := (M.out.nth 5 rfl).two; obtain ⟨k3, k4⟩ := (M.out.nth 3 rfl).two; obtain ⟨k5, k6⟩ := (M.out.nth 4 rfl).two; obtain ⟨k7, k8⟩ := (M.out.nth 2 rfl).two; obtain ⟨k9, k10⟩ := (M.out.nth 1 rfl).two; obtain ⟨k11, k12⟩ := (M.out.nth 0 rfl).two)
      | (go_at_call 16; (with_reducible refine (c10.out _).mono ?_); rintro rr w5 ⟨rfl, rfl⟩; clear k1 k2 k3 k4 k5 k6 k7 k8 k9 k10 k11 k12; obtain ⟨k1, k2⟩ := (M.out.nth 5 rfl).two; obtain ⟨k3, k4⟩ := (M.out.nth 3 rfl).two; obtain ⟨k5, k6⟩ := (M.out.nth 4 rfl).two; obtain ⟨k7, k8⟩ := (M.out.nth 2 rfl).two; obtain ⟨k9, k10⟩ := (M.out.nth 1 rfl).two; obtain ⟨k11, k12⟩ := (M.out.nth 0 rfl).two))
  clear k1 k2 k3 k4 k5 k6 k7 k8 k9 k10 k11 k12
  replace M := Lib.hid (M.out.made #[.int .i64 0] 36)
  go_wp2_with fail
  refine (c14.out _).mono ?_
  rintro r w8_ ⟨rfl, hb⟩
  replace M := Lib.hid (M.out.below hb)
  clear hb
  go_wp2_with fail
  refine (c15.out _).mono ?_
  rintro r w9_ ⟨rfl, hb⟩
  replace M := Lib.hid (M.out.below hb)
  clear hb
  replace M := Lib.hid (M.out.made #[.float .f64 cal, .float .f64 cah] 24).front
  replace M := Lib.hid (M.out.made #[.float .f64 cbl, .float .f64 cbh] 24).front
  simp only [World.size_alloc] at M
  go_upto_region 16 with fail
  replace M := Lib.hid M.out.drew
  revert M
  generalize ((w9_.alloc (.cells #[.float .f64 cal, .float .f64 cah] 24)).alloc (.cells #[.float .f64 cbl, .float .f64 cbh] 24)) = W10_
  intro M
  refine wp_region_noPanic ?_
  refine tails_region (S := fun w' => (w'.cell? ⟨w9_.heap.size, 0, none⟩ = some (.float .f64 cal) ∧ w'.cell? ⟨w9_.heap.size, 1, none⟩ = some (.float .f64 cah)) ∧ (w'.cell? ⟨w5_.heap.size, 0, none⟩ = some (.float .f64 pl) ∧ w'.cell? ⟨w5_.heap.size, 1, none⟩ = some (.float .f64 ph)) ∧ (w'.cell? ⟨(w9_.heap.size + 1), 0, none⟩ = some (.float .f64 cbl) ∧ w'.cell? ⟨(w9_.heap.size + 1), 1, none⟩ = some (.float .f64 cbh)) ∧ (w'.cell? ⟨(w5_.heap.size + 1), 0, none⟩ = some (.float .f64 ql) ∧ w'.cell? ⟨(w5_.heap.size + 1), 1, none⟩ = some (.float .f64 qh))) [] (by kernel_rfl) ?_ (fun hS => ?_)
  · exact ⟨(M.out.nth 2 rfl).two, (M.out.nth 6 rfl).two, (M.out.nth 1 rfl).two, (M.out.nth 5 rfl).two⟩
  refine tk (x := ?_) 0 rfl (by kernel_rfl) ⟨by kernel_rfl, ?_⟩ (fun _ _ _ h => h) hS ?_
  rotate_left; focus (intro w hSw; (try dsimp only at hSw); go_simp; try with_reducible rfl)
  refine tk (x := ?_) 1 rfl (by kernel_rfl) ⟨by kernel_rfl, ?_⟩ (fun _ _ _ h => h) hS ?_
  rotate_left; focus (intro w hSw; (try dsimp only at hSw); go_simp; try with_reducible rfl)
  conv => arg 9; simp only [Act.put, go_sem]
  refine tk (x := ?_) 2 rfl (by kernel_rfl) ⟨by kernel_rfl, ?_⟩ (fun _ _ _ h => h) hS ?_
  rotate_left; focus (intro w hSw; (try dsimp only at hSw); go_simp; try with_reducible rfl)
  refine tk (x := ?_) 3 rfl (by kernel_rfl) ⟨by kernel_rfl, ?_⟩ (fun _ _ _ h => h) hS ?_
  rotate_left; focus (intro w hSw; (try dsimp only at hSw); go_simp; try with_reducible rfl)
  conv => arg 9; simp only [Act.put, go_sem]
  refine tk (x := ?_) 4 rfl (by kernel_rfl) ⟨by kernel_rfl, ?_⟩ (fun _ _ _ h => h) hS ?_
  rotate_left; focus (intro w hSw; (try dsimp only at hSw); go_simp; try with_reducible rfl)
  conv => arg 9; simp only [Act.put, go_sem]
  refine tails_one (T := []) (i := 5) (o := _) rfl (by kernel_rfl) (fun K hK => ?_)
  go_simp
  refine (d16.out _ _ (M.out.nth 0 rfl)).mono ?_
  rintro rr w11_ ⟨rfl, hb⟩
  replace M : Hid (Own w [(w5.heap.size, #[.int .i64 0]), ((w9_.heap.size + 1), #[.float .f64 cbl, .float .f64 cbh]), (w9_.heap.size, #[.float .f64 cal, .float .f64 cah]), ((w7_.heap.size + 1), #[.float .f64 tl, .float .f64 th]), (w7_.heap.size, #[.float .f64 vl, .float .f64 vh]), ((w5_.heap.size + 1), #[.float .f64 ql, .float .f64 qh]), (w5_.heap.size, #[.float .f64 pl, .float .f64 ph]), ((w3_.heap.size + 1), #[.float .f64 ol, .float .f64 oh]), (w3_.heap.size, #[.float .f64 sl, .float .f64 sh]), (w.heap.size, #[.float .f64 ul, .float .f64 uh])] w11_) := Lib.hid (M.out.putAt 0 rfl hb)
  clear hb
  try go_wp2_with fail
  refine hK.out _ _ (Or.inr ⟨(M.out.nth 2 rfl).two, (M.out.nth 6 rfl).two, (M.out.nth 1 rfl).two, (M.out.nth 5 rfl).two⟩) (fun hHeld => ?_)
  clear hK K hHeld
  replace hS := (And.intro (M.out.nth 2 rfl).two (And.intro (M.out.nth 6 rfl).two (And.intro (M.out.nth 1 rfl).two (M.out.nth 5 rfl).two)))
  refine tails_one (T := []) (i := 6) (o := _) rfl (by kernel_rfl) (fun K hK => ?_)
  go_simp
  refine (c17.out _).mono ?_
  rintro rr w12_ ⟨rfl, hb⟩
  replace M := Lib.hid (M.out.below hb)
  clear hb
  try go_wp2_with fail
  refine hK.out _ _ (Or.inr ⟨(M.out.nth 2 rfl).two, (M.out.nth 6 rfl).two, (M.out.nth 1 rfl).two, (M.out.nth 5 rfl).two⟩) (fun hHeld => ?_)
  clear hK K hHeld
  replace hS := (And.intro (M.out.nth 2 rfl).two (And.intro (M.out.nth 6 rfl).two (And.intro (M.out.nth 1 rfl).two (M.out.nth 5 rfl).two)))
  refine tk (x := ?_) 7 rfl (by kernel_rfl) ⟨by kernel_rfl, ?_⟩ (fun _ _ _ h => h) hS ?_
  rotate_left; focus (intro w hSw; (try dsimp only at hSw); go_simp; try with_reducible rfl)
  refine tk (x := ?_) 8 rfl (by kernel_rfl) ⟨by kernel_rfl, ?_⟩ (fun _ _ _ h => h) hS ?_
  rotate_left; focus (intro w hSw; (try dsimp only at hSw); go_simp; try with_reducible rfl)
  refine tk (x := ?_) 9 rfl (by kernel_rfl) ⟨by kernel_rfl, ?_⟩ (fun _ _ _ h => h) hS ?_
  rotate_left; focus (intro w hSw; (try dsimp only at hSw); go_simp; try with_reducible rfl)
  refine tk (x := ?_) 10 rfl (by kernel_rfl) ⟨by kernel_rfl, ?_⟩ (fun _ _ _ h => h) hS ?_
  rotate_left; focus (intro w hSw; (try dsimp only at hSw); go_simp; try with_reducible rfl)
  refine tk (x := ?_) 11 rfl (by kernel_rfl) ⟨by kernel_rfl, ?_⟩ (fun _ _ _ h => h) hS ?_
  rotate_left; focus (intro w hSw; (try dsimp only at hSw); go_simp; try with_reducible rfl)
  refine tails_one (T := []) (i := 12) (o := _) rfl (by kernel_rfl) (fun K hK => ?_)
  go_simp
  refine (c18.out _).mono ?_
  rintro rr w13_ ⟨rfl, hb⟩
  replace M := Lib.hid (M.out.below hb)
  clear hb
  try go_wp2_with fail
  refine hK.out _ _ (Or.inr ⟨(M.out.nth 2 rfl).two, (M.out.nth 6 rfl).two, (M.out.nth 1 rfl).two, (M.out.nth 5 rfl).two⟩) (fun hHeld => ?_)
  clear hK K hHeld
  replace hS := (And.intro (M.out.nth 2 rfl).two (And.intro (M.out.nth 6 rfl).two (And.intro (M.out.nth 1 rfl).two (M.out.nth 5 rfl).two)))
  refine tk (x := ?_) 13 rfl (by kernel_rfl) ⟨by kernel_rfl, ?_⟩ (fun _ _ _ h => h) hS ?_
  rotate_left; focus (intro w hSw; (try dsimp only at hSw); go_simp; try with_reducible rfl)
  refine tk (x := ?_) 14 rfl (by kernel_rfl) ⟨by kernel_rfl, ?_⟩ (fun _ _ _ h => h) hS ?_
  rotate_left; focus (intro w hSw; (try dsimp only at hSw); go_simp; try with_reducible rfl)
  refine tails_done (by kernel_rfl) ?_ _
  refine NoPanic.normal ?_
  clear hS
  go_wp2_with fail
  refine (err_any 0 _ 0 _ (M.out.nth 0 rfl).pc).mono ?_
  rintro r w14_ ⟨rfl, rfl⟩
  go_wp2_with fail
  refine (c20.out _).mono ?_
  rintro r w15_ ⟨rfl, hb⟩
  replace M := Lib.hid (M.out.below hb)
  clear hb
  go_wp2
  go_ret
  exact ⟨rfl, M.out.base⟩

set_option maxRecDepth 100000 in
set_option maxHeartbeats 16000000 in
theorem parts_et {ul uh u0 px sl sh ol oh pl ph ql qh vl vh tl th el eh fl fh ph2 pr pm pd cal cah cbl cbh dl dh : Nat} (w : World)
    (c1 : Hid (∀ w, Calls Try.prog 10 #[.agg #[.float .f64 ul, .float .f64 uh]] w fun r w' => r = .returned (.bool true) ∧ Below w.heap.size w w'))
    (c2 : Hid (∀ w, Calls Try.prog 12 #[.agg #[.float .f64 ul, .float .f64 uh], .int .u16 u0] w fun r w' => r = .returned (.float .f64 px) ∧ Below w.heap.size w w'))
    (c3 : Hid (∀ w, Calls Try.prog 13 #[.agg #[.float .f64 ul, .float .f64 uh]] w fun r w' => r = .returned (.tuple #[.agg #[.float .f64 sl, .float .f64 sh], .agg #[.float .f64 ol, .float .f64 oh], .int .i64 0]) ∧ Below w.heap.size w w'))
    (c4 : Hid (∀ w, Calls Try.prog 14 #[.float .f64 px, .float .f64 px] w fun r w' => r = .returned (.agg #[.float .f64 px, .float .f64 px]) ∧ Below w.heap.size w w'))
    (c5 : Hid (∀ w, Calls Try.prog 13 #[.agg #[.float .f64 px, .float .f64 px]] w fun r w' => r = .returned (.tuple #[.agg #[.float .f64 pl, .float .f64 ph], .agg #[.float .f64 ql, .float .f64 qh], .int .i64 0]) ∧ Below w.heap.size w w'))
    (c6 : Hid (∀ w, Calls Try.prog 14 #[.float .f64 ul, .float .f64 px] w fun r w' => r = .returned (.agg #[.float .f64 ul, .float .f64 px]) ∧ Below w.heap.size w w'))
    (c7 : Hid (∀ w, Calls Try.prog 13 #[.agg #[.float .f64 ul, .float .f64 px]] w fun r w' => r = .returned (.tuple #[.agg #[.float .f64 vl, .float .f64 vh], .agg #[.float .f64 tl, .float .f64 th], .int .i64 0]) ∧ Below w.heap.size w w'))
    (c8 : Hid (∀ w, Calls Try.prog 15 #[.agg #[.float .f64 sl, .float .f64 sh], .agg #[.float .f64 pl, .float .f64 ph]] w fun r w' => r = .returned (.bool true) ∧ Below w.heap.size w w'))
    (c9 : Hid (∀ w, Calls Try.prog 15 #[.agg #[.float .f64 ol, .float .f64 oh], .agg #[.float .f64 ql, .float .f64 qh]] w fun r w' => r = .returned (.bool true) ∧ Below w.heap.size w w'))
    (c10 : Hid (∀ w, Calls Try.prog 16 #[.float .f64 4607182418800017408, .int .i64 (-47)] w fun r w' => r = .returned (.float .f64 4395513236313604096) ∧ w = w'))
    (q_el : (∀ w, (binOp .sub 22 (.float .f64 sl) (.float .f64 4395513236313604096)).run Try.prog w = .ok (.float .f64 el) w))
    (o_lssvl_el : ((FloatKind.f64.format.order vl el == some Ordering.lt) = false))
    (q_eh : (∀ w, (binOp .add 22 (.float .f64 sh) (.float .f64 4395513236313604096)).run Try.prog w = .ok (.float .f64 eh) w))
    (o_gtrvh_eh : ((FloatKind.f64.format.order vh eh == some Ordering.gt) = false))
    (q_fl : (∀ w, (binOp .sub 22 (.float .f64 ol) (.float .f64 4395513236313604096)).run Try.prog w = .ok (.float .f64 fl) w))
    (o_lsstl_fl : ((FloatKind.f64.format.order tl fl == some Ordering.lt) = false))
    (q_fh : (∀ w, (binOp .add 22 (.float .f64 oh) (.float .f64 4395513236313604096)).run Try.prog w = .ok (.float .f64 fh) w))
    (o_gtrth_fh : ((FloatKind.f64.format.order th fh == some Ordering.gt) = false))
    (o_lsspx_819172646912 : ((FloatKind.f64.format.order px 4602678819172646912 == some Ordering.lt) = true))
    (q_ph2 : (∀ w, (binOp .add 22 (.float .f64 px) (.float .f64 4602678819172646912)).run Try.prog w = .ok (.float .f64 ph2) w))
    (q_pr : (∀ w, (binOp .sub 22 (.float .f64 ph2) (.float .f64 4602678819172646912)).run Try.prog w = .ok (.float .f64 pr) w))
    (o_eqlpr_px : ((FloatKind.f64.format.order pr px == some Ordering.eq) = false))
    (q_pm : (∀ w, (binOp .sub 22 (.float .f64 4607182418800017408) (.float .f64 px)).run Try.prog w = .ok (.float .f64 pm) w))
    (q_pd : (∀ w, (binOp .sub 22 (.float .f64 4607182418800017408) (.float .f64 pm)).run Try.prog w = .ok (.float .f64 pd) w))
    (o_eqlpd_px : ((FloatKind.f64.format.order pd px == some Ordering.eq) = true))
    (c14 : Hid (∀ w, Calls Try.prog 14 #[.float .f64 pm, .float .f64 pm] w fun r w' => r = .returned (.agg #[.float .f64 pm, .float .f64 pm]) ∧ Below w.heap.size w w'))
    (c15 : Hid (∀ w, Calls Try.prog 13 #[.agg #[.float .f64 pm, .float .f64 pm]] w fun r w' => r = .returned (.tuple #[.agg #[.float .f64 cal, .float .f64 cah], .agg #[.float .f64 cbl, .float .f64 cbh], .int .i64 0]) ∧ Below w.heap.size w w'))
    (d16 : Hid (K1 17 0 0 pl ph dl dh))
    (c17 : Hid (∀ w, Calls Try.prog 15 #[.agg #[.float .f64 cal, .float .f64 cah], .agg #[.float .f64 dl, .float .f64 dh]] w fun r w' => r = .returned (.bool true) ∧ Below w.heap.size w w'))
    (c18 : Hid (∀ w, Calls Try.prog 15 #[.agg #[.float .f64 cbl, .float .f64 cbh], .agg #[.float .f64 ql, .float .f64 qh]] w fun r w' => r = .returned (.bool true) ∧ Below w.heap.size w w'))
    (c20 : Hid (∀ w, Calls Try.prog 11 #[] w fun r w' => r = .returned (.bool true) ∧ Below w.heap.size w w')) :
    Calls Try.prog 3 #[.agg #[.float .f64 ul, .float .f64 uh], .int .u16 u0] w fun r w' => r = .returned (.bool true) ∧ Below w.heap.size w w' := by
  have M := Lib.hid ((Own.nil w).made #[.float .f64 ul, .float .f64 uh] 24)
  have eqF := eq_floatsB
  go_enter Try.func3, Try.ntmps3
  obtain ⟨k1, k2⟩ := (M.out.nth 0 rfl).two
  go_wp2_with fail
  refine (c1.out _).mono ?_
  rintro r w1_ ⟨rfl, hb⟩
  replace M := Lib.hid (M.out.below hb)
  clear hb
  clear k1 k2
  obtain ⟨k1, k2⟩ := (M.out.nth 0 rfl).two
  go_wp2_with fail
  refine (c2.out _).mono ?_
  rintro r w2_ ⟨rfl, hb⟩
  replace M := Lib.hid (M.out.below hb)
  clear hb
  clear k1 k2
  obtain ⟨k1, k2⟩ := (M.out.nth 0 rfl).two
  go_wp2_with fail
  refine (c3.out _).mono ?_
  rintro r w3_ ⟨rfl, hb⟩
  replace M := Lib.hid (M.out.below hb)
  clear hb
  clear k1 k2
  replace M := Lib.hid (M.out.made #[.float .f64 sl, .float .f64 sh] 24)
  replace M := Lib.hid (M.out.made #[.float .f64 ol, .float .f64 oh] 24)
  simp only [World.size_alloc] at M
  go_wp2_with fail
  refine (c4.out _).mono ?_
  rintro r w4_ ⟨rfl, hb⟩
  replace M := Lib.hid (M.out.below hb)
  clear hb
  go_wp2_with fail
  refine (c5.out _).mono ?_
  rintro r w5_ ⟨rfl, hb⟩
  replace M := Lib.hid (M.out.below hb)
  clear hb
  replace M := Lib.hid (M.out.made #[.float .f64 pl, .float .f64 ph] 24)
  replace M := Lib.hid (M.out.made #[.float .f64 ql, .float .f64 qh] 24)
  simp only [World.size_alloc] at M
  obtain ⟨k1, k2⟩ := (M.out.nth 4 rfl).two
  go_wp2_with fail
  refine (c6.out _).mono ?_
  rintro r w6_ ⟨rfl, hb⟩
  replace M := Lib.hid (M.out.below hb)
  clear hb
  clear k1 k2
  go_wp2_with fail
  refine (c7.out _).mono ?_
  rintro r w7_ ⟨rfl, hb⟩
  replace M := Lib.hid (M.out.below hb)
  clear hb
  replace M := Lib.hid (M.out.made #[.float .f64 vl, .float .f64 vh] 24)
  replace M := Lib.hid (M.out.made #[.float .f64 tl, .float .f64 th] 24)
  simp only [World.size_alloc] at M
  go_upto_region 7 with fail
  replace M := Lib.hid M.out.drew
  obtain ⟨k1, k2⟩ := (M.out.nth 5 rfl).two
  obtain ⟨k3, k4⟩ := (M.out.nth 3 rfl).two
  obtain ⟨k5, k6⟩ := (M.out.nth 4 rfl).two
  obtain ⟨k7, k8⟩ := (M.out.nth 2 rfl).two
  obtain ⟨k9, k10⟩ := (M.out.nth 1 rfl).two
  obtain ⟨k11, k12⟩ := (M.out.nth 0 rfl).two
  go_region_held3 (fun w' => (w'.cell? ⟨w3_.heap.size, 0, none⟩ = some (.float .f64 sl) ∧ w'.cell? ⟨w3_.heap.size, 1, none⟩ = some (.float .f64 sh)) ∧ (w'.cell? ⟨w5_.heap.size, 0, none⟩ = some (.float .f64 pl) ∧ w'.cell? ⟨w5_.heap.size, 1, none⟩ = some (.float .f64 ph)) ∧ (w'.cell? ⟨(w3_.heap.size + 1), 0, none⟩ = some (.float .f64 ol) ∧ w'.cell? ⟨(w3_.heap.size + 1), 1, none⟩ = some (.float .f64 oh)) ∧ (w'.cell? ⟨(w5_.heap.size + 1), 0, none⟩ = some (.float .f64 ql) ∧ w'.cell? ⟨(w5_.heap.size + 1), 1, none⟩ = some (.float .f64 qh)) ∧ (w'.cell? ⟨w7_.heap.size, 0, none⟩ = some (.float .f64 vl) ∧ w'.cell? ⟨w7_.heap.size, 1, none⟩ = some (.float .f64 vh)) ∧ (w'.cell? ⟨(w7_.heap.size + 1), 0, none⟩ = some (.float .f64 tl) ∧ w'.cell? ⟨(w7_.heap.size + 1), 1, none⟩ = some (.float .f64 th))) (((try dsimp only); (repeat' apply And.intro); all_goals (repeat (first | (with_reducible assumption) | ((with_reducible refine keep_undrew ?_); (with_reducible assumption)) | (with_reducible refine keep_drew ?_) | (with_reducible refine keep_alloc _ ?_) | (with_reducible refine keep_set _ (by first | (with_reducible assumption) | omega) ?_)))))
    (first
      | (go_at_call 15; (with_reducible refine (c8.out _).mono ?_); rintro rr w5 ⟨rfl, hb⟩; replace M := Lib.hid (M.out.below hb); clear hb; clear k1 k2 k3 k4 k5 k6 k7 k8 k9 k10 k11 k12; obtain ⟨k1, k2⟩ := (M.out.nth 5 rfl).two; obtain ⟨k3, k4⟩ := (M.out.nth 3 rfl).two; obtain ⟨k5, k6⟩ := (M.out.nth 4 rfl).two; obtain ⟨k7, k8⟩ := (M.out.nth 2 rfl).two; obtain ⟨k9, k10⟩ := (M.out.nth 1 rfl).two; obtain ⟨k11, k12⟩ := (M.out.nth 0 rfl).two)
      | (go_at_call 15; (with_reducible refine (c9.out _).mono ?_); rintro rr w5 ⟨rfl, hb⟩; replace M := Lib.hid (M.out.below hb); clear hb; clear k1 k2 k3 k4 k5 k6 k7 k8 k9 k10 k11 k12; obtain ⟨k1, k2⟩ := (M.out.nth 5 rfl).two; obtain ⟨k3, k4⟩ := (M.out.nth 3 rfl).two; obtain ⟨k5, k6⟩ := (M.out.nth 4 rfl).two; obtain ⟨k7, k8⟩ := (M.out.nth 2 rfl).two; obtain ⟨k9, k10⟩ := (M.out.nth 1 rfl).two; obtain ⟨k11, k12⟩ := (M.out.nth 0 rfl).two)
      | (go_at_call 16; (with_reducible refine (c10.out _).mono ?_); rintro rr w5 ⟨rfl, rfl⟩; clear k1 k2 k3 k4 k5 k6 k7 k8 k9 k10 k11 k12; obtain ⟨k1, k2⟩ := (M.out.nth 5 rfl).two; obtain ⟨k3, k4⟩ := (M.out.nth 3 rfl).two; obtain ⟨k5, k6⟩ := (M.out.nth 4 rfl).two; obtain ⟨k7, k8⟩ := (M.out.nth 2 rfl).two; obtain ⟨k9, k10⟩ := (M.out.nth 1 rfl).two; obtain ⟨k11, k12⟩ := (M.out.nth 0 rfl).two))
  clear k1 k2 k3 k4 k5 k6 k7 k8 k9 k10 k11 k12
  replace M := Lib.hid (M.out.made #[.int .i64 0] 36)
  go_wp2_with fail
  refine (c14.out _).mono ?_
  rintro r w8_ ⟨rfl, hb⟩
  replace M := Lib.hid (M.out.below hb)
  clear hb
  go_wp2_with fail
  refine (c15.out _).mono ?_
  rintro r w9_ ⟨rfl, hb⟩
  replace M := Lib.hid (M.out.below hb)
  clear hb
  replace M := Lib.hid (M.out.made #[.float .f64 cal, .float .f64 cah] 24).front
  replace M := Lib.hid (M.out.made #[.float .f64 cbl, .float .f64 cbh] 24).front
  simp only [World.size_alloc] at M
  go_upto_region 16 with fail
  replace M := Lib.hid M.out.drew
  revert M
  generalize ((w9_.alloc (.cells #[.float .f64 cal, .float .f64 cah] 24)).alloc (.cells #[.float .f64 cbl, .float .f64 cbh] 24)) = W10_
  intro M
  refine wp_region_noPanic ?_
  refine tails_region (S := fun w' => (w'.cell? ⟨w9_.heap.size, 0, none⟩ = some (.float .f64 cal) ∧ w'.cell? ⟨w9_.heap.size, 1, none⟩ = some (.float .f64 cah)) ∧ (w'.cell? ⟨w5_.heap.size, 0, none⟩ = some (.float .f64 pl) ∧ w'.cell? ⟨w5_.heap.size, 1, none⟩ = some (.float .f64 ph)) ∧ (w'.cell? ⟨(w9_.heap.size + 1), 0, none⟩ = some (.float .f64 cbl) ∧ w'.cell? ⟨(w9_.heap.size + 1), 1, none⟩ = some (.float .f64 cbh)) ∧ (w'.cell? ⟨(w5_.heap.size + 1), 0, none⟩ = some (.float .f64 ql) ∧ w'.cell? ⟨(w5_.heap.size + 1), 1, none⟩ = some (.float .f64 qh))) [] (by kernel_rfl) ?_ (fun hS => ?_)
  · exact ⟨(M.out.nth 2 rfl).two, (M.out.nth 6 rfl).two, (M.out.nth 1 rfl).two, (M.out.nth 5 rfl).two⟩
  refine tk (x := ?_) 0 rfl (by kernel_rfl) ⟨by kernel_rfl, ?_⟩ (fun _ _ _ h => h) hS ?_
  rotate_left; focus (intro w hSw; (try dsimp only at hSw); go_simp; try with_reducible rfl)
  refine tk (x := ?_) 1 rfl (by kernel_rfl) ⟨by kernel_rfl, ?_⟩ (fun _ _ _ h => h) hS ?_
  rotate_left; focus (intro w hSw; (try dsimp only at hSw); go_simp; try with_reducible rfl)
  conv => arg 9; simp only [Act.put, go_sem]
  refine tk (x := ?_) 2 rfl (by kernel_rfl) ⟨by kernel_rfl, ?_⟩ (fun _ _ _ h => h) hS ?_
  rotate_left; focus (intro w hSw; (try dsimp only at hSw); go_simp; try with_reducible rfl)
  refine tk (x := ?_) 3 rfl (by kernel_rfl) ⟨by kernel_rfl, ?_⟩ (fun _ _ _ h => h) hS ?_
  rotate_left; focus (intro w hSw; (try dsimp only at hSw); go_simp; try with_reducible rfl)
  conv => arg 9; simp only [Act.put, go_sem]
  refine tk (x := ?_) 4 rfl (by kernel_rfl) ⟨by kernel_rfl, ?_⟩ (fun _ _ _ h => h) hS ?_
  rotate_left; focus (intro w hSw; (try dsimp only at hSw); go_simp; try with_reducible rfl)
  conv => arg 9; simp only [Act.put, go_sem]
  refine tails_one (T := []) (i := 5) (o := _) rfl (by kernel_rfl) (fun K hK => ?_)
  go_simp
  refine (d16.out _ _ (M.out.nth 0 rfl)).mono ?_
  rintro rr w11_ ⟨rfl, hb⟩
  replace M : Hid (Own w [(w5.heap.size, #[.int .i64 0]), ((w9_.heap.size + 1), #[.float .f64 cbl, .float .f64 cbh]), (w9_.heap.size, #[.float .f64 cal, .float .f64 cah]), ((w7_.heap.size + 1), #[.float .f64 tl, .float .f64 th]), (w7_.heap.size, #[.float .f64 vl, .float .f64 vh]), ((w5_.heap.size + 1), #[.float .f64 ql, .float .f64 qh]), (w5_.heap.size, #[.float .f64 pl, .float .f64 ph]), ((w3_.heap.size + 1), #[.float .f64 ol, .float .f64 oh]), (w3_.heap.size, #[.float .f64 sl, .float .f64 sh]), (w.heap.size, #[.float .f64 ul, .float .f64 uh])] w11_) := Lib.hid (M.out.putAt 0 rfl hb)
  clear hb
  try go_wp2_with fail
  refine hK.out _ _ (Or.inr ⟨(M.out.nth 2 rfl).two, (M.out.nth 6 rfl).two, (M.out.nth 1 rfl).two, (M.out.nth 5 rfl).two⟩) (fun hHeld => ?_)
  clear hK K hHeld
  replace hS := (And.intro (M.out.nth 2 rfl).two (And.intro (M.out.nth 6 rfl).two (And.intro (M.out.nth 1 rfl).two (M.out.nth 5 rfl).two)))
  refine tails_one (T := []) (i := 6) (o := _) rfl (by kernel_rfl) (fun K hK => ?_)
  go_simp
  refine (c17.out _).mono ?_
  rintro rr w12_ ⟨rfl, hb⟩
  replace M := Lib.hid (M.out.below hb)
  clear hb
  try go_wp2_with fail
  refine hK.out _ _ (Or.inr ⟨(M.out.nth 2 rfl).two, (M.out.nth 6 rfl).two, (M.out.nth 1 rfl).two, (M.out.nth 5 rfl).two⟩) (fun hHeld => ?_)
  clear hK K hHeld
  replace hS := (And.intro (M.out.nth 2 rfl).two (And.intro (M.out.nth 6 rfl).two (And.intro (M.out.nth 1 rfl).two (M.out.nth 5 rfl).two)))
  refine tk (x := ?_) 7 rfl (by kernel_rfl) ⟨by kernel_rfl, ?_⟩ (fun _ _ _ h => h) hS ?_
  rotate_left; focus (intro w hSw; (try dsimp only at hSw); go_simp; try with_reducible rfl)
  refine tk (x := ?_) 8 rfl (by kernel_rfl) ⟨by kernel_rfl, ?_⟩ (fun _ _ _ h => h) hS ?_
  rotate_left; focus (intro w hSw; (try dsimp only at hSw); go_simp; try with_reducible rfl)
  refine tk (x := ?_) 9 rfl (by kernel_rfl) ⟨by kernel_rfl, ?_⟩ (fun _ _ _ h => h) hS ?_
  rotate_left; focus (intro w hSw; (try dsimp only at hSw); go_simp; try with_reducible rfl)
  refine tk (x := ?_) 10 rfl (by kernel_rfl) ⟨by kernel_rfl, ?_⟩ (fun _ _ _ h => h) hS ?_
  rotate_left; focus (intro w hSw; (try dsimp only at hSw); go_simp; try with_reducible rfl)
  refine tk (x := ?_) 11 rfl (by kernel_rfl) ⟨by kernel_rfl, ?_⟩ (fun _ _ _ h => h) hS ?_
  rotate_left; focus (intro w hSw; (try dsimp only at hSw); go_simp; try with_reducible rfl)
  refine tails_one (T := []) (i := 12) (o := _) rfl (by kernel_rfl) (fun K hK => ?_)
  go_simp
  refine (c18.out _).mono ?_
  rintro rr w13_ ⟨rfl, hb⟩
  replace M := Lib.hid (M.out.below hb)
  clear hb
  try go_wp2_with fail
  refine hK.out _ _ (Or.inr ⟨(M.out.nth 2 rfl).two, (M.out.nth 6 rfl).two, (M.out.nth 1 rfl).two, (M.out.nth 5 rfl).two⟩) (fun hHeld => ?_)
  clear hK K hHeld
  replace hS := (And.intro (M.out.nth 2 rfl).two (And.intro (M.out.nth 6 rfl).two (And.intro (M.out.nth 1 rfl).two (M.out.nth 5 rfl).two)))
  refine tk (x := ?_) 13 rfl (by kernel_rfl) ⟨by kernel_rfl, ?_⟩ (fun _ _ _ h => h) hS ?_
  rotate_left; focus (intro w hSw; (try dsimp only at hSw); go_simp; try with_reducible rfl)
  refine tk (x := ?_) 14 rfl (by kernel_rfl) ⟨by kernel_rfl, ?_⟩ (fun _ _ _ h => h) hS ?_
  rotate_left; focus (intro w hSw; (try dsimp only at hSw); go_simp; try with_reducible rfl)
  refine tails_done (by kernel_rfl) ?_ _
  refine NoPanic.normal ?_
  clear hS
  go_wp2_with fail
  refine (err_any 0 _ 0 _ (M.out.nth 0 rfl).pc).mono ?_
  rintro r w14_ ⟨rfl, rfl⟩
  go_wp2_with fail
  refine (c20.out _).mono ?_
  rintro r w15_ ⟨rfl, hb⟩
  replace M := Lib.hid (M.out.below hb)
  clear hb
  go_wp2
  go_ret
  exact ⟨rfl, M.out.base⟩

end Go.Proofs.Ytoiaefgpegiieaa
