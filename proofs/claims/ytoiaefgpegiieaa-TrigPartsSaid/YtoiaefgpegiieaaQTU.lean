
/- Package trig: what SinCos answers. -/
import Derived.Test.YtoiaefgpegiieaaQTA
import Derived.Deep.RegionHeld3
namespace Go.Proofs.Ytoiaefgpegiieaa
open Go.RowKit
attribute [local go_sem] run_store_float

/-- What lies in memory. -/
def MemIs (w : World) (l : List (Nat × Array Value)) (wx : World) : Prop := Mem w l wx
abbrev CalcH (al ah bl bh rl rh : Nat) : Prop := ∀ w : World, Calls Try.prog 56 #[.agg #[.float .f64 al, .float .f64 ah], .agg #[.float .f64 bl, .float .f64 bh]] w fun r w' => r = .returned (.agg #[.float .f64 rl, .float .f64 rh]) ∧ Below w.heap.size w w'
abbrev CalcO (x sl sh kl kh : Nat) : Prop := ∀ (pb : Nat) (v : World), Has1 v (pb, #[.int .i64 0]) → Calls Try.prog 55 #[.pointer (some ⟨pb, 0, none⟩), .float .f64 x] v fun r w' => r = .returned (.tuple #[.agg #[.float .f64 sl, .float .f64 sh], .agg #[.float .f64 kl, .float .f64 kh]]) ∧ Put ⟨pb, 0, none⟩ (.int .i64 0) v w'
abbrev CalcHas (al ah x : Nat) (b : Bool) : Prop := ∀ w : World, Calls Try.prog 54 #[.agg #[.float .f64 al, .float .f64 ah], .float .f64 x] w fun r w' => r = .returned (.bool b) ∧ Below w.heap.size w w'

set_option maxRecDepth 100000 in
set_option maxHeartbeats 8000000 in
theorem sin_walk (al ah sl sh kl kh tl th vl vh pl ph ql qh xl xh yl yh gl gh il ih jl jh : Nat) (b1 b2 b3 : Bool) (w : World)
    (cR : Hid (∀ w, Calls Try.prog 48 #[.agg #[.float .f64 al, .float .f64 ah]] w fun r w' => r = .returned (.bool true) ∧ Below w.heap.size w w'))
    (o1 : (FloatKind.f64.format.order al 0 == some Ordering.lt) = false) (o2 : (FloatKind.f64.format.order ah 4607182418800017408 == some Ordering.gt) = false)
    (cO1 : Hid (CalcO al sl sh kl kh)) (cO2 : Hid (CalcO ah tl th vl vh)) (cS : Hid (CalcH sl sh tl th pl ph)) (cK : Hid (CalcH kl kh vl vh ql qh))
    (h1 : Hid (CalcHas al ah 4598175219545276416 b1)) (h2 : Hid (CalcHas al ah 4604930618986332160 b2)) (h3 : Hid (CalcHas al ah 4602678819172646912 b3))
    (cN1 : Hid (∀ pb, CalcN pb 4607182418800017408)) (cN2 : Hid (∀ pb, CalcN pb 13830554455654793216))
    (c1 : Hid (CalcH pl ph 4607182418800017408 4607182418800017408 gl gh)) (c2 : Hid (CalcH xl xh 13830554455654793216 13830554455654793216 il ih)) (c3 : Hid (CalcH ql qh 13830554455654793216 13830554455654793216 jl jh))
    (e1 : Hid (xl = (cond b1 gl pl) ∧ xh = (cond b1 gh ph))) (e2 : Hid (yl = (cond b2 il xl) ∧ yh = (cond b2 ih xh))) (zl zh : Nat) (e3 : Hid (zl = (cond b3 jl ql) ∧ zh = (cond b3 jh qh))) :
    Calls Try.prog 13 #[.agg #[.float .f64 al, .float .f64 ah]] w fun r w' => r = .returned (.tuple #[.agg #[.float .f64 yl, .float .f64 yh], .agg #[.float .f64 zl, .float .f64 zh], .int .i64 0]) ∧ Below w.heap.size w w' := by
  have M : Hid (Mem w [(w.heap.size + 1 + 1, #[.float .f64 0, .float .f64 0]), (w.heap.size + 1, #[.float .f64 0, .float .f64 0]), (w.heap.size, #[.float .f64 al, .float .f64 ah])] (((w.alloc (.cells #[.float .f64 al, .float .f64 ah] 24)).alloc (.cells #[.float .f64 0, .float .f64 0] 24)).alloc (.cells #[.float .f64 0, .float .f64 0] 24))) := by
    have h := (((Mem.nil w).made #[.float .f64 al, .float .f64 ah] 24).made #[.float .f64 0, .float .f64 0] 24).made #[.float .f64 0, .float .f64 0] 24
    simp only [World.size_alloc] at h
    exact Lib.hid h
  obtain ⟨k1, k2⟩ := (M.out.nth 2 rfl).two
  go_enter Try.func13, Try.ntmps13
  go_wp2_with fail
  refine (cR.out _).mono ?_
  rintro r w1 ⟨rfl, hb⟩
  have M0 := Lib.hid (M.out.below hb)
  have z1 : w.heap.size + 1 + 1 < w1.heap.size := M0.out.size 0 rfl
  clear hb k1 k2 cR M
  obtain ⟨k1, k2⟩ := (M0.out.blocks (w.heap.size, #[.float .f64 al, .float .f64 ah]) (by simp)).two
  go_upto_region 4 with fail
  have M := Lib.hid (M0.out.made #[.int .i64 0] 36)
  clear k1 k2 M0 o1 o2
  obtain ⟨k1, k2⟩ := (M.out.blocks (w.heap.size, #[.float .f64 al, .float .f64 ah]) (by simp)).two
  go_wp2_with fail
  refine (cO1.out _ _ (M.out.nth 0 rfl)).mono ?_
  rintro r w2 ⟨rfl, hb⟩
  have z2 : w1.heap.size < w2.heap.size := (M.out.put hb (by omega) (by simp; omega) : Mem w [(w1.heap.size, #[.int .i64 0]), (w.heap.size + 1 + 1, #[.float .f64 0, .float .f64 0]), (w.heap.size + 1, #[.float .f64 0, .float .f64 0]), (w.heap.size, #[.float .f64 al, .float .f64 ah])] w2).size 0 rfl
  have M0 := Lib.hid ((M.out.put hb (by omega) (by simp; omega) : Mem w [(w1.heap.size, #[.int .i64 0]), (w.heap.size + 1 + 1, #[.float .f64 0, .float .f64 0]), (w.heap.size + 1, #[.float .f64 0, .float .f64 0]), (w.heap.size, #[.float .f64 al, .float .f64 ah])] w2))
  clear hb k1 k2 M cO1
  have M : Hid (Mem w [(w2.heap.size + 1, #[.float .f64 kl, .float .f64 kh]), (w2.heap.size, #[.float .f64 sl, .float .f64 sh]), (w1.heap.size, #[.int .i64 0]), (w.heap.size + 1 + 1, #[.float .f64 0, .float .f64 0]), (w.heap.size + 1, #[.float .f64 0, .float .f64 0]), (w.heap.size, #[.float .f64 al, .float .f64 ah])] ((w2.alloc (.cells #[.float .f64 sl, .float .f64 sh] 24)).alloc (.cells #[.float .f64 kl, .float .f64 kh] 24))) := by
    have h := (M0.out.made #[.float .f64 sl, .float .f64 sh] 24).made #[.float .f64 kl, .float .f64 kh] 24
    simp only [World.size_alloc] at h
    exact Lib.hid h
  clear M0
  obtain ⟨k1, k2⟩ := (M.out.blocks (w.heap.size, #[.float .f64 al, .float .f64 ah]) (by simp)).two
  go_wp2_with fail
  refine (cO2.out _ _ (M.out.blocks (w1.heap.size, #[.int .i64 0]) (by simp))).mono ?_
  rintro r w3 ⟨rfl, hb⟩
  have M0 : Hid (Mem w [(w1.heap.size, #[.int .i64 0]), (w2.heap.size, #[.float .f64 sl, .float .f64 sh]), (w2.heap.size + 1, #[.float .f64 kl, .float .f64 kh]), (w.heap.size + 1 + 1, #[.float .f64 0, .float .f64 0]), (w.heap.size + 1, #[.float .f64 0, .float .f64 0]), (w.heap.size, #[.float .f64 al, .float .f64 ah])] w3) := Lib.hid ((M.out.sub (by simp) : Mem w [(w1.heap.size, #[.int .i64 0]), (w2.heap.size, #[.float .f64 sl, .float .f64 sh]), (w2.heap.size + 1, #[.float .f64 kl, .float .f64 kh]), (w.heap.size + 1 + 1, #[.float .f64 0, .float .f64 0]), (w.heap.size + 1, #[.float .f64 0, .float .f64 0]), (w.heap.size, #[.float .f64 al, .float .f64 ah])] _).put hb (by omega) (by simp; omega))
  have z3 : w2.heap.size + 1 < w3.heap.size := M0.out.size 2 rfl
  clear hb k1 k2 M cO2
  have M : Hid (Mem w [(w1.heap.size, #[.int .i64 0]), (w2.heap.size, #[.float .f64 sl, .float .f64 sh]), (w2.heap.size + 1, #[.float .f64 kl, .float .f64 kh]), (w3.heap.size, #[.float .f64 tl, .float .f64 th]), (w3.heap.size + 1, #[.float .f64 vl, .float .f64 vh]), (w.heap.size + 1 + 1, #[.float .f64 0, .float .f64 0]), (w.heap.size + 1, #[.float .f64 0, .float .f64 0]), (w.heap.size, #[.float .f64 al, .float .f64 ah])] ((w3.alloc (.cells #[.float .f64 tl, .float .f64 th] 24)).alloc (.cells #[.float .f64 vl, .float .f64 vh] 24))) := by
    have h := (M0.out.made #[.float .f64 tl, .float .f64 th] 24).made #[.float .f64 vl, .float .f64 vh] 24
    simp only [World.size_alloc] at h
    exact Lib.hid (h.sub (by simp))
  clear M0
  go_upto_region 6 with fail
  revert M
  generalize ((w3.alloc (.cells #[.float .f64 tl, .float .f64 th] 24)).alloc (.cells #[.float .f64 vl, .float .f64 vh] 24)) = W
  intro M
  replace M := Lib.hid M.out.drew
  obtain ⟨k1, k2⟩ := (M.out.blocks (w2.heap.size, #[.float .f64 sl, .float .f64 sh]) (by simp)).two; obtain ⟨k3, k4⟩ := (M.out.blocks (w3.heap.size, #[.float .f64 tl, .float .f64 th]) (by simp)).two; obtain ⟨k5, k6⟩ := (M.out.blocks (w2.heap.size + 1, #[.float .f64 kl, .float .f64 kh]) (by simp)).two; obtain ⟨k7, k8⟩ := (M.out.blocks (w3.heap.size + 1, #[.float .f64 vl, .float .f64 vh]) (by simp)).two
  refine wp_region_noPanic ?_
  refine tails_region (S := fun w' => w'.cell? ⟨w2.heap.size, 0, none⟩ = some (.float .f64 sl) ∧ w'.cell? ⟨w2.heap.size, 1, none⟩ = some (.float .f64 sh) ∧ w'.cell? ⟨w3.heap.size, 0, none⟩ = some (.float .f64 tl) ∧ w'.cell? ⟨w3.heap.size, 1, none⟩ = some (.float .f64 th) ∧ w'.cell? ⟨w2.heap.size + 1, 0, none⟩ = some (.float .f64 kl) ∧ w'.cell? ⟨w2.heap.size + 1, 1, none⟩ = some (.float .f64 kh) ∧ w'.cell? ⟨w3.heap.size + 1, 0, none⟩ = some (.float .f64 vl) ∧ w'.cell? ⟨w3.heap.size + 1, 1, none⟩ = some (.float .f64 vh)) [6, 7] (by kernel_rfl) ?_ (fun hS => ?_)
  · exact ⟨k1, k2, k3, k4, k5, k6, k7, k8⟩
  refine tails_take (T := [6, 7]) (i := 0) (o := _) (x := ?_) rfl (by kernel_rfl) (by kernel_rfl) (by kernel_rfl) (by kernel_rfl) (fun _ _ _ h => h) (Or.inl ⟨by rfl, ?_⟩) (by assumption) ?_
  rotate_left; focus (intro w hSw; (try dsimp only at hSw); go_simp; first | done | with_reducible rfl)
  refine tails_take (T := [6, 7]) (i := 1) (o := _) (x := ?_) rfl (by kernel_rfl) (by kernel_rfl) (by kernel_rfl) (by kernel_rfl) (fun _ _ _ h => h) (Or.inl ⟨by rfl, ?_⟩) (by assumption) ?_
  rotate_left; focus (intro w hSw; (try dsimp only at hSw); go_simp; first | done | with_reducible rfl)
  refine tails_take (T := [6, 7]) (i := 3) (o := _) (x := ?_) rfl (by kernel_rfl) (by kernel_rfl) (by kernel_rfl) (by kernel_rfl) (fun _ _ _ h => h) (Or.inl ⟨by rfl, ?_⟩) (by assumption) ?_
  rotate_left; focus (intro w hSw; (try dsimp only at hSw); go_simp; first | done | with_reducible rfl)
  refine tails_take (T := [6, 7]) (i := 4) (o := _) (x := ?_) rfl (by kernel_rfl) (by kernel_rfl) (by kernel_rfl) (by kernel_rfl) (fun _ _ _ h => h) (Or.inl ⟨by rfl, ?_⟩) (by assumption) ?_
  rotate_left; focus (intro w hSw; (try dsimp only at hSw); go_simp; first | done | with_reducible rfl)
  refine tails_one (T := [6, 7]) (i := 2) (o := _) rfl (by kernel_rfl) (fun K hK => ?_)
  go_simp
  ((with_reducible refine (cS.out _).mono ?_); rintro rr w7 ⟨rfl, hb⟩; replace M := Lib.hid (M.out.below hb); clear hb k1 k2 k3 k4 k5 k6 k7 k8; obtain ⟨k1, k2⟩ := (M.out.blocks (w2.heap.size, #[.float .f64 sl, .float .f64 sh]) (by simp)).two; obtain ⟨k3, k4⟩ := (M.out.blocks (w3.heap.size, #[.float .f64 tl, .float .f64 th]) (by simp)).two; obtain ⟨k5, k6⟩ := (M.out.blocks (w2.heap.size + 1, #[.float .f64 kl, .float .f64 kh]) (by simp)).two; obtain ⟨k7, k8⟩ := (M.out.blocks (w3.heap.size + 1, #[.float .f64 vl, .float .f64 vh]) (by simp)).two)
  try go_wp2_with fail
  refine hK.out _ _ (Or.inr ⟨k1, k2, k3, k4, k5, k6, k7, k8⟩) (fun hHeld => ?_)
  clear hK K hS
  have hS := hHeld.resolve_left (by decide)
  clear hHeld
  refine tails_one (T := [6, 7]) (i := 5) (o := _) rfl (by kernel_rfl) (fun K hK => ?_)
  go_simp
  ((with_reducible refine (cK.out _).mono ?_); rintro rr w7 ⟨rfl, hb⟩; replace M := Lib.hid (M.out.below hb); clear hb k1 k2 k3 k4 k5 k6 k7 k8; obtain ⟨k1, k2⟩ := (M.out.blocks (w2.heap.size, #[.float .f64 sl, .float .f64 sh]) (by simp)).two; obtain ⟨k3, k4⟩ := (M.out.blocks (w3.heap.size, #[.float .f64 tl, .float .f64 th]) (by simp)).two; obtain ⟨k5, k6⟩ := (M.out.blocks (w2.heap.size + 1, #[.float .f64 kl, .float .f64 kh]) (by simp)).two; obtain ⟨k7, k8⟩ := (M.out.blocks (w3.heap.size + 1, #[.float .f64 vl, .float .f64 vh]) (by simp)).two)
  try go_wp2_with fail
  refine hK.out _ _ (Or.inr ⟨k1, k2, k3, k4, k5, k6, k7, k8⟩) (fun hHeld => ?_)
  clear hK K hS
  have hS := hHeld.resolve_left (by decide)
  clear hHeld
  clear k1 k2 k3 k4 k5 k6 k7 k8 hS
  refine tails_one (T := [6, 7]) (i := 6) (o := _) rfl (by kernel_rfl) (fun K hK => ?_)
  have kc := (M.out.blocks (w2.heap.size, #[.float .f64 sl, .float .f64 sh]) (by simp)).2.1
  have kf := (M.out.blocks (w2.heap.size, #[.float .f64 sl, .float .f64 sh]) (by simp)).2.2
  replace M := Lib.hid (M.out.sets (M.out.blocks (w2.heap.size, #[.float .f64 sl, .float .f64 sh]) (by simp)) (.float .f64 pl) (.float .f64 ph) (by omega) [(w1.heap.size, #[.int .i64 0]), (w2.heap.size, #[.float .f64 pl, .float .f64 ph]), (w2.heap.size + 1, #[.float .f64 kl, .float .f64 kh]), (w3.heap.size, #[.float .f64 tl, .float .f64 th]), (w3.heap.size + 1, #[.float .f64 vl, .float .f64 vh]), (w.heap.size + 1 + 1, #[.float .f64 0, .float .f64 0]), (w.heap.size + 1, #[.float .f64 0, .float .f64 0]), (w.heap.size, #[.float .f64 al, .float .f64 ah])] (by simp; omega))
  go_simp
  refine hK.out _ _ (Or.inl (by decide)) (fun hHeld => ?_)
  clear hK K hHeld kc kf
  refine tails_one (T := [6, 7]) (i := 7) (o := _) rfl (by kernel_rfl) (fun K hK => ?_)
  have kc := (M.out.blocks (w2.heap.size + 1, #[.float .f64 kl, .float .f64 kh]) (by simp)).2.1
  have kf := (M.out.blocks (w2.heap.size + 1, #[.float .f64 kl, .float .f64 kh]) (by simp)).2.2
  replace M := Lib.hid (M.out.sets (M.out.blocks (w2.heap.size + 1, #[.float .f64 kl, .float .f64 kh]) (by simp)) (.float .f64 ql) (.float .f64 qh) (by omega) [(w1.heap.size, #[.int .i64 0]), (w2.heap.size, #[.float .f64 pl, .float .f64 ph]), (w2.heap.size + 1, #[.float .f64 ql, .float .f64 qh]), (w3.heap.size, #[.float .f64 tl, .float .f64 th]), (w3.heap.size + 1, #[.float .f64 vl, .float .f64 vh]), (w.heap.size + 1 + 1, #[.float .f64 0, .float .f64 0]), (w.heap.size + 1, #[.float .f64 0, .float .f64 0]), (w.heap.size, #[.float .f64 al, .float .f64 ah])] (by simp; omega))
  go_simp
  refine hK.out _ _ (Or.inl (by decide)) (fun hHeld => ?_)
  clear hK K hHeld kc kf
  refine tails_done (by kernel_rfl) ?_ _
  refine NoPanic.normal ?_
  replace M : Hid (Mem w [(w1.heap.size, #[.int .i64 0]), (w2.heap.size, #[.float .f64 pl, .float .f64 ph]), (w2.heap.size + 1, #[.float .f64 ql, .float .f64 qh]), (w.heap.size + 1 + 1, #[.float .f64 0, .float .f64 0]), (w.heap.size + 1, #[.float .f64 0, .float .f64 0]), (w.heap.size, #[.float .f64 al, .float .f64 ah])] _) := Lib.hid (M.out.sub (by simp))
  obtain ⟨k1, k2⟩ := (M.out.blocks (w.heap.size, #[.float .f64 al, .float .f64 ah]) (by simp)).two
  go_wp2_with fail
  refine (h1.out _).mono ?_
  rintro r w5 ⟨rfl, hb⟩
  replace M := Lib.hid (M.out.below hb)
  clear hb k1 k2
  go_upto_if 44 with (fail)
  go_cut [] (MemIs w [(w1.heap.size, #[.int .i64 0]), (w2.heap.size, #[.float .f64 xl, .float .f64 xh]), (w2.heap.size + 1, #[.float .f64 ql, .float .f64 qh]), (w.heap.size + 1 + 1, #[.float .f64 0, .float .f64 0]), (w.heap.size + 1, #[.float .f64 0, .float .f64 0]), (w.heap.size, #[.float .f64 al, .float .f64 ah])])
  case first =>
    cases b1
    · obtain ⟨d1, d2⟩ : xl = pl ∧ xh = ph := e1.out
      subst d1 d2
      go_wp2_with fail
      go_meet
      exact M.out
    · obtain ⟨d1, d2⟩ : xl = gl ∧ xh = gh := e1.out
      subst d1 d2
      go_upto_region 8 with fail
      replace M := Lib.hid M.out.drew
      obtain ⟨k1, k2⟩ := (M.out.blocks (w2.heap.size, #[.float .f64 pl, .float .f64 ph]) (by simp)).two
      refine wp_region_noPanic ?_
      refine tails_region (S := fun w' => w'.cell? ⟨w2.heap.size, 0, none⟩ = some (.float .f64 pl) ∧ w'.cell? ⟨w2.heap.size, 1, none⟩ = some (.float .f64 ph)) [3] (by kernel_rfl) ?_ (fun hS => ?_)
      · exact ⟨k1, k2⟩
      refine tails_take (T := [3]) (i := 0) (o := _) (x := ?_) rfl (by kernel_rfl) (by kernel_rfl) (by kernel_rfl) (by kernel_rfl) (fun _ _ _ h => h) (Or.inl ⟨by rfl, ?_⟩) (by assumption) ?_
      rotate_left; focus (intro w hSw; (try dsimp only at hSw); go_simp; first | done | with_reducible rfl)
      refine tails_one (T := [3]) (i := 1) (o := _) rfl (by kernel_rfl) (fun K hK => ?_)
      go_simp
      ((with_reducible refine (cN1.out _ _ (M.out.blocks (w1.heap.size, #[.int .i64 0]) (by simp))).mono ?_); rintro rr w7 ⟨rfl, hb⟩; replace M := Lib.hid (M.out.put hb (by omega) (by simp; omega)); clear hb k1 k2; obtain ⟨k1, k2⟩ := (M.out.blocks (w2.heap.size, #[.float .f64 pl, .float .f64 ph]) (by simp)).two)
      try go_wp2_with fail
      refine hK.out _ _ (Or.inr ⟨k1, k2⟩) (fun hHeld => ?_)
      clear hK K hS
      have hS := hHeld.resolve_left (by decide)
      clear hHeld
      refine tails_one (T := [3]) (i := 2) (o := _) rfl (by kernel_rfl) (fun K hK => ?_)
      go_simp
      ((with_reducible refine (c1.out _).mono ?_); rintro rr w7 ⟨rfl, hb⟩; replace M := Lib.hid (M.out.below hb); clear hb k1 k2; obtain ⟨k1, k2⟩ := (M.out.blocks (w2.heap.size, #[.float .f64 pl, .float .f64 ph]) (by simp)).two)
      try go_wp2_with fail
      refine hK.out _ _ (Or.inr ⟨k1, k2⟩) (fun hHeld => ?_)
      clear hK K hS
      have hS := hHeld.resolve_left (by decide)
      clear hHeld
      clear k1 k2 hS
      refine tails_one (T := [3]) (i := 3) (o := _) rfl (by kernel_rfl) (fun K hK => ?_)
      have kc := (M.out.blocks (w2.heap.size, #[.float .f64 pl, .float .f64 ph]) (by simp)).2.1
      have kf := (M.out.blocks (w2.heap.size, #[.float .f64 pl, .float .f64 ph]) (by simp)).2.2
      replace M := Lib.hid (M.out.sets (M.out.blocks (w2.heap.size, #[.float .f64 pl, .float .f64 ph]) (by simp)) (.float .f64 xl) (.float .f64 xh) (by omega) [(w1.heap.size, #[.int .i64 0]), (w2.heap.size, #[.float .f64 xl, .float .f64 xh]), (w2.heap.size + 1, #[.float .f64 ql, .float .f64 qh]), (w.heap.size + 1 + 1, #[.float .f64 0, .float .f64 0]), (w.heap.size + 1, #[.float .f64 0, .float .f64 0]), (w.heap.size, #[.float .f64 al, .float .f64 ah])] (by simp; omega))
      go_simp
      refine hK.out _ _ (Or.inl (by decide)) (fun hHeld => ?_)
      clear hK K hHeld kc kf
      refine tails_done (by kernel_rfl) ?_ _
      refine NoPanic.normal ?_
      go_wp2_with fail
      go_meet
      exact M.out
  case rest =>
    obtain ⟨w4, rfl⟩ : ∃ x : World, x = wc := ⟨_, rfl⟩
    have M' := hcut
    unfold MemIs at M'
    clear M
    have M := Lib.hid M'
    clear M' hcut
    obtain ⟨k1, k2⟩ := (M.out.blocks (w.heap.size, #[.float .f64 al, .float .f64 ah]) (by simp)).two
    go_wp2_with fail
    refine (h2.out _).mono ?_
    rintro r w5 ⟨rfl, hb⟩
    replace M := Lib.hid (M.out.below hb)
    clear hb k1 k2
    go_upto_if 49 with (fail)
    go_cut [] (MemIs w [(w1.heap.size, #[.int .i64 0]), (w2.heap.size, #[.float .f64 yl, .float .f64 yh]), (w2.heap.size + 1, #[.float .f64 ql, .float .f64 qh]), (w.heap.size + 1 + 1, #[.float .f64 0, .float .f64 0]), (w.heap.size + 1, #[.float .f64 0, .float .f64 0]), (w.heap.size, #[.float .f64 al, .float .f64 ah])])
    case first =>
      cases b2
      · obtain ⟨d1, d2⟩ : yl = xl ∧ yh = xh := e2.out
        subst d1 d2
        go_wp2_with fail
        go_meet
        exact M.out
      · obtain ⟨d1, d2⟩ : yl = il ∧ yh = ih := e2.out
        subst d1 d2
        go_upto_region 10 with fail
        replace M := Lib.hid M.out.drew
        obtain ⟨k1, k2⟩ := (M.out.blocks (w2.heap.size, #[.float .f64 xl, .float .f64 xh]) (by simp)).two
        refine wp_region_noPanic ?_
        refine tails_region (S := fun w' => w'.cell? ⟨w2.heap.size, 0, none⟩ = some (.float .f64 xl) ∧ w'.cell? ⟨w2.heap.size, 1, none⟩ = some (.float .f64 xh)) [3] (by kernel_rfl) ?_ (fun hS => ?_)
        · exact ⟨k1, k2⟩
        refine tails_take (T := [3]) (i := 0) (o := _) (x := ?_) rfl (by kernel_rfl) (by kernel_rfl) (by kernel_rfl) (by kernel_rfl) (fun _ _ _ h => h) (Or.inl ⟨by rfl, ?_⟩) (by assumption) ?_
        rotate_left; focus (intro w hSw; (try dsimp only at hSw); go_simp; first | done | with_reducible rfl)
        refine tails_one (T := [3]) (i := 1) (o := _) rfl (by kernel_rfl) (fun K hK => ?_)
        go_simp
        ((with_reducible refine (cN2.out _ _ (M.out.blocks (w1.heap.size, #[.int .i64 0]) (by simp))).mono ?_); rintro rr w7 ⟨rfl, hb⟩; replace M := Lib.hid (M.out.put hb (by omega) (by simp; omega)); clear hb k1 k2; obtain ⟨k1, k2⟩ := (M.out.blocks (w2.heap.size, #[.float .f64 xl, .float .f64 xh]) (by simp)).two)
        try go_wp2_with fail
        refine hK.out _ _ (Or.inr ⟨k1, k2⟩) (fun hHeld => ?_)
        clear hK K hS
        have hS := hHeld.resolve_left (by decide)
        clear hHeld
        refine tails_one (T := [3]) (i := 2) (o := _) rfl (by kernel_rfl) (fun K hK => ?_)
        go_simp
        ((with_reducible refine (c2.out _).mono ?_); rintro rr w7 ⟨rfl, hb⟩; replace M := Lib.hid (M.out.below hb); clear hb k1 k2; obtain ⟨k1, k2⟩ := (M.out.blocks (w2.heap.size, #[.float .f64 xl, .float .f64 xh]) (by simp)).two)
        try go_wp2_with fail
        refine hK.out _ _ (Or.inr ⟨k1, k2⟩) (fun hHeld => ?_)
        clear hK K hS
        have hS := hHeld.resolve_left (by decide)
        clear hHeld
        clear k1 k2 hS
        refine tails_one (T := [3]) (i := 3) (o := _) rfl (by kernel_rfl) (fun K hK => ?_)
        have kc := (M.out.blocks (w2.heap.size, #[.float .f64 xl, .float .f64 xh]) (by simp)).2.1
        have kf := (M.out.blocks (w2.heap.size, #[.float .f64 xl, .float .f64 xh]) (by simp)).2.2
        replace M := Lib.hid (M.out.sets (M.out.blocks (w2.heap.size, #[.float .f64 xl, .float .f64 xh]) (by simp)) (.float .f64 yl) (.float .f64 yh) (by omega) [(w1.heap.size, #[.int .i64 0]), (w2.heap.size, #[.float .f64 yl, .float .f64 yh]), (w2.heap.size + 1, #[.float .f64 ql, .float .f64 qh]), (w.heap.size + 1 + 1, #[.float .f64 0, .float .f64 0]), (w.heap.size + 1, #[.float .f64 0, .float .f64 0]), (w.heap.size, #[.float .f64 al, .float .f64 ah])] (by simp; omega))
        go_simp
        refine hK.out _ _ (Or.inl (by decide)) (fun hHeld => ?_)
        clear hK K hHeld kc kf
        refine tails_done (by kernel_rfl) ?_ _
        refine NoPanic.normal ?_
        go_wp2_with fail
        go_meet
        exact M.out
    case rest =>
      obtain ⟨w4, rfl⟩ : ∃ x : World, x = wc := ⟨_, rfl⟩
      have M' := hcut
      unfold MemIs at M'
      clear M
      have M := Lib.hid M'
      clear M' hcut
      obtain ⟨k1, k2⟩ := (M.out.blocks (w.heap.size, #[.float .f64 al, .float .f64 ah]) (by simp)).two
      go_wp2_with fail
      refine (h3.out _).mono ?_
      rintro r w5 ⟨rfl, hb⟩
      replace M := Lib.hid (M.out.below hb)
      clear hb k1 k2
      go_upto_if 54 with (fail)
      go_cut [] (MemIs w [(w1.heap.size, #[.int .i64 0]), (w2.heap.size, #[.float .f64 yl, .float .f64 yh]), (w2.heap.size + 1, #[.float .f64 zl, .float .f64 zh]), (w.heap.size + 1 + 1, #[.float .f64 0, .float .f64 0]), (w.heap.size + 1, #[.float .f64 0, .float .f64 0]), (w.heap.size, #[.float .f64 al, .float .f64 ah])])
      case first =>
        cases b3
        · obtain ⟨d1, d2⟩ : zl = ql ∧ zh = qh := e3.out
          subst d1 d2
          go_wp2_with fail
          go_meet
          exact M.out
        · obtain ⟨d1, d2⟩ : zl = jl ∧ zh = jh := e3.out
          subst d1 d2
          go_upto_region 12 with fail
          replace M := Lib.hid M.out.drew
          obtain ⟨k1, k2⟩ := (M.out.blocks (w2.heap.size + 1, #[.float .f64 ql, .float .f64 qh]) (by simp)).two
          refine wp_region_noPanic ?_
          refine tails_region (S := fun w' => w'.cell? ⟨w2.heap.size + 1, 0, none⟩ = some (.float .f64 ql) ∧ w'.cell? ⟨w2.heap.size + 1, 1, none⟩ = some (.float .f64 qh)) [3] (by kernel_rfl) ?_ (fun hS => ?_)
          · exact ⟨k1, k2⟩
          refine tails_take (T := [3]) (i := 0) (o := _) (x := ?_) rfl (by kernel_rfl) (by kernel_rfl) (by kernel_rfl) (by kernel_rfl) (fun _ _ _ h => h) (Or.inl ⟨by rfl, ?_⟩) (by assumption) ?_
          rotate_left; focus (intro w hSw; (try dsimp only at hSw); go_simp; first | done | with_reducible rfl)
          refine tails_one (T := [3]) (i := 1) (o := _) rfl (by kernel_rfl) (fun K hK => ?_)
          go_simp
          ((with_reducible refine (cN2.out _ _ (M.out.blocks (w1.heap.size, #[.int .i64 0]) (by simp))).mono ?_); rintro rr w7 ⟨rfl, hb⟩; replace M := Lib.hid (M.out.put hb (by omega) (by simp; omega)); clear hb k1 k2; obtain ⟨k1, k2⟩ := (M.out.blocks (w2.heap.size + 1, #[.float .f64 ql, .float .f64 qh]) (by simp)).two)
          try go_wp2_with fail
          refine hK.out _ _ (Or.inr ⟨k1, k2⟩) (fun hHeld => ?_)
          clear hK K hS
          have hS := hHeld.resolve_left (by decide)
          clear hHeld
          refine tails_one (T := [3]) (i := 2) (o := _) rfl (by kernel_rfl) (fun K hK => ?_)
          go_simp
          ((with_reducible refine (c3.out _).mono ?_); rintro rr w7 ⟨rfl, hb⟩; replace M := Lib.hid (M.out.below hb); clear hb k1 k2; obtain ⟨k1, k2⟩ := (M.out.blocks (w2.heap.size + 1, #[.float .f64 ql, .float .f64 qh]) (by simp)).two)
          try go_wp2_with fail
          refine hK.out _ _ (Or.inr ⟨k1, k2⟩) (fun hHeld => ?_)
          clear hK K hS
          have hS := hHeld.resolve_left (by decide)
          clear hHeld
          clear k1 k2 hS
          refine tails_one (T := [3]) (i := 3) (o := _) rfl (by kernel_rfl) (fun K hK => ?_)
          have kc := (M.out.blocks (w2.heap.size + 1, #[.float .f64 ql, .float .f64 qh]) (by simp)).2.1
          have kf := (M.out.blocks (w2.heap.size + 1, #[.float .f64 ql, .float .f64 qh]) (by simp)).2.2
          replace M := Lib.hid (M.out.sets (M.out.blocks (w2.heap.size + 1, #[.float .f64 ql, .float .f64 qh]) (by simp)) (.float .f64 zl) (.float .f64 zh) (by omega) [(w1.heap.size, #[.int .i64 0]), (w2.heap.size, #[.float .f64 yl, .float .f64 yh]), (w2.heap.size + 1, #[.float .f64 zl, .float .f64 zh]), (w.heap.size + 1 + 1, #[.float .f64 0, .float .f64 0]), (w.heap.size + 1, #[.float .f64 0, .float .f64 0]), (w.heap.size, #[.float .f64 al, .float .f64 ah])] (by simp; omega))
          go_simp
          refine hK.out _ _ (Or.inl (by decide)) (fun hHeld => ?_)
          clear hK K hHeld kc kf
          refine tails_done (by kernel_rfl) ?_ _
          refine NoPanic.normal ?_
          go_wp2_with fail
          go_meet
          exact M.out
      case rest =>
        obtain ⟨w4, rfl⟩ : ∃ x : World, x = wc := ⟨_, rfl⟩
        have M' := hcut
        unfold MemIs at M'
        clear M
        have M := Lib.hid M'
        clear M' hcut
        obtain ⟨k1, k2⟩ := (M.out.blocks (w2.heap.size, #[.float .f64 yl, .float .f64 yh]) (by simp)).two
        obtain ⟨k3, k4⟩ := (M.out.blocks (w2.heap.size + 1, #[.float .f64 zl, .float .f64 zh]) (by simp)).two
        have k5 := (M.out.blocks (w.heap.size + 1, #[.float .f64 0, .float .f64 0]) (by simp)).2.1
        have k6 := (M.out.blocks (w.heap.size + 1, #[.float .f64 0, .float .f64 0]) (by simp)).2.2
        have k7 := (M.out.blocks (w.heap.size + 1 + 1, #[.float .f64 0, .float .f64 0]) (by simp)).2.1
        have k8 := (M.out.blocks (w.heap.size + 1 + 1, #[.float .f64 0, .float .f64 0]) (by simp)).2.2
        go_upto_region 13 with fail
        go_region_held3 (fun w' => w'.cell? ⟨w2.heap.size, 0, none⟩ = some (.float .f64 yl) ∧ w'.cell? ⟨w2.heap.size, 1, none⟩ = some (.float .f64 yh) ∧ w'.cell? ⟨w2.heap.size + 1, 0, none⟩ = some (.float .f64 zl) ∧ w'.cell? ⟨w2.heap.size + 1, 1, none⟩ = some (.float .f64 zh)) (((try dsimp only); (repeat' apply And.intro); all_goals (repeat (first | (with_reducible assumption) | ((with_reducible refine keep_undrew ?_); (with_reducible assumption)) | (with_reducible refine keep_drew ?_) | (with_reducible refine keep_alloc _ ?_) | (with_reducible refine keep_set _ (by first | (with_reducible assumption) | omega) ?_)))))
          (fail)
        have M1 := Lib.hid (M.out.sets (M.out.blocks (w.heap.size + 1, #[.float .f64 0, .float .f64 0]) (by simp)) (.float .f64 yl) (.float .f64 yh) (by omega) [(w.heap.size + 1, #[.float .f64 yl, .float .f64 yh]), (w.heap.size + 1 + 1, #[.float .f64 0, .float .f64 0])] (by simp))
        have M2 := Lib.hid (M1.out.sets (M1.out.nth 1 rfl) (.float .f64 zl) (.float .f64 zh) (by omega) [(w.heap.size + 1, #[.float .f64 yl, .float .f64 yh]), (w.heap.size + 1 + 1, #[.float .f64 zl, .float .f64 zh])] (by simp))
        go_wp2
        have M3 := Lib.hid M2.out.drew
        have f1 := (M3.out.nth 0 rfl).2.1
        have g1 := (M3.out.nth 1 rfl).2.1
        exact bodyPost_ret (v := .tuple #[.agg #[.float .f64 yl, .float .f64 yh], .agg #[.float .f64 zl, .float .f64 zh], .int .i64 0]) (by simp [results, Try.results13, go_sem, f1, g1]) rfl ⟨rfl, M3.out.base⟩

end Go.Proofs.Ytoiaefgpegiieaa
