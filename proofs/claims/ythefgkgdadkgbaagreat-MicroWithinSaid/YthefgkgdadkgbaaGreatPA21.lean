/- What the claim stands on, part 22: GgA. -/
import Derived.Test.YthefgkgdadkgbaaGreatPA13
import Derived.Deep.RegionHeld3
namespace Go.Proofs.YthefgkgdadkgbaaGreat
open Go.RowKit
attribute [local go_sem] run_store_float

section
variable {P : Program} {ops : Array Oper} {Q : Exit → Act → World → Prop} {md : Region.Mode} {S : World → Prop}
theorem lp_cccc_1 {a0 : Act} {B v : World} {l : List (Nat × Array Value)} (_ : Hid (Own B l v)) {w0 : World} {L0 : Array Bool} (c1 c2 c3 c4 m1 : Nat) (slots : List Nat) (N : Nat) (J : List (Nat × Array Value) → Act → Nat → List (Option Nat) → Act → World → Prop) (hok : latOkP [false, false, false, false] md ops L0 [c1, c2, c3, c4] [m1] = true)
    (hsl : (slots.all fun s => decide (s < a0.tmps.size)) = true) (h0 : ∀ A : Act, (∀ s, s ∈ slots → s < A.tmps.size) → J l A 0 (List.replicate 1 none) A w0)
    (hS : ∀ k p a w, J l a0 k p a w → S w)
    (k1 : ∀ p a w, J l a0 0 p a w → wpOp P ops Q c1 (fun b v => J l a0 1 p b v) a w)
    (k2 : ∀ p a w, J l a0 1 p a w → wpOp P ops Q c2 (fun b v => J l a0 2 p b v) a w)
    (k3 : ∀ p a w, J l a0 2 p a w → wpOp P ops Q c3 (fun b v => J l a0 3 p b v) a w)
    (k4 : ∀ p a w, J l a0 3 p a w → wpOp P ops Q c4 (fun b v => J l a0 4 p b v) a w)
    (n1 : ∀ k p a w, p[0]? = some none → J l a0 k p a w → wpOp P ops Q m1 (fun b v => ∃ q, J l a0 k (p.set 0 (some q)) b v) a w)
    (fin : ∀ q1 a w, J l a0 4 [some q1] a w → wpAnyV P md ops Q S [] N (lstOf L0 [c1, c2, c3, c4] [m1] 4 [true]) a w) :
    wpAnyV P md ops Q S [] (N + 5) L0 a0 w0 := by
  refine latP_from (pl := [false, false, false, false]) [c1, c2, c3, c4] [m1] slots N 5 (J l) hok rfl hsl h0 hS (fun k i p a w hk hn hJ => ?_) (fun k i p a w hk hn hJ => ?_) (fun k m i p a w hm hp hJ => ?_) (fun p a w hp hall hJ => ?_)
  · rcases k with _ | _ | _ | _ | k
    · obtain rfl : c1 = i := by simpa using hk
      exact k1 p a w hJ
    · obtain rfl : c2 = i := by simpa using hk
      exact k2 p a w hJ
    · obtain rfl : c3 = i := by simpa using hk
      exact k3 p a w hJ
    · obtain rfl : c4 = i := by simpa using hk
      exact k4 p a w hJ
    · simp at hk
  · rcases k with _ | _ | _ | _ | k
    · exact absurd hn (by decide)
    · exact absurd hn (by decide)
    · exact absurd hn (by decide)
    · exact absurd hn (by decide)
    · simp at hk
  · rcases m with _ | m
    · obtain rfl : m1 = i := by simpa using hm
      exact n1 k p a w hp hJ
    · simp at hm
  · obtain ⟨q1, rfl⟩ := fin_one hp hall
    exact fin q1 a w hJ
end

set_option maxRecDepth 100000 in
set_option maxHeartbeats 16000000 in
theorem gwithin_walk {xl xh ls gs : Nat} (w : World)
    (o_leqls_xl : (((FloatKind.f64.format.order ls xl == some Ordering.lt) || (FloatKind.f64.format.order ls xl == some Ordering.eq)) = true))
    (o_leqxh_gs : (((FloatKind.f64.format.order xh gs == some Ordering.lt) || (FloatKind.f64.format.order xh gs == some Ordering.eq)) = true)) :
    Calls Tryz.prog 75 #[.agg #[.float .f64 xl, .float .f64 xh], .float .f64 ls, .float .f64 gs] w fun r w' => r = .returned (.bool true) ∧ Below w.heap.size w w' := by
  have M := Lib.hid ((Own.nil w).made #[.float .f64 xl, .float .f64 xh] 27)
  have eqF := eq_floats
  go_enter Tryz.func75, Tryz.ntmps75
  obtain ⟨k1, k2⟩ := (M.out.nth 0 rfl).two
  go_wp2
  go_ret
  exact ⟨rfl, M.out.base⟩

set_option maxRecDepth 100000 in
set_option maxHeartbeats 16000000 in
theorem gcheck_walk {al ah il ih ol oh : Nat} {er0 : Int} {pb : Nat} (w : World) (hC : Hid (Has1 w (pb, #[.int .i64 er0, .float .f64 al, .float .f64 ah, .float .f64 il, .float .f64 ih, .float .f64 ol, .float .f64 oh])))
    (c1 : Hid (∀ w, Calls Tryz.prog 35 #[.agg #[.float .f64 il, .float .f64 ih]] w fun r w' => r = .returned (.bool true) ∧ Below w.heap.size w w'))
    (c2 : Hid (∀ w, Calls Tryz.prog 35 #[.agg #[.float .f64 ol, .float .f64 oh]] w fun r w' => r = .returned (.bool true) ∧ Below w.heap.size w w'))
    (c3 : Hid (∀ w, Calls Tryz.prog 35 #[.agg #[.float .f64 al, .float .f64 ah]] w fun r w' => r = .returned (.bool true) ∧ Below w.heap.size w w'))
    (c4 : Hid (∀ w, Calls Tryz.prog 75 #[.agg #[.float .f64 il, .float .f64 ih], .float .f64 0, .float .f64 4607182418800017408] w fun r w' => r = .returned (.bool true) ∧ Below w.heap.size w w'))
    (c5 : Hid (∀ w, Calls Tryz.prog 75 #[.agg #[.float .f64 ol, .float .f64 oh], .float .f64 0, .float .f64 4607182418800017408] w fun r w' => r = .returned (.bool true) ∧ Below w.heap.size w w'))
    (c6 : Hid (∀ w, Calls Tryz.prog 75 #[.agg #[.float .f64 al, .float .f64 ah], .float .f64 4584664420663164928, .float .f64 4607182418800017408] w fun r w' => r = .returned (.bool true) ∧ Below w.heap.size w w')) :
    Calls Tryz.prog 63 #[.pointer (some ⟨pb, 0, none⟩)] w fun r w' => r = .returned (.int .i64 0) ∧ Below w.heap.size w w' := by
  have M0 := Own.srf (x := .int .i64 er0) hC.out rfl
  have M := Lib.hid M0
  clear M0
  have eqF := eq_floats
  go_enter Tryz.func63, Tryz.ntmps63
  obtain ⟨k1, k2, k3, k4, k5, k6, k7⟩ := (hC.out.at M.out).seven
  go_wp2_with fail
  refine (c1.out _).mono ?_
  rintro r w1_ ⟨rfl, hb⟩
  replace M := Lib.hid (M.out.below hb)
  clear hb
  clear k1 k2 k3 k4 k5 k6 k7
  obtain ⟨k1, k2, k3, k4, k5, k6, k7⟩ := (hC.out.at M.out).seven
  go_wp2_with fail
  refine (c2.out _).mono ?_
  rintro r w2_ ⟨rfl, hb⟩
  replace M := Lib.hid (M.out.below hb)
  clear hb
  clear k1 k2 k3 k4 k5 k6 k7
  obtain ⟨k1, k2, k3, k4, k5, k6, k7⟩ := (hC.out.at M.out).seven
  go_wp2_with fail
  refine (c3.out _).mono ?_
  rintro r w3_ ⟨rfl, hb⟩
  replace M := Lib.hid (M.out.below hb)
  clear hb
  clear k1 k2 k3 k4 k5 k6 k7
  obtain ⟨k1, k2, k3, k4, k5, k6, k7⟩ := (hC.out.at M.out).seven
  go_wp2_with fail
  refine (c4.out _).mono ?_
  rintro r w4_ ⟨rfl, hb⟩
  replace M := Lib.hid (M.out.below hb)
  clear hb
  clear k1 k2 k3 k4 k5 k6 k7
  obtain ⟨k1, k2, k3, k4, k5, k6, k7⟩ := (hC.out.at M.out).seven
  go_wp2_with fail
  refine (c5.out _).mono ?_
  rintro r w5_ ⟨rfl, hb⟩
  replace M := Lib.hid (M.out.below hb)
  clear hb
  clear k1 k2 k3 k4 k5 k6 k7
  obtain ⟨k1, k2, k3, k4, k5, k6, k7⟩ := (hC.out.at M.out).seven
  go_wp2_with fail
  refine (c6.out _).mono ?_
  rintro r w6_ ⟨rfl, hb⟩
  replace M := Lib.hid (M.out.below hb)
  clear hb
  clear k1 k2 k3 k4 k5 k6 k7
  go_wp2
  go_ret
  exact ⟨rfl, M.out.base_srf hC.out⟩

set_option maxRecDepth 100000 in
set_option maxHeartbeats 16000000 in
theorem gnot_walk {xl xh yl yh : Nat} (w : World)
    (m_yl : (∀ ts t w, (Builtin.max_ ts t #[.float .f64 xl, .float .f64 0]).run Tryz.prog w = .ok (.float .f64 yl) w))
    (m_yh : (∀ ts t w, (Builtin.max_ ts t #[.float .f64 xh, .float .f64 0]).run Tryz.prog w = .ok (.float .f64 yh) w)) :
    Calls Tryz.prog 77 #[.agg #[.float .f64 xl, .float .f64 xh]] w fun r w' => r = .returned (.agg #[.float .f64 yl, .float .f64 yh]) ∧ Below w.heap.size w w' := by
  have M := Lib.hid (((Own.nil w).made #[.float .f64 xl, .float .f64 xh] 27).made #[.float .f64 yl, .float .f64 yh] 27)
  simp only [World.size_alloc] at M
  have eqF := eq_floats
  go_enter Tryz.func77, Tryz.ntmps77
  obtain ⟨k3, k4⟩ := (M.out.nth 1 rfl).two
  go_wp2
  obtain ⟨f1, f2⟩ := (M.out.nth 0 rfl).two
  exact bodyPost_ret (v := .agg #[.float .f64 yl, .float .f64 yh]) (by simp [results, Tryz.results77, go_sem, f1, f2]) rfl ⟨rfl, M.out.base⟩

set_option maxRecDepth 100000 in
set_option maxHeartbeats 16000000 in
theorem ga2_walk {al ah il ih ol oh rl rh : Nat} {er0 er1 : Int} {pb : Nat} (w : World) (hC : Hid (Has1 w (pb, #[.int .i64 er0, .float .f64 al, .float .f64 ah, .float .f64 il, .float .f64 ih, .float .f64 ol, .float .f64 oh])))
    (d1 : Hid (∀ v : World, v.cell? ⟨pb, 0, none⟩ = some (.int .i64 er0) → v.frozen? ⟨pb, 0, none⟩ = false → Calls Tryz.prog 61 #[.pointer (some ⟨pb, 0, none⟩), .agg #[.float .f64 al, .float .f64 ah]] v fun r w' => r = .returned (.agg #[.float .f64 rl, .float .f64 rh]) ∧ Put ⟨pb, 0, none⟩ (.int .i64 er1) v w')) :
    Calls Tryz.prog 64 #[.pointer (some ⟨pb, 0, none⟩)] w fun r w' => r = .returned (.agg #[.float .f64 rl, .float .f64 rh]) ∧ Put ⟨pb, 0, none⟩ (.int .i64 er1) w w' := by
  have M0 := Own.srf (x := .int .i64 er0) hC.out rfl
  have M := Lib.hid (M0.made #[.float .f64 0, .float .f64 0] 27)
  clear M0
  have eqF := eq_floats
  go_enter Tryz.func64, Tryz.ntmps64
  go_upto_region 1 with fail
  replace M := Lib.hid M.out.drew
  revert M
  generalize (w.alloc (.cells #[.float .f64 0, .float .f64 0] 27)) = W0_
  intro M
  refine wp_region_noPanic ?_
  refine tails_region (S := fun w' => (w'.cell? ⟨pb, 1, none⟩ = some (.float .f64 al) ∧ w'.cell? ⟨pb, 2, none⟩ = some (.float .f64 ah) ∧ w'.cell? ⟨pb, 3, none⟩ = some (.float .f64 il) ∧ w'.cell? ⟨pb, 4, none⟩ = some (.float .f64 ih) ∧ w'.cell? ⟨pb, 5, none⟩ = some (.float .f64 ol) ∧ w'.cell? ⟨pb, 6, none⟩ = some (.float .f64 oh))) [] (by kernel_rfl) ?_ (fun hS => ?_)
  · exact (hC.out.at M.out).but0
  refine tk (x := ?_) 0 rfl (by kernel_rfl) ⟨by kernel_rfl, ?_⟩ (fun _ _ _ h => h) hS ?_
  rotate_left; focus (intro w hSw; (try dsimp only at hSw); go_simp; try with_reducible rfl)
  refine tk (x := ?_) 1 rfl (by kernel_rfl) ⟨by kernel_rfl, ?_⟩ (fun _ _ _ h => h) hS ?_
  rotate_left; focus (intro w hSw; (try dsimp only at hSw); go_simp; try with_reducible rfl)
  refine tk (x := ?_) 2 rfl (by kernel_rfl) ⟨by kernel_rfl, ?_⟩ (fun _ _ _ h => h) hS ?_
  rotate_left; focus (intro w hSw; (try dsimp only at hSw); go_simp; try with_reducible rfl)
  refine tk (x := ?_) 3 rfl (by kernel_rfl) ⟨by kernel_rfl, ?_⟩ (fun _ _ _ h => h) hS ?_
  rotate_left; focus (intro w hSw; (try dsimp only at hSw); go_simp; try with_reducible rfl)
  refine tk (x := ?_) 4 rfl (by kernel_rfl) ⟨by kernel_rfl, ?_⟩ (fun _ _ _ h => h) hS ?_
  rotate_left; focus (intro w hSw; (try dsimp only at hSw); go_simp; try with_reducible rfl)
  refine tk (x := ?_) 5 rfl (by kernel_rfl) ⟨by kernel_rfl, ?_⟩ (fun _ _ _ h => h) hS ?_
  rotate_left; focus (intro w hSw; (try dsimp only at hSw); go_simp; try with_reducible rfl)
  refine tk (x := ?_) 6 rfl (by kernel_rfl) ⟨by kernel_rfl, ?_⟩ (fun _ _ _ h => h) hS ?_
  rotate_left; focus (intro w hSw; (try dsimp only at hSw); go_simp; try with_reducible rfl)
  conv => arg 9; simp only [Act.put, go_sem]
  refine tails_one (T := []) (i := 7) (o := _) rfl (by kernel_rfl) (fun K hK => ?_)
  go_simp
  refine (d1.out _ (hC.out.at M.out).c0 (hC.out.at M.out).pf).mono ?_
  rintro rr w1_ ⟨rfl, hb⟩
  replace M := Lib.hid (M.out.resrf hC.out.1 hb)
  clear hb
  try go_wp2_with fail
  refine hK.out _ _ (Or.inr (hC.out.at M.out).but0) (fun hHeld => ?_)
  clear hK K hHeld
  replace hS := (hC.out.at M.out).but0
  refine tails_one (T := []) (i := 8) (o := _) rfl (by kernel_rfl) (fun K hK => ?_)
  have kc := (M.out.nth 0 rfl).2.1
  have kf := (M.out.nth 0 rfl).2.2
  replace M : Hid (Own (w.setCell ⟨pb, 0, none⟩ (.int .i64 er1)) [(w.heap.size, #[.float .f64 rl, .float .f64 rh])] _) := Lib.hid (M.out.set2 0 rfl (.float .f64 rl) (.float .f64 rh))
  go_simp
  refine hK.out _ _ (Or.inr (hC.out.at M.out).but0) (fun hHeld => ?_)
  clear hK K hHeld kc kf
  refine tails_done (by kernel_rfl) ?_ _
  refine NoPanic.normal ?_
  clear hS
  revert M
  generalize ((w1_.setCell ⟨w.heap.size, 0, none⟩ (.float .f64 rl)).setCell ⟨w.heap.size, 1, none⟩ (.float .f64 rh)) = W2_
  intro M
  go_wp2
  obtain ⟨f1, f2⟩ := (M.out.nth 0 rfl).two
  exact bodyPost_ret (v := .agg #[.float .f64 rl, .float .f64 rh]) (by simp [results, Tryz.results64, go_sem, f1, f2]) rfl ⟨rfl, M.out.put⟩

set_option maxRecDepth 100000 in
set_option maxHeartbeats 16000000 in
theorem gspread_walk {al ah il ih ol oh xal xah xbl xbh xcl xch xdl xdh xel xeh xfl xfh : Nat} {er0 er1 er2 er3 er4 er5 er6 : Int} {pb : Nat} (w : World) (hC : Hid (Has1 w (pb, #[.int .i64 er0, .float .f64 al, .float .f64 ah, .float .f64 il, .float .f64 ih, .float .f64 ol, .float .f64 oh])))
    (d1 : Hid (∀ v : World, v.cell? ⟨pb, 0, none⟩ = some (.int .i64 er0) → v.frozen? ⟨pb, 0, none⟩ = false → Calls Tryz.prog 21 #[.pointer (some ⟨pb, 0, none⟩), .float .f64 4607182418800017408] v fun r w' => r = .returned (.agg #[.float .f64 xal, .float .f64 xah]) ∧ Put ⟨pb, 0, none⟩ (.int .i64 er1) v w'))
    (d2 : Hid (∀ v : World, Has1 v (pb, #[.int .i64 er1, .float .f64 al, .float .f64 ah, .float .f64 il, .float .f64 ih, .float .f64 ol, .float .f64 oh]) → Calls Tryz.prog 64 #[.pointer (some ⟨pb, 0, none⟩)] v fun r w' => r = .returned (.agg #[.float .f64 xbl, .float .f64 xbh]) ∧ Put ⟨pb, 0, none⟩ (.int .i64 er2) v w'))
    (d3 : Hid (∀ v : World, v.cell? ⟨pb, 0, none⟩ = some (.int .i64 er2) → v.frozen? ⟨pb, 0, none⟩ = false → Calls Tryz.prog 76 #[.pointer (some ⟨pb, 0, none⟩), .agg #[.float .f64 xbl, .float .f64 xbh], .agg #[.float .f64 xal, .float .f64 xah]] v fun r w' => r = .returned (.agg #[.float .f64 xcl, .float .f64 xch]) ∧ Put ⟨pb, 0, none⟩ (.int .i64 er3) v w'))
    (d4 : Hid (∀ v : World, v.cell? ⟨pb, 0, none⟩ = some (.int .i64 er3) → v.frozen? ⟨pb, 0, none⟩ = false → Calls Tryz.prog 61 #[.pointer (some ⟨pb, 0, none⟩), .agg #[.float .f64 ol, .float .f64 oh]] v fun r w' => r = .returned (.agg #[.float .f64 xdl, .float .f64 xdh]) ∧ Put ⟨pb, 0, none⟩ (.int .i64 er4) v w'))
    (d5 : Hid (∀ v : World, v.cell? ⟨pb, 0, none⟩ = some (.int .i64 er4) → v.frozen? ⟨pb, 0, none⟩ = false → Calls Tryz.prog 23 #[.pointer (some ⟨pb, 0, none⟩), .agg #[.float .f64 xcl, .float .f64 xch], .agg #[.float .f64 xdl, .float .f64 xdh]] v fun r w' => r = .returned (.agg #[.float .f64 xel, .float .f64 xeh]) ∧ Put ⟨pb, 0, none⟩ (.int .i64 er5) v w'))
    (d6 : Hid (∀ v : World, v.cell? ⟨pb, 0, none⟩ = some (.int .i64 er5) → v.frozen? ⟨pb, 0, none⟩ = false → Calls Tryz.prog 60 #[.pointer (some ⟨pb, 0, none⟩), .agg #[.float .f64 xel, .float .f64 xeh], .agg #[.float .f64 xal, .float .f64 xah]] v fun r w' => r = .returned (.agg #[.float .f64 xfl, .float .f64 xfh]) ∧ Put ⟨pb, 0, none⟩ (.int .i64 er6) v w')) :
    Calls Tryz.prog 66 #[.pointer (some ⟨pb, 0, none⟩)] w fun r w' => r = .returned (.agg #[.float .f64 xfl, .float .f64 xfh]) ∧ Put ⟨pb, 0, none⟩ (.int .i64 er6) w w' := by
  have M0 := Own.srf (x := .int .i64 er0) hC.out rfl
  have M := Lib.hid (M0.made #[.float .f64 0, .float .f64 0] 27)
  clear M0
  have eqF := eq_floats
  go_enter Tryz.func66, Tryz.ntmps66
  go_wp2_with fail
  refine (d1.out _ (hC.out.at M.out).c0 (hC.out.at M.out).pf).mono ?_
  rintro r w1_ ⟨rfl, hb⟩
  replace M := Lib.hid (M.out.resrf hC.out.1 hb)
  clear hb
  replace M := Lib.hid (M.out.made #[.float .f64 xal, .float .f64 xah] 27)
  go_upto_region 2 with fail
  replace M := Lib.hid M.out.drew
  revert M
  generalize (w1_.alloc (.cells #[.float .f64 xal, .float .f64 xah] 27)) = W2_
  intro M
  refine wp_region_noPanic ?_
  refine tails_region (S := fun w' => (w'.cell? ⟨w1_.heap.size, 0, none⟩ = some (.float .f64 xal) ∧ w'.cell? ⟨w1_.heap.size, 1, none⟩ = some (.float .f64 xah)) ∧ (w'.cell? ⟨pb, 1, none⟩ = some (.float .f64 al) ∧ w'.cell? ⟨pb, 2, none⟩ = some (.float .f64 ah) ∧ w'.cell? ⟨pb, 3, none⟩ = some (.float .f64 il) ∧ w'.cell? ⟨pb, 4, none⟩ = some (.float .f64 ih) ∧ w'.cell? ⟨pb, 5, none⟩ = some (.float .f64 ol) ∧ w'.cell? ⟨pb, 6, none⟩ = some (.float .f64 oh))) [] (by kernel_rfl) ?_ (fun hS => ?_)
  · exact ⟨(M.out.nth 0 rfl).two, (hC.out.at M.out).but0⟩
  refine tk (x := ?_) 0 rfl (by kernel_rfl) ⟨by kernel_rfl, ?_⟩ (fun _ _ _ h => h) hS ?_
  rotate_left; focus (intro w hSw; (try dsimp only at hSw); go_simp; try with_reducible rfl)
  refine tk (x := ?_) 1 rfl (by kernel_rfl) ⟨by kernel_rfl, ?_⟩ (fun _ _ _ h => h) hS ?_
  rotate_left; focus (intro w hSw; (try dsimp only at hSw); go_simp; try with_reducible rfl)
  refine tk (x := ?_) 2 rfl (by kernel_rfl) ⟨by kernel_rfl, ?_⟩ (fun _ _ _ h => h) hS ?_
  rotate_left; focus (intro w hSw; (try dsimp only at hSw); go_simp; try with_reducible rfl)
  refine tk (x := ?_) 3 rfl (by kernel_rfl) ⟨by kernel_rfl, ?_⟩ (fun _ _ _ h => h) hS ?_
  rotate_left; focus (intro w hSw; (try dsimp only at hSw); go_simp; try with_reducible rfl)
  refine tk (x := ?_) 4 rfl (by kernel_rfl) ⟨by kernel_rfl, ?_⟩ (fun _ _ _ h => h) hS ?_
  rotate_left; focus (intro w hSw; (try dsimp only at hSw); go_simp; try with_reducible rfl)
  refine tk (x := ?_) 5 rfl (by kernel_rfl) ⟨by kernel_rfl, ?_⟩ (fun _ _ _ h => h) hS ?_
  rotate_left; focus (intro w hSw; (try dsimp only at hSw); go_simp; try with_reducible rfl)
  refine tk (x := ?_) 6 rfl (by kernel_rfl) ⟨by kernel_rfl, ?_⟩ (fun _ _ _ h => h) hS ?_
  rotate_left; focus (intro w hSw; (try dsimp only at hSw); go_simp; try with_reducible rfl)
  refine tk (x := ?_) 7 rfl (by kernel_rfl) ⟨by kernel_rfl, ?_⟩ (fun _ _ _ h => h) hS ?_
  rotate_left; focus (intro w hSw; (try dsimp only at hSw); go_simp; try with_reducible rfl)
  refine tk (x := ?_) 8 rfl (by kernel_rfl) ⟨by kernel_rfl, ?_⟩ (fun _ _ _ h => h) hS ?_
  rotate_left; focus (intro w hSw; (try dsimp only at hSw); go_simp; try with_reducible rfl)
  refine tk (x := ?_) 9 rfl (by kernel_rfl) ⟨by kernel_rfl, ?_⟩ (fun _ _ _ h => h) hS ?_
  rotate_left; focus (intro w hSw; (try dsimp only at hSw); go_simp; try with_reducible rfl)
  refine tk (x := ?_) 11 rfl (by kernel_rfl) ⟨by kernel_rfl, ?_⟩ (fun _ _ _ h => h) hS ?_
  rotate_left; focus (intro w hSw; (try dsimp only at hSw); go_simp; try with_reducible rfl)
  refine tk (x := ?_) 13 rfl (by kernel_rfl) ⟨by kernel_rfl, ?_⟩ (fun _ _ _ h => h) hS ?_
  rotate_left; focus (intro w hSw; (try dsimp only at hSw); go_simp; try with_reducible rfl)
  refine tk (x := ?_) 14 rfl (by kernel_rfl) ⟨by kernel_rfl, ?_⟩ (fun _ _ _ h => h) hS ?_
  rotate_left; focus (intro w hSw; (try dsimp only at hSw); go_simp; try with_reducible rfl)
  refine tk (x := ?_) 15 rfl (by kernel_rfl) ⟨by kernel_rfl, ?_⟩ (fun _ _ _ h => h) hS ?_
  rotate_left; focus (intro w hSw; (try dsimp only at hSw); go_simp; try with_reducible rfl)
  refine tk (x := ?_) 16 rfl (by kernel_rfl) ⟨by kernel_rfl, ?_⟩ (fun _ _ _ h => h) hS ?_
  rotate_left; focus (intro w hSw; (try dsimp only at hSw); go_simp; try with_reducible rfl)
  refine tk (x := ?_) 17 rfl (by kernel_rfl) ⟨by kernel_rfl, ?_⟩ (fun _ _ _ h => h) hS ?_
  rotate_left; focus (intro w hSw; (try dsimp only at hSw); go_simp; try with_reducible rfl)
  refine tk (x := ?_) 18 rfl (by kernel_rfl) ⟨by kernel_rfl, ?_⟩ (fun _ _ _ h => h) hS ?_
  rotate_left; focus (intro w hSw; (try dsimp only at hSw); go_simp; try with_reducible rfl)
  refine tk (x := ?_) 19 rfl (by kernel_rfl) ⟨by kernel_rfl, ?_⟩ (fun _ _ _ h => h) hS ?_
  rotate_left; focus (intro w hSw; (try dsimp only at hSw); go_simp; try with_reducible rfl)
  refine tk (x := ?_) 22 rfl (by kernel_rfl) ⟨by kernel_rfl, ?_⟩ (fun _ _ _ h => h) hS ?_
  rotate_left; focus (intro w hSw; (try dsimp only at hSw); go_simp; try with_reducible rfl)
  conv => arg 9; simp only [Act.put, go_sem]
  refine tails_one (T := []) (i := 10) (o := _) rfl (by kernel_rfl) (fun K hK => ?_)
  go_simp
  refine (d2.out _ (hC.out.at M.out)).mono ?_
  rintro rr w3_ ⟨rfl, hb⟩
  replace M := Lib.hid (M.out.resrf hC.out.1 hb)
  clear hb
  try go_wp2_with fail
  refine hK.out _ _ (Or.inr ⟨(M.out.nth 0 rfl).two, (hC.out.at M.out).but0⟩) (fun hHeld => ?_)
  clear hK K hHeld
  replace hS := (And.intro (M.out.nth 0 rfl).two (hC.out.at M.out).but0)
  refine tails_one (T := []) (i := 12) (o := _) rfl (by kernel_rfl) (fun K hK => ?_)
  go_simp
  refine (d3.out _ (hC.out.at M.out).c0 (hC.out.at M.out).pf).mono ?_
  rintro rr w4_ ⟨rfl, hb⟩
  replace M := Lib.hid (M.out.resrf hC.out.1 hb)
  clear hb
  try go_wp2_with fail
  refine hK.out _ _ (Or.inr ⟨(M.out.nth 0 rfl).two, (hC.out.at M.out).but0⟩) (fun hHeld => ?_)
  clear hK K hHeld
  replace hS := (And.intro (M.out.nth 0 rfl).two (hC.out.at M.out).but0)
  refine tails_one (T := []) (i := 20) (o := _) rfl (by kernel_rfl) (fun K hK => ?_)
  go_simp
  refine (d4.out _ (hC.out.at M.out).c0 (hC.out.at M.out).pf).mono ?_
  rintro rr w5_ ⟨rfl, hb⟩
  replace M := Lib.hid (M.out.resrf hC.out.1 hb)
  clear hb
  try go_wp2_with fail
  refine hK.out _ _ (Or.inr ⟨(M.out.nth 0 rfl).two, (hC.out.at M.out).but0⟩) (fun hHeld => ?_)
  clear hK K hHeld
  replace hS := (And.intro (M.out.nth 0 rfl).two (hC.out.at M.out).but0)
  refine tails_one (T := []) (i := 21) (o := _) rfl (by kernel_rfl) (fun K hK => ?_)
  go_simp
  refine (d5.out _ (hC.out.at M.out).c0 (hC.out.at M.out).pf).mono ?_
  rintro rr w6_ ⟨rfl, hb⟩
  replace M := Lib.hid (M.out.resrf hC.out.1 hb)
  clear hb
  try go_wp2_with fail
  refine hK.out _ _ (Or.inr ⟨(M.out.nth 0 rfl).two, (hC.out.at M.out).but0⟩) (fun hHeld => ?_)
  clear hK K hHeld
  replace hS := (And.intro (M.out.nth 0 rfl).two (hC.out.at M.out).but0)
  refine tails_one (T := []) (i := 23) (o := _) rfl (by kernel_rfl) (fun K hK => ?_)
  go_simp
  refine (d6.out _ (hC.out.at M.out).c0 (hC.out.at M.out).pf).mono ?_
  rintro rr w7_ ⟨rfl, hb⟩
  replace M := Lib.hid (M.out.resrf hC.out.1 hb)
  clear hb
  try go_wp2_with fail
  refine hK.out _ _ (Or.inr ⟨(M.out.nth 0 rfl).two, (hC.out.at M.out).but0⟩) (fun hHeld => ?_)
  clear hK K hHeld
  replace hS := (And.intro (M.out.nth 0 rfl).two (hC.out.at M.out).but0)
  refine tails_one (T := []) (i := 24) (o := _) rfl (by kernel_rfl) (fun K hK => ?_)
  have kc := (M.out.nth 1 rfl).2.1
  have kf := (M.out.nth 1 rfl).2.2
  replace M : Hid (Own (w.setCell ⟨pb, 0, none⟩ (.int .i64 er6)) [(w1_.heap.size, #[.float .f64 xal, .float .f64 xah]), (w.heap.size, #[.float .f64 xfl, .float .f64 xfh])] _) := Lib.hid (M.out.set2 1 rfl (.float .f64 xfl) (.float .f64 xfh))
  go_simp
  refine hK.out _ _ (Or.inr ⟨(M.out.nth 0 rfl).two, (hC.out.at M.out).but0⟩) (fun hHeld => ?_)
  clear hK K hHeld kc kf
  refine tails_done (by kernel_rfl) ?_ _
  refine NoPanic.normal ?_
  clear hS
  revert M
  generalize ((w7_.setCell ⟨w.heap.size, 0, none⟩ (.float .f64 xfl)).setCell ⟨w.heap.size, 1, none⟩ (.float .f64 xfh)) = W8_
  intro M
  go_wp2
  obtain ⟨f1, f2⟩ := (M.out.nth 1 rfl).two
  exact bodyPost_ret (v := .agg #[.float .f64 xfl, .float .f64 xfh]) (by simp [results, Tryz.results66, go_sem, f1, f2]) rfl ⟨rfl, M.out.put⟩

def glJ2 (W : Nat → World) (xbl xbh xcl xch xdl xdh xel xeh : Nat) (l : RowL) (a0 : Act) (k : Nat) (p : List (Option Nat)) (a : Act) (v : World) : Prop :=
  ∃ y1 y2 y3 y4 z1 : Value, a = (((((a0.put (some 22) y1).put (some 23) y2).put (some 28) y3).put (some 29) y4).put (some 6) z1) ∧ (0 < k → y1 = .agg #[.float .f64 xbl, .float .f64 xbh]) ∧ (1 < k → y2 = .agg #[.float .f64 xcl, .float .f64 xch]) ∧ (2 < k → y3 = .agg #[.float .f64 xdl, .float .f64 xdh]) ∧ (3 < k → y4 = .agg #[.float .f64 xel, .float .f64 xeh]) ∧ (∀ q, p[0]? = some (some q) → z1 = .pointer (some ⟨q, 0, none⟩)) ∧ OwnF (W k) l [#[.float .f64 0, .float .f64 0]] p v
section
variable {W : Nat → World} {v : World} {xbl xbh xcl xch xdl xdh xel xeh : Nat} {l : RowL} {a0 a : Act} {p : List (Option Nat)}
theorem glJ2_0 (h : glJ2 W xbl xbh xcl xch xdl xdh xel xeh l a0 0 p a v) : ∃ y1 y2 y3 y4 z1 : Value, a = (((((a0.put (some 22) y1).put (some 23) y2).put (some 28) y3).put (some 29) y4).put (some 6) z1) ∧ (∀ q, p[0]? = some (some q) → z1 = .pointer (some ⟨q, 0, none⟩)) ∧ OwnF (W 0) l [#[.float .f64 0, .float .f64 0]] p v := by
  obtain ⟨y1, y2, y3, y4, z1, ha, E1, E2, E3, E4, G1, h⟩ := h
  exact ⟨y1, y2, y3, y4, z1, ha, G1, h⟩
theorem glJ2_1 (h : glJ2 W xbl xbh xcl xch xdl xdh xel xeh l a0 1 p a v) : ∃ y2 y3 y4 z1 : Value, a = (((((a0.put (some 22) (.agg #[.float .f64 xbl, .float .f64 xbh])).put (some 23) y2).put (some 28) y3).put (some 29) y4).put (some 6) z1) ∧ (∀ q, p[0]? = some (some q) → z1 = .pointer (some ⟨q, 0, none⟩)) ∧ OwnF (W 1) l [#[.float .f64 0, .float .f64 0]] p v := by
  obtain ⟨y1, y2, y3, y4, z1, ha, E1, E2, E3, E4, G1, h⟩ := h
  obtain rfl := E1 (by decide)
  exact ⟨y2, y3, y4, z1, ha, G1, h⟩
theorem glJ2_2 (h : glJ2 W xbl xbh xcl xch xdl xdh xel xeh l a0 2 p a v) : ∃ y3 y4 z1 : Value, a = (((((a0.put (some 22) (.agg #[.float .f64 xbl, .float .f64 xbh])).put (some 23) (.agg #[.float .f64 xcl, .float .f64 xch])).put (some 28) y3).put (some 29) y4).put (some 6) z1) ∧ (∀ q, p[0]? = some (some q) → z1 = .pointer (some ⟨q, 0, none⟩)) ∧ OwnF (W 2) l [#[.float .f64 0, .float .f64 0]] p v := by
  obtain ⟨y1, y2, y3, y4, z1, ha, E1, E2, E3, E4, G1, h⟩ := h
  obtain rfl := E1 (by decide)
  obtain rfl := E2 (by decide)
  exact ⟨y3, y4, z1, ha, G1, h⟩
theorem glJ2_3 (h : glJ2 W xbl xbh xcl xch xdl xdh xel xeh l a0 3 p a v) : ∃ y4 z1 : Value, a = (((((a0.put (some 22) (.agg #[.float .f64 xbl, .float .f64 xbh])).put (some 23) (.agg #[.float .f64 xcl, .float .f64 xch])).put (some 28) (.agg #[.float .f64 xdl, .float .f64 xdh])).put (some 29) y4).put (some 6) z1) ∧ (∀ q, p[0]? = some (some q) → z1 = .pointer (some ⟨q, 0, none⟩)) ∧ OwnF (W 3) l [#[.float .f64 0, .float .f64 0]] p v := by
  obtain ⟨y1, y2, y3, y4, z1, ha, E1, E2, E3, E4, G1, h⟩ := h
  obtain rfl := E1 (by decide)
  obtain rfl := E2 (by decide)
  obtain rfl := E3 (by decide)
  exact ⟨y4, z1, ha, G1, h⟩
theorem glJ2_fin {q1 : Nat} (h : glJ2 W xbl xbh xcl xch xdl xdh xel xeh l a0 4 [some q1] a v) : a = (((((a0.put (some 22) (.agg #[.float .f64 xbl, .float .f64 xbh])).put (some 23) (.agg #[.float .f64 xcl, .float .f64 xch])).put (some 28) (.agg #[.float .f64 xdl, .float .f64 xdh])).put (some 29) (.agg #[.float .f64 xel, .float .f64 xeh])).put (some 6) (.pointer (some ⟨q1, 0, none⟩))) ∧ OwnF (W 4) l [#[.float .f64 0, .float .f64 0]] [some q1] v := by
  obtain ⟨y1, y2, y3, y4, z1, ha, E1, E2, E3, E4, G1, h⟩ := h
  obtain rfl := E1 (by decide)
  obtain rfl := E2 (by decide)
  obtain rfl := E3 (by decide)
  obtain rfl := E4 (by decide)
  obtain rfl := G1 _ rfl
  exact ⟨ha, h⟩
end

set_option maxRecDepth 100000 in
set_option maxHeartbeats 16000000 in
theorem glambda_walk {al ah il ih ol oh cl ch xal xah xbl xbh xcl xch xdl xdh xel xeh xfl xfh xgl xgh xhl xhh xil xih xjl xjh xkl xkh xll xlh xml xmh : Nat} {er0 er1 er2 er3 er4 er5 er6 er7 er8 er9 er10 er11 er12 : Int} {pb : Nat} (w : World) (hC : Hid (Has1 w (pb, #[.int .i64 er0, .float .f64 al, .float .f64 ah, .float .f64 il, .float .f64 ih, .float .f64 ol, .float .f64 oh])))
    (d1 : Hid (∀ v : World, v.cell? ⟨pb, 0, none⟩ = some (.int .i64 er0) → v.frozen? ⟨pb, 0, none⟩ = false → Calls Tryz.prog 21 #[.pointer (some ⟨pb, 0, none⟩), .float .f64 4607182418800017408] v fun r w' => r = .returned (.agg #[.float .f64 xal, .float .f64 xah]) ∧ Put ⟨pb, 0, none⟩ (.int .i64 er1) v w'))
    (d2 : Hid (∀ v : World, v.cell? ⟨pb, 0, none⟩ = some (.int .i64 er1) → v.frozen? ⟨pb, 0, none⟩ = false → Calls Tryz.prog 61 #[.pointer (some ⟨pb, 0, none⟩), .agg #[.float .f64 cl, .float .f64 ch]] v fun r w' => r = .returned (.agg #[.float .f64 xbl, .float .f64 xbh]) ∧ Put ⟨pb, 0, none⟩ (.int .i64 er2) v w'))
    (d3 : Hid (∀ v : World, v.cell? ⟨pb, 0, none⟩ = some (.int .i64 er2) → v.frozen? ⟨pb, 0, none⟩ = false → Calls Tryz.prog 76 #[.pointer (some ⟨pb, 0, none⟩), .agg #[.float .f64 xal, .float .f64 xah], .agg #[.float .f64 xbl, .float .f64 xbh]] v fun r w' => r = .returned (.agg #[.float .f64 xcl, .float .f64 xch]) ∧ Put ⟨pb, 0, none⟩ (.int .i64 er3) v w'))
    (d4 : Hid (∀ v : World, v.cell? ⟨pb, 0, none⟩ = some (.int .i64 er3) → v.frozen? ⟨pb, 0, none⟩ = false → Calls Tryz.prog 61 #[.pointer (some ⟨pb, 0, none⟩), .agg #[.float .f64 cl, .float .f64 ch]] v fun r w' => r = .returned (.agg #[.float .f64 xdl, .float .f64 xdh]) ∧ Put ⟨pb, 0, none⟩ (.int .i64 er4) v w'))
    (d5 : Hid (∀ v : World, v.cell? ⟨pb, 0, none⟩ = some (.int .i64 er4) → v.frozen? ⟨pb, 0, none⟩ = false → Calls Tryz.prog 22 #[.pointer (some ⟨pb, 0, none⟩), .agg #[.float .f64 xcl, .float .f64 xch], .agg #[.float .f64 xdl, .float .f64 xdh]] v fun r w' => r = .returned (.agg #[.float .f64 xel, .float .f64 xeh]) ∧ Put ⟨pb, 0, none⟩ (.int .i64 er5) v w'))
    (d6 : Hid (∀ v : World, v.cell? ⟨pb, 0, none⟩ = some (.int .i64 er5) → v.frozen? ⟨pb, 0, none⟩ = false → Calls Tryz.prog 21 #[.pointer (some ⟨pb, 0, none⟩), .float .f64 4602678819172646912] v fun r w' => r = .returned (.agg #[.float .f64 xfl, .float .f64 xfh]) ∧ Put ⟨pb, 0, none⟩ (.int .i64 er6) v w'))
    (d7 : Hid (∀ v : World, Has1 v (pb, #[.int .i64 er6, .float .f64 al, .float .f64 ah, .float .f64 il, .float .f64 ih, .float .f64 ol, .float .f64 oh]) → Calls Tryz.prog 64 #[.pointer (some ⟨pb, 0, none⟩)] v fun r w' => r = .returned (.agg #[.float .f64 xgl, .float .f64 xgh]) ∧ Put ⟨pb, 0, none⟩ (.int .i64 er7) v w'))
    (d8 : Hid (∀ v : World, v.cell? ⟨pb, 0, none⟩ = some (.int .i64 er7) → v.frozen? ⟨pb, 0, none⟩ = false → Calls Tryz.prog 23 #[.pointer (some ⟨pb, 0, none⟩), .agg #[.float .f64 xgl, .float .f64 xgh], .agg #[.float .f64 xel, .float .f64 xeh]] v fun r w' => r = .returned (.agg #[.float .f64 xhl, .float .f64 xhh]) ∧ Put ⟨pb, 0, none⟩ (.int .i64 er8) v w'))
    (d9 : Hid (∀ v : World, v.cell? ⟨pb, 0, none⟩ = some (.int .i64 er8) → v.frozen? ⟨pb, 0, none⟩ = false → Calls Tryz.prog 60 #[.pointer (some ⟨pb, 0, none⟩), .agg #[.float .f64 xal, .float .f64 xah], .agg #[.float .f64 xhl, .float .f64 xhh]] v fun r w' => r = .returned (.agg #[.float .f64 xil, .float .f64 xih]) ∧ Put ⟨pb, 0, none⟩ (.int .i64 er9) v w'))
    (d10 : Hid (∀ v : World, v.cell? ⟨pb, 0, none⟩ = some (.int .i64 er9) → v.frozen? ⟨pb, 0, none⟩ = false → Calls Tryz.prog 59 #[.pointer (some ⟨pb, 0, none⟩), .agg #[.float .f64 xil, .float .f64 xih]] v fun r w' => r = .returned (.agg #[.float .f64 xjl, .float .f64 xjh]) ∧ Put ⟨pb, 0, none⟩ (.int .i64 er10) v w'))
    (d11 : Hid (∀ v : World, v.cell? ⟨pb, 0, none⟩ = some (.int .i64 er10) → v.frozen? ⟨pb, 0, none⟩ = false → Calls Tryz.prog 76 #[.pointer (some ⟨pb, 0, none⟩), .agg #[.float .f64 xjl, .float .f64 xjh], .agg #[.float .f64 xal, .float .f64 xah]] v fun r w' => r = .returned (.agg #[.float .f64 xkl, .float .f64 xkh]) ∧ Put ⟨pb, 0, none⟩ (.int .i64 er11) v w'))
    (d12 : Hid (∀ v : World, v.cell? ⟨pb, 0, none⟩ = some (.int .i64 er11) → v.frozen? ⟨pb, 0, none⟩ = false → Calls Tryz.prog 23 #[.pointer (some ⟨pb, 0, none⟩), .agg #[.float .f64 xfl, .float .f64 xfh], .agg #[.float .f64 xkl, .float .f64 xkh]] v fun r w' => r = .returned (.agg #[.float .f64 xll, .float .f64 xlh]) ∧ Put ⟨pb, 0, none⟩ (.int .i64 er12) v w'))
    (c13 : Hid (∀ w, Calls Tryz.prog 77 #[.agg #[.float .f64 xll, .float .f64 xlh]] w fun r w' => r = .returned (.agg #[.float .f64 xml, .float .f64 xmh]) ∧ Below w.heap.size w w')) :
    Calls Tryz.prog 67 #[.pointer (some ⟨pb, 0, none⟩), .agg #[.float .f64 cl, .float .f64 ch]] w fun r w' => r = .returned (.agg #[.float .f64 xml, .float .f64 xmh]) ∧ Put ⟨pb, 0, none⟩ (.int .i64 er12) w w' := by
  have M0 := Own.srf (x := .int .i64 er0) hC.out rfl
  have M := Lib.hid ((M0.made #[.float .f64 cl, .float .f64 ch] 27).made #[.float .f64 0, .float .f64 0] 27)
  clear M0
  simp only [World.size_alloc] at M
  have eqF := eq_floats
  go_enter Tryz.func67, Tryz.ntmps67
  go_wp2_with fail
  refine (d1.out _ (hC.out.at M.out).c0 (hC.out.at M.out).pf).mono ?_
  rintro r w1_ ⟨rfl, hb⟩
  replace M := Lib.hid (M.out.resrf hC.out.1 hb)
  clear hb
  replace M := Lib.hid (M.out.made #[.float .f64 xal, .float .f64 xah] 27)
  go_upto_region 2 with fail
  replace M := Lib.hid M.out.drew
  revert M
  generalize (w1_.alloc (.cells #[.float .f64 xal, .float .f64 xah] 27)) = W2_
  intro M
  refine wp_region_noPanic ?_
  refine tails_region (S := fun w' => (w'.cell? ⟨w1_.heap.size, 0, none⟩ = some (.float .f64 xal) ∧ w'.cell? ⟨w1_.heap.size, 1, none⟩ = some (.float .f64 xah)) ∧ (w'.cell? ⟨w.heap.size, 0, none⟩ = some (.float .f64 cl) ∧ w'.cell? ⟨w.heap.size, 1, none⟩ = some (.float .f64 ch))) [] (by kernel_rfl) ?_ (fun hS => ?_)
  · exact ⟨(M.out.nth 0 rfl).two, (M.out.nth 2 rfl).two⟩
  refine tk (x := ?_) 0 rfl (by kernel_rfl) ⟨by kernel_rfl, ?_⟩ (fun _ _ _ h => h) hS ?_
  rotate_left; focus (intro w hSw; (try dsimp only at hSw); go_simp; try with_reducible rfl)
  refine tk (x := ?_) 1 rfl (by kernel_rfl) ⟨by kernel_rfl, ?_⟩ (fun _ _ _ h => h) hS ?_
  rotate_left; focus (intro w hSw; (try dsimp only at hSw); go_simp; try with_reducible rfl)
  refine tk (x := ?_) 2 rfl (by kernel_rfl) ⟨by kernel_rfl, ?_⟩ (fun _ _ _ h => h) hS ?_
  rotate_left; focus (intro w hSw; (try dsimp only at hSw); go_simp; try with_reducible rfl)
  refine tk (x := ?_) 3 rfl (by kernel_rfl) ⟨by kernel_rfl, ?_⟩ (fun _ _ _ h => h) hS ?_
  rotate_left; focus (intro w hSw; (try dsimp only at hSw); go_simp; try with_reducible rfl)
  refine tk (x := ?_) 4 rfl (by kernel_rfl) ⟨by kernel_rfl, ?_⟩ (fun _ _ _ h => h) hS ?_
  rotate_left; focus (intro w hSw; (try dsimp only at hSw); go_simp; try with_reducible rfl)
  refine tk (x := ?_) 5 rfl (by kernel_rfl) ⟨by kernel_rfl, ?_⟩ (fun _ _ _ h => h) hS ?_
  rotate_left; focus (intro w hSw; (try dsimp only at hSw); go_simp; try with_reducible rfl)
  refine tk (x := ?_) 6 rfl (by kernel_rfl) ⟨by kernel_rfl, ?_⟩ (fun _ _ _ h => h) hS ?_
  rotate_left; focus (intro w hSw; (try dsimp only at hSw); go_simp; try with_reducible rfl)
  refine tk (x := ?_) 7 rfl (by kernel_rfl) ⟨by kernel_rfl, ?_⟩ (fun _ _ _ h => h) hS ?_
  rotate_left; focus (intro w hSw; (try dsimp only at hSw); go_simp; try with_reducible rfl)
  refine tk (x := ?_) 8 rfl (by kernel_rfl) ⟨by kernel_rfl, ?_⟩ (fun _ _ _ h => h) hS ?_
  rotate_left; focus (intro w hSw; (try dsimp only at hSw); go_simp; try with_reducible rfl)
  refine tk (x := ?_) 9 rfl (by kernel_rfl) ⟨by kernel_rfl, ?_⟩ (fun _ _ _ h => h) hS ?_
  rotate_left; focus (intro w hSw; (try dsimp only at hSw); go_simp; try with_reducible rfl)
  refine tk (x := ?_) 10 rfl (by kernel_rfl) ⟨by kernel_rfl, ?_⟩ (fun _ _ _ h => h) hS ?_
  rotate_left; focus (intro w hSw; (try dsimp only at hSw); go_simp; try with_reducible rfl)
  refine tk (x := ?_) 13 rfl (by kernel_rfl) ⟨by kernel_rfl, ?_⟩ (fun _ _ _ h => h) hS ?_
  rotate_left; focus (intro w hSw; (try dsimp only at hSw); go_simp; try with_reducible rfl)
  refine tk (x := ?_) 14 rfl (by kernel_rfl) ⟨by kernel_rfl, ?_⟩ (fun _ _ _ h => h) hS ?_
  rotate_left; focus (intro w hSw; (try dsimp only at hSw); go_simp; try with_reducible rfl)
  refine tk (x := ?_) 15 rfl (by kernel_rfl) ⟨by kernel_rfl, ?_⟩ (fun _ _ _ h => h) hS ?_
  rotate_left; focus (intro w hSw; (try dsimp only at hSw); go_simp; try with_reducible rfl)
  refine tk (x := ?_) 16 rfl (by kernel_rfl) ⟨by kernel_rfl, ?_⟩ (fun _ _ _ h => h) hS ?_
  rotate_left; focus (intro w hSw; (try dsimp only at hSw); go_simp; try with_reducible rfl)
  conv => arg 9; simp only [Act.put, go_sem]
  refine lp_cccc_1 M 11 12 17 18 19 [22, 23, 28, 29, 6] 1 (glJ2 (fun k => w.setCell ⟨pb, 0, none⟩ (.int .i64 ([er1, er2, er3, er4, er5].getD k 0))) xbl xbh xcl xch xdl xdh xel xeh) (by kernel_rfl) (by kernel_rfl) ?_ ?_ ?_ ?_ ?_ ?_ ?_ ?_
  · intro A hA
    obtain ⟨y1, hq1⟩ := put_ex (hA 22 (by simp))
    obtain ⟨y2, hq2⟩ := put_ex (hA 23 (by simp))
    obtain ⟨y3, hq3⟩ := put_ex (hA 28 (by simp))
    obtain ⟨y4, hq4⟩ := put_ex (hA 29 (by simp))
    obtain ⟨z1, hq5⟩ := put_ex (hA 6 (by simp))
    exact ⟨y1, y2, y3, y4, z1, by rw [hq1, hq2, hq3, hq4, hq5], by omega, by omega, by omega, by omega, by simp, OwnF.start M.out 1⟩
  · rintro k p a v ⟨y1, y2, y3, y4, z1, _, _, _, _, _, _, h⟩
    exact ⟨(h.own.nth 0 rfl).two, (h.own.nth 2 rfl).two⟩
  · intro p a v hJ
    refine op_step (o := _) rfl (fun K hK => ?_)
    obtain ⟨y1, y2, y3, y4, z1, ha, gg1, h⟩ := glJ2_0 hJ
    have h := Lib.hid h
    clear hJ
    subst ha
    go_simp
    refine (d2.out _ (hC.out.at h.out.own).c0 (hC.out.at h.out.own).pf).mono ?_
    rintro rr w5 ⟨rfl, hp⟩
    try go_wp2_with fail
    refine hK.out _ _ ⟨_, y2, y3, y4, z1, ?_, fun _ => rfl, by omega, by omega, by omega, gg1, h.out.resrf hC.out.1 hp⟩
    kernel_rfl
  · intro p a v hJ
    refine op_step (o := _) rfl (fun K hK => ?_)
    obtain ⟨y2, y3, y4, z1, ha, gg1, h⟩ := glJ2_1 hJ
    have h := Lib.hid h
    clear hJ
    subst ha
    go_simp
    refine (d3.out _ (hC.out.at h.out.own).c0 (hC.out.at h.out.own).pf).mono ?_
    rintro rr w5 ⟨rfl, hp⟩
    try go_wp2_with fail
    refine hK.out _ _ ⟨_, _, y3, y4, z1, ?_, fun _ => rfl, fun _ => rfl, by omega, by omega, gg1, h.out.resrf hC.out.1 hp⟩
    kernel_rfl
  · intro p a v hJ
    refine op_step (o := _) rfl (fun K hK => ?_)
    obtain ⟨y3, y4, z1, ha, gg1, h⟩ := glJ2_2 hJ
    have h := Lib.hid h
    clear hJ
    subst ha
    go_simp
    refine (d4.out _ (hC.out.at h.out.own).c0 (hC.out.at h.out.own).pf).mono ?_
    rintro rr w5 ⟨rfl, hp⟩
    try go_wp2_with fail
    refine hK.out _ _ ⟨_, _, _, y4, z1, ?_, fun _ => rfl, fun _ => rfl, fun _ => rfl, by omega, gg1, h.out.resrf hC.out.1 hp⟩
    kernel_rfl
  · intro p a v hJ
    refine op_step (o := _) rfl (fun K hK => ?_)
    obtain ⟨y4, z1, ha, gg1, h⟩ := glJ2_3 hJ
    have h := Lib.hid h
    clear hJ
    subst ha
    go_simp
    refine (d5.out _ (hC.out.at h.out.own).c0 (hC.out.at h.out.own).pf).mono ?_
    rintro rr w5 ⟨rfl, hp⟩
    try go_wp2_with fail
    refine hK.out _ _ ⟨_, _, _, _, z1, ?_, fun _ => rfl, fun _ => rfl, fun _ => rfl, fun _ => rfl, gg1, h.out.resrf hC.out.1 hp⟩
    kernel_rfl
  · intro k p a v hp hJ
    refine op_step (o := _) rfl (fun K hK => ?_)
    obtain ⟨y1, y2, y3, y4, z1, ha, ee1, ee2, ee3, ee4, gg1, h⟩ := hJ
    have h := Lib.hid h
    subst ha
    go_simp
    refine hK.out _ _ ⟨v.heap.size, y1, y2, y3, y4, .pointer (some ⟨v.heap.size, 0, none⟩), ?_, ee1, ee2, ee3, ee4, fun q hq => ptr_set hq, h.out.alloc hp rfl _⟩
    kernel_rfl
  intro p2_1 a v hJ
  obtain ⟨rfl, h⟩ := glJ2_fin hJ
  clear hJ
  replace M := Lib.hid h.fin1
  clear h
  replace M : Hid (Own (w.setCell ⟨pb, 0, none⟩ (.int .i64 er5)) [(p2_1, #[.float .f64 0, .float .f64 0]), (w1_.heap.size, #[.float .f64 xal, .float .f64 xah]), ((w.heap.size + 1), #[.float .f64 0, .float .f64 0]), (w.heap.size, #[.float .f64 cl, .float .f64 ch])] _) := Lib.hid M.out
  refine tails_one (T := []) (i := 20) (o := _) rfl (by kernel_rfl) (fun K hK => ?_)
  have kc := (M.out.nth 0 rfl).2.1
  have kf := (M.out.nth 0 rfl).2.2
  replace M : Hid (Own (w.setCell ⟨pb, 0, none⟩ (.int .i64 er5)) [(p2_1, #[.float .f64 xel, .float .f64 xeh]), (w1_.heap.size, #[.float .f64 xal, .float .f64 xah]), ((w.heap.size + 1), #[.float .f64 0, .float .f64 0]), (w.heap.size, #[.float .f64 cl, .float .f64 ch])] _) := Lib.hid (M.out.set2 0 rfl (.float .f64 xel) (.float .f64 xeh))
  go_simp
  refine hK.out _ _ (Or.inr ⟨(M.out.nth 1 rfl).two, (M.out.nth 3 rfl).two⟩) (fun hHeld => ?_)
  clear hK K hHeld kc kf
  refine tails_done (by kernel_rfl) ?_ _
  refine NoPanic.normal ?_
  clear hS
  revert M
  generalize ((v.setCell ⟨p2_1, 0, none⟩ (.float .f64 xel)).setCell ⟨p2_1, 1, none⟩ (.float .f64 xeh)) = W3_
  intro M
  go_upto_region 3 with fail
  replace M := Lib.hid M.out.drew
  refine wp_region_noPanic ?_
  refine tails_region (S := fun w' => (w'.cell? ⟨w1_.heap.size, 0, none⟩ = some (.float .f64 xal) ∧ w'.cell? ⟨w1_.heap.size, 1, none⟩ = some (.float .f64 xah)) ∧ (w'.cell? ⟨p2_1, 0, none⟩ = some (.float .f64 xel) ∧ w'.cell? ⟨p2_1, 1, none⟩ = some (.float .f64 xeh))) [] (by kernel_rfl) ?_ (fun hS => ?_)
  · exact ⟨(M.out.nth 1 rfl).two, (M.out.nth 0 rfl).two⟩
  refine tk (x := ?_) 0 rfl (by kernel_rfl) ⟨by kernel_rfl, ?_⟩ (fun _ _ _ h => h) hS ?_
  rotate_left; focus (intro w hSw; (try dsimp only at hSw); go_simp; try with_reducible rfl)
  refine tk (x := ?_) 1 rfl (by kernel_rfl) ⟨by kernel_rfl, ?_⟩ (fun _ _ _ h => h) hS ?_
  rotate_left; focus (intro w hSw; (try dsimp only at hSw); go_simp; try with_reducible rfl)
  refine tk (x := ?_) 2 rfl (by kernel_rfl) ⟨by kernel_rfl, ?_⟩ (fun _ _ _ h => h) hS ?_
  rotate_left; focus (intro w hSw; (try dsimp only at hSw); go_simp; try with_reducible rfl)
  refine tk (x := ?_) 3 rfl (by kernel_rfl) ⟨by kernel_rfl, ?_⟩ (fun _ _ _ h => h) hS ?_
  rotate_left; focus (intro w hSw; (try dsimp only at hSw); go_simp; try with_reducible rfl)
  refine tk (x := ?_) 4 rfl (by kernel_rfl) ⟨by kernel_rfl, ?_⟩ (fun _ _ _ h => h) hS ?_
  rotate_left; focus (intro w hSw; (try dsimp only at hSw); go_simp; try with_reducible rfl)
  refine tk (x := ?_) 5 rfl (by kernel_rfl) ⟨by kernel_rfl, ?_⟩ (fun _ _ _ h => h) hS ?_
  rotate_left; focus (intro w hSw; (try dsimp only at hSw); go_simp; try with_reducible rfl)
  refine tk (x := ?_) 7 rfl (by kernel_rfl) ⟨by kernel_rfl, ?_⟩ (fun _ _ _ h => h) hS ?_
  rotate_left; focus (intro w hSw; (try dsimp only at hSw); go_simp; try with_reducible rfl)
  refine tk (x := ?_) 8 rfl (by kernel_rfl) ⟨by kernel_rfl, ?_⟩ (fun _ _ _ h => h) hS ?_
  rotate_left; focus (intro w hSw; (try dsimp only at hSw); go_simp; try with_reducible rfl)
  refine tk (x := ?_) 9 rfl (by kernel_rfl) ⟨by kernel_rfl, ?_⟩ (fun _ _ _ h => h) hS ?_
  rotate_left; focus (intro w hSw; (try dsimp only at hSw); go_simp; try with_reducible rfl)
  refine tk (x := ?_) 10 rfl (by kernel_rfl) ⟨by kernel_rfl, ?_⟩ (fun _ _ _ h => h) hS ?_
  rotate_left; focus (intro w hSw; (try dsimp only at hSw); go_simp; try with_reducible rfl)
  refine tk (x := ?_) 11 rfl (by kernel_rfl) ⟨by kernel_rfl, ?_⟩ (fun _ _ _ h => h) hS ?_
  rotate_left; focus (intro w hSw; (try dsimp only at hSw); go_simp; try with_reducible rfl)
  refine tk (x := ?_) 12 rfl (by kernel_rfl) ⟨by kernel_rfl, ?_⟩ (fun _ _ _ h => h) hS ?_
  rotate_left; focus (intro w hSw; (try dsimp only at hSw); go_simp; try with_reducible rfl)
  refine tk (x := ?_) 13 rfl (by kernel_rfl) ⟨by kernel_rfl, ?_⟩ (fun _ _ _ h => h) hS ?_
  rotate_left; focus (intro w hSw; (try dsimp only at hSw); go_simp; try with_reducible rfl)
  refine tk (x := ?_) 14 rfl (by kernel_rfl) ⟨by kernel_rfl, ?_⟩ (fun _ _ _ h => h) hS ?_
  rotate_left; focus (intro w hSw; (try dsimp only at hSw); go_simp; try with_reducible rfl)
  refine tk (x := ?_) 15 rfl (by kernel_rfl) ⟨by kernel_rfl, ?_⟩ (fun _ _ _ h => h) hS ?_
  rotate_left; focus (intro w hSw; (try dsimp only at hSw); go_simp; try with_reducible rfl)
  refine tk (x := ?_) 16 rfl (by kernel_rfl) ⟨by kernel_rfl, ?_⟩ (fun _ _ _ h => h) hS ?_
  rotate_left; focus (intro w hSw; (try dsimp only at hSw); go_simp; try with_reducible rfl)
  refine tk (x := ?_) 17 rfl (by kernel_rfl) ⟨by kernel_rfl, ?_⟩ (fun _ _ _ h => h) hS ?_
  rotate_left; focus (intro w hSw; (try dsimp only at hSw); go_simp; try with_reducible rfl)
  refine tk (x := ?_) 18 rfl (by kernel_rfl) ⟨by kernel_rfl, ?_⟩ (fun _ _ _ h => h) hS ?_
  rotate_left; focus (intro w hSw; (try dsimp only at hSw); go_simp; try with_reducible rfl)
  refine tk (x := ?_) 19 rfl (by kernel_rfl) ⟨by kernel_rfl, ?_⟩ (fun _ _ _ h => h) hS ?_
  rotate_left; focus (intro w hSw; (try dsimp only at hSw); go_simp; try with_reducible rfl)
  refine tk (x := ?_) 20 rfl (by kernel_rfl) ⟨by kernel_rfl, ?_⟩ (fun _ _ _ h => h) hS ?_
  rotate_left; focus (intro w hSw; (try dsimp only at hSw); go_simp; try with_reducible rfl)
  refine tk (x := ?_) 22 rfl (by kernel_rfl) ⟨by kernel_rfl, ?_⟩ (fun _ _ _ h => h) hS ?_
  rotate_left; focus (intro w hSw; (try dsimp only at hSw); go_simp; try with_reducible rfl)
  refine tk (x := ?_) 26 rfl (by kernel_rfl) ⟨by kernel_rfl, ?_⟩ (fun _ _ _ h => h) hS ?_
  rotate_left; focus (intro w hSw; (try dsimp only at hSw); go_simp; try with_reducible rfl)
  conv => arg 9; simp only [Act.put, go_sem]
  refine tails_one (T := []) (i := 6) (o := _) rfl (by kernel_rfl) (fun K hK => ?_)
  go_simp
  refine (d6.out _ (hC.out.at M.out).c0 (hC.out.at M.out).pf).mono ?_
  rintro rr w4_ ⟨rfl, hb⟩
  replace M := Lib.hid (M.out.resrf hC.out.1 hb)
  clear hb
  try go_wp2_with fail
  refine hK.out _ _ (Or.inr ⟨(M.out.nth 1 rfl).two, (M.out.nth 0 rfl).two⟩) (fun hHeld => ?_)
  clear hK K hHeld
  replace hS := (And.intro (M.out.nth 1 rfl).two (M.out.nth 0 rfl).two)
  refine tails_one (T := []) (i := 21) (o := _) rfl (by kernel_rfl) (fun K hK => ?_)
  go_simp
  refine (d7.out _ (hC.out.at M.out)).mono ?_
  rintro rr w5_ ⟨rfl, hb⟩
  replace M := Lib.hid (M.out.resrf hC.out.1 hb)
  clear hb
  try go_wp2_with fail
  refine hK.out _ _ (Or.inr ⟨(M.out.nth 1 rfl).two, (M.out.nth 0 rfl).two⟩) (fun hHeld => ?_)
  clear hK K hHeld
  replace hS := (And.intro (M.out.nth 1 rfl).two (M.out.nth 0 rfl).two)
  refine tails_one (T := []) (i := 23) (o := _) rfl (by kernel_rfl) (fun K hK => ?_)
  go_simp
  refine (d8.out _ (hC.out.at M.out).c0 (hC.out.at M.out).pf).mono ?_
  rintro rr w6_ ⟨rfl, hb⟩
  replace M := Lib.hid (M.out.resrf hC.out.1 hb)
  clear hb
  try go_wp2_with fail
  refine hK.out _ _ (Or.inr ⟨(M.out.nth 1 rfl).two, (M.out.nth 0 rfl).two⟩) (fun hHeld => ?_)
  clear hK K hHeld
  replace hS := (And.intro (M.out.nth 1 rfl).two (M.out.nth 0 rfl).two)
  refine tails_one (T := []) (i := 24) (o := _) rfl (by kernel_rfl) (fun K hK => ?_)
  go_simp
  refine (d9.out _ (hC.out.at M.out).c0 (hC.out.at M.out).pf).mono ?_
  rintro rr w7_ ⟨rfl, hb⟩
  replace M := Lib.hid (M.out.resrf hC.out.1 hb)
  clear hb
  try go_wp2_with fail
  refine hK.out _ _ (Or.inr ⟨(M.out.nth 1 rfl).two, (M.out.nth 0 rfl).two⟩) (fun hHeld => ?_)
  clear hK K hHeld
  replace hS := (And.intro (M.out.nth 1 rfl).two (M.out.nth 0 rfl).two)
  refine tails_one (T := []) (i := 25) (o := _) rfl (by kernel_rfl) (fun K hK => ?_)
  go_simp
  refine (d10.out _ (hC.out.at M.out).c0 (hC.out.at M.out).pf).mono ?_
  rintro rr w8_ ⟨rfl, hb⟩
  replace M := Lib.hid (M.out.resrf hC.out.1 hb)
  clear hb
  try go_wp2_with fail
  refine hK.out _ _ (Or.inr ⟨(M.out.nth 1 rfl).two, (M.out.nth 0 rfl).two⟩) (fun hHeld => ?_)
  clear hK K hHeld
  replace hS := (And.intro (M.out.nth 1 rfl).two (M.out.nth 0 rfl).two)
  refine tails_one (T := []) (i := 27) (o := _) rfl (by kernel_rfl) (fun K hK => ?_)
  go_simp
  refine (d11.out _ (hC.out.at M.out).c0 (hC.out.at M.out).pf).mono ?_
  rintro rr w9_ ⟨rfl, hb⟩
  replace M := Lib.hid (M.out.resrf hC.out.1 hb)
  clear hb
  try go_wp2_with fail
  refine hK.out _ _ (Or.inr ⟨(M.out.nth 1 rfl).two, (M.out.nth 0 rfl).two⟩) (fun hHeld => ?_)
  clear hK K hHeld
  replace hS := (And.intro (M.out.nth 1 rfl).two (M.out.nth 0 rfl).two)
  refine tails_one (T := []) (i := 28) (o := _) rfl (by kernel_rfl) (fun K hK => ?_)
  go_simp
  refine (d12.out _ (hC.out.at M.out).c0 (hC.out.at M.out).pf).mono ?_
  rintro rr w10_ ⟨rfl, hb⟩
  replace M := Lib.hid (M.out.resrf hC.out.1 hb)
  clear hb
  try go_wp2_with fail
  refine hK.out _ _ (Or.inr ⟨(M.out.nth 1 rfl).two, (M.out.nth 0 rfl).two⟩) (fun hHeld => ?_)
  clear hK K hHeld
  replace hS := (And.intro (M.out.nth 1 rfl).two (M.out.nth 0 rfl).two)
  refine tails_one (T := []) (i := 29) (o := _) rfl (by kernel_rfl) (fun K hK => ?_)
  go_simp
  refine (c13.out _).mono ?_
  rintro rr w11_ ⟨rfl, hb⟩
  replace M := Lib.hid (M.out.below hb)
  clear hb
  try go_wp2_with fail
  refine hK.out _ _ (Or.inr ⟨(M.out.nth 1 rfl).two, (M.out.nth 0 rfl).two⟩) (fun hHeld => ?_)
  clear hK K hHeld
  replace hS := (And.intro (M.out.nth 1 rfl).two (M.out.nth 0 rfl).two)
  refine tails_one (T := []) (i := 30) (o := _) rfl (by kernel_rfl) (fun K hK => ?_)
  have kc := (M.out.nth 2 rfl).2.1
  have kf := (M.out.nth 2 rfl).2.2
  replace M : Hid (Own (w.setCell ⟨pb, 0, none⟩ (.int .i64 er12)) [(p2_1, #[.float .f64 xel, .float .f64 xeh]), (w1_.heap.size, #[.float .f64 xal, .float .f64 xah]), ((w.heap.size + 1), #[.float .f64 xml, .float .f64 xmh]), (w.heap.size, #[.float .f64 cl, .float .f64 ch])] _) := Lib.hid (M.out.set2 2 rfl (.float .f64 xml) (.float .f64 xmh))
  go_simp
  refine hK.out _ _ (Or.inr ⟨(M.out.nth 1 rfl).two, (M.out.nth 0 rfl).two⟩) (fun hHeld => ?_)
  clear hK K hHeld kc kf
  refine tails_done (by kernel_rfl) ?_ _
  refine NoPanic.normal ?_
  clear hS
  revert M
  generalize ((w11_.setCell ⟨(w.heap.size + 1), 0, none⟩ (.float .f64 xml)).setCell ⟨(w.heap.size + 1), 1, none⟩ (.float .f64 xmh)) = W12_
  intro M
  go_wp2
  obtain ⟨f1, f2⟩ := (M.out.nth 2 rfl).two
  exact bodyPost_ret (v := .agg #[.float .f64 xml, .float .f64 xmh]) (by simp [results, Tryz.results67, go_sem, f1, f2]) rfl ⟨rfl, M.out.put⟩

set_option maxRecDepth 100000 in
set_option maxHeartbeats 16000000 in
theorem gdist_walk {al ah il ih ol oh xal xah xbl xbh xcl xch xdl xdh xel xeh : Nat} {er0 er1 er3 er4 er5 er6 : Int} {pb : Nat} (w : World) (hC : Hid (Has1 w (pb, #[.int .i64 er0, .float .f64 al, .float .f64 ah, .float .f64 il, .float .f64 ih, .float .f64 ol, .float .f64 oh])))
    (d1 : Hid (∀ v : World, Has1 v (pb, #[.int .i64 er0, .float .f64 al, .float .f64 ah, .float .f64 il, .float .f64 ih, .float .f64 ol, .float .f64 oh]) → Calls Tryz.prog 64 #[.pointer (some ⟨pb, 0, none⟩)] v fun r w' => r = .returned (.agg #[.float .f64 xal, .float .f64 xah]) ∧ Put ⟨pb, 0, none⟩ (.int .i64 er1) v w'))
    (c2 : Hid (∀ w, Calls Tryz.prog 65 #[] w fun r w' => r = .returned (.agg #[.float .f64 4614256656552045848, .float .f64 4614256656552045849]) ∧ Below w.heap.size w w'))
    (d3 : Hid (∀ v : World, Has1 v (pb, #[.int .i64 er1, .float .f64 al, .float .f64 ah, .float .f64 il, .float .f64 ih, .float .f64 ol, .float .f64 oh]) → Calls Tryz.prog 66 #[.pointer (some ⟨pb, 0, none⟩)] v fun r w' => r = .returned (.agg #[.float .f64 xbl, .float .f64 xbh]) ∧ Put ⟨pb, 0, none⟩ (.int .i64 er3) v w'))
    (d4 : Hid (∀ v : World, v.cell? ⟨pb, 0, none⟩ = some (.int .i64 er3) → v.frozen? ⟨pb, 0, none⟩ = false → Calls Tryz.prog 61 #[.pointer (some ⟨pb, 0, none⟩), .agg #[.float .f64 xbl, .float .f64 xbh]] v fun r w' => r = .returned (.agg #[.float .f64 xcl, .float .f64 xch]) ∧ Put ⟨pb, 0, none⟩ (.int .i64 er4) v w'))
    (d5 : Hid (∀ v : World, v.cell? ⟨pb, 0, none⟩ = some (.int .i64 er4) → v.frozen? ⟨pb, 0, none⟩ = false → Calls Tryz.prog 23 #[.pointer (some ⟨pb, 0, none⟩), .agg #[.float .f64 4614256656552045848, .float .f64 4614256656552045849], .agg #[.float .f64 xcl, .float .f64 xch]] v fun r w' => r = .returned (.agg #[.float .f64 xdl, .float .f64 xdh]) ∧ Put ⟨pb, 0, none⟩ (.int .i64 er5) v w'))
    (d6 : Hid (∀ v : World, v.cell? ⟨pb, 0, none⟩ = some (.int .i64 er5) → v.frozen? ⟨pb, 0, none⟩ = false → Calls Tryz.prog 22 #[.pointer (some ⟨pb, 0, none⟩), .agg #[.float .f64 xal, .float .f64 xah], .agg #[.float .f64 xdl, .float .f64 xdh]] v fun r w' => r = .returned (.agg #[.float .f64 xel, .float .f64 xeh]) ∧ Put ⟨pb, 0, none⟩ (.int .i64 er6) v w')) :
    Calls Tryz.prog 40 #[.pointer (some ⟨pb, 0, none⟩)] w fun r w' => r = .returned (.agg #[.float .f64 xel, .float .f64 xeh]) ∧ Put ⟨pb, 0, none⟩ (.int .i64 er6) w w' := by
  have M0 := Own.srf (x := .int .i64 er0) hC.out rfl
  have M := Lib.hid (M0.made #[.float .f64 0, .float .f64 0] 27)
  clear M0
  have eqF := eq_floats
  go_enter Tryz.func40, Tryz.ntmps40
  go_upto_region 1 with fail
  replace M := Lib.hid M.out.drew
  revert M
  generalize (w.alloc (.cells #[.float .f64 0, .float .f64 0] 27)) = W0_
  intro M
  refine wp_region_noPanic ?_
  refine tails_region (S := fun w' => True) [] (by kernel_rfl) ?_ (fun hS => ?_)
  · exact trivial
  refine tk (x := ?_) 0 rfl (by kernel_rfl) ⟨by kernel_rfl, ?_⟩ (fun _ _ _ h => h) hS ?_
  rotate_left; focus (intro w hSw; (try dsimp only at hSw); go_simp; try with_reducible rfl)
  refine tk (x := ?_) 1 rfl (by kernel_rfl) ⟨by kernel_rfl, ?_⟩ (fun _ _ _ h => h) hS ?_
  rotate_left; focus (intro w hSw; (try dsimp only at hSw); go_simp; try with_reducible rfl)
  refine tk (x := ?_) 2 rfl (by kernel_rfl) ⟨by kernel_rfl, ?_⟩ (fun _ _ _ h => h) hS ?_
  rotate_left; focus (intro w hSw; (try dsimp only at hSw); go_simp; try with_reducible rfl)
  refine tk (x := ?_) 3 rfl (by kernel_rfl) ⟨by kernel_rfl, ?_⟩ (fun _ _ _ h => h) hS ?_
  rotate_left; focus (intro w hSw; (try dsimp only at hSw); go_simp; try with_reducible rfl)
  refine tk (x := ?_) 5 rfl (by kernel_rfl) ⟨by kernel_rfl, ?_⟩ (fun _ _ _ h => h) hS ?_
  rotate_left; focus (intro w hSw; (try dsimp only at hSw); go_simp; try with_reducible rfl)
  refine tk (x := ?_) 6 rfl (by kernel_rfl) ⟨by kernel_rfl, ?_⟩ (fun _ _ _ h => h) hS ?_
  rotate_left; focus (intro w hSw; (try dsimp only at hSw); go_simp; try with_reducible rfl)
  refine tk (x := ?_) 7 rfl (by kernel_rfl) ⟨by kernel_rfl, ?_⟩ (fun _ _ _ h => h) hS ?_
  rotate_left; focus (intro w hSw; (try dsimp only at hSw); go_simp; try with_reducible rfl)
  refine tk (x := ?_) 9 rfl (by kernel_rfl) ⟨by kernel_rfl, ?_⟩ (fun _ _ _ h => h) hS ?_
  rotate_left; focus (intro w hSw; (try dsimp only at hSw); go_simp; try with_reducible rfl)
  refine tk (x := ?_) 10 rfl (by kernel_rfl) ⟨by kernel_rfl, ?_⟩ (fun _ _ _ h => h) hS ?_
  rotate_left; focus (intro w hSw; (try dsimp only at hSw); go_simp; try with_reducible rfl)
  refine tk (x := ?_) 11 rfl (by kernel_rfl) ⟨by kernel_rfl, ?_⟩ (fun _ _ _ h => h) hS ?_
  rotate_left; focus (intro w hSw; (try dsimp only at hSw); go_simp; try with_reducible rfl)
  refine tk (x := ?_) 12 rfl (by kernel_rfl) ⟨by kernel_rfl, ?_⟩ (fun _ _ _ h => h) hS ?_
  rotate_left; focus (intro w hSw; (try dsimp only at hSw); go_simp; try with_reducible rfl)
  conv => arg 9; simp only [Act.put, go_sem]
  refine tails_one (T := []) (i := 4) (o := _) rfl (by kernel_rfl) (fun K hK => ?_)
  go_simp
  refine (d1.out _ (hC.out.at M.out)).mono ?_
  rintro rr w1_ ⟨rfl, hb⟩
  replace M := Lib.hid (M.out.resrf hC.out.1 hb)
  clear hb
  try go_wp2_with fail
  refine hK.out _ _ (Or.inr trivial) (fun hHeld => ?_)
  clear hK K hHeld
  refine tails_one (T := []) (i := 8) (o := _) rfl (by kernel_rfl) (fun K hK => ?_)
  go_simp
  refine (c2.out _).mono ?_
  rintro rr w2_ ⟨rfl, hb⟩
  replace M := Lib.hid (M.out.below hb)
  clear hb
  try go_wp2_with fail
  refine hK.out _ _ (Or.inr trivial) (fun hHeld => ?_)
  clear hK K hHeld
  refine tails_one (T := []) (i := 13) (o := _) rfl (by kernel_rfl) (fun K hK => ?_)
  go_simp
  refine (d3.out _ (hC.out.at M.out)).mono ?_
  rintro rr w3_ ⟨rfl, hb⟩
  replace M := Lib.hid (M.out.resrf hC.out.1 hb)
  clear hb
  try go_wp2_with fail
  refine hK.out _ _ (Or.inr trivial) (fun hHeld => ?_)
  clear hK K hHeld
  refine tails_one (T := []) (i := 14) (o := _) rfl (by kernel_rfl) (fun K hK => ?_)
  go_simp
  refine (d4.out _ (hC.out.at M.out).c0 (hC.out.at M.out).pf).mono ?_
  rintro rr w4_ ⟨rfl, hb⟩
  replace M := Lib.hid (M.out.resrf hC.out.1 hb)
  clear hb
  try go_wp2_with fail
  refine hK.out _ _ (Or.inr trivial) (fun hHeld => ?_)
  clear hK K hHeld
  refine tails_one (T := []) (i := 15) (o := _) rfl (by kernel_rfl) (fun K hK => ?_)
  go_simp
  refine (d5.out _ (hC.out.at M.out).c0 (hC.out.at M.out).pf).mono ?_
  rintro rr w5_ ⟨rfl, hb⟩
  replace M := Lib.hid (M.out.resrf hC.out.1 hb)
  clear hb
  try go_wp2_with fail
  refine hK.out _ _ (Or.inr trivial) (fun hHeld => ?_)
  clear hK K hHeld
  refine tails_one (T := []) (i := 16) (o := _) rfl (by kernel_rfl) (fun K hK => ?_)
  go_simp
  refine (d6.out _ (hC.out.at M.out).c0 (hC.out.at M.out).pf).mono ?_
  rintro rr w6_ ⟨rfl, hb⟩
  replace M := Lib.hid (M.out.resrf hC.out.1 hb)
  clear hb
  try go_wp2_with fail
  refine hK.out _ _ (Or.inr trivial) (fun hHeld => ?_)
  clear hK K hHeld
  refine tails_one (T := []) (i := 17) (o := _) rfl (by kernel_rfl) (fun K hK => ?_)
  have kc := (M.out.nth 0 rfl).2.1
  have kf := (M.out.nth 0 rfl).2.2
  replace M : Hid (Own (w.setCell ⟨pb, 0, none⟩ (.int .i64 er6)) [(w.heap.size, #[.float .f64 xel, .float .f64 xeh])] _) := Lib.hid (M.out.set2 0 rfl (.float .f64 xel) (.float .f64 xeh))
  go_simp
  refine hK.out _ _ (Or.inr trivial) (fun hHeld => ?_)
  clear hK K hHeld kc kf
  refine tails_done (by kernel_rfl) ?_ _
  refine NoPanic.normal ?_
  clear hS
  revert M
  generalize ((w6_.setCell ⟨w.heap.size, 0, none⟩ (.float .f64 xel)).setCell ⟨w.heap.size, 1, none⟩ (.float .f64 xeh)) = W7_
  intro M
  go_wp2
  obtain ⟨f1, f2⟩ := (M.out.nth 0 rfl).two
  exact bodyPost_ret (v := .agg #[.float .f64 xel, .float .f64 xeh]) (by simp [results, Tryz.results40, go_sem, f1, f2]) rfl ⟨rfl, M.out.put⟩

set_option maxRecDepth 100000 in
set_option maxHeartbeats 16000000 in
theorem gvisible_walk {al ah il ih ol oh xal xah xbl xbh xcl xch xdl xdh xel xeh : Nat} {er0 er1 er2 er3 er4 er5 : Int} {pb : Nat} (w : World) (hC : Hid (Has1 w (pb, #[.int .i64 er0, .float .f64 al, .float .f64 ah, .float .f64 il, .float .f64 ih, .float .f64 ol, .float .f64 oh])))
    (d1 : Hid (∀ v : World, v.cell? ⟨pb, 0, none⟩ = some (.int .i64 er0) → v.frozen? ⟨pb, 0, none⟩ = false → Calls Tryz.prog 21 #[.pointer (some ⟨pb, 0, none⟩), .float .f64 4607182418800017408] v fun r w' => r = .returned (.agg #[.float .f64 xal, .float .f64 xah]) ∧ Put ⟨pb, 0, none⟩ (.int .i64 er1) v w'))
    (d2 : Hid (∀ v : World, v.cell? ⟨pb, 0, none⟩ = some (.int .i64 er1) → v.frozen? ⟨pb, 0, none⟩ = false → Calls Tryz.prog 21 #[.pointer (some ⟨pb, 0, none⟩), .float .f64 4607182418800017408] v fun r w' => r = .returned (.agg #[.float .f64 xbl, .float .f64 xbh]) ∧ Put ⟨pb, 0, none⟩ (.int .i64 er2) v w'))
    (d3 : Hid (∀ v : World, Has1 v (pb, #[.int .i64 er2, .float .f64 al, .float .f64 ah, .float .f64 il, .float .f64 ih, .float .f64 ol, .float .f64 oh]) → Calls Tryz.prog 67 #[.pointer (some ⟨pb, 0, none⟩), .agg #[.float .f64 ol, .float .f64 oh]] v fun r w' => r = .returned (.agg #[.float .f64 xcl, .float .f64 xch]) ∧ Put ⟨pb, 0, none⟩ (.int .i64 er3) v w'))
    (d4 : Hid (∀ v : World, v.cell? ⟨pb, 0, none⟩ = some (.int .i64 er3) → v.frozen? ⟨pb, 0, none⟩ = false → Calls Tryz.prog 60 #[.pointer (some ⟨pb, 0, none⟩), .agg #[.float .f64 xbl, .float .f64 xbh], .agg #[.float .f64 xcl, .float .f64 xch]] v fun r w' => r = .returned (.agg #[.float .f64 xdl, .float .f64 xdh]) ∧ Put ⟨pb, 0, none⟩ (.int .i64 er4) v w'))
    (d5 : Hid (∀ v : World, v.cell? ⟨pb, 0, none⟩ = some (.int .i64 er4) → v.frozen? ⟨pb, 0, none⟩ = false → Calls Tryz.prog 22 #[.pointer (some ⟨pb, 0, none⟩), .agg #[.float .f64 xal, .float .f64 xah], .agg #[.float .f64 xdl, .float .f64 xdh]] v fun r w' => r = .returned (.agg #[.float .f64 xel, .float .f64 xeh]) ∧ Put ⟨pb, 0, none⟩ (.int .i64 er5) v w')) :
    Calls Tryz.prog 42 #[.pointer (some ⟨pb, 0, none⟩)] w fun r w' => r = .returned (.agg #[.float .f64 xel, .float .f64 xeh]) ∧ Put ⟨pb, 0, none⟩ (.int .i64 er5) w w' := by
  have M0 := Own.srf (x := .int .i64 er0) hC.out rfl
  have M := Lib.hid (M0.made #[.float .f64 0, .float .f64 0] 27)
  clear M0
  have eqF := eq_floats
  go_enter Tryz.func42, Tryz.ntmps42
  go_upto_region 1 with fail
  replace M := Lib.hid M.out.drew
  revert M
  generalize (w.alloc (.cells #[.float .f64 0, .float .f64 0] 27)) = W0_
  intro M
  refine wp_region_noPanic ?_
  refine tails_region (S := fun w' => (w'.cell? ⟨pb, 1, none⟩ = some (.float .f64 al) ∧ w'.cell? ⟨pb, 2, none⟩ = some (.float .f64 ah) ∧ w'.cell? ⟨pb, 3, none⟩ = some (.float .f64 il) ∧ w'.cell? ⟨pb, 4, none⟩ = some (.float .f64 ih) ∧ w'.cell? ⟨pb, 5, none⟩ = some (.float .f64 ol) ∧ w'.cell? ⟨pb, 6, none⟩ = some (.float .f64 oh))) [] (by kernel_rfl) ?_ (fun hS => ?_)
  · exact (hC.out.at M.out).but0
  refine tk (x := ?_) 0 rfl (by kernel_rfl) ⟨by kernel_rfl, ?_⟩ (fun _ _ _ h => h) hS ?_
  rotate_left; focus (intro w hSw; (try dsimp only at hSw); go_simp; try with_reducible rfl)
  refine tk (x := ?_) 1 rfl (by kernel_rfl) ⟨by kernel_rfl, ?_⟩ (fun _ _ _ h => h) hS ?_
  rotate_left; focus (intro w hSw; (try dsimp only at hSw); go_simp; try with_reducible rfl)
  refine tk (x := ?_) 2 rfl (by kernel_rfl) ⟨by kernel_rfl, ?_⟩ (fun _ _ _ h => h) hS ?_
  rotate_left; focus (intro w hSw; (try dsimp only at hSw); go_simp; try with_reducible rfl)
  refine tk (x := ?_) 3 rfl (by kernel_rfl) ⟨by kernel_rfl, ?_⟩ (fun _ _ _ h => h) hS ?_
  rotate_left; focus (intro w hSw; (try dsimp only at hSw); go_simp; try with_reducible rfl)
  refine tk (x := ?_) 4 rfl (by kernel_rfl) ⟨by kernel_rfl, ?_⟩ (fun _ _ _ h => h) hS ?_
  rotate_left; focus (intro w hSw; (try dsimp only at hSw); go_simp; try with_reducible rfl)
  refine tk (x := ?_) 5 rfl (by kernel_rfl) ⟨by kernel_rfl, ?_⟩ (fun _ _ _ h => h) hS ?_
  rotate_left; focus (intro w hSw; (try dsimp only at hSw); go_simp; try with_reducible rfl)
  refine tk (x := ?_) 7 rfl (by kernel_rfl) ⟨by kernel_rfl, ?_⟩ (fun _ _ _ h => h) hS ?_
  rotate_left; focus (intro w hSw; (try dsimp only at hSw); go_simp; try with_reducible rfl)
  refine tk (x := ?_) 8 rfl (by kernel_rfl) ⟨by kernel_rfl, ?_⟩ (fun _ _ _ h => h) hS ?_
  rotate_left; focus (intro w hSw; (try dsimp only at hSw); go_simp; try with_reducible rfl)
  refine tk (x := ?_) 9 rfl (by kernel_rfl) ⟨by kernel_rfl, ?_⟩ (fun _ _ _ h => h) hS ?_
  rotate_left; focus (intro w hSw; (try dsimp only at hSw); go_simp; try with_reducible rfl)
  refine tk (x := ?_) 10 rfl (by kernel_rfl) ⟨by kernel_rfl, ?_⟩ (fun _ _ _ h => h) hS ?_
  rotate_left; focus (intro w hSw; (try dsimp only at hSw); go_simp; try with_reducible rfl)
  refine tk (x := ?_) 11 rfl (by kernel_rfl) ⟨by kernel_rfl, ?_⟩ (fun _ _ _ h => h) hS ?_
  rotate_left; focus (intro w hSw; (try dsimp only at hSw); go_simp; try with_reducible rfl)
  refine tk (x := ?_) 12 rfl (by kernel_rfl) ⟨by kernel_rfl, ?_⟩ (fun _ _ _ h => h) hS ?_
  rotate_left; focus (intro w hSw; (try dsimp only at hSw); go_simp; try with_reducible rfl)
  refine tk (x := ?_) 14 rfl (by kernel_rfl) ⟨by kernel_rfl, ?_⟩ (fun _ _ _ h => h) hS ?_
  rotate_left; focus (intro w hSw; (try dsimp only at hSw); go_simp; try with_reducible rfl)
  refine tk (x := ?_) 15 rfl (by kernel_rfl) ⟨by kernel_rfl, ?_⟩ (fun _ _ _ h => h) hS ?_
  rotate_left; focus (intro w hSw; (try dsimp only at hSw); go_simp; try with_reducible rfl)
  refine tk (x := ?_) 16 rfl (by kernel_rfl) ⟨by kernel_rfl, ?_⟩ (fun _ _ _ h => h) hS ?_
  rotate_left; focus (intro w hSw; (try dsimp only at hSw); go_simp; try with_reducible rfl)
  refine tk (x := ?_) 17 rfl (by kernel_rfl) ⟨by kernel_rfl, ?_⟩ (fun _ _ _ h => h) hS ?_
  rotate_left; focus (intro w hSw; (try dsimp only at hSw); go_simp; try with_reducible rfl)
  refine tk (x := ?_) 18 rfl (by kernel_rfl) ⟨by kernel_rfl, ?_⟩ (fun _ _ _ h => h) hS ?_
  rotate_left; focus (intro w hSw; (try dsimp only at hSw); go_simp; try with_reducible rfl)
  conv => arg 9; simp only [Act.put, go_sem]
  refine tails_one (T := []) (i := 6) (o := _) rfl (by kernel_rfl) (fun K hK => ?_)
  go_simp
  refine (d1.out _ (hC.out.at M.out).c0 (hC.out.at M.out).pf).mono ?_
  rintro rr w1_ ⟨rfl, hb⟩
  replace M := Lib.hid (M.out.resrf hC.out.1 hb)
  clear hb
  try go_wp2_with fail
  refine hK.out _ _ (Or.inr (hC.out.at M.out).but0) (fun hHeld => ?_)
  clear hK K hHeld
  replace hS := (hC.out.at M.out).but0
  refine tails_one (T := []) (i := 13) (o := _) rfl (by kernel_rfl) (fun K hK => ?_)
  go_simp
  refine (d2.out _ (hC.out.at M.out).c0 (hC.out.at M.out).pf).mono ?_
  rintro rr w2_ ⟨rfl, hb⟩
  replace M := Lib.hid (M.out.resrf hC.out.1 hb)
  clear hb
  try go_wp2_with fail
  refine hK.out _ _ (Or.inr (hC.out.at M.out).but0) (fun hHeld => ?_)
  clear hK K hHeld
  replace hS := (hC.out.at M.out).but0
  refine tails_one (T := []) (i := 19) (o := _) rfl (by kernel_rfl) (fun K hK => ?_)
  go_simp
  refine (d3.out _ (hC.out.at M.out)).mono ?_
  rintro rr w3_ ⟨rfl, hb⟩
  replace M := Lib.hid (M.out.resrf hC.out.1 hb)
  clear hb
  try go_wp2_with fail
  refine hK.out _ _ (Or.inr (hC.out.at M.out).but0) (fun hHeld => ?_)
  clear hK K hHeld
  replace hS := (hC.out.at M.out).but0
  refine tails_one (T := []) (i := 20) (o := _) rfl (by kernel_rfl) (fun K hK => ?_)
  go_simp
  refine (d4.out _ (hC.out.at M.out).c0 (hC.out.at M.out).pf).mono ?_
  rintro rr w4_ ⟨rfl, hb⟩
  replace M := Lib.hid (M.out.resrf hC.out.1 hb)
  clear hb
  try go_wp2_with fail
  refine hK.out _ _ (Or.inr (hC.out.at M.out).but0) (fun hHeld => ?_)
  clear hK K hHeld
  replace hS := (hC.out.at M.out).but0
  refine tails_one (T := []) (i := 21) (o := _) rfl (by kernel_rfl) (fun K hK => ?_)
  go_simp
  refine (d5.out _ (hC.out.at M.out).c0 (hC.out.at M.out).pf).mono ?_
  rintro rr w5_ ⟨rfl, hb⟩
  replace M := Lib.hid (M.out.resrf hC.out.1 hb)
  clear hb
  try go_wp2_with fail
  refine hK.out _ _ (Or.inr (hC.out.at M.out).but0) (fun hHeld => ?_)
  clear hK K hHeld
  replace hS := (hC.out.at M.out).but0
  refine tails_one (T := []) (i := 22) (o := _) rfl (by kernel_rfl) (fun K hK => ?_)
  have kc := (M.out.nth 0 rfl).2.1
  have kf := (M.out.nth 0 rfl).2.2
  replace M : Hid (Own (w.setCell ⟨pb, 0, none⟩ (.int .i64 er5)) [(w.heap.size, #[.float .f64 xel, .float .f64 xeh])] _) := Lib.hid (M.out.set2 0 rfl (.float .f64 xel) (.float .f64 xeh))
  go_simp
  refine hK.out _ _ (Or.inr (hC.out.at M.out).but0) (fun hHeld => ?_)
  clear hK K hHeld kc kf
  refine tails_done (by kernel_rfl) ?_ _
  refine NoPanic.normal ?_
  clear hS
  revert M
  generalize ((w5_.setCell ⟨w.heap.size, 0, none⟩ (.float .f64 xel)).setCell ⟨w.heap.size, 1, none⟩ (.float .f64 xeh)) = W6_
  intro M
  go_wp2
  obtain ⟨f1, f2⟩ := (M.out.nth 0 rfl).two
  exact bodyPost_ret (v := .agg #[.float .f64 xel, .float .f64 xeh]) (by simp [results, Tryz.results42, go_sem, f1, f2]) rfl ⟨rfl, M.out.put⟩

set_option maxRecDepth 100000 in
set_option maxHeartbeats 16000000 in
theorem gtwo_walk {al ah il ih ol oh xal xah xbl xbh xcl xch xdl xdh xel xeh xfl xfh xgl xgh : Nat} {er0 er1 er2 er3 er4 er5 er6 er7 : Int} {pb : Nat} (w : World) (hC : Hid (Has1 w (pb, #[.int .i64 er0, .float .f64 al, .float .f64 ah, .float .f64 il, .float .f64 ih, .float .f64 ol, .float .f64 oh])))
    (d1 : Hid (∀ v : World, v.cell? ⟨pb, 0, none⟩ = some (.int .i64 er0) → v.frozen? ⟨pb, 0, none⟩ = false → Calls Tryz.prog 21 #[.pointer (some ⟨pb, 0, none⟩), .float .f64 4607182418800017408] v fun r w' => r = .returned (.agg #[.float .f64 xal, .float .f64 xah]) ∧ Put ⟨pb, 0, none⟩ (.int .i64 er1) v w'))
    (d2 : Hid (∀ v : World, v.cell? ⟨pb, 0, none⟩ = some (.int .i64 er1) → v.frozen? ⟨pb, 0, none⟩ = false → Calls Tryz.prog 21 #[.pointer (some ⟨pb, 0, none⟩), .float .f64 4607182418800017408] v fun r w' => r = .returned (.agg #[.float .f64 xbl, .float .f64 xbh]) ∧ Put ⟨pb, 0, none⟩ (.int .i64 er2) v w'))
    (d3 : Hid (∀ v : World, Has1 v (pb, #[.int .i64 er2, .float .f64 al, .float .f64 ah, .float .f64 il, .float .f64 ih, .float .f64 ol, .float .f64 oh]) → Calls Tryz.prog 67 #[.pointer (some ⟨pb, 0, none⟩), .agg #[.float .f64 il, .float .f64 ih]] v fun r w' => r = .returned (.agg #[.float .f64 xcl, .float .f64 xch]) ∧ Put ⟨pb, 0, none⟩ (.int .i64 er3) v w'))
    (d4 : Hid (∀ v : World, v.cell? ⟨pb, 0, none⟩ = some (.int .i64 er3) → v.frozen? ⟨pb, 0, none⟩ = false → Calls Tryz.prog 60 #[.pointer (some ⟨pb, 0, none⟩), .agg #[.float .f64 xbl, .float .f64 xbh], .agg #[.float .f64 xcl, .float .f64 xch]] v fun r w' => r = .returned (.agg #[.float .f64 xdl, .float .f64 xdh]) ∧ Put ⟨pb, 0, none⟩ (.int .i64 er4) v w'))
    (d5 : Hid (∀ v : World, Has1 v (pb, #[.int .i64 er4, .float .f64 al, .float .f64 ah, .float .f64 il, .float .f64 ih, .float .f64 ol, .float .f64 oh]) → Calls Tryz.prog 67 #[.pointer (some ⟨pb, 0, none⟩), .agg #[.float .f64 ol, .float .f64 oh]] v fun r w' => r = .returned (.agg #[.float .f64 xel, .float .f64 xeh]) ∧ Put ⟨pb, 0, none⟩ (.int .i64 er5) v w'))
    (d6 : Hid (∀ v : World, v.cell? ⟨pb, 0, none⟩ = some (.int .i64 er5) → v.frozen? ⟨pb, 0, none⟩ = false → Calls Tryz.prog 60 #[.pointer (some ⟨pb, 0, none⟩), .agg #[.float .f64 xdl, .float .f64 xdh], .agg #[.float .f64 xel, .float .f64 xeh]] v fun r w' => r = .returned (.agg #[.float .f64 xfl, .float .f64 xfh]) ∧ Put ⟨pb, 0, none⟩ (.int .i64 er6) v w'))
    (d7 : Hid (∀ v : World, v.cell? ⟨pb, 0, none⟩ = some (.int .i64 er6) → v.frozen? ⟨pb, 0, none⟩ = false → Calls Tryz.prog 22 #[.pointer (some ⟨pb, 0, none⟩), .agg #[.float .f64 xal, .float .f64 xah], .agg #[.float .f64 xfl, .float .f64 xfh]] v fun r w' => r = .returned (.agg #[.float .f64 xgl, .float .f64 xgh]) ∧ Put ⟨pb, 0, none⟩ (.int .i64 er7) v w')) :
    Calls Tryz.prog 41 #[.pointer (some ⟨pb, 0, none⟩)] w fun r w' => r = .returned (.agg #[.float .f64 xgl, .float .f64 xgh]) ∧ Put ⟨pb, 0, none⟩ (.int .i64 er7) w w' := by
  have M0 := Own.srf (x := .int .i64 er0) hC.out rfl
  have M := Lib.hid (M0.made #[.float .f64 0, .float .f64 0] 27)
  clear M0
  have eqF := eq_floats
  go_enter Tryz.func41, Tryz.ntmps41
  go_upto_region 1 with fail
  replace M := Lib.hid M.out.drew
  revert M
  generalize (w.alloc (.cells #[.float .f64 0, .float .f64 0] 27)) = W0_
  intro M
  refine wp_region_noPanic ?_
  refine tails_region (S := fun w' => (w'.cell? ⟨pb, 1, none⟩ = some (.float .f64 al) ∧ w'.cell? ⟨pb, 2, none⟩ = some (.float .f64 ah) ∧ w'.cell? ⟨pb, 3, none⟩ = some (.float .f64 il) ∧ w'.cell? ⟨pb, 4, none⟩ = some (.float .f64 ih) ∧ w'.cell? ⟨pb, 5, none⟩ = some (.float .f64 ol) ∧ w'.cell? ⟨pb, 6, none⟩ = some (.float .f64 oh))) [] (by kernel_rfl) ?_ (fun hS => ?_)
  · exact (hC.out.at M.out).but0
  refine tk (x := ?_) 0 rfl (by kernel_rfl) ⟨by kernel_rfl, ?_⟩ (fun _ _ _ h => h) hS ?_
  rotate_left; focus (intro w hSw; (try dsimp only at hSw); go_simp; try with_reducible rfl)
  refine tk (x := ?_) 1 rfl (by kernel_rfl) ⟨by kernel_rfl, ?_⟩ (fun _ _ _ h => h) hS ?_
  rotate_left; focus (intro w hSw; (try dsimp only at hSw); go_simp; try with_reducible rfl)
  refine tk (x := ?_) 2 rfl (by kernel_rfl) ⟨by kernel_rfl, ?_⟩ (fun _ _ _ h => h) hS ?_
  rotate_left; focus (intro w hSw; (try dsimp only at hSw); go_simp; try with_reducible rfl)
  refine tk (x := ?_) 3 rfl (by kernel_rfl) ⟨by kernel_rfl, ?_⟩ (fun _ _ _ h => h) hS ?_
  rotate_left; focus (intro w hSw; (try dsimp only at hSw); go_simp; try with_reducible rfl)
  refine tk (x := ?_) 4 rfl (by kernel_rfl) ⟨by kernel_rfl, ?_⟩ (fun _ _ _ h => h) hS ?_
  rotate_left; focus (intro w hSw; (try dsimp only at hSw); go_simp; try with_reducible rfl)
  refine tk (x := ?_) 5 rfl (by kernel_rfl) ⟨by kernel_rfl, ?_⟩ (fun _ _ _ h => h) hS ?_
  rotate_left; focus (intro w hSw; (try dsimp only at hSw); go_simp; try with_reducible rfl)
  refine tk (x := ?_) 7 rfl (by kernel_rfl) ⟨by kernel_rfl, ?_⟩ (fun _ _ _ h => h) hS ?_
  rotate_left; focus (intro w hSw; (try dsimp only at hSw); go_simp; try with_reducible rfl)
  refine tk (x := ?_) 8 rfl (by kernel_rfl) ⟨by kernel_rfl, ?_⟩ (fun _ _ _ h => h) hS ?_
  rotate_left; focus (intro w hSw; (try dsimp only at hSw); go_simp; try with_reducible rfl)
  refine tk (x := ?_) 9 rfl (by kernel_rfl) ⟨by kernel_rfl, ?_⟩ (fun _ _ _ h => h) hS ?_
  rotate_left; focus (intro w hSw; (try dsimp only at hSw); go_simp; try with_reducible rfl)
  refine tk (x := ?_) 10 rfl (by kernel_rfl) ⟨by kernel_rfl, ?_⟩ (fun _ _ _ h => h) hS ?_
  rotate_left; focus (intro w hSw; (try dsimp only at hSw); go_simp; try with_reducible rfl)
  refine tk (x := ?_) 11 rfl (by kernel_rfl) ⟨by kernel_rfl, ?_⟩ (fun _ _ _ h => h) hS ?_
  rotate_left; focus (intro w hSw; (try dsimp only at hSw); go_simp; try with_reducible rfl)
  refine tk (x := ?_) 12 rfl (by kernel_rfl) ⟨by kernel_rfl, ?_⟩ (fun _ _ _ h => h) hS ?_
  rotate_left; focus (intro w hSw; (try dsimp only at hSw); go_simp; try with_reducible rfl)
  refine tk (x := ?_) 13 rfl (by kernel_rfl) ⟨by kernel_rfl, ?_⟩ (fun _ _ _ h => h) hS ?_
  rotate_left; focus (intro w hSw; (try dsimp only at hSw); go_simp; try with_reducible rfl)
  refine tk (x := ?_) 14 rfl (by kernel_rfl) ⟨by kernel_rfl, ?_⟩ (fun _ _ _ h => h) hS ?_
  rotate_left; focus (intro w hSw; (try dsimp only at hSw); go_simp; try with_reducible rfl)
  refine tk (x := ?_) 15 rfl (by kernel_rfl) ⟨by kernel_rfl, ?_⟩ (fun _ _ _ h => h) hS ?_
  rotate_left; focus (intro w hSw; (try dsimp only at hSw); go_simp; try with_reducible rfl)
  refine tk (x := ?_) 17 rfl (by kernel_rfl) ⟨by kernel_rfl, ?_⟩ (fun _ _ _ h => h) hS ?_
  rotate_left; focus (intro w hSw; (try dsimp only at hSw); go_simp; try with_reducible rfl)
  refine tk (x := ?_) 18 rfl (by kernel_rfl) ⟨by kernel_rfl, ?_⟩ (fun _ _ _ h => h) hS ?_
  rotate_left; focus (intro w hSw; (try dsimp only at hSw); go_simp; try with_reducible rfl)
  refine tk (x := ?_) 19 rfl (by kernel_rfl) ⟨by kernel_rfl, ?_⟩ (fun _ _ _ h => h) hS ?_
  rotate_left; focus (intro w hSw; (try dsimp only at hSw); go_simp; try with_reducible rfl)
  refine tk (x := ?_) 20 rfl (by kernel_rfl) ⟨by kernel_rfl, ?_⟩ (fun _ _ _ h => h) hS ?_
  rotate_left; focus (intro w hSw; (try dsimp only at hSw); go_simp; try with_reducible rfl)
  refine tk (x := ?_) 21 rfl (by kernel_rfl) ⟨by kernel_rfl, ?_⟩ (fun _ _ _ h => h) hS ?_
  rotate_left; focus (intro w hSw; (try dsimp only at hSw); go_simp; try with_reducible rfl)
  refine tk (x := ?_) 24 rfl (by kernel_rfl) ⟨by kernel_rfl, ?_⟩ (fun _ _ _ h => h) hS ?_
  rotate_left; focus (intro w hSw; (try dsimp only at hSw); go_simp; try with_reducible rfl)
  refine tk (x := ?_) 25 rfl (by kernel_rfl) ⟨by kernel_rfl, ?_⟩ (fun _ _ _ h => h) hS ?_
  rotate_left; focus (intro w hSw; (try dsimp only at hSw); go_simp; try with_reducible rfl)
  refine tk (x := ?_) 26 rfl (by kernel_rfl) ⟨by kernel_rfl, ?_⟩ (fun _ _ _ h => h) hS ?_
  rotate_left; focus (intro w hSw; (try dsimp only at hSw); go_simp; try with_reducible rfl)
  refine tk (x := ?_) 27 rfl (by kernel_rfl) ⟨by kernel_rfl, ?_⟩ (fun _ _ _ h => h) hS ?_
  rotate_left; focus (intro w hSw; (try dsimp only at hSw); go_simp; try with_reducible rfl)
  refine tk (x := ?_) 28 rfl (by kernel_rfl) ⟨by kernel_rfl, ?_⟩ (fun _ _ _ h => h) hS ?_
  rotate_left; focus (intro w hSw; (try dsimp only at hSw); go_simp; try with_reducible rfl)
  conv => arg 9; simp only [Act.put, go_sem]
  refine tails_one (T := []) (i := 6) (o := _) rfl (by kernel_rfl) (fun K hK => ?_)
  go_simp
  refine (d1.out _ (hC.out.at M.out).c0 (hC.out.at M.out).pf).mono ?_
  rintro rr w1_ ⟨rfl, hb⟩
  replace M := Lib.hid (M.out.resrf hC.out.1 hb)
  clear hb
  try go_wp2_with fail
  refine hK.out _ _ (Or.inr (hC.out.at M.out).but0) (fun hHeld => ?_)
  clear hK K hHeld
  replace hS := (hC.out.at M.out).but0
  refine tails_one (T := []) (i := 16) (o := _) rfl (by kernel_rfl) (fun K hK => ?_)
  go_simp
  refine (d2.out _ (hC.out.at M.out).c0 (hC.out.at M.out).pf).mono ?_
  rintro rr w2_ ⟨rfl, hb⟩
  replace M := Lib.hid (M.out.resrf hC.out.1 hb)
  clear hb
  try go_wp2_with fail
  refine hK.out _ _ (Or.inr (hC.out.at M.out).but0) (fun hHeld => ?_)
  clear hK K hHeld
  replace hS := (hC.out.at M.out).but0
  refine tails_one (T := []) (i := 22) (o := _) rfl (by kernel_rfl) (fun K hK => ?_)
  go_simp
  refine (d3.out _ (hC.out.at M.out)).mono ?_
  rintro rr w3_ ⟨rfl, hb⟩
  replace M := Lib.hid (M.out.resrf hC.out.1 hb)
  clear hb
  try go_wp2_with fail
  refine hK.out _ _ (Or.inr (hC.out.at M.out).but0) (fun hHeld => ?_)
  clear hK K hHeld
  replace hS := (hC.out.at M.out).but0
  refine tails_one (T := []) (i := 23) (o := _) rfl (by kernel_rfl) (fun K hK => ?_)
  go_simp
  refine (d4.out _ (hC.out.at M.out).c0 (hC.out.at M.out).pf).mono ?_
  rintro rr w4_ ⟨rfl, hb⟩
  replace M := Lib.hid (M.out.resrf hC.out.1 hb)
  clear hb
  try go_wp2_with fail
  refine hK.out _ _ (Or.inr (hC.out.at M.out).but0) (fun hHeld => ?_)
  clear hK K hHeld
  replace hS := (hC.out.at M.out).but0
  refine tails_one (T := []) (i := 29) (o := _) rfl (by kernel_rfl) (fun K hK => ?_)
  go_simp
  refine (d5.out _ (hC.out.at M.out)).mono ?_
  rintro rr w5_ ⟨rfl, hb⟩
  replace M := Lib.hid (M.out.resrf hC.out.1 hb)
  clear hb
  try go_wp2_with fail
  refine hK.out _ _ (Or.inr (hC.out.at M.out).but0) (fun hHeld => ?_)
  clear hK K hHeld
  replace hS := (hC.out.at M.out).but0
  refine tails_one (T := []) (i := 30) (o := _) rfl (by kernel_rfl) (fun K hK => ?_)
  go_simp
  refine (d6.out _ (hC.out.at M.out).c0 (hC.out.at M.out).pf).mono ?_
  rintro rr w6_ ⟨rfl, hb⟩
  replace M := Lib.hid (M.out.resrf hC.out.1 hb)
  clear hb
  try go_wp2_with fail
  refine hK.out _ _ (Or.inr (hC.out.at M.out).but0) (fun hHeld => ?_)
  clear hK K hHeld
  replace hS := (hC.out.at M.out).but0
  refine tails_one (T := []) (i := 31) (o := _) rfl (by kernel_rfl) (fun K hK => ?_)
  go_simp
  refine (d7.out _ (hC.out.at M.out).c0 (hC.out.at M.out).pf).mono ?_
  rintro rr w7_ ⟨rfl, hb⟩
  replace M := Lib.hid (M.out.resrf hC.out.1 hb)
  clear hb
  try go_wp2_with fail
  refine hK.out _ _ (Or.inr (hC.out.at M.out).but0) (fun hHeld => ?_)
  clear hK K hHeld
  replace hS := (hC.out.at M.out).but0
  refine tails_one (T := []) (i := 32) (o := _) rfl (by kernel_rfl) (fun K hK => ?_)
  have kc := (M.out.nth 0 rfl).2.1
  have kf := (M.out.nth 0 rfl).2.2
  replace M : Hid (Own (w.setCell ⟨pb, 0, none⟩ (.int .i64 er7)) [(w.heap.size, #[.float .f64 xgl, .float .f64 xgh])] _) := Lib.hid (M.out.set2 0 rfl (.float .f64 xgl) (.float .f64 xgh))
  go_simp
  refine hK.out _ _ (Or.inr (hC.out.at M.out).but0) (fun hHeld => ?_)
  clear hK K hHeld kc kf
  refine tails_done (by kernel_rfl) ?_ _
  refine NoPanic.normal ?_
  clear hS
  revert M
  generalize ((w7_.setCell ⟨w.heap.size, 0, none⟩ (.float .f64 xgl)).setCell ⟨w.heap.size, 1, none⟩ (.float .f64 xgh)) = W8_
  intro M
  go_wp2
  obtain ⟨f1, f2⟩ := (M.out.nth 0 rfl).two
  exact bodyPost_ret (v := .agg #[.float .f64 xgl, .float .f64 xgh]) (by simp [results, Tryz.results41, go_sem, f1, f2]) rfl ⟨rfl, M.out.put⟩

set_option maxRecDepth 100000 in
set_option maxHeartbeats 16000000 in
theorem ganswer_distribution {al ah il ih ol oh rl rh : Nat} {er1 : Int} {pb : Nat} (w : World) (hC : Hid (Has1 w (pb, #[.int .i64 0, .float .f64 al, .float .f64 ah, .float .f64 il, .float .f64 ih, .float .f64 ol, .float .f64 oh])))
    (cK : Hid (∀ v : World, Has1 v (pb, #[.int .i64 0, .float .f64 al, .float .f64 ah, .float .f64 il, .float .f64 ih, .float .f64 ol, .float .f64 oh]) → Calls Tryz.prog 63 #[.pointer (some ⟨pb, 0, none⟩)] v fun r w' => r = .returned (.int .i64 0) ∧ Below v.heap.size v w'))
    (d2 : Hid (∀ v : World, Has1 v (pb, #[.int .i64 0, .float .f64 al, .float .f64 ah, .float .f64 il, .float .f64 ih, .float .f64 ol, .float .f64 oh]) → Calls Tryz.prog 40 #[.pointer (some ⟨pb, 0, none⟩)] v fun r w' => r = .returned (.agg #[.float .f64 rl, .float .f64 rh]) ∧ Put ⟨pb, 0, none⟩ (.int .i64 er1) v w')) :
    Calls Tryz.prog 39 #[.pointer (some ⟨pb, 0, none⟩), .func (.func 40) #[.pointer (some ⟨pb, 0, none⟩)] #[]] w fun r w' => r = .returned (.tuple #[.agg #[.float .f64 rl, .float .f64 rh], .int .i64 er1]) ∧ Put ⟨pb, 0, none⟩ (.int .i64 er1) w w' := by
  have M0 := Own.srf (x := .int .i64 0) hC.out rfl
  have M := Lib.hid (M0.made #[.float .f64 0, .float .f64 0] 27)
  clear M0
  have eqF := eq_floats
  go_enter Tryz.func39, Tryz.ntmps39
  go_wp2_with fail
  refine (cK.out _ (hC.out.at M.out)).mono ?_
  rintro r w1_ ⟨rfl, hb⟩
  replace M := Lib.hid (M.out.below hb)
  clear hb
  go_upto_region 4 with fail
  replace M := Lib.hid M.out.drew
  refine wp_region_noPanic ?_
  refine tails_region (S := fun w' => True) [] (by kernel_rfl) ?_ (fun hS => ?_)
  · exact trivial
  refine tk (x := ?_) 0 rfl (by kernel_rfl) ⟨by kernel_rfl, ?_⟩ (fun _ _ _ h => h) hS ?_
  rotate_left; focus (intro w hSw; (try dsimp only at hSw); go_simp; try with_reducible rfl)
  refine tk (x := ?_) 2 rfl (by kernel_rfl) ⟨by kernel_rfl, ?_⟩ (fun _ _ _ h => h) hS ?_
  rotate_left; focus (intro w hSw; (try dsimp only at hSw); go_simp; try with_reducible rfl)
  refine tk (x := ?_) 3 rfl (by kernel_rfl) ⟨by kernel_rfl, ?_⟩ (fun _ _ _ h => h) hS ?_
  rotate_left; focus (intro w hSw; (try dsimp only at hSw); go_simp; try with_reducible rfl)
  refine tk (x := ?_) 4 rfl (by kernel_rfl) ⟨by kernel_rfl, ?_⟩ (fun _ _ _ h => h) hS ?_
  rotate_left; focus (intro w hSw; (try dsimp only at hSw); go_simp; try with_reducible rfl)
  conv => arg 9; simp only [Act.put, go_sem]
  refine tails_one (T := []) (i := 1) (o := _) rfl (by kernel_rfl) (fun K hK => ?_)
  go_simp
  refine (d2.out _ (hC.out.at M.out)).mono ?_
  rintro rr w2_ ⟨rfl, hb⟩
  replace M := Lib.hid (M.out.resrf hC.out.1 hb)
  clear hb
  try go_wp2_with fail
  refine hK.out _ _ (Or.inr trivial) (fun hHeld => ?_)
  clear hK K hHeld
  refine tails_one (T := []) (i := 5) (o := _) rfl (by kernel_rfl) (fun K hK => ?_)
  go_simp
  refine (err_any er1 _ 0 _ (hC.out.at M.out).c0).mono ?_
  rintro rr w3_ ⟨rfl, rfl⟩
  try go_wp2_with fail
  refine hK.out _ _ (Or.inr trivial) (fun hHeld => ?_)
  clear hK K hHeld
  refine tails_one (T := []) (i := 6) (o := _) rfl (by kernel_rfl) (fun K hK => ?_)
  have kc := (M.out.nth 0 rfl).2.1
  have kf := (M.out.nth 0 rfl).2.2
  replace M : Hid (Own (w.setCell ⟨pb, 0, none⟩ (.int .i64 er1)) [(w.heap.size, #[.float .f64 rl, .float .f64 rh])] _) := Lib.hid (M.out.set2 0 rfl (.float .f64 rl) (.float .f64 rh))
  go_simp
  refine hK.out _ _ (Or.inr trivial) (fun hHeld => ?_)
  clear hK K hHeld kc kf
  refine tails_one (T := []) (i := 7) (o := _) rfl (by kernel_rfl) (fun K hK => ?_)
  go_simp
  refine hK.out _ _ (Or.inr trivial) (fun hHeld => ?_)
  clear hK K hHeld
  refine tails_done (by kernel_rfl) ?_ _
  refine NoPanic.normal ?_
  clear hS
  revert M
  generalize ((w2_.setCell ⟨w.heap.size, 0, none⟩ (.float .f64 rl)).setCell ⟨w.heap.size, 1, none⟩ (.float .f64 rh)) = W4_
  intro M
  go_wp2
  obtain ⟨f1, f2⟩ := (M.out.nth 0 rfl).two
  exact bodyPost_ret (v := .tuple #[.agg #[.float .f64 rl, .float .f64 rh], .int .i64 er1]) (by simp [results, Tryz.results39, go_sem, f1, f2]) rfl ⟨rfl, M.out.put⟩

set_option maxRecDepth 100000 in
set_option maxHeartbeats 16000000 in
theorem gD_walk {al ah ol oh rl rh : Nat} {er1 : Int} (w : World)
    (c1 : Hid (∀ (q : Nat) (v : World), Has1 v (q, #[.int .i64 0, .float .f64 al, .float .f64 ah, .float .f64 0, .float .f64 0, .float .f64 ol, .float .f64 oh]) → Calls Tryz.prog 39 #[.pointer (some ⟨q, 0, none⟩), .func (.func 40) #[.pointer (some ⟨q, 0, none⟩)] #[]] v fun r w' => r = .returned (.tuple #[.agg #[.float .f64 rl, .float .f64 rh], .int .i64 er1]) ∧ Put ⟨q, 0, none⟩ (.int .i64 er1) v w')) :
    Calls Tryz.prog 18 #[.agg #[.float .f64 ol, .float .f64 oh], .agg #[.float .f64 al, .float .f64 ah]] w fun r w' => r = .returned (.tuple #[.agg #[.float .f64 rl, .float .f64 rh], .int .i64 er1]) ∧ Below w.heap.size w w' := by
  have M := Lib.hid ((((Own.nil w).made #[.float .f64 ol, .float .f64 oh] 27).made #[.float .f64 al, .float .f64 ah] 27).made #[.float .f64 0, .float .f64 0] 27)
  simp only [World.size_alloc] at M
  have eqF := eq_floats
  go_enter Tryz.func18, Tryz.ntmps18
  obtain ⟨k1, k2⟩ := (M.out.nth 1 rfl).two
  obtain ⟨k3, k4⟩ := (M.out.nth 2 rfl).two
  replace M := Lib.hid (M.out.made #[.int .i64 0, .float .f64 al, .float .f64 ah, .float .f64 0, .float .f64 0, .float .f64 ol, .float .f64 oh] 83)
  simp only [World.size_alloc] at M
  obtain ⟨k5, k6⟩ := (M.out.nth 2 rfl).two
  obtain ⟨k7, k8⟩ := (M.out.nth 3 rfl).two
  go_wp2_with fail
  refine (c1.out _ _ (M.out.nth 0 rfl)).mono ?_
  rintro r w1_ ⟨rfl, hb⟩
  replace M : Hid (Own w [((w.heap.size + 1 + 1 + 1), #[.int .i64 er1, .float .f64 al, .float .f64 ah, .float .f64 0, .float .f64 0, .float .f64 ol, .float .f64 oh]), ((w.heap.size + 1 + 1), #[.float .f64 0, .float .f64 0]), ((w.heap.size + 1), #[.float .f64 al, .float .f64 ah]), (w.heap.size, #[.float .f64 ol, .float .f64 oh])] w1_) := Lib.hid ((M.out.putIn 0 rfl hb).to (by rfl))
  clear hb
  clear k1 k2 k3 k4 k5 k6 k7 k8
  have kc := (M.out.nth 1 rfl).2.1
  have kf := (M.out.nth 1 rfl).2.2
  replace M : Hid (Own w [((w.heap.size + 1 + 1 + 1), #[.int .i64 er1, .float .f64 al, .float .f64 ah, .float .f64 0, .float .f64 0, .float .f64 ol, .float .f64 oh]), ((w.heap.size + 1 + 1), #[.float .f64 rl, .float .f64 rh]), ((w.heap.size + 1), #[.float .f64 al, .float .f64 ah]), (w.heap.size, #[.float .f64 ol, .float .f64 oh])] _) := Lib.hid (M.out.set2 1 rfl (.float .f64 rl) (.float .f64 rh))
  go_wp2
  obtain ⟨f1, f2⟩ := (M.out.nth 1 rfl).two
  exact bodyPost_ret (v := .tuple #[.agg #[.float .f64 rl, .float .f64 rh], .int .i64 er1]) (by simp [results, Tryz.results18, go_sem, f1, f2]) rfl ⟨rfl, M.out.base⟩

set_option maxRecDepth 100000 in
set_option maxHeartbeats 16000000 in
theorem ganswer_visible {al ah il ih ol oh rl rh : Nat} {er1 : Int} {pb : Nat} (w : World) (hC : Hid (Has1 w (pb, #[.int .i64 0, .float .f64 al, .float .f64 ah, .float .f64 il, .float .f64 ih, .float .f64 ol, .float .f64 oh])))
    (cK : Hid (∀ v : World, Has1 v (pb, #[.int .i64 0, .float .f64 al, .float .f64 ah, .float .f64 il, .float .f64 ih, .float .f64 ol, .float .f64 oh]) → Calls Tryz.prog 63 #[.pointer (some ⟨pb, 0, none⟩)] v fun r w' => r = .returned (.int .i64 0) ∧ Below v.heap.size v w'))
    (d2 : Hid (∀ v : World, Has1 v (pb, #[.int .i64 0, .float .f64 al, .float .f64 ah, .float .f64 il, .float .f64 ih, .float .f64 ol, .float .f64 oh]) → Calls Tryz.prog 42 #[.pointer (some ⟨pb, 0, none⟩)] v fun r w' => r = .returned (.agg #[.float .f64 rl, .float .f64 rh]) ∧ Put ⟨pb, 0, none⟩ (.int .i64 er1) v w')) :
    Calls Tryz.prog 39 #[.pointer (some ⟨pb, 0, none⟩), .func (.func 42) #[.pointer (some ⟨pb, 0, none⟩)] #[]] w fun r w' => r = .returned (.tuple #[.agg #[.float .f64 rl, .float .f64 rh], .int .i64 er1]) ∧ Put ⟨pb, 0, none⟩ (.int .i64 er1) w w' := by
  have M0 := Own.srf (x := .int .i64 0) hC.out rfl
  have M := Lib.hid (M0.made #[.float .f64 0, .float .f64 0] 27)
  clear M0
  have eqF := eq_floats
  go_enter Tryz.func39, Tryz.ntmps39
  go_wp2_with fail
  refine (cK.out _ (hC.out.at M.out)).mono ?_
  rintro r w1_ ⟨rfl, hb⟩
  replace M := Lib.hid (M.out.below hb)
  clear hb
  go_upto_region 4 with fail
  replace M := Lib.hid M.out.drew
  refine wp_region_noPanic ?_
  refine tails_region (S := fun w' => True) [] (by kernel_rfl) ?_ (fun hS => ?_)
  · exact trivial
  refine tk (x := ?_) 0 rfl (by kernel_rfl) ⟨by kernel_rfl, ?_⟩ (fun _ _ _ h => h) hS ?_
  rotate_left; focus (intro w hSw; (try dsimp only at hSw); go_simp; try with_reducible rfl)
  refine tk (x := ?_) 2 rfl (by kernel_rfl) ⟨by kernel_rfl, ?_⟩ (fun _ _ _ h => h) hS ?_
  rotate_left; focus (intro w hSw; (try dsimp only at hSw); go_simp; try with_reducible rfl)
  refine tk (x := ?_) 3 rfl (by kernel_rfl) ⟨by kernel_rfl, ?_⟩ (fun _ _ _ h => h) hS ?_
  rotate_left; focus (intro w hSw; (try dsimp only at hSw); go_simp; try with_reducible rfl)
  refine tk (x := ?_) 4 rfl (by kernel_rfl) ⟨by kernel_rfl, ?_⟩ (fun _ _ _ h => h) hS ?_
  rotate_left; focus (intro w hSw; (try dsimp only at hSw); go_simp; try with_reducible rfl)
  conv => arg 9; simp only [Act.put, go_sem]
  refine tails_one (T := []) (i := 1) (o := _) rfl (by kernel_rfl) (fun K hK => ?_)
  go_simp
  refine (d2.out _ (hC.out.at M.out)).mono ?_
  rintro rr w2_ ⟨rfl, hb⟩
  replace M := Lib.hid (M.out.resrf hC.out.1 hb)
  clear hb
  try go_wp2_with fail
  refine hK.out _ _ (Or.inr trivial) (fun hHeld => ?_)
  clear hK K hHeld
  refine tails_one (T := []) (i := 5) (o := _) rfl (by kernel_rfl) (fun K hK => ?_)
  go_simp
  refine (err_any er1 _ 0 _ (hC.out.at M.out).c0).mono ?_
  rintro rr w3_ ⟨rfl, rfl⟩
  try go_wp2_with fail
  refine hK.out _ _ (Or.inr trivial) (fun hHeld => ?_)
  clear hK K hHeld
  refine tails_one (T := []) (i := 6) (o := _) rfl (by kernel_rfl) (fun K hK => ?_)
  have kc := (M.out.nth 0 rfl).2.1
  have kf := (M.out.nth 0 rfl).2.2
  replace M : Hid (Own (w.setCell ⟨pb, 0, none⟩ (.int .i64 er1)) [(w.heap.size, #[.float .f64 rl, .float .f64 rh])] _) := Lib.hid (M.out.set2 0 rfl (.float .f64 rl) (.float .f64 rh))
  go_simp
  refine hK.out _ _ (Or.inr trivial) (fun hHeld => ?_)
  clear hK K hHeld kc kf
  refine tails_one (T := []) (i := 7) (o := _) rfl (by kernel_rfl) (fun K hK => ?_)
  go_simp
  refine hK.out _ _ (Or.inr trivial) (fun hHeld => ?_)
  clear hK K hHeld
  refine tails_done (by kernel_rfl) ?_ _
  refine NoPanic.normal ?_
  clear hS
  revert M
  generalize ((w2_.setCell ⟨w.heap.size, 0, none⟩ (.float .f64 rl)).setCell ⟨w.heap.size, 1, none⟩ (.float .f64 rh)) = W4_
  intro M
  go_wp2
  obtain ⟨f1, f2⟩ := (M.out.nth 0 rfl).two
  exact bodyPost_ret (v := .tuple #[.agg #[.float .f64 rl, .float .f64 rh], .int .i64 er1]) (by simp [results, Tryz.results39, go_sem, f1, f2]) rfl ⟨rfl, M.out.put⟩

set_option maxRecDepth 100000 in
set_option maxHeartbeats 16000000 in
theorem gG1_walk {al ah ol oh rl rh : Nat} {er1 : Int} (w : World)
    (c1 : Hid (∀ (q : Nat) (v : World), Has1 v (q, #[.int .i64 0, .float .f64 al, .float .f64 ah, .float .f64 0, .float .f64 0, .float .f64 ol, .float .f64 oh]) → Calls Tryz.prog 39 #[.pointer (some ⟨q, 0, none⟩), .func (.func 42) #[.pointer (some ⟨q, 0, none⟩)] #[]] v fun r w' => r = .returned (.tuple #[.agg #[.float .f64 rl, .float .f64 rh], .int .i64 er1]) ∧ Put ⟨q, 0, none⟩ (.int .i64 er1) v w')) :
    Calls Tryz.prog 20 #[.agg #[.float .f64 ol, .float .f64 oh], .agg #[.float .f64 al, .float .f64 ah]] w fun r w' => r = .returned (.tuple #[.agg #[.float .f64 rl, .float .f64 rh], .int .i64 er1]) ∧ Below w.heap.size w w' := by
  have M := Lib.hid ((((Own.nil w).made #[.float .f64 ol, .float .f64 oh] 27).made #[.float .f64 al, .float .f64 ah] 27).made #[.float .f64 0, .float .f64 0] 27)
  simp only [World.size_alloc] at M
  have eqF := eq_floats
  go_enter Tryz.func20, Tryz.ntmps20
  obtain ⟨k1, k2⟩ := (M.out.nth 1 rfl).two
  obtain ⟨k3, k4⟩ := (M.out.nth 2 rfl).two
  replace M := Lib.hid (M.out.made #[.int .i64 0, .float .f64 al, .float .f64 ah, .float .f64 0, .float .f64 0, .float .f64 ol, .float .f64 oh] 83)
  simp only [World.size_alloc] at M
  obtain ⟨k5, k6⟩ := (M.out.nth 2 rfl).two
  obtain ⟨k7, k8⟩ := (M.out.nth 3 rfl).two
  go_wp2_with fail
  refine (c1.out _ _ (M.out.nth 0 rfl)).mono ?_
  rintro r w1_ ⟨rfl, hb⟩
  replace M : Hid (Own w [((w.heap.size + 1 + 1 + 1), #[.int .i64 er1, .float .f64 al, .float .f64 ah, .float .f64 0, .float .f64 0, .float .f64 ol, .float .f64 oh]), ((w.heap.size + 1 + 1), #[.float .f64 0, .float .f64 0]), ((w.heap.size + 1), #[.float .f64 al, .float .f64 ah]), (w.heap.size, #[.float .f64 ol, .float .f64 oh])] w1_) := Lib.hid ((M.out.putIn 0 rfl hb).to (by rfl))
  clear hb
  clear k1 k2 k3 k4 k5 k6 k7 k8
  have kc := (M.out.nth 1 rfl).2.1
  have kf := (M.out.nth 1 rfl).2.2
  replace M : Hid (Own w [((w.heap.size + 1 + 1 + 1), #[.int .i64 er1, .float .f64 al, .float .f64 ah, .float .f64 0, .float .f64 0, .float .f64 ol, .float .f64 oh]), ((w.heap.size + 1 + 1), #[.float .f64 rl, .float .f64 rh]), ((w.heap.size + 1), #[.float .f64 al, .float .f64 ah]), (w.heap.size, #[.float .f64 ol, .float .f64 oh])] _) := Lib.hid (M.out.set2 1 rfl (.float .f64 rl) (.float .f64 rh))
  go_wp2
  obtain ⟨f1, f2⟩ := (M.out.nth 1 rfl).two
  exact bodyPost_ret (v := .tuple #[.agg #[.float .f64 rl, .float .f64 rh], .int .i64 er1]) (by simp [results, Tryz.results20, go_sem, f1, f2]) rfl ⟨rfl, M.out.base⟩

set_option maxRecDepth 100000 in
set_option maxHeartbeats 16000000 in
theorem ganswer_visibleForTwo {al ah il ih ol oh rl rh : Nat} {er1 : Int} {pb : Nat} (w : World) (hC : Hid (Has1 w (pb, #[.int .i64 0, .float .f64 al, .float .f64 ah, .float .f64 il, .float .f64 ih, .float .f64 ol, .float .f64 oh])))
    (cK : Hid (∀ v : World, Has1 v (pb, #[.int .i64 0, .float .f64 al, .float .f64 ah, .float .f64 il, .float .f64 ih, .float .f64 ol, .float .f64 oh]) → Calls Tryz.prog 63 #[.pointer (some ⟨pb, 0, none⟩)] v fun r w' => r = .returned (.int .i64 0) ∧ Below v.heap.size v w'))
    (d2 : Hid (∀ v : World, Has1 v (pb, #[.int .i64 0, .float .f64 al, .float .f64 ah, .float .f64 il, .float .f64 ih, .float .f64 ol, .float .f64 oh]) → Calls Tryz.prog 41 #[.pointer (some ⟨pb, 0, none⟩)] v fun r w' => r = .returned (.agg #[.float .f64 rl, .float .f64 rh]) ∧ Put ⟨pb, 0, none⟩ (.int .i64 er1) v w')) :
    Calls Tryz.prog 39 #[.pointer (some ⟨pb, 0, none⟩), .func (.func 41) #[.pointer (some ⟨pb, 0, none⟩)] #[]] w fun r w' => r = .returned (.tuple #[.agg #[.float .f64 rl, .float .f64 rh], .int .i64 er1]) ∧ Put ⟨pb, 0, none⟩ (.int .i64 er1) w w' := by
  have M0 := Own.srf (x := .int .i64 0) hC.out rfl
  have M := Lib.hid (M0.made #[.float .f64 0, .float .f64 0] 27)
  clear M0
  have eqF := eq_floats
  go_enter Tryz.func39, Tryz.ntmps39
  go_wp2_with fail
  refine (cK.out _ (hC.out.at M.out)).mono ?_
  rintro r w1_ ⟨rfl, hb⟩
  replace M := Lib.hid (M.out.below hb)
  clear hb
  go_upto_region 4 with fail
  replace M := Lib.hid M.out.drew
  refine wp_region_noPanic ?_
  refine tails_region (S := fun w' => True) [] (by kernel_rfl) ?_ (fun hS => ?_)
  · exact trivial
  refine tk (x := ?_) 0 rfl (by kernel_rfl) ⟨by kernel_rfl, ?_⟩ (fun _ _ _ h => h) hS ?_
  rotate_left; focus (intro w hSw; (try dsimp only at hSw); go_simp; try with_reducible rfl)
  refine tk (x := ?_) 2 rfl (by kernel_rfl) ⟨by kernel_rfl, ?_⟩ (fun _ _ _ h => h) hS ?_
  rotate_left; focus (intro w hSw; (try dsimp only at hSw); go_simp; try with_reducible rfl)
  refine tk (x := ?_) 3 rfl (by kernel_rfl) ⟨by kernel_rfl, ?_⟩ (fun _ _ _ h => h) hS ?_
  rotate_left; focus (intro w hSw; (try dsimp only at hSw); go_simp; try with_reducible rfl)
  refine tk (x := ?_) 4 rfl (by kernel_rfl) ⟨by kernel_rfl, ?_⟩ (fun _ _ _ h => h) hS ?_
  rotate_left; focus (intro w hSw; (try dsimp only at hSw); go_simp; try with_reducible rfl)
  conv => arg 9; simp only [Act.put, go_sem]
  refine tails_one (T := []) (i := 1) (o := _) rfl (by kernel_rfl) (fun K hK => ?_)
  go_simp
  refine (d2.out _ (hC.out.at M.out)).mono ?_
  rintro rr w2_ ⟨rfl, hb⟩
  replace M := Lib.hid (M.out.resrf hC.out.1 hb)
  clear hb
  try go_wp2_with fail
  refine hK.out _ _ (Or.inr trivial) (fun hHeld => ?_)
  clear hK K hHeld
  refine tails_one (T := []) (i := 5) (o := _) rfl (by kernel_rfl) (fun K hK => ?_)
  go_simp
  refine (err_any er1 _ 0 _ (hC.out.at M.out).c0).mono ?_
  rintro rr w3_ ⟨rfl, rfl⟩
  try go_wp2_with fail
  refine hK.out _ _ (Or.inr trivial) (fun hHeld => ?_)
  clear hK K hHeld
  refine tails_one (T := []) (i := 6) (o := _) rfl (by kernel_rfl) (fun K hK => ?_)
  have kc := (M.out.nth 0 rfl).2.1
  have kf := (M.out.nth 0 rfl).2.2
  replace M : Hid (Own (w.setCell ⟨pb, 0, none⟩ (.int .i64 er1)) [(w.heap.size, #[.float .f64 rl, .float .f64 rh])] _) := Lib.hid (M.out.set2 0 rfl (.float .f64 rl) (.float .f64 rh))
  go_simp
  refine hK.out _ _ (Or.inr trivial) (fun hHeld => ?_)
  clear hK K hHeld kc kf
  refine tails_one (T := []) (i := 7) (o := _) rfl (by kernel_rfl) (fun K hK => ?_)
  go_simp
  refine hK.out _ _ (Or.inr trivial) (fun hHeld => ?_)
  clear hK K hHeld
  refine tails_done (by kernel_rfl) ?_ _
  refine NoPanic.normal ?_
  clear hS
  revert M
  generalize ((w2_.setCell ⟨w.heap.size, 0, none⟩ (.float .f64 rl)).setCell ⟨w.heap.size, 1, none⟩ (.float .f64 rh)) = W4_
  intro M
  go_wp2
  obtain ⟨f1, f2⟩ := (M.out.nth 0 rfl).two
  exact bodyPost_ret (v := .tuple #[.agg #[.float .f64 rl, .float .f64 rh], .int .i64 er1]) (by simp [results, Tryz.results39, go_sem, f1, f2]) rfl ⟨rfl, M.out.put⟩

set_option maxRecDepth 100000 in
set_option maxHeartbeats 16000000 in
theorem gG2_walk {al ah ol oh il ih rl rh : Nat} {er1 : Int} (w : World)
    (c1 : Hid (∀ (q : Nat) (v : World), Has1 v (q, #[.int .i64 0, .float .f64 al, .float .f64 ah, .float .f64 il, .float .f64 ih, .float .f64 ol, .float .f64 oh]) → Calls Tryz.prog 39 #[.pointer (some ⟨q, 0, none⟩), .func (.func 41) #[.pointer (some ⟨q, 0, none⟩)] #[]] v fun r w' => r = .returned (.tuple #[.agg #[.float .f64 rl, .float .f64 rh], .int .i64 er1]) ∧ Put ⟨q, 0, none⟩ (.int .i64 er1) v w')) :
    Calls Tryz.prog 19 #[.agg #[.float .f64 il, .float .f64 ih], .agg #[.float .f64 ol, .float .f64 oh], .agg #[.float .f64 al, .float .f64 ah]] w fun r w' => r = .returned (.tuple #[.agg #[.float .f64 rl, .float .f64 rh], .int .i64 er1]) ∧ Below w.heap.size w w' := by
  have M := Lib.hid (((((Own.nil w).made #[.float .f64 il, .float .f64 ih] 27).made #[.float .f64 ol, .float .f64 oh] 27).made #[.float .f64 al, .float .f64 ah] 27).made #[.float .f64 0, .float .f64 0] 27)
  simp only [World.size_alloc] at M
  have eqF := eq_floats
  go_enter Tryz.func19, Tryz.ntmps19
  obtain ⟨k1, k2⟩ := (M.out.nth 1 rfl).two
  obtain ⟨k3, k4⟩ := (M.out.nth 3 rfl).two
  obtain ⟨k5, k6⟩ := (M.out.nth 2 rfl).two
  replace M := Lib.hid (M.out.made #[.int .i64 0, .float .f64 al, .float .f64 ah, .float .f64 il, .float .f64 ih, .float .f64 ol, .float .f64 oh] 83)
  simp only [World.size_alloc] at M
  obtain ⟨k7, k8⟩ := (M.out.nth 2 rfl).two
  obtain ⟨k9, k10⟩ := (M.out.nth 4 rfl).two
  obtain ⟨k11, k12⟩ := (M.out.nth 3 rfl).two
  go_wp2_with fail
  refine (c1.out _ _ (M.out.nth 0 rfl)).mono ?_
  rintro r w1_ ⟨rfl, hb⟩
  replace M : Hid (Own w [((w.heap.size + 1 + 1 + 1 + 1), #[.int .i64 er1, .float .f64 al, .float .f64 ah, .float .f64 il, .float .f64 ih, .float .f64 ol, .float .f64 oh]), ((w.heap.size + 1 + 1 + 1), #[.float .f64 0, .float .f64 0]), ((w.heap.size + 1 + 1), #[.float .f64 al, .float .f64 ah]), ((w.heap.size + 1), #[.float .f64 ol, .float .f64 oh]), (w.heap.size, #[.float .f64 il, .float .f64 ih])] w1_) := Lib.hid ((M.out.putIn 0 rfl hb).to (by rfl))
  clear hb
  clear k1 k2 k3 k4 k5 k6 k7 k8 k9 k10 k11 k12
  have kc := (M.out.nth 1 rfl).2.1
  have kf := (M.out.nth 1 rfl).2.2
  replace M : Hid (Own w [((w.heap.size + 1 + 1 + 1 + 1), #[.int .i64 er1, .float .f64 al, .float .f64 ah, .float .f64 il, .float .f64 ih, .float .f64 ol, .float .f64 oh]), ((w.heap.size + 1 + 1 + 1), #[.float .f64 rl, .float .f64 rh]), ((w.heap.size + 1 + 1), #[.float .f64 al, .float .f64 ah]), ((w.heap.size + 1), #[.float .f64 ol, .float .f64 oh]), (w.heap.size, #[.float .f64 il, .float .f64 ih])] _) := Lib.hid (M.out.set2 1 rfl (.float .f64 rl) (.float .f64 rh))
  go_wp2
  obtain ⟨f1, f2⟩ := (M.out.nth 1 rfl).two
  exact bodyPost_ret (v := .tuple #[.agg #[.float .f64 rl, .float .f64 rh], .int .i64 er1]) (by simp [results, Tryz.results19, go_sem, f1, f2]) rfl ⟨rfl, M.out.base⟩

end Go.Proofs.YthefgkgdadkgbaaGreat
