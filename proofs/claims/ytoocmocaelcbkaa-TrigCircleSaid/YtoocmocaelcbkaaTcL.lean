
/- TrigCircle: the law's walks. -/
import Derived.Test.YtoocmocaelcbkaaLanP
import Derived.Deep.RegionHeld3
namespace Go.Proofs.Ytoocmocaelcbkaa
open Go.RowKit
attribute [local go_sem] run_store_float

theorem eq_floats (x y : Nat) (w : World) : (Op.equalIn 9999 22 (.float .f64 x) (.float .f64 y)).run Try.prog w = .ok (Op.floatEq .f64 x y) w := by
  have hf := run_underlying Try.underlying22 (w := w)
  show (Op.equalIn (9998 + 1) 22 _ _).run Try.prog w = _
  rw [Op.equalIn]
  simp only [Sem.run_bind, hf, Result.andThen]
  simp [go_sem]

section
variable {P : Program} {ops : Array Oper} {Q : Exit → Act → World → Prop} {md : Region.Mode} {S : World → Prop}
theorem lpx_ccc_1 {a0 : Act} {B v : World} {l : List (Nat × Array Value)} {x : Nat × Array Value} (_ : Hid (Own B (x :: l) v)) {w0 : World} {L0 : Array Bool} (c1 c2 c3 m1 : Nat) (slots : List Nat) (N : Nat) (J : List (Nat × Array Value) → Act → Nat → List (Option Nat) → Act → World → Prop) (hok : latOkP [false, false, false] md ops L0 [c1, c2, c3] [m1] = true)
    (hsl : (slots.all fun s => decide (s < a0.tmps.size)) = true) (h0 : ∀ A : Act, (∀ s, s ∈ slots → s < A.tmps.size) → J l A 0 (List.replicate 1 none) A w0)
    (hS : ∀ k p a w, J l a0 k p a w → S w)
    (k1 : ∀ p a w, J l a0 0 p a w → wpOp P ops Q c1 (fun b v => J l a0 1 p b v) a w)
    (k2 : ∀ p a w, J l a0 1 p a w → wpOp P ops Q c2 (fun b v => J l a0 2 p b v) a w)
    (k3 : ∀ p a w, J l a0 2 p a w → wpOp P ops Q c3 (fun b v => J l a0 3 p b v) a w)
    (n1 : ∀ k p a w, p[0]? = some none → J l a0 k p a w → wpOp P ops Q m1 (fun b v => ∃ q, J l a0 k (p.set 0 (some q)) b v) a w)
    (fin : ∀ q1 a w, J l a0 3 [some q1] a w → wpAnyV P md ops Q S [] N (lstOf L0 [c1, c2, c3] [m1] 3 [true]) a w) :
    wpAnyV P md ops Q S [] (N + 4) L0 a0 w0 := by
  refine latP_from (pl := [false, false, false]) [c1, c2, c3] [m1] slots N 4 (J l) hok rfl hsl h0 hS (fun k i p a w hk hn hJ => ?_) (fun k i p a w hk hn hJ => ?_) (fun k m i p a w hm hp hJ => ?_) (fun p a w hp hall hJ => ?_)
  · rcases k with _ | _ | _ | k
    · obtain rfl : c1 = i := by simpa using hk
      exact k1 p a w hJ
    · obtain rfl : c2 = i := by simpa using hk
      exact k2 p a w hJ
    · obtain rfl : c3 = i := by simpa using hk
      exact k3 p a w hJ
    · simp at hk
  · rcases k with _ | _ | _ | k
    · exact absurd hn (by decide)
    · exact absurd hn (by decide)
    · exact absurd hn (by decide)
    · simp at hk
  · rcases m with _ | m
    · obtain rfl : m1 = i := by simpa using hm
      exact n1 k p a w hp hJ
    · simp at hm
  · obtain ⟨q1, rfl⟩ := fin_one hp hall
    exact fin q1 a w hJ
end

/-- Region 5. -/
def tcJ5 (w : World) (pb : Nat) (al ah bl bh gl gh : Nat) (l : RowL) (a0 : Act) (k : Nat) (p : List (Option Nat)) (a : Act) (v : World) : Prop :=
  ∃ y1 y2 y3 z1 : Value, a = ((((a0.put (some 41) y1).put (some 43) y2).put (some 44) y3).put (some 7) z1) ∧ (0 < k → y1 = .agg #[.float .f64 al, .float .f64 ah]) ∧ (1 < k → y2 = .agg #[.float .f64 bl, .float .f64 bh]) ∧ (2 < k → y3 = .agg #[.float .f64 gl, .float .f64 gh]) ∧ (∀ q, p[0]? = some (some q) → z1 = .pointer (some ⟨q, 0, none⟩)) ∧ OwnF w ((pb, #[.int .i64 0]) :: l) [#[.float .f64 0, .float .f64 0]] p v
section
variable {w v : World} {pb : Nat} {al ah bl bh gl gh : Nat} {l : RowL} {a0 a : Act} {p : List (Option Nat)}
theorem tcJ5_0 (h : tcJ5 w pb al ah bl bh gl gh l a0 0 p a v) : ∃ y1 y2 y3 z1 : Value, a = ((((a0.put (some 41) y1).put (some 43) y2).put (some 44) y3).put (some 7) z1) ∧ (∀ q, p[0]? = some (some q) → z1 = .pointer (some ⟨q, 0, none⟩)) ∧ OwnF w ((pb, #[.int .i64 0]) :: l) [#[.float .f64 0, .float .f64 0]] p v := by
  obtain ⟨y1, y2, y3, z1, ha, E1, E2, E3, G1, h⟩ := h
  exact ⟨y1, y2, y3, z1, ha, G1, h⟩
theorem tcJ5_1 (h : tcJ5 w pb al ah bl bh gl gh l a0 1 p a v) : ∃ y2 y3 z1 : Value, a = ((((a0.put (some 41) (.agg #[.float .f64 al, .float .f64 ah])).put (some 43) y2).put (some 44) y3).put (some 7) z1) ∧ (∀ q, p[0]? = some (some q) → z1 = .pointer (some ⟨q, 0, none⟩)) ∧ OwnF w ((pb, #[.int .i64 0]) :: l) [#[.float .f64 0, .float .f64 0]] p v := by
  obtain ⟨y1, y2, y3, z1, ha, E1, E2, E3, G1, h⟩ := h
  obtain rfl := E1 (by decide)
  exact ⟨y2, y3, z1, ha, G1, h⟩
theorem tcJ5_2 (h : tcJ5 w pb al ah bl bh gl gh l a0 2 p a v) : ∃ y3 z1 : Value, a = ((((a0.put (some 41) (.agg #[.float .f64 al, .float .f64 ah])).put (some 43) (.agg #[.float .f64 bl, .float .f64 bh])).put (some 44) y3).put (some 7) z1) ∧ (∀ q, p[0]? = some (some q) → z1 = .pointer (some ⟨q, 0, none⟩)) ∧ OwnF w ((pb, #[.int .i64 0]) :: l) [#[.float .f64 0, .float .f64 0]] p v := by
  obtain ⟨y1, y2, y3, z1, ha, E1, E2, E3, G1, h⟩ := h
  obtain rfl := E1 (by decide)
  obtain rfl := E2 (by decide)
  exact ⟨y3, z1, ha, G1, h⟩
theorem tcJ5_fin {q1 : Nat} (h : tcJ5 w pb al ah bl bh gl gh l a0 3 [some q1] a v) : a = ((((a0.put (some 41) (.agg #[.float .f64 al, .float .f64 ah])).put (some 43) (.agg #[.float .f64 bl, .float .f64 bh])).put (some 44) (.agg #[.float .f64 gl, .float .f64 gh])).put (some 7) (.pointer (some ⟨q1, 0, none⟩))) ∧ OwnF w ((pb, #[.int .i64 0]) :: l) [#[.float .f64 0, .float .f64 0]] [some q1] v := by
  obtain ⟨y1, y2, y3, z1, ha, E1, E2, E3, G1, h⟩ := h
  obtain rfl := E1 (by decide)
  obtain rfl := E2 (by decide)
  obtain rfl := E3 (by decide)
  obtain rfl := G1 _ rfl
  exact ⟨ha, h⟩
end

set_option maxRecDepth 100000 in
set_option maxHeartbeats 16000000 in
theorem circle_law {ul uh sl sh ol oh al ah bl bh gl gh pl ph ql qh dm dn : Nat} (w : World)
    (c1 : Hid (∀ w, Calls Try.prog 13 #[.agg #[.float .f64 ul, .float .f64 uh]] w fun r w' => r = .returned (.tuple #[.agg #[.float .f64 sl, .float .f64 sh], .agg #[.float .f64 ol, .float .f64 oh], .int .i64 0]) ∧ Below w.heap.size w w'))
    (c2 : Hid (∀ w, Calls Try.prog 14 #[.agg #[.float .f64 ul, .float .f64 uh]] w fun r w' => r = .returned (.bool true) ∧ Below w.heap.size w w'))
    (d3 : Hid (K1 18 0 0 sl sh al ah))
    (d4 : Hid (K1 18 0 0 ol oh bl bh))
    (d5 : Hid (K2 17 0 0 al ah bl bh gl gh))
    (c7 : Hid (∀ w, Calls Try.prog 20 #[.agg #[.float .f64 sl, .float .f64 sh]] w fun r w' => r = .returned (.bool true) ∧ Below w.heap.size w w'))
    (c8 : Hid (∀ w, Calls Try.prog 20 #[.agg #[.float .f64 ol, .float .f64 oh]] w fun r w' => r = .returned (.bool true) ∧ Below w.heap.size w w'))
    (o_lsssl_455654793216 : ((FloatKind.f64.format.order sl 13830554455654793216 == some Ordering.lt) = false))
    (o_gtrsh_418800017408 : ((FloatKind.f64.format.order sh 4607182418800017408 == some Ordering.gt) = false))
    (o_lssol_455654793216 : ((FloatKind.f64.format.order ol 13830554455654793216 == some Ordering.lt) = false))
    (o_gtroh_418800017408 : ((FloatKind.f64.format.order oh 4607182418800017408 == some Ordering.gt) = false))
    (c9 : Hid (∀ w, Calls Try.prog 21 #[.agg #[.float .f64 gl, .float .f64 gh], .float .f64 4607182418800017408] w fun r w' => r = .returned (.bool true) ∧ Below w.heap.size w w'))
    (c10 : Hid (∀ w, Calls Try.prog 22 #[.float .f64 ul, .float .f64 ul] w fun r w' => r = .returned (.agg #[.float .f64 ul, .float .f64 ul]) ∧ Below w.heap.size w w'))
    (c11 : Hid (∀ w, Calls Try.prog 13 #[.agg #[.float .f64 ul, .float .f64 ul]] w fun r w' => r = .returned (.tuple #[.agg #[.float .f64 pl, .float .f64 ph], .agg #[.float .f64 ql, .float .f64 qh], .int .i64 0]) ∧ Below w.heap.size w w'))
    (c12 : Hid (∀ w, Calls Try.prog 23 #[.agg #[.float .f64 pl, .float .f64 ph]] w fun r w' => r = .returned (.tuple #[.float .f64 dm, .int .i64 0]) ∧ Below w.heap.size w w'))
    (c13 : Hid (∀ w, Calls Try.prog 23 #[.agg #[.float .f64 ql, .float .f64 qh]] w fun r w' => r = .returned (.tuple #[.float .f64 dn, .int .i64 0]) ∧ Below w.heap.size w w'))
    (c14 : Hid (∀ w, Calls Try.prog 24 #[.float .f64 4607182418800017408, .int .i64 (-48)] w fun r w' => r = .returned (.float .f64 4391009636686233600) ∧ w = w'))
    (o_leqdm_636686233600 : (((FloatKind.f64.format.order dm 4391009636686233600 == some Ordering.lt) || (FloatKind.f64.format.order dm 4391009636686233600 == some Ordering.eq)) = true))
    (o_leqdn_636686233600 : (((FloatKind.f64.format.order dn 4391009636686233600 == some Ordering.lt) || (FloatKind.f64.format.order dn 4391009636686233600 == some Ordering.eq)) = true))
    (c15 : Hid (∀ w, Calls Try.prog 16 #[] w fun r w' => r = .returned (.bool true) ∧ Below w.heap.size w w')) :
    Calls Try.prog 3 #[.agg #[.float .f64 ul, .float .f64 uh]] w fun r w' => r = .returned (.bool true) ∧ Below w.heap.size w w' := by
  have M := Lib.hid ((Own.nil w).made #[.float .f64 ul, .float .f64 uh] 24)
  have eqF := eq_floats
  go_enter Try.func3, Try.ntmps3
  obtain ⟨k1, k2⟩ := (M.out.nth 0 rfl).two
  go_wp2_with fail
  refine (c1.out _).mono ?_
  rintro r w1_ ⟨rfl, hb⟩
  replace M := Lib.hid (M.out.below hb)
  clear hb
  clear k1 k2
  replace M := Lib.hid (M.out.made #[.float .f64 sl, .float .f64 sh] 24)
  replace M := Lib.hid (M.out.made #[.float .f64 ol, .float .f64 oh] 24)
  simp only [World.size_alloc] at M
  obtain ⟨k1, k2⟩ := (M.out.nth 2 rfl).two
  go_wp2_with fail
  refine (c2.out _).mono ?_
  rintro r w2_ ⟨rfl, hb⟩
  replace M := Lib.hid (M.out.below hb)
  clear hb
  clear k1 k2
  replace M := Lib.hid (M.out.made #[.int .i64 0] 32)
  go_upto_region 5 with fail
  replace M := Lib.hid M.out.drew
  refine wp_region_noPanic ?_
  refine tails_region (S := fun w' => (w'.cell? ⟨w1_.heap.size, 0, none⟩ = some (.float .f64 sl) ∧ w'.cell? ⟨w1_.heap.size, 1, none⟩ = some (.float .f64 sh)) ∧ (w'.cell? ⟨(w1_.heap.size + 1), 0, none⟩ = some (.float .f64 ol) ∧ w'.cell? ⟨(w1_.heap.size + 1), 1, none⟩ = some (.float .f64 oh))) [] (by kernel_rfl) ?_ (fun hS => ?_)
  · exact ⟨(M.out.nth 2 rfl).two, (M.out.nth 1 rfl).two⟩
  refine tk (x := ?_) 0 rfl (by kernel_rfl) ⟨by rfl, ?_⟩ (fun _ _ _ h => h) hS ?_
  rotate_left; focus (intro w hSw; (try dsimp only at hSw); go_simp; try with_reducible rfl)
  refine tk (x := ?_) 2 rfl (by kernel_rfl) ⟨by rfl, ?_⟩ (fun _ _ _ h => h) hS ?_
  rotate_left; focus (intro w hSw; (try dsimp only at hSw); go_simp; try with_reducible rfl)
  conv => arg 9; simp only [Act.put, go_sem]
  refine lpx_ccc_1 M 1 3 4 5 [41, 43, 44, 7] 1 (tcJ5 w w2_.heap.size al ah bl bh gl gh) (by kernel_rfl) (by kernel_rfl) ?_ ?_ ?_ ?_ ?_ ?_ ?_
  · intro A hA
    obtain ⟨y1, hq1⟩ := put_ex (hA 41 (by simp))
    obtain ⟨y2, hq2⟩ := put_ex (hA 43 (by simp))
    obtain ⟨y3, hq3⟩ := put_ex (hA 44 (by simp))
    obtain ⟨z1, hq4⟩ := put_ex (hA 7 (by simp))
    exact ⟨y1, y2, y3, z1, by rw [hq1, hq2, hq3, hq4], by omega, by omega, by omega, by simp, OwnF.start M.out 1⟩
  · rintro k p a v ⟨y1, y2, y3, z1, _, _, _, _, _, h⟩
    exact ⟨(h.own.nth 2 rfl).two, (h.own.nth 1 rfl).two⟩
  · intro p a v hJ
    refine op_step (o := _) rfl (fun K hK => ?_)
    obtain ⟨y1, y2, y3, z1, ha, gg1, h⟩ := tcJ5_0 hJ
    have h := Lib.hid h
    clear hJ
    subst ha
    go_simp
    refine (d3.out _ _ (h.out.own.nth 0 rfl)).mono ?_
    rintro rr w5 ⟨rfl, hp⟩
    try go_wp2_with fail
    refine hK.out _ _ ⟨_, y2, y3, z1, ?_, fun _ => rfl, by omega, by omega, gg1, h.out.putHead hp⟩
    kernel_rfl
  · intro p a v hJ
    refine op_step (o := _) rfl (fun K hK => ?_)
    obtain ⟨y2, y3, z1, ha, gg1, h⟩ := tcJ5_1 hJ
    have h := Lib.hid h
    clear hJ
    subst ha
    go_simp
    refine (d4.out _ _ (h.out.own.nth 0 rfl)).mono ?_
    rintro rr w5 ⟨rfl, hp⟩
    try go_wp2_with fail
    refine hK.out _ _ ⟨_, _, y3, z1, ?_, fun _ => rfl, fun _ => rfl, by omega, gg1, h.out.putHead hp⟩
    kernel_rfl
  · intro p a v hJ
    refine op_step (o := _) rfl (fun K hK => ?_)
    obtain ⟨y3, z1, ha, gg1, h⟩ := tcJ5_2 hJ
    have h := Lib.hid h
    clear hJ
    subst ha
    go_simp
    refine (d5.out _ _ (h.out.own.nth 0 rfl)).mono ?_
    rintro rr w5 ⟨rfl, hp⟩
    try go_wp2_with fail
    refine hK.out _ _ ⟨_, _, _, z1, ?_, fun _ => rfl, fun _ => rfl, fun _ => rfl, gg1, h.out.putHead hp⟩
    kernel_rfl
  · intro k p a v hp hJ
    refine op_step (o := _) rfl (fun K hK => ?_)
    obtain ⟨y1, y2, y3, z1, ha, ee1, ee2, ee3, gg1, h⟩ := hJ
    have h := Lib.hid h
    subst ha
    go_simp
    refine hK.out _ _ ⟨v.heap.size, y1, y2, y3, .pointer (some ⟨v.heap.size, 0, none⟩), ?_, ee1, ee2, ee3, fun q hq => ptr_set hq, h.out.alloc hp rfl _⟩
    kernel_rfl
  intro p5_1 a v hJ
  obtain ⟨rfl, h⟩ := tcJ5_fin hJ
  clear hJ
  replace M := Lib.hid h.fin1
  clear h
  refine tails_one (T := []) (i := 6) (o := _) rfl (by kernel_rfl) (fun K hK => ?_)
  have kc := (M.out.nth 0 rfl).2.1
  have kf := (M.out.nth 0 rfl).2.2
  replace M : Hid (Own w [(p5_1, #[.float .f64 gl, .float .f64 gh]), (w2_.heap.size, #[.int .i64 0]), ((w1_.heap.size + 1), #[.float .f64 ol, .float .f64 oh]), (w1_.heap.size, #[.float .f64 sl, .float .f64 sh]), (w.heap.size, #[.float .f64 ul, .float .f64 uh])] _) := Lib.hid (M.out.set2 0 rfl (.float .f64 gl) (.float .f64 gh))
  go_simp
  refine hK.out _ _ (Or.inr ⟨(M.out.nth 3 rfl).two, (M.out.nth 2 rfl).two⟩) (fun hHeld => ?_)
  clear hK K hHeld kc kf
  refine tails_done (by kernel_rfl) ?_ _
  refine NoPanic.normal ?_
  clear hS
  replace M : Hid (Own w [(w2_.heap.size, #[.int .i64 0]), (p5_1, #[.float .f64 gl, .float .f64 gh]), ((w1_.heap.size + 1), #[.float .f64 ol, .float .f64 oh]), (w1_.heap.size, #[.float .f64 sl, .float .f64 sh]), (w.heap.size, #[.float .f64 ul, .float .f64 uh])] _) := Lib.hid M.out.front
  revert M
  generalize ((v.setCell ⟨p5_1, 0, none⟩ (.float .f64 gl)).setCell ⟨p5_1, 1, none⟩ (.float .f64 gh)) = W3_
  intro M
  go_wp2_with fail
  refine (err_any 0 _ 0 _ (M.out.nth 0 rfl).pc).mono ?_
  rintro r w4_ ⟨rfl, rfl⟩
  obtain ⟨k1, k2⟩ := (M.out.nth 3 rfl).two
  go_wp2_with fail
  refine (c7.out _).mono ?_
  rintro r w5_ ⟨rfl, hb⟩
  replace M := Lib.hid (M.out.below hb)
  clear hb
  clear k1 k2
  obtain ⟨k1, k2⟩ := (M.out.nth 2 rfl).two
  go_wp2_with fail
  refine (c8.out _).mono ?_
  rintro r w6_ ⟨rfl, hb⟩
  replace M := Lib.hid (M.out.below hb)
  clear hb
  clear k1 k2
  obtain ⟨k1, k2⟩ := (M.out.nth 3 rfl).two
  obtain ⟨k3, k4⟩ := (M.out.nth 2 rfl).two
  obtain ⟨k5, k6⟩ := (M.out.nth 1 rfl).two
  go_wp2_with fail
  refine (c9.out _).mono ?_
  rintro r w7_ ⟨rfl, hb⟩
  replace M := Lib.hid (M.out.below hb)
  clear hb
  clear k1 k2 k3 k4 k5 k6
  obtain ⟨k1, k2⟩ := (M.out.nth 4 rfl).two
  go_wp2_with fail
  refine (c10.out _).mono ?_
  rintro r w8_ ⟨rfl, hb⟩
  replace M := Lib.hid (M.out.below hb)
  clear hb
  clear k1 k2
  go_wp2_with fail
  refine (c11.out _).mono ?_
  rintro r w9_ ⟨rfl, hb⟩
  replace M := Lib.hid (M.out.below hb)
  clear hb
  replace M := Lib.hid (M.out.made #[.float .f64 pl, .float .f64 ph] 24).front
  replace M := Lib.hid (M.out.made #[.float .f64 ql, .float .f64 qh] 24).front
  simp only [World.size_alloc] at M
  go_wp2_with fail
  refine (c12.out _).mono ?_
  rintro r w10_ ⟨rfl, hb⟩
  replace M := Lib.hid (M.out.below hb)
  clear hb
  obtain ⟨k1, k2⟩ := (M.out.nth 1 rfl).two
  go_wp2_with fail
  refine (c13.out _).mono ?_
  rintro r w11_ ⟨rfl, hb⟩
  replace M := Lib.hid (M.out.below hb)
  clear hb
  clear k1 k2
  go_wp2_with fail
  refine (c14.out _).mono ?_
  rintro r w12_ ⟨rfl, rfl⟩
  go_wp2_with fail
  refine (c15.out _).mono ?_
  rintro r w13_ ⟨rfl, hb⟩
  replace M := Lib.hid (M.out.below hb)
  clear hb
  go_wp2
  go_ret
  exact ⟨rfl, M.out.base⟩

set_option maxRecDepth 100000 in
set_option maxHeartbeats 16000000 in
theorem circle_bad {ul uh : Nat} (w : World)
    (c1 : Hid (∀ w, Calls Try.prog 13 #[.agg #[.float .f64 ul, .float .f64 uh]] w fun r w' => r = .returned (.tuple #[.agg #[.float .f64 0, .float .f64 0], .agg #[.float .f64 0, .float .f64 0], .int .i64 2]) ∧ Below w.heap.size w w'))
    (c2 : Hid (∀ w, Calls Try.prog 14 #[.agg #[.float .f64 ul, .float .f64 uh]] w fun r w' => r = .returned (.bool false) ∧ Below w.heap.size w w'))
    (c3 : Hid (∀ w, Calls Try.prog 15 #[.agg #[.float .f64 0, .float .f64 0], .agg #[.float .f64 0, .float .f64 0]] w fun r w' => r = .returned (.bool true) ∧ Below w.heap.size w w'))
    (c5 : Hid (∀ w, Calls Try.prog 16 #[] w fun r w' => r = .returned (.bool true) ∧ Below w.heap.size w w')) :
    Calls Try.prog 3 #[.agg #[.float .f64 ul, .float .f64 uh]] w fun r w' => r = .returned (.bool true) ∧ Below w.heap.size w w' := by
  have M := Lib.hid ((Own.nil w).made #[.float .f64 ul, .float .f64 uh] 24)
  have eqF := eq_floats
  go_enter Try.func3, Try.ntmps3
  obtain ⟨k1, k2⟩ := (M.out.nth 0 rfl).two
  go_wp2_with fail
  refine (c1.out _).mono ?_
  rintro r w1_ ⟨rfl, hb⟩
  replace M := Lib.hid (M.out.below hb)
  clear hb
  clear k1 k2
  replace M := Lib.hid (M.out.made #[.float .f64 0, .float .f64 0] 24)
  replace M := Lib.hid (M.out.made #[.float .f64 0, .float .f64 0] 24)
  simp only [World.size_alloc] at M
  obtain ⟨k1, k2⟩ := (M.out.nth 2 rfl).two
  go_wp2_with fail
  refine (c2.out _).mono ?_
  rintro r w2_ ⟨rfl, hb⟩
  replace M := Lib.hid (M.out.below hb)
  clear hb
  clear k1 k2
  obtain ⟨k1, k2⟩ := (M.out.nth 1 rfl).two
  go_wp2_with fail
  refine (c3.out _).mono ?_
  rintro r w3_ ⟨rfl, hb⟩
  replace M := Lib.hid (M.out.below hb)
  clear hb
  clear k1 k2
  obtain ⟨k1, k2⟩ := (M.out.nth 0 rfl).two
  go_wp2_with fail
  refine (c3.out _).mono ?_
  rintro r w4_ ⟨rfl, hb⟩
  replace M := Lib.hid (M.out.below hb)
  clear hb
  clear k1 k2
  go_wp2_with fail
  refine (c5.out _).mono ?_
  rintro r w5_ ⟨rfl, hb⟩
  replace M := Lib.hid (M.out.below hb)
  clear hb
  go_wp2
  go_ret
  exact ⟨rfl, M.out.base⟩

end Go.Proofs.Ytoocmocaelcbkaa
