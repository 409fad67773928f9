
/- VecTimes: the law's walks. -/
import Derived.Test.YtdppppaoflhgdaaQO1
import Derived.Deep.RegionHeld3
import Derived.Test.YtdppppaoflhgdaaQVt
namespace Go.Proofs.Ytdppppaoflhgdaa
open Go.RowKit
attribute [local go_sem] run_store_float

theorem eq_floatsT (x y : Nat) (w : World) : (Op.equalIn 9999 22 (.float .f64 x) (.float .f64 y)).run Try.prog w = .ok (Op.floatEq .f64 x y) w := by
  have hf := run_underlying Try.underlying22 (w := w)
  show (Op.equalIn (9998 + 1) 22 _ _).run Try.prog w = _
  rw [Op.equalIn]
  simp only [Sem.run_bind, hf, Result.andThen]
  simp [go_sem]
theorem Has1.three' {v : World} {b : Nat} {x0 x1 x2 : Value} (h : Has1 v (b, #[x0, x1, x2])) : v.cell? ⟨b, 0, none⟩ = some x0 ∧ v.cell? ⟨b, 1, none⟩ = some x1 ∧ v.cell? ⟨b, 2, none⟩ = some x2 :=
  ⟨h.2.1 0, h.2.1 1, h.2.1 2⟩

section
variable {P : Program} {ops : Array Oper} {Q : Exit → Act → World → Prop} {md : Region.Mode} {S : World → Prop}
theorem lp_cccp_1 {a0 : Act} {B v : World} {l : List (Nat × Array Value)} (_ : Hid (Own B l v)) {w0 : World} {L0 : Array Bool} (c1 c2 c3 c4 m1 : Nat) (slots : List Nat) (N : Nat) (J : List (Nat × Array Value) → Act → Nat → List (Option Nat) → Act → World → Prop) (hok : latOkP [false, false, false, true] md ops L0 [c1, c2, c3, c4] [m1] = true)
    (hsl : (slots.all fun s => decide (s < a0.tmps.size)) = true) (h0 : ∀ A : Act, (∀ s, s ∈ slots → s < A.tmps.size) → J l A 0 (List.replicate 1 none) A w0)
    (hS : ∀ k p a w, J l a0 k p a w → S w)
    (k1 : ∀ p a w, J l a0 0 p a w → wpOp P ops Q c1 (fun b v => J l a0 1 p b v) a w)
    (k2 : ∀ p a w, J l a0 1 p a w → wpOp P ops Q c2 (fun b v => J l a0 2 p b v) a w)
    (k3 : ∀ p a w, J l a0 2 p a w → wpOp P ops Q c3 (fun b v => J l a0 3 p b v) a w)
    (k4 : ∀ p a w, J l a0 3 p a w → ∃ o x, ops[c4]? = some o ∧ YieldsIf P ops S o x a ∧ (∀ c a w, Q (.panic c) (a.put o.dst x) w → Q (.panic c) a w) ∧ J l a0 4 p (a.put o.dst x) w)
    (n1 : ∀ k p a w, p[0]? = some none → J l a0 k p a w → wpOp P ops Q m1 (fun b v => ∃ q, J l a0 k (p.set 0 (some q)) b v) a w)
    (fin : ∀ q1 a w, J l a0 4 [some q1] a w → wpAnyV P md ops Q S [] N (lstOf L0 [c1, c2, c3, c4] [m1] 4 [true]) a w) :
    wpAnyV P md ops Q S [] (N + 5) L0 a0 w0 := by
  refine latP_from (pl := [false, false, false, true]) [c1, c2, c3, c4] [m1] slots N 5 (J l) hok rfl hsl h0 hS (fun k i p a w hk hn hJ => ?_) (fun k i p a w hk hn hJ => ?_) (fun k m i p a w hm hp hJ => ?_) (fun p a w hp hall hJ => ?_)
  · rcases k with _ | _ | _ | _ | k
    · obtain rfl : c1 = i := by simpa using hk
      exact k1 p a w hJ
    · obtain rfl : c2 = i := by simpa using hk
      exact k2 p a w hJ
    · obtain rfl : c3 = i := by simpa using hk
      exact k3 p a w hJ
    · exact absurd hn (by decide)
    · simp at hk
  · rcases k with _ | _ | _ | _ | k
    · exact absurd hn (by decide)
    · exact absurd hn (by decide)
    · exact absurd hn (by decide)
    · obtain rfl : c4 = i := by simpa using hk
      exact k4 p a w hJ
    · simp at hk
  · rcases m with _ | m
    · obtain rfl : m1 = i := by simpa using hm
      exact n1 k p a w hp hJ
    · simp at hm
  · obtain ⟨q1, rfl⟩ := fin_one hp hall
    exact fin q1 a w hJ
end

/-- Region 1. -/
def vttJ1 (w : World) (gx gy gz : Nat) (l : RowL) (a0 : Act) (k : Nat) (p : List (Option Nat)) (a : Act) (v : World) : Prop :=
  ∃ y1 y2 y3 y4 z1 : Value, a = (((((a0.put (some 10) y1).put (some 14) y2).put (some 18) y3).put (some 19) y4).put (some 6) z1) ∧ (0 < k → y1 = .float .f64 gx) ∧ (1 < k → y2 = .float .f64 gy) ∧ (2 < k → y3 = .float .f64 gz) ∧ (3 < k → y4 = .agg #[.float .f64 gx, .float .f64 gy, .float .f64 gz]) ∧ (∀ q, p[0]? = some (some q) → z1 = .pointer (some ⟨q, 0, none⟩)) ∧ OwnF w l [#[.float .f64 0, .float .f64 0, .float .f64 0]] p v
section
variable {w v : World} {gx gy gz : Nat} {l : RowL} {a0 a : Act} {p : List (Option Nat)}
theorem vttJ1_0 (h : vttJ1 w gx gy gz l a0 0 p a v) : ∃ y1 y2 y3 y4 z1 : Value, a = (((((a0.put (some 10) y1).put (some 14) y2).put (some 18) y3).put (some 19) y4).put (some 6) z1) ∧ (∀ q, p[0]? = some (some q) → z1 = .pointer (some ⟨q, 0, none⟩)) ∧ OwnF w l [#[.float .f64 0, .float .f64 0, .float .f64 0]] p v := by
  obtain ⟨y1, y2, y3, y4, z1, ha, E1, E2, E3, E4, G1, h⟩ := h
  exact ⟨y1, y2, y3, y4, z1, ha, G1, h⟩
theorem vttJ1_1 (h : vttJ1 w gx gy gz l a0 1 p a v) : ∃ y2 y3 y4 z1 : Value, a = (((((a0.put (some 10) (.float .f64 gx)).put (some 14) y2).put (some 18) y3).put (some 19) y4).put (some 6) z1) ∧ (∀ q, p[0]? = some (some q) → z1 = .pointer (some ⟨q, 0, none⟩)) ∧ OwnF w l [#[.float .f64 0, .float .f64 0, .float .f64 0]] p v := by
  obtain ⟨y1, y2, y3, y4, z1, ha, E1, E2, E3, E4, G1, h⟩ := h
  obtain rfl := E1 (by decide)
  exact ⟨y2, y3, y4, z1, ha, G1, h⟩
theorem vttJ1_2 (h : vttJ1 w gx gy gz l a0 2 p a v) : ∃ y3 y4 z1 : Value, a = (((((a0.put (some 10) (.float .f64 gx)).put (some 14) (.float .f64 gy)).put (some 18) y3).put (some 19) y4).put (some 6) z1) ∧ (∀ q, p[0]? = some (some q) → z1 = .pointer (some ⟨q, 0, none⟩)) ∧ OwnF w l [#[.float .f64 0, .float .f64 0, .float .f64 0]] p v := by
  obtain ⟨y1, y2, y3, y4, z1, ha, E1, E2, E3, E4, G1, h⟩ := h
  obtain rfl := E1 (by decide)
  obtain rfl := E2 (by decide)
  exact ⟨y3, y4, z1, ha, G1, h⟩
theorem vttJ1_3 (h : vttJ1 w gx gy gz l a0 3 p a v) : ∃ y4 z1 : Value, a = (((((a0.put (some 10) (.float .f64 gx)).put (some 14) (.float .f64 gy)).put (some 18) (.float .f64 gz)).put (some 19) y4).put (some 6) z1) ∧ (∀ q, p[0]? = some (some q) → z1 = .pointer (some ⟨q, 0, none⟩)) ∧ OwnF w l [#[.float .f64 0, .float .f64 0, .float .f64 0]] p v := by
  obtain ⟨y1, y2, y3, y4, z1, ha, E1, E2, E3, E4, G1, h⟩ := h
  obtain rfl := E1 (by decide)
  obtain rfl := E2 (by decide)
  obtain rfl := E3 (by decide)
  exact ⟨y4, z1, ha, G1, h⟩
theorem vttJ1_fin {q1 : Nat} (h : vttJ1 w gx gy gz l a0 4 [some q1] a v) : a = (((((a0.put (some 10) (.float .f64 gx)).put (some 14) (.float .f64 gy)).put (some 18) (.float .f64 gz)).put (some 19) (.agg #[.float .f64 gx, .float .f64 gy, .float .f64 gz])).put (some 6) (.pointer (some ⟨q1, 0, none⟩))) ∧ OwnF w l [#[.float .f64 0, .float .f64 0, .float .f64 0]] [some q1] v := by
  obtain ⟨y1, y2, y3, y4, z1, ha, E1, E2, E3, E4, G1, h⟩ := h
  obtain rfl := E1 (by decide)
  obtain rfl := E2 (by decide)
  obtain rfl := E3 (by decide)
  obtain rfl := E4 (by decide)
  obtain rfl := G1 _ rfl
  exact ⟨ha, h⟩
end

set_option maxRecDepth 100000 in
set_option maxHeartbeats 16000000 in
theorem times_t {fx fy fz gx gy gz hx hy hz : Nat} {kk : Int} (w : World)
    (c1 : Hid (∀ w, Calls Try.prog 45 #[.float .f64 fx, .int .i64 kk] w fun r w' => r = .returned (.float .f64 gx) ∧ w = w'))
    (c2 : Hid (∀ w, Calls Try.prog 45 #[.float .f64 fy, .int .i64 kk] w fun r w' => r = .returned (.float .f64 gy) ∧ w = w'))
    (c3 : Hid (∀ w, Calls Try.prog 45 #[.float .f64 fz, .int .i64 kk] w fun r w' => r = .returned (.float .f64 gz) ∧ w = w'))
    (c4 : Hid (∀ w, Calls Try.prog 45 #[.float .f64 gx, .int .i64 (IntKind.i64.wrap (-kk))] w fun r w' => r = .returned (.float .f64 hx) ∧ w = w'))
    (o_eqlhx_fx : ((FloatKind.f64.format.order hx fx == some Ordering.eq) = true))
    (c5 : Hid (∀ w, Calls Try.prog 45 #[.float .f64 gy, .int .i64 (IntKind.i64.wrap (-kk))] w fun r w' => r = .returned (.float .f64 hy) ∧ w = w'))
    (o_eqlhy_fy : ((FloatKind.f64.format.order hy fy == some Ordering.eq) = true))
    (c6 : Hid (∀ w, Calls Try.prog 45 #[.float .f64 gz, .int .i64 (IntKind.i64.wrap (-kk))] w fun r w' => r = .returned (.float .f64 hz) ∧ w = w'))
    (o_eqlhz_fz : ((FloatKind.f64.format.order hz fz == some Ordering.eq) = true)) :
    Calls Try.prog 10 #[.agg #[.float .f64 fx, .float .f64 fy, .float .f64 fz], .int .i64 kk] w fun r w' => r = .returned (.tuple #[.agg #[.float .f64 gx, .float .f64 gy, .float .f64 gz], .bool true]) ∧ Below w.heap.size w w' := by
  have M := Lib.hid (((Own.nil w).made #[.float .f64 fx, .float .f64 fy, .float .f64 fz] 24).made #[.float .f64 0, .float .f64 0, .float .f64 0] 24)
  simp only [World.size_alloc] at M
  have eqF := eq_floatsT
  go_enter Try.func10, Try.ntmps10
  go_upto_region 1 with fail
  replace M := Lib.hid M.out.drew
  revert M
  generalize ((w.alloc (.cells #[.float .f64 fx, .float .f64 fy, .float .f64 fz] 24)).alloc (.cells #[.float .f64 0, .float .f64 0, .float .f64 0] 24)) = W0_
  intro M
  refine wp_region_noPanic ?_
  refine tails_region (S := fun w' => (w'.cell? ⟨w.heap.size, 0, none⟩ = some (.float .f64 fx) ∧ w'.cell? ⟨w.heap.size, 1, none⟩ = some (.float .f64 fy) ∧ w'.cell? ⟨w.heap.size, 2, none⟩ = some (.float .f64 fz))) [] (by kernel_rfl) ?_ (fun hS => ?_)
  · exact (M.out.nth 1 rfl).three'
  refine tk (x := ?_) 0 rfl (by kernel_rfl) ⟨by kernel_rfl, ?_⟩ (fun _ _ _ h => h) hS ?_
  rotate_left; focus (intro w hSw; (try dsimp only at hSw); go_simp; try with_reducible rfl)
  refine tk (x := ?_) 1 rfl (by kernel_rfl) ⟨by kernel_rfl, ?_⟩ (fun _ _ _ h => h) hS ?_
  rotate_left; focus (intro w hSw; (try dsimp only at hSw); go_simp; try with_reducible rfl)
  refine tk (x := ?_) 2 rfl (by kernel_rfl) ⟨by kernel_rfl, ?_⟩ (fun _ _ _ h => h) hS ?_
  rotate_left; focus (intro w hSw; (try dsimp only at hSw); go_simp; try with_reducible rfl)
  refine tk (x := ?_) 4 rfl (by kernel_rfl) ⟨by kernel_rfl, ?_⟩ (fun _ _ _ h => h) hS ?_
  rotate_left; focus (intro w hSw; (try dsimp only at hSw); go_simp; try with_reducible rfl)
  refine tk (x := ?_) 5 rfl (by kernel_rfl) ⟨by kernel_rfl, ?_⟩ (fun _ _ _ h => h) hS ?_
  rotate_left; focus (intro w hSw; (try dsimp only at hSw); go_simp; try with_reducible rfl)
  refine tk (x := ?_) 6 rfl (by kernel_rfl) ⟨by kernel_rfl, ?_⟩ (fun _ _ _ h => h) hS ?_
  rotate_left; focus (intro w hSw; (try dsimp only at hSw); go_simp; try with_reducible rfl)
  refine tk (x := ?_) 8 rfl (by kernel_rfl) ⟨by kernel_rfl, ?_⟩ (fun _ _ _ h => h) hS ?_
  rotate_left; focus (intro w hSw; (try dsimp only at hSw); go_simp; try with_reducible rfl)
  refine tk (x := ?_) 9 rfl (by kernel_rfl) ⟨by kernel_rfl, ?_⟩ (fun _ _ _ h => h) hS ?_
  rotate_left; focus (intro w hSw; (try dsimp only at hSw); go_simp; try with_reducible rfl)
  refine tk (x := ?_) 10 rfl (by kernel_rfl) ⟨by kernel_rfl, ?_⟩ (fun _ _ _ h => h) hS ?_
  rotate_left; focus (intro w hSw; (try dsimp only at hSw); go_simp; try with_reducible rfl)
  conv => arg 9; simp only [Act.put, go_sem]
  refine lp_cccp_1 M 3 7 11 12 13 [10, 14, 18, 19, 6] 1 (vttJ1 w gx gy gz) (by kernel_rfl) (by kernel_rfl) ?_ ?_ ?_ ?_ ?_ ?_ ?_ ?_
  · intro A hA
    obtain ⟨y1, hq1⟩ := put_ex (hA 10 (by simp))
    obtain ⟨y2, hq2⟩ := put_ex (hA 14 (by simp))
    obtain ⟨y3, hq3⟩ := put_ex (hA 18 (by simp))
    obtain ⟨y4, hq4⟩ := put_ex (hA 19 (by simp))
    obtain ⟨z1, hq5⟩ := put_ex (hA 6 (by simp))
    exact ⟨y1, y2, y3, y4, z1, by rw [hq1, hq2, hq3, hq4, hq5], by omega, by omega, by omega, by omega, by simp, OwnF.start M.out 1⟩
  · rintro k p a v ⟨y1, y2, y3, y4, z1, _, _, _, _, _, _, h⟩
    exact (h.own.nth 1 rfl).three'
  · intro p a v hJ
    refine op_step (o := _) rfl (fun K hK => ?_)
    obtain ⟨y1, y2, y3, y4, z1, ha, gg1, h⟩ := vttJ1_0 hJ
    have h := Lib.hid h
    clear hJ
    subst ha
    go_simp
    refine (c1.out _).mono ?_
    rintro rr w5 ⟨rfl, rfl⟩
    try go_wp2_with fail
    refine hK.out _ _ ⟨_, y2, y3, y4, z1, ?_, fun _ => rfl, by omega, by omega, by omega, gg1, h.out⟩
    kernel_rfl
  · intro p a v hJ
    refine op_step (o := _) rfl (fun K hK => ?_)
    obtain ⟨y2, y3, y4, z1, ha, gg1, h⟩ := vttJ1_1 hJ
    have h := Lib.hid h
    clear hJ
    subst ha
    go_simp
    refine (c2.out _).mono ?_
    rintro rr w5 ⟨rfl, rfl⟩
    try go_wp2_with fail
    refine hK.out _ _ ⟨_, _, y3, y4, z1, ?_, fun _ => rfl, fun _ => rfl, by omega, by omega, gg1, h.out⟩
    kernel_rfl
  · intro p a v hJ
    refine op_step (o := _) rfl (fun K hK => ?_)
    obtain ⟨y3, y4, z1, ha, gg1, h⟩ := vttJ1_2 hJ
    have h := Lib.hid h
    clear hJ
    subst ha
    go_simp
    refine (c3.out _).mono ?_
    rintro rr w5 ⟨rfl, rfl⟩
    try go_wp2_with fail
    refine hK.out _ _ ⟨_, _, _, y4, z1, ?_, fun _ => rfl, fun _ => rfl, fun _ => rfl, by omega, gg1, h.out⟩
    kernel_rfl
  · intro p a v hJ
    replace hJ := vttJ1_3 hJ
    refine Exists.elim hJ (fun y4 hJ => ?_)
    refine Exists.elim hJ (fun z1 hJ => ?_)
    have ha := hJ.1
    have gg1 := hJ.2.1
    have h := hJ.2.2
    clear hJ
    subst ha
    refine ⟨_, .agg #[.float .f64 gx, .float .f64 gy, .float .f64 gz], rfl, Or.inl ⟨by kernel_rfl, ?_⟩, (fun _ _ _ h => h), _, _, _, _, z1, ?_, fun _ => rfl, fun _ => rfl, fun _ => rfl, fun _ => rfl, gg1, h⟩
    · intro w hSw; clear hSw h; go_simp; try with_reducible rfl
    · kernel_rfl
  · intro k p a v hp hJ
    refine op_step (o := _) rfl (fun K hK => ?_)
    obtain ⟨y1, y2, y3, y4, z1, ha, ee1, ee2, ee3, ee4, gg1, h⟩ := hJ
    have h := Lib.hid h
    subst ha
    go_simp
    refine hK.out _ _ ⟨v.heap.size, y1, y2, y3, y4, .pointer (some ⟨v.heap.size, 0, none⟩), ?_, ee1, ee2, ee3, ee4, fun q hq => ptr_set hq, h.out.alloc hp rfl _⟩
    kernel_rfl
  intro p1_1 a v hJ
  obtain ⟨rfl, h⟩ := vttJ1_fin hJ
  clear hJ
  replace M := Lib.hid h.fin1
  clear h
  refine tails_one (T := []) (i := 14) (o := _) rfl (by kernel_rfl) (fun K hK => ?_)
  have kc := (M.out.nth 0 rfl).2.1
  have kf := (M.out.nth 0 rfl).2.2
  replace M : Hid (Own w [(p1_1, #[.float .f64 gx, .float .f64 0, .float .f64 0]), ((w.heap.size + 1), #[.float .f64 0, .float .f64 0, .float .f64 0]), (w.heap.size, #[.float .f64 fx, .float .f64 fy, .float .f64 fz])] _) := Lib.hid ((M.out.setIn 0 rfl 0 (.float .f64 gx)).to (by rfl))
  replace M : Hid (Own w [(p1_1, #[.float .f64 gx, .float .f64 gy, .float .f64 0]), ((w.heap.size + 1), #[.float .f64 0, .float .f64 0, .float .f64 0]), (w.heap.size, #[.float .f64 fx, .float .f64 fy, .float .f64 fz])] _) := Lib.hid ((M.out.setIn 0 rfl 1 (.float .f64 gy)).to (by rfl))
  replace M : Hid (Own w [(p1_1, #[.float .f64 gx, .float .f64 gy, .float .f64 gz]), ((w.heap.size + 1), #[.float .f64 0, .float .f64 0, .float .f64 0]), (w.heap.size, #[.float .f64 fx, .float .f64 fy, .float .f64 fz])] _) := Lib.hid ((M.out.setIn 0 rfl 2 (.float .f64 gz)).to (by rfl))
  go_simp
  refine hK.out _ _ (Or.inr (M.out.nth 2 rfl).three') (fun hHeld => ?_)
  clear hK K hHeld kc kf
  refine tails_done (by kernel_rfl) ?_ _
  refine NoPanic.normal ?_
  clear hS
  revert M
  generalize (((v.setCell ⟨p1_1, 0, none⟩ (.float .f64 gx)).setCell ⟨p1_1, 1, none⟩ (.float .f64 gy)).setCell ⟨p1_1, 2, none⟩ (.float .f64 gz)) = W1_
  intro M
  go_upto_region 2 with fail
  replace M := Lib.hid M.out.drew
  refine wp_region_noPanic ?_
  refine tails_region (S := fun w' => (w'.cell? ⟨p1_1, 0, none⟩ = some (.float .f64 gx) ∧ w'.cell? ⟨p1_1, 1, none⟩ = some (.float .f64 gy) ∧ w'.cell? ⟨p1_1, 2, none⟩ = some (.float .f64 gz)) ∧ (w'.cell? ⟨w.heap.size, 0, none⟩ = some (.float .f64 fx) ∧ w'.cell? ⟨w.heap.size, 1, none⟩ = some (.float .f64 fy) ∧ w'.cell? ⟨w.heap.size, 2, none⟩ = some (.float .f64 fz))) [] (by kernel_rfl) ?_ (fun hS => ?_)
  · exact ⟨(M.out.nth 0 rfl).three', (M.out.nth 2 rfl).three'⟩
  revert hS M
  generalize W1_.drew = V_
  intro M hS
  refine tk (x := ?_) 0 rfl (by kernel_rfl) ⟨by kernel_rfl, ?_⟩ (fun _ _ _ h => h) hS ?_
  rotate_left; focus (intro w hSw; (try dsimp only at hSw); go_simp; try with_reducible rfl)
  refine tk (x := ?_) 1 rfl (by kernel_rfl) ⟨by kernel_rfl, ?_⟩ (fun _ _ _ h => h) hS ?_
  rotate_left; focus (intro w hSw; (try dsimp only at hSw); go_simp; try with_reducible rfl)
  refine tk (x := ?_) 2 rfl (by kernel_rfl) ⟨by kernel_rfl, ?_⟩ (fun _ _ _ h => h) hS ?_
  rotate_left; focus (intro w hSw; (try dsimp only at hSw); go_simp; try with_reducible rfl)
  refine tk (x := ?_) 3 rfl (by kernel_rfl) ⟨by kernel_rfl, ?_⟩ (fun _ _ _ h => h) hS ?_
  rotate_left; focus (intro w hSw; (try dsimp only at hSw); go_simp; try with_reducible rfl)
  refine tk (x := ?_) 4 rfl (by kernel_rfl) ⟨by kernel_rfl, ?_⟩ (fun _ _ _ h => h) hS ?_
  rotate_left; focus (intro w hSw; (try dsimp only at hSw); go_simp; try with_reducible rfl)
  refine tk (x := ?_) 6 rfl (by kernel_rfl) ⟨by kernel_rfl, ?_⟩ (fun _ _ _ h => h) hS ?_
  rotate_left; focus (intro w hSw; (try dsimp only at hSw); go_simp; try with_reducible rfl)
  refine tk (x := ?_) 7 rfl (by kernel_rfl) ⟨by kernel_rfl, ?_⟩ (fun _ _ _ h => h) hS ?_
  rotate_left; focus (intro w hSw; (try dsimp only at hSw); go_simp; try with_reducible rfl)
  conv => arg 9; simp only [Act.put, go_sem]
  refine tails_one (T := []) (i := 5) (o := _) rfl (by kernel_rfl) (fun K hK => ?_)
  go_simp
  refine (c4.out _).mono ?_
  rintro rr w2_ ⟨rfl, rfl⟩
  try go_wp2_with fail
  refine hK.out _ _ (Or.inr ⟨(M.out.nth 0 rfl).three', (M.out.nth 2 rfl).three'⟩) (fun hHeld => ?_)
  clear hK K hHeld
  replace hS := (And.intro (M.out.nth 0 rfl).three' (M.out.nth 2 rfl).three')
  refine tk (x := ?_) 8 rfl (by kernel_rfl) ⟨by kernel_rfl, ?_⟩ (fun _ _ _ h => h) hS ?_
  rotate_left; focus (intro w hSw; (try dsimp only at hSw); go_simp; try with_reducible rfl)
  refine tk (x := ?_) 9 rfl (by kernel_rfl) ⟨by kernel_rfl, ?_⟩ (fun _ _ _ h => h) hS ?_
  rotate_left; focus (intro w hSw; (try dsimp only at hSw); go_simp; try with_reducible rfl)
  conv => arg 9; simp only [Act.put, go_sem]
  refine tk (x := ?_) 10 rfl (by kernel_rfl) ⟨by kernel_rfl, ?_⟩ (fun _ _ _ h => h) hS ?_
  rotate_left; focus (intro w hSw; (try dsimp only at hSw); go_simp; try with_reducible rfl)
  refine tk (x := ?_) 11 rfl (by kernel_rfl) ⟨by kernel_rfl, ?_⟩ (fun _ _ _ h => h) hS ?_
  rotate_left; focus (intro w hSw; (try dsimp only at hSw); go_simp; try with_reducible rfl)
  conv => arg 9; simp only [Act.put, go_sem]
  refine tk (x := ?_) 12 rfl (by kernel_rfl) ⟨by kernel_rfl, ?_⟩ (fun _ _ _ h => h) hS ?_
  rotate_left; focus (intro w hSw; (try dsimp only at hSw); go_simp; try with_reducible rfl)
  refine tk (x := ?_) 13 rfl (by kernel_rfl) ⟨by kernel_rfl, ?_⟩ (fun _ _ _ h => h) hS ?_
  rotate_left; focus (intro w hSw; (try dsimp only at hSw); go_simp; try with_reducible rfl)
  conv => arg 9; simp only [Act.put, go_sem]
  refine tk (x := ?_) 15 rfl (by kernel_rfl) ⟨by kernel_rfl, ?_⟩ (fun _ _ _ h => h) hS ?_
  rotate_left; focus (intro w hSw; (try dsimp only at hSw); go_simp; try with_reducible rfl)
  refine tk (x := ?_) 16 rfl (by kernel_rfl) ⟨by kernel_rfl, ?_⟩ (fun _ _ _ h => h) hS ?_
  rotate_left; focus (intro w hSw; (try dsimp only at hSw); go_simp; try with_reducible rfl)
  conv => arg 9; simp only [Act.put, go_sem]
  refine tails_one (T := []) (i := 14) (o := _) rfl (by kernel_rfl) (fun K hK => ?_)
  go_simp
  refine (c5.out _).mono ?_
  rintro rr w3_ ⟨rfl, rfl⟩
  try go_wp2_with fail
  refine hK.out _ _ (Or.inr ⟨(M.out.nth 0 rfl).three', (M.out.nth 2 rfl).three'⟩) (fun hHeld => ?_)
  clear hK K hHeld
  replace hS := (And.intro (M.out.nth 0 rfl).three' (M.out.nth 2 rfl).three')
  refine tk (x := ?_) 17 rfl (by kernel_rfl) ⟨by kernel_rfl, ?_⟩ (fun _ _ _ h => h) hS ?_
  rotate_left; focus (intro w hSw; (try dsimp only at hSw); go_simp; try with_reducible rfl)
  refine tk (x := ?_) 18 rfl (by kernel_rfl) ⟨by kernel_rfl, ?_⟩ (fun _ _ _ h => h) hS ?_
  rotate_left; focus (intro w hSw; (try dsimp only at hSw); go_simp; try with_reducible rfl)
  conv => arg 9; simp only [Act.put, go_sem]
  refine tk (x := ?_) 19 rfl (by kernel_rfl) ⟨by kernel_rfl, ?_⟩ (fun _ _ _ h => h) hS ?_
  rotate_left; focus (intro w hSw; (try dsimp only at hSw); go_simp; try with_reducible rfl)
  refine tk (x := ?_) 20 rfl (by kernel_rfl) ⟨by kernel_rfl, ?_⟩ (fun _ _ _ h => h) hS ?_
  rotate_left; focus (intro w hSw; (try dsimp only at hSw); go_simp; try with_reducible rfl)
  conv => arg 9; simp only [Act.put, go_sem]
  refine tk (x := ?_) 21 rfl (by kernel_rfl) ⟨by kernel_rfl, ?_⟩ (fun _ _ _ h => h) hS ?_
  rotate_left; focus (intro w hSw; (try dsimp only at hSw); go_simp; try with_reducible rfl)
  refine tk (x := ?_) 22 rfl (by kernel_rfl) ⟨by kernel_rfl, ?_⟩ (fun _ _ _ h => h) hS ?_
  rotate_left; focus (intro w hSw; (try dsimp only at hSw); go_simp; try with_reducible rfl)
  conv => arg 9; simp only [Act.put, go_sem]
  refine tk (x := ?_) 23 rfl (by kernel_rfl) ⟨by kernel_rfl, ?_⟩ (fun _ _ _ h => h) hS ?_
  rotate_left; focus (intro w hSw; (try dsimp only at hSw); go_simp; try with_reducible rfl)
  refine tk (x := ?_) 25 rfl (by kernel_rfl) ⟨by kernel_rfl, ?_⟩ (fun _ _ _ h => h) hS ?_
  rotate_left; focus (intro w hSw; (try dsimp only at hSw); go_simp; try with_reducible rfl)
  conv => arg 9; simp only [Act.put, go_sem]
  refine tk (x := ?_) 26 rfl (by kernel_rfl) ⟨by kernel_rfl, ?_⟩ (fun _ _ _ h => h) hS ?_
  rotate_left; focus (intro w hSw; (try dsimp only at hSw); go_simp; try with_reducible rfl)
  refine tails_one (T := []) (i := 24) (o := _) rfl (by kernel_rfl) (fun K hK => ?_)
  go_simp
  refine (c6.out _).mono ?_
  rintro rr w4_ ⟨rfl, rfl⟩
  try go_wp2_with fail
  refine hK.out _ _ (Or.inr ⟨(M.out.nth 0 rfl).three', (M.out.nth 2 rfl).three'⟩) (fun hHeld => ?_)
  clear hK K hHeld
  replace hS := (And.intro (M.out.nth 0 rfl).three' (M.out.nth 2 rfl).three')
  refine tk (x := ?_) 27 rfl (by kernel_rfl) ⟨by kernel_rfl, ?_⟩ (fun _ _ _ h => h) hS ?_
  rotate_left; focus (intro w hSw; (try dsimp only at hSw); go_simp; try with_reducible rfl)
  refine tk (x := ?_) 28 rfl (by kernel_rfl) ⟨by kernel_rfl, ?_⟩ (fun _ _ _ h => h) hS ?_
  rotate_left; focus (intro w hSw; (try dsimp only at hSw); go_simp; try with_reducible rfl)
  conv => arg 9; simp only [Act.put, go_sem]
  refine tails_one (T := []) (i := 29) (o := _) rfl (by kernel_rfl) (fun K hK => ?_)
  have kc := (M.out.nth 1 rfl).2.1
  have kf := (M.out.nth 1 rfl).2.2
  replace M : Hid (Own w [(p1_1, #[.float .f64 gx, .float .f64 gy, .float .f64 gz]), ((w.heap.size + 1), #[.float .f64 gx, .float .f64 0, .float .f64 0]), (w.heap.size, #[.float .f64 fx, .float .f64 fy, .float .f64 fz])] _) := Lib.hid ((M.out.setIn 1 rfl 0 (.float .f64 gx)).to (by rfl))
  replace M : Hid (Own w [(p1_1, #[.float .f64 gx, .float .f64 gy, .float .f64 gz]), ((w.heap.size + 1), #[.float .f64 gx, .float .f64 gy, .float .f64 0]), (w.heap.size, #[.float .f64 fx, .float .f64 fy, .float .f64 fz])] _) := Lib.hid ((M.out.setIn 1 rfl 1 (.float .f64 gy)).to (by rfl))
  replace M : Hid (Own w [(p1_1, #[.float .f64 gx, .float .f64 gy, .float .f64 gz]), ((w.heap.size + 1), #[.float .f64 gx, .float .f64 gy, .float .f64 gz]), (w.heap.size, #[.float .f64 fx, .float .f64 fy, .float .f64 fz])] _) := Lib.hid ((M.out.setIn 1 rfl 2 (.float .f64 gz)).to (by rfl))
  go_simp
  refine hK.out _ _ (Or.inr ⟨(M.out.nth 0 rfl).three', (M.out.nth 2 rfl).three'⟩) (fun hHeld => ?_)
  clear hK K hHeld kc kf
  refine tails_one (T := []) (i := 30) (o := _) rfl (by kernel_rfl) (fun K hK => ?_)
  go_simp
  refine hK.out _ _ (Or.inr ⟨(M.out.nth 0 rfl).three', (M.out.nth 2 rfl).three'⟩) (fun hHeld => ?_)
  clear hK K hHeld
  refine tails_done (by kernel_rfl) ?_ _
  refine NoPanic.normal ?_
  clear hS
  revert M
  generalize (((V_.setCell ⟨(w.heap.size + 1), 0, none⟩ (.float .f64 gx)).setCell ⟨(w.heap.size + 1), 1, none⟩ (.float .f64 gy)).setCell ⟨(w.heap.size + 1), 2, none⟩ (.float .f64 gz)) = W5_
  intro M
  go_wp2
  obtain ⟨f1, f2, f3⟩ := (M.out.nth 1 rfl).three'
  exact bodyPost_ret (v := .tuple #[.agg #[.float .f64 gx, .float .f64 gy, .float .f64 gz], .bool true]) (by simp [results, Try.results10, go_sem, f1, f2, f3]) rfl ⟨rfl, M.out.base⟩

/-- Region 1. -/
def vtaJ1 (w : World) (gx gy gz : Nat) (l : RowL) (a0 : Act) (k : Nat) (p : List (Option Nat)) (a : Act) (v : World) : Prop :=
  ∃ y1 y2 y3 y4 z1 : Value, a = (((((a0.put (some 10) y1).put (some 14) y2).put (some 18) y3).put (some 19) y4).put (some 6) z1) ∧ (0 < k → y1 = .float .f64 gx) ∧ (1 < k → y2 = .float .f64 gy) ∧ (2 < k → y3 = .float .f64 gz) ∧ (3 < k → y4 = .agg #[.float .f64 gx, .float .f64 gy, .float .f64 gz]) ∧ (∀ q, p[0]? = some (some q) → z1 = .pointer (some ⟨q, 0, none⟩)) ∧ OwnF w l [#[.float .f64 0, .float .f64 0, .float .f64 0]] p v
section
variable {w v : World} {gx gy gz : Nat} {l : RowL} {a0 a : Act} {p : List (Option Nat)}
theorem vtaJ1_0 (h : vtaJ1 w gx gy gz l a0 0 p a v) : ∃ y1 y2 y3 y4 z1 : Value, a = (((((a0.put (some 10) y1).put (some 14) y2).put (some 18) y3).put (some 19) y4).put (some 6) z1) ∧ (∀ q, p[0]? = some (some q) → z1 = .pointer (some ⟨q, 0, none⟩)) ∧ OwnF w l [#[.float .f64 0, .float .f64 0, .float .f64 0]] p v := by
  obtain ⟨y1, y2, y3, y4, z1, ha, E1, E2, E3, E4, G1, h⟩ := h
  exact ⟨y1, y2, y3, y4, z1, ha, G1, h⟩
theorem vtaJ1_1 (h : vtaJ1 w gx gy gz l a0 1 p a v) : ∃ y2 y3 y4 z1 : Value, a = (((((a0.put (some 10) (.float .f64 gx)).put (some 14) y2).put (some 18) y3).put (some 19) y4).put (some 6) z1) ∧ (∀ q, p[0]? = some (some q) → z1 = .pointer (some ⟨q, 0, none⟩)) ∧ OwnF w l [#[.float .f64 0, .float .f64 0, .float .f64 0]] p v := by
  obtain ⟨y1, y2, y3, y4, z1, ha, E1, E2, E3, E4, G1, h⟩ := h
  obtain rfl := E1 (by decide)
  exact ⟨y2, y3, y4, z1, ha, G1, h⟩
theorem vtaJ1_2 (h : vtaJ1 w gx gy gz l a0 2 p a v) : ∃ y3 y4 z1 : Value, a = (((((a0.put (some 10) (.float .f64 gx)).put (some 14) (.float .f64 gy)).put (some 18) y3).put (some 19) y4).put (some 6) z1) ∧ (∀ q, p[0]? = some (some q) → z1 = .pointer (some ⟨q, 0, none⟩)) ∧ OwnF w l [#[.float .f64 0, .float .f64 0, .float .f64 0]] p v := by
  obtain ⟨y1, y2, y3, y4, z1, ha, E1, E2, E3, E4, G1, h⟩ := h
  obtain rfl := E1 (by decide)
  obtain rfl := E2 (by decide)
  exact ⟨y3, y4, z1, ha, G1, h⟩
theorem vtaJ1_3 (h : vtaJ1 w gx gy gz l a0 3 p a v) : ∃ y4 z1 : Value, a = (((((a0.put (some 10) (.float .f64 gx)).put (some 14) (.float .f64 gy)).put (some 18) (.float .f64 gz)).put (some 19) y4).put (some 6) z1) ∧ (∀ q, p[0]? = some (some q) → z1 = .pointer (some ⟨q, 0, none⟩)) ∧ OwnF w l [#[.float .f64 0, .float .f64 0, .float .f64 0]] p v := by
  obtain ⟨y1, y2, y3, y4, z1, ha, E1, E2, E3, E4, G1, h⟩ := h
  obtain rfl := E1 (by decide)
  obtain rfl := E2 (by decide)
  obtain rfl := E3 (by decide)
  exact ⟨y4, z1, ha, G1, h⟩
theorem vtaJ1_fin {q1 : Nat} (h : vtaJ1 w gx gy gz l a0 4 [some q1] a v) : a = (((((a0.put (some 10) (.float .f64 gx)).put (some 14) (.float .f64 gy)).put (some 18) (.float .f64 gz)).put (some 19) (.agg #[.float .f64 gx, .float .f64 gy, .float .f64 gz])).put (some 6) (.pointer (some ⟨q1, 0, none⟩))) ∧ OwnF w l [#[.float .f64 0, .float .f64 0, .float .f64 0]] [some q1] v := by
  obtain ⟨y1, y2, y3, y4, z1, ha, E1, E2, E3, E4, G1, h⟩ := h
  obtain rfl := E1 (by decide)
  obtain rfl := E2 (by decide)
  obtain rfl := E3 (by decide)
  obtain rfl := E4 (by decide)
  obtain rfl := G1 _ rfl
  exact ⟨ha, h⟩
end

set_option maxRecDepth 100000 in
set_option maxHeartbeats 16000000 in
theorem times_a {fx fy fz gx gy gz hx : Nat} {kk : Int} (w : World)
    (c1 : Hid (∀ w, Calls Try.prog 45 #[.float .f64 fx, .int .i64 kk] w fun r w' => r = .returned (.float .f64 gx) ∧ w = w'))
    (c2 : Hid (∀ w, Calls Try.prog 45 #[.float .f64 fy, .int .i64 kk] w fun r w' => r = .returned (.float .f64 gy) ∧ w = w'))
    (c3 : Hid (∀ w, Calls Try.prog 45 #[.float .f64 fz, .int .i64 kk] w fun r w' => r = .returned (.float .f64 gz) ∧ w = w'))
    (c4 : Hid (∀ w, Calls Try.prog 45 #[.float .f64 gx, .int .i64 (IntKind.i64.wrap (-kk))] w fun r w' => r = .returned (.float .f64 hx) ∧ w = w'))
    (o_eqlhx_fx : ((FloatKind.f64.format.order hx fx == some Ordering.eq) = false)) :
    Calls Try.prog 10 #[.agg #[.float .f64 fx, .float .f64 fy, .float .f64 fz], .int .i64 kk] w fun r w' => r = .returned (.tuple #[.agg #[.float .f64 gx, .float .f64 gy, .float .f64 gz], .bool false]) ∧ Below w.heap.size w w' := by
  have M := Lib.hid (((Own.nil w).made #[.float .f64 fx, .float .f64 fy, .float .f64 fz] 24).made #[.float .f64 0, .float .f64 0, .float .f64 0] 24)
  simp only [World.size_alloc] at M
  have eqF := eq_floatsT
  go_enter Try.func10, Try.ntmps10
  go_upto_region 1 with fail
  replace M := Lib.hid M.out.drew
  revert M
  generalize ((w.alloc (.cells #[.float .f64 fx, .float .f64 fy, .float .f64 fz] 24)).alloc (.cells #[.float .f64 0, .float .f64 0, .float .f64 0] 24)) = W0_
  intro M
  refine wp_region_noPanic ?_
  refine tails_region (S := fun w' => (w'.cell? ⟨w.heap.size, 0, none⟩ = some (.float .f64 fx) ∧ w'.cell? ⟨w.heap.size, 1, none⟩ = some (.float .f64 fy) ∧ w'.cell? ⟨w.heap.size, 2, none⟩ = some (.float .f64 fz))) [] (by kernel_rfl) ?_ (fun hS => ?_)
  · exact (M.out.nth 1 rfl).three'
  refine tk (x := ?_) 0 rfl (by kernel_rfl) ⟨by kernel_rfl, ?_⟩ (fun _ _ _ h => h) hS ?_
  rotate_left; focus (intro w hSw; (try dsimp only at hSw); go_simp; try with_reducible rfl)
  refine tk (x := ?_) 1 rfl (by kernel_rfl) ⟨by kernel_rfl, ?_⟩ (fun _ _ _ h => h) hS ?_
  rotate_left; focus (intro w hSw; (try dsimp only at hSw); go_simp; try with_reducible rfl)
  refine tk (x := ?_) 2 rfl (by kernel_rfl) ⟨by kernel_rfl, ?_⟩ (fun _ _ _ h => h) hS ?_
  rotate_left; focus (intro w hSw; (try dsimp only at hSw); go_simp; try with_reducible rfl)
  refine tk (x := ?_) 4 rfl (by kernel_rfl) ⟨by kernel_rfl, ?_⟩ (fun _ _ _ h => h) hS ?_
  rotate_left; focus (intro w hSw; (try dsimp only at hSw); go_simp; try with_reducible rfl)
  refine tk (x := ?_) 5 rfl (by kernel_rfl) ⟨by kernel_rfl, ?_⟩ (fun _ _ _ h => h) hS ?_
  rotate_left; focus (intro w hSw; (try dsimp only at hSw); go_simp; try with_reducible rfl)
  refine tk (x := ?_) 6 rfl (by kernel_rfl) ⟨by kernel_rfl, ?_⟩ (fun _ _ _ h => h) hS ?_
  rotate_left; focus (intro w hSw; (try dsimp only at hSw); go_simp; try with_reducible rfl)
  refine tk (x := ?_) 8 rfl (by kernel_rfl) ⟨by kernel_rfl, ?_⟩ (fun _ _ _ h => h) hS ?_
  rotate_left; focus (intro w hSw; (try dsimp only at hSw); go_simp; try with_reducible rfl)
  refine tk (x := ?_) 9 rfl (by kernel_rfl) ⟨by kernel_rfl, ?_⟩ (fun _ _ _ h => h) hS ?_
  rotate_left; focus (intro w hSw; (try dsimp only at hSw); go_simp; try with_reducible rfl)
  refine tk (x := ?_) 10 rfl (by kernel_rfl) ⟨by kernel_rfl, ?_⟩ (fun _ _ _ h => h) hS ?_
  rotate_left; focus (intro w hSw; (try dsimp only at hSw); go_simp; try with_reducible rfl)
  conv => arg 9; simp only [Act.put, go_sem]
  refine lp_cccp_1 M 3 7 11 12 13 [10, 14, 18, 19, 6] 1 (vtaJ1 w gx gy gz) (by kernel_rfl) (by kernel_rfl) ?_ ?_ ?_ ?_ ?_ ?_ ?_ ?_
  · intro A hA
    obtain ⟨y1, hq1⟩ := put_ex (hA 10 (by simp))
    obtain ⟨y2, hq2⟩ := put_ex (hA 14 (by simp))
    obtain ⟨y3, hq3⟩ := put_ex (hA 18 (by simp))
    obtain ⟨y4, hq4⟩ := put_ex (hA 19 (by simp))
    obtain ⟨z1, hq5⟩ := put_ex (hA 6 (by simp))
    exact ⟨y1, y2, y3, y4, z1, by rw [hq1, hq2, hq3, hq4, hq5], by omega, by omega, by omega, by omega, by simp, OwnF.start M.out 1⟩
  · rintro k p a v ⟨y1, y2, y3, y4, z1, _, _, _, _, _, _, h⟩
    exact (h.own.nth 1 rfl).three'
  · intro p a v hJ
    refine op_step (o := _) rfl (fun K hK => ?_)
    obtain ⟨y1, y2, y3, y4, z1, ha, gg1, h⟩ := vtaJ1_0 hJ
    have h := Lib.hid h
    clear hJ
    subst ha
    go_simp
    refine (c1.out _).mono ?_
    rintro rr w5 ⟨rfl, rfl⟩
    try go_wp2_with fail
    refine hK.out _ _ ⟨_, y2, y3, y4, z1, ?_, fun _ => rfl, by omega, by omega, by omega, gg1, h.out⟩
    kernel_rfl
  · intro p a v hJ
    refine op_step (o := _) rfl (fun K hK => ?_)
    obtain ⟨y2, y3, y4, z1, ha, gg1, h⟩ := vtaJ1_1 hJ
    have h := Lib.hid h
    clear hJ
    subst ha
    go_simp
    refine (c2.out _).mono ?_
    rintro rr w5 ⟨rfl, rfl⟩
    try go_wp2_with fail
    refine hK.out _ _ ⟨_, _, y3, y4, z1, ?_, fun _ => rfl, fun _ => rfl, by omega, by omega, gg1, h.out⟩
    kernel_rfl
  · intro p a v hJ
    refine op_step (o := _) rfl (fun K hK => ?_)
    obtain ⟨y3, y4, z1, ha, gg1, h⟩ := vtaJ1_2 hJ
    have h := Lib.hid h
    clear hJ
    subst ha
    go_simp
    refine (c3.out _).mono ?_
    rintro rr w5 ⟨rfl, rfl⟩
    try go_wp2_with fail
    refine hK.out _ _ ⟨_, _, _, y4, z1, ?_, fun _ => rfl, fun _ => rfl, fun _ => rfl, by omega, gg1, h.out⟩
    kernel_rfl
  · intro p a v hJ
    replace hJ := vtaJ1_3 hJ
    refine Exists.elim hJ (fun y4 hJ => ?_)
    refine Exists.elim hJ (fun z1 hJ => ?_)
    have ha := hJ.1
    have gg1 := hJ.2.1
    have h := hJ.2.2
    clear hJ
    subst ha
    refine ⟨_, .agg #[.float .f64 gx, .float .f64 gy, .float .f64 gz], rfl, Or.inl ⟨by kernel_rfl, ?_⟩, (fun _ _ _ h => h), _, _, _, _, z1, ?_, fun _ => rfl, fun _ => rfl, fun _ => rfl, fun _ => rfl, gg1, h⟩
    · intro w hSw; clear hSw h; go_simp; try with_reducible rfl
    · kernel_rfl
  · intro k p a v hp hJ
    refine op_step (o := _) rfl (fun K hK => ?_)
    obtain ⟨y1, y2, y3, y4, z1, ha, ee1, ee2, ee3, ee4, gg1, h⟩ := hJ
    have h := Lib.hid h
    subst ha
    go_simp
    refine hK.out _ _ ⟨v.heap.size, y1, y2, y3, y4, .pointer (some ⟨v.heap.size, 0, none⟩), ?_, ee1, ee2, ee3, ee4, fun q hq => ptr_set hq, h.out.alloc hp rfl _⟩
    kernel_rfl
  intro p1_1 a v hJ
  obtain ⟨rfl, h⟩ := vtaJ1_fin hJ
  clear hJ
  replace M := Lib.hid h.fin1
  clear h
  refine tails_one (T := []) (i := 14) (o := _) rfl (by kernel_rfl) (fun K hK => ?_)
  have kc := (M.out.nth 0 rfl).2.1
  have kf := (M.out.nth 0 rfl).2.2
  replace M : Hid (Own w [(p1_1, #[.float .f64 gx, .float .f64 0, .float .f64 0]), ((w.heap.size + 1), #[.float .f64 0, .float .f64 0, .float .f64 0]), (w.heap.size, #[.float .f64 fx, .float .f64 fy, .float .f64 fz])] _) := Lib.hid ((M.out.setIn 0 rfl 0 (.float .f64 gx)).to (by rfl))
  replace M : Hid (Own w [(p1_1, #[.float .f64 gx, .float .f64 gy, .float .f64 0]), ((w.heap.size + 1), #[.float .f64 0, .float .f64 0, .float .f64 0]), (w.heap.size, #[.float .f64 fx, .float .f64 fy, .float .f64 fz])] _) := Lib.hid ((M.out.setIn 0 rfl 1 (.float .f64 gy)).to (by rfl))
  replace M : Hid (Own w [(p1_1, #[.float .f64 gx, .float .f64 gy, .float .f64 gz]), ((w.heap.size + 1), #[.float .f64 0, .float .f64 0, .float .f64 0]), (w.heap.size, #[.float .f64 fx, .float .f64 fy, .float .f64 fz])] _) := Lib.hid ((M.out.setIn 0 rfl 2 (.float .f64 gz)).to (by rfl))
  go_simp
  refine hK.out _ _ (Or.inr (M.out.nth 2 rfl).three') (fun hHeld => ?_)
  clear hK K hHeld kc kf
  refine tails_done (by kernel_rfl) ?_ _
  refine NoPanic.normal ?_
  clear hS
  revert M
  generalize (((v.setCell ⟨p1_1, 0, none⟩ (.float .f64 gx)).setCell ⟨p1_1, 1, none⟩ (.float .f64 gy)).setCell ⟨p1_1, 2, none⟩ (.float .f64 gz)) = W1_
  intro M
  go_upto_region 2 with fail
  replace M := Lib.hid M.out.drew
  refine wp_region_noPanic ?_
  refine tails_region (S := fun w' => (w'.cell? ⟨p1_1, 0, none⟩ = some (.float .f64 gx) ∧ w'.cell? ⟨p1_1, 1, none⟩ = some (.float .f64 gy) ∧ w'.cell? ⟨p1_1, 2, none⟩ = some (.float .f64 gz)) ∧ (w'.cell? ⟨w.heap.size, 0, none⟩ = some (.float .f64 fx) ∧ w'.cell? ⟨w.heap.size, 1, none⟩ = some (.float .f64 fy) ∧ w'.cell? ⟨w.heap.size, 2, none⟩ = some (.float .f64 fz))) [] (by kernel_rfl) ?_ (fun hS => ?_)
  · exact ⟨(M.out.nth 0 rfl).three', (M.out.nth 2 rfl).three'⟩
  revert hS M
  generalize W1_.drew = V_
  intro M hS
  refine tk (x := ?_) 0 rfl (by kernel_rfl) ⟨by kernel_rfl, ?_⟩ (fun _ _ _ h => h) hS ?_
  rotate_left; focus (intro w hSw; (try dsimp only at hSw); go_simp; try with_reducible rfl)
  refine tk (x := ?_) 1 rfl (by kernel_rfl) ⟨by kernel_rfl, ?_⟩ (fun _ _ _ h => h) hS ?_
  rotate_left; focus (intro w hSw; (try dsimp only at hSw); go_simp; try with_reducible rfl)
  refine tk (x := ?_) 2 rfl (by kernel_rfl) ⟨by kernel_rfl, ?_⟩ (fun _ _ _ h => h) hS ?_
  rotate_left; focus (intro w hSw; (try dsimp only at hSw); go_simp; try with_reducible rfl)
  refine tk (x := ?_) 3 rfl (by kernel_rfl) ⟨by kernel_rfl, ?_⟩ (fun _ _ _ h => h) hS ?_
  rotate_left; focus (intro w hSw; (try dsimp only at hSw); go_simp; try with_reducible rfl)
  refine tk (x := ?_) 4 rfl (by kernel_rfl) ⟨by kernel_rfl, ?_⟩ (fun _ _ _ h => h) hS ?_
  rotate_left; focus (intro w hSw; (try dsimp only at hSw); go_simp; try with_reducible rfl)
  refine tk (x := ?_) 6 rfl (by kernel_rfl) ⟨by kernel_rfl, ?_⟩ (fun _ _ _ h => h) hS ?_
  rotate_left; focus (intro w hSw; (try dsimp only at hSw); go_simp; try with_reducible rfl)
  refine tk (x := ?_) 7 rfl (by kernel_rfl) ⟨by kernel_rfl, ?_⟩ (fun _ _ _ h => h) hS ?_
  rotate_left; focus (intro w hSw; (try dsimp only at hSw); go_simp; try with_reducible rfl)
  conv => arg 9; simp only [Act.put, go_sem]
  refine tails_one (T := []) (i := 5) (o := _) rfl (by kernel_rfl) (fun K hK => ?_)
  go_simp
  refine (c4.out _).mono ?_
  rintro rr w2_ ⟨rfl, rfl⟩
  try go_wp2_with fail
  refine hK.out _ _ (Or.inr ⟨(M.out.nth 0 rfl).three', (M.out.nth 2 rfl).three'⟩) (fun hHeld => ?_)
  clear hK K hHeld
  replace hS := (And.intro (M.out.nth 0 rfl).three' (M.out.nth 2 rfl).three')
  refine tk (x := ?_) 8 rfl (by kernel_rfl) ⟨by kernel_rfl, ?_⟩ (fun _ _ _ h => h) hS ?_
  rotate_left; focus (intro w hSw; (try dsimp only at hSw); go_simp; try with_reducible rfl)
  refine tk (x := ?_) 9 rfl (by kernel_rfl) ⟨by kernel_rfl, ?_⟩ (fun _ _ _ h => h) hS ?_
  rotate_left; focus (intro w hSw; (try dsimp only at hSw); go_simp; try with_reducible rfl)
  conv => arg 9; simp only [Act.put, go_sem]
  refine tails_take (T := []) (i := 10) (o := _) (x := undef) rfl (by kernel_rfl) (by kernel_rfl) (by kernel_rfl) (by kernel_rfl) (fun _ _ _ h => h) (Or.inr ⟨by kernel_rfl, rfl⟩) hS ?_
  refine tails_take (T := []) (i := 11) (o := _) (x := undef) rfl (by kernel_rfl) (by kernel_rfl) (by kernel_rfl) (by kernel_rfl) (fun _ _ _ h => h) (Or.inr ⟨by kernel_rfl, rfl⟩) hS ?_
  conv => arg 9; simp only [Act.put, go_sem]
  refine tails_take (T := []) (i := 12) (o := _) (x := undef) rfl (by kernel_rfl) (by kernel_rfl) (by kernel_rfl) (by kernel_rfl) (fun _ _ _ h => h) (Or.inr ⟨by kernel_rfl, rfl⟩) hS ?_
  refine tails_take (T := []) (i := 13) (o := _) (x := undef) rfl (by kernel_rfl) (by kernel_rfl) (by kernel_rfl) (by kernel_rfl) (fun _ _ _ h => h) (Or.inr ⟨by kernel_rfl, rfl⟩) hS ?_
  conv => arg 9; simp only [Act.put, go_sem]
  refine tails_take (T := []) (i := 15) (o := _) (x := undef) rfl (by kernel_rfl) (by kernel_rfl) (by kernel_rfl) (by kernel_rfl) (fun _ _ _ h => h) (Or.inr ⟨by kernel_rfl, rfl⟩) hS ?_
  refine tails_take (T := []) (i := 16) (o := _) (x := undef) rfl (by kernel_rfl) (by kernel_rfl) (by kernel_rfl) (by kernel_rfl) (fun _ _ _ h => h) (Or.inr ⟨by kernel_rfl, rfl⟩) hS ?_
  conv => arg 9; simp only [Act.put, go_sem]
  refine tails_one (T := []) (i := 14) (o := _) rfl (by kernel_rfl) (fun K hK => ?_)
  go_simp
  refine hK.out _ _ (Or.inr ⟨(M.out.nth 0 rfl).three', (M.out.nth 2 rfl).three'⟩) (fun hHeld => ?_)
  clear hK K hHeld
  refine tails_take (T := []) (i := 17) (o := _) (x := undef) rfl (by kernel_rfl) (by kernel_rfl) (by kernel_rfl) (by kernel_rfl) (fun _ _ _ h => h) (Or.inr ⟨by kernel_rfl, rfl⟩) hS ?_
  refine tk (x := ?_) 18 rfl (by kernel_rfl) ⟨by kernel_rfl, ?_⟩ (fun _ _ _ h => h) hS ?_
  rotate_left; focus (intro w hSw; (try dsimp only at hSw); go_simp; try with_reducible rfl)
  conv => arg 9; simp only [Act.put, go_sem]
  refine tk (x := ?_) 19 rfl (by kernel_rfl) ⟨by kernel_rfl, ?_⟩ (fun _ _ _ h => h) hS ?_
  rotate_left; focus (intro w hSw; (try dsimp only at hSw); go_simp; try with_reducible rfl)
  refine tails_take (T := []) (i := 20) (o := _) (x := undef) rfl (by kernel_rfl) (by kernel_rfl) (by kernel_rfl) (by kernel_rfl) (fun _ _ _ h => h) (Or.inr ⟨by kernel_rfl, rfl⟩) hS ?_
  conv => arg 9; simp only [Act.put, go_sem]
  refine tails_take (T := []) (i := 21) (o := _) (x := undef) rfl (by kernel_rfl) (by kernel_rfl) (by kernel_rfl) (by kernel_rfl) (fun _ _ _ h => h) (Or.inr ⟨by kernel_rfl, rfl⟩) hS ?_
  refine tails_take (T := []) (i := 22) (o := _) (x := undef) rfl (by kernel_rfl) (by kernel_rfl) (by kernel_rfl) (by kernel_rfl) (fun _ _ _ h => h) (Or.inr ⟨by kernel_rfl, rfl⟩) hS ?_
  conv => arg 9; simp only [Act.put, go_sem]
  refine tails_take (T := []) (i := 23) (o := _) (x := undef) rfl (by kernel_rfl) (by kernel_rfl) (by kernel_rfl) (by kernel_rfl) (fun _ _ _ h => h) (Or.inr ⟨by kernel_rfl, rfl⟩) hS ?_
  refine tails_take (T := []) (i := 25) (o := _) (x := undef) rfl (by kernel_rfl) (by kernel_rfl) (by kernel_rfl) (by kernel_rfl) (fun _ _ _ h => h) (Or.inr ⟨by kernel_rfl, rfl⟩) hS ?_
  conv => arg 9; simp only [Act.put, go_sem]
  refine tails_take (T := []) (i := 26) (o := _) (x := undef) rfl (by kernel_rfl) (by kernel_rfl) (by kernel_rfl) (by kernel_rfl) (fun _ _ _ h => h) (Or.inr ⟨by kernel_rfl, rfl⟩) hS ?_
  refine tails_one (T := []) (i := 24) (o := _) rfl (by kernel_rfl) (fun K hK => ?_)
  go_simp
  refine hK.out _ _ (Or.inr ⟨(M.out.nth 0 rfl).three', (M.out.nth 2 rfl).three'⟩) (fun hHeld => ?_)
  clear hK K hHeld
  refine tails_take (T := []) (i := 27) (o := _) (x := undef) rfl (by kernel_rfl) (by kernel_rfl) (by kernel_rfl) (by kernel_rfl) (fun _ _ _ h => h) (Or.inr ⟨by kernel_rfl, rfl⟩) hS ?_
  refine tk (x := ?_) 28 rfl (by kernel_rfl) ⟨by kernel_rfl, ?_⟩ (fun _ _ _ h => h) hS ?_
  rotate_left; focus (intro w hSw; (try dsimp only at hSw); go_simp; try with_reducible rfl)
  conv => arg 9; simp only [Act.put, go_sem]
  refine tails_one (T := []) (i := 29) (o := _) rfl (by kernel_rfl) (fun K hK => ?_)
  have kc := (M.out.nth 1 rfl).2.1
  have kf := (M.out.nth 1 rfl).2.2
  replace M : Hid (Own w [(p1_1, #[.float .f64 gx, .float .f64 gy, .float .f64 gz]), ((w.heap.size + 1), #[.float .f64 gx, .float .f64 0, .float .f64 0]), (w.heap.size, #[.float .f64 fx, .float .f64 fy, .float .f64 fz])] _) := Lib.hid ((M.out.setIn 1 rfl 0 (.float .f64 gx)).to (by rfl))
  replace M : Hid (Own w [(p1_1, #[.float .f64 gx, .float .f64 gy, .float .f64 gz]), ((w.heap.size + 1), #[.float .f64 gx, .float .f64 gy, .float .f64 0]), (w.heap.size, #[.float .f64 fx, .float .f64 fy, .float .f64 fz])] _) := Lib.hid ((M.out.setIn 1 rfl 1 (.float .f64 gy)).to (by rfl))
  replace M : Hid (Own w [(p1_1, #[.float .f64 gx, .float .f64 gy, .float .f64 gz]), ((w.heap.size + 1), #[.float .f64 gx, .float .f64 gy, .float .f64 gz]), (w.heap.size, #[.float .f64 fx, .float .f64 fy, .float .f64 fz])] _) := Lib.hid ((M.out.setIn 1 rfl 2 (.float .f64 gz)).to (by rfl))
  go_simp
  refine hK.out _ _ (Or.inr ⟨(M.out.nth 0 rfl).three', (M.out.nth 2 rfl).three'⟩) (fun hHeld => ?_)
  clear hK K hHeld kc kf
  refine tails_one (T := []) (i := 30) (o := _) rfl (by kernel_rfl) (fun K hK => ?_)
  go_simp
  refine hK.out _ _ (Or.inr ⟨(M.out.nth 0 rfl).three', (M.out.nth 2 rfl).three'⟩) (fun hHeld => ?_)
  clear hK K hHeld
  refine tails_done (by kernel_rfl) ?_ _
  refine NoPanic.normal ?_
  clear hS
  revert M
  generalize (((V_.setCell ⟨(w.heap.size + 1), 0, none⟩ (.float .f64 gx)).setCell ⟨(w.heap.size + 1), 1, none⟩ (.float .f64 gy)).setCell ⟨(w.heap.size + 1), 2, none⟩ (.float .f64 gz)) = W3_
  intro M
  go_wp2
  obtain ⟨f1, f2, f3⟩ := (M.out.nth 1 rfl).three'
  exact bodyPost_ret (v := .tuple #[.agg #[.float .f64 gx, .float .f64 gy, .float .f64 gz], .bool false]) (by simp [results, Try.results10, go_sem, f1, f2, f3]) rfl ⟨rfl, M.out.base⟩

/-- Region 1. -/
def vtbJ1 (w : World) (gx gy gz : Nat) (l : RowL) (a0 : Act) (k : Nat) (p : List (Option Nat)) (a : Act) (v : World) : Prop :=
  ∃ y1 y2 y3 y4 z1 : Value, a = (((((a0.put (some 10) y1).put (some 14) y2).put (some 18) y3).put (some 19) y4).put (some 6) z1) ∧ (0 < k → y1 = .float .f64 gx) ∧ (1 < k → y2 = .float .f64 gy) ∧ (2 < k → y3 = .float .f64 gz) ∧ (3 < k → y4 = .agg #[.float .f64 gx, .float .f64 gy, .float .f64 gz]) ∧ (∀ q, p[0]? = some (some q) → z1 = .pointer (some ⟨q, 0, none⟩)) ∧ OwnF w l [#[.float .f64 0, .float .f64 0, .float .f64 0]] p v
section
variable {w v : World} {gx gy gz : Nat} {l : RowL} {a0 a : Act} {p : List (Option Nat)}
theorem vtbJ1_0 (h : vtbJ1 w gx gy gz l a0 0 p a v) : ∃ y1 y2 y3 y4 z1 : Value, a = (((((a0.put (some 10) y1).put (some 14) y2).put (some 18) y3).put (some 19) y4).put (some 6) z1) ∧ (∀ q, p[0]? = some (some q) → z1 = .pointer (some ⟨q, 0, none⟩)) ∧ OwnF w l [#[.float .f64 0, .float .f64 0, .float .f64 0]] p v := by
  obtain ⟨y1, y2, y3, y4, z1, ha, E1, E2, E3, E4, G1, h⟩ := h
  exact ⟨y1, y2, y3, y4, z1, ha, G1, h⟩
theorem vtbJ1_1 (h : vtbJ1 w gx gy gz l a0 1 p a v) : ∃ y2 y3 y4 z1 : Value, a = (((((a0.put (some 10) (.float .f64 gx)).put (some 14) y2).put (some 18) y3).put (some 19) y4).put (some 6) z1) ∧ (∀ q, p[0]? = some (some q) → z1 = .pointer (some ⟨q, 0, none⟩)) ∧ OwnF w l [#[.float .f64 0, .float .f64 0, .float .f64 0]] p v := by
  obtain ⟨y1, y2, y3, y4, z1, ha, E1, E2, E3, E4, G1, h⟩ := h
  obtain rfl := E1 (by decide)
  exact ⟨y2, y3, y4, z1, ha, G1, h⟩
theorem vtbJ1_2 (h : vtbJ1 w gx gy gz l a0 2 p a v) : ∃ y3 y4 z1 : Value, a = (((((a0.put (some 10) (.float .f64 gx)).put (some 14) (.float .f64 gy)).put (some 18) y3).put (some 19) y4).put (some 6) z1) ∧ (∀ q, p[0]? = some (some q) → z1 = .pointer (some ⟨q, 0, none⟩)) ∧ OwnF w l [#[.float .f64 0, .float .f64 0, .float .f64 0]] p v := by
  obtain ⟨y1, y2, y3, y4, z1, ha, E1, E2, E3, E4, G1, h⟩ := h
  obtain rfl := E1 (by decide)
  obtain rfl := E2 (by decide)
  exact ⟨y3, y4, z1, ha, G1, h⟩
theorem vtbJ1_3 (h : vtbJ1 w gx gy gz l a0 3 p a v) : ∃ y4 z1 : Value, a = (((((a0.put (some 10) (.float .f64 gx)).put (some 14) (.float .f64 gy)).put (some 18) (.float .f64 gz)).put (some 19) y4).put (some 6) z1) ∧ (∀ q, p[0]? = some (some q) → z1 = .pointer (some ⟨q, 0, none⟩)) ∧ OwnF w l [#[.float .f64 0, .float .f64 0, .float .f64 0]] p v := by
  obtain ⟨y1, y2, y3, y4, z1, ha, E1, E2, E3, E4, G1, h⟩ := h
  obtain rfl := E1 (by decide)
  obtain rfl := E2 (by decide)
  obtain rfl := E3 (by decide)
  exact ⟨y4, z1, ha, G1, h⟩
theorem vtbJ1_fin {q1 : Nat} (h : vtbJ1 w gx gy gz l a0 4 [some q1] a v) : a = (((((a0.put (some 10) (.float .f64 gx)).put (some 14) (.float .f64 gy)).put (some 18) (.float .f64 gz)).put (some 19) (.agg #[.float .f64 gx, .float .f64 gy, .float .f64 gz])).put (some 6) (.pointer (some ⟨q1, 0, none⟩))) ∧ OwnF w l [#[.float .f64 0, .float .f64 0, .float .f64 0]] [some q1] v := by
  obtain ⟨y1, y2, y3, y4, z1, ha, E1, E2, E3, E4, G1, h⟩ := h
  obtain rfl := E1 (by decide)
  obtain rfl := E2 (by decide)
  obtain rfl := E3 (by decide)
  obtain rfl := E4 (by decide)
  obtain rfl := G1 _ rfl
  exact ⟨ha, h⟩
end

set_option maxRecDepth 100000 in
set_option maxHeartbeats 16000000 in
theorem times_b {fx fy fz gx gy gz hx hy : Nat} {kk : Int} (w : World)
    (c1 : Hid (∀ w, Calls Try.prog 45 #[.float .f64 fx, .int .i64 kk] w fun r w' => r = .returned (.float .f64 gx) ∧ w = w'))
    (c2 : Hid (∀ w, Calls Try.prog 45 #[.float .f64 fy, .int .i64 kk] w fun r w' => r = .returned (.float .f64 gy) ∧ w = w'))
    (c3 : Hid (∀ w, Calls Try.prog 45 #[.float .f64 fz, .int .i64 kk] w fun r w' => r = .returned (.float .f64 gz) ∧ w = w'))
    (c4 : Hid (∀ w, Calls Try.prog 45 #[.float .f64 gx, .int .i64 (IntKind.i64.wrap (-kk))] w fun r w' => r = .returned (.float .f64 hx) ∧ w = w'))
    (o_eqlhx_fx : ((FloatKind.f64.format.order hx fx == some Ordering.eq) = true))
    (c5 : Hid (∀ w, Calls Try.prog 45 #[.float .f64 gy, .int .i64 (IntKind.i64.wrap (-kk))] w fun r w' => r = .returned (.float .f64 hy) ∧ w = w'))
    (o_eqlhy_fy : ((FloatKind.f64.format.order hy fy == some Ordering.eq) = false)) :
    Calls Try.prog 10 #[.agg #[.float .f64 fx, .float .f64 fy, .float .f64 fz], .int .i64 kk] w fun r w' => r = .returned (.tuple #[.agg #[.float .f64 gx, .float .f64 gy, .float .f64 gz], .bool false]) ∧ Below w.heap.size w w' := by
  have M := Lib.hid (((Own.nil w).made #[.float .f64 fx, .float .f64 fy, .float .f64 fz] 24).made #[.float .f64 0, .float .f64 0, .float .f64 0] 24)
  simp only [World.size_alloc] at M
  have eqF := eq_floatsT
  go_enter Try.func10, Try.ntmps10
  go_upto_region 1 with fail
  replace M := Lib.hid M.out.drew
  revert M
  generalize ((w.alloc (.cells #[.float .f64 fx, .float .f64 fy, .float .f64 fz] 24)).alloc (.cells #[.float .f64 0, .float .f64 0, .float .f64 0] 24)) = W0_
  intro M
  refine wp_region_noPanic ?_
  refine tails_region (S := fun w' => (w'.cell? ⟨w.heap.size, 0, none⟩ = some (.float .f64 fx) ∧ w'.cell? ⟨w.heap.size, 1, none⟩ = some (.float .f64 fy) ∧ w'.cell? ⟨w.heap.size, 2, none⟩ = some (.float .f64 fz))) [] (by kernel_rfl) ?_ (fun hS => ?_)
  · exact (M.out.nth 1 rfl).three'
  refine tk (x := ?_) 0 rfl (by kernel_rfl) ⟨by kernel_rfl, ?_⟩ (fun _ _ _ h => h) hS ?_
  rotate_left; focus (intro w hSw; (try dsimp only at hSw); go_simp; try with_reducible rfl)
  refine tk (x := ?_) 1 rfl (by kernel_rfl) ⟨by kernel_rfl, ?_⟩ (fun _ _ _ h => h) hS ?_
  rotate_left; focus (intro w hSw; (try dsimp only at hSw); go_simp; try with_reducible rfl)
  refine tk (x := ?_) 2 rfl (by kernel_rfl) ⟨by kernel_rfl, ?_⟩ (fun _ _ _ h => h) hS ?_
  rotate_left; focus (intro w hSw; (try dsimp only at hSw); go_simp; try with_reducible rfl)
  refine tk (x := ?_) 4 rfl (by kernel_rfl) ⟨by kernel_rfl, ?_⟩ (fun _ _ _ h => h) hS ?_
  rotate_left; focus (intro w hSw; (try dsimp only at hSw); go_simp; try with_reducible rfl)
  refine tk (x := ?_) 5 rfl (by kernel_rfl) ⟨by kernel_rfl, ?_⟩ (fun _ _ _ h => h) hS ?_
  rotate_left; focus (intro w hSw; (try dsimp only at hSw); go_simp; try with_reducible rfl)
  refine tk (x := ?_) 6 rfl (by kernel_rfl) ⟨by kernel_rfl, ?_⟩ (fun _ _ _ h => h) hS ?_
  rotate_left; focus (intro w hSw; (try dsimp only at hSw); go_simp; try with_reducible rfl)
  refine tk (x := ?_) 8 rfl (by kernel_rfl) ⟨by kernel_rfl, ?_⟩ (fun _ _ _ h => h) hS ?_
  rotate_left; focus (intro w hSw; (try dsimp only at hSw); go_simp; try with_reducible rfl)
  refine tk (x := ?_) 9 rfl (by kernel_rfl) ⟨by kernel_rfl, ?_⟩ (fun _ _ _ h => h) hS ?_
  rotate_left; focus (intro w hSw; (try dsimp only at hSw); go_simp; try with_reducible rfl)
  refine tk (x := ?_) 10 rfl (by kernel_rfl) ⟨by kernel_rfl, ?_⟩ (fun _ _ _ h => h) hS ?_
  rotate_left; focus (intro w hSw; (try dsimp only at hSw); go_simp; try with_reducible rfl)
  conv => arg 9; simp only [Act.put, go_sem]
  refine lp_cccp_1 M 3 7 11 12 13 [10, 14, 18, 19, 6] 1 (vtbJ1 w gx gy gz) (by kernel_rfl) (by kernel_rfl) ?_ ?_ ?_ ?_ ?_ ?_ ?_ ?_
  · intro A hA
    obtain ⟨y1, hq1⟩ := put_ex (hA 10 (by simp))
    obtain ⟨y2, hq2⟩ := put_ex (hA 14 (by simp))
    obtain ⟨y3, hq3⟩ := put_ex (hA 18 (by simp))
    obtain ⟨y4, hq4⟩ := put_ex (hA 19 (by simp))
    obtain ⟨z1, hq5⟩ := put_ex (hA 6 (by simp))
    exact ⟨y1, y2, y3, y4, z1, by rw [hq1, hq2, hq3, hq4, hq5], by omega, by omega, by omega, by omega, by simp, OwnF.start M.out 1⟩
  · rintro k p a v ⟨y1, y2, y3, y4, z1, _, _, _, _, _, _, h⟩
    exact (h.own.nth 1 rfl).three'
  · intro p a v hJ
    refine op_step (o := _) rfl (fun K hK => ?_)
    obtain ⟨y1, y2, y3, y4, z1, ha, gg1, h⟩ := vtbJ1_0 hJ
    have h := Lib.hid h
    clear hJ
    subst ha
    go_simp
    refine (c1.out _).mono ?_
    rintro rr w5 ⟨rfl, rfl⟩
    try go_wp2_with fail
    refine hK.out _ _ ⟨_, y2, y3, y4, z1, ?_, fun _ => rfl, by omega, by omega, by omega, gg1, h.out⟩
    kernel_rfl
  · intro p a v hJ
    refine op_step (o := _) rfl (fun K hK => ?_)
    obtain ⟨y2, y3, y4, z1, ha, gg1, h⟩ := vtbJ1_1 hJ
    have h := Lib.hid h
    clear hJ
    subst ha
    go_simp
    refine (c2.out _).mono ?_
    rintro rr w5 ⟨rfl, rfl⟩
    try go_wp2_with fail
    refine hK.out _ _ ⟨_, _, y3, y4, z1, ?_, fun _ => rfl, fun _ => rfl, by omega, by omega, gg1, h.out⟩
    kernel_rfl
  · intro p a v hJ
    refine op_step (o := _) rfl (fun K hK => ?_)
    obtain ⟨y3, y4, z1, ha, gg1, h⟩ := vtbJ1_2 hJ
    have h := Lib.hid h
    clear hJ
    subst ha
    go_simp
    refine (c3.out _).mono ?_
    rintro rr w5 ⟨rfl, rfl⟩
    try go_wp2_with fail
    refine hK.out _ _ ⟨_, _, _, y4, z1, ?_, fun _ => rfl, fun _ => rfl, fun _ => rfl, by omega, gg1, h.out⟩
    kernel_rfl
  · intro p a v hJ
    replace hJ := vtbJ1_3 hJ
    refine Exists.elim hJ (fun y4 hJ => ?_)
    refine Exists.elim hJ (fun z1 hJ => ?_)
    have ha := hJ.1
    have gg1 := hJ.2.1
    have h := hJ.2.2
    clear hJ
    subst ha
    refine ⟨_, .agg #[.float .f64 gx, .float .f64 gy, .float .f64 gz], rfl, Or.inl ⟨by kernel_rfl, ?_⟩, (fun _ _ _ h => h), _, _, _, _, z1, ?_, fun _ => rfl, fun _ => rfl, fun _ => rfl, fun _ => rfl, gg1, h⟩
    · intro w hSw; clear hSw h; go_simp; try with_reducible rfl
    · kernel_rfl
  · intro k p a v hp hJ
    refine op_step (o := _) rfl (fun K hK => ?_)
    obtain ⟨y1, y2, y3, y4, z1, ha, ee1, ee2, ee3, ee4, gg1, h⟩ := hJ
    have h := Lib.hid h
    subst ha
    go_simp
    refine hK.out _ _ ⟨v.heap.size, y1, y2, y3, y4, .pointer (some ⟨v.heap.size, 0, none⟩), ?_, ee1, ee2, ee3, ee4, fun q hq => ptr_set hq, h.out.alloc hp rfl _⟩
    kernel_rfl
  intro p1_1 a v hJ
  obtain ⟨rfl, h⟩ := vtbJ1_fin hJ
  clear hJ
  replace M := Lib.hid h.fin1
  clear h
  refine tails_one (T := []) (i := 14) (o := _) rfl (by kernel_rfl) (fun K hK => ?_)
  have kc := (M.out.nth 0 rfl).2.1
  have kf := (M.out.nth 0 rfl).2.2
  replace M : Hid (Own w [(p1_1, #[.float .f64 gx, .float .f64 0, .float .f64 0]), ((w.heap.size + 1), #[.float .f64 0, .float .f64 0, .float .f64 0]), (w.heap.size, #[.float .f64 fx, .float .f64 fy, .float .f64 fz])] _) := Lib.hid ((M.out.setIn 0 rfl 0 (.float .f64 gx)).to (by rfl))
  replace M : Hid (Own w [(p1_1, #[.float .f64 gx, .float .f64 gy, .float .f64 0]), ((w.heap.size + 1), #[.float .f64 0, .float .f64 0, .float .f64 0]), (w.heap.size, #[.float .f64 fx, .float .f64 fy, .float .f64 fz])] _) := Lib.hid ((M.out.setIn 0 rfl 1 (.float .f64 gy)).to (by rfl))
  replace M : Hid (Own w [(p1_1, #[.float .f64 gx, .float .f64 gy, .float .f64 gz]), ((w.heap.size + 1), #[.float .f64 0, .float .f64 0, .float .f64 0]), (w.heap.size, #[.float .f64 fx, .float .f64 fy, .float .f64 fz])] _) := Lib.hid ((M.out.setIn 0 rfl 2 (.float .f64 gz)).to (by rfl))
  go_simp
  refine hK.out _ _ (Or.inr (M.out.nth 2 rfl).three') (fun hHeld => ?_)
  clear hK K hHeld kc kf
  refine tails_done (by kernel_rfl) ?_ _
  refine NoPanic.normal ?_
  clear hS
  revert M
  generalize (((v.setCell ⟨p1_1, 0, none⟩ (.float .f64 gx)).setCell ⟨p1_1, 1, none⟩ (.float .f64 gy)).setCell ⟨p1_1, 2, none⟩ (.float .f64 gz)) = W1_
  intro M
  go_upto_region 2 with fail
  replace M := Lib.hid M.out.drew
  refine wp_region_noPanic ?_
  refine tails_region (S := fun w' => (w'.cell? ⟨p1_1, 0, none⟩ = some (.float .f64 gx) ∧ w'.cell? ⟨p1_1, 1, none⟩ = some (.float .f64 gy) ∧ w'.cell? ⟨p1_1, 2, none⟩ = some (.float .f64 gz)) ∧ (w'.cell? ⟨w.heap.size, 0, none⟩ = some (.float .f64 fx) ∧ w'.cell? ⟨w.heap.size, 1, none⟩ = some (.float .f64 fy) ∧ w'.cell? ⟨w.heap.size, 2, none⟩ = some (.float .f64 fz))) [] (by kernel_rfl) ?_ (fun hS => ?_)
  · exact ⟨(M.out.nth 0 rfl).three', (M.out.nth 2 rfl).three'⟩
  revert hS M
  generalize W1_.drew = V_
  intro M hS
  refine tk (x := ?_) 0 rfl (by kernel_rfl) ⟨by kernel_rfl, ?_⟩ (fun _ _ _ h => h) hS ?_
  rotate_left; focus (intro w hSw; (try dsimp only at hSw); go_simp; try with_reducible rfl)
  refine tk (x := ?_) 1 rfl (by kernel_rfl) ⟨by kernel_rfl, ?_⟩ (fun _ _ _ h => h) hS ?_
  rotate_left; focus (intro w hSw; (try dsimp only at hSw); go_simp; try with_reducible rfl)
  refine tk (x := ?_) 2 rfl (by kernel_rfl) ⟨by kernel_rfl, ?_⟩ (fun _ _ _ h => h) hS ?_
  rotate_left; focus (intro w hSw; (try dsimp only at hSw); go_simp; try with_reducible rfl)
  refine tk (x := ?_) 3 rfl (by kernel_rfl) ⟨by kernel_rfl, ?_⟩ (fun _ _ _ h => h) hS ?_
  rotate_left; focus (intro w hSw; (try dsimp only at hSw); go_simp; try with_reducible rfl)
  refine tk (x := ?_) 4 rfl (by kernel_rfl) ⟨by kernel_rfl, ?_⟩ (fun _ _ _ h => h) hS ?_
  rotate_left; focus (intro w hSw; (try dsimp only at hSw); go_simp; try with_reducible rfl)
  refine tk (x := ?_) 6 rfl (by kernel_rfl) ⟨by kernel_rfl, ?_⟩ (fun _ _ _ h => h) hS ?_
  rotate_left; focus (intro w hSw; (try dsimp only at hSw); go_simp; try with_reducible rfl)
  refine tk (x := ?_) 7 rfl (by kernel_rfl) ⟨by kernel_rfl, ?_⟩ (fun _ _ _ h => h) hS ?_
  rotate_left; focus (intro w hSw; (try dsimp only at hSw); go_simp; try with_reducible rfl)
  conv => arg 9; simp only [Act.put, go_sem]
  refine tails_one (T := []) (i := 5) (o := _) rfl (by kernel_rfl) (fun K hK => ?_)
  go_simp
  refine (c4.out _).mono ?_
  rintro rr w2_ ⟨rfl, rfl⟩
  try go_wp2_with fail
  refine hK.out _ _ (Or.inr ⟨(M.out.nth 0 rfl).three', (M.out.nth 2 rfl).three'⟩) (fun hHeld => ?_)
  clear hK K hHeld
  replace hS := (And.intro (M.out.nth 0 rfl).three' (M.out.nth 2 rfl).three')
  refine tk (x := ?_) 8 rfl (by kernel_rfl) ⟨by kernel_rfl, ?_⟩ (fun _ _ _ h => h) hS ?_
  rotate_left; focus (intro w hSw; (try dsimp only at hSw); go_simp; try with_reducible rfl)
  refine tk (x := ?_) 9 rfl (by kernel_rfl) ⟨by kernel_rfl, ?_⟩ (fun _ _ _ h => h) hS ?_
  rotate_left; focus (intro w hSw; (try dsimp only at hSw); go_simp; try with_reducible rfl)
  conv => arg 9; simp only [Act.put, go_sem]
  refine tk (x := ?_) 10 rfl (by kernel_rfl) ⟨by kernel_rfl, ?_⟩ (fun _ _ _ h => h) hS ?_
  rotate_left; focus (intro w hSw; (try dsimp only at hSw); go_simp; try with_reducible rfl)
  refine tk (x := ?_) 11 rfl (by kernel_rfl) ⟨by kernel_rfl, ?_⟩ (fun _ _ _ h => h) hS ?_
  rotate_left; focus (intro w hSw; (try dsimp only at hSw); go_simp; try with_reducible rfl)
  conv => arg 9; simp only [Act.put, go_sem]
  refine tk (x := ?_) 12 rfl (by kernel_rfl) ⟨by kernel_rfl, ?_⟩ (fun _ _ _ h => h) hS ?_
  rotate_left; focus (intro w hSw; (try dsimp only at hSw); go_simp; try with_reducible rfl)
  refine tk (x := ?_) 13 rfl (by kernel_rfl) ⟨by kernel_rfl, ?_⟩ (fun _ _ _ h => h) hS ?_
  rotate_left; focus (intro w hSw; (try dsimp only at hSw); go_simp; try with_reducible rfl)
  conv => arg 9; simp only [Act.put, go_sem]
  refine tk (x := ?_) 15 rfl (by kernel_rfl) ⟨by kernel_rfl, ?_⟩ (fun _ _ _ h => h) hS ?_
  rotate_left; focus (intro w hSw; (try dsimp only at hSw); go_simp; try with_reducible rfl)
  refine tk (x := ?_) 16 rfl (by kernel_rfl) ⟨by kernel_rfl, ?_⟩ (fun _ _ _ h => h) hS ?_
  rotate_left; focus (intro w hSw; (try dsimp only at hSw); go_simp; try with_reducible rfl)
  conv => arg 9; simp only [Act.put, go_sem]
  refine tails_one (T := []) (i := 14) (o := _) rfl (by kernel_rfl) (fun K hK => ?_)
  go_simp
  refine (c5.out _).mono ?_
  rintro rr w3_ ⟨rfl, rfl⟩
  try go_wp2_with fail
  refine hK.out _ _ (Or.inr ⟨(M.out.nth 0 rfl).three', (M.out.nth 2 rfl).three'⟩) (fun hHeld => ?_)
  clear hK K hHeld
  replace hS := (And.intro (M.out.nth 0 rfl).three' (M.out.nth 2 rfl).three')
  refine tk (x := ?_) 17 rfl (by kernel_rfl) ⟨by kernel_rfl, ?_⟩ (fun _ _ _ h => h) hS ?_
  rotate_left; focus (intro w hSw; (try dsimp only at hSw); go_simp; try with_reducible rfl)
  refine tk (x := ?_) 18 rfl (by kernel_rfl) ⟨by kernel_rfl, ?_⟩ (fun _ _ _ h => h) hS ?_
  rotate_left; focus (intro w hSw; (try dsimp only at hSw); go_simp; try with_reducible rfl)
  conv => arg 9; simp only [Act.put, go_sem]
  refine tk (x := ?_) 19 rfl (by kernel_rfl) ⟨by kernel_rfl, ?_⟩ (fun _ _ _ h => h) hS ?_
  rotate_left; focus (intro w hSw; (try dsimp only at hSw); go_simp; try with_reducible rfl)
  refine tails_take (T := []) (i := 20) (o := _) (x := undef) rfl (by kernel_rfl) (by kernel_rfl) (by kernel_rfl) (by kernel_rfl) (fun _ _ _ h => h) (Or.inr ⟨by kernel_rfl, rfl⟩) hS ?_
  conv => arg 9; simp only [Act.put, go_sem]
  refine tails_take (T := []) (i := 21) (o := _) (x := undef) rfl (by kernel_rfl) (by kernel_rfl) (by kernel_rfl) (by kernel_rfl) (fun _ _ _ h => h) (Or.inr ⟨by kernel_rfl, rfl⟩) hS ?_
  refine tails_take (T := []) (i := 22) (o := _) (x := undef) rfl (by kernel_rfl) (by kernel_rfl) (by kernel_rfl) (by kernel_rfl) (fun _ _ _ h => h) (Or.inr ⟨by kernel_rfl, rfl⟩) hS ?_
  conv => arg 9; simp only [Act.put, go_sem]
  refine tails_take (T := []) (i := 23) (o := _) (x := undef) rfl (by kernel_rfl) (by kernel_rfl) (by kernel_rfl) (by kernel_rfl) (fun _ _ _ h => h) (Or.inr ⟨by kernel_rfl, rfl⟩) hS ?_
  refine tails_take (T := []) (i := 25) (o := _) (x := undef) rfl (by kernel_rfl) (by kernel_rfl) (by kernel_rfl) (by kernel_rfl) (fun _ _ _ h => h) (Or.inr ⟨by kernel_rfl, rfl⟩) hS ?_
  conv => arg 9; simp only [Act.put, go_sem]
  refine tails_take (T := []) (i := 26) (o := _) (x := undef) rfl (by kernel_rfl) (by kernel_rfl) (by kernel_rfl) (by kernel_rfl) (fun _ _ _ h => h) (Or.inr ⟨by kernel_rfl, rfl⟩) hS ?_
  refine tails_one (T := []) (i := 24) (o := _) rfl (by kernel_rfl) (fun K hK => ?_)
  go_simp
  refine hK.out _ _ (Or.inr ⟨(M.out.nth 0 rfl).three', (M.out.nth 2 rfl).three'⟩) (fun hHeld => ?_)
  clear hK K hHeld
  refine tails_take (T := []) (i := 27) (o := _) (x := undef) rfl (by kernel_rfl) (by kernel_rfl) (by kernel_rfl) (by kernel_rfl) (fun _ _ _ h => h) (Or.inr ⟨by kernel_rfl, rfl⟩) hS ?_
  refine tk (x := ?_) 28 rfl (by kernel_rfl) ⟨by kernel_rfl, ?_⟩ (fun _ _ _ h => h) hS ?_
  rotate_left; focus (intro w hSw; (try dsimp only at hSw); go_simp; try with_reducible rfl)
  conv => arg 9; simp only [Act.put, go_sem]
  refine tails_one (T := []) (i := 29) (o := _) rfl (by kernel_rfl) (fun K hK => ?_)
  have kc := (M.out.nth 1 rfl).2.1
  have kf := (M.out.nth 1 rfl).2.2
  replace M : Hid (Own w [(p1_1, #[.float .f64 gx, .float .f64 gy, .float .f64 gz]), ((w.heap.size + 1), #[.float .f64 gx, .float .f64 0, .float .f64 0]), (w.heap.size, #[.float .f64 fx, .float .f64 fy, .float .f64 fz])] _) := Lib.hid ((M.out.setIn 1 rfl 0 (.float .f64 gx)).to (by rfl))
  replace M : Hid (Own w [(p1_1, #[.float .f64 gx, .float .f64 gy, .float .f64 gz]), ((w.heap.size + 1), #[.float .f64 gx, .float .f64 gy, .float .f64 0]), (w.heap.size, #[.float .f64 fx, .float .f64 fy, .float .f64 fz])] _) := Lib.hid ((M.out.setIn 1 rfl 1 (.float .f64 gy)).to (by rfl))
  replace M : Hid (Own w [(p1_1, #[.float .f64 gx, .float .f64 gy, .float .f64 gz]), ((w.heap.size + 1), #[.float .f64 gx, .float .f64 gy, .float .f64 gz]), (w.heap.size, #[.float .f64 fx, .float .f64 fy, .float .f64 fz])] _) := Lib.hid ((M.out.setIn 1 rfl 2 (.float .f64 gz)).to (by rfl))
  go_simp
  refine hK.out _ _ (Or.inr ⟨(M.out.nth 0 rfl).three', (M.out.nth 2 rfl).three'⟩) (fun hHeld => ?_)
  clear hK K hHeld kc kf
  refine tails_one (T := []) (i := 30) (o := _) rfl (by kernel_rfl) (fun K hK => ?_)
  go_simp
  refine hK.out _ _ (Or.inr ⟨(M.out.nth 0 rfl).three', (M.out.nth 2 rfl).three'⟩) (fun hHeld => ?_)
  clear hK K hHeld
  refine tails_done (by kernel_rfl) ?_ _
  refine NoPanic.normal ?_
  clear hS
  revert M
  generalize (((V_.setCell ⟨(w.heap.size + 1), 0, none⟩ (.float .f64 gx)).setCell ⟨(w.heap.size + 1), 1, none⟩ (.float .f64 gy)).setCell ⟨(w.heap.size + 1), 2, none⟩ (.float .f64 gz)) = W4_
  intro M
  go_wp2
  obtain ⟨f1, f2, f3⟩ := (M.out.nth 1 rfl).three'
  exact bodyPost_ret (v := .tuple #[.agg #[.float .f64 gx, .float .f64 gy, .float .f64 gz], .bool false]) (by simp [results, Try.results10, go_sem, f1, f2, f3]) rfl ⟨rfl, M.out.base⟩

/-- Region 1. -/
def vtcJ1 (w : World) (gx gy gz : Nat) (l : RowL) (a0 : Act) (k : Nat) (p : List (Option Nat)) (a : Act) (v : World) : Prop :=
  ∃ y1 y2 y3 y4 z1 : Value, a = (((((a0.put (some 10) y1).put (some 14) y2).put (some 18) y3).put (some 19) y4).put (some 6) z1) ∧ (0 < k → y1 = .float .f64 gx) ∧ (1 < k → y2 = .float .f64 gy) ∧ (2 < k → y3 = .float .f64 gz) ∧ (3 < k → y4 = .agg #[.float .f64 gx, .float .f64 gy, .float .f64 gz]) ∧ (∀ q, p[0]? = some (some q) → z1 = .pointer (some ⟨q, 0, none⟩)) ∧ OwnF w l [#[.float .f64 0, .float .f64 0, .float .f64 0]] p v
section
variable {w v : World} {gx gy gz : Nat} {l : RowL} {a0 a : Act} {p : List (Option Nat)}
theorem vtcJ1_0 (h : vtcJ1 w gx gy gz l a0 0 p a v) : ∃ y1 y2 y3 y4 z1 : Value, a = (((((a0.put (some 10) y1).put (some 14) y2).put (some 18) y3).put (some 19) y4).put (some 6) z1) ∧ (∀ q, p[0]? = some (some q) → z1 = .pointer (some ⟨q, 0, none⟩)) ∧ OwnF w l [#[.float .f64 0, .float .f64 0, .float .f64 0]] p v := by
  obtain ⟨y1, y2, y3, y4, z1, ha, E1, E2, E3, E4, G1, h⟩ := h
  exact ⟨y1, y2, y3, y4, z1, ha, G1, h⟩
theorem vtcJ1_1 (h : vtcJ1 w gx gy gz l a0 1 p a v) : ∃ y2 y3 y4 z1 : Value, a = (((((a0.put (some 10) (.float .f64 gx)).put (some 14) y2).put (some 18) y3).put (some 19) y4).put (some 6) z1) ∧ (∀ q, p[0]? = some (some q) → z1 = .pointer (some ⟨q, 0, none⟩)) ∧ OwnF w l [#[.float .f64 0, .float .f64 0, .float .f64 0]] p v := by
  obtain ⟨y1, y2, y3, y4, z1, ha, E1, E2, E3, E4, G1, h⟩ := h
  obtain rfl := E1 (by decide)
  exact ⟨y2, y3, y4, z1, ha, G1, h⟩
theorem vtcJ1_2 (h : vtcJ1 w gx gy gz l a0 2 p a v) : ∃ y3 y4 z1 : Value, a = (((((a0.put (some 10) (.float .f64 gx)).put (some 14) (.float .f64 gy)).put (some 18) y3).put (some 19) y4).put (some 6) z1) ∧ (∀ q, p[0]? = some (some q) → z1 = .pointer (some ⟨q, 0, none⟩)) ∧ OwnF w l [#[.float .f64 0, .float .f64 0, .float .f64 0]] p v := by
  obtain ⟨y1, y2, y3, y4, z1, ha, E1, E2, E3, E4, G1, h⟩ := h
  obtain rfl := E1 (by decide)
  obtain rfl := E2 (by decide)
  exact ⟨y3, y4, z1, ha, G1, h⟩
theorem vtcJ1_3 (h : vtcJ1 w gx gy gz l a0 3 p a v) : ∃ y4 z1 : Value, a = (((((a0.put (some 10) (.float .f64 gx)).put (some 14) (.float .f64 gy)).put (some 18) (.float .f64 gz)).put (some 19) y4).put (some 6) z1) ∧ (∀ q, p[0]? = some (some q) → z1 = .pointer (some ⟨q, 0, none⟩)) ∧ OwnF w l [#[.float .f64 0, .float .f64 0, .float .f64 0]] p v := by
  obtain ⟨y1, y2, y3, y4, z1, ha, E1, E2, E3, E4, G1, h⟩ := h
  obtain rfl := E1 (by decide)
  obtain rfl := E2 (by decide)
  obtain rfl := E3 (by decide)
  exact ⟨y4, z1, ha, G1, h⟩
theorem vtcJ1_fin {q1 : Nat} (h : vtcJ1 w gx gy gz l a0 4 [some q1] a v) : a = (((((a0.put (some 10) (.float .f64 gx)).put (some 14) (.float .f64 gy)).put (some 18) (.float .f64 gz)).put (some 19) (.agg #[.float .f64 gx, .float .f64 gy, .float .f64 gz])).put (some 6) (.pointer (some ⟨q1, 0, none⟩))) ∧ OwnF w l [#[.float .f64 0, .float .f64 0, .float .f64 0]] [some q1] v := by
  obtain ⟨y1, y2, y3, y4, z1, ha, E1, E2, E3, E4, G1, h⟩ := h
  obtain rfl := E1 (by decide)
  obtain rfl := E2 (by decide)
  obtain rfl := E3 (by decide)
  obtain rfl := E4 (by decide)
  obtain rfl := G1 _ rfl
  exact ⟨ha, h⟩
end

set_option maxRecDepth 100000 in
set_option maxHeartbeats 16000000 in
theorem times_c {fx fy fz gx gy gz hx hy hz : Nat} {kk : Int} (w : World)
    (c1 : Hid (∀ w, Calls Try.prog 45 #[.float .f64 fx, .int .i64 kk] w fun r w' => r = .returned (.float .f64 gx) ∧ w = w'))
    (c2 : Hid (∀ w, Calls Try.prog 45 #[.float .f64 fy, .int .i64 kk] w fun r w' => r = .returned (.float .f64 gy) ∧ w = w'))
    (c3 : Hid (∀ w, Calls Try.prog 45 #[.float .f64 fz, .int .i64 kk] w fun r w' => r = .returned (.float .f64 gz) ∧ w = w'))
    (c4 : Hid (∀ w, Calls Try.prog 45 #[.float .f64 gx, .int .i64 (IntKind.i64.wrap (-kk))] w fun r w' => r = .returned (.float .f64 hx) ∧ w = w'))
    (o_eqlhx_fx : ((FloatKind.f64.format.order hx fx == some Ordering.eq) = true))
    (c5 : Hid (∀ w, Calls Try.prog 45 #[.float .f64 gy, .int .i64 (IntKind.i64.wrap (-kk))] w fun r w' => r = .returned (.float .f64 hy) ∧ w = w'))
    (o_eqlhy_fy : ((FloatKind.f64.format.order hy fy == some Ordering.eq) = true))
    (c6 : Hid (∀ w, Calls Try.prog 45 #[.float .f64 gz, .int .i64 (IntKind.i64.wrap (-kk))] w fun r w' => r = .returned (.float .f64 hz) ∧ w = w'))
    (o_eqlhz_fz : ((FloatKind.f64.format.order hz fz == some Ordering.eq) = false)) :
    Calls Try.prog 10 #[.agg #[.float .f64 fx, .float .f64 fy, .float .f64 fz], .int .i64 kk] w fun r w' => r = .returned (.tuple #[.agg #[.float .f64 gx, .float .f64 gy, .float .f64 gz], .bool false]) ∧ Below w.heap.size w w' := by
  have M := Lib.hid (((Own.nil w).made #[.float .f64 fx, .float .f64 fy, .float .f64 fz] 24).made #[.float .f64 0, .float .f64 0, .float .f64 0] 24)
  simp only [World.size_alloc] at M
  have eqF := eq_floatsT
  go_enter Try.func10, Try.ntmps10
  go_upto_region 1 with fail
  replace M := Lib.hid M.out.drew
  revert M
  generalize ((w.alloc (.cells #[.float .f64 fx, .float .f64 fy, .float .f64 fz] 24)).alloc (.cells #[.float .f64 0, .float .f64 0, .float .f64 0] 24)) = W0_
  intro M
  refine wp_region_noPanic ?_
  refine tails_region (S := fun w' => (w'.cell? ⟨w.heap.size, 0, none⟩ = some (.float .f64 fx) ∧ w'.cell? ⟨w.heap.size, 1, none⟩ = some (.float .f64 fy) ∧ w'.cell? ⟨w.heap.size, 2, none⟩ = some (.float .f64 fz))) [] (by kernel_rfl) ?_ (fun hS => ?_)
  · exact (M.out.nth 1 rfl).three'
  refine tk (x := ?_) 0 rfl (by kernel_rfl) ⟨by kernel_rfl, ?_⟩ (fun _ _ _ h => h) hS ?_
  rotate_left; focus (intro w hSw; (try dsimp only at hSw); go_simp; try with_reducible rfl)
  refine tk (x := ?_) 1 rfl (by kernel_rfl) ⟨by kernel_rfl, ?_⟩ (fun _ _ _ h => h) hS ?_
  rotate_left; focus (intro w hSw; (try dsimp only at hSw); go_simp; try with_reducible rfl)
  refine tk (x := ?_) 2 rfl (by kernel_rfl) ⟨by kernel_rfl, ?_⟩ (fun _ _ _ h => h) hS ?_
  rotate_left; focus (intro w hSw; (try dsimp only at hSw); go_simp; try with_reducible rfl)
  refine tk (x := ?_) 4 rfl (by kernel_rfl) ⟨by kernel_rfl, ?_⟩ (fun _ _ _ h => h) hS ?_
  rotate_left; focus (intro w hSw; (try dsimp only at hSw); go_simp; try with_reducible rfl)
  refine tk (x := ?_) 5 rfl (by kernel_rfl) ⟨by kernel_rfl, ?_⟩ (fun _ _ _ h => h) hS ?_
  rotate_left; focus (intro w hSw; (try dsimp only at hSw); go_simp; try with_reducible rfl)
  refine tk (x := ?_) 6 rfl (by kernel_rfl) ⟨by kernel_rfl, ?_⟩ (fun _ _ _ h => h) hS ?_
  rotate_left; focus (intro w hSw; (try dsimp only at hSw); go_simp; try with_reducible rfl)
  refine tk (x := ?_) 8 rfl (by kernel_rfl) ⟨by kernel_rfl, ?_⟩ (fun _ _ _ h => h) hS ?_
  rotate_left; focus (intro w hSw; (try dsimp only at hSw); go_simp; try with_reducible rfl)
  refine tk (x := ?_) 9 rfl (by kernel_rfl) ⟨by kernel_rfl, ?_⟩ (fun _ _ _ h => h) hS ?_
  rotate_left; focus (intro w hSw; (try dsimp only at hSw); go_simp; try with_reducible rfl)
  refine tk (x := ?_) 10 rfl (by kernel_rfl) ⟨by kernel_rfl, ?_⟩ (fun _ _ _ h => h) hS ?_
  rotate_left; focus (intro w hSw; (try dsimp only at hSw); go_simp; try with_reducible rfl)
  conv => arg 9; simp only [Act.put, go_sem]
  refine lp_cccp_1 M 3 7 11 12 13 [10, 14, 18, 19, 6] 1 (vtcJ1 w gx gy gz) (by kernel_rfl) (by kernel_rfl) ?_ ?_ ?_ ?_ ?_ ?_ ?_ ?_
  · intro A hA
    obtain ⟨y1, hq1⟩ := put_ex (hA 10 (by simp))
    obtain ⟨y2, hq2⟩ := put_ex (hA 14 (by simp))
    obtain ⟨y3, hq3⟩ := put_ex (hA 18 (by simp))
    obtain ⟨y4, hq4⟩ := put_ex (hA 19 (by simp))
    obtain ⟨z1, hq5⟩ := put_ex (hA 6 (by simp))
    exact ⟨y1, y2, y3, y4, z1, by rw [hq1, hq2, hq3, hq4, hq5], by omega, by omega, by omega, by omega, by simp, OwnF.start M.out 1⟩
  · rintro k p a v ⟨y1, y2, y3, y4, z1, _, _, _, _, _, _, h⟩
    exact (h.own.nth 1 rfl).three'
  · intro p a v hJ
    refine op_step (o := _) rfl (fun K hK => ?_)
    obtain ⟨y1, y2, y3, y4, z1, ha, gg1, h⟩ := vtcJ1_0 hJ
    have h := Lib.hid h
    clear hJ
    subst ha
    go_simp
    refine (c1.out _).mono ?_
    rintro rr w5 ⟨rfl, rfl⟩
    try go_wp2_with fail
    refine hK.out _ _ ⟨_, y2, y3, y4, z1, ?_, fun _ => rfl, by omega, by omega, by omega, gg1, h.out⟩
    kernel_rfl
  · intro p a v hJ
    refine op_step (o := _) rfl (fun K hK => ?_)
    obtain ⟨y2, y3, y4, z1, ha, gg1, h⟩ := vtcJ1_1 hJ
    have h := Lib.hid h
    clear hJ
    subst ha
    go_simp
    refine (c2.out _).mono ?_
    rintro rr w5 ⟨rfl, rfl⟩
    try go_wp2_with fail
    refine hK.out _ _ ⟨_, _, y3, y4, z1, ?_, fun _ => rfl, fun _ => rfl, by omega, by omega, gg1, h.out⟩
    kernel_rfl
  · intro p a v hJ
    refine op_step (o := _) rfl (fun K hK => ?_)
    obtain ⟨y3, y4, z1, ha, gg1, h⟩ := vtcJ1_2 hJ
    have h := Lib.hid h
    clear hJ
    subst ha
    go_simp
    refine (c3.out _).mono ?_
    rintro rr w5 ⟨rfl, rfl⟩
    try go_wp2_with fail
    refine hK.out _ _ ⟨_, _, _, y4, z1, ?_, fun _ => rfl, fun _ => rfl, fun _ => rfl, by omega, gg1, h.out⟩
    kernel_rfl
  · intro p a v hJ
    replace hJ := vtcJ1_3 hJ
    refine Exists.elim hJ (fun y4 hJ => ?_)
    refine Exists.elim hJ (fun z1 hJ => ?_)
    have ha := hJ.1
    have gg1 := hJ.2.1
    have h := hJ.2.2
    clear hJ
    subst ha
    refine ⟨_, .agg #[.float .f64 gx, .float .f64 gy, .float .f64 gz], rfl, Or.inl ⟨by kernel_rfl, ?_⟩, (fun _ _ _ h => h), _, _, _, _, z1, ?_, fun _ => rfl, fun _ => rfl, fun _ => rfl, fun _ => rfl, gg1, h⟩
    · intro w hSw; clear hSw h; go_simp; try with_reducible rfl
    · kernel_rfl
  · intro k p a v hp hJ
    refine op_step (o := _) rfl (fun K hK => ?_)
    obtain ⟨y1, y2, y3, y4, z1, ha, ee1, ee2, ee3, ee4, gg1, h⟩ := hJ
    have h := Lib.hid h
    subst ha
    go_simp
    refine hK.out _ _ ⟨v.heap.size, y1, y2, y3, y4, .pointer (some ⟨v.heap.size, 0, none⟩), ?_, ee1, ee2, ee3, ee4, fun q hq => ptr_set hq, h.out.alloc hp rfl _⟩
    kernel_rfl
  intro p1_1 a v hJ
  obtain ⟨rfl, h⟩ := vtcJ1_fin hJ
  clear hJ
  replace M := Lib.hid h.fin1
  clear h
  refine tails_one (T := []) (i := 14) (o := _) rfl (by kernel_rfl) (fun K hK => ?_)
  have kc := (M.out.nth 0 rfl).2.1
  have kf := (M.out.nth 0 rfl).2.2
  replace M : Hid (Own w [(p1_1, #[.float .f64 gx, .float .f64 0, .float .f64 0]), ((w.heap.size + 1), #[.float .f64 0, .float .f64 0, .float .f64 0]), (w.heap.size, #[.float .f64 fx, .float .f64 fy, .float .f64 fz])] _) := Lib.hid ((M.out.setIn 0 rfl 0 (.float .f64 gx)).to (by rfl))
  replace M : Hid (Own w [(p1_1, #[.float .f64 gx, .float .f64 gy, .float .f64 0]), ((w.heap.size + 1), #[.float .f64 0, .float .f64 0, .float .f64 0]), (w.heap.size, #[.float .f64 fx, .float .f64 fy, .float .f64 fz])] _) := Lib.hid ((M.out.setIn 0 rfl 1 (.float .f64 gy)).to (by rfl))
  replace M : Hid (Own w [(p1_1, #[.float .f64 gx, .float .f64 gy, .float .f64 gz]), ((w.heap.size + 1), #[.float .f64 0, .float .f64 0, .float .f64 0]), (w.heap.size, #[.float .f64 fx, .float .f64 fy, .float .f64 fz])] _) := Lib.hid ((M.out.setIn 0 rfl 2 (.float .f64 gz)).to (by rfl))
  go_simp
  refine hK.out _ _ (Or.inr (M.out.nth 2 rfl).three') (fun hHeld => ?_)
  clear hK K hHeld kc kf
  refine tails_done (by kernel_rfl) ?_ _
  refine NoPanic.normal ?_
  clear hS
  revert M
  generalize (((v.setCell ⟨p1_1, 0, none⟩ (.float .f64 gx)).setCell ⟨p1_1, 1, none⟩ (.float .f64 gy)).setCell ⟨p1_1, 2, none⟩ (.float .f64 gz)) = W1_
  intro M
  go_upto_region 2 with fail
  replace M := Lib.hid M.out.drew
  refine wp_region_noPanic ?_
  refine tails_region (S := fun w' => (w'.cell? ⟨p1_1, 0, none⟩ = some (.float .f64 gx) ∧ w'.cell? ⟨p1_1, 1, none⟩ = some (.float .f64 gy) ∧ w'.cell? ⟨p1_1, 2, none⟩ = some (.float .f64 gz)) ∧ (w'.cell? ⟨w.heap.size, 0, none⟩ = some (.float .f64 fx) ∧ w'.cell? ⟨w.heap.size, 1, none⟩ = some (.float .f64 fy) ∧ w'.cell? ⟨w.heap.size, 2, none⟩ = some (.float .f64 fz))) [] (by kernel_rfl) ?_ (fun hS => ?_)
  · exact ⟨(M.out.nth 0 rfl).three', (M.out.nth 2 rfl).three'⟩
  revert hS M
  generalize W1_.drew = V_
  intro M hS
  refine tk (x := ?_) 0 rfl (by kernel_rfl) ⟨by kernel_rfl, ?_⟩ (fun _ _ _ h => h) hS ?_
  rotate_left; focus (intro w hSw; (try dsimp only at hSw); go_simp; try with_reducible rfl)
  refine tk (x := ?_) 1 rfl (by kernel_rfl) ⟨by kernel_rfl, ?_⟩ (fun _ _ _ h => h) hS ?_
  rotate_left; focus (intro w hSw; (try dsimp only at hSw); go_simp; try with_reducible rfl)
  refine tk (x := ?_) 2 rfl (by kernel_rfl) ⟨by kernel_rfl, ?_⟩ (fun _ _ _ h => h) hS ?_
  rotate_left; focus (intro w hSw; (try dsimp only at hSw); go_simp; try with_reducible rfl)
  refine tk (x := ?_) 3 rfl (by kernel_rfl) ⟨by kernel_rfl, ?_⟩ (fun _ _ _ h => h) hS ?_
  rotate_left; focus (intro w hSw; (try dsimp only at hSw); go_simp; try with_reducible rfl)
  refine tk (x := ?_) 4 rfl (by kernel_rfl) ⟨by kernel_rfl, ?_⟩ (fun _ _ _ h => h) hS ?_
  rotate_left; focus (intro w hSw; (try dsimp only at hSw); go_simp; try with_reducible rfl)
  refine tk (x := ?_) 6 rfl (by kernel_rfl) ⟨by kernel_rfl, ?_⟩ (fun _ _ _ h => h) hS ?_
  rotate_left; focus (intro w hSw; (try dsimp only at hSw); go_simp; try with_reducible rfl)
  refine tk (x := ?_) 7 rfl (by kernel_rfl) ⟨by kernel_rfl, ?_⟩ (fun _ _ _ h => h) hS ?_
  rotate_left; focus (intro w hSw; (try dsimp only at hSw); go_simp; try with_reducible rfl)
  conv => arg 9; simp only [Act.put, go_sem]
  refine tails_one (T := []) (i := 5) (o := _) rfl (by kernel_rfl) (fun K hK => ?_)
  go_simp
  refine (c4.out _).mono ?_
  rintro rr w2_ ⟨rfl, rfl⟩
  try go_wp2_with fail
  refine hK.out _ _ (Or.inr ⟨(M.out.nth 0 rfl).three', (M.out.nth 2 rfl).three'⟩) (fun hHeld => ?_)
  clear hK K hHeld
  replace hS := (And.intro (M.out.nth 0 rfl).three' (M.out.nth 2 rfl).three')
  refine tk (x := ?_) 8 rfl (by kernel_rfl) ⟨by kernel_rfl, ?_⟩ (fun _ _ _ h => h) hS ?_
  rotate_left; focus (intro w hSw; (try dsimp only at hSw); go_simp; try with_reducible rfl)
  refine tk (x := ?_) 9 rfl (by kernel_rfl) ⟨by kernel_rfl, ?_⟩ (fun _ _ _ h => h) hS ?_
  rotate_left; focus (intro w hSw; (try dsimp only at hSw); go_simp; try with_reducible rfl)
  conv => arg 9; simp only [Act.put, go_sem]
  refine tk (x := ?_) 10 rfl (by kernel_rfl) ⟨by kernel_rfl, ?_⟩ (fun _ _ _ h => h) hS ?_
  rotate_left; focus (intro w hSw; (try dsimp only at hSw); go_simp; try with_reducible rfl)
  refine tk (x := ?_) 11 rfl (by kernel_rfl) ⟨by kernel_rfl, ?_⟩ (fun _ _ _ h => h) hS ?_
  rotate_left; focus (intro w hSw; (try dsimp only at hSw); go_simp; try with_reducible rfl)
  conv => arg 9; simp only [Act.put, go_sem]
  refine tk (x := ?_) 12 rfl (by kernel_rfl) ⟨by kernel_rfl, ?_⟩ (fun _ _ _ h => h) hS ?_
  rotate_left; focus (intro w hSw; (try dsimp only at hSw); go_simp; try with_reducible rfl)
  refine tk (x := ?_) 13 rfl (by kernel_rfl) ⟨by kernel_rfl, ?_⟩ (fun _ _ _ h => h) hS ?_
  rotate_left; focus (intro w hSw; (try dsimp only at hSw); go_simp; try with_reducible rfl)
  conv => arg 9; simp only [Act.put, go_sem]
  refine tk (x := ?_) 15 rfl (by kernel_rfl) ⟨by kernel_rfl, ?_⟩ (fun _ _ _ h => h) hS ?_
  rotate_left; focus (intro w hSw; (try dsimp only at hSw); go_simp; try with_reducible rfl)
  refine tk (x := ?_) 16 rfl (by kernel_rfl) ⟨by kernel_rfl, ?_⟩ (fun _ _ _ h => h) hS ?_
  rotate_left; focus (intro w hSw; (try dsimp only at hSw); go_simp; try with_reducible rfl)
  conv => arg 9; simp only [Act.put, go_sem]
  refine tails_one (T := []) (i := 14) (o := _) rfl (by kernel_rfl) (fun K hK => ?_)
  go_simp
  refine (c5.out _).mono ?_
  rintro rr w3_ ⟨rfl, rfl⟩
  try go_wp2_with fail
  refine hK.out _ _ (Or.inr ⟨(M.out.nth 0 rfl).three', (M.out.nth 2 rfl).three'⟩) (fun hHeld => ?_)
  clear hK K hHeld
  replace hS := (And.intro (M.out.nth 0 rfl).three' (M.out.nth 2 rfl).three')
  refine tk (x := ?_) 17 rfl (by kernel_rfl) ⟨by kernel_rfl, ?_⟩ (fun _ _ _ h => h) hS ?_
  rotate_left; focus (intro w hSw; (try dsimp only at hSw); go_simp; try with_reducible rfl)
  refine tk (x := ?_) 18 rfl (by kernel_rfl) ⟨by kernel_rfl, ?_⟩ (fun _ _ _ h => h) hS ?_
  rotate_left; focus (intro w hSw; (try dsimp only at hSw); go_simp; try with_reducible rfl)
  conv => arg 9; simp only [Act.put, go_sem]
  refine tk (x := ?_) 19 rfl (by kernel_rfl) ⟨by kernel_rfl, ?_⟩ (fun _ _ _ h => h) hS ?_
  rotate_left; focus (intro w hSw; (try dsimp only at hSw); go_simp; try with_reducible rfl)
  refine tk (x := ?_) 20 rfl (by kernel_rfl) ⟨by kernel_rfl, ?_⟩ (fun _ _ _ h => h) hS ?_
  rotate_left; focus (intro w hSw; (try dsimp only at hSw); go_simp; try with_reducible rfl)
  conv => arg 9; simp only [Act.put, go_sem]
  refine tk (x := ?_) 21 rfl (by kernel_rfl) ⟨by kernel_rfl, ?_⟩ (fun _ _ _ h => h) hS ?_
  rotate_left; focus (intro w hSw; (try dsimp only at hSw); go_simp; try with_reducible rfl)
  refine tk (x := ?_) 22 rfl (by kernel_rfl) ⟨by kernel_rfl, ?_⟩ (fun _ _ _ h => h) hS ?_
  rotate_left; focus (intro w hSw; (try dsimp only at hSw); go_simp; try with_reducible rfl)
  conv => arg 9; simp only [Act.put, go_sem]
  refine tk (x := ?_) 23 rfl (by kernel_rfl) ⟨by kernel_rfl, ?_⟩ (fun _ _ _ h => h) hS ?_
  rotate_left; focus (intro w hSw; (try dsimp only at hSw); go_simp; try with_reducible rfl)
  refine tk (x := ?_) 25 rfl (by kernel_rfl) ⟨by kernel_rfl, ?_⟩ (fun _ _ _ h => h) hS ?_
  rotate_left; focus (intro w hSw; (try dsimp only at hSw); go_simp; try with_reducible rfl)
  conv => arg 9; simp only [Act.put, go_sem]
  refine tk (x := ?_) 26 rfl (by kernel_rfl) ⟨by kernel_rfl, ?_⟩ (fun _ _ _ h => h) hS ?_
  rotate_left; focus (intro w hSw; (try dsimp only at hSw); go_simp; try with_reducible rfl)
  refine tails_one (T := []) (i := 24) (o := _) rfl (by kernel_rfl) (fun K hK => ?_)
  go_simp
  refine (c6.out _).mono ?_
  rintro rr w4_ ⟨rfl, rfl⟩
  try go_wp2_with fail
  refine hK.out _ _ (Or.inr ⟨(M.out.nth 0 rfl).three', (M.out.nth 2 rfl).three'⟩) (fun hHeld => ?_)
  clear hK K hHeld
  replace hS := (And.intro (M.out.nth 0 rfl).three' (M.out.nth 2 rfl).three')
  refine tk (x := ?_) 27 rfl (by kernel_rfl) ⟨by kernel_rfl, ?_⟩ (fun _ _ _ h => h) hS ?_
  rotate_left; focus (intro w hSw; (try dsimp only at hSw); go_simp; try with_reducible rfl)
  refine tk (x := ?_) 28 rfl (by kernel_rfl) ⟨by kernel_rfl, ?_⟩ (fun _ _ _ h => h) hS ?_
  rotate_left; focus (intro w hSw; (try dsimp only at hSw); go_simp; try with_reducible rfl)
  conv => arg 9; simp only [Act.put, go_sem]
  refine tails_one (T := []) (i := 29) (o := _) rfl (by kernel_rfl) (fun K hK => ?_)
  have kc := (M.out.nth 1 rfl).2.1
  have kf := (M.out.nth 1 rfl).2.2
  replace M : Hid (Own w [(p1_1, #[.float .f64 gx, .float .f64 gy, .float .f64 gz]), ((w.heap.size + 1), #[.float .f64 gx, .float .f64 0, .float .f64 0]), (w.heap.size, #[.float .f64 fx, .float .f64 fy, .float .f64 fz])] _) := Lib.hid ((M.out.setIn 1 rfl 0 (.float .f64 gx)).to (by rfl))
  replace M : Hid (Own w [(p1_1, #[.float .f64 gx, .float .f64 gy, .float .f64 gz]), ((w.heap.size + 1), #[.float .f64 gx, .float .f64 gy, .float .f64 0]), (w.heap.size, #[.float .f64 fx, .float .f64 fy, .float .f64 fz])] _) := Lib.hid ((M.out.setIn 1 rfl 1 (.float .f64 gy)).to (by rfl))
  replace M : Hid (Own w [(p1_1, #[.float .f64 gx, .float .f64 gy, .float .f64 gz]), ((w.heap.size + 1), #[.float .f64 gx, .float .f64 gy, .float .f64 gz]), (w.heap.size, #[.float .f64 fx, .float .f64 fy, .float .f64 fz])] _) := Lib.hid ((M.out.setIn 1 rfl 2 (.float .f64 gz)).to (by rfl))
  go_simp
  refine hK.out _ _ (Or.inr ⟨(M.out.nth 0 rfl).three', (M.out.nth 2 rfl).three'⟩) (fun hHeld => ?_)
  clear hK K hHeld kc kf
  refine tails_one (T := []) (i := 30) (o := _) rfl (by kernel_rfl) (fun K hK => ?_)
  go_simp
  refine hK.out _ _ (Or.inr ⟨(M.out.nth 0 rfl).three', (M.out.nth 2 rfl).three'⟩) (fun hHeld => ?_)
  clear hK K hHeld
  refine tails_done (by kernel_rfl) ?_ _
  refine NoPanic.normal ?_
  clear hS
  revert M
  generalize (((V_.setCell ⟨(w.heap.size + 1), 0, none⟩ (.float .f64 gx)).setCell ⟨(w.heap.size + 1), 1, none⟩ (.float .f64 gy)).setCell ⟨(w.heap.size + 1), 2, none⟩ (.float .f64 gz)) = W5_
  intro M
  go_wp2
  obtain ⟨f1, f2, f3⟩ := (M.out.nth 1 rfl).three'
  exact bodyPost_ret (v := .tuple #[.agg #[.float .f64 gx, .float .f64 gy, .float .f64 gz], .bool false]) (by simp [results, Try.results10, go_sem, f1, f2, f3]) rfl ⟨rfl, M.out.base⟩

end Go.Proofs.Ytdppppaoflhgdaa

namespace Go.Proofs.Ytdppppaoflhgdaa
open Go.RowKit
attribute [local go_sem] run_store_float

set_option maxRecDepth 100000 in
set_option maxHeartbeats 16000000 in
theorem vtimes_n {fx fy fz u1 u2 u3 u4 u5 u6 : Nat} {b0 ue : Int} (w : World)
    (c1 : Hid (∀ w, Calls Try.prog 8 #[.agg #[.float .f64 fx, .float .f64 fy, .float .f64 fz]] w fun r w' => r = .returned (.tuple #[.agg #[.float .f64 u1, .float .f64 u2, .float .f64 u3, .float .f64 u4, .float .f64 u5, .float .f64 u6], .int .i64 ue]) ∧ Below w.heap.size w w'))
    (c2 : Hid (∀ w, Calls Try.prog 9 #[] w fun r w' => r = .returned (.bool true) ∧ Below w.heap.size w w'))
    (hne : (ue != 0) = true) :
    Calls Try.prog 3 #[.agg #[.float .f64 fx, .float .f64 fy, .float .f64 fz], .int .i8 b0] w fun r w' => r = .returned (.bool true) ∧ Below w.heap.size w w' := by
  have M := Lib.hid ((Own.nil w).made #[.float .f64 fx, .float .f64 fy, .float .f64 fz] 24)
  have eqF := eq_floats
  go_enter Try.func3, Try.ntmps3
  obtain ⟨k1, k2, k3⟩ := (M.out.nth 0 rfl).three
  go_wp2_with fail
  refine (c1.out _).mono ?_
  rintro r w1_ ⟨rfl, hb⟩
  replace M := Lib.hid (M.out.below hb)
  clear hb
  clear k1 k2 k3
  replace M := Lib.hid (M.out.made #[.float .f64 u1, .float .f64 u2, .float .f64 u3, .float .f64 u4, .float .f64 u5, .float .f64 u6] 29)
  go_wp2_with fail
  refine (c2.out _).mono ?_
  rintro r w2_ ⟨rfl, hb⟩
  replace M := Lib.hid (M.out.below hb)
  clear hb
  go_wp2
  go_ret
  exact ⟨rfl, M.out.base⟩

set_option maxRecDepth 100000 in
set_option maxHeartbeats 16000000 in
theorem vtimes_f {fx fy fz u1 u2 u3 u4 u5 u6 gx gy gz v1 v2 v3 v4 v5 v6 nx ny nz t1 t2 t3 t4 t5 t6 b1 b2 b3 b4 b5 b6 r1 r2 r3 r4 r5 r6 df ab : Nat} {b0 ve kk : Int} (w : World)
    (c1 : Hid (∀ w, Calls Try.prog 8 #[.agg #[.float .f64 fx, .float .f64 fy, .float .f64 fz]] w fun r w' => r = .returned (.tuple #[.agg #[.float .f64 u1, .float .f64 u2, .float .f64 u3, .float .f64 u4, .float .f64 u5, .float .f64 u6], .int .i64 0]) ∧ Below w.heap.size w w'))
    (c2 : Hid (∀ w, Calls Try.prog 10 #[.agg #[.float .f64 fx, .float .f64 fy, .float .f64 fz], .int .i64 kk] w fun r w' => r = .returned (.tuple #[.agg #[.float .f64 gx, .float .f64 gy, .float .f64 gz], .bool false]) ∧ Below w.heap.size w w'))
    (c3 : Hid (∀ w, Calls Try.prog 8 #[.agg #[.float .f64 gx, .float .f64 gy, .float .f64 gz]] w fun r w' => r = .returned (.tuple #[.agg #[.float .f64 v1, .float .f64 v2, .float .f64 v3, .float .f64 v4, .float .f64 v5, .float .f64 v6], .int .i64 ve]) ∧ Below w.heap.size w w'))
    (q_nx : (∀ w, (binOp .sub 22 (.float .f64 0) (.float .f64 fx)).run Try.prog w = .ok (.float .f64 nx) w))
    (q_ny : (∀ w, (binOp .sub 22 (.float .f64 0) (.float .f64 fy)).run Try.prog w = .ok (.float .f64 ny) w))
    (q_nz : (∀ w, (binOp .sub 22 (.float .f64 0) (.float .f64 fz)).run Try.prog w = .ok (.float .f64 nz) w))
    (c4 : Hid (∀ w, Calls Try.prog 8 #[.agg #[.float .f64 nx, .float .f64 ny, .float .f64 nz]] w fun r w' => r = .returned (.tuple #[.agg #[.float .f64 t1, .float .f64 t2, .float .f64 t3, .float .f64 t4, .float .f64 t5, .float .f64 t6], .int .i64 0]) ∧ Below w.heap.size w w'))
    (d5 : Hid (∀ pb v, Has1 v (pb, #[.int .i64 0]) → Calls Try.prog 12 #[.pointer (some ⟨pb, 0, none⟩), .agg #[.float .f64 t1, .float .f64 t2, .float .f64 t3, .float .f64 t4, .float .f64 t5, .float .f64 t6]] v fun r w' => r = .returned (.agg #[.float .f64 b1, .float .f64 b2, .float .f64 b3, .float .f64 b4, .float .f64 b5, .float .f64 b6]) ∧ Put ⟨pb, 0, none⟩ (.int .i64 0) v w'))
    (c6 : Hid (∀ w, Calls Try.prog 8 #[.agg #[.float .f64 fx, .float .f64 fz, .float .f64 fy]] w fun r w' => r = .returned (.tuple #[.agg #[.float .f64 r1, .float .f64 r2, .float .f64 r3, .float .f64 r4, .float .f64 r5, .float .f64 r6], .int .i64 0]) ∧ Below w.heap.size w w'))
    (c8 : Hid (∀ w, Calls Try.prog 11 #[.agg #[.float .f64 b1, .float .f64 b2, .float .f64 b3, .float .f64 b4, .float .f64 b5, .float .f64 b6], .agg #[.float .f64 u1, .float .f64 u2, .float .f64 u3, .float .f64 u4, .float .f64 u5, .float .f64 u6]] w fun r w' => r = .returned (.bool true) ∧ Below w.heap.size w w'))
    (q_df : (∀ w, (binOp .sub 22 (.float .f64 r1) (.float .f64 u1)).run Try.prog w = .ok (.float .f64 df) w))
    (c9 : Hid (∀ w, Calls Try.prog 14 #[.float .f64 df] w fun r w' => r = .returned (.float .f64 ab) ∧ Below w.heap.size w w'))
    (o_leqab_636686233600 : (((FloatKind.f64.format.order ab 4391009636686233600 == some Ordering.lt) || (FloatKind.f64.format.order ab 4391009636686233600 == some Ordering.eq)) = true))
    (c10 : Hid (∀ w, Calls Try.prog 9 #[] w fun r w' => r = .returned (.bool true) ∧ Below w.heap.size w w'))
    (hk : (wrap64 b0).tmod 101 = kk) :
    Calls Try.prog 3 #[.agg #[.float .f64 fx, .float .f64 fy, .float .f64 fz], .int .i8 b0] w fun r w' => r = .returned (.bool true) ∧ Below w.heap.size w w' := by
  have M := Lib.hid ((Own.nil w).made #[.float .f64 fx, .float .f64 fy, .float .f64 fz] 24)
  have eqF := eq_floats
  go_enter Try.func3, Try.ntmps3
  obtain ⟨k1, k2, k3⟩ := (M.out.nth 0 rfl).three
  go_wp2_with fail
  refine (c1.out _).mono ?_
  rintro r w1_ ⟨rfl, hb⟩
  replace M := Lib.hid (M.out.below hb)
  clear hb
  clear k1 k2 k3
  replace M := Lib.hid (M.out.made #[.float .f64 u1, .float .f64 u2, .float .f64 u3, .float .f64 u4, .float .f64 u5, .float .f64 u6] 29)
  obtain ⟨k1, k2, k3⟩ := (M.out.nth 1 rfl).three
  go_wp2_with fail
  refine (c2.out _).mono ?_
  rintro r w2_ ⟨rfl, hb⟩
  replace M := Lib.hid (M.out.below hb)
  clear hb
  clear k1 k2 k3
  replace M := Lib.hid (M.out.made #[.float .f64 gx, .float .f64 gy, .float .f64 gz] 24)
  go_wp2_with fail
  refine (c3.out _).mono ?_
  rintro r w3_ ⟨rfl, hb⟩
  replace M := Lib.hid (M.out.below hb)
  clear hb
  replace M := Lib.hid (M.out.made #[.float .f64 v1, .float .f64 v2, .float .f64 v3, .float .f64 v4, .float .f64 v5, .float .f64 v6] 29)
  replace M := Lib.hid (M.out.made #[.int .i64 0] 38)
  simp only [World.size_alloc] at M
  obtain ⟨k1, k2, k3⟩ := (M.out.nth 4 rfl).three
  go_wp2_with fail
  refine (c4.out _).mono ?_
  rintro r w4_ ⟨rfl, hb⟩
  replace M := Lib.hid (M.out.below hb)
  clear hb
  clear k1 k2 k3
  replace M := Lib.hid (M.out.made #[.float .f64 t1, .float .f64 t2, .float .f64 t3, .float .f64 t4, .float .f64 t5, .float .f64 t6] 29).front
  obtain ⟨k1, k2, k3, k4, k5, k6⟩ := (M.out.nth 1 rfl).six
  go_wp2_with fail
  refine (d5.out _ _ (M.out.nth 0 rfl)).mono ?_
  rintro r w5_ ⟨rfl, hb⟩
  replace M : Hid (Own w [((w3_.heap.size + 1), #[.int .i64 0]), (w4_.heap.size, #[.float .f64 t1, .float .f64 t2, .float .f64 t3, .float .f64 t4, .float .f64 t5, .float .f64 t6]), (w3_.heap.size, #[.float .f64 v1, .float .f64 v2, .float .f64 v3, .float .f64 v4, .float .f64 v5, .float .f64 v6]), (w2_.heap.size, #[.float .f64 gx, .float .f64 gy, .float .f64 gz]), (w1_.heap.size, #[.float .f64 u1, .float .f64 u2, .float .f64 u3, .float .f64 u4, .float .f64 u5, .float .f64 u6]), (w.heap.size, #[.float .f64 fx, .float .f64 fy, .float .f64 fz])] w5_) := Lib.hid (M.out.putAt 0 rfl hb)
  clear hb
  clear k1 k2 k3 k4 k5 k6
  replace M := Lib.hid (M.out.made #[.float .f64 b1, .float .f64 b2, .float .f64 b3, .float .f64 b4, .float .f64 b5, .float .f64 b6] 29).front
  obtain ⟨k1, k2, k3⟩ := (M.out.nth 6 rfl).three
  go_wp2_with fail
  refine (c6.out _).mono ?_
  rintro r w6_ ⟨rfl, hb⟩
  replace M := Lib.hid (M.out.below hb)
  clear hb
  clear k1 k2 k3
  replace M := Lib.hid (M.out.made #[.float .f64 r1, .float .f64 r2, .float .f64 r3, .float .f64 r4, .float .f64 r5, .float .f64 r6] 29).front
  go_wp2_with fail
  refine (err_any 0 _ 0 _ (M.out.nth 0 rfl).pc).mono ?_
  rintro r w7_ ⟨rfl, rfl⟩
  obtain ⟨k1, k2, k3, k4, k5, k6⟩ := (M.out.nth 2 rfl).six
  obtain ⟨k7, k8, k9, k10, k11, k12⟩ := (M.out.nth 6 rfl).six
  go_wp2_with fail
  refine (c8.out _).mono ?_
  rintro r w8_ ⟨rfl, hb⟩
  replace M := Lib.hid (M.out.below hb)
  clear hb
  clear k1 k2 k3 k4 k5 k6 k7 k8 k9 k10 k11 k12
  obtain ⟨k1, k2, k3, k4, k5, k6⟩ := (M.out.nth 1 rfl).six
  obtain ⟨k7, k8, k9, k10, k11, k12⟩ := (M.out.nth 6 rfl).six
  go_wp2_with fail
  refine (c9.out _).mono ?_
  rintro r w9_ ⟨rfl, hb⟩
  replace M := Lib.hid (M.out.below hb)
  clear hb
  clear k1 k2 k3 k4 k5 k6 k7 k8 k9 k10 k11 k12
  go_wp2_with fail
  refine (c10.out _).mono ?_
  rintro r w10_ ⟨rfl, hb⟩
  replace M := Lib.hid (M.out.below hb)
  clear hb
  go_wp2
  go_ret
  exact ⟨rfl, M.out.base⟩

set_option maxRecDepth 100000 in
set_option maxHeartbeats 16000000 in
theorem vtimes_e {fx fy fz u1 u2 u3 u4 u5 u6 gx gy gz v1 v2 v3 v4 v5 v6 nx ny nz t1 t2 t3 t4 t5 t6 b1 b2 b3 b4 b5 b6 r1 r2 r3 r4 r5 r6 df ab : Nat} {b0 ve kk : Int} (w : World)
    (c1 : Hid (∀ w, Calls Try.prog 8 #[.agg #[.float .f64 fx, .float .f64 fy, .float .f64 fz]] w fun r w' => r = .returned (.tuple #[.agg #[.float .f64 u1, .float .f64 u2, .float .f64 u3, .float .f64 u4, .float .f64 u5, .float .f64 u6], .int .i64 0]) ∧ Below w.heap.size w w'))
    (c2 : Hid (∀ w, Calls Try.prog 10 #[.agg #[.float .f64 fx, .float .f64 fy, .float .f64 fz], .int .i64 kk] w fun r w' => r = .returned (.tuple #[.agg #[.float .f64 gx, .float .f64 gy, .float .f64 gz], .bool true]) ∧ Below w.heap.size w w'))
    (c3 : Hid (∀ w, Calls Try.prog 8 #[.agg #[.float .f64 gx, .float .f64 gy, .float .f64 gz]] w fun r w' => r = .returned (.tuple #[.agg #[.float .f64 v1, .float .f64 v2, .float .f64 v3, .float .f64 v4, .float .f64 v5, .float .f64 v6], .int .i64 ve]) ∧ Below w.heap.size w w'))
    (q_nx : (∀ w, (binOp .sub 22 (.float .f64 0) (.float .f64 fx)).run Try.prog w = .ok (.float .f64 nx) w))
    (q_ny : (∀ w, (binOp .sub 22 (.float .f64 0) (.float .f64 fy)).run Try.prog w = .ok (.float .f64 ny) w))
    (q_nz : (∀ w, (binOp .sub 22 (.float .f64 0) (.float .f64 fz)).run Try.prog w = .ok (.float .f64 nz) w))
    (c4 : Hid (∀ w, Calls Try.prog 8 #[.agg #[.float .f64 nx, .float .f64 ny, .float .f64 nz]] w fun r w' => r = .returned (.tuple #[.agg #[.float .f64 t1, .float .f64 t2, .float .f64 t3, .float .f64 t4, .float .f64 t5, .float .f64 t6], .int .i64 0]) ∧ Below w.heap.size w w'))
    (d5 : Hid (∀ pb v, Has1 v (pb, #[.int .i64 0]) → Calls Try.prog 12 #[.pointer (some ⟨pb, 0, none⟩), .agg #[.float .f64 t1, .float .f64 t2, .float .f64 t3, .float .f64 t4, .float .f64 t5, .float .f64 t6]] v fun r w' => r = .returned (.agg #[.float .f64 b1, .float .f64 b2, .float .f64 b3, .float .f64 b4, .float .f64 b5, .float .f64 b6]) ∧ Put ⟨pb, 0, none⟩ (.int .i64 0) v w'))
    (c6 : Hid (∀ w, Calls Try.prog 8 #[.agg #[.float .f64 fx, .float .f64 fz, .float .f64 fy]] w fun r w' => r = .returned (.tuple #[.agg #[.float .f64 r1, .float .f64 r2, .float .f64 r3, .float .f64 r4, .float .f64 r5, .float .f64 r6], .int .i64 0]) ∧ Below w.heap.size w w'))
    (c8 : Hid (∀ w, Calls Try.prog 11 #[.agg #[.float .f64 b1, .float .f64 b2, .float .f64 b3, .float .f64 b4, .float .f64 b5, .float .f64 b6], .agg #[.float .f64 u1, .float .f64 u2, .float .f64 u3, .float .f64 u4, .float .f64 u5, .float .f64 u6]] w fun r w' => r = .returned (.bool true) ∧ Below w.heap.size w w'))
    (q_df : (∀ w, (binOp .sub 22 (.float .f64 r1) (.float .f64 u1)).run Try.prog w = .ok (.float .f64 df) w))
    (c9 : Hid (∀ w, Calls Try.prog 14 #[.float .f64 df] w fun r w' => r = .returned (.float .f64 ab) ∧ Below w.heap.size w w'))
    (o_leqab_636686233600 : (((FloatKind.f64.format.order ab 4391009636686233600 == some Ordering.lt) || (FloatKind.f64.format.order ab 4391009636686233600 == some Ordering.eq)) = true))
    (c10 : Hid (∀ w, Calls Try.prog 9 #[] w fun r w' => r = .returned (.bool true) ∧ Below w.heap.size w w'))
    (hk : (wrap64 b0).tmod 101 = kk)
    (hve : (ve == 0) = false) :
    Calls Try.prog 3 #[.agg #[.float .f64 fx, .float .f64 fy, .float .f64 fz], .int .i8 b0] w fun r w' => r = .returned (.bool true) ∧ Below w.heap.size w w' := by
  have M := Lib.hid ((Own.nil w).made #[.float .f64 fx, .float .f64 fy, .float .f64 fz] 24)
  have eqF := eq_floats
  go_enter Try.func3, Try.ntmps3
  obtain ⟨k1, k2, k3⟩ := (M.out.nth 0 rfl).three
  go_wp2_with fail
  refine (c1.out _).mono ?_
  rintro r w1_ ⟨rfl, hb⟩
  replace M := Lib.hid (M.out.below hb)
  clear hb
  clear k1 k2 k3
  replace M := Lib.hid (M.out.made #[.float .f64 u1, .float .f64 u2, .float .f64 u3, .float .f64 u4, .float .f64 u5, .float .f64 u6] 29)
  obtain ⟨k1, k2, k3⟩ := (M.out.nth 1 rfl).three
  go_wp2_with fail
  refine (c2.out _).mono ?_
  rintro r w2_ ⟨rfl, hb⟩
  replace M := Lib.hid (M.out.below hb)
  clear hb
  clear k1 k2 k3
  replace M := Lib.hid (M.out.made #[.float .f64 gx, .float .f64 gy, .float .f64 gz] 24)
  go_wp2_with fail
  refine (c3.out _).mono ?_
  rintro r w3_ ⟨rfl, hb⟩
  replace M := Lib.hid (M.out.below hb)
  clear hb
  replace M := Lib.hid (M.out.made #[.float .f64 v1, .float .f64 v2, .float .f64 v3, .float .f64 v4, .float .f64 v5, .float .f64 v6] 29)
  replace M := Lib.hid (M.out.made #[.int .i64 0] 38)
  simp only [World.size_alloc] at M
  obtain ⟨k1, k2, k3⟩ := (M.out.nth 4 rfl).three
  go_wp2_with fail
  refine (c4.out _).mono ?_
  rintro r w4_ ⟨rfl, hb⟩
  replace M := Lib.hid (M.out.below hb)
  clear hb
  clear k1 k2 k3
  replace M := Lib.hid (M.out.made #[.float .f64 t1, .float .f64 t2, .float .f64 t3, .float .f64 t4, .float .f64 t5, .float .f64 t6] 29).front
  obtain ⟨k1, k2, k3, k4, k5, k6⟩ := (M.out.nth 1 rfl).six
  go_wp2_with fail
  refine (d5.out _ _ (M.out.nth 0 rfl)).mono ?_
  rintro r w5_ ⟨rfl, hb⟩
  replace M : Hid (Own w [((w3_.heap.size + 1), #[.int .i64 0]), (w4_.heap.size, #[.float .f64 t1, .float .f64 t2, .float .f64 t3, .float .f64 t4, .float .f64 t5, .float .f64 t6]), (w3_.heap.size, #[.float .f64 v1, .float .f64 v2, .float .f64 v3, .float .f64 v4, .float .f64 v5, .float .f64 v6]), (w2_.heap.size, #[.float .f64 gx, .float .f64 gy, .float .f64 gz]), (w1_.heap.size, #[.float .f64 u1, .float .f64 u2, .float .f64 u3, .float .f64 u4, .float .f64 u5, .float .f64 u6]), (w.heap.size, #[.float .f64 fx, .float .f64 fy, .float .f64 fz])] w5_) := Lib.hid (M.out.putAt 0 rfl hb)
  clear hb
  clear k1 k2 k3 k4 k5 k6
  replace M := Lib.hid (M.out.made #[.float .f64 b1, .float .f64 b2, .float .f64 b3, .float .f64 b4, .float .f64 b5, .float .f64 b6] 29).front
  obtain ⟨k1, k2, k3⟩ := (M.out.nth 6 rfl).three
  go_wp2_with fail
  refine (c6.out _).mono ?_
  rintro r w6_ ⟨rfl, hb⟩
  replace M := Lib.hid (M.out.below hb)
  clear hb
  clear k1 k2 k3
  replace M := Lib.hid (M.out.made #[.float .f64 r1, .float .f64 r2, .float .f64 r3, .float .f64 r4, .float .f64 r5, .float .f64 r6] 29).front
  go_wp2_with fail
  refine (err_any 0 _ 0 _ (M.out.nth 0 rfl).pc).mono ?_
  rintro r w7_ ⟨rfl, rfl⟩
  obtain ⟨k1, k2, k3, k4, k5, k6⟩ := (M.out.nth 2 rfl).six
  obtain ⟨k7, k8, k9, k10, k11, k12⟩ := (M.out.nth 6 rfl).six
  go_wp2_with fail
  refine (c8.out _).mono ?_
  rintro r w8_ ⟨rfl, hb⟩
  replace M := Lib.hid (M.out.below hb)
  clear hb
  clear k1 k2 k3 k4 k5 k6 k7 k8 k9 k10 k11 k12
  obtain ⟨k1, k2, k3, k4, k5, k6⟩ := (M.out.nth 1 rfl).six
  obtain ⟨k7, k8, k9, k10, k11, k12⟩ := (M.out.nth 6 rfl).six
  go_wp2_with fail
  refine (c9.out _).mono ?_
  rintro r w9_ ⟨rfl, hb⟩
  replace M := Lib.hid (M.out.below hb)
  clear hb
  clear k1 k2 k3 k4 k5 k6 k7 k8 k9 k10 k11 k12
  go_wp2_with fail
  refine (c10.out _).mono ?_
  rintro r w10_ ⟨rfl, hb⟩
  replace M := Lib.hid (M.out.below hb)
  clear hb
  go_wp2
  go_ret
  exact ⟨rfl, M.out.base⟩

set_option maxRecDepth 100000 in
set_option maxHeartbeats 16000000 in
theorem vtimes_t {fx fy fz u1 u2 u3 u4 u5 u6 gx gy gz v1 v2 v3 v4 v5 v6 nx ny nz t1 t2 t3 t4 t5 t6 b1 b2 b3 b4 b5 b6 r1 r2 r3 r4 r5 r6 df ab : Nat} {b0 kk : Int} (w : World)
    (c1 : Hid (∀ w, Calls Try.prog 8 #[.agg #[.float .f64 fx, .float .f64 fy, .float .f64 fz]] w fun r w' => r = .returned (.tuple #[.agg #[.float .f64 u1, .float .f64 u2, .float .f64 u3, .float .f64 u4, .float .f64 u5, .float .f64 u6], .int .i64 0]) ∧ Below w.heap.size w w'))
    (c2 : Hid (∀ w, Calls Try.prog 10 #[.agg #[.float .f64 fx, .float .f64 fy, .float .f64 fz], .int .i64 kk] w fun r w' => r = .returned (.tuple #[.agg #[.float .f64 gx, .float .f64 gy, .float .f64 gz], .bool true]) ∧ Below w.heap.size w w'))
    (c3 : Hid (∀ w, Calls Try.prog 8 #[.agg #[.float .f64 gx, .float .f64 gy, .float .f64 gz]] w fun r w' => r = .returned (.tuple #[.agg #[.float .f64 v1, .float .f64 v2, .float .f64 v3, .float .f64 v4, .float .f64 v5, .float .f64 v6], .int .i64 0]) ∧ Below w.heap.size w w'))
    (c4 : Hid (∀ w, Calls Try.prog 11 #[.agg #[.float .f64 u1, .float .f64 u2, .float .f64 u3, .float .f64 u4, .float .f64 u5, .float .f64 u6], .agg #[.float .f64 v1, .float .f64 v2, .float .f64 v3, .float .f64 v4, .float .f64 v5, .float .f64 v6]] w fun r w' => r = .returned (.bool true) ∧ Below w.heap.size w w'))
    (q_nx : (∀ w, (binOp .sub 22 (.float .f64 0) (.float .f64 fx)).run Try.prog w = .ok (.float .f64 nx) w))
    (q_ny : (∀ w, (binOp .sub 22 (.float .f64 0) (.float .f64 fy)).run Try.prog w = .ok (.float .f64 ny) w))
    (q_nz : (∀ w, (binOp .sub 22 (.float .f64 0) (.float .f64 fz)).run Try.prog w = .ok (.float .f64 nz) w))
    (c5 : Hid (∀ w, Calls Try.prog 8 #[.agg #[.float .f64 nx, .float .f64 ny, .float .f64 nz]] w fun r w' => r = .returned (.tuple #[.agg #[.float .f64 t1, .float .f64 t2, .float .f64 t3, .float .f64 t4, .float .f64 t5, .float .f64 t6], .int .i64 0]) ∧ Below w.heap.size w w'))
    (d6 : Hid (∀ pb v, Has1 v (pb, #[.int .i64 0]) → Calls Try.prog 12 #[.pointer (some ⟨pb, 0, none⟩), .agg #[.float .f64 t1, .float .f64 t2, .float .f64 t3, .float .f64 t4, .float .f64 t5, .float .f64 t6]] v fun r w' => r = .returned (.agg #[.float .f64 b1, .float .f64 b2, .float .f64 b3, .float .f64 b4, .float .f64 b5, .float .f64 b6]) ∧ Put ⟨pb, 0, none⟩ (.int .i64 0) v w'))
    (c7 : Hid (∀ w, Calls Try.prog 8 #[.agg #[.float .f64 fx, .float .f64 fz, .float .f64 fy]] w fun r w' => r = .returned (.tuple #[.agg #[.float .f64 r1, .float .f64 r2, .float .f64 r3, .float .f64 r4, .float .f64 r5, .float .f64 r6], .int .i64 0]) ∧ Below w.heap.size w w'))
    (c9 : Hid (∀ w, Calls Try.prog 11 #[.agg #[.float .f64 b1, .float .f64 b2, .float .f64 b3, .float .f64 b4, .float .f64 b5, .float .f64 b6], .agg #[.float .f64 u1, .float .f64 u2, .float .f64 u3, .float .f64 u4, .float .f64 u5, .float .f64 u6]] w fun r w' => r = .returned (.bool true) ∧ Below w.heap.size w w'))
    (q_df : (∀ w, (binOp .sub 22 (.float .f64 r1) (.float .f64 u1)).run Try.prog w = .ok (.float .f64 df) w))
    (c10 : Hid (∀ w, Calls Try.prog 14 #[.float .f64 df] w fun r w' => r = .returned (.float .f64 ab) ∧ Below w.heap.size w w'))
    (o_leqab_636686233600 : (((FloatKind.f64.format.order ab 4391009636686233600 == some Ordering.lt) || (FloatKind.f64.format.order ab 4391009636686233600 == some Ordering.eq)) = true))
    (c11 : Hid (∀ w, Calls Try.prog 9 #[] w fun r w' => r = .returned (.bool true) ∧ Below w.heap.size w w'))
    (hk : (wrap64 b0).tmod 101 = kk) :
    Calls Try.prog 3 #[.agg #[.float .f64 fx, .float .f64 fy, .float .f64 fz], .int .i8 b0] w fun r w' => r = .returned (.bool true) ∧ Below w.heap.size w w' := by
  have M := Lib.hid ((Own.nil w).made #[.float .f64 fx, .float .f64 fy, .float .f64 fz] 24)
  have eqF := eq_floats
  go_enter Try.func3, Try.ntmps3
  obtain ⟨k1, k2, k3⟩ := (M.out.nth 0 rfl).three
  go_wp2_with fail
  refine (c1.out _).mono ?_
  rintro r w1_ ⟨rfl, hb⟩
  replace M := Lib.hid (M.out.below hb)
  clear hb
  clear k1 k2 k3
  replace M := Lib.hid (M.out.made #[.float .f64 u1, .float .f64 u2, .float .f64 u3, .float .f64 u4, .float .f64 u5, .float .f64 u6] 29)
  obtain ⟨k1, k2, k3⟩ := (M.out.nth 1 rfl).three
  go_wp2_with fail
  refine (c2.out _).mono ?_
  rintro r w2_ ⟨rfl, hb⟩
  replace M := Lib.hid (M.out.below hb)
  clear hb
  clear k1 k2 k3
  replace M := Lib.hid (M.out.made #[.float .f64 gx, .float .f64 gy, .float .f64 gz] 24)
  go_wp2_with fail
  refine (c3.out _).mono ?_
  rintro r w3_ ⟨rfl, hb⟩
  replace M := Lib.hid (M.out.below hb)
  clear hb
  replace M := Lib.hid (M.out.made #[.float .f64 v1, .float .f64 v2, .float .f64 v3, .float .f64 v4, .float .f64 v5, .float .f64 v6] 29)
  obtain ⟨k1, k2, k3, k4, k5, k6⟩ := (M.out.nth 2 rfl).six
  go_wp2_with fail
  refine (c4.out _).mono ?_
  rintro r w4_ ⟨rfl, hb⟩
  replace M := Lib.hid (M.out.below hb)
  clear hb
  clear k1 k2 k3 k4 k5 k6
  replace M := Lib.hid (M.out.made #[.int .i64 0] 38)
  obtain ⟨k1, k2, k3⟩ := (M.out.nth 4 rfl).three
  go_wp2_with fail
  refine (c5.out _).mono ?_
  rintro r w5_ ⟨rfl, hb⟩
  replace M := Lib.hid (M.out.below hb)
  clear hb
  clear k1 k2 k3
  replace M := Lib.hid (M.out.made #[.float .f64 t1, .float .f64 t2, .float .f64 t3, .float .f64 t4, .float .f64 t5, .float .f64 t6] 29).front
  obtain ⟨k1, k2, k3, k4, k5, k6⟩ := (M.out.nth 1 rfl).six
  go_wp2_with fail
  refine (d6.out _ _ (M.out.nth 0 rfl)).mono ?_
  rintro r w6_ ⟨rfl, hb⟩
  replace M : Hid (Own w [(w4_.heap.size, #[.int .i64 0]), (w5_.heap.size, #[.float .f64 t1, .float .f64 t2, .float .f64 t3, .float .f64 t4, .float .f64 t5, .float .f64 t6]), (w3_.heap.size, #[.float .f64 v1, .float .f64 v2, .float .f64 v3, .float .f64 v4, .float .f64 v5, .float .f64 v6]), (w2_.heap.size, #[.float .f64 gx, .float .f64 gy, .float .f64 gz]), (w1_.heap.size, #[.float .f64 u1, .float .f64 u2, .float .f64 u3, .float .f64 u4, .float .f64 u5, .float .f64 u6]), (w.heap.size, #[.float .f64 fx, .float .f64 fy, .float .f64 fz])] w6_) := Lib.hid (M.out.putAt 0 rfl hb)
  clear hb
  clear k1 k2 k3 k4 k5 k6
  replace M := Lib.hid (M.out.made #[.float .f64 b1, .float .f64 b2, .float .f64 b3, .float .f64 b4, .float .f64 b5, .float .f64 b6] 29).front
  obtain ⟨k1, k2, k3⟩ := (M.out.nth 6 rfl).three
  go_wp2_with fail
  refine (c7.out _).mono ?_
  rintro r w7_ ⟨rfl, hb⟩
  replace M := Lib.hid (M.out.below hb)
  clear hb
  clear k1 k2 k3
  replace M := Lib.hid (M.out.made #[.float .f64 r1, .float .f64 r2, .float .f64 r3, .float .f64 r4, .float .f64 r5, .float .f64 r6] 29).front
  go_wp2_with fail
  refine (err_any 0 _ 0 _ (M.out.nth 0 rfl).pc).mono ?_
  rintro r w8_ ⟨rfl, rfl⟩
  obtain ⟨k1, k2, k3, k4, k5, k6⟩ := (M.out.nth 2 rfl).six
  obtain ⟨k7, k8, k9, k10, k11, k12⟩ := (M.out.nth 6 rfl).six
  go_wp2_with fail
  refine (c9.out _).mono ?_
  rintro r w9_ ⟨rfl, hb⟩
  replace M := Lib.hid (M.out.below hb)
  clear hb
  clear k1 k2 k3 k4 k5 k6 k7 k8 k9 k10 k11 k12
  obtain ⟨k1, k2, k3, k4, k5, k6⟩ := (M.out.nth 1 rfl).six
  obtain ⟨k7, k8, k9, k10, k11, k12⟩ := (M.out.nth 6 rfl).six
  go_wp2_with fail
  refine (c10.out _).mono ?_
  rintro r w10_ ⟨rfl, hb⟩
  replace M := Lib.hid (M.out.below hb)
  clear hb
  clear k1 k2 k3 k4 k5 k6 k7 k8 k9 k10 k11 k12
  go_wp2_with fail
  refine (c11.out _).mono ?_
  rintro r w11_ ⟨rfl, hb⟩
  replace M := Lib.hid (M.out.below hb)
  clear hb
  go_wp2
  go_ret
  exact ⟨rfl, M.out.base⟩

end Go.Proofs.Ytdppppaoflhgdaa
