
/- GgxHides, of any two cosines and any alpha that are drawn: what is seen is within 0 and 1, no more of both ways than of either, no less than the product, the same the other way about, all straight above, and no wider than told. No conditions. -/
import Derived.Test.YtdppppaoflhgdaaLanS
import Derived.Test.YtdppppaoflhgdaaBtw
import Derived.Deep.RegionHeld3
import Derived.Test.YtdppppaoflhgdaaGgM
import Derived.Test.YtdppppaoflhgdaaQGe
import Derived.Test.YtdppppaoflhgdaaQOpen
import Derived.ProofKit
import Derived.Carry
namespace Go.Proofs.Ytdppppaoflhgdaa
open Go.RowKit
attribute [local go_sem] run_store_float

section
variable {P : Program} {ops : Array Oper} {Q : Exit → Act → World → Prop} {md : Region.Mode} {S : World → Prop}
theorem lp_ccppp_1 {a0 : Act} {B v : World} {l : List (Nat × Array Value)} (_ : Hid (Own B l v)) {w0 : World} {L0 : Array Bool} (c1 c2 c3 c4 c5 m1 : Nat) (slots : List Nat) (N : Nat) (J : List (Nat × Array Value) → Act → Nat → List (Option Nat) → Act → World → Prop) (hok : latOkP [false, false, true, true, true] md ops L0 [c1, c2, c3, c4, c5] [m1] = true)
    (hsl : (slots.all fun s => decide (s < a0.tmps.size)) = true) (h0 : ∀ A : Act, (∀ s, s ∈ slots → s < A.tmps.size) → J l A 0 (List.replicate 1 none) A w0)
    (hS : ∀ k p a w, J l a0 k p a w → S w)
    (k1 : ∀ p a w, J l a0 0 p a w → wpOp P ops Q c1 (fun b v => J l a0 1 p b v) a w)
    (k2 : ∀ p a w, J l a0 1 p a w → wpOp P ops Q c2 (fun b v => J l a0 2 p b v) a w)
    (k3 : ∀ p a w, J l a0 2 p a w → ∃ o x, ops[c3]? = some o ∧ YieldsIf P ops S o x a ∧ (∀ c a w, Q (.panic c) (a.put o.dst x) w → Q (.panic c) a w) ∧ J l a0 3 p (a.put o.dst x) w)
    (k4 : ∀ p a w, J l a0 3 p a w → ∃ o x, ops[c4]? = some o ∧ YieldsIf P ops S o x a ∧ (∀ c a w, Q (.panic c) (a.put o.dst x) w → Q (.panic c) a w) ∧ J l a0 4 p (a.put o.dst x) w)
    (k5 : ∀ p a w, J l a0 4 p a w → ∃ o x, ops[c5]? = some o ∧ YieldsIf P ops S o x a ∧ (∀ c a w, Q (.panic c) (a.put o.dst x) w → Q (.panic c) a w) ∧ J l a0 5 p (a.put o.dst x) w)
    (n1 : ∀ k p a w, p[0]? = some none → J l a0 k p a w → wpOp P ops Q m1 (fun b v => ∃ q, J l a0 k (p.set 0 (some q)) b v) a w)
    (fin : ∀ q1 a w, J l a0 5 [some q1] a w → wpAnyV P md ops Q S [] N (lstOf L0 [c1, c2, c3, c4, c5] [m1] 5 [true]) a w) :
    wpAnyV P md ops Q S [] (N + 6) L0 a0 w0 := by
  refine latP_from (pl := [false, false, true, true, true]) [c1, c2, c3, c4, c5] [m1] slots N 6 (J l) hok rfl hsl h0 hS (fun k i p a w hk hn hJ => ?_) (fun k i p a w hk hn hJ => ?_) (fun k m i p a w hm hp hJ => ?_) (fun p a w hp hall hJ => ?_)
  · rcases k with _ | _ | _ | _ | _ | k
    · obtain rfl : c1 = i := by simpa using hk
      exact k1 p a w hJ
    · obtain rfl : c2 = i := by simpa using hk
      exact k2 p a w hJ
    · exact absurd hn (by decide)
    · exact absurd hn (by decide)
    · exact absurd hn (by decide)
    · simp at hk
  · rcases k with _ | _ | _ | _ | _ | k
    · exact absurd hn (by decide)
    · exact absurd hn (by decide)
    · obtain rfl : c3 = i := by simpa using hk
      exact k3 p a w hJ
    · obtain rfl : c4 = i := by simpa using hk
      exact k4 p a w hJ
    · obtain rfl : c5 = i := by simpa using hk
      exact k5 p a w hJ
    · simp at hk
  · rcases m with _ | m
    · obtain rfl : m1 = i := by simpa using hm
      exact n1 k p a w hp hJ
    · simp at hm
  · obtain ⟨q1, rfl⟩ := fin_one hp hall
    exact fin q1 a w hJ
end

/-- Region 6. -/
def ghJ6 (w : World) (l : RowL) (a0 : Act) (k : Nat) (p : List (Option Nat)) (a : Act) (v : World) : Prop :=
  ∃ y1 y2 y3 y4 y5 z1 : Value, a = ((((((a0.put (some 58) y1).put (some 60) y2).put (some 57) y3).put (some 61) y4).put (some 62) y5).put (some 18) z1) ∧ (0 < k → y1 = .agg #[.float .f64 4607182418800017408, .float .f64 4607182418800017408]) ∧ (1 < k → y2 = .tuple #[.agg #[.float .f64 4607182418800017408, .float .f64 4607182418800017408], .int .i64 0]) ∧ (2 < k → y3 = .tuple #[.agg #[.float .f64 4607182418800017408, .float .f64 4607182418800017408], .int .i64 0]) ∧ (3 < k → y4 = .agg #[.float .f64 4607182418800017408, .float .f64 4607182418800017408]) ∧ (4 < k → y5 = .int .i64 0) ∧ (∀ q, p[0]? = some (some q) → z1 = .pointer (some ⟨q, 0, none⟩)) ∧ OwnF w l [#[.float .f64 0, .float .f64 0]] p v
section
variable {w v : World} {l : RowL} {a0 a : Act} {p : List (Option Nat)}
theorem ghJ6_0 (h : ghJ6 w l a0 0 p a v) : ∃ y1 y2 y3 y4 y5 z1 : Value, a = ((((((a0.put (some 58) y1).put (some 60) y2).put (some 57) y3).put (some 61) y4).put (some 62) y5).put (some 18) z1) ∧ (∀ q, p[0]? = some (some q) → z1 = .pointer (some ⟨q, 0, none⟩)) ∧ OwnF w l [#[.float .f64 0, .float .f64 0]] p v := by
  obtain ⟨y1, y2, y3, y4, y5, z1, ha, E1, E2, E3, E4, E5, G1, h⟩ := h
  exact ⟨y1, y2, y3, y4, y5, z1, ha, G1, h⟩
theorem ghJ6_1 (h : ghJ6 w l a0 1 p a v) : ∃ y2 y3 y4 y5 z1 : Value, a = ((((((a0.put (some 58) (.agg #[.float .f64 4607182418800017408, .float .f64 4607182418800017408])).put (some 60) y2).put (some 57) y3).put (some 61) y4).put (some 62) y5).put (some 18) z1) ∧ (∀ q, p[0]? = some (some q) → z1 = .pointer (some ⟨q, 0, none⟩)) ∧ OwnF w l [#[.float .f64 0, .float .f64 0]] p v := by
  obtain ⟨y1, y2, y3, y4, y5, z1, ha, E1, E2, E3, E4, E5, G1, h⟩ := h
  obtain rfl := E1 (by decide)
  exact ⟨y2, y3, y4, y5, z1, ha, G1, h⟩
theorem ghJ6_2 (h : ghJ6 w l a0 2 p a v) : ∃ y3 y4 y5 z1 : Value, a = ((((((a0.put (some 58) (.agg #[.float .f64 4607182418800017408, .float .f64 4607182418800017408])).put (some 60) (.tuple #[.agg #[.float .f64 4607182418800017408, .float .f64 4607182418800017408], .int .i64 0])).put (some 57) y3).put (some 61) y4).put (some 62) y5).put (some 18) z1) ∧ (∀ q, p[0]? = some (some q) → z1 = .pointer (some ⟨q, 0, none⟩)) ∧ OwnF w l [#[.float .f64 0, .float .f64 0]] p v := by
  obtain ⟨y1, y2, y3, y4, y5, z1, ha, E1, E2, E3, E4, E5, G1, h⟩ := h
  obtain rfl := E1 (by decide)
  obtain rfl := E2 (by decide)
  exact ⟨y3, y4, y5, z1, ha, G1, h⟩
theorem ghJ6_3 (h : ghJ6 w l a0 3 p a v) : ∃ y4 y5 z1 : Value, a = ((((((a0.put (some 58) (.agg #[.float .f64 4607182418800017408, .float .f64 4607182418800017408])).put (some 60) (.tuple #[.agg #[.float .f64 4607182418800017408, .float .f64 4607182418800017408], .int .i64 0])).put (some 57) (.tuple #[.agg #[.float .f64 4607182418800017408, .float .f64 4607182418800017408], .int .i64 0])).put (some 61) y4).put (some 62) y5).put (some 18) z1) ∧ (∀ q, p[0]? = some (some q) → z1 = .pointer (some ⟨q, 0, none⟩)) ∧ OwnF w l [#[.float .f64 0, .float .f64 0]] p v := by
  obtain ⟨y1, y2, y3, y4, y5, z1, ha, E1, E2, E3, E4, E5, G1, h⟩ := h
  obtain rfl := E1 (by decide)
  obtain rfl := E2 (by decide)
  obtain rfl := E3 (by decide)
  exact ⟨y4, y5, z1, ha, G1, h⟩
theorem ghJ6_4 (h : ghJ6 w l a0 4 p a v) : ∃ y5 z1 : Value, a = ((((((a0.put (some 58) (.agg #[.float .f64 4607182418800017408, .float .f64 4607182418800017408])).put (some 60) (.tuple #[.agg #[.float .f64 4607182418800017408, .float .f64 4607182418800017408], .int .i64 0])).put (some 57) (.tuple #[.agg #[.float .f64 4607182418800017408, .float .f64 4607182418800017408], .int .i64 0])).put (some 61) (.agg #[.float .f64 4607182418800017408, .float .f64 4607182418800017408])).put (some 62) y5).put (some 18) z1) ∧ (∀ q, p[0]? = some (some q) → z1 = .pointer (some ⟨q, 0, none⟩)) ∧ OwnF w l [#[.float .f64 0, .float .f64 0]] p v := by
  obtain ⟨y1, y2, y3, y4, y5, z1, ha, E1, E2, E3, E4, E5, G1, h⟩ := h
  obtain rfl := E1 (by decide)
  obtain rfl := E2 (by decide)
  obtain rfl := E3 (by decide)
  obtain rfl := E4 (by decide)
  exact ⟨y5, z1, ha, G1, h⟩
theorem ghJ6_fin {q1 : Nat} (h : ghJ6 w l a0 5 [some q1] a v) : a = ((((((a0.put (some 58) (.agg #[.float .f64 4607182418800017408, .float .f64 4607182418800017408])).put (some 60) (.tuple #[.agg #[.float .f64 4607182418800017408, .float .f64 4607182418800017408], .int .i64 0])).put (some 57) (.tuple #[.agg #[.float .f64 4607182418800017408, .float .f64 4607182418800017408], .int .i64 0])).put (some 61) (.agg #[.float .f64 4607182418800017408, .float .f64 4607182418800017408])).put (some 62) (.int .i64 0)).put (some 18) (.pointer (some ⟨q1, 0, none⟩))) ∧ OwnF w l [#[.float .f64 0, .float .f64 0]] [some q1] v := by
  obtain ⟨y1, y2, y3, y4, y5, z1, ha, E1, E2, E3, E4, E5, G1, h⟩ := h
  obtain rfl := E1 (by decide)
  obtain rfl := E2 (by decide)
  obtain rfl := E3 (by decide)
  obtain rfl := E4 (by decide)
  obtain rfl := E5 (by decide)
  obtain rfl := G1 _ rfl
  exact ⟨ha, h⟩
end

set_option maxRecDepth 100000 in
set_option maxHeartbeats 16000000 in
theorem ghides_law {u0 v0 w0 i o a xl xh yl yh gl gh bl bh ml mh df : Nat} (w : World)
    (c1 : Hid (∀ w, Calls Try.prog 16 #[.float .f64 4571153621781053440, .float .f64 4607182418800017408, .int .u32 u0] w fun r w' => r = .returned (.float .f64 i) ∧ w = w'))
    (c2 : Hid (∀ w, Calls Try.prog 15 #[.float .f64 i] w fun r w' => r = .returned (.agg #[.float .f64 i, .float .f64 i]) ∧ Below w.heap.size w w'))
    (c3 : Hid (∀ w, Calls Try.prog 16 #[.float .f64 4571153621781053440, .float .f64 4607182418800017408, .int .u32 v0] w fun r w' => r = .returned (.float .f64 o) ∧ w = w'))
    (c4 : Hid (∀ w, Calls Try.prog 15 #[.float .f64 o] w fun r w' => r = .returned (.agg #[.float .f64 o, .float .f64 o]) ∧ Below w.heap.size w w'))
    (c5 : Hid (∀ w, Calls Try.prog 16 #[.float .f64 4584664420663164928, .float .f64 4607182418800017408, .int .u32 w0] w fun r w' => r = .returned (.float .f64 a) ∧ w = w'))
    (c6 : Hid (∀ w, Calls Try.prog 15 #[.float .f64 a] w fun r w' => r = .returned (.agg #[.float .f64 a, .float .f64 a]) ∧ Below w.heap.size w w'))
    (c7 : Hid (∀ w, Calls Try.prog 25 #[.agg #[.float .f64 i, .float .f64 i], .agg #[.float .f64 a, .float .f64 a]] w fun r w' => r = .returned (.tuple #[.agg #[.float .f64 xl, .float .f64 xh], .int .i64 0]) ∧ Below w.heap.size w w'))
    (c8 : Hid (∀ w, Calls Try.prog 25 #[.agg #[.float .f64 o, .float .f64 o], .agg #[.float .f64 a, .float .f64 a]] w fun r w' => r = .returned (.tuple #[.agg #[.float .f64 yl, .float .f64 yh], .int .i64 0]) ∧ Below w.heap.size w w'))
    (c9 : Hid (∀ w, Calls Try.prog 26 #[.agg #[.float .f64 i, .float .f64 i], .agg #[.float .f64 o, .float .f64 o], .agg #[.float .f64 a, .float .f64 a]] w fun r w' => r = .returned (.tuple #[.agg #[.float .f64 gl, .float .f64 gh], .int .i64 0]) ∧ Below w.heap.size w w'))
    (c10 : Hid (∀ w, Calls Try.prog 26 #[.agg #[.float .f64 o, .float .f64 o], .agg #[.float .f64 i, .float .f64 i], .agg #[.float .f64 a, .float .f64 a]] w fun r w' => r = .returned (.tuple #[.agg #[.float .f64 bl, .float .f64 bh], .int .i64 0]) ∧ Below w.heap.size w w'))
    (c11 : Hid (∀ w, Calls Try.prog 15 #[.float .f64 4607182418800017408] w fun r w' => r = .returned (.agg #[.float .f64 4607182418800017408, .float .f64 4607182418800017408]) ∧ Below w.heap.size w w'))
    (c12 : Hid (∀ w, Calls Try.prog 25 #[.agg #[.float .f64 4607182418800017408, .float .f64 4607182418800017408], .agg #[.float .f64 a, .float .f64 a]] w fun r w' => r = .returned (.tuple #[.agg #[.float .f64 4607182418800017408, .float .f64 4607182418800017408], .int .i64 0]) ∧ Below w.heap.size w w'))
    (d13 : Hid (K2 18 0 0 xl xh yl yh ml mh))
    (o_gtrxl_0 : ((FloatKind.f64.format.order xl 0 == some Ordering.gt) = true))
    (o_leqxh_418800017408 : (((FloatKind.f64.format.order xh 4607182418800017408 == some Ordering.lt) || (FloatKind.f64.format.order xh 4607182418800017408 == some Ordering.eq)) = true))
    (o_gtrgl_0 : ((FloatKind.f64.format.order gl 0 == some Ordering.gt) = true))
    (o_leqgl_xh : (((FloatKind.f64.format.order gl xh == some Ordering.lt) || (FloatKind.f64.format.order gl xh == some Ordering.eq)) = true))
    (o_leqgl_yh : (((FloatKind.f64.format.order gl yh == some Ordering.lt) || (FloatKind.f64.format.order gl yh == some Ordering.eq)) = true))
    (o_leqml_gh : (((FloatKind.f64.format.order ml gh == some Ordering.lt) || (FloatKind.f64.format.order ml gh == some Ordering.eq)) = true))
    (c15 : Hid (∀ w, Calls Try.prog 27 #[.agg #[.float .f64 gl, .float .f64 gh], .agg #[.float .f64 bl, .float .f64 bh]] w fun r w' => r = .returned (.bool true) ∧ Below w.heap.size w w'))
    (e_418800017408_418800017408 : (Op.floatEq .f64 4607182418800017408 4607182418800017408 = true))
    (q_df : (∀ w, (binOp .sub 22 (.float .f64 gh) (.float .f64 gl)).run Try.prog w = .ok (.float .f64 df) w))
    (o_leqdf_429978902528 : (((FloatKind.f64.format.order df 4472074429978902528 == some Ordering.lt) || (FloatKind.f64.format.order df 4472074429978902528 == some Ordering.eq)) = true))
    (c17 : Hid (∀ w, Calls Try.prog 24 #[] w fun r w' => r = .returned (.bool true) ∧ Below w.heap.size w w')) :
    Calls Try.prog 5 #[.int .u32 u0, .int .u32 v0, .int .u32 w0] w fun r w' => r = .returned (.bool true) ∧ Below w.heap.size w w' := by
  have M := Lib.hid (Own.nil w)
  have eqF := eq_floats
  go_enter Try.func5, Try.ntmps5
  go_wp2_with fail
  refine (c1.out _).mono ?_
  rintro r w1_ ⟨rfl, rfl⟩
  go_wp2_with fail
  refine (c2.out _).mono ?_
  rintro r w2_ ⟨rfl, hb⟩
  replace M := Lib.hid (M.out.below hb)
  clear hb
  go_wp2_with fail
  refine (c3.out _).mono ?_
  rintro r w3_ ⟨rfl, rfl⟩
  go_wp2_with fail
  refine (c4.out _).mono ?_
  rintro r w4_ ⟨rfl, hb⟩
  replace M := Lib.hid (M.out.below hb)
  clear hb
  go_wp2_with fail
  refine (c5.out _).mono ?_
  rintro r w5_ ⟨rfl, rfl⟩
  go_wp2_with fail
  refine (c6.out _).mono ?_
  rintro r w6_ ⟨rfl, hb⟩
  replace M := Lib.hid (M.out.below hb)
  clear hb
  replace M := Lib.hid (M.out.made #[.float .f64 i, .float .f64 i] 27)
  replace M := Lib.hid (M.out.made #[.float .f64 o, .float .f64 o] 27)
  replace M := Lib.hid (M.out.made #[.float .f64 a, .float .f64 a] 27)
  simp only [World.size_alloc] at M
  go_wp2_with fail
  refine (c7.out _).mono ?_
  rintro r w7_ ⟨rfl, hb⟩
  replace M := Lib.hid (M.out.below hb)
  clear hb
  replace M := Lib.hid (M.out.made #[.float .f64 xl, .float .f64 xh] 27)
  obtain ⟨k1, k2⟩ := (M.out.nth 2 rfl).two
  obtain ⟨k3, k4⟩ := (M.out.nth 1 rfl).two
  go_wp2_with fail
  refine (c8.out _).mono ?_
  rintro r w8_ ⟨rfl, hb⟩
  replace M := Lib.hid (M.out.below hb)
  clear hb
  clear k1 k2 k3 k4
  replace M := Lib.hid (M.out.made #[.float .f64 yl, .float .f64 yh] 27)
  obtain ⟨k1, k2⟩ := (M.out.nth 4 rfl).two
  obtain ⟨k3, k4⟩ := (M.out.nth 3 rfl).two
  obtain ⟨k5, k6⟩ := (M.out.nth 2 rfl).two
  go_wp2_with fail
  refine (c9.out _).mono ?_
  rintro r w9_ ⟨rfl, hb⟩
  replace M := Lib.hid (M.out.below hb)
  clear hb
  clear k1 k2 k3 k4 k5 k6
  replace M := Lib.hid (M.out.made #[.float .f64 gl, .float .f64 gh] 27)
  obtain ⟨k1, k2⟩ := (M.out.nth 4 rfl).two
  obtain ⟨k3, k4⟩ := (M.out.nth 5 rfl).two
  obtain ⟨k5, k6⟩ := (M.out.nth 3 rfl).two
  go_wp2_with fail
  refine (c10.out _).mono ?_
  rintro r w10_ ⟨rfl, hb⟩
  replace M := Lib.hid (M.out.below hb)
  clear hb
  clear k1 k2 k3 k4 k5 k6
  replace M := Lib.hid (M.out.made #[.float .f64 bl, .float .f64 bh] 27)
  go_upto_region 6 with fail
  replace M := Lib.hid M.out.drew
  revert M
  generalize (w10_.alloc (.cells #[.float .f64 bl, .float .f64 bh] 27)) = W11_
  intro M
  refine wp_region_noPanic ?_
  refine tails_region (S := fun w' => (w'.cell? ⟨(w6_.heap.size + 2), 0, none⟩ = some (.float .f64 a) ∧ w'.cell? ⟨(w6_.heap.size + 2), 1, none⟩ = some (.float .f64 a))) [] (by kernel_rfl) ?_ (fun hS => ?_)
  · exact (M.out.nth 4 rfl).two
  refine tk (x := ?_) 1 rfl (by kernel_rfl) ⟨by kernel_rfl, ?_⟩ (fun _ _ _ h => h) hS ?_
  rotate_left; focus (intro w hSw; (try dsimp only at hSw); go_simp; try with_reducible rfl)
  conv => arg 9; simp only [Act.put, go_sem]
  refine lp_ccppp_1 M 0 2 3 4 5 6 [58, 60, 57, 61, 62, 18] 2 (ghJ6 w) (by kernel_rfl) (by kernel_rfl) ?_ ?_ ?_ ?_ ?_ ?_ ?_ ?_ ?_
  · intro A hA
    obtain ⟨y1, hq1⟩ := put_ex (hA 58 (by simp))
    obtain ⟨y2, hq2⟩ := put_ex (hA 60 (by simp))
    obtain ⟨y3, hq3⟩ := put_ex (hA 57 (by simp))
    obtain ⟨y4, hq4⟩ := put_ex (hA 61 (by simp))
    obtain ⟨y5, hq5⟩ := put_ex (hA 62 (by simp))
    obtain ⟨z1, hq6⟩ := put_ex (hA 18 (by simp))
    exact ⟨y1, y2, y3, y4, y5, z1, by rw [hq1, hq2, hq3, hq4, hq5, hq6], by omega, by omega, by omega, by omega, by omega, by simp, OwnF.start M.out 1⟩
  · rintro k p a v ⟨y1, y2, y3, y4, y5, z1, _, _, _, _, _, _, _, h⟩
    exact (h.own.nth 4 rfl).two
  · intro p a v hJ
    refine op_step (o := _) rfl (fun K hK => ?_)
    obtain ⟨y1, y2, y3, y4, y5, z1, ha, gg1, h⟩ := ghJ6_0 hJ
    have h := Lib.hid h
    clear hJ
    subst ha
    go_simp
    refine (c11.out _).mono ?_
    rintro rr w5 ⟨rfl, hp⟩
    try go_wp2_with fail
    refine hK.out _ _ ⟨_, y2, y3, y4, y5, z1, ?_, fun _ => rfl, by omega, by omega, by omega, by omega, gg1, h.out.below hp⟩
    kernel_rfl
  · intro p a v hJ
    refine op_step (o := _) rfl (fun K hK => ?_)
    obtain ⟨y2, y3, y4, y5, z1, ha, gg1, h⟩ := ghJ6_1 hJ
    have h := Lib.hid h
    clear hJ
    subst ha
    go_simp
    refine (c12.out _).mono ?_
    rintro rr w5 ⟨rfl, hp⟩
    try go_wp2_with fail
    refine hK.out _ _ ⟨_, _, y3, y4, y5, z1, ?_, fun _ => rfl, fun _ => rfl, by omega, by omega, by omega, gg1, h.out.below hp⟩
    kernel_rfl
  · intro p a v hJ
    replace hJ := ghJ6_2 hJ
    refine Exists.elim hJ (fun y3 hJ => ?_)
    refine Exists.elim hJ (fun y4 hJ => ?_)
    refine Exists.elim hJ (fun y5 hJ => ?_)
    refine Exists.elim hJ (fun z1 hJ => ?_)
    have ha := hJ.1
    have gg1 := hJ.2.1
    have h := hJ.2.2
    clear hJ
    subst ha
    refine ⟨_, .tuple #[.agg #[.float .f64 4607182418800017408, .float .f64 4607182418800017408], .int .i64 0], rfl, Or.inl ⟨by kernel_rfl, ?_⟩, (fun _ _ _ h => h), _, _, _, y4, y5, z1, ?_, fun _ => rfl, fun _ => rfl, fun _ => rfl, by omega, by omega, gg1, h⟩
    · intro w hSw; clear hSw h; go_simp; try with_reducible rfl
    · kernel_rfl
  · intro p a v hJ
    replace hJ := ghJ6_3 hJ
    refine Exists.elim hJ (fun y4 hJ => ?_)
    refine Exists.elim hJ (fun y5 hJ => ?_)
    refine Exists.elim hJ (fun z1 hJ => ?_)
    have ha := hJ.1
    have gg1 := hJ.2.1
    have h := hJ.2.2
    clear hJ
    subst ha
    refine ⟨_, .agg #[.float .f64 4607182418800017408, .float .f64 4607182418800017408], rfl, Or.inl ⟨by kernel_rfl, ?_⟩, (fun _ _ _ h => h), _, _, _, _, y5, z1, ?_, fun _ => rfl, fun _ => rfl, fun _ => rfl, fun _ => rfl, by omega, gg1, h⟩
    · intro w hSw; clear hSw h; go_simp; try with_reducible rfl
    · kernel_rfl
  · intro p a v hJ
    replace hJ := ghJ6_4 hJ
    refine Exists.elim hJ (fun y5 hJ => ?_)
    refine Exists.elim hJ (fun z1 hJ => ?_)
    have ha := hJ.1
    have gg1 := hJ.2.1
    have h := hJ.2.2
    clear hJ
    subst ha
    refine ⟨_, .int .i64 0, rfl, Or.inl ⟨by kernel_rfl, ?_⟩, (fun _ _ _ h => h), _, _, _, _, _, z1, ?_, fun _ => rfl, fun _ => rfl, fun _ => rfl, fun _ => rfl, fun _ => rfl, gg1, h⟩
    · intro w hSw; clear hSw h; go_simp; try with_reducible rfl
    · kernel_rfl
  · intro k p a v hp hJ
    refine op_step (o := _) rfl (fun K hK => ?_)
    obtain ⟨y1, y2, y3, y4, y5, z1, ha, ee1, ee2, ee3, ee4, ee5, gg1, h⟩ := hJ
    have h := Lib.hid h
    subst ha
    go_simp
    refine hK.out _ _ ⟨v.heap.size, y1, y2, y3, y4, y5, .pointer (some ⟨v.heap.size, 0, none⟩), ?_, ee1, ee2, ee3, ee4, ee5, fun q hq => ptr_set hq, h.out.alloc hp rfl _⟩
    kernel_rfl
  intro p6_1 a v hJ
  obtain ⟨rfl, h⟩ := ghJ6_fin hJ
  clear hJ
  replace M := Lib.hid h.fin1
  clear h
  refine tails_one (T := []) (i := 7) (o := _) rfl (by kernel_rfl) (fun K hK => ?_)
  have kc := (M.out.nth 0 rfl).2.1
  have kf := (M.out.nth 0 rfl).2.2
  replace M : Hid (Own w [(p6_1, #[.float .f64 4607182418800017408, .float .f64 4607182418800017408]), (w10_.heap.size, #[.float .f64 bl, .float .f64 bh]), (w9_.heap.size, #[.float .f64 gl, .float .f64 gh]), (w8_.heap.size, #[.float .f64 yl, .float .f64 yh]), (w7_.heap.size, #[.float .f64 xl, .float .f64 xh]), ((w6_.heap.size + 2), #[.float .f64 a, .float .f64 a]), ((w6_.heap.size + 1), #[.float .f64 o, .float .f64 o]), (w6_.heap.size, #[.float .f64 i, .float .f64 i])] _) := Lib.hid (M.out.set2 0 rfl (.float .f64 4607182418800017408) (.float .f64 4607182418800017408))
  go_simp
  refine hK.out _ _ (Or.inr (M.out.nth 5 rfl).two) (fun hHeld => ?_)
  clear hK K hHeld kc kf
  refine tails_one (T := []) (i := 8) (o := _) rfl (by kernel_rfl) (fun K hK => ?_)
  go_simp
  refine hK.out _ _ (Or.inr (M.out.nth 5 rfl).two) (fun hHeld => ?_)
  clear hK K hHeld
  refine tails_done (by kernel_rfl) ?_ _
  refine NoPanic.normal ?_
  clear hS
  revert M
  generalize ((v.setCell ⟨p6_1, 0, none⟩ (.float .f64 4607182418800017408)).setCell ⟨p6_1, 1, none⟩ (.float .f64 4607182418800017408)) = W12_
  intro M
  replace M := Lib.hid (M.out.made #[.int .i64 0] 38)
  obtain ⟨k1, k2⟩ := (M.out.nth 5 rfl).two
  obtain ⟨k3, k4⟩ := (M.out.nth 4 rfl).two
  go_wp2_with fail
  refine (d13.out _ _ (M.out.nth 0 rfl)).mono ?_
  rintro r w13_ ⟨rfl, hb⟩
  replace M : Hid (Own w [(W12_.heap.size, #[.int .i64 0]), (p6_1, #[.float .f64 4607182418800017408, .float .f64 4607182418800017408]), (w10_.heap.size, #[.float .f64 bl, .float .f64 bh]), (w9_.heap.size, #[.float .f64 gl, .float .f64 gh]), (w8_.heap.size, #[.float .f64 yl, .float .f64 yh]), (w7_.heap.size, #[.float .f64 xl, .float .f64 xh]), ((w6_.heap.size + 2), #[.float .f64 a, .float .f64 a]), ((w6_.heap.size + 1), #[.float .f64 o, .float .f64 o]), (w6_.heap.size, #[.float .f64 i, .float .f64 i])] w13_) := Lib.hid (M.out.putAt 0 rfl hb)
  clear hb
  clear k1 k2 k3 k4
  replace M := Lib.hid (M.out.made #[.float .f64 ml, .float .f64 mh] 27).front
  go_upto_region 11 with fail
  replace M := Lib.hid M.out.drew
  obtain ⟨k1, k2⟩ := (M.out.nth 6 rfl).two
  obtain ⟨k3, k4⟩ := (M.out.nth 4 rfl).two
  obtain ⟨k5, k6⟩ := (M.out.nth 5 rfl).two
  obtain ⟨k7, k8⟩ := (M.out.nth 1 rfl).two
  obtain ⟨k9, k10⟩ := (M.out.nth 3 rfl).two
  obtain ⟨k11, k12⟩ := (M.out.nth 2 rfl).two
  go_region_held3 (fun w' => (w'.cell? ⟨w7_.heap.size, 0, none⟩ = some (.float .f64 xl) ∧ w'.cell? ⟨w7_.heap.size, 1, none⟩ = some (.float .f64 xh)) ∧ (w'.cell? ⟨w9_.heap.size, 0, none⟩ = some (.float .f64 gl) ∧ w'.cell? ⟨w9_.heap.size, 1, none⟩ = some (.float .f64 gh)) ∧ (w'.cell? ⟨w8_.heap.size, 0, none⟩ = some (.float .f64 yl) ∧ w'.cell? ⟨w8_.heap.size, 1, none⟩ = some (.float .f64 yh)) ∧ (w'.cell? ⟨w13_.heap.size, 0, none⟩ = some (.float .f64 ml) ∧ w'.cell? ⟨w13_.heap.size, 1, none⟩ = some (.float .f64 mh)) ∧ (w'.cell? ⟨w10_.heap.size, 0, none⟩ = some (.float .f64 bl) ∧ w'.cell? ⟨w10_.heap.size, 1, none⟩ = some (.float .f64 bh)) ∧ (w'.cell? ⟨p6_1, 0, none⟩ = some (.float .f64 4607182418800017408) ∧ w'.cell? ⟨p6_1, 1, none⟩ = some (.float .f64 4607182418800017408))) (((try dsimp only); (repeat' apply And.intro); all_goals (repeat (first | (with_reducible assumption) | ((with_reducible refine keep_undrew ?_); (with_reducible assumption)) | (with_reducible refine keep_drew ?_) | (with_reducible refine keep_alloc _ ?_) | (with_reducible refine keep_set _ (by first | (with_reducible assumption) | omega) ?_)))))
    (first
      | (go_at_call 13; (with_reducible refine (err_any 0 _ 0 _ (M.out.nth 0 rfl).pc).mono ?_); rintro rr w5 ⟨rfl, rfl⟩; clear k1 k2 k3 k4 k5 k6 k7 k8 k9 k10 k11 k12; obtain ⟨k1, k2⟩ := (M.out.nth 6 rfl).two; obtain ⟨k3, k4⟩ := (M.out.nth 4 rfl).two; obtain ⟨k5, k6⟩ := (M.out.nth 5 rfl).two; obtain ⟨k7, k8⟩ := (M.out.nth 1 rfl).two; obtain ⟨k9, k10⟩ := (M.out.nth 3 rfl).two; obtain ⟨k11, k12⟩ := (M.out.nth 2 rfl).two)
      | (go_at_call 27; (with_reducible refine (c15.out _).mono ?_); rintro rr w5 ⟨rfl, hb⟩; replace M := Lib.hid (M.out.below hb); clear hb; clear k1 k2 k3 k4 k5 k6 k7 k8 k9 k10 k11 k12; obtain ⟨k1, k2⟩ := (M.out.nth 6 rfl).two; obtain ⟨k3, k4⟩ := (M.out.nth 4 rfl).two; obtain ⟨k5, k6⟩ := (M.out.nth 5 rfl).two; obtain ⟨k7, k8⟩ := (M.out.nth 1 rfl).two; obtain ⟨k9, k10⟩ := (M.out.nth 3 rfl).two; obtain ⟨k11, k12⟩ := (M.out.nth 2 rfl).two)
      | (go_at_call 15; (with_reducible refine (c11.out _).mono ?_); rintro rr w5 ⟨rfl, hb⟩; replace M := Lib.hid (M.out.below hb); clear hb; clear k1 k2 k3 k4 k5 k6 k7 k8 k9 k10 k11 k12; obtain ⟨k1, k2⟩ := (M.out.nth 6 rfl).two; obtain ⟨k3, k4⟩ := (M.out.nth 4 rfl).two; obtain ⟨k5, k6⟩ := (M.out.nth 5 rfl).two; obtain ⟨k7, k8⟩ := (M.out.nth 1 rfl).two; obtain ⟨k9, k10⟩ := (M.out.nth 3 rfl).two; obtain ⟨k11, k12⟩ := (M.out.nth 2 rfl).two)
      | (go_at_call 24; (with_reducible refine (c17.out _).mono ?_); rintro rr w5 ⟨rfl, hb⟩; replace M := Lib.hid (M.out.below hb); clear hb; clear k1 k2 k3 k4 k5 k6 k7 k8 k9 k10 k11 k12; obtain ⟨k1, k2⟩ := (M.out.nth 6 rfl).two; obtain ⟨k3, k4⟩ := (M.out.nth 4 rfl).two; obtain ⟨k5, k6⟩ := (M.out.nth 5 rfl).two; obtain ⟨k7, k8⟩ := (M.out.nth 1 rfl).two; obtain ⟨k9, k10⟩ := (M.out.nth 3 rfl).two; obtain ⟨k11, k12⟩ := (M.out.nth 2 rfl).two))
  clear k1 k2 k3 k4 k5 k6 k7 k8 k9 k10 k11 k12
  go_wp2
  go_ret
  exact ⟨rfl, M.out.base⟩

end Go.Proofs.Ytdppppaoflhgdaa

namespace Go.Proofs.Ytdppppaoflhgdaa
open Go.RowKit

theorem inv_le {x y : Rat} (hx : 0 < x) (h : x ≤ y) : 1 / y ≤ 1 / x := by
  have hy : 0 < y := by grind
  refine Rat.le_of_mul_le_mul_right (c := x * y) ?_ (Rat.mul_pos hx hy)
  have e1 : 1 / y * (x * y) = x := by grind
  have e2 : 1 / x * (x * y) = y := by grind
  rw [e1, e2]; exact h
theorem inv_mul {p q : Rat} (hp : 0 ≤ p) (hq : 0 ≤ q) : 1 / (1 + p) * (1 / (1 + q)) ≤ 1 / (1 + p + q) := by
  have e : 1 / (1 + p) * (1 / (1 + q)) = 1 / ((1 + p) * (1 + q)) := by grind
  rw [e]
  have pq := Rat.mul_nonneg hp hq
  exact inv_le (by grind) (by grind)
theorem w_boxes : Fit (Gx.q2 cI8 cI8 aI) ∧ Fit (Gx.w cI8 cI8 aI) := ⟨.of (by decide +kernel), .of (by decide +kernel)⟩
theorem w_ends : 0 < val (Gx.q2 cI8 cI8 aI).lo ∧ 0 < val (Gx.w cI8 cI8 aI).lo ∧ 0 < val (Gx.v cI8 aI).lo ∧ val (Gx.v cI8 aI).hi = val u1 ∧ 0 ≤ val (Gx.l cI8 aI).lo := by decide +kernel
section
variable {i o a : Res} (hi : In i cI8) (ho : In o cI8) (ha : In a aI)
include hi ho ha
theorem q2_in : In (Gx.q2 i o a) (Gx.q2 cI8 cI8 aI) := add_in (l8_in hi ha).q lf_box.q (l8_in ho ha).l lf_box.l w_boxes.1.e
theorem w_in : In (Gx.w i o a) (Gx.w cI8 cI8 aI) := div_in (.refl u1_fit) u1_fit (q2_in hi ho ha) w_boxes.1 w_boxes.2.e
end
/-- A point of Lambda's. -/
def lq (c a : Res) : Rat := ((val (Gx.l c a).lo : Int) : Rat) / ((SS : Int) : Rat)
section
variable {i o a : Res} (hi : In i cI8) (ha : In a aI)
include hi ha
theorem lq_has : HasQ (Gx.l i a) (lq i a) := HasQ.fst (l8_in hi ha).l.fit
theorem lq_0 : 0 ≤ lq i a := by
  have h := (l8_in hi ha).l.lo
  have z := w_ends.2.2.2.2
  unfold lq
  rw [Rat.div_def]
  exact Rat.mul_nonneg (Rat.intCast_nonneg.2 (by omega)) (Rat.le_of_lt (Rat.inv_pos.2 ssQ))
theorem q_has : HasQ (Gx.q i a) (1 + lq i a) := HasQ.add u1_fit (l8_in hi ha).l.fit one_has (lq_has hi ha) (l8_in hi ha).q.fit.e
theorem v_has : HasQ (Gx.v i a) (1 / (1 + lq i a)) :=
  HasQ.div u1_fit (l8_in hi ha).q.fit one_has (q_has hi ha) (by have := (l8_in hi ha).q.lo; have := gx_lows.2.2.2.2; omega) (l8_in hi ha).v.fit.e
theorem w_has (ho : In o cI8) : HasQ (Gx.w i o a) (1 / (1 + lq i a + lq o a)) :=
  HasQ.div u1_fit (q2_in hi ho ha).fit one_has (HasQ.add (l8_in hi ha).q.fit (l8_in ho ha).l.fit (q_has hi ha) (lq_has ho ha) (q2_in hi ho ha).fit.e) (by have := (q2_in hi ho ha).lo; have := w_ends.1; omega) (w_in hi ho ha).fit.e
theorem hides (ho : In o cI8) : val (Gx.w i o a).lo ≤ val (Gx.v i a).hi ∧ val (Gx.w i o a).lo ≤ val (Gx.v o a).hi ∧ (val (Gx.w i o a).lo ≤ val (Gx.w o i a).hi ∧ val (Gx.w o i a).lo ≤ val (Gx.w i o a).hi) := by
  have p := lq_0 hi ha
  have q := lq_0 ho ha
  have w := w_has hi ha ho
  have e : 1 + lq o a + lq i a = 1 + lq i a + lq o a := by grind
  have w' : HasQ (Gx.w o i a) (1 / (1 + lq i a + lq o a)) := by have := w_has ho ha hi; rw [e] at this; exact this
  exact ⟨has_le w (v_has hi ha) (inv_le (by grind) (by grind)), has_le w (v_has ho ha) (inv_le (by grind) (by grind)), has_le w w' Rat.le_refl, has_le w' w Rat.le_refl⟩
theorem hides2 (ho : In o cI8) (he : (mulR (Gx.v i a) (Gx.v o a)).e = 0) : val (mulR (Gx.v i a) (Gx.v o a)).lo ≤ val (Gx.w i o a).hi :=
  has_le (HasQ.mul (l8_in hi ha).v.fit (l8_in ho ha).v.fit (v_has hi ha) (v_has ho ha) he) (w_has hi ha ho) (inv_mul (lq_0 hi ha) (lq_0 ho ha))
end
theorem vv_fit : Fit (mulR (Gx.v cI8 aI) (Gx.v cI8 aI)) := .of (by decide +kernel)
theorem vv_in {i o a : Res} (hi : In i cI8) (ho : In o cI8) (ha : In a aI) : Fit (mulR (Gx.v i a) (Gx.v o a)) := (mul_in (l8_in hi ha).v lf_box.v (l8_in ho ha).v lf_box.v vv_fit.e).fit

/-- Widths. -/
def wc (i : Nat) : Nat := 4571153621781053440 + i * 4503599627370496
def cb (i : Nat) : Res := ⟨0, wc i, wc (i + 1)⟩
namespace Gw
def one : BW := BW.one u1
def half : BW := BW.one uh
def a2 : BW := BW.sqr ⟨aI, 0⟩
def c2 (H : Res) : BW := BW.sqr ⟨H, 0⟩
def n (H : Res) : BW := one.sub (c2 H)
def t (H : Res) : BW := (n H).div (c2 H)
def m (H : Res) : BW := a2.mul (t H)
def p (H : Res) : BW := one.add (m H)
def r (H : Res) : BW := (p H).sqrt
def d (H : Res) : BW := (r H).sub one
def h (H : Res) : BW := half.mul (d H)
/-- Any of the eight. -/
def L : BW := ⟨Gx.l cI8 aI, val 4454060031469420544⟩
def q : BW := one.add L
def q2 : BW := q.add L
def w : BW := one.div q2
def chk (H : Res) : Bool := bok a2 && bok (c2 H) && bok (n H) && bok (t H) && bok (m H) && bok (p H) && bok (r H) && bok (d H) && bok (h H) && decide (0 < val (c2 H).R.lo) && decide (0 < val (r H).R.lo) && decide ((h H).w ≤ val 4454060031469420544)
end Gw
theorem gw_all : ∀ j, j < 8 → Gw.chk (cb j) = true := by decide +kernel
theorem cb_fit : ∀ i, i < 8 → fitB (cb i) = true := by decide +kernel
theorem wc_ends : val (wc 0) = val cI8.lo ∧ val (wc 8) = val cI8.hi := by decide +kernel
theorem gw_last : (bok Gw.q && bok Gw.q2 && bok Gw.w && decide (0 < val Gw.q2.R.lo) && decide (Gw.w.w ≤ val 4472074429978902528)) = true := by decide +kernel
theorem which9 {v : Int} (f : Nat → Int) : ∀ n, f 0 ≤ v → v ≤ f n → n ≠ 0 → ∃ i, i < n ∧ f i ≤ v ∧ v ≤ f (i + 1)
  | 0, _, _, h => absurd rfl h
  | n + 1, h0, h1, _ => by
    rcases Int.le_total (f n) v with g | g
    · exact ⟨n, by omega, g, h1⟩
    · rcases Nat.eq_zero_or_pos n with z | z
      · subst z; exact ⟨0, by omega, h0, h1⟩
      · obtain ⟨i, a, b, c⟩ := which9 f n h0 g (by omega)
        exact ⟨i, by omega, b, c⟩
theorem lam_box {H : Res} {x y : Nat} (hx : Snd (oneR x) ⟨H, 0⟩) (hy : Snd (oneR y) ⟨aI, 0⟩) (ok : Gw.chk H = true) : val (Gx.h (oneR x) (oneR y)).hi - val (Gx.h (oneR x) (oneR y)).lo ≤ val 4454060031469420544 := by
  unfold Gw.chk at ok
  simp only [Bool.and_eq_true, decide_eq_true_eq] at ok
  obtain ⟨⟨⟨⟨⟨⟨⟨⟨⟨⟨⟨b_a2, b_c2⟩, b_n⟩, b_t⟩, b_m⟩, b_p⟩, b_r⟩, b_d⟩, b_h⟩, l1⟩, l2⟩, fin⟩ := ok
  have one : Snd (oneR u1) Gw.one := .one (by decide) (by decide)
  have half : Snd (oneR uh) Gw.half := .one (by decide) (by decide)
  have j_a2 : Snd (Gx.a2 (oneR y)) Gw.a2 := hy.sqr b_a2
  have j_c2 : Snd (Gx.c2 (oneR x)) (Gw.c2 H) := hx.sqr b_c2
  have j_n : Snd (Gx.n (oneR x)) (Gw.n H) := one.sub j_c2 b_n
  have j_t : Snd (Gx.t (oneR x)) (Gw.t H) := j_n.div j_c2 b_t l1
  have j_m : Snd (Gx.m (oneR x) (oneR y)) (Gw.m H) := j_a2.mul j_t b_m
  have j_p : Snd (Gx.p (oneR x) (oneR y)) (Gw.p H) := one.add j_m b_p
  have j_r : Snd (Gx.r (oneR x) (oneR y)) (Gw.r H) := j_p.sqrt b_r l2
  have j_d : Snd (Gx.d (oneR x) (oneR y)) (Gw.d H) := j_r.sub one b_d
  have j_h : Snd (Gx.h (oneR x) (oneR y)) (Gw.h H) := half.mul j_d b_h
  exact Int.le_trans j_h.wid.wide fin
theorem lam_snd {x y : Nat} (hx : In (oneR x) cI8) (hy : In (oneR y) aI) : Snd (Gx.l (oneR x) (oneR y)) Gw.L := by
  obtain ⟨e0, e8⟩ := wc_ends
  obtain ⟨p, p8, p1, p2⟩ := which9 (v := val x) (fun k => val (wc k)) 8 (by show val (wc 0) ≤ _; rw [e0]; exact hx.lo) (by show _ ≤ val (wc 8); rw [e8]; exact hx.hi) (by decide)
  have w := lam_box (.box (.of (cb_fit p p8)) hx.fit p1 p2) (.box aI_fit hy.fit hy.lo hy.hi) (gw_all p p8)
  rw [← lam_h hx hy] at w
  exact ⟨⟨(l8_in hx hy).l, w⟩, lf_box.l⟩
theorem two_narrow {x z y : Nat} (hx : In (oneR x) cI8) (hz : In (oneR z) cI8) (hy : In (oneR y) aI) : val (Gx.w (oneR x) (oneR z) (oneR y)).hi - val (Gx.w (oneR x) (oneR z) (oneR y)).lo ≤ val 4472074429978902528 := by
  have ok := gw_last
  simp only [Bool.and_eq_true, decide_eq_true_eq] at ok
  obtain ⟨⟨⟨⟨b_q, b_q2⟩, b_w⟩, l1⟩, fin⟩ := ok
  have one : Snd (oneR u1) Gw.one := .one (by decide) (by decide)
  have j_q : Snd (Gx.q (oneR x) (oneR y)) Gw.q := one.add (lam_snd hx hy) b_q
  have j_q2 : Snd (Gx.q2 (oneR x) (oneR z) (oneR y)) Gw.q2 := j_q.add (lam_snd hz hy) b_q2
  have j_w : Snd (Gx.w (oneR x) (oneR z) (oneR y)) Gw.w := one.div j_q2 b_w l1
  exact Int.le_trans j_w.wid.wide fin
end Go.Proofs.Ytdppppaoflhgdaa

namespace Go.Proofs.Ytdppppaoflhgdaa
open Go.RowKit

theorem btw_c (n : Nat) (hn : n < 4294967296) : ∃ x, In (oneR x) cI8 ∧ ∀ w, Calls Try.prog 16 #[.float .f64 4571153621781053440, .float .f64 4607182418800017408, .int .u32 n] w fun r w' => r = .returned (.float .f64 x) ∧ w = w' := by
  obtain ⟨x, h, c⟩ := between8_any 4571153621781053440 4607182418800017408 n (by decide) (by decide) (by decide) (by decide) (by decide +kernel) (by decide +kernel) (by decide +kernel) hn
  exact ⟨x, ⟨one_fit h.lt h.right, h.lo, h.hi⟩, c⟩
theorem btw_a (n : Nat) (hn : n < 4294967296) : ∃ x, In (oneR x) aI ∧ ∀ w, Calls Try.prog 16 #[.float .f64 4584664420663164928, .float .f64 4607182418800017408, .int .u32 n] w fun r w' => r = .returned (.float .f64 x) ∧ w = w' := by
  obtain ⟨x, h, c⟩ := between8_any 4584664420663164928 4607182418800017408 n (by decide) (by decide) (by decide) (by decide) (by decide +kernel) (by decide +kernel) (by decide +kernel) hn
  exact ⟨x, ⟨one_fit h.lt h.right, h.lo, h.hi⟩, c⟩
theorem In.up8 {c : Res} (h : In c cI8) : In c ouI := ⟨h.fit, Int.le_trans cI8_in.lo h.lo, Int.le_trans h.hi cI8_in.hi⟩
theorem p9_of {x : Nat} {A : Res} (h : In (oneR x) A) (w : World) : Calls Try.prog 15 #[.float .f64 x] w fun r w' => r = .returned (.agg #[.float .f64 x, .float .f64 x]) ∧ Below w.heap.size w w' := p9_any x h.fit.lo h.fit.rlo w

set_option maxRecDepth 100000 in
set_option maxHeartbeats 1000000 in
theorem hides_any (u v t : Nat) (w : World) (hu : u < 4294967296) (hv : v < 4294967296) (ht : t < 4294967296) :
    Calls Try.prog 5 #[.int .u32 u, .int .u32 v, .int .u32 t] w fun r w' => r = .returned (.bool true) ∧ Below w.heap.size w w' := by
  obtain ⟨x, hx, cx⟩ := btw_c u hu
  obtain ⟨z, hz, cz⟩ := btw_c v hv
  obtain ⟨y, hy, cy⟩ := btw_a t ht
  have I := l8_in hx hy
  have J := l8_in hz hy
  have Q := q2_in hx hz hy
  have W := w_in hx hz hy
  have W' := w_in hz hx hy
  obtain ⟨b1, b2, b3⟩ := hides hx hy hz
  have b4 := hides2 hx hy hz (vv_in hx hz hy).e
  obtain ⟨e1, e2, e3, e4, _⟩ := w_ends
  have s1 := seen_1 hy
  have z0 : val 0 = 0 := v00
  have fv := I.v.fit
  have fo := J.v.fit
  have fw := W.fit
  have l1 := I.v.lo
  have l2 := I.v.hi
  have l3 := W.lo
  obtain ⟨df, q1, q2, q3, _, q5⟩ := sub_all fw.hi fw.lo fw.rhi fw.rlo fw.le (y0 := 4472074429978902528) (by decide) (by decide) (two_narrow hx hz hy)
  have c12 := top_turn (r' := oneR u1) (G1_ok u1_in hy (li_of gf_one lf_one u1_fit aI_fit (.refl u1_fit) hy).fits) s1.1 s1.2 rfl
  have fm := vv_in hx hz hy
  have t7 := G1_ok hx.up8 hy I.fits
  have t8 := G1_ok hz.up8 hy J.fits
  have t9 := fun w => G2_ok hx.up8 hz.up8 hy I.fits.zero I.q.fit J.fits.zero Q.fit W.fit w
  have t10 := fun w => G2_ok hz.up8 hx.up8 hy J.fits.zero J.q.fit I.fits.zero (q2_in hz hx hy).fit W'.fit w
  have fw' := W'.fit
  have p1 := fun w => p9_of hx w
  have p2 := fun w => p9_of hz w
  have p3 := fun w => p9_of hy w
  have g1 : 0 < val (Gx.v (oneR x) (oneR y)).lo := by omega
  have g2 : val (Gx.v (oneR x) (oneR y)).hi ≤ val u1 := by omega
  have g3 : 0 < val (Gx.w (oneR x) (oneR z) (oneR y)).lo := by omega
  clear I J Q W W' e1 e2 e3 e4 s1 l1 l2 l3
  generalize Gx.v (oneR x) (oneR y) = V at *
  generalize Gx.v (oneR z) (oneR y) = O at *
  generalize Gx.w (oneR x) (oneR z) (oneR y) = T at *
  generalize Gx.w (oneR z) (oneR x) (oneR y) = T' at *
  exact ghides_law (u0 := u) (v0 := v) (w0 := t) (xl := V.lo) (xh := V.hi) (yl := O.lo) (yh := O.hi) (gl := T.lo) (gh := T.hi) (bl := T'.lo) (bh := T'.hi) (ml := (mulR V O).lo) (mh := (mulR V O).hi) w
    (c1 := Lib.hid cx) (c2 := Lib.hid p1) (c3 := Lib.hid cz) (c4 := Lib.hid p2) (c5 := Lib.hid cy) (c6 := Lib.hid p3)
    (c7 := Lib.hid t7) (c8 := Lib.hid t8) (c9 := Lib.hid t9) (c10 := Lib.hid t10)
    (c11 := Lib.hid (p9_lit _ (by decide +kernel))) (c12 := Lib.hid c12) (d13 := Lib.hid fun pb => calc_mul fv fo fm pb)
    (o_gtrxl_0 := (order_gt _ _ fv.lo (by decide) fv.rlo (by decide)).trans (decide_eq_true (by omega)))
    (o_leqxh_418800017408 := (order_le _ _ fv.hi (by decide) fv.rhi (by decide)).trans (decide_eq_true g2))
    (o_gtrgl_0 := (order_gt _ _ fw.lo (by decide) fw.rlo (by decide)).trans (decide_eq_true (by omega)))
    (o_leqgl_xh := (order_le _ _ fw.lo fv.hi fw.rlo fv.rhi).trans (decide_eq_true b1)) (o_leqgl_yh := (order_le _ _ fw.lo fo.hi fw.rlo fo.rhi).trans (decide_eq_true b2))
    (o_leqml_gh := (order_le _ _ fm.lo fw.hi fm.rlo fw.rhi).trans (decide_eq_true b4))
    (c15 := Lib.hid fun w => meets8 fw fw' b3 w) (e_418800017408_418800017408 := by decide +kernel) (q_df := fun w => run_float_arith w .sub 22 .f64 _ _ _ q1)
    (o_leqdf_429978902528 := (order_le _ _ q2 (by decide) q3 (by decide)).trans (decide_eq_true q5)) (c17 := Lib.hid awake9_any)
end Go.Proofs.Ytdppppaoflhgdaa

namespace Go.Proofs.Ytdppppaoflhgdaa
open Go.ChangeShapes Go.WideShapes Go.ChangeAt Go.RowKit

set_option maxRecDepth 100000 in
theorem ggxHides_lifted (os : Os) (started : os.Started) (H : Type) (enc : TypeId × Value → H) :
    ReturnsInHanded {} Try.checked os 5 .any (Rows.ggxHidesSpec.pre6 enc Try.prog Try.f5 Rows.ggxHidesRow.domain false) (Rows.ggxHidesSpec.post enc Try.prog Try.f5 false true false false) := by
  refine returnsInHanded_of_change (C := Try.checked) Try.own started (by kernel_rfl) Try.func5
    (ChangeSpec.witness6 (enc := enc) (C := Try.checked) false ⟨#[], #[.int .u32 0, .int .u32 0, .int .u32 0], []⟩ 8 (by kernel_rfl) (by kernel_rfl) (by kernel_rfl) (by kernel_rfl)) ?_
  intro W base args ds gs before hval0 hW hcnd _
  have hval : ∀ (j : Nat) t v, Try.f5.params[j]? = some t → args[j]? = some v → Value.okWide Try.prog W .any base t v := hval0
  have hW' := hW
  obtain ⟨p, q, hA0, hV, rfl, hfz, hnd⟩ := hW
  have hA : DataW.TrodAll enc Try.prog W 0 (fun _ => true) true Try.f5.params.toList args.toList ds p := hA0
  rw [Try.params5] at hA hval
  obtain ⟨v0, v1, v2, d0, d1, d2, p0, p1, p2, rfl, rfl, rfl, h0, h1, h2⟩ := trodAll_three hA
  obtain ⟨rfl, rfl⟩ := trodVars_none hV
  obtain ⟨y0, rfl, rfl, rfl, wf0⟩ := open_int Try.underlying44 (hval 0 44 v0 rfl rfl) h0
  obtain ⟨y1, rfl, rfl, rfl, wf1⟩ := open_int Try.underlying44 (hval 1 44 v1 rfl rfl) h1
  obtain ⟨y2, rfl, rfl, rfl, wf2⟩ := open_int Try.underlying44 (hval 2 44 v2 rfl rfl) h2
  clear hA0 hval0
  simp only [List.append_nil] at hW'
  have b0 : 0 ≤ y0 ∧ y0 < 4294967296 := by
    have := wf0
    simp [Lit.wf] at this
    have e1 : IntKind.u32.min = 0 := by decide
    have e2 : IntKind.u32.max = 4294967295 := by decide
    omega
  obtain ⟨x0, rfl⟩ := Int.eq_ofNat_of_zero_le b0.1
  have l0_ : x0 < 4294967296 := by omega
  have b1 : 0 ≤ y1 ∧ y1 < 4294967296 := by
    have := wf1
    simp [Lit.wf] at this
    have e1 : IntKind.u32.min = 0 := by decide
    have e2 : IntKind.u32.max = 4294967295 := by decide
    omega
  obtain ⟨x1, rfl⟩ := Int.eq_ofNat_of_zero_le b1.1
  have l1_ : x1 < 4294967296 := by omega
  have b2 : 0 ≤ y2 ∧ y2 < 4294967296 := by
    have := wf2
    simp [Lit.wf] at this
    have e1 : IntKind.u32.min = 0 := by decide
    have e2 : IntKind.u32.max = 4294967295 := by decide
    omega
  obtain ⟨x2, rfl⟩ := Int.eq_ofNat_of_zero_le b2.1
  have l2_ : x2 < 4294967296 := by omega
  refine (hides_any x0 x1 x2 W l0_ l1_ l2_).mono fun e W' ⟨he, hw⟩ => ?_
  subst he
  refine ⟨_, rfl, _, _, _, [], [], [], hW', trodAll_mk1 (shut_bool Try.underlying4 _), trodAll_mk3 (shut_int Try.underlying44 wf0) (shut_int Try.underlying44 wf1) (shut_int Try.underlying44 wf2), rfl, hw.frame _, fun h => by cases h⟩

theorem ggxHides_holds : Rows.GgxHidesSaid :=
  OpenClaim.holds_of_wide 5 Try.f5 rfl rfl rfl rfl rfl rfl rfl ⟨rfl, rfl, rfl, rfl, rfl⟩ rfl rfl rfl rfl rfl (by kernel_rfl) Try.func5 (by kernel_rfl)
    (of_decide_eq_true (by kernel_rfl)) (by unfold Func.isWrapper; first | (rw [if_pos (by decide +kernel)]; kernel_rfl) | (rw [if_neg (by decide +kernel)]; exact ⟨rfl, rfl⟩))
    (fun os started H enc _ => ggxHides_lifted os started H enc)

end Go.Proofs.Ytdppppaoflhgdaa
