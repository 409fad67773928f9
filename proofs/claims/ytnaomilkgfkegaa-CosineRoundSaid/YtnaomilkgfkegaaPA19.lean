/- What the claim stands on, part 20: CoFL, CoFD, CoOL, CoOD, CoRL, CoRD. -/
import Derived.Test.YtnaomilkgfkegaaPA13
import Derived.Test.YtnaomilkgfkegaaPA17
import Derived.Test.YtnaomilkgfkegaaPA14
set_option maxHeartbeats 16000000
set_option maxRecDepth 100000
namespace Go.Proofs.Ytnaomilkgfkegaa
section
open Go.RowKit
attribute [local go_sem] run_store_float

section
variable {P : Program} {ops : Array Oper} {Q : Exit → Act → World → Prop} {md : Region.Mode} {S : World → Prop}
theorem lpx_cccccc_2 {a0 : Act} {B v : World} {l : List (Nat × Array Value)} {x : Nat × Array Value} (_ : Hid (Own B (x :: l) v)) {w0 : World} {L0 : Array Bool} (c1 c2 c3 c4 c5 c6 m1 m2 : Nat) (slots : List Nat) (N : Nat) (J : List (Nat × Array Value) → Act → Nat → List (Option Nat) → Act → World → Prop) (hok : latOkP [false, false, false, false, false, false] md ops L0 [c1, c2, c3, c4, c5, c6] [m1, m2] = true)
    (hsl : (slots.all fun s => decide (s < a0.tmps.size)) = true) (h0 : ∀ A : Act, (∀ s, s ∈ slots → s < A.tmps.size) → J l A 0 (List.replicate 2 none) A w0)
    (hS : ∀ k p a w, J l a0 k p a w → S w)
    (k1 : ∀ p a w, J l a0 0 p a w → wpOp P ops Q c1 (fun b v => J l a0 1 p b v) a w)
    (k2 : ∀ p a w, J l a0 1 p a w → wpOp P ops Q c2 (fun b v => J l a0 2 p b v) a w)
    (k3 : ∀ p a w, J l a0 2 p a w → wpOp P ops Q c3 (fun b v => J l a0 3 p b v) a w)
    (k4 : ∀ p a w, J l a0 3 p a w → wpOp P ops Q c4 (fun b v => J l a0 4 p b v) a w)
    (k5 : ∀ p a w, J l a0 4 p a w → wpOp P ops Q c5 (fun b v => J l a0 5 p b v) a w)
    (k6 : ∀ p a w, J l a0 5 p a w → wpOp P ops Q c6 (fun b v => J l a0 6 p b v) a w)
    (n1 : ∀ k p a w, p[0]? = some none → J l a0 k p a w → wpOp P ops Q m1 (fun b v => ∃ q, J l a0 k (p.set 0 (some q)) b v) a w)
    (n2 : ∀ k p a w, p[1]? = some none → J l a0 k p a w → wpOp P ops Q m2 (fun b v => ∃ q, J l a0 k (p.set 1 (some q)) b v) a w)
    (fin : ∀ q1 q2 a w, J l a0 6 [some q1, some q2] a w → wpAnyV P md ops Q S [] N (lstOf L0 [c1, c2, c3, c4, c5, c6] [m1, m2] 6 [true, true]) a w) :
    wpAnyV P md ops Q S [] (N + 8) L0 a0 w0 := by
  refine latP_from (pl := [false, false, false, false, false, false]) [c1, c2, c3, c4, c5, c6] [m1, m2] slots N 8 (J l) hok rfl hsl h0 hS (fun k i p a w hk hn hJ => ?_) (fun k i p a w hk hn hJ => ?_) (fun k m i p a w hm hp hJ => ?_) (fun p a w hp hall hJ => ?_)
  · rcases k with _ | _ | _ | _ | _ | _ | k
    · obtain rfl : c1 = i := by simpa using hk
      exact k1 p a w hJ
    · obtain rfl : c2 = i := by simpa using hk
      exact k2 p a w hJ
    · obtain rfl : c3 = i := by simpa using hk
      exact k3 p a w hJ
    · obtain rfl : c4 = i := by simpa using hk
      exact k4 p a w hJ
    · obtain rfl : c5 = i := by simpa using hk
      exact k5 p a w hJ
    · obtain rfl : c6 = i := by simpa using hk
      exact k6 p a w hJ
    · simp at hk
  · rcases k with _ | _ | _ | _ | _ | _ | k
    · exact absurd hn (by decide)
    · exact absurd hn (by decide)
    · exact absurd hn (by decide)
    · exact absurd hn (by decide)
    · exact absurd hn (by decide)
    · exact absurd hn (by decide)
    · simp at hk
  · rcases m with _ | _ | m
    · obtain rfl : m1 = i := by simpa using hm
      exact n1 k p a w hp hJ
    · obtain rfl : m2 = i := by simpa using hm
      exact n2 k p a w hp hJ
    · simp at hm
  · obtain ⟨q1, q2, rfl⟩ := fin_two hp hall
    exact fin q1 q2 a w hJ
end

def faJ5 (w : World) (pb : Nat) (al ah bl bh cl ch dl dh fl fh gl gh : Nat) (l : RowL) (a0 : Act) (k : Nat) (p : List (Option Nat)) (a : Act) (v : World) : Prop :=
  ∃ y1 y2 y3 y4 y5 y6 z1 z2 : Value, a = ((((((((a0.put (some 40) y1).put (some 44) y2).put (some 45) y3).put (some 50) y4).put (some 54) y5).put (some 55) y6).put (some 14) z1).put (some 15) z2) ∧ (0 < k → y1 = .agg #[.float .f64 al, .float .f64 ah]) ∧ (1 < k → y2 = .agg #[.float .f64 bl, .float .f64 bh]) ∧ (2 < k → y3 = .agg #[.float .f64 cl, .float .f64 ch]) ∧ (3 < k → y4 = .agg #[.float .f64 dl, .float .f64 dh]) ∧ (4 < k → y5 = .agg #[.float .f64 fl, .float .f64 fh]) ∧ (5 < k → y6 = .agg #[.float .f64 gl, .float .f64 gh]) ∧ (∀ q, p[0]? = some (some q) → z1 = .pointer (some ⟨q, 0, none⟩)) ∧ (∀ q, p[1]? = some (some q) → z2 = .pointer (some ⟨q, 0, none⟩)) ∧ OwnF w ((pb, #[.int .i64 0]) :: l) [#[.float .f64 0, .float .f64 0], #[.float .f64 0, .float .f64 0]] p v
section
variable {w v : World} {pb : Nat} {al ah bl bh cl ch dl dh fl fh gl gh : Nat} {l : RowL} {a0 a : Act} {p : List (Option Nat)}
theorem faJ5_0 (h : faJ5 w pb al ah bl bh cl ch dl dh fl fh gl gh l a0 0 p a v) : ∃ y1 y2 y3 y4 y5 y6 z1 z2 : Value, a = ((((((((a0.put (some 40) y1).put (some 44) y2).put (some 45) y3).put (some 50) y4).put (some 54) y5).put (some 55) y6).put (some 14) z1).put (some 15) z2) ∧ (∀ q, p[0]? = some (some q) → z1 = .pointer (some ⟨q, 0, none⟩)) ∧ (∀ q, p[1]? = some (some q) → z2 = .pointer (some ⟨q, 0, none⟩)) ∧ OwnF w ((pb, #[.int .i64 0]) :: l) [#[.float .f64 0, .float .f64 0], #[.float .f64 0, .float .f64 0]] p v := by
  obtain ⟨y1, y2, y3, y4, y5, y6, z1, z2, ha, E1, E2, E3, E4, E5, E6, G1, G2, h⟩ := h
  exact ⟨y1, y2, y3, y4, y5, y6, z1, z2, ha, G1, G2, h⟩
theorem faJ5_1 (h : faJ5 w pb al ah bl bh cl ch dl dh fl fh gl gh l a0 1 p a v) : ∃ y2 y3 y4 y5 y6 z1 z2 : Value, a = ((((((((a0.put (some 40) (.agg #[.float .f64 al, .float .f64 ah])).put (some 44) y2).put (some 45) y3).put (some 50) y4).put (some 54) y5).put (some 55) y6).put (some 14) z1).put (some 15) z2) ∧ (∀ q, p[0]? = some (some q) → z1 = .pointer (some ⟨q, 0, none⟩)) ∧ (∀ q, p[1]? = some (some q) → z2 = .pointer (some ⟨q, 0, none⟩)) ∧ OwnF w ((pb, #[.int .i64 0]) :: l) [#[.float .f64 0, .float .f64 0], #[.float .f64 0, .float .f64 0]] p v := by
  obtain ⟨y1, y2, y3, y4, y5, y6, z1, z2, ha, E1, E2, E3, E4, E5, E6, G1, G2, h⟩ := h
  obtain rfl := E1 (by decide)
  exact ⟨y2, y3, y4, y5, y6, z1, z2, ha, G1, G2, h⟩
theorem faJ5_2 (h : faJ5 w pb al ah bl bh cl ch dl dh fl fh gl gh l a0 2 p a v) : ∃ y3 y4 y5 y6 z1 z2 : Value, a = ((((((((a0.put (some 40) (.agg #[.float .f64 al, .float .f64 ah])).put (some 44) (.agg #[.float .f64 bl, .float .f64 bh])).put (some 45) y3).put (some 50) y4).put (some 54) y5).put (some 55) y6).put (some 14) z1).put (some 15) z2) ∧ (∀ q, p[0]? = some (some q) → z1 = .pointer (some ⟨q, 0, none⟩)) ∧ (∀ q, p[1]? = some (some q) → z2 = .pointer (some ⟨q, 0, none⟩)) ∧ OwnF w ((pb, #[.int .i64 0]) :: l) [#[.float .f64 0, .float .f64 0], #[.float .f64 0, .float .f64 0]] p v := by
  obtain ⟨y1, y2, y3, y4, y5, y6, z1, z2, ha, E1, E2, E3, E4, E5, E6, G1, G2, h⟩ := h
  obtain rfl := E1 (by decide)
  obtain rfl := E2 (by decide)
  exact ⟨y3, y4, y5, y6, z1, z2, ha, G1, G2, h⟩
theorem faJ5_3 (h : faJ5 w pb al ah bl bh cl ch dl dh fl fh gl gh l a0 3 p a v) : ∃ y4 y5 y6 z1 z2 : Value, a = ((((((((a0.put (some 40) (.agg #[.float .f64 al, .float .f64 ah])).put (some 44) (.agg #[.float .f64 bl, .float .f64 bh])).put (some 45) (.agg #[.float .f64 cl, .float .f64 ch])).put (some 50) y4).put (some 54) y5).put (some 55) y6).put (some 14) z1).put (some 15) z2) ∧ (∀ q, p[0]? = some (some q) → z1 = .pointer (some ⟨q, 0, none⟩)) ∧ (∀ q, p[1]? = some (some q) → z2 = .pointer (some ⟨q, 0, none⟩)) ∧ OwnF w ((pb, #[.int .i64 0]) :: l) [#[.float .f64 0, .float .f64 0], #[.float .f64 0, .float .f64 0]] p v := by
  obtain ⟨y1, y2, y3, y4, y5, y6, z1, z2, ha, E1, E2, E3, E4, E5, E6, G1, G2, h⟩ := h
  obtain rfl := E1 (by decide)
  obtain rfl := E2 (by decide)
  obtain rfl := E3 (by decide)
  exact ⟨y4, y5, y6, z1, z2, ha, G1, G2, h⟩
theorem faJ5_4 (h : faJ5 w pb al ah bl bh cl ch dl dh fl fh gl gh l a0 4 p a v) : ∃ y5 y6 z1 z2 : Value, a = ((((((((a0.put (some 40) (.agg #[.float .f64 al, .float .f64 ah])).put (some 44) (.agg #[.float .f64 bl, .float .f64 bh])).put (some 45) (.agg #[.float .f64 cl, .float .f64 ch])).put (some 50) (.agg #[.float .f64 dl, .float .f64 dh])).put (some 54) y5).put (some 55) y6).put (some 14) z1).put (some 15) z2) ∧ (∀ q, p[0]? = some (some q) → z1 = .pointer (some ⟨q, 0, none⟩)) ∧ (∀ q, p[1]? = some (some q) → z2 = .pointer (some ⟨q, 0, none⟩)) ∧ OwnF w ((pb, #[.int .i64 0]) :: l) [#[.float .f64 0, .float .f64 0], #[.float .f64 0, .float .f64 0]] p v := by
  obtain ⟨y1, y2, y3, y4, y5, y6, z1, z2, ha, E1, E2, E3, E4, E5, E6, G1, G2, h⟩ := h
  obtain rfl := E1 (by decide)
  obtain rfl := E2 (by decide)
  obtain rfl := E3 (by decide)
  obtain rfl := E4 (by decide)
  exact ⟨y5, y6, z1, z2, ha, G1, G2, h⟩
theorem faJ5_5 (h : faJ5 w pb al ah bl bh cl ch dl dh fl fh gl gh l a0 5 p a v) : ∃ y6 z1 z2 : Value, a = ((((((((a0.put (some 40) (.agg #[.float .f64 al, .float .f64 ah])).put (some 44) (.agg #[.float .f64 bl, .float .f64 bh])).put (some 45) (.agg #[.float .f64 cl, .float .f64 ch])).put (some 50) (.agg #[.float .f64 dl, .float .f64 dh])).put (some 54) (.agg #[.float .f64 fl, .float .f64 fh])).put (some 55) y6).put (some 14) z1).put (some 15) z2) ∧ (∀ q, p[0]? = some (some q) → z1 = .pointer (some ⟨q, 0, none⟩)) ∧ (∀ q, p[1]? = some (some q) → z2 = .pointer (some ⟨q, 0, none⟩)) ∧ OwnF w ((pb, #[.int .i64 0]) :: l) [#[.float .f64 0, .float .f64 0], #[.float .f64 0, .float .f64 0]] p v := by
  obtain ⟨y1, y2, y3, y4, y5, y6, z1, z2, ha, E1, E2, E3, E4, E5, E6, G1, G2, h⟩ := h
  obtain rfl := E1 (by decide)
  obtain rfl := E2 (by decide)
  obtain rfl := E3 (by decide)
  obtain rfl := E4 (by decide)
  obtain rfl := E5 (by decide)
  exact ⟨y6, z1, z2, ha, G1, G2, h⟩
theorem faJ5_fin {q1 q2 : Nat} (h : faJ5 w pb al ah bl bh cl ch dl dh fl fh gl gh l a0 6 [some q1, some q2] a v) : a = ((((((((a0.put (some 40) (.agg #[.float .f64 al, .float .f64 ah])).put (some 44) (.agg #[.float .f64 bl, .float .f64 bh])).put (some 45) (.agg #[.float .f64 cl, .float .f64 ch])).put (some 50) (.agg #[.float .f64 dl, .float .f64 dh])).put (some 54) (.agg #[.float .f64 fl, .float .f64 fh])).put (some 55) (.agg #[.float .f64 gl, .float .f64 gh])).put (some 14) (.pointer (some ⟨q1, 0, none⟩))).put (some 15) (.pointer (some ⟨q2, 0, none⟩))) ∧ OwnF w ((pb, #[.int .i64 0]) :: l) [#[.float .f64 0, .float .f64 0], #[.float .f64 0, .float .f64 0]] [some q1, some q2] v := by
  obtain ⟨y1, y2, y3, y4, y5, y6, z1, z2, ha, E1, E2, E3, E4, E5, E6, G1, G2, h⟩ := h
  obtain rfl := E1 (by decide)
  obtain rfl := E2 (by decide)
  obtain rfl := E3 (by decide)
  obtain rfl := E4 (by decide)
  obtain rfl := E5 (by decide)
  obtain rfl := E6 (by decide)
  obtain rfl := G1 _ rfl
  obtain rfl := G2 _ rfl
  exact ⟨ha, h⟩
end

theorem falls_law {u o n lo hi x0 x1 x2 x3 x4 x5 y0 y1 y2 y3 y4 y5 al ah bl bh cl ch dl dh fl fh gl gh : Nat} (w : World)
    (m_lo : (∀ ts t w, (Builtin.min_ ts t #[.int .u64 u, .int .u64 o]).run Try.prog w = .ok (.int .u64 lo) w))
    (m_hi : (∀ ts t w, (Builtin.max_ ts t #[.int .u64 u, .int .u64 o]).run Try.prog w = .ok (.int .u64 hi) w))
    (c1 : Hid (∀ w, Calls Try.prog 7 #[.int .u64 lo, .int .u64 n] w fun r w' => r = .returned (.tuple #[.agg #[.float .f64 x0, .float .f64 x1, .float .f64 x2, .float .f64 x3, .float .f64 x4, .float .f64 x5], .int .i64 0]) ∧ Below w.heap.size w w'))
    (c2 : Hid (∀ w, Calls Try.prog 7 #[.int .u64 hi, .int .u64 n] w fun r w' => r = .returned (.tuple #[.agg #[.float .f64 y0, .float .f64 y1, .float .f64 y2, .float .f64 y3, .float .f64 y4, .float .f64 y5], .int .i64 0]) ∧ Below w.heap.size w w'))
    (d3 : Hid (K1 14 0 0 x0 x1 al ah))
    (d4 : Hid (K1 14 0 0 x2 x3 bl bh))
    (d5 : Hid (K2 13 0 0 al ah bl bh cl ch))
    (d6 : Hid (K1 14 0 0 y0 y1 dl dh))
    (d7 : Hid (K1 14 0 0 y2 y3 fl fh))
    (d8 : Hid (K2 13 0 0 dl dh fl fh gl gh))
    (o_leqy4_x4 : (((FloatKind.f64.format.order y4 x4 == some Ordering.lt) || (FloatKind.f64.format.order y4 x4 == some Ordering.eq)) = true))
    (o_leqy5_x5 : (((FloatKind.f64.format.order y5 x5 == some Ordering.lt) || (FloatKind.f64.format.order y5 x5 == some Ordering.eq)) = true))
    (o_leqcl_gh : (((FloatKind.f64.format.order cl gh == some Ordering.lt) || (FloatKind.f64.format.order cl gh == some Ordering.eq)) = true))
    (c10 : Hid (∀ w, Calls Try.prog 12 #[] w fun r w' => r = .returned (.bool true) ∧ Below w.heap.size w w')) :
    Calls Try.prog 5 #[.int .u64 u, .int .u64 o, .int .u64 n] w fun r w' => r = .returned (.bool true) ∧ Below w.heap.size w w' := by
  have M := Lib.hid (Own.nil w)
  have eqF := eq_floats
  go_enter Try.func5, Try.ntmps5
  go_wp2_with fail
  refine (c1.out _).mono ?_
  rintro r w1_ ⟨rfl, hb⟩
  replace M := Lib.hid (M.out.below hb)
  clear hb
  replace M := Lib.hid (M.out.made #[.float .f64 x0, .float .f64 x1, .float .f64 x2, .float .f64 x3, .float .f64 x4, .float .f64 x5] 28)
  go_wp2_with fail
  refine (c2.out _).mono ?_
  rintro r w2_ ⟨rfl, hb⟩
  replace M := Lib.hid (M.out.below hb)
  clear hb
  replace M := Lib.hid (M.out.made #[.float .f64 y0, .float .f64 y1, .float .f64 y2, .float .f64 y3, .float .f64 y4, .float .f64 y5] 28)
  replace M := Lib.hid (M.out.made #[.int .i64 0] 41)
  simp only [World.size_alloc] at M
  go_upto_region 5 with fail
  replace M := Lib.hid M.out.drew
  revert M
  generalize ((w2_.alloc (.cells #[.float .f64 y0, .float .f64 y1, .float .f64 y2, .float .f64 y3, .float .f64 y4, .float .f64 y5] 28)).alloc (.cells #[.int .i64 0] 41)) = W3_
  intro M
  refine wp_region_noPanic ?_
  refine tails_region (S := fun w' => (w'.cell? ⟨w1_.heap.size, 0, none⟩ = some (.float .f64 x0) ∧ w'.cell? ⟨w1_.heap.size, 1, none⟩ = some (.float .f64 x1) ∧ w'.cell? ⟨w1_.heap.size, 2, none⟩ = some (.float .f64 x2) ∧ w'.cell? ⟨w1_.heap.size, 3, none⟩ = some (.float .f64 x3) ∧ w'.cell? ⟨w1_.heap.size, 4, none⟩ = some (.float .f64 x4) ∧ w'.cell? ⟨w1_.heap.size, 5, none⟩ = some (.float .f64 x5)) ∧ (w'.cell? ⟨w2_.heap.size, 0, none⟩ = some (.float .f64 y0) ∧ w'.cell? ⟨w2_.heap.size, 1, none⟩ = some (.float .f64 y1) ∧ w'.cell? ⟨w2_.heap.size, 2, none⟩ = some (.float .f64 y2) ∧ w'.cell? ⟨w2_.heap.size, 3, none⟩ = some (.float .f64 y3) ∧ w'.cell? ⟨w2_.heap.size, 4, none⟩ = some (.float .f64 y4) ∧ w'.cell? ⟨w2_.heap.size, 5, none⟩ = some (.float .f64 y5))) [] (by kernel_rfl) ?_ (fun hS => ?_)
  · exact ⟨(M.out.nth 2 rfl).six, (M.out.nth 1 rfl).six⟩
  refine tk (x := ?_) 0 rfl (by kernel_rfl) ⟨by kernel_rfl, ?_⟩ (fun _ _ _ h => h) hS ?_
  rotate_left; focus (intro w hSw; (try dsimp only at hSw); go_simp; try with_reducible rfl)
  refine tk (x := ?_) 1 rfl (by kernel_rfl) ⟨by kernel_rfl, ?_⟩ (fun _ _ _ h => h) hS ?_
  rotate_left; focus (intro w hSw; (try dsimp only at hSw); go_simp; try with_reducible rfl)
  refine tk (x := ?_) 2 rfl (by kernel_rfl) ⟨by kernel_rfl, ?_⟩ (fun _ _ _ h => h) hS ?_
  rotate_left; focus (intro w hSw; (try dsimp only at hSw); go_simp; try with_reducible rfl)
  refine tk (x := ?_) 3 rfl (by kernel_rfl) ⟨by kernel_rfl, ?_⟩ (fun _ _ _ h => h) hS ?_
  rotate_left; focus (intro w hSw; (try dsimp only at hSw); go_simp; try with_reducible rfl)
  refine tk (x := ?_) 5 rfl (by kernel_rfl) ⟨by kernel_rfl, ?_⟩ (fun _ _ _ h => h) hS ?_
  rotate_left; focus (intro w hSw; (try dsimp only at hSw); go_simp; try with_reducible rfl)
  refine tk (x := ?_) 6 rfl (by kernel_rfl) ⟨by kernel_rfl, ?_⟩ (fun _ _ _ h => h) hS ?_
  rotate_left; focus (intro w hSw; (try dsimp only at hSw); go_simp; try with_reducible rfl)
  refine tk (x := ?_) 7 rfl (by kernel_rfl) ⟨by kernel_rfl, ?_⟩ (fun _ _ _ h => h) hS ?_
  rotate_left; focus (intro w hSw; (try dsimp only at hSw); go_simp; try with_reducible rfl)
  refine tk (x := ?_) 10 rfl (by kernel_rfl) ⟨by kernel_rfl, ?_⟩ (fun _ _ _ h => h) hS ?_
  rotate_left; focus (intro w hSw; (try dsimp only at hSw); go_simp; try with_reducible rfl)
  refine tk (x := ?_) 11 rfl (by kernel_rfl) ⟨by kernel_rfl, ?_⟩ (fun _ _ _ h => h) hS ?_
  rotate_left; focus (intro w hSw; (try dsimp only at hSw); go_simp; try with_reducible rfl)
  refine tk (x := ?_) 12 rfl (by kernel_rfl) ⟨by kernel_rfl, ?_⟩ (fun _ _ _ h => h) hS ?_
  rotate_left; focus (intro w hSw; (try dsimp only at hSw); go_simp; try with_reducible rfl)
  refine tk (x := ?_) 13 rfl (by kernel_rfl) ⟨by kernel_rfl, ?_⟩ (fun _ _ _ h => h) hS ?_
  rotate_left; focus (intro w hSw; (try dsimp only at hSw); go_simp; try with_reducible rfl)
  refine tk (x := ?_) 15 rfl (by kernel_rfl) ⟨by kernel_rfl, ?_⟩ (fun _ _ _ h => h) hS ?_
  rotate_left; focus (intro w hSw; (try dsimp only at hSw); go_simp; try with_reducible rfl)
  refine tk (x := ?_) 16 rfl (by kernel_rfl) ⟨by kernel_rfl, ?_⟩ (fun _ _ _ h => h) hS ?_
  rotate_left; focus (intro w hSw; (try dsimp only at hSw); go_simp; try with_reducible rfl)
  refine tk (x := ?_) 17 rfl (by kernel_rfl) ⟨by kernel_rfl, ?_⟩ (fun _ _ _ h => h) hS ?_
  rotate_left; focus (intro w hSw; (try dsimp only at hSw); go_simp; try with_reducible rfl)
  conv => arg 9; simp only [Act.put, go_sem]
  refine lpx_cccccc_2 M 4 8 9 14 18 19 20 21 [40, 44, 45, 50, 54, 55, 14, 15] 2 (faJ5 w (w2_.heap.size + 1) al ah bl bh cl ch dl dh fl fh gl gh) (by kernel_rfl) (by kernel_rfl) ?_ ?_ ?_ ?_ ?_ ?_ ?_ ?_ ?_ ?_ ?_
  · intro A hA
    obtain ⟨y1, hq1⟩ := put_ex (hA 40 (by simp))
    obtain ⟨y2, hq2⟩ := put_ex (hA 44 (by simp))
    obtain ⟨y3, hq3⟩ := put_ex (hA 45 (by simp))
    obtain ⟨y4, hq4⟩ := put_ex (hA 50 (by simp))
    obtain ⟨y5, hq5⟩ := put_ex (hA 54 (by simp))
    obtain ⟨y6, hq6⟩ := put_ex (hA 55 (by simp))
    obtain ⟨z1, hq7⟩ := put_ex (hA 14 (by simp))
    obtain ⟨z2, hq8⟩ := put_ex (hA 15 (by simp))
    exact ⟨y1, y2, y3, y4, y5, y6, z1, z2, by rw [hq1, hq2, hq3, hq4, hq5, hq6, hq7, hq8], by omega, by omega, by omega, by omega, by omega, by omega, by simp, by simp, OwnF.start M.out 2⟩
  · rintro k p a v ⟨y1, y2, y3, y4, y5, y6, z1, z2, _, _, _, _, _, _, _, _, _, h⟩
    exact ⟨(h.own.nth 2 rfl).six, (h.own.nth 1 rfl).six⟩
  · intro p a v hJ
    refine op_step (o := _) rfl (fun K hK => ?_)
    obtain ⟨y1, y2, y3, y4, y5, y6, z1, z2, ha, gg1, gg2, h⟩ := faJ5_0 hJ
    have h := Lib.hid h
    clear hJ
    subst ha
    go_simp
    refine (d3.out _ _ (h.out.own.nth 0 rfl)).mono ?_
    rintro rr w5 ⟨rfl, hp⟩
    try go_wp2_with fail
    refine hK.out _ _ ⟨_, y2, y3, y4, y5, y6, z1, z2, ?_, fun _ => rfl, by omega, by omega, by omega, by omega, by omega, gg1, gg2, h.out.putHead hp⟩
    kernel_rfl
  · intro p a v hJ
    refine op_step (o := _) rfl (fun K hK => ?_)
    obtain ⟨y2, y3, y4, y5, y6, z1, z2, ha, gg1, gg2, h⟩ := faJ5_1 hJ
    have h := Lib.hid h
    clear hJ
    subst ha
    go_simp
    refine (d4.out _ _ (h.out.own.nth 0 rfl)).mono ?_
    rintro rr w5 ⟨rfl, hp⟩
    try go_wp2_with fail
    refine hK.out _ _ ⟨_, _, y3, y4, y5, y6, z1, z2, ?_, fun _ => rfl, fun _ => rfl, by omega, by omega, by omega, by omega, gg1, gg2, h.out.putHead hp⟩
    kernel_rfl
  · intro p a v hJ
    refine op_step (o := _) rfl (fun K hK => ?_)
    obtain ⟨y3, y4, y5, y6, z1, z2, ha, gg1, gg2, h⟩ := faJ5_2 hJ
    have h := Lib.hid h
    clear hJ
    subst ha
    go_simp
    refine (d5.out _ _ (h.out.own.nth 0 rfl)).mono ?_
    rintro rr w5 ⟨rfl, hp⟩
    try go_wp2_with fail
    refine hK.out _ _ ⟨_, _, _, y4, y5, y6, z1, z2, ?_, fun _ => rfl, fun _ => rfl, fun _ => rfl, by omega, by omega, by omega, gg1, gg2, h.out.putHead hp⟩
    kernel_rfl
  · intro p a v hJ
    refine op_step (o := _) rfl (fun K hK => ?_)
    obtain ⟨y4, y5, y6, z1, z2, ha, gg1, gg2, h⟩ := faJ5_3 hJ
    have h := Lib.hid h
    clear hJ
    subst ha
    go_simp
    refine (d6.out _ _ (h.out.own.nth 0 rfl)).mono ?_
    rintro rr w5 ⟨rfl, hp⟩
    try go_wp2_with fail
    refine hK.out _ _ ⟨_, _, _, _, y5, y6, z1, z2, ?_, fun _ => rfl, fun _ => rfl, fun _ => rfl, fun _ => rfl, by omega, by omega, gg1, gg2, h.out.putHead hp⟩
    kernel_rfl
  · intro p a v hJ
    refine op_step (o := _) rfl (fun K hK => ?_)
    obtain ⟨y5, y6, z1, z2, ha, gg1, gg2, h⟩ := faJ5_4 hJ
    have h := Lib.hid h
    clear hJ
    subst ha
    go_simp
    refine (d7.out _ _ (h.out.own.nth 0 rfl)).mono ?_
    rintro rr w5 ⟨rfl, hp⟩
    try go_wp2_with fail
    refine hK.out _ _ ⟨_, _, _, _, _, y6, z1, z2, ?_, fun _ => rfl, fun _ => rfl, fun _ => rfl, fun _ => rfl, fun _ => rfl, by omega, gg1, gg2, h.out.putHead hp⟩
    kernel_rfl
  · intro p a v hJ
    refine op_step (o := _) rfl (fun K hK => ?_)
    obtain ⟨y6, z1, z2, ha, gg1, gg2, h⟩ := faJ5_5 hJ
    have h := Lib.hid h
    clear hJ
    subst ha
    go_simp
    refine (d8.out _ _ (h.out.own.nth 0 rfl)).mono ?_
    rintro rr w5 ⟨rfl, hp⟩
    try go_wp2_with fail
    refine hK.out _ _ ⟨_, _, _, _, _, _, z1, z2, ?_, fun _ => rfl, fun _ => rfl, fun _ => rfl, fun _ => rfl, fun _ => rfl, fun _ => rfl, gg1, gg2, h.out.putHead hp⟩
    kernel_rfl
  · intro k p a v hp hJ
    refine op_step (o := _) rfl (fun K hK => ?_)
    obtain ⟨y1, y2, y3, y4, y5, y6, z1, z2, ha, ee1, ee2, ee3, ee4, ee5, ee6, gg1, gg2, h⟩ := hJ
    have h := Lib.hid h
    subst ha
    go_simp
    refine hK.out _ _ ⟨v.heap.size, y1, y2, y3, y4, y5, y6, .pointer (some ⟨v.heap.size, 0, none⟩), z2, ?_, ee1, ee2, ee3, ee4, ee5, ee6, fun q hq => ptr_set hq, ptr_keep 1 (by decide) gg2, h.out.alloc hp rfl _⟩
    kernel_rfl
  · intro k p a v hp hJ
    refine op_step (o := _) rfl (fun K hK => ?_)
    obtain ⟨y1, y2, y3, y4, y5, y6, z1, z2, ha, ee1, ee2, ee3, ee4, ee5, ee6, gg1, gg2, h⟩ := hJ
    have h := Lib.hid h
    subst ha
    go_simp
    refine hK.out _ _ ⟨v.heap.size, y1, y2, y3, y4, y5, y6, z1, .pointer (some ⟨v.heap.size, 0, none⟩), ?_, ee1, ee2, ee3, ee4, ee5, ee6, ptr_keep 0 (by decide) gg1, fun q hq => ptr_set hq, h.out.alloc hp rfl _⟩
    kernel_rfl
  intro p5_1 p5_2 a v hJ
  obtain ⟨rfl, h⟩ := faJ5_fin hJ
  clear hJ
  replace M := Lib.hid h.fin2
  clear h
  refine tails_one (T := []) (i := 22) (o := _) rfl (by kernel_rfl) (fun K hK => ?_)
  have kc := (M.out.nth 0 rfl).2.1
  have kf := (M.out.nth 0 rfl).2.2
  replace M : Hid (Own w [(p5_1, #[.float .f64 cl, .float .f64 ch]), (p5_2, #[.float .f64 0, .float .f64 0]), ((w2_.heap.size + 1), #[.int .i64 0]), (w2_.heap.size, #[.float .f64 y0, .float .f64 y1, .float .f64 y2, .float .f64 y3, .float .f64 y4, .float .f64 y5]), (w1_.heap.size, #[.float .f64 x0, .float .f64 x1, .float .f64 x2, .float .f64 x3, .float .f64 x4, .float .f64 x5])] _) := Lib.hid (M.out.set2 0 rfl (.float .f64 cl) (.float .f64 ch))
  go_simp
  refine hK.out _ _ (Or.inr ⟨(M.out.nth 4 rfl).six, (M.out.nth 3 rfl).six⟩) (fun hHeld => ?_)
  clear hK K hHeld kc kf
  refine tails_one (T := []) (i := 23) (o := _) rfl (by kernel_rfl) (fun K hK => ?_)
  have kc := (M.out.nth 1 rfl).2.1
  have kf := (M.out.nth 1 rfl).2.2
  replace M : Hid (Own w [(p5_1, #[.float .f64 cl, .float .f64 ch]), (p5_2, #[.float .f64 gl, .float .f64 gh]), ((w2_.heap.size + 1), #[.int .i64 0]), (w2_.heap.size, #[.float .f64 y0, .float .f64 y1, .float .f64 y2, .float .f64 y3, .float .f64 y4, .float .f64 y5]), (w1_.heap.size, #[.float .f64 x0, .float .f64 x1, .float .f64 x2, .float .f64 x3, .float .f64 x4, .float .f64 x5])] _) := Lib.hid (M.out.set2 1 rfl (.float .f64 gl) (.float .f64 gh))
  go_simp
  refine hK.out _ _ (Or.inr ⟨(M.out.nth 4 rfl).six, (M.out.nth 3 rfl).six⟩) (fun hHeld => ?_)
  clear hK K hHeld kc kf
  refine tails_done (by kernel_rfl) ?_ _
  refine NoPanic.normal ?_
  clear hS
  replace M : Hid (Own w [((w2_.heap.size + 1), #[.int .i64 0]), (p5_1, #[.float .f64 cl, .float .f64 ch]), (p5_2, #[.float .f64 gl, .float .f64 gh]), (w2_.heap.size, #[.float .f64 y0, .float .f64 y1, .float .f64 y2, .float .f64 y3, .float .f64 y4, .float .f64 y5]), (w1_.heap.size, #[.float .f64 x0, .float .f64 x1, .float .f64 x2, .float .f64 x3, .float .f64 x4, .float .f64 x5])] _) := Lib.hid M.out.front2
  revert M
  generalize ((((v.setCell ⟨p5_1, 0, none⟩ (.float .f64 cl)).setCell ⟨p5_1, 1, none⟩ (.float .f64 ch)).setCell ⟨p5_2, 0, none⟩ (.float .f64 gl)).setCell ⟨p5_2, 1, none⟩ (.float .f64 gh)) = W4_
  intro M
  go_wp2_with fail
  refine (err_any 0 _ 0 _ (M.out.nth 0 rfl).pc).mono ?_
  rintro r w5_ ⟨rfl, rfl⟩
  obtain ⟨k1, k2, k3, k4, k5, k6⟩ := (M.out.nth 3 rfl).six
  obtain ⟨k7, k8, k9, k10, k11, k12⟩ := (M.out.nth 4 rfl).six
  obtain ⟨k13, k14⟩ := (M.out.nth 1 rfl).two
  obtain ⟨k15, k16⟩ := (M.out.nth 2 rfl).two
  go_wp2_with fail
  refine (c10.out _).mono ?_
  rintro r w6_ ⟨rfl, hb⟩
  replace M := Lib.hid (M.out.below hb)
  clear hb
  clear k1 k2 k3 k4 k5 k6 k7 k8 k9 k10 k11 k12 k13 k14 k15 k16
  go_wp2
  go_ret
  exact ⟨rfl, M.out.base⟩
end
section
open Go.RowKit

theorem run_less64 (a b : Nat) (h : a ≤ b) (ts : Array TypeId) (t : TypeId) (w : World) : (Builtin.min_ ts t #[.int .u64 a, .int .u64 b]).run Try.prog w = .ok (.int .u64 a) w ∧ (Builtin.max_ ts t #[.int .u64 a, .int .u64 b]).run Try.prog w = .ok (.int .u64 b) w ∧
    (Builtin.min_ ts t #[.int .u64 b, .int .u64 a]).run Try.prog w = .ok (.int .u64 a) w ∧ (Builtin.max_ ts t #[.int .u64 b, .int .u64 a]).run Try.prog w = .ok (.int .u64 b) w := by
  refine ⟨?_, ?_, ?_, ?_⟩
  · simp [Builtin.min_, Builtin.min2]; omega
  · simp [Builtin.max_, Builtin.max2]; omega
  · simp [Builtin.min_, Builtin.min2]; omega
  · simp [Builtin.max_, Builtin.max2]; omega
theorem falls_core (u o n l g : Nat) (w : World) (hl : l < 18446744073709551616) (hg : g < 18446744073709551616) (hn : n < 18446744073709551616) (le : l ≤ g)
    (m1' : ∀ ts t w, (Builtin.min_ ts t #[.int .u64 u, .int .u64 o]).run Try.prog w = .ok (.int .u64 l) w) (m2' : ∀ ts t w, (Builtin.max_ ts t #[.int .u64 u, .int .u64 o]).run Try.prog w = .ok (.int .u64 g) w) :
    Calls Try.prog 5 #[.int .u64 u, .int .u64 o, .int .u64 n] w fun r w' => r = .returned (.bool true) ∧ Below w.heap.size w w' := by
  have A := (draw_c hl).i
  have B := (draw_c hg).i
  have N := draw_c hn
  obtain ⟨iv, ta, tb, _, _⟩ := draw_in hn N.fit N.lo N.hi
  obtain ⟨s, c, P⟩ := turn_pt ta tb
  obtain ⟨iS, iC⟩ := wide_c hn
  obtain ⟨v1, v2⟩ := of_mono hl hg le
  obtain ⟨z1, z2⟩ := z_falls A B v1 v2
  have fa := (up_ends A).2.2.2.fit
  have fb := (up_ends B).2.2.2.fit
  have fl : val (ofLo l) ≤ val (ofHi g) := Int.le_trans v1 B.fit.le
  have ff := flat_falls A B iS iC P.hs P.hc fl
  have f1 := (flat_fit A iS iC).1
  have f2 := (flat_fit B iS iC).1
  exact falls_law w m1' m2' (Lib.hid (draw_any hl hn)) (Lib.hid (draw_any hg hn)) (Lib.hid fun pb => calc_sqr (cn_xf A iC).1 (cn_q A iC).1 pb) (Lib.hid fun pb => calc_sqr (cn_xf A iS).1 (cn_q A iS).1 pb) (Lib.hid fun pb => calc_add (cn_q A iC).1 (cn_q A iS).1 f1 pb)
    (Lib.hid fun pb => calc_sqr (cn_xf B iC).1 (cn_q B iC).1 pb) (Lib.hid fun pb => calc_sqr (cn_xf B iS).1 (cn_q B iS).1 pb) (Lib.hid fun pb => calc_add (cn_q B iC).1 (cn_q B iS).1 f2 pb)
    (leq_val fb.lo fa.lo fb.rlo fa.rlo z1) (leq_val fb.hi fa.hi fb.rhi fa.rhi z2) (leq_val f1.lo f2.hi f1.rlo f2.rhi ff) (Lib.hid awake12_any)
theorem falls12_any (u o n : Nat) (w : World) (hu : u < 18446744073709551616) (ho : o < 18446744073709551616) (hn : n < 18446744073709551616) :
    Calls Try.prog 5 #[.int .u64 u, .int .u64 o, .int .u64 n] w fun r w' => r = .returned (.bool true) ∧ Below w.heap.size w w' := by
  rcases Nat.le_total u o with h | h
  · exact falls_core u o n u o w hu ho hn h (fun ts t w => (run_less64 u o h ts t w).1) (fun ts t w => (run_less64 u o h ts t w).2.1)
  · exact falls_core u o n o u w ho hu hn h (fun ts t w => (run_less64 o u h ts t w).2.2.1) (fun ts t w => (run_less64 o u h ts t w).2.2.2)
end
section
open Go.RowKit
attribute [local go_sem] run_store_float

theorem often_0 {u o n x0 x1 x2 x3 x4 x5 t pl ph al ah : Nat} (w : World)
    (c1 : Hid (∀ w, Calls Try.prog 7 #[.int .u64 u, .int .u64 o] w fun r w' => r = .returned (.tuple #[.agg #[.float .f64 x0, .float .f64 x1, .float .f64 x2, .float .f64 x3, .float .f64 x4, .float .f64 x5], .int .i64 0]) ∧ Below w.heap.size w w'))
    (c2 : Hid (∀ w, Calls Try.prog 8 #[.int .u32 n] w fun r w' => r = .returned (.float .f64 t) ∧ w = w'))
    (c3 : Hid (∀ w, Calls Try.prog 10 #[.float .f64 4607182418800017408] w fun r w' => r = .returned (.agg #[.float .f64 4607182418800017408, .float .f64 4607182418800017408]) ∧ Below w.heap.size w w'))
    (c4 : Hid (∀ w, Calls Try.prog 10 #[.float .f64 t] w fun r w' => r = .returned (.agg #[.float .f64 t, .float .f64 t]) ∧ Below w.heap.size w w'))
    (c5 : Hid (∀ w, Calls Try.prog 9 #[.agg #[.float .f64 4607182418800017408, .float .f64 4607182418800017408], .agg #[.float .f64 t, .float .f64 t]] w fun r w' => r = .returned (.tuple #[.agg #[.float .f64 pl, .float .f64 ph], .int .i64 0]) ∧ Below w.heap.size w w'))
    (c6 : Hid (∀ w, Calls Try.prog 11 #[.int .u64 u] w fun r w' => r = .returned (.agg #[.float .f64 al, .float .f64 ah]) ∧ Below w.heap.size w w'))
    (o_gtral_ah : ((FloatKind.f64.format.order al ah == some Ordering.gt) = false))
    (o_geqah_pl : (((FloatKind.f64.format.order ah pl == some Ordering.gt) || (FloatKind.f64.format.order ah pl == some Ordering.eq)) = false))
    (o_geqx5_t : (((FloatKind.f64.format.order x5 t == some Ordering.gt) || (FloatKind.f64.format.order x5 t == some Ordering.eq)) = true))
    (o_leqal_ph : (((FloatKind.f64.format.order al ph == some Ordering.lt) || (FloatKind.f64.format.order al ph == some Ordering.eq)) = false))
    (o_leqx4_t : (((FloatKind.f64.format.order x4 t == some Ordering.lt) || (FloatKind.f64.format.order x4 t == some Ordering.eq)) = true))
    (c7 : Hid (∀ w, Calls Try.prog 12 #[] w fun r w' => r = .returned (.bool true) ∧ Below w.heap.size w w')) :
    Calls Try.prog 3 #[.int .u64 u, .int .u64 o, .int .u32 n] w fun r w' => r = .returned (.bool true) ∧ Below w.heap.size w w' := by
  have M := Lib.hid (Own.nil w)
  have eqF := eq_floats
  go_enter Try.func3, Try.ntmps3
  go_wp2_with fail
  refine (c1.out _).mono ?_
  rintro r w1_ ⟨rfl, hb⟩
  replace M := Lib.hid (M.out.below hb)
  clear hb
  replace M := Lib.hid (M.out.made #[.float .f64 x0, .float .f64 x1, .float .f64 x2, .float .f64 x3, .float .f64 x4, .float .f64 x5] 28)
  go_wp2_with fail
  refine (c2.out _).mono ?_
  rintro r w2_ ⟨rfl, rfl⟩
  go_wp2_with fail
  refine (c3.out _).mono ?_
  rintro r w3_ ⟨rfl, hb⟩
  replace M := Lib.hid (M.out.below hb)
  clear hb
  go_wp2_with fail
  refine (c4.out _).mono ?_
  rintro r w4_ ⟨rfl, hb⟩
  replace M := Lib.hid (M.out.below hb)
  clear hb
  go_wp2_with fail
  refine (c5.out _).mono ?_
  rintro r w5_ ⟨rfl, hb⟩
  replace M := Lib.hid (M.out.below hb)
  clear hb
  replace M := Lib.hid (M.out.made #[.float .f64 pl, .float .f64 ph] 26)
  go_wp2_with fail
  refine (c6.out _).mono ?_
  rintro r w6_ ⟨rfl, hb⟩
  replace M := Lib.hid (M.out.below hb)
  clear hb
  replace M := Lib.hid (M.out.made #[.float .f64 al, .float .f64 ah] 26)
  obtain ⟨k1, k2⟩ := (M.out.nth 1 rfl).two
  obtain ⟨k3, k4, k5, k6, k7, k8⟩ := (M.out.nth 2 rfl).six
  go_wp2_with fail
  refine (c7.out _).mono ?_
  rintro r w7_ ⟨rfl, hb⟩
  replace M := Lib.hid (M.out.below hb)
  clear hb
  clear k1 k2 k3 k4 k5 k6 k7 k8
  go_wp2
  go_ret
  exact ⟨rfl, M.out.base⟩

theorem often_1 {u o n x0 x1 x2 x3 x4 x5 t pl ph al ah : Nat} (w : World)
    (c1 : Hid (∀ w, Calls Try.prog 7 #[.int .u64 u, .int .u64 o] w fun r w' => r = .returned (.tuple #[.agg #[.float .f64 x0, .float .f64 x1, .float .f64 x2, .float .f64 x3, .float .f64 x4, .float .f64 x5], .int .i64 0]) ∧ Below w.heap.size w w'))
    (c2 : Hid (∀ w, Calls Try.prog 8 #[.int .u32 n] w fun r w' => r = .returned (.float .f64 t) ∧ w = w'))
    (c3 : Hid (∀ w, Calls Try.prog 10 #[.float .f64 4607182418800017408] w fun r w' => r = .returned (.agg #[.float .f64 4607182418800017408, .float .f64 4607182418800017408]) ∧ Below w.heap.size w w'))
    (c4 : Hid (∀ w, Calls Try.prog 10 #[.float .f64 t] w fun r w' => r = .returned (.agg #[.float .f64 t, .float .f64 t]) ∧ Below w.heap.size w w'))
    (c5 : Hid (∀ w, Calls Try.prog 9 #[.agg #[.float .f64 4607182418800017408, .float .f64 4607182418800017408], .agg #[.float .f64 t, .float .f64 t]] w fun r w' => r = .returned (.tuple #[.agg #[.float .f64 pl, .float .f64 ph], .int .i64 0]) ∧ Below w.heap.size w w'))
    (c6 : Hid (∀ w, Calls Try.prog 11 #[.int .u64 u] w fun r w' => r = .returned (.agg #[.float .f64 al, .float .f64 ah]) ∧ Below w.heap.size w w'))
    (o_gtral_ah : ((FloatKind.f64.format.order al ah == some Ordering.gt) = false))
    (o_geqah_pl : (((FloatKind.f64.format.order ah pl == some Ordering.gt) || (FloatKind.f64.format.order ah pl == some Ordering.eq)) = true))
    (o_leqal_ph : (((FloatKind.f64.format.order al ph == some Ordering.lt) || (FloatKind.f64.format.order al ph == some Ordering.eq)) = false))
    (o_leqx4_t : (((FloatKind.f64.format.order x4 t == some Ordering.lt) || (FloatKind.f64.format.order x4 t == some Ordering.eq)) = true))
    (c7 : Hid (∀ w, Calls Try.prog 12 #[] w fun r w' => r = .returned (.bool true) ∧ Below w.heap.size w w')) :
    Calls Try.prog 3 #[.int .u64 u, .int .u64 o, .int .u32 n] w fun r w' => r = .returned (.bool true) ∧ Below w.heap.size w w' := by
  have M := Lib.hid (Own.nil w)
  have eqF := eq_floats
  go_enter Try.func3, Try.ntmps3
  go_wp2_with fail
  refine (c1.out _).mono ?_
  rintro r w1_ ⟨rfl, hb⟩
  replace M := Lib.hid (M.out.below hb)
  clear hb
  replace M := Lib.hid (M.out.made #[.float .f64 x0, .float .f64 x1, .float .f64 x2, .float .f64 x3, .float .f64 x4, .float .f64 x5] 28)
  go_wp2_with fail
  refine (c2.out _).mono ?_
  rintro r w2_ ⟨rfl, rfl⟩
  go_wp2_with fail
  refine (c3.out _).mono ?_
  rintro r w3_ ⟨rfl, hb⟩
  replace M := Lib.hid (M.out.below hb)
  clear hb
  go_wp2_with fail
  refine (c4.out _).mono ?_
  rintro r w4_ ⟨rfl, hb⟩
  replace M := Lib.hid (M.out.below hb)
  clear hb
  go_wp2_with fail
  refine (c5.out _).mono ?_
  rintro r w5_ ⟨rfl, hb⟩
  replace M := Lib.hid (M.out.below hb)
  clear hb
  replace M := Lib.hid (M.out.made #[.float .f64 pl, .float .f64 ph] 26)
  go_wp2_with fail
  refine (c6.out _).mono ?_
  rintro r w6_ ⟨rfl, hb⟩
  replace M := Lib.hid (M.out.below hb)
  clear hb
  replace M := Lib.hid (M.out.made #[.float .f64 al, .float .f64 ah] 26)
  obtain ⟨k1, k2⟩ := (M.out.nth 1 rfl).two
  obtain ⟨k3, k4, k5, k6, k7, k8⟩ := (M.out.nth 2 rfl).six
  go_wp2_with fail
  refine (c7.out _).mono ?_
  rintro r w7_ ⟨rfl, hb⟩
  replace M := Lib.hid (M.out.below hb)
  clear hb
  clear k1 k2 k3 k4 k5 k6 k7 k8
  go_wp2
  go_ret
  exact ⟨rfl, M.out.base⟩

theorem often_2 {u o n x0 x1 x2 x3 x4 x5 t pl ph al ah : Nat} (w : World)
    (c1 : Hid (∀ w, Calls Try.prog 7 #[.int .u64 u, .int .u64 o] w fun r w' => r = .returned (.tuple #[.agg #[.float .f64 x0, .float .f64 x1, .float .f64 x2, .float .f64 x3, .float .f64 x4, .float .f64 x5], .int .i64 0]) ∧ Below w.heap.size w w'))
    (c2 : Hid (∀ w, Calls Try.prog 8 #[.int .u32 n] w fun r w' => r = .returned (.float .f64 t) ∧ w = w'))
    (c3 : Hid (∀ w, Calls Try.prog 10 #[.float .f64 4607182418800017408] w fun r w' => r = .returned (.agg #[.float .f64 4607182418800017408, .float .f64 4607182418800017408]) ∧ Below w.heap.size w w'))
    (c4 : Hid (∀ w, Calls Try.prog 10 #[.float .f64 t] w fun r w' => r = .returned (.agg #[.float .f64 t, .float .f64 t]) ∧ Below w.heap.size w w'))
    (c5 : Hid (∀ w, Calls Try.prog 9 #[.agg #[.float .f64 4607182418800017408, .float .f64 4607182418800017408], .agg #[.float .f64 t, .float .f64 t]] w fun r w' => r = .returned (.tuple #[.agg #[.float .f64 pl, .float .f64 ph], .int .i64 0]) ∧ Below w.heap.size w w'))
    (c6 : Hid (∀ w, Calls Try.prog 11 #[.int .u64 u] w fun r w' => r = .returned (.agg #[.float .f64 al, .float .f64 ah]) ∧ Below w.heap.size w w'))
    (o_gtral_ah : ((FloatKind.f64.format.order al ah == some Ordering.gt) = false))
    (o_geqah_pl : (((FloatKind.f64.format.order ah pl == some Ordering.gt) || (FloatKind.f64.format.order ah pl == some Ordering.eq)) = false))
    (o_geqx5_t : (((FloatKind.f64.format.order x5 t == some Ordering.gt) || (FloatKind.f64.format.order x5 t == some Ordering.eq)) = true))
    (o_leqal_ph : (((FloatKind.f64.format.order al ph == some Ordering.lt) || (FloatKind.f64.format.order al ph == some Ordering.eq)) = true))
    (c7 : Hid (∀ w, Calls Try.prog 12 #[] w fun r w' => r = .returned (.bool true) ∧ Below w.heap.size w w')) :
    Calls Try.prog 3 #[.int .u64 u, .int .u64 o, .int .u32 n] w fun r w' => r = .returned (.bool true) ∧ Below w.heap.size w w' := by
  have M := Lib.hid (Own.nil w)
  have eqF := eq_floats
  go_enter Try.func3, Try.ntmps3
  go_wp2_with fail
  refine (c1.out _).mono ?_
  rintro r w1_ ⟨rfl, hb⟩
  replace M := Lib.hid (M.out.below hb)
  clear hb
  replace M := Lib.hid (M.out.made #[.float .f64 x0, .float .f64 x1, .float .f64 x2, .float .f64 x3, .float .f64 x4, .float .f64 x5] 28)
  go_wp2_with fail
  refine (c2.out _).mono ?_
  rintro r w2_ ⟨rfl, rfl⟩
  go_wp2_with fail
  refine (c3.out _).mono ?_
  rintro r w3_ ⟨rfl, hb⟩
  replace M := Lib.hid (M.out.below hb)
  clear hb
  go_wp2_with fail
  refine (c4.out _).mono ?_
  rintro r w4_ ⟨rfl, hb⟩
  replace M := Lib.hid (M.out.below hb)
  clear hb
  go_wp2_with fail
  refine (c5.out _).mono ?_
  rintro r w5_ ⟨rfl, hb⟩
  replace M := Lib.hid (M.out.below hb)
  clear hb
  replace M := Lib.hid (M.out.made #[.float .f64 pl, .float .f64 ph] 26)
  go_wp2_with fail
  refine (c6.out _).mono ?_
  rintro r w6_ ⟨rfl, hb⟩
  replace M := Lib.hid (M.out.below hb)
  clear hb
  replace M := Lib.hid (M.out.made #[.float .f64 al, .float .f64 ah] 26)
  obtain ⟨k1, k2⟩ := (M.out.nth 1 rfl).two
  obtain ⟨k3, k4, k5, k6, k7, k8⟩ := (M.out.nth 2 rfl).six
  go_wp2_with fail
  refine (c7.out _).mono ?_
  rintro r w7_ ⟨rfl, hb⟩
  replace M := Lib.hid (M.out.below hb)
  clear hb
  clear k1 k2 k3 k4 k5 k6 k7 k8
  go_wp2
  go_ret
  exact ⟨rfl, M.out.base⟩

theorem often_3 {u o n x0 x1 x2 x3 x4 x5 t pl ph al ah : Nat} (w : World)
    (c1 : Hid (∀ w, Calls Try.prog 7 #[.int .u64 u, .int .u64 o] w fun r w' => r = .returned (.tuple #[.agg #[.float .f64 x0, .float .f64 x1, .float .f64 x2, .float .f64 x3, .float .f64 x4, .float .f64 x5], .int .i64 0]) ∧ Below w.heap.size w w'))
    (c2 : Hid (∀ w, Calls Try.prog 8 #[.int .u32 n] w fun r w' => r = .returned (.float .f64 t) ∧ w = w'))
    (c3 : Hid (∀ w, Calls Try.prog 10 #[.float .f64 4607182418800017408] w fun r w' => r = .returned (.agg #[.float .f64 4607182418800017408, .float .f64 4607182418800017408]) ∧ Below w.heap.size w w'))
    (c4 : Hid (∀ w, Calls Try.prog 10 #[.float .f64 t] w fun r w' => r = .returned (.agg #[.float .f64 t, .float .f64 t]) ∧ Below w.heap.size w w'))
    (c5 : Hid (∀ w, Calls Try.prog 9 #[.agg #[.float .f64 4607182418800017408, .float .f64 4607182418800017408], .agg #[.float .f64 t, .float .f64 t]] w fun r w' => r = .returned (.tuple #[.agg #[.float .f64 pl, .float .f64 ph], .int .i64 0]) ∧ Below w.heap.size w w'))
    (c6 : Hid (∀ w, Calls Try.prog 11 #[.int .u64 u] w fun r w' => r = .returned (.agg #[.float .f64 al, .float .f64 ah]) ∧ Below w.heap.size w w'))
    (o_gtral_ah : ((FloatKind.f64.format.order al ah == some Ordering.gt) = false))
    (o_geqah_pl : (((FloatKind.f64.format.order ah pl == some Ordering.gt) || (FloatKind.f64.format.order ah pl == some Ordering.eq)) = true))
    (o_leqal_ph : (((FloatKind.f64.format.order al ph == some Ordering.lt) || (FloatKind.f64.format.order al ph == some Ordering.eq)) = true))
    (c7 : Hid (∀ w, Calls Try.prog 12 #[] w fun r w' => r = .returned (.bool true) ∧ Below w.heap.size w w')) :
    Calls Try.prog 3 #[.int .u64 u, .int .u64 o, .int .u32 n] w fun r w' => r = .returned (.bool true) ∧ Below w.heap.size w w' := by
  have M := Lib.hid (Own.nil w)
  have eqF := eq_floats
  go_enter Try.func3, Try.ntmps3
  go_wp2_with fail
  refine (c1.out _).mono ?_
  rintro r w1_ ⟨rfl, hb⟩
  replace M := Lib.hid (M.out.below hb)
  clear hb
  replace M := Lib.hid (M.out.made #[.float .f64 x0, .float .f64 x1, .float .f64 x2, .float .f64 x3, .float .f64 x4, .float .f64 x5] 28)
  go_wp2_with fail
  refine (c2.out _).mono ?_
  rintro r w2_ ⟨rfl, rfl⟩
  go_wp2_with fail
  refine (c3.out _).mono ?_
  rintro r w3_ ⟨rfl, hb⟩
  replace M := Lib.hid (M.out.below hb)
  clear hb
  go_wp2_with fail
  refine (c4.out _).mono ?_
  rintro r w4_ ⟨rfl, hb⟩
  replace M := Lib.hid (M.out.below hb)
  clear hb
  go_wp2_with fail
  refine (c5.out _).mono ?_
  rintro r w5_ ⟨rfl, hb⟩
  replace M := Lib.hid (M.out.below hb)
  clear hb
  replace M := Lib.hid (M.out.made #[.float .f64 pl, .float .f64 ph] 26)
  go_wp2_with fail
  refine (c6.out _).mono ?_
  rintro r w6_ ⟨rfl, hb⟩
  replace M := Lib.hid (M.out.below hb)
  clear hb
  replace M := Lib.hid (M.out.made #[.float .f64 al, .float .f64 ah] 26)
  obtain ⟨k1, k2⟩ := (M.out.nth 1 rfl).two
  go_wp2_with fail
  refine (c7.out _).mono ?_
  rintro r w7_ ⟨rfl, hb⟩
  replace M := Lib.hid (M.out.below hb)
  clear hb
  clear k1 k2
  go_wp2
  go_ret
  exact ⟨rfl, M.out.base⟩
end
section
open Go.RowKit

theorem often12_any (u o n : Nat) (w : World) (hu : u < 18446744073709551616) (ho : o < 18446744073709551616) (hn : n < 4294967296) :
    Calls Try.prog 3 #[.int .u64 u, .int .u64 o, .int .u32 n] w fun r w' => r = .returned (.bool true) ∧ Below w.heap.size w w' := by
  obtain ⟨t, ht, lt, rt, t0, t1⟩ := frac_word n hn
  have us : val u1 = SS := by decide +kernel
  have A := (draw_c hu).i
  have it : In (oneR t) cuI := ⟨one_fit lt rt, by rw [cu_ends.1]; exact t0, by rw [cu_ends.2, ← us]; exact t1⟩
  have iu : In (oneR u1) cuI := ⟨u1_fit, by rw [cu_ends.1, show (oneR u1).lo = u1 from rfl, us]; exact Int.le_of_lt SS0, by rw [cu_ends.2, ← us]; exact Int.le_refl _⟩
  obtain ⟨k1, k2⟩ := often A it
  obtain ⟨_, fc⟩ := cap_has8 it
  have fz := (up_ends A).2.2.2.fit
  have og : (FloatKind.f64.format.order (ofLo u) (ofHi u) == some Ordering.gt) = false := by
    have l : val (ofLo u) ≤ val (ofHi u) := A.fit.le
    exact (order_gt (ofLo u) (ofHi u) A.fit.lo A.fit.hi A.fit.rlo A.fit.rhi).trans (decide_eq_false (by omega))
  have g1 := geq_val (x := ofHi u) (y := (capR (oneR u1) (oneR t)).lo) A.fit.hi fc.lo A.fit.rhi fc.rlo
  have g2 := geq_val (x := (Cn.z (Cx.a u)).hi) (y := t) fz.hi lt fz.rhi rt
  have l1 : _ = decide (val (ofLo u) ≤ val (capR (oneR u1) (oneR t)).hi) := order_le (ofLo u) (capR (oneR u1) (oneR t)).hi A.fit.lo fc.hi A.fit.rlo fc.rhi
  have l2 : _ = decide (val (Cn.z (Cx.a u)).lo ≤ val t) := order_le (Cn.z (Cx.a u)).lo t fz.lo lt fz.rlo rt
  have cD := Lib.hid (draw_any hu ho)
  have cF := Lib.hid fun w => frac_walk n t w fun w => run_float_arith w .quo 24 .f64 _ _ _ ht
  have c3 := Lib.hid (point_c (x := 4607182418800017408) (by decide) (by decide))
  have c4 := Lib.hid (point_c lt rt)
  have c5 := Lib.hid fun w => cap_any (a := oneR u1) (c := oneR t) iu it w
  have c6 := Lib.hid fun w => uof_any u w hu
  by_cases p1 : val (capR (oneR u1) (oneR t)).lo ≤ val (ofHi u)
  · rw [decide_eq_true p1] at g1
    by_cases p2 : val (ofLo u) ≤ val (capR (oneR u1) (oneR t)).hi
    · rw [decide_eq_true p2] at l1
      exact often_3 w cD cF c3 c4 c5 c6 og g1 l1 (Lib.hid awake12_any)
    · rw [decide_eq_false p2] at l1
      exact often_1 w cD cF c3 c4 c5 c6 og g1 l1 (l2.trans (decide_eq_true (k2.resolve_left p2))) (Lib.hid awake12_any)
  · rw [decide_eq_false p1] at g1
    have g2 := g2.trans (decide_eq_true (k1.resolve_left p1))
    by_cases p2 : val (ofLo u) ≤ val (capR (oneR u1) (oneR t)).hi
    · rw [decide_eq_true p2] at l1
      exact often_2 w cD cF c3 c4 c5 c6 og g1 g2 l1 (Lib.hid awake12_any)
    · rw [decide_eq_false p2] at l1
      exact often_0 w cD cF c3 c4 c5 c6 og g1 g2 l1 (l2.trans (decide_eq_true (k2.resolve_left p2))) (Lib.hid awake12_any)
end
section
open Go.RowKit
attribute [local go_sem] run_store_float

section
variable {P : Program} {ops : Array Oper} {Q : Exit → Act → World → Prop} {md : Region.Mode} {S : World → Prop}
theorem lpx_ccc_1 {a0 : Act} {B v : World} {l : List (Nat × Array Value)} {x : Nat × Array Value} (_ : Hid (Own B (x :: l) v)) {w0 : World} {L0 : Array Bool} (c1 c2 c3 m1 : Nat) (slots : List Nat) (N : Nat) (J : List (Nat × Array Value) → Act → Nat → List (Option Nat) → Act → World → Prop) (hok : latOkP [false, false, false] md ops L0 [c1, c2, c3] [m1] = true)
    (hsl : (slots.all fun s => decide (s < a0.tmps.size)) = true) (h0 : ∀ A : Act, (∀ s, s ∈ slots → s < A.tmps.size) → J l A 0 (List.replicate 1 none) A w0)
    (hS : ∀ k p a w, J l a0 k p a w → S w)
    (k1 : ∀ p a w, J l a0 0 p a w → wpOp P ops Q c1 (fun b v => J l a0 1 p b v) a w)
    (k2 : ∀ p a w, J l a0 1 p a w → wpOp P ops Q c2 (fun b v => J l a0 2 p b v) a w)
    (k3 : ∀ p a w, J l a0 2 p a w → wpOp P ops Q c3 (fun b v => J l a0 3 p b v) a w)
    (n1 : ∀ k p a w, p[0]? = some none → J l a0 k p a w → wpOp P ops Q m1 (fun b v => ∃ q, J l a0 k (p.set 0 (some q)) b v) a w)
    (fin : ∀ q1 a w, J l a0 3 [some q1] a w → wpAnyV P md ops Q S [] N (lstOf L0 [c1, c2, c3] [m1] 3 [true]) a w) :
    wpAnyV P md ops Q S [] (N + 4) L0 a0 w0 := by
  refine latP_from (pl := [false, false, false]) [c1, c2, c3] [m1] slots N 4 (J l) hok rfl hsl h0 hS (fun k i p a w hk hn hJ => ?_) (fun k i p a w hk hn hJ => ?_) (fun k m i p a w hm hp hJ => ?_) (fun p a w hp hall hJ => ?_)
  · rcases k with _ | _ | _ | k
    · obtain rfl : c1 = i := by simpa using hk
      exact k1 p a w hJ
    · obtain rfl : c2 = i := by simpa using hk
      exact k2 p a w hJ
    · obtain rfl : c3 = i := by simpa using hk
      exact k3 p a w hJ
    · simp at hk
  · rcases k with _ | _ | _ | k
    · exact absurd hn (by decide)
    · exact absurd hn (by decide)
    · exact absurd hn (by decide)
    · simp at hk
  · rcases m with _ | m
    · obtain rfl : m1 = i := by simpa using hm
      exact n1 k p a w hp hJ
    · simp at hm
  · obtain ⟨q1, rfl⟩ := fin_one hp hall
    exact fin q1 a w hJ
end

def roJ4 (w : World) (pb : Nat) (el eh fl fh gl gh : Nat) (l : RowL) (a0 : Act) (k : Nat) (p : List (Option Nat)) (a : Act) (v : World) : Prop :=
  ∃ y1 y2 y3 z1 : Value, a = ((((a0.put (some 29) y1).put (some 33) y2).put (some 34) y3).put (some 9) z1) ∧ (0 < k → y1 = .agg #[.float .f64 el, .float .f64 eh]) ∧ (1 < k → y2 = .agg #[.float .f64 fl, .float .f64 fh]) ∧ (2 < k → y3 = .agg #[.float .f64 gl, .float .f64 gh]) ∧ (∀ q, p[0]? = some (some q) → z1 = .pointer (some ⟨q, 0, none⟩)) ∧ OwnF w ((pb, #[.int .i64 0]) :: l) [#[.float .f64 0, .float .f64 0]] p v
section
variable {w v : World} {pb : Nat} {el eh fl fh gl gh : Nat} {l : RowL} {a0 a : Act} {p : List (Option Nat)}
theorem roJ4_0 (h : roJ4 w pb el eh fl fh gl gh l a0 0 p a v) : ∃ y1 y2 y3 z1 : Value, a = ((((a0.put (some 29) y1).put (some 33) y2).put (some 34) y3).put (some 9) z1) ∧ (∀ q, p[0]? = some (some q) → z1 = .pointer (some ⟨q, 0, none⟩)) ∧ OwnF w ((pb, #[.int .i64 0]) :: l) [#[.float .f64 0, .float .f64 0]] p v := by
  obtain ⟨y1, y2, y3, z1, ha, E1, E2, E3, G1, h⟩ := h
  exact ⟨y1, y2, y3, z1, ha, G1, h⟩
theorem roJ4_1 (h : roJ4 w pb el eh fl fh gl gh l a0 1 p a v) : ∃ y2 y3 z1 : Value, a = ((((a0.put (some 29) (.agg #[.float .f64 el, .float .f64 eh])).put (some 33) y2).put (some 34) y3).put (some 9) z1) ∧ (∀ q, p[0]? = some (some q) → z1 = .pointer (some ⟨q, 0, none⟩)) ∧ OwnF w ((pb, #[.int .i64 0]) :: l) [#[.float .f64 0, .float .f64 0]] p v := by
  obtain ⟨y1, y2, y3, z1, ha, E1, E2, E3, G1, h⟩ := h
  obtain rfl := E1 (by decide)
  exact ⟨y2, y3, z1, ha, G1, h⟩
theorem roJ4_2 (h : roJ4 w pb el eh fl fh gl gh l a0 2 p a v) : ∃ y3 z1 : Value, a = ((((a0.put (some 29) (.agg #[.float .f64 el, .float .f64 eh])).put (some 33) (.agg #[.float .f64 fl, .float .f64 fh])).put (some 34) y3).put (some 9) z1) ∧ (∀ q, p[0]? = some (some q) → z1 = .pointer (some ⟨q, 0, none⟩)) ∧ OwnF w ((pb, #[.int .i64 0]) :: l) [#[.float .f64 0, .float .f64 0]] p v := by
  obtain ⟨y1, y2, y3, z1, ha, E1, E2, E3, G1, h⟩ := h
  obtain rfl := E1 (by decide)
  obtain rfl := E2 (by decide)
  exact ⟨y3, z1, ha, G1, h⟩
theorem roJ4_fin {q1 : Nat} (h : roJ4 w pb el eh fl fh gl gh l a0 3 [some q1] a v) : a = ((((a0.put (some 29) (.agg #[.float .f64 el, .float .f64 eh])).put (some 33) (.agg #[.float .f64 fl, .float .f64 fh])).put (some 34) (.agg #[.float .f64 gl, .float .f64 gh])).put (some 9) (.pointer (some ⟨q1, 0, none⟩))) ∧ OwnF w ((pb, #[.int .i64 0]) :: l) [#[.float .f64 0, .float .f64 0]] [some q1] v := by
  obtain ⟨y1, y2, y3, z1, ha, E1, E2, E3, G1, h⟩ := h
  obtain rfl := E1 (by decide)
  obtain rfl := E2 (by decide)
  obtain rfl := E3 (by decide)
  obtain rfl := G1 _ rfl
  exact ⟨ha, h⟩
end

theorem round_law {u o x0 x1 x2 x3 x4 x5 al ah el eh fl fh gl gh il ih bl bh sl sh cl ch dl dh jl jh ml mh nl nh wx wz : Nat} (w : World)
    (c1 : Hid (∀ w, Calls Try.prog 7 #[.int .u64 u, .int .u64 o] w fun r w' => r = .returned (.tuple #[.agg #[.float .f64 x0, .float .f64 x1, .float .f64 x2, .float .f64 x3, .float .f64 x4, .float .f64 x5], .int .i64 0]) ∧ Below w.heap.size w w'))
    (c2 : Hid (∀ w, Calls Try.prog 11 #[.int .u64 u] w fun r w' => r = .returned (.agg #[.float .f64 al, .float .f64 ah]) ∧ Below w.heap.size w w'))
    (d3 : Hid (K1 14 0 0 x0 x1 el eh))
    (d4 : Hid (K1 14 0 0 x2 x3 fl fh))
    (d5 : Hid (K2 13 0 0 el eh fl fh gl gh))
    (d6 : Hid (K1 14 0 0 x4 x5 il ih))
    (c7 : Hid (∀ w, Calls Try.prog 11 #[.int .u64 o] w fun r w' => r = .returned (.agg #[.float .f64 bl, .float .f64 bh]) ∧ Below w.heap.size w w'))
    (c8 : Hid (∀ w, Calls Try.prog 15 #[.agg #[.float .f64 bl, .float .f64 bh]] w fun r w' => r = .returned (.tuple #[.agg #[.float .f64 sl, .float .f64 sh], .agg #[.float .f64 cl, .float .f64 ch], .int .i64 0]) ∧ Below w.heap.size w w'))
    (d9 : Hid (KN 16 0 0 4607182418800017408 4607182418800017408 4607182418800017408))
    (c11 : Hid (∀ w, Calls Try.prog 18 #[.agg #[.float .f64 gl, .float .f64 gh], .agg #[.float .f64 al, .float .f64 ah]] w fun r w' => r = .returned (.bool true) ∧ Below w.heap.size w w'))
    (d12 : Hid (K2 19 0 0 4607182418800017408 4607182418800017408 al ah dl dh))
    (c13 : Hid (∀ w, Calls Try.prog 18 #[.agg #[.float .f64 il, .float .f64 ih], .agg #[.float .f64 dl, .float .f64 dh]] w fun r w' => r = .returned (.bool true) ∧ Below w.heap.size w w'))
    (d14 : Hid (K2 13 0 0 gl gh il ih jl jh))
    (c15 : Hid (∀ w, Calls Try.prog 18 #[.agg #[.float .f64 jl, .float .f64 jh], .agg #[.float .f64 4607182418800017408, .float .f64 4607182418800017408]] w fun r w' => r = .returned (.bool true) ∧ Below w.heap.size w w'))
    (d16 : Hid (K2 20 0 0 x0 x1 sl sh ml mh))
    (d17 : Hid (K2 20 0 0 x2 x3 cl ch nl nh))
    (c18 : Hid (∀ w, Calls Try.prog 18 #[.agg #[.float .f64 ml, .float .f64 mh], .agg #[.float .f64 nl, .float .f64 nh]] w fun r w' => r = .returned (.bool true) ∧ Below w.heap.size w w'))
    (o_geqx4_0 : (((FloatKind.f64.format.order x4 0 == some Ordering.gt) || (FloatKind.f64.format.order x4 0 == some Ordering.eq)) = true))
    (o_leqx5_418800017408 : (((FloatKind.f64.format.order x5 4607182418800017408 == some Ordering.lt) || (FloatKind.f64.format.order x5 4607182418800017408 == some Ordering.eq)) = true))
    (q_wx : (∀ w, (binOp .sub 24 (.float .f64 x1) (.float .f64 x0)).run Try.prog w = .ok (.float .f64 wx) w))
    (o_leqwx_433705197568 : (((FloatKind.f64.format.order wx 4427038433705197568 == some Ordering.lt) || (FloatKind.f64.format.order wx 4427038433705197568 == some Ordering.eq)) = true))
    (q_wz : (∀ w, (binOp .sub 24 (.float .f64 x5) (.float .f64 x4)).run Try.prog w = .ok (.float .f64 wz) w))
    (o_leqwz_428115755008 : (((FloatKind.f64.format.order wz 4494592428115755008 == some Ordering.lt) || (FloatKind.f64.format.order wz 4494592428115755008 == some Ordering.eq)) = true))
    (c19 : Hid (∀ w, Calls Try.prog 12 #[] w fun r w' => r = .returned (.bool true) ∧ Below w.heap.size w w')) :
    Calls Try.prog 4 #[.int .u64 u, .int .u64 o] w fun r w' => r = .returned (.bool true) ∧ Below w.heap.size w w' := by
  have M := Lib.hid (Own.nil w)
  have eqF := eq_floats
  go_enter Try.func4, Try.ntmps4
  go_wp2_with fail
  refine (c1.out _).mono ?_
  rintro r w1_ ⟨rfl, hb⟩
  replace M := Lib.hid (M.out.below hb)
  clear hb
  replace M := Lib.hid (M.out.made #[.float .f64 x0, .float .f64 x1, .float .f64 x2, .float .f64 x3, .float .f64 x4, .float .f64 x5] 28)
  replace M := Lib.hid (M.out.made #[.int .i64 0] 41)
  simp only [World.size_alloc] at M
  go_wp2_with fail
  refine (c2.out _).mono ?_
  rintro r w2_ ⟨rfl, hb⟩
  replace M := Lib.hid (M.out.below hb)
  clear hb
  replace M := Lib.hid (M.out.made #[.float .f64 al, .float .f64 ah] 26).front
  go_upto_region 4 with fail
  replace M := Lib.hid M.out.drew
  revert M
  generalize (w2_.alloc (.cells #[.float .f64 al, .float .f64 ah] 26)) = W3_
  intro M
  refine wp_region_noPanic ?_
  refine tails_region (S := fun w' => (w'.cell? ⟨w1_.heap.size, 0, none⟩ = some (.float .f64 x0) ∧ w'.cell? ⟨w1_.heap.size, 1, none⟩ = some (.float .f64 x1) ∧ w'.cell? ⟨w1_.heap.size, 2, none⟩ = some (.float .f64 x2) ∧ w'.cell? ⟨w1_.heap.size, 3, none⟩ = some (.float .f64 x3) ∧ w'.cell? ⟨w1_.heap.size, 4, none⟩ = some (.float .f64 x4) ∧ w'.cell? ⟨w1_.heap.size, 5, none⟩ = some (.float .f64 x5))) [] (by kernel_rfl) ?_ (fun hS => ?_)
  · exact (M.out.nth 2 rfl).six
  refine tk (x := ?_) 0 rfl (by kernel_rfl) ⟨by kernel_rfl, ?_⟩ (fun _ _ _ h => h) hS ?_
  rotate_left; focus (intro w hSw; (try dsimp only at hSw); go_simp; try with_reducible rfl)
  refine tk (x := ?_) 1 rfl (by kernel_rfl) ⟨by kernel_rfl, ?_⟩ (fun _ _ _ h => h) hS ?_
  rotate_left; focus (intro w hSw; (try dsimp only at hSw); go_simp; try with_reducible rfl)
  refine tk (x := ?_) 2 rfl (by kernel_rfl) ⟨by kernel_rfl, ?_⟩ (fun _ _ _ h => h) hS ?_
  rotate_left; focus (intro w hSw; (try dsimp only at hSw); go_simp; try with_reducible rfl)
  refine tk (x := ?_) 3 rfl (by kernel_rfl) ⟨by kernel_rfl, ?_⟩ (fun _ _ _ h => h) hS ?_
  rotate_left; focus (intro w hSw; (try dsimp only at hSw); go_simp; try with_reducible rfl)
  refine tk (x := ?_) 5 rfl (by kernel_rfl) ⟨by kernel_rfl, ?_⟩ (fun _ _ _ h => h) hS ?_
  rotate_left; focus (intro w hSw; (try dsimp only at hSw); go_simp; try with_reducible rfl)
  refine tk (x := ?_) 6 rfl (by kernel_rfl) ⟨by kernel_rfl, ?_⟩ (fun _ _ _ h => h) hS ?_
  rotate_left; focus (intro w hSw; (try dsimp only at hSw); go_simp; try with_reducible rfl)
  refine tk (x := ?_) 7 rfl (by kernel_rfl) ⟨by kernel_rfl, ?_⟩ (fun _ _ _ h => h) hS ?_
  rotate_left; focus (intro w hSw; (try dsimp only at hSw); go_simp; try with_reducible rfl)
  conv => arg 9; simp only [Act.put, go_sem]
  refine lpx_ccc_1 M 4 8 9 10 [29, 33, 34, 9] 1 (roJ4 w (w1_.heap.size + 1) el eh fl fh gl gh) (by kernel_rfl) (by kernel_rfl) ?_ ?_ ?_ ?_ ?_ ?_ ?_
  · intro A hA
    obtain ⟨y1, hq1⟩ := put_ex (hA 29 (by simp))
    obtain ⟨y2, hq2⟩ := put_ex (hA 33 (by simp))
    obtain ⟨y3, hq3⟩ := put_ex (hA 34 (by simp))
    obtain ⟨z1, hq4⟩ := put_ex (hA 9 (by simp))
    exact ⟨y1, y2, y3, z1, by rw [hq1, hq2, hq3, hq4], by omega, by omega, by omega, by simp, OwnF.start M.out 1⟩
  · rintro k p a v ⟨y1, y2, y3, z1, _, _, _, _, _, h⟩
    exact (h.own.nth 2 rfl).six
  · intro p a v hJ
    refine op_step (o := _) rfl (fun K hK => ?_)
    obtain ⟨y1, y2, y3, z1, ha, gg1, h⟩ := roJ4_0 hJ
    have h := Lib.hid h
    clear hJ
    subst ha
    go_simp
    refine (d3.out _ _ (h.out.own.nth 0 rfl)).mono ?_
    rintro rr w5 ⟨rfl, hp⟩
    try go_wp2_with fail
    refine hK.out _ _ ⟨_, y2, y3, z1, ?_, fun _ => rfl, by omega, by omega, gg1, h.out.putHead hp⟩
    kernel_rfl
  · intro p a v hJ
    refine op_step (o := _) rfl (fun K hK => ?_)
    obtain ⟨y2, y3, z1, ha, gg1, h⟩ := roJ4_1 hJ
    have h := Lib.hid h
    clear hJ
    subst ha
    go_simp
    refine (d4.out _ _ (h.out.own.nth 0 rfl)).mono ?_
    rintro rr w5 ⟨rfl, hp⟩
    try go_wp2_with fail
    refine hK.out _ _ ⟨_, _, y3, z1, ?_, fun _ => rfl, fun _ => rfl, by omega, gg1, h.out.putHead hp⟩
    kernel_rfl
  · intro p a v hJ
    refine op_step (o := _) rfl (fun K hK => ?_)
    obtain ⟨y3, z1, ha, gg1, h⟩ := roJ4_2 hJ
    have h := Lib.hid h
    clear hJ
    subst ha
    go_simp
    refine (d5.out _ _ (h.out.own.nth 0 rfl)).mono ?_
    rintro rr w5 ⟨rfl, hp⟩
    try go_wp2_with fail
    refine hK.out _ _ ⟨_, _, _, z1, ?_, fun _ => rfl, fun _ => rfl, fun _ => rfl, gg1, h.out.putHead hp⟩
    kernel_rfl
  · intro k p a v hp hJ
    refine op_step (o := _) rfl (fun K hK => ?_)
    obtain ⟨y1, y2, y3, z1, ha, ee1, ee2, ee3, gg1, h⟩ := hJ
    have h := Lib.hid h
    subst ha
    go_simp
    refine hK.out _ _ ⟨v.heap.size, y1, y2, y3, .pointer (some ⟨v.heap.size, 0, none⟩), ?_, ee1, ee2, ee3, fun q hq => ptr_set hq, h.out.alloc hp rfl _⟩
    kernel_rfl
  intro p4_1 a v hJ
  obtain ⟨rfl, h⟩ := roJ4_fin hJ
  clear hJ
  replace M := Lib.hid h.fin1
  clear h
  refine tails_one (T := []) (i := 11) (o := _) rfl (by kernel_rfl) (fun K hK => ?_)
  have kc := (M.out.nth 0 rfl).2.1
  have kf := (M.out.nth 0 rfl).2.2
  replace M : Hid (Own w [(p4_1, #[.float .f64 gl, .float .f64 gh]), ((w1_.heap.size + 1), #[.int .i64 0]), (w2_.heap.size, #[.float .f64 al, .float .f64 ah]), (w1_.heap.size, #[.float .f64 x0, .float .f64 x1, .float .f64 x2, .float .f64 x3, .float .f64 x4, .float .f64 x5])] _) := Lib.hid (M.out.set2 0 rfl (.float .f64 gl) (.float .f64 gh))
  go_simp
  refine hK.out _ _ (Or.inr (M.out.nth 3 rfl).six) (fun hHeld => ?_)
  clear hK K hHeld kc kf
  refine tails_done (by kernel_rfl) ?_ _
  refine NoPanic.normal ?_
  clear hS
  replace M : Hid (Own w [((w1_.heap.size + 1), #[.int .i64 0]), (p4_1, #[.float .f64 gl, .float .f64 gh]), (w2_.heap.size, #[.float .f64 al, .float .f64 ah]), (w1_.heap.size, #[.float .f64 x0, .float .f64 x1, .float .f64 x2, .float .f64 x3, .float .f64 x4, .float .f64 x5])] _) := Lib.hid M.out.front
  revert M
  generalize ((v.setCell ⟨p4_1, 0, none⟩ (.float .f64 gl)).setCell ⟨p4_1, 1, none⟩ (.float .f64 gh)) = W4_
  intro M
  obtain ⟨k1, k2, k3, k4, k5, k6⟩ := (M.out.nth 3 rfl).six
  go_wp2_with fail
  refine (d6.out _ _ (M.out.nth 0 rfl)).mono ?_
  rintro r w5_ ⟨rfl, hb⟩
  replace M : Hid (Own w [((w1_.heap.size + 1), #[.int .i64 0]), (p4_1, #[.float .f64 gl, .float .f64 gh]), (w2_.heap.size, #[.float .f64 al, .float .f64 ah]), (w1_.heap.size, #[.float .f64 x0, .float .f64 x1, .float .f64 x2, .float .f64 x3, .float .f64 x4, .float .f64 x5])] w5_) := Lib.hid (M.out.putAt 0 rfl hb)
  clear hb
  clear k1 k2 k3 k4 k5 k6
  replace M := Lib.hid (M.out.made #[.float .f64 il, .float .f64 ih] 26).front
  go_wp2_with fail
  refine (c7.out _).mono ?_
  rintro r w6_ ⟨rfl, hb⟩
  replace M := Lib.hid (M.out.below hb)
  clear hb
  go_wp2_with fail
  refine (c8.out _).mono ?_
  rintro r w7_ ⟨rfl, hb⟩
  replace M := Lib.hid (M.out.below hb)
  clear hb
  replace M := Lib.hid (M.out.made #[.float .f64 sl, .float .f64 sh] 26).front
  replace M := Lib.hid (M.out.made #[.float .f64 cl, .float .f64 ch] 26).front
  simp only [World.size_alloc] at M
  go_wp2_with fail
  refine (d9.out _ _ (M.out.nth 0 rfl)).mono ?_
  rintro r w8_ ⟨rfl, hb⟩
  replace M : Hid (Own w [((w1_.heap.size + 1), #[.int .i64 0]), ((w7_.heap.size + 1), #[.float .f64 cl, .float .f64 ch]), (w7_.heap.size, #[.float .f64 sl, .float .f64 sh]), (w5_.heap.size, #[.float .f64 il, .float .f64 ih]), (p4_1, #[.float .f64 gl, .float .f64 gh]), (w2_.heap.size, #[.float .f64 al, .float .f64 ah]), (w1_.heap.size, #[.float .f64 x0, .float .f64 x1, .float .f64 x2, .float .f64 x3, .float .f64 x4, .float .f64 x5])] w8_) := Lib.hid (M.out.putAt 0 rfl hb)
  clear hb
  replace M := Lib.hid (M.out.made #[.float .f64 4607182418800017408, .float .f64 4607182418800017408] 26).front
  go_upto_region 8 with fail
  simp only [List.append_eq, List.cons_append, List.nil_append]
  replace M := Lib.hid M.out.drew
  obtain ⟨k1, k2⟩ := (M.out.nth 5 rfl).two
  obtain ⟨k3, k4⟩ := (M.out.nth 6 rfl).two
  obtain ⟨k5, k6⟩ := (M.out.nth 4 rfl).two
  obtain ⟨k7, k8⟩ := (M.out.nth 1 rfl).two
  obtain ⟨k9, k10, k11, k12, k13, k14⟩ := (M.out.nth 7 rfl).six
  obtain ⟨k15, k16⟩ := (M.out.nth 3 rfl).two
  obtain ⟨k17, k18⟩ := (M.out.nth 2 rfl).two
  go_region_held3 (fun w' => (w'.cell? ⟨p4_1, 0, none⟩ = some (.float .f64 gl) ∧ w'.cell? ⟨p4_1, 1, none⟩ = some (.float .f64 gh)) ∧ (w'.cell? ⟨w2_.heap.size, 0, none⟩ = some (.float .f64 al) ∧ w'.cell? ⟨w2_.heap.size, 1, none⟩ = some (.float .f64 ah)) ∧ (w'.cell? ⟨w5_.heap.size, 0, none⟩ = some (.float .f64 il) ∧ w'.cell? ⟨w5_.heap.size, 1, none⟩ = some (.float .f64 ih)) ∧ (w'.cell? ⟨w8_.heap.size, 0, none⟩ = some (.float .f64 4607182418800017408) ∧ w'.cell? ⟨w8_.heap.size, 1, none⟩ = some (.float .f64 4607182418800017408)) ∧ (w'.cell? ⟨w1_.heap.size, 0, none⟩ = some (.float .f64 x0) ∧ w'.cell? ⟨w1_.heap.size, 1, none⟩ = some (.float .f64 x1) ∧ w'.cell? ⟨w1_.heap.size, 2, none⟩ = some (.float .f64 x2) ∧ w'.cell? ⟨w1_.heap.size, 3, none⟩ = some (.float .f64 x3) ∧ w'.cell? ⟨w1_.heap.size, 4, none⟩ = some (.float .f64 x4) ∧ w'.cell? ⟨w1_.heap.size, 5, none⟩ = some (.float .f64 x5)) ∧ (w'.cell? ⟨w7_.heap.size, 0, none⟩ = some (.float .f64 sl) ∧ w'.cell? ⟨w7_.heap.size, 1, none⟩ = some (.float .f64 sh)) ∧ (w'.cell? ⟨(w7_.heap.size + 1), 0, none⟩ = some (.float .f64 cl) ∧ w'.cell? ⟨(w7_.heap.size + 1), 1, none⟩ = some (.float .f64 ch))) (((try dsimp only); (repeat' apply And.intro); all_goals (repeat (first | (with_reducible assumption) | ((with_reducible refine keep_undrew ?_); (with_reducible assumption)) | (with_reducible refine keep_drew ?_) | (with_reducible refine keep_alloc _ ?_) | (with_reducible refine keep_set _ (by first | (with_reducible assumption) | omega) ?_)))))
    (first
      | (go_at_call 17; (with_reducible refine (err_any 0 _ 0 _ (M.out.nth 0 rfl).pc).mono ?_); rintro rr w5 ⟨rfl, rfl⟩; clear k1 k2 k3 k4 k5 k6 k7 k8 k9 k10 k11 k12 k13 k14 k15 k16 k17 k18; obtain ⟨k1, k2⟩ := (M.out.nth 5 rfl).two; obtain ⟨k3, k4⟩ := (M.out.nth 6 rfl).two; obtain ⟨k5, k6⟩ := (M.out.nth 4 rfl).two; obtain ⟨k7, k8⟩ := (M.out.nth 1 rfl).two; obtain ⟨k9, k10, k11, k12, k13, k14⟩ := (M.out.nth 7 rfl).six; obtain ⟨k15, k16⟩ := (M.out.nth 3 rfl).two; obtain ⟨k17, k18⟩ := (M.out.nth 2 rfl).two)
      | (go_at_call 18; (with_reducible refine (c11.out _).mono ?_); rintro rr w5 ⟨rfl, hb⟩; replace M := Lib.hid (M.out.below hb); clear hb; clear k1 k2 k3 k4 k5 k6 k7 k8 k9 k10 k11 k12 k13 k14 k15 k16 k17 k18; obtain ⟨k1, k2⟩ := (M.out.nth 5 rfl).two; obtain ⟨k3, k4⟩ := (M.out.nth 6 rfl).two; obtain ⟨k5, k6⟩ := (M.out.nth 4 rfl).two; obtain ⟨k7, k8⟩ := (M.out.nth 1 rfl).two; obtain ⟨k9, k10, k11, k12, k13, k14⟩ := (M.out.nth 7 rfl).six; obtain ⟨k15, k16⟩ := (M.out.nth 3 rfl).two; obtain ⟨k17, k18⟩ := (M.out.nth 2 rfl).two)
      | (go_at_call 19; (with_reducible refine (d12.out _ _ (M.out.nth 0 rfl)).mono ?_); rintro rr w5 ⟨rfl, hb⟩; replace M : Hid (Own w [((w1_.heap.size + 1), #[.int .i64 0]), (w8_.heap.size, #[.float .f64 4607182418800017408, .float .f64 4607182418800017408]), ((w7_.heap.size + 1), #[.float .f64 cl, .float .f64 ch]), (w7_.heap.size, #[.float .f64 sl, .float .f64 sh]), (w5_.heap.size, #[.float .f64 il, .float .f64 ih]), (p4_1, #[.float .f64 gl, .float .f64 gh]), (w2_.heap.size, #[.float .f64 al, .float .f64 ah]), (w1_.heap.size, #[.float .f64 x0, .float .f64 x1, .float .f64 x2, .float .f64 x3, .float .f64 x4, .float .f64 x5])] w5) := Lib.hid (M.out.putAt 0 rfl hb); clear hb; clear k1 k2 k3 k4 k5 k6 k7 k8 k9 k10 k11 k12 k13 k14 k15 k16 k17 k18; obtain ⟨k1, k2⟩ := (M.out.nth 5 rfl).two; obtain ⟨k3, k4⟩ := (M.out.nth 6 rfl).two; obtain ⟨k5, k6⟩ := (M.out.nth 4 rfl).two; obtain ⟨k7, k8⟩ := (M.out.nth 1 rfl).two; obtain ⟨k9, k10, k11, k12, k13, k14⟩ := (M.out.nth 7 rfl).six; obtain ⟨k15, k16⟩ := (M.out.nth 3 rfl).two; obtain ⟨k17, k18⟩ := (M.out.nth 2 rfl).two)
      | (go_at_call 18; (with_reducible refine (c13.out _).mono ?_); rintro rr w5 ⟨rfl, hb⟩; replace M := Lib.hid (M.out.below hb); clear hb; clear k1 k2 k3 k4 k5 k6 k7 k8 k9 k10 k11 k12 k13 k14 k15 k16 k17 k18; obtain ⟨k1, k2⟩ := (M.out.nth 5 rfl).two; obtain ⟨k3, k4⟩ := (M.out.nth 6 rfl).two; obtain ⟨k5, k6⟩ := (M.out.nth 4 rfl).two; obtain ⟨k7, k8⟩ := (M.out.nth 1 rfl).two; obtain ⟨k9, k10, k11, k12, k13, k14⟩ := (M.out.nth 7 rfl).six; obtain ⟨k15, k16⟩ := (M.out.nth 3 rfl).two; obtain ⟨k17, k18⟩ := (M.out.nth 2 rfl).two)
      | (go_at_call 13; (with_reducible refine (d14.out _ _ (M.out.nth 0 rfl)).mono ?_); rintro rr w5 ⟨rfl, hb⟩; replace M : Hid (Own w [((w1_.heap.size + 1), #[.int .i64 0]), (w8_.heap.size, #[.float .f64 4607182418800017408, .float .f64 4607182418800017408]), ((w7_.heap.size + 1), #[.float .f64 cl, .float .f64 ch]), (w7_.heap.size, #[.float .f64 sl, .float .f64 sh]), (w5_.heap.size, #[.float .f64 il, .float .f64 ih]), (p4_1, #[.float .f64 gl, .float .f64 gh]), (w2_.heap.size, #[.float .f64 al, .float .f64 ah]), (w1_.heap.size, #[.float .f64 x0, .float .f64 x1, .float .f64 x2, .float .f64 x3, .float .f64 x4, .float .f64 x5])] w5) := Lib.hid (M.out.putAt 0 rfl hb); clear hb; clear k1 k2 k3 k4 k5 k6 k7 k8 k9 k10 k11 k12 k13 k14 k15 k16 k17 k18; obtain ⟨k1, k2⟩ := (M.out.nth 5 rfl).two; obtain ⟨k3, k4⟩ := (M.out.nth 6 rfl).two; obtain ⟨k5, k6⟩ := (M.out.nth 4 rfl).two; obtain ⟨k7, k8⟩ := (M.out.nth 1 rfl).two; obtain ⟨k9, k10, k11, k12, k13, k14⟩ := (M.out.nth 7 rfl).six; obtain ⟨k15, k16⟩ := (M.out.nth 3 rfl).two; obtain ⟨k17, k18⟩ := (M.out.nth 2 rfl).two)
      | (go_at_call 18; (with_reducible refine (c15.out _).mono ?_); rintro rr w5 ⟨rfl, hb⟩; replace M := Lib.hid (M.out.below hb); clear hb; clear k1 k2 k3 k4 k5 k6 k7 k8 k9 k10 k11 k12 k13 k14 k15 k16 k17 k18; obtain ⟨k1, k2⟩ := (M.out.nth 5 rfl).two; obtain ⟨k3, k4⟩ := (M.out.nth 6 rfl).two; obtain ⟨k5, k6⟩ := (M.out.nth 4 rfl).two; obtain ⟨k7, k8⟩ := (M.out.nth 1 rfl).two; obtain ⟨k9, k10, k11, k12, k13, k14⟩ := (M.out.nth 7 rfl).six; obtain ⟨k15, k16⟩ := (M.out.nth 3 rfl).two; obtain ⟨k17, k18⟩ := (M.out.nth 2 rfl).two)
      | (go_at_call 20; (with_reducible refine (d16.out _ _ (M.out.nth 0 rfl)).mono ?_); rintro rr w5 ⟨rfl, hb⟩; replace M : Hid (Own w [((w1_.heap.size + 1), #[.int .i64 0]), (w8_.heap.size, #[.float .f64 4607182418800017408, .float .f64 4607182418800017408]), ((w7_.heap.size + 1), #[.float .f64 cl, .float .f64 ch]), (w7_.heap.size, #[.float .f64 sl, .float .f64 sh]), (w5_.heap.size, #[.float .f64 il, .float .f64 ih]), (p4_1, #[.float .f64 gl, .float .f64 gh]), (w2_.heap.size, #[.float .f64 al, .float .f64 ah]), (w1_.heap.size, #[.float .f64 x0, .float .f64 x1, .float .f64 x2, .float .f64 x3, .float .f64 x4, .float .f64 x5])] w5) := Lib.hid (M.out.putAt 0 rfl hb); clear hb; clear k1 k2 k3 k4 k5 k6 k7 k8 k9 k10 k11 k12 k13 k14 k15 k16 k17 k18; obtain ⟨k1, k2⟩ := (M.out.nth 5 rfl).two; obtain ⟨k3, k4⟩ := (M.out.nth 6 rfl).two; obtain ⟨k5, k6⟩ := (M.out.nth 4 rfl).two; obtain ⟨k7, k8⟩ := (M.out.nth 1 rfl).two; obtain ⟨k9, k10, k11, k12, k13, k14⟩ := (M.out.nth 7 rfl).six; obtain ⟨k15, k16⟩ := (M.out.nth 3 rfl).two; obtain ⟨k17, k18⟩ := (M.out.nth 2 rfl).two)
      | (go_at_call 20; (with_reducible refine (d17.out _ _ (M.out.nth 0 rfl)).mono ?_); rintro rr w5 ⟨rfl, hb⟩; replace M : Hid (Own w [((w1_.heap.size + 1), #[.int .i64 0]), (w8_.heap.size, #[.float .f64 4607182418800017408, .float .f64 4607182418800017408]), ((w7_.heap.size + 1), #[.float .f64 cl, .float .f64 ch]), (w7_.heap.size, #[.float .f64 sl, .float .f64 sh]), (w5_.heap.size, #[.float .f64 il, .float .f64 ih]), (p4_1, #[.float .f64 gl, .float .f64 gh]), (w2_.heap.size, #[.float .f64 al, .float .f64 ah]), (w1_.heap.size, #[.float .f64 x0, .float .f64 x1, .float .f64 x2, .float .f64 x3, .float .f64 x4, .float .f64 x5])] w5) := Lib.hid (M.out.putAt 0 rfl hb); clear hb; clear k1 k2 k3 k4 k5 k6 k7 k8 k9 k10 k11 k12 k13 k14 k15 k16 k17 k18; obtain ⟨k1, k2⟩ := (M.out.nth 5 rfl).two; obtain ⟨k3, k4⟩ := (M.out.nth 6 rfl).two; obtain ⟨k5, k6⟩ := (M.out.nth 4 rfl).two; obtain ⟨k7, k8⟩ := (M.out.nth 1 rfl).two; obtain ⟨k9, k10, k11, k12, k13, k14⟩ := (M.out.nth 7 rfl).six; obtain ⟨k15, k16⟩ := (M.out.nth 3 rfl).two; obtain ⟨k17, k18⟩ := (M.out.nth 2 rfl).two)
      | (go_at_call 18; (with_reducible refine (c18.out _).mono ?_); rintro rr w5 ⟨rfl, hb⟩; replace M := Lib.hid (M.out.below hb); clear hb; clear k1 k2 k3 k4 k5 k6 k7 k8 k9 k10 k11 k12 k13 k14 k15 k16 k17 k18; obtain ⟨k1, k2⟩ := (M.out.nth 5 rfl).two; obtain ⟨k3, k4⟩ := (M.out.nth 6 rfl).two; obtain ⟨k5, k6⟩ := (M.out.nth 4 rfl).two; obtain ⟨k7, k8⟩ := (M.out.nth 1 rfl).two; obtain ⟨k9, k10, k11, k12, k13, k14⟩ := (M.out.nth 7 rfl).six; obtain ⟨k15, k16⟩ := (M.out.nth 3 rfl).two; obtain ⟨k17, k18⟩ := (M.out.nth 2 rfl).two)
      | (go_at_call 12; (with_reducible refine (c19.out _).mono ?_); rintro rr w5 ⟨rfl, hb⟩; replace M := Lib.hid (M.out.below hb); clear hb; clear k1 k2 k3 k4 k5 k6 k7 k8 k9 k10 k11 k12 k13 k14 k15 k16 k17 k18; obtain ⟨k1, k2⟩ := (M.out.nth 5 rfl).two; obtain ⟨k3, k4⟩ := (M.out.nth 6 rfl).two; obtain ⟨k5, k6⟩ := (M.out.nth 4 rfl).two; obtain ⟨k7, k8⟩ := (M.out.nth 1 rfl).two; obtain ⟨k9, k10, k11, k12, k13, k14⟩ := (M.out.nth 7 rfl).six; obtain ⟨k15, k16⟩ := (M.out.nth 3 rfl).two; obtain ⟨k17, k18⟩ := (M.out.nth 2 rfl).two))
  clear k1 k2 k3 k4 k5 k6 k7 k8 k9 k10 k11 k12 k13 k14 k15 k16 k17 k18
  go_wp2
  go_ret
  exact ⟨rfl, M.out.base⟩
end
section
open Go.RowKit

theorem round12_any (u o : Nat) (w : World) (hu : u < 18446744073709551616) (ho : o < 18446744073709551616) :
    Calls Try.prog 4 #[.int .u64 u, .int .u64 o] w fun r w' => r = .returned (.bool true) ∧ Below w.heap.size w w' := by
  have U := draw_c hu
  have O := draw_c ho
  have us : val u1 = SS := by decide +kernel
  obtain ⟨iv, ta, tb, _, _⟩ := draw_in ho O.fit O.lo O.hi
  obtain ⟨s, c, P⟩ := turn_pt ta tb
  obtain ⟨iS, iC⟩ := wide_c ho
  have A := U.i
  obtain ⟨m1', m2', m3, m4, iz, xw, zw⟩ := cosine_round (a := Cx.a u) (S := Cx.s o) (C := Cx.c o) hu ho U.fit O.fit U.lo O.lo U.hi O.hi rfl rfl rfl
  have fX := (cn_xf A iC).1
  have fY := (cn_xf A iS).1
  have fF := (flat_fit A iS iC).1
  have fh := (high_fit A).1
  have fd := (ch_in A).d.fit
  have fA := (all_meets A iS iC P).1
  obtain ⟨⟨f1, f2⟩, _⟩ := angle_meets A iS iC
  obtain ⟨wx, qx, lx, rx, x0, x1⟩ := sub_all fX.hi fX.lo fX.rhi fX.rlo fX.le (y0 := 4427038433705197568) (by decide) (by decide) xw
  obtain ⟨wz, qz, lz, rz, z0, z1⟩ := sub_all iz.fit.hi iz.fit.lo iz.fit.rhi iz.fit.rlo iz.fit.le (y0 := 4494592428115755008) (by decide) (by decide) zw
  have zl := iz.lo
  have zh := iz.hi
  rw [show val unitR.lo = 0 by decide +kernel] at zl
  rw [show val unitR.hi = val u1 by decide +kernel] at zh
  have z9 : val 0 ≤ val (Cn.z (Cx.a u)).lo := by rw [cv0]; exact zl
  exact round_law w (Lib.hid (draw_any hu ho)) (Lib.hid fun w => uof_any u w hu) (Lib.hid fun pb => calc_sqr fX (cn_q A iC).1 pb) (Lib.hid fun pb => calc_sqr fY (cn_q A iS).1 pb) (Lib.hid fun pb => calc_add (cn_q A iC).1 (cn_q A iS).1 fF pb)
    (Lib.hid fun pb => calc_sqr iz.fit fh pb) (Lib.hid fun w => uof_any o w ho) (Lib.hid (sin_c ho)) (Lib.hid fun pb => calc_num u1_fit pb) (Lib.hid (meets8 (a := Cn.flat (Cx.a u) (Cx.c o) (Cx.s o)) (b := Cx.a u) fF A.fit m1')) (Lib.hid fun pb => calc_sub u1_fit A.fit fd pb) (Lib.hid (meets8 (a := Cn.h (Cx.a u)) (b := Cn.d (Cx.a u)) fh fd m2'))
    (Lib.hid fun pb => calc_add fF fh fA pb) (Lib.hid (meets8 (a := addR (Cn.flat (Cx.a u) (Cx.c o) (Cx.s o)) (Cn.h (Cx.a u))) (b := oneR u1) fA u1_fit (by show val _ ≤ val u1 ∧ val u1 ≤ val _; rw [us]; exact m3))) (Lib.hid fun pb => calc_mul fX iS.fit f1 pb) (Lib.hid fun pb => calc_mul fY iC.fit f2 pb) (Lib.hid (meets8 (a := mulR (Cn.x (Cx.a u) (Cx.c o)) (Cx.s o)) (b := mulR (Cn.x (Cx.a u) (Cx.s o)) (Cx.c o)) f1 f2 m4))
    ((geq_val iz.fit.lo (by decide) iz.fit.rlo (by decide)).trans (decide_eq_true z9)) (leq_val iz.fit.hi (by decide) iz.fit.rhi (by decide) zh)
    (fun w => run_float_arith w .sub 24 .f64 _ _ _ qx) (leq_val lx (by decide) rx (by decide) x1) (fun w => run_float_arith w .sub 24 .f64 _ _ _ qz) (leq_val lz (by decide) rz (by decide) z1) (Lib.hid awake12_any)
end
end Go.Proofs.Ytnaomilkgfkegaa
