
/- FresnelSnell: the law's walk. -/
import Derived.Test.YtoocmocaelcbkaaLanP
import Derived.Test.YtoocmocaelcbkaaQFD
import Derived.Deep.RegionHeld3
namespace Go.Proofs.Ytoocmocaelcbkaa
open Go.RowKit
attribute [local go_sem] run_store_float

theorem eq_floats (x y : Nat) (w : World) : (Op.equalIn 9999 22 (.float .f64 x) (.float .f64 y)).run Try.prog w = .ok (Op.floatEq .f64 x y) w := by
  have hf := run_underlying Try.underlying22 (w := w)
  show (Op.equalIn (9998 + 1) 22 _ _).run Try.prog w = _
  rw [Op.equalIn]
  simp only [Sem.run_bind, hf, Result.andThen]
  simp [go_sem]

section
variable {P : Program} {ops : Array Oper} {Q : Exit → Act → World → Prop} {md : Region.Mode} {S : World → Prop}
theorem lpx_cccccccc_1 {a0 : Act} {B v : World} {l : List (Nat × Array Value)} {x : Nat × Array Value} (_ : Hid (Own B (x :: l) v)) {w0 : World} {L0 : Array Bool} (c1 c2 c3 c4 c5 c6 c7 c8 m1 : Nat) (slots : List Nat) (N : Nat) (J : List (Nat × Array Value) → Act → Nat → List (Option Nat) → Act → World → Prop) (hok : latOkP [false, false, false, false, false, false, false, false] md ops L0 [c1, c2, c3, c4, c5, c6, c7, c8] [m1] = true)
    (hsl : (slots.all fun s => decide (s < a0.tmps.size)) = true) (h0 : ∀ A : Act, (∀ s, s ∈ slots → s < A.tmps.size) → J l A 0 (List.replicate 1 none) A w0)
    (hS : ∀ k p a w, J l a0 k p a w → S w)
    (k1 : ∀ p a w, J l a0 0 p a w → wpOp P ops Q c1 (fun b v => J l a0 1 p b v) a w)
    (k2 : ∀ p a w, J l a0 1 p a w → wpOp P ops Q c2 (fun b v => J l a0 2 p b v) a w)
    (k3 : ∀ p a w, J l a0 2 p a w → wpOp P ops Q c3 (fun b v => J l a0 3 p b v) a w)
    (k4 : ∀ p a w, J l a0 3 p a w → wpOp P ops Q c4 (fun b v => J l a0 4 p b v) a w)
    (k5 : ∀ p a w, J l a0 4 p a w → wpOp P ops Q c5 (fun b v => J l a0 5 p b v) a w)
    (k6 : ∀ p a w, J l a0 5 p a w → wpOp P ops Q c6 (fun b v => J l a0 6 p b v) a w)
    (k7 : ∀ p a w, J l a0 6 p a w → wpOp P ops Q c7 (fun b v => J l a0 7 p b v) a w)
    (k8 : ∀ p a w, J l a0 7 p a w → wpOp P ops Q c8 (fun b v => J l a0 8 p b v) a w)
    (n1 : ∀ k p a w, p[0]? = some none → J l a0 k p a w → wpOp P ops Q m1 (fun b v => ∃ q, J l a0 k (p.set 0 (some q)) b v) a w)
    (fin : ∀ q1 a w, J l a0 8 [some q1] a w → wpAnyV P md ops Q S [] N (lstOf L0 [c1, c2, c3, c4, c5, c6, c7, c8] [m1] 8 [true]) a w) :
    wpAnyV P md ops Q S [] (N + 9) L0 a0 w0 := by
  refine latP_from (pl := [false, false, false, false, false, false, false, false]) [c1, c2, c3, c4, c5, c6, c7, c8] [m1] slots N 9 (J l) hok rfl hsl h0 hS (fun k i p a w hk hn hJ => ?_) (fun k i p a w hk hn hJ => ?_) (fun k m i p a w hm hp hJ => ?_) (fun p a w hp hall hJ => ?_)
  · rcases k with _ | _ | _ | _ | _ | _ | _ | _ | k
    · obtain rfl : c1 = i := by simpa using hk
      exact k1 p a w hJ
    · obtain rfl : c2 = i := by simpa using hk
      exact k2 p a w hJ
    · obtain rfl : c3 = i := by simpa using hk
      exact k3 p a w hJ
    · obtain rfl : c4 = i := by simpa using hk
      exact k4 p a w hJ
    · obtain rfl : c5 = i := by simpa using hk
      exact k5 p a w hJ
    · obtain rfl : c6 = i := by simpa using hk
      exact k6 p a w hJ
    · obtain rfl : c7 = i := by simpa using hk
      exact k7 p a w hJ
    · obtain rfl : c8 = i := by simpa using hk
      exact k8 p a w hJ
    · simp at hk
  · rcases k with _ | _ | _ | _ | _ | _ | _ | _ | k
    · exact absurd hn (by decide)
    · exact absurd hn (by decide)
    · exact absurd hn (by decide)
    · exact absurd hn (by decide)
    · exact absurd hn (by decide)
    · exact absurd hn (by decide)
    · exact absurd hn (by decide)
    · exact absurd hn (by decide)
    · simp at hk
  · rcases m with _ | m
    · obtain rfl : m1 = i := by simpa using hm
      exact n1 k p a w hp hJ
    · simp at hm
  · obtain ⟨q1, rfl⟩ := fin_one hp hall
    exact fin q1 a w hJ
theorem lpx_cccccc_1 {a0 : Act} {B v : World} {l : List (Nat × Array Value)} {x : Nat × Array Value} (_ : Hid (Own B (x :: l) v)) {w0 : World} {L0 : Array Bool} (c1 c2 c3 c4 c5 c6 m1 : Nat) (slots : List Nat) (N : Nat) (J : List (Nat × Array Value) → Act → Nat → List (Option Nat) → Act → World → Prop) (hok : latOkP [false, false, false, false, false, false] md ops L0 [c1, c2, c3, c4, c5, c6] [m1] = true)
    (hsl : (slots.all fun s => decide (s < a0.tmps.size)) = true) (h0 : ∀ A : Act, (∀ s, s ∈ slots → s < A.tmps.size) → J l A 0 (List.replicate 1 none) A w0)
    (hS : ∀ k p a w, J l a0 k p a w → S w)
    (k1 : ∀ p a w, J l a0 0 p a w → wpOp P ops Q c1 (fun b v => J l a0 1 p b v) a w)
    (k2 : ∀ p a w, J l a0 1 p a w → wpOp P ops Q c2 (fun b v => J l a0 2 p b v) a w)
    (k3 : ∀ p a w, J l a0 2 p a w → wpOp P ops Q c3 (fun b v => J l a0 3 p b v) a w)
    (k4 : ∀ p a w, J l a0 3 p a w → wpOp P ops Q c4 (fun b v => J l a0 4 p b v) a w)
    (k5 : ∀ p a w, J l a0 4 p a w → wpOp P ops Q c5 (fun b v => J l a0 5 p b v) a w)
    (k6 : ∀ p a w, J l a0 5 p a w → wpOp P ops Q c6 (fun b v => J l a0 6 p b v) a w)
    (n1 : ∀ k p a w, p[0]? = some none → J l a0 k p a w → wpOp P ops Q m1 (fun b v => ∃ q, J l a0 k (p.set 0 (some q)) b v) a w)
    (fin : ∀ q1 a w, J l a0 6 [some q1] a w → wpAnyV P md ops Q S [] N (lstOf L0 [c1, c2, c3, c4, c5, c6] [m1] 6 [true]) a w) :
    wpAnyV P md ops Q S [] (N + 7) L0 a0 w0 := by
  refine latP_from (pl := [false, false, false, false, false, false]) [c1, c2, c3, c4, c5, c6] [m1] slots N 7 (J l) hok rfl hsl h0 hS (fun k i p a w hk hn hJ => ?_) (fun k i p a w hk hn hJ => ?_) (fun k m i p a w hm hp hJ => ?_) (fun p a w hp hall hJ => ?_)
  · rcases k with _ | _ | _ | _ | _ | _ | k
    · obtain rfl : c1 = i := by simpa using hk
      exact k1 p a w hJ
    · obtain rfl : c2 = i := by simpa using hk
      exact k2 p a w hJ
    · obtain rfl : c3 = i := by simpa using hk
      exact k3 p a w hJ
    · obtain rfl : c4 = i := by simpa using hk
      exact k4 p a w hJ
    · obtain rfl : c5 = i := by simpa using hk
      exact k5 p a w hJ
    · obtain rfl : c6 = i := by simpa using hk
      exact k6 p a w hJ
    · simp at hk
  · rcases k with _ | _ | _ | _ | _ | _ | k
    · exact absurd hn (by decide)
    · exact absurd hn (by decide)
    · exact absurd hn (by decide)
    · exact absurd hn (by decide)
    · exact absurd hn (by decide)
    · exact absurd hn (by decide)
    · simp at hk
  · rcases m with _ | m
    · obtain rfl : m1 = i := by simpa using hm
      exact n1 k p a w hp hJ
    · simp at hm
  · obtain ⟨q1, rfl⟩ := fin_one hp hall
    exact fin q1 a w hJ
theorem lpx_ccc_1 {a0 : Act} {B v : World} {l : List (Nat × Array Value)} {x : Nat × Array Value} (_ : Hid (Own B (x :: l) v)) {w0 : World} {L0 : Array Bool} (c1 c2 c3 m1 : Nat) (slots : List Nat) (N : Nat) (J : List (Nat × Array Value) → Act → Nat → List (Option Nat) → Act → World → Prop) (hok : latOkP [false, false, false] md ops L0 [c1, c2, c3] [m1] = true)
    (hsl : (slots.all fun s => decide (s < a0.tmps.size)) = true) (h0 : ∀ A : Act, (∀ s, s ∈ slots → s < A.tmps.size) → J l A 0 (List.replicate 1 none) A w0)
    (hS : ∀ k p a w, J l a0 k p a w → S w)
    (k1 : ∀ p a w, J l a0 0 p a w → wpOp P ops Q c1 (fun b v => J l a0 1 p b v) a w)
    (k2 : ∀ p a w, J l a0 1 p a w → wpOp P ops Q c2 (fun b v => J l a0 2 p b v) a w)
    (k3 : ∀ p a w, J l a0 2 p a w → wpOp P ops Q c3 (fun b v => J l a0 3 p b v) a w)
    (n1 : ∀ k p a w, p[0]? = some none → J l a0 k p a w → wpOp P ops Q m1 (fun b v => ∃ q, J l a0 k (p.set 0 (some q)) b v) a w)
    (fin : ∀ q1 a w, J l a0 3 [some q1] a w → wpAnyV P md ops Q S [] N (lstOf L0 [c1, c2, c3] [m1] 3 [true]) a w) :
    wpAnyV P md ops Q S [] (N + 4) L0 a0 w0 := by
  refine latP_from (pl := [false, false, false]) [c1, c2, c3] [m1] slots N 4 (J l) hok rfl hsl h0 hS (fun k i p a w hk hn hJ => ?_) (fun k i p a w hk hn hJ => ?_) (fun k m i p a w hm hp hJ => ?_) (fun p a w hp hall hJ => ?_)
  · rcases k with _ | _ | _ | k
    · obtain rfl : c1 = i := by simpa using hk
      exact k1 p a w hJ
    · obtain rfl : c2 = i := by simpa using hk
      exact k2 p a w hJ
    · obtain rfl : c3 = i := by simpa using hk
      exact k3 p a w hJ
    · simp at hk
  · rcases k with _ | _ | _ | k
    · exact absurd hn (by decide)
    · exact absurd hn (by decide)
    · exact absurd hn (by decide)
    · simp at hk
  · rcases m with _ | m
    · obtain rfl : m1 = i := by simpa using hm
      exact n1 k p a w hp hJ
    · simp at hm
  · obtain ⟨q1, rfl⟩ := fin_one hp hall
    exact fin q1 a w hJ
end

/-- Region 6. -/
def fsJ6 (w : World) (pb : Nat) (al ah bl bh dl dh gl gh il ih sl sh : Nat) (l : RowL) (a0 : Act) (k : Nat) (p : List (Option Nat)) (a : Act) (v : World) : Prop :=
  ∃ y1 y2 y3 y4 y5 y6 y7 y8 z1 : Value, a = (((((((((a0.put (some 58) y1).put (some 62) y2).put (some 65) y3).put (some 66) y4).put (some 69) y5).put (some 70) y6).put (some 71) y7).put (some 72) y8).put (some 10) z1) ∧ (0 < k → y1 = .agg #[.float .f64 4607182418800017408, .float .f64 4607182418800017408]) ∧ (1 < k → y2 = .agg #[.float .f64 4607182418800017408, .float .f64 4607182418800017408]) ∧ (2 < k → y3 = .agg #[.float .f64 al, .float .f64 ah]) ∧ (3 < k → y4 = .agg #[.float .f64 bl, .float .f64 bh]) ∧ (4 < k → y5 = .agg #[.float .f64 dl, .float .f64 dh]) ∧ (5 < k → y6 = .agg #[.float .f64 gl, .float .f64 gh]) ∧ (6 < k → y7 = .agg #[.float .f64 il, .float .f64 ih]) ∧ (7 < k → y8 = .agg #[.float .f64 sl, .float .f64 sh]) ∧ (∀ q, p[0]? = some (some q) → z1 = .pointer (some ⟨q, 0, none⟩)) ∧ OwnF w ((pb, #[.int .i64 0]) :: l) [#[.float .f64 0, .float .f64 0]] p v
section
variable {w v : World} {pb : Nat} {al ah bl bh dl dh gl gh il ih sl sh : Nat} {l : RowL} {a0 a : Act} {p : List (Option Nat)}
theorem fsJ6_0 (h : fsJ6 w pb al ah bl bh dl dh gl gh il ih sl sh l a0 0 p a v) : ∃ y1 y2 y3 y4 y5 y6 y7 y8 z1 : Value, a = (((((((((a0.put (some 58) y1).put (some 62) y2).put (some 65) y3).put (some 66) y4).put (some 69) y5).put (some 70) y6).put (some 71) y7).put (some 72) y8).put (some 10) z1) ∧ (∀ q, p[0]? = some (some q) → z1 = .pointer (some ⟨q, 0, none⟩)) ∧ OwnF w ((pb, #[.int .i64 0]) :: l) [#[.float .f64 0, .float .f64 0]] p v := by
  obtain ⟨y1, y2, y3, y4, y5, y6, y7, y8, z1, ha, E1, E2, E3, E4, E5, E6, E7, E8, G1, h⟩ := h
  exact ⟨y1, y2, y3, y4, y5, y6, y7, y8, z1, ha, G1, h⟩
theorem fsJ6_1 (h : fsJ6 w pb al ah bl bh dl dh gl gh il ih sl sh l a0 1 p a v) : ∃ y2 y3 y4 y5 y6 y7 y8 z1 : Value, a = (((((((((a0.put (some 58) (.agg #[.float .f64 4607182418800017408, .float .f64 4607182418800017408])).put (some 62) y2).put (some 65) y3).put (some 66) y4).put (some 69) y5).put (some 70) y6).put (some 71) y7).put (some 72) y8).put (some 10) z1) ∧ (∀ q, p[0]? = some (some q) → z1 = .pointer (some ⟨q, 0, none⟩)) ∧ OwnF w ((pb, #[.int .i64 0]) :: l) [#[.float .f64 0, .float .f64 0]] p v := by
  obtain ⟨y1, y2, y3, y4, y5, y6, y7, y8, z1, ha, E1, E2, E3, E4, E5, E6, E7, E8, G1, h⟩ := h
  obtain rfl := E1 (by decide)
  exact ⟨y2, y3, y4, y5, y6, y7, y8, z1, ha, G1, h⟩
theorem fsJ6_2 (h : fsJ6 w pb al ah bl bh dl dh gl gh il ih sl sh l a0 2 p a v) : ∃ y3 y4 y5 y6 y7 y8 z1 : Value, a = (((((((((a0.put (some 58) (.agg #[.float .f64 4607182418800017408, .float .f64 4607182418800017408])).put (some 62) (.agg #[.float .f64 4607182418800017408, .float .f64 4607182418800017408])).put (some 65) y3).put (some 66) y4).put (some 69) y5).put (some 70) y6).put (some 71) y7).put (some 72) y8).put (some 10) z1) ∧ (∀ q, p[0]? = some (some q) → z1 = .pointer (some ⟨q, 0, none⟩)) ∧ OwnF w ((pb, #[.int .i64 0]) :: l) [#[.float .f64 0, .float .f64 0]] p v := by
  obtain ⟨y1, y2, y3, y4, y5, y6, y7, y8, z1, ha, E1, E2, E3, E4, E5, E6, E7, E8, G1, h⟩ := h
  obtain rfl := E1 (by decide)
  obtain rfl := E2 (by decide)
  exact ⟨y3, y4, y5, y6, y7, y8, z1, ha, G1, h⟩
theorem fsJ6_3 (h : fsJ6 w pb al ah bl bh dl dh gl gh il ih sl sh l a0 3 p a v) : ∃ y4 y5 y6 y7 y8 z1 : Value, a = (((((((((a0.put (some 58) (.agg #[.float .f64 4607182418800017408, .float .f64 4607182418800017408])).put (some 62) (.agg #[.float .f64 4607182418800017408, .float .f64 4607182418800017408])).put (some 65) (.agg #[.float .f64 al, .float .f64 ah])).put (some 66) y4).put (some 69) y5).put (some 70) y6).put (some 71) y7).put (some 72) y8).put (some 10) z1) ∧ (∀ q, p[0]? = some (some q) → z1 = .pointer (some ⟨q, 0, none⟩)) ∧ OwnF w ((pb, #[.int .i64 0]) :: l) [#[.float .f64 0, .float .f64 0]] p v := by
  obtain ⟨y1, y2, y3, y4, y5, y6, y7, y8, z1, ha, E1, E2, E3, E4, E5, E6, E7, E8, G1, h⟩ := h
  obtain rfl := E1 (by decide)
  obtain rfl := E2 (by decide)
  obtain rfl := E3 (by decide)
  exact ⟨y4, y5, y6, y7, y8, z1, ha, G1, h⟩
theorem fsJ6_4 (h : fsJ6 w pb al ah bl bh dl dh gl gh il ih sl sh l a0 4 p a v) : ∃ y5 y6 y7 y8 z1 : Value, a = (((((((((a0.put (some 58) (.agg #[.float .f64 4607182418800017408, .float .f64 4607182418800017408])).put (some 62) (.agg #[.float .f64 4607182418800017408, .float .f64 4607182418800017408])).put (some 65) (.agg #[.float .f64 al, .float .f64 ah])).put (some 66) (.agg #[.float .f64 bl, .float .f64 bh])).put (some 69) y5).put (some 70) y6).put (some 71) y7).put (some 72) y8).put (some 10) z1) ∧ (∀ q, p[0]? = some (some q) → z1 = .pointer (some ⟨q, 0, none⟩)) ∧ OwnF w ((pb, #[.int .i64 0]) :: l) [#[.float .f64 0, .float .f64 0]] p v := by
  obtain ⟨y1, y2, y3, y4, y5, y6, y7, y8, z1, ha, E1, E2, E3, E4, E5, E6, E7, E8, G1, h⟩ := h
  obtain rfl := E1 (by decide)
  obtain rfl := E2 (by decide)
  obtain rfl := E3 (by decide)
  obtain rfl := E4 (by decide)
  exact ⟨y5, y6, y7, y8, z1, ha, G1, h⟩
theorem fsJ6_5 (h : fsJ6 w pb al ah bl bh dl dh gl gh il ih sl sh l a0 5 p a v) : ∃ y6 y7 y8 z1 : Value, a = (((((((((a0.put (some 58) (.agg #[.float .f64 4607182418800017408, .float .f64 4607182418800017408])).put (some 62) (.agg #[.float .f64 4607182418800017408, .float .f64 4607182418800017408])).put (some 65) (.agg #[.float .f64 al, .float .f64 ah])).put (some 66) (.agg #[.float .f64 bl, .float .f64 bh])).put (some 69) (.agg #[.float .f64 dl, .float .f64 dh])).put (some 70) y6).put (some 71) y7).put (some 72) y8).put (some 10) z1) ∧ (∀ q, p[0]? = some (some q) → z1 = .pointer (some ⟨q, 0, none⟩)) ∧ OwnF w ((pb, #[.int .i64 0]) :: l) [#[.float .f64 0, .float .f64 0]] p v := by
  obtain ⟨y1, y2, y3, y4, y5, y6, y7, y8, z1, ha, E1, E2, E3, E4, E5, E6, E7, E8, G1, h⟩ := h
  obtain rfl := E1 (by decide)
  obtain rfl := E2 (by decide)
  obtain rfl := E3 (by decide)
  obtain rfl := E4 (by decide)
  obtain rfl := E5 (by decide)
  exact ⟨y6, y7, y8, z1, ha, G1, h⟩
theorem fsJ6_6 (h : fsJ6 w pb al ah bl bh dl dh gl gh il ih sl sh l a0 6 p a v) : ∃ y7 y8 z1 : Value, a = (((((((((a0.put (some 58) (.agg #[.float .f64 4607182418800017408, .float .f64 4607182418800017408])).put (some 62) (.agg #[.float .f64 4607182418800017408, .float .f64 4607182418800017408])).put (some 65) (.agg #[.float .f64 al, .float .f64 ah])).put (some 66) (.agg #[.float .f64 bl, .float .f64 bh])).put (some 69) (.agg #[.float .f64 dl, .float .f64 dh])).put (some 70) (.agg #[.float .f64 gl, .float .f64 gh])).put (some 71) y7).put (some 72) y8).put (some 10) z1) ∧ (∀ q, p[0]? = some (some q) → z1 = .pointer (some ⟨q, 0, none⟩)) ∧ OwnF w ((pb, #[.int .i64 0]) :: l) [#[.float .f64 0, .float .f64 0]] p v := by
  obtain ⟨y1, y2, y3, y4, y5, y6, y7, y8, z1, ha, E1, E2, E3, E4, E5, E6, E7, E8, G1, h⟩ := h
  obtain rfl := E1 (by decide)
  obtain rfl := E2 (by decide)
  obtain rfl := E3 (by decide)
  obtain rfl := E4 (by decide)
  obtain rfl := E5 (by decide)
  obtain rfl := E6 (by decide)
  exact ⟨y7, y8, z1, ha, G1, h⟩
theorem fsJ6_7 (h : fsJ6 w pb al ah bl bh dl dh gl gh il ih sl sh l a0 7 p a v) : ∃ y8 z1 : Value, a = (((((((((a0.put (some 58) (.agg #[.float .f64 4607182418800017408, .float .f64 4607182418800017408])).put (some 62) (.agg #[.float .f64 4607182418800017408, .float .f64 4607182418800017408])).put (some 65) (.agg #[.float .f64 al, .float .f64 ah])).put (some 66) (.agg #[.float .f64 bl, .float .f64 bh])).put (some 69) (.agg #[.float .f64 dl, .float .f64 dh])).put (some 70) (.agg #[.float .f64 gl, .float .f64 gh])).put (some 71) (.agg #[.float .f64 il, .float .f64 ih])).put (some 72) y8).put (some 10) z1) ∧ (∀ q, p[0]? = some (some q) → z1 = .pointer (some ⟨q, 0, none⟩)) ∧ OwnF w ((pb, #[.int .i64 0]) :: l) [#[.float .f64 0, .float .f64 0]] p v := by
  obtain ⟨y1, y2, y3, y4, y5, y6, y7, y8, z1, ha, E1, E2, E3, E4, E5, E6, E7, E8, G1, h⟩ := h
  obtain rfl := E1 (by decide)
  obtain rfl := E2 (by decide)
  obtain rfl := E3 (by decide)
  obtain rfl := E4 (by decide)
  obtain rfl := E5 (by decide)
  obtain rfl := E6 (by decide)
  obtain rfl := E7 (by decide)
  exact ⟨y8, z1, ha, G1, h⟩
theorem fsJ6_fin {q1 : Nat} (h : fsJ6 w pb al ah bl bh dl dh gl gh il ih sl sh l a0 8 [some q1] a v) : a = (((((((((a0.put (some 58) (.agg #[.float .f64 4607182418800017408, .float .f64 4607182418800017408])).put (some 62) (.agg #[.float .f64 4607182418800017408, .float .f64 4607182418800017408])).put (some 65) (.agg #[.float .f64 al, .float .f64 ah])).put (some 66) (.agg #[.float .f64 bl, .float .f64 bh])).put (some 69) (.agg #[.float .f64 dl, .float .f64 dh])).put (some 70) (.agg #[.float .f64 gl, .float .f64 gh])).put (some 71) (.agg #[.float .f64 il, .float .f64 ih])).put (some 72) (.agg #[.float .f64 sl, .float .f64 sh])).put (some 10) (.pointer (some ⟨q1, 0, none⟩))) ∧ OwnF w ((pb, #[.int .i64 0]) :: l) [#[.float .f64 0, .float .f64 0]] [some q1] v := by
  obtain ⟨y1, y2, y3, y4, y5, y6, y7, y8, z1, ha, E1, E2, E3, E4, E5, E6, E7, E8, G1, h⟩ := h
  obtain rfl := E1 (by decide)
  obtain rfl := E2 (by decide)
  obtain rfl := E3 (by decide)
  obtain rfl := E4 (by decide)
  obtain rfl := E5 (by decide)
  obtain rfl := E6 (by decide)
  obtain rfl := E7 (by decide)
  obtain rfl := E8 (by decide)
  obtain rfl := G1 _ rfl
  exact ⟨ha, h⟩
end

/-- Region 7. -/
def fsJ7 (w : World) (pb : Nat) (jl jh kl kh ll lh ml mh ol oh : Nat) (l : RowL) (a0 : Act) (k : Nat) (p : List (Option Nat)) (a : Act) (v : World) : Prop :=
  ∃ y1 y2 y3 y4 y5 y6 z1 : Value, a = (((((((a0.put (some 80) y1).put (some 81) y2).put (some 87) y3).put (some 88) y4).put (some 89) y5).put (some 90) y6).put (some 11) z1) ∧ (0 < k → y1 = .agg #[.float .f64 jl, .float .f64 jh]) ∧ (1 < k → y2 = .agg #[.float .f64 kl, .float .f64 kh]) ∧ (2 < k → y3 = .agg #[.float .f64 jl, .float .f64 jh]) ∧ (3 < k → y4 = .agg #[.float .f64 ll, .float .f64 lh]) ∧ (4 < k → y5 = .agg #[.float .f64 ml, .float .f64 mh]) ∧ (5 < k → y6 = .agg #[.float .f64 ol, .float .f64 oh]) ∧ (∀ q, p[0]? = some (some q) → z1 = .pointer (some ⟨q, 0, none⟩)) ∧ OwnF w ((pb, #[.int .i64 0]) :: l) [#[.float .f64 0, .float .f64 0]] p v
section
variable {w v : World} {pb : Nat} {jl jh kl kh ll lh ml mh ol oh : Nat} {l : RowL} {a0 a : Act} {p : List (Option Nat)}
theorem fsJ7_0 (h : fsJ7 w pb jl jh kl kh ll lh ml mh ol oh l a0 0 p a v) : ∃ y1 y2 y3 y4 y5 y6 z1 : Value, a = (((((((a0.put (some 80) y1).put (some 81) y2).put (some 87) y3).put (some 88) y4).put (some 89) y5).put (some 90) y6).put (some 11) z1) ∧ (∀ q, p[0]? = some (some q) → z1 = .pointer (some ⟨q, 0, none⟩)) ∧ OwnF w ((pb, #[.int .i64 0]) :: l) [#[.float .f64 0, .float .f64 0]] p v := by
  obtain ⟨y1, y2, y3, y4, y5, y6, z1, ha, E1, E2, E3, E4, E5, E6, G1, h⟩ := h
  exact ⟨y1, y2, y3, y4, y5, y6, z1, ha, G1, h⟩
theorem fsJ7_1 (h : fsJ7 w pb jl jh kl kh ll lh ml mh ol oh l a0 1 p a v) : ∃ y2 y3 y4 y5 y6 z1 : Value, a = (((((((a0.put (some 80) (.agg #[.float .f64 jl, .float .f64 jh])).put (some 81) y2).put (some 87) y3).put (some 88) y4).put (some 89) y5).put (some 90) y6).put (some 11) z1) ∧ (∀ q, p[0]? = some (some q) → z1 = .pointer (some ⟨q, 0, none⟩)) ∧ OwnF w ((pb, #[.int .i64 0]) :: l) [#[.float .f64 0, .float .f64 0]] p v := by
  obtain ⟨y1, y2, y3, y4, y5, y6, z1, ha, E1, E2, E3, E4, E5, E6, G1, h⟩ := h
  obtain rfl := E1 (by decide)
  exact ⟨y2, y3, y4, y5, y6, z1, ha, G1, h⟩
theorem fsJ7_2 (h : fsJ7 w pb jl jh kl kh ll lh ml mh ol oh l a0 2 p a v) : ∃ y3 y4 y5 y6 z1 : Value, a = (((((((a0.put (some 80) (.agg #[.float .f64 jl, .float .f64 jh])).put (some 81) (.agg #[.float .f64 kl, .float .f64 kh])).put (some 87) y3).put (some 88) y4).put (some 89) y5).put (some 90) y6).put (some 11) z1) ∧ (∀ q, p[0]? = some (some q) → z1 = .pointer (some ⟨q, 0, none⟩)) ∧ OwnF w ((pb, #[.int .i64 0]) :: l) [#[.float .f64 0, .float .f64 0]] p v := by
  obtain ⟨y1, y2, y3, y4, y5, y6, z1, ha, E1, E2, E3, E4, E5, E6, G1, h⟩ := h
  obtain rfl := E1 (by decide)
  obtain rfl := E2 (by decide)
  exact ⟨y3, y4, y5, y6, z1, ha, G1, h⟩
theorem fsJ7_3 (h : fsJ7 w pb jl jh kl kh ll lh ml mh ol oh l a0 3 p a v) : ∃ y4 y5 y6 z1 : Value, a = (((((((a0.put (some 80) (.agg #[.float .f64 jl, .float .f64 jh])).put (some 81) (.agg #[.float .f64 kl, .float .f64 kh])).put (some 87) (.agg #[.float .f64 jl, .float .f64 jh])).put (some 88) y4).put (some 89) y5).put (some 90) y6).put (some 11) z1) ∧ (∀ q, p[0]? = some (some q) → z1 = .pointer (some ⟨q, 0, none⟩)) ∧ OwnF w ((pb, #[.int .i64 0]) :: l) [#[.float .f64 0, .float .f64 0]] p v := by
  obtain ⟨y1, y2, y3, y4, y5, y6, z1, ha, E1, E2, E3, E4, E5, E6, G1, h⟩ := h
  obtain rfl := E1 (by decide)
  obtain rfl := E2 (by decide)
  obtain rfl := E3 (by decide)
  exact ⟨y4, y5, y6, z1, ha, G1, h⟩
theorem fsJ7_4 (h : fsJ7 w pb jl jh kl kh ll lh ml mh ol oh l a0 4 p a v) : ∃ y5 y6 z1 : Value, a = (((((((a0.put (some 80) (.agg #[.float .f64 jl, .float .f64 jh])).put (some 81) (.agg #[.float .f64 kl, .float .f64 kh])).put (some 87) (.agg #[.float .f64 jl, .float .f64 jh])).put (some 88) (.agg #[.float .f64 ll, .float .f64 lh])).put (some 89) y5).put (some 90) y6).put (some 11) z1) ∧ (∀ q, p[0]? = some (some q) → z1 = .pointer (some ⟨q, 0, none⟩)) ∧ OwnF w ((pb, #[.int .i64 0]) :: l) [#[.float .f64 0, .float .f64 0]] p v := by
  obtain ⟨y1, y2, y3, y4, y5, y6, z1, ha, E1, E2, E3, E4, E5, E6, G1, h⟩ := h
  obtain rfl := E1 (by decide)
  obtain rfl := E2 (by decide)
  obtain rfl := E3 (by decide)
  obtain rfl := E4 (by decide)
  exact ⟨y5, y6, z1, ha, G1, h⟩
theorem fsJ7_5 (h : fsJ7 w pb jl jh kl kh ll lh ml mh ol oh l a0 5 p a v) : ∃ y6 z1 : Value, a = (((((((a0.put (some 80) (.agg #[.float .f64 jl, .float .f64 jh])).put (some 81) (.agg #[.float .f64 kl, .float .f64 kh])).put (some 87) (.agg #[.float .f64 jl, .float .f64 jh])).put (some 88) (.agg #[.float .f64 ll, .float .f64 lh])).put (some 89) (.agg #[.float .f64 ml, .float .f64 mh])).put (some 90) y6).put (some 11) z1) ∧ (∀ q, p[0]? = some (some q) → z1 = .pointer (some ⟨q, 0, none⟩)) ∧ OwnF w ((pb, #[.int .i64 0]) :: l) [#[.float .f64 0, .float .f64 0]] p v := by
  obtain ⟨y1, y2, y3, y4, y5, y6, z1, ha, E1, E2, E3, E4, E5, E6, G1, h⟩ := h
  obtain rfl := E1 (by decide)
  obtain rfl := E2 (by decide)
  obtain rfl := E3 (by decide)
  obtain rfl := E4 (by decide)
  obtain rfl := E5 (by decide)
  exact ⟨y6, z1, ha, G1, h⟩
theorem fsJ7_fin {q1 : Nat} (h : fsJ7 w pb jl jh kl kh ll lh ml mh ol oh l a0 6 [some q1] a v) : a = (((((((a0.put (some 80) (.agg #[.float .f64 jl, .float .f64 jh])).put (some 81) (.agg #[.float .f64 kl, .float .f64 kh])).put (some 87) (.agg #[.float .f64 jl, .float .f64 jh])).put (some 88) (.agg #[.float .f64 ll, .float .f64 lh])).put (some 89) (.agg #[.float .f64 ml, .float .f64 mh])).put (some 90) (.agg #[.float .f64 ol, .float .f64 oh])).put (some 11) (.pointer (some ⟨q1, 0, none⟩))) ∧ OwnF w ((pb, #[.int .i64 0]) :: l) [#[.float .f64 0, .float .f64 0]] [some q1] v := by
  obtain ⟨y1, y2, y3, y4, y5, y6, z1, ha, E1, E2, E3, E4, E5, E6, G1, h⟩ := h
  obtain rfl := E1 (by decide)
  obtain rfl := E2 (by decide)
  obtain rfl := E3 (by decide)
  obtain rfl := E4 (by decide)
  obtain rfl := E5 (by decide)
  obtain rfl := E6 (by decide)
  obtain rfl := G1 _ rfl
  exact ⟨ha, h⟩
end

/-- Region 8. -/
def fsJ8 (w : World) (pb : Nat) (ql qh rl rh tl th ul uh vl vh : Nat) (l : RowL) (a0 : Act) (k : Nat) (p : List (Option Nat)) (a : Act) (v : World) : Prop :=
  ∃ y1 y2 y3 y4 y5 y6 z1 : Value, a = (((((((a0.put (some 97) y1).put (some 99) y2).put (some 104) y3).put (some 106) y4).put (some 107) y5).put (some 108) y6).put (some 12) z1) ∧ (0 < k → y1 = .agg #[.float .f64 ql, .float .f64 qh]) ∧ (1 < k → y2 = .agg #[.float .f64 rl, .float .f64 rh]) ∧ (2 < k → y3 = .agg #[.float .f64 ql, .float .f64 qh]) ∧ (3 < k → y4 = .agg #[.float .f64 tl, .float .f64 th]) ∧ (4 < k → y5 = .agg #[.float .f64 ul, .float .f64 uh]) ∧ (5 < k → y6 = .agg #[.float .f64 vl, .float .f64 vh]) ∧ (∀ q, p[0]? = some (some q) → z1 = .pointer (some ⟨q, 0, none⟩)) ∧ OwnF w ((pb, #[.int .i64 0]) :: l) [#[.float .f64 0, .float .f64 0]] p v
section
variable {w v : World} {pb : Nat} {ql qh rl rh tl th ul uh vl vh : Nat} {l : RowL} {a0 a : Act} {p : List (Option Nat)}
theorem fsJ8_0 (h : fsJ8 w pb ql qh rl rh tl th ul uh vl vh l a0 0 p a v) : ∃ y1 y2 y3 y4 y5 y6 z1 : Value, a = (((((((a0.put (some 97) y1).put (some 99) y2).put (some 104) y3).put (some 106) y4).put (some 107) y5).put (some 108) y6).put (some 12) z1) ∧ (∀ q, p[0]? = some (some q) → z1 = .pointer (some ⟨q, 0, none⟩)) ∧ OwnF w ((pb, #[.int .i64 0]) :: l) [#[.float .f64 0, .float .f64 0]] p v := by
  obtain ⟨y1, y2, y3, y4, y5, y6, z1, ha, E1, E2, E3, E4, E5, E6, G1, h⟩ := h
  exact ⟨y1, y2, y3, y4, y5, y6, z1, ha, G1, h⟩
theorem fsJ8_1 (h : fsJ8 w pb ql qh rl rh tl th ul uh vl vh l a0 1 p a v) : ∃ y2 y3 y4 y5 y6 z1 : Value, a = (((((((a0.put (some 97) (.agg #[.float .f64 ql, .float .f64 qh])).put (some 99) y2).put (some 104) y3).put (some 106) y4).put (some 107) y5).put (some 108) y6).put (some 12) z1) ∧ (∀ q, p[0]? = some (some q) → z1 = .pointer (some ⟨q, 0, none⟩)) ∧ OwnF w ((pb, #[.int .i64 0]) :: l) [#[.float .f64 0, .float .f64 0]] p v := by
  obtain ⟨y1, y2, y3, y4, y5, y6, z1, ha, E1, E2, E3, E4, E5, E6, G1, h⟩ := h
  obtain rfl := E1 (by decide)
  exact ⟨y2, y3, y4, y5, y6, z1, ha, G1, h⟩
theorem fsJ8_2 (h : fsJ8 w pb ql qh rl rh tl th ul uh vl vh l a0 2 p a v) : ∃ y3 y4 y5 y6 z1 : Value, a = (((((((a0.put (some 97) (.agg #[.float .f64 ql, .float .f64 qh])).put (some 99) (.agg #[.float .f64 rl, .float .f64 rh])).put (some 104) y3).put (some 106) y4).put (some 107) y5).put (some 108) y6).put (some 12) z1) ∧ (∀ q, p[0]? = some (some q) → z1 = .pointer (some ⟨q, 0, none⟩)) ∧ OwnF w ((pb, #[.int .i64 0]) :: l) [#[.float .f64 0, .float .f64 0]] p v := by
  obtain ⟨y1, y2, y3, y4, y5, y6, z1, ha, E1, E2, E3, E4, E5, E6, G1, h⟩ := h
  obtain rfl := E1 (by decide)
  obtain rfl := E2 (by decide)
  exact ⟨y3, y4, y5, y6, z1, ha, G1, h⟩
theorem fsJ8_3 (h : fsJ8 w pb ql qh rl rh tl th ul uh vl vh l a0 3 p a v) : ∃ y4 y5 y6 z1 : Value, a = (((((((a0.put (some 97) (.agg #[.float .f64 ql, .float .f64 qh])).put (some 99) (.agg #[.float .f64 rl, .float .f64 rh])).put (some 104) (.agg #[.float .f64 ql, .float .f64 qh])).put (some 106) y4).put (some 107) y5).put (some 108) y6).put (some 12) z1) ∧ (∀ q, p[0]? = some (some q) → z1 = .pointer (some ⟨q, 0, none⟩)) ∧ OwnF w ((pb, #[.int .i64 0]) :: l) [#[.float .f64 0, .float .f64 0]] p v := by
  obtain ⟨y1, y2, y3, y4, y5, y6, z1, ha, E1, E2, E3, E4, E5, E6, G1, h⟩ := h
  obtain rfl := E1 (by decide)
  obtain rfl := E2 (by decide)
  obtain rfl := E3 (by decide)
  exact ⟨y4, y5, y6, z1, ha, G1, h⟩
theorem fsJ8_4 (h : fsJ8 w pb ql qh rl rh tl th ul uh vl vh l a0 4 p a v) : ∃ y5 y6 z1 : Value, a = (((((((a0.put (some 97) (.agg #[.float .f64 ql, .float .f64 qh])).put (some 99) (.agg #[.float .f64 rl, .float .f64 rh])).put (some 104) (.agg #[.float .f64 ql, .float .f64 qh])).put (some 106) (.agg #[.float .f64 tl, .float .f64 th])).put (some 107) y5).put (some 108) y6).put (some 12) z1) ∧ (∀ q, p[0]? = some (some q) → z1 = .pointer (some ⟨q, 0, none⟩)) ∧ OwnF w ((pb, #[.int .i64 0]) :: l) [#[.float .f64 0, .float .f64 0]] p v := by
  obtain ⟨y1, y2, y3, y4, y5, y6, z1, ha, E1, E2, E3, E4, E5, E6, G1, h⟩ := h
  obtain rfl := E1 (by decide)
  obtain rfl := E2 (by decide)
  obtain rfl := E3 (by decide)
  obtain rfl := E4 (by decide)
  exact ⟨y5, y6, z1, ha, G1, h⟩
theorem fsJ8_5 (h : fsJ8 w pb ql qh rl rh tl th ul uh vl vh l a0 5 p a v) : ∃ y6 z1 : Value, a = (((((((a0.put (some 97) (.agg #[.float .f64 ql, .float .f64 qh])).put (some 99) (.agg #[.float .f64 rl, .float .f64 rh])).put (some 104) (.agg #[.float .f64 ql, .float .f64 qh])).put (some 106) (.agg #[.float .f64 tl, .float .f64 th])).put (some 107) (.agg #[.float .f64 ul, .float .f64 uh])).put (some 108) y6).put (some 12) z1) ∧ (∀ q, p[0]? = some (some q) → z1 = .pointer (some ⟨q, 0, none⟩)) ∧ OwnF w ((pb, #[.int .i64 0]) :: l) [#[.float .f64 0, .float .f64 0]] p v := by
  obtain ⟨y1, y2, y3, y4, y5, y6, z1, ha, E1, E2, E3, E4, E5, E6, G1, h⟩ := h
  obtain rfl := E1 (by decide)
  obtain rfl := E2 (by decide)
  obtain rfl := E3 (by decide)
  obtain rfl := E4 (by decide)
  obtain rfl := E5 (by decide)
  exact ⟨y6, z1, ha, G1, h⟩
theorem fsJ8_fin {q1 : Nat} (h : fsJ8 w pb ql qh rl rh tl th ul uh vl vh l a0 6 [some q1] a v) : a = (((((((a0.put (some 97) (.agg #[.float .f64 ql, .float .f64 qh])).put (some 99) (.agg #[.float .f64 rl, .float .f64 rh])).put (some 104) (.agg #[.float .f64 ql, .float .f64 qh])).put (some 106) (.agg #[.float .f64 tl, .float .f64 th])).put (some 107) (.agg #[.float .f64 ul, .float .f64 uh])).put (some 108) (.agg #[.float .f64 vl, .float .f64 vh])).put (some 12) (.pointer (some ⟨q1, 0, none⟩))) ∧ OwnF w ((pb, #[.int .i64 0]) :: l) [#[.float .f64 0, .float .f64 0]] [some q1] v := by
  obtain ⟨y1, y2, y3, y4, y5, y6, z1, ha, E1, E2, E3, E4, E5, E6, G1, h⟩ := h
  obtain rfl := E1 (by decide)
  obtain rfl := E2 (by decide)
  obtain rfl := E3 (by decide)
  obtain rfl := E4 (by decide)
  obtain rfl := E5 (by decide)
  obtain rfl := E6 (by decide)
  obtain rfl := G1 _ rfl
  exact ⟨ha, h⟩
end

/-- Region 9. -/
def fsJ9 (w : World) (pb : Nat) (xl xh yl yh : Nat) (l : RowL) (a0 : Act) (k : Nat) (p : List (Option Nat)) (a : Act) (v : World) : Prop :=
  ∃ y1 y2 y3 z1 : Value, a = ((((a0.put (some 111) y1).put (some 115) y2).put (some 116) y3).put (some 13) z1) ∧ (0 < k → y1 = .agg #[.float .f64 4602678819172646912, .float .f64 4602678819172646912]) ∧ (1 < k → y2 = .agg #[.float .f64 xl, .float .f64 xh]) ∧ (2 < k → y3 = .agg #[.float .f64 yl, .float .f64 yh]) ∧ (∀ q, p[0]? = some (some q) → z1 = .pointer (some ⟨q, 0, none⟩)) ∧ OwnF w ((pb, #[.int .i64 0]) :: l) [#[.float .f64 0, .float .f64 0]] p v
section
variable {w v : World} {pb : Nat} {xl xh yl yh : Nat} {l : RowL} {a0 a : Act} {p : List (Option Nat)}
theorem fsJ9_0 (h : fsJ9 w pb xl xh yl yh l a0 0 p a v) : ∃ y1 y2 y3 z1 : Value, a = ((((a0.put (some 111) y1).put (some 115) y2).put (some 116) y3).put (some 13) z1) ∧ (∀ q, p[0]? = some (some q) → z1 = .pointer (some ⟨q, 0, none⟩)) ∧ OwnF w ((pb, #[.int .i64 0]) :: l) [#[.float .f64 0, .float .f64 0]] p v := by
  obtain ⟨y1, y2, y3, z1, ha, E1, E2, E3, G1, h⟩ := h
  exact ⟨y1, y2, y3, z1, ha, G1, h⟩
theorem fsJ9_1 (h : fsJ9 w pb xl xh yl yh l a0 1 p a v) : ∃ y2 y3 z1 : Value, a = ((((a0.put (some 111) (.agg #[.float .f64 4602678819172646912, .float .f64 4602678819172646912])).put (some 115) y2).put (some 116) y3).put (some 13) z1) ∧ (∀ q, p[0]? = some (some q) → z1 = .pointer (some ⟨q, 0, none⟩)) ∧ OwnF w ((pb, #[.int .i64 0]) :: l) [#[.float .f64 0, .float .f64 0]] p v := by
  obtain ⟨y1, y2, y3, z1, ha, E1, E2, E3, G1, h⟩ := h
  obtain rfl := E1 (by decide)
  exact ⟨y2, y3, z1, ha, G1, h⟩
theorem fsJ9_2 (h : fsJ9 w pb xl xh yl yh l a0 2 p a v) : ∃ y3 z1 : Value, a = ((((a0.put (some 111) (.agg #[.float .f64 4602678819172646912, .float .f64 4602678819172646912])).put (some 115) (.agg #[.float .f64 xl, .float .f64 xh])).put (some 116) y3).put (some 13) z1) ∧ (∀ q, p[0]? = some (some q) → z1 = .pointer (some ⟨q, 0, none⟩)) ∧ OwnF w ((pb, #[.int .i64 0]) :: l) [#[.float .f64 0, .float .f64 0]] p v := by
  obtain ⟨y1, y2, y3, z1, ha, E1, E2, E3, G1, h⟩ := h
  obtain rfl := E1 (by decide)
  obtain rfl := E2 (by decide)
  exact ⟨y3, z1, ha, G1, h⟩
theorem fsJ9_fin {q1 : Nat} (h : fsJ9 w pb xl xh yl yh l a0 3 [some q1] a v) : a = ((((a0.put (some 111) (.agg #[.float .f64 4602678819172646912, .float .f64 4602678819172646912])).put (some 115) (.agg #[.float .f64 xl, .float .f64 xh])).put (some 116) (.agg #[.float .f64 yl, .float .f64 yh])).put (some 13) (.pointer (some ⟨q1, 0, none⟩))) ∧ OwnF w ((pb, #[.int .i64 0]) :: l) [#[.float .f64 0, .float .f64 0]] [some q1] v := by
  obtain ⟨y1, y2, y3, z1, ha, E1, E2, E3, G1, h⟩ := h
  obtain rfl := E1 (by decide)
  obtain rfl := E2 (by decide)
  obtain rfl := E3 (by decide)
  obtain rfl := G1 _ rfl
  exact ⟨ha, h⟩
end

set_option maxRecDepth 100000 in
set_option maxHeartbeats 16000000 in
theorem snell_law {u0 v0 pc pn fl fh df al ah bl bh dl dh gl gh il ih sl sh jl jh kl kh ll lh ml mh ol oh ql qh rl rh tl th ul uh vl vh xl xh yl yh : Nat} (w : World)
    (c1 : Hid (∀ w, Calls Try.prog 41 #[.float .f64 4571153621781053440, .float .f64 4607182418800017408, .int .u32 u0] w fun r w' => r = .returned (.float .f64 pc) ∧ w = w'))
    (c2 : Hid (∀ w, Calls Try.prog 40 #[.float .f64 pc] w fun r w' => r = .returned (.agg #[.float .f64 pc, .float .f64 pc]) ∧ Below w.heap.size w w'))
    (c3 : Hid (∀ w, Calls Try.prog 41 #[.float .f64 4607463893776728064, .float .f64 4616189618054758400, .int .u32 v0] w fun r w' => r = .returned (.float .f64 pn) ∧ w = w'))
    (c4 : Hid (∀ w, Calls Try.prog 40 #[.float .f64 pn] w fun r w' => r = .returned (.agg #[.float .f64 pn, .float .f64 pn]) ∧ Below w.heap.size w w'))
    (c5 : Hid (∀ w, Calls Try.prog 42 #[.agg #[.float .f64 pc, .float .f64 pc], .agg #[.float .f64 pn, .float .f64 pn]] w fun r w' => r = .returned (.tuple #[.agg #[.float .f64 fl, .float .f64 fh], .int .i64 0]) ∧ Below w.heap.size w w'))
    (o_lssfl_0 : ((FloatKind.f64.format.order fl 0 == some Ordering.lt) = false))
    (o_gtrfh_418800017408 : ((FloatKind.f64.format.order fh 4607182418800017408 == some Ordering.gt) = false))
    (o_gtrfl_fh : ((FloatKind.f64.format.order fl fh == some Ordering.gt) = false))
    (q_df : (∀ w, (binOp .sub 22 (.float .f64 fh) (.float .f64 fl)).run Try.prog w = .ok (.float .f64 df) w))
    (o_gtrdf_429978902528 : ((FloatKind.f64.format.order df 4472074429978902528 == some Ordering.gt) = false))
    (d6 : Hid (KN 28 0 0 4607182418800017408 4607182418800017408 4607182418800017408))
    (d8 : Hid (K1 18 0 0 pc pc al ah))
    (d9 : Hid (K2 30 0 0 4607182418800017408 4607182418800017408 al ah bl bh))
    (d10 : Hid (K1 18 0 0 pn pn dl dh))
    (d11 : Hid (K2 32 0 0 bl bh dl dh gl gh))
    (d12 : Hid (K2 30 0 0 4607182418800017408 4607182418800017408 gl gh il ih))
    (d13 : Hid (K1 33 0 0 il ih sl sh))
    (d14 : Hid (K2 29 0 0 pn pn sl sh jl jh))
    (d15 : Hid (K2 30 0 0 pc pc jl jh kl kh))
    (d17 : Hid (K2 17 0 0 pc pc jl jh ll lh))
    (d18 : Hid (K2 32 0 0 kl kh ll lh ml mh))
    (d19 : Hid (K1 18 0 0 ml mh ol oh))
    (d20 : Hid (K2 29 0 0 pn pn pc pc ql qh))
    (d21 : Hid (K2 30 0 0 ql qh sl sh rl rh))
    (d23 : Hid (K2 17 0 0 ql qh sl sh tl th))
    (d24 : Hid (K2 32 0 0 rl rh tl th ul uh))
    (d25 : Hid (K1 18 0 0 ul uh vl vh))
    (d26 : Hid (KN 28 0 0 4602678819172646912 4602678819172646912 4602678819172646912))
    (d27 : Hid (K2 17 0 0 ol oh vl vh xl xh))
    (d28 : Hid (K2 29 0 0 4602678819172646912 4602678819172646912 xl xh yl yh))
    (c30 : Hid (∀ w, Calls Try.prog 43 #[.agg #[.float .f64 fl, .float .f64 fh], .agg #[.float .f64 yl, .float .f64 yh]] w fun r w' => r = .returned (.bool true) ∧ Below w.heap.size w w'))
    (c31 : Hid (∀ w, Calls Try.prog 44 #[] w fun r w' => r = .returned (.bool true) ∧ Below w.heap.size w w')) :
    Calls Try.prog 7 #[.int .u32 u0, .int .u32 v0] w fun r w' => r = .returned (.bool true) ∧ Below w.heap.size w w' := by
  have M := Lib.hid (Own.nil w)
  have eqF := eq_floats
  go_enter Try.func7, Try.ntmps7
  go_wp2_with fail
  refine (c1.out _).mono ?_
  rintro r w1_ ⟨rfl, rfl⟩
  go_wp2_with fail
  refine (c2.out _).mono ?_
  rintro r w2_ ⟨rfl, hb⟩
  replace M := Lib.hid (M.out.below hb)
  clear hb
  go_wp2_with fail
  refine (c3.out _).mono ?_
  rintro r w3_ ⟨rfl, rfl⟩
  go_wp2_with fail
  refine (c4.out _).mono ?_
  rintro r w4_ ⟨rfl, hb⟩
  replace M := Lib.hid (M.out.below hb)
  clear hb
  replace M := Lib.hid (M.out.made #[.float .f64 pc, .float .f64 pc] 24)
  replace M := Lib.hid (M.out.made #[.float .f64 pn, .float .f64 pn] 24)
  simp only [World.size_alloc] at M
  go_wp2_with fail
  refine (c5.out _).mono ?_
  rintro r w5_ ⟨rfl, hb⟩
  replace M := Lib.hid (M.out.below hb)
  clear hb
  replace M := Lib.hid (M.out.made #[.float .f64 fl, .float .f64 fh] 24)
  replace M := Lib.hid (M.out.made #[.int .i64 0] 32)
  simp only [World.size_alloc] at M
  go_upto_region 6 with fail
  replace M := Lib.hid M.out.drew
  refine wp_region_noPanic ?_
  refine tails_region (S := fun w' => (w'.cell? ⟨w4_.heap.size, 0, none⟩ = some (.float .f64 pc) ∧ w'.cell? ⟨w4_.heap.size, 1, none⟩ = some (.float .f64 pc)) ∧ (w'.cell? ⟨(w4_.heap.size + 1), 0, none⟩ = some (.float .f64 pn) ∧ w'.cell? ⟨(w4_.heap.size + 1), 1, none⟩ = some (.float .f64 pn))) [] (by kernel_rfl) ?_ (fun hS => ?_)
  · exact ⟨(M.out.nth 3 rfl).two, (M.out.nth 2 rfl).two⟩
  refine tk (x := ?_) 0 rfl (by kernel_rfl) ⟨by rfl, ?_⟩ (fun _ _ _ h => h) hS ?_
  rotate_left; focus (intro w hSw; (try dsimp only at hSw); go_simp; try with_reducible rfl)
  refine tk (x := ?_) 1 rfl (by kernel_rfl) ⟨by rfl, ?_⟩ (fun _ _ _ h => h) hS ?_
  rotate_left; focus (intro w hSw; (try dsimp only at hSw); go_simp; try with_reducible rfl)
  refine tk (x := ?_) 2 rfl (by kernel_rfl) ⟨by rfl, ?_⟩ (fun _ _ _ h => h) hS ?_
  rotate_left; focus (intro w hSw; (try dsimp only at hSw); go_simp; try with_reducible rfl)
  refine tk (x := ?_) 4 rfl (by kernel_rfl) ⟨by rfl, ?_⟩ (fun _ _ _ h => h) hS ?_
  rotate_left; focus (intro w hSw; (try dsimp only at hSw); go_simp; try with_reducible rfl)
  refine tk (x := ?_) 5 rfl (by kernel_rfl) ⟨by rfl, ?_⟩ (fun _ _ _ h => h) hS ?_
  rotate_left; focus (intro w hSw; (try dsimp only at hSw); go_simp; try with_reducible rfl)
  refine tk (x := ?_) 6 rfl (by kernel_rfl) ⟨by rfl, ?_⟩ (fun _ _ _ h => h) hS ?_
  rotate_left; focus (intro w hSw; (try dsimp only at hSw); go_simp; try with_reducible rfl)
  refine tk (x := ?_) 8 rfl (by kernel_rfl) ⟨by rfl, ?_⟩ (fun _ _ _ h => h) hS ?_
  rotate_left; focus (intro w hSw; (try dsimp only at hSw); go_simp; try with_reducible rfl)
  refine tk (x := ?_) 9 rfl (by kernel_rfl) ⟨by rfl, ?_⟩ (fun _ _ _ h => h) hS ?_
  rotate_left; focus (intro w hSw; (try dsimp only at hSw); go_simp; try with_reducible rfl)
  refine tk (x := ?_) 12 rfl (by kernel_rfl) ⟨by rfl, ?_⟩ (fun _ _ _ h => h) hS ?_
  rotate_left; focus (intro w hSw; (try dsimp only at hSw); go_simp; try with_reducible rfl)
  refine tk (x := ?_) 13 rfl (by kernel_rfl) ⟨by rfl, ?_⟩ (fun _ _ _ h => h) hS ?_
  rotate_left; focus (intro w hSw; (try dsimp only at hSw); go_simp; try with_reducible rfl)
  conv => arg 9; simp only [Act.put, go_sem]
  refine lpx_cccccccc_1 M 3 7 10 11 14 15 16 17 18 [58, 62, 65, 66, 69, 70, 71, 72, 10] 1 (fsJ6 w (w5_.heap.size + 1) al ah bl bh dl dh gl gh il ih sl sh) (by kernel_rfl) (by kernel_rfl) ?_ ?_ ?_ ?_ ?_ ?_ ?_ ?_ ?_ ?_ ?_ ?_
  · intro A hA
    obtain ⟨y1, hq1⟩ := put_ex (hA 58 (by simp))
    obtain ⟨y2, hq2⟩ := put_ex (hA 62 (by simp))
    obtain ⟨y3, hq3⟩ := put_ex (hA 65 (by simp))
    obtain ⟨y4, hq4⟩ := put_ex (hA 66 (by simp))
    obtain ⟨y5, hq5⟩ := put_ex (hA 69 (by simp))
    obtain ⟨y6, hq6⟩ := put_ex (hA 70 (by simp))
    obtain ⟨y7, hq7⟩ := put_ex (hA 71 (by simp))
    obtain ⟨y8, hq8⟩ := put_ex (hA 72 (by simp))
    obtain ⟨z1, hq9⟩ := put_ex (hA 10 (by simp))
    exact ⟨y1, y2, y3, y4, y5, y6, y7, y8, z1, by rw [hq1, hq2, hq3, hq4, hq5, hq6, hq7, hq8, hq9], by omega, by omega, by omega, by omega, by omega, by omega, by omega, by omega, by simp, OwnF.start M.out 1⟩
  · rintro k p a v ⟨y1, y2, y3, y4, y5, y6, y7, y8, z1, _, _, _, _, _, _, _, _, _, _, h⟩
    exact ⟨(h.own.nth 3 rfl).two, (h.own.nth 2 rfl).two⟩
  · intro p a v hJ
    refine op_step (o := _) rfl (fun K hK => ?_)
    obtain ⟨y1, y2, y3, y4, y5, y6, y7, y8, z1, ha, gg1, h⟩ := fsJ6_0 hJ
    have h := Lib.hid h
    clear hJ
    subst ha
    go_simp
    refine (d6.out _ _ (h.out.own.nth 0 rfl)).mono ?_
    rintro rr w5 ⟨rfl, hp⟩
    try go_wp2_with fail
    refine hK.out _ _ ⟨_, y2, y3, y4, y5, y6, y7, y8, z1, ?_, fun _ => rfl, by omega, by omega, by omega, by omega, by omega, by omega, by omega, gg1, h.out.putHead hp⟩
    kernel_rfl
  · intro p a v hJ
    refine op_step (o := _) rfl (fun K hK => ?_)
    obtain ⟨y2, y3, y4, y5, y6, y7, y8, z1, ha, gg1, h⟩ := fsJ6_1 hJ
    have h := Lib.hid h
    clear hJ
    subst ha
    go_simp
    refine (d6.out _ _ (h.out.own.nth 0 rfl)).mono ?_
    rintro rr w5 ⟨rfl, hp⟩
    try go_wp2_with fail
    refine hK.out _ _ ⟨_, _, y3, y4, y5, y6, y7, y8, z1, ?_, fun _ => rfl, fun _ => rfl, by omega, by omega, by omega, by omega, by omega, by omega, gg1, h.out.putHead hp⟩
    kernel_rfl
  · intro p a v hJ
    refine op_step (o := _) rfl (fun K hK => ?_)
    obtain ⟨y3, y4, y5, y6, y7, y8, z1, ha, gg1, h⟩ := fsJ6_2 hJ
    have h := Lib.hid h
    clear hJ
    subst ha
    go_simp
    refine (d8.out _ _ (h.out.own.nth 0 rfl)).mono ?_
    rintro rr w5 ⟨rfl, hp⟩
    try go_wp2_with fail
    refine hK.out _ _ ⟨_, _, _, y4, y5, y6, y7, y8, z1, ?_, fun _ => rfl, fun _ => rfl, fun _ => rfl, by omega, by omega, by omega, by omega, by omega, gg1, h.out.putHead hp⟩
    kernel_rfl
  · intro p a v hJ
    refine op_step (o := _) rfl (fun K hK => ?_)
    obtain ⟨y4, y5, y6, y7, y8, z1, ha, gg1, h⟩ := fsJ6_3 hJ
    have h := Lib.hid h
    clear hJ
    subst ha
    go_simp
    refine (d9.out _ _ (h.out.own.nth 0 rfl)).mono ?_
    rintro rr w5 ⟨rfl, hp⟩
    try go_wp2_with fail
    refine hK.out _ _ ⟨_, _, _, _, y5, y6, y7, y8, z1, ?_, fun _ => rfl, fun _ => rfl, fun _ => rfl, fun _ => rfl, by omega, by omega, by omega, by omega, gg1, h.out.putHead hp⟩
    kernel_rfl
  · intro p a v hJ
    refine op_step (o := _) rfl (fun K hK => ?_)
    obtain ⟨y5, y6, y7, y8, z1, ha, gg1, h⟩ := fsJ6_4 hJ
    have h := Lib.hid h
    clear hJ
    subst ha
    go_simp
    refine (d10.out _ _ (h.out.own.nth 0 rfl)).mono ?_
    rintro rr w5 ⟨rfl, hp⟩
    try go_wp2_with fail
    refine hK.out _ _ ⟨_, _, _, _, _, y6, y7, y8, z1, ?_, fun _ => rfl, fun _ => rfl, fun _ => rfl, fun _ => rfl, fun _ => rfl, by omega, by omega, by omega, gg1, h.out.putHead hp⟩
    kernel_rfl
  · intro p a v hJ
    refine op_step (o := _) rfl (fun K hK => ?_)
    obtain ⟨y6, y7, y8, z1, ha, gg1, h⟩ := fsJ6_5 hJ
    have h := Lib.hid h
    clear hJ
    subst ha
    go_simp
    refine (d11.out _ _ (h.out.own.nth 0 rfl)).mono ?_
    rintro rr w5 ⟨rfl, hp⟩
    try go_wp2_with fail
    refine hK.out _ _ ⟨_, _, _, _, _, _, y7, y8, z1, ?_, fun _ => rfl, fun _ => rfl, fun _ => rfl, fun _ => rfl, fun _ => rfl, fun _ => rfl, by omega, by omega, gg1, h.out.putHead hp⟩
    kernel_rfl
  · intro p a v hJ
    refine op_step (o := _) rfl (fun K hK => ?_)
    obtain ⟨y7, y8, z1, ha, gg1, h⟩ := fsJ6_6 hJ
    have h := Lib.hid h
    clear hJ
    subst ha
    go_simp
    refine (d12.out _ _ (h.out.own.nth 0 rfl)).mono ?_
    rintro rr w5 ⟨rfl, hp⟩
    try go_wp2_with fail
    refine hK.out _ _ ⟨_, _, _, _, _, _, _, y8, z1, ?_, fun _ => rfl, fun _ => rfl, fun _ => rfl, fun _ => rfl, fun _ => rfl, fun _ => rfl, fun _ => rfl, by omega, gg1, h.out.putHead hp⟩
    kernel_rfl
  · intro p a v hJ
    refine op_step (o := _) rfl (fun K hK => ?_)
    obtain ⟨y8, z1, ha, gg1, h⟩ := fsJ6_7 hJ
    have h := Lib.hid h
    clear hJ
    subst ha
    go_simp
    refine (d13.out _ _ (h.out.own.nth 0 rfl)).mono ?_
    rintro rr w5 ⟨rfl, hp⟩
    try go_wp2_with fail
    refine hK.out _ _ ⟨_, _, _, _, _, _, _, _, z1, ?_, fun _ => rfl, fun _ => rfl, fun _ => rfl, fun _ => rfl, fun _ => rfl, fun _ => rfl, fun _ => rfl, fun _ => rfl, gg1, h.out.putHead hp⟩
    kernel_rfl
  · intro k p a v hp hJ
    refine op_step (o := _) rfl (fun K hK => ?_)
    obtain ⟨y1, y2, y3, y4, y5, y6, y7, y8, z1, ha, ee1, ee2, ee3, ee4, ee5, ee6, ee7, ee8, gg1, h⟩ := hJ
    have h := Lib.hid h
    subst ha
    go_simp
    refine hK.out _ _ ⟨v.heap.size, y1, y2, y3, y4, y5, y6, y7, y8, .pointer (some ⟨v.heap.size, 0, none⟩), ?_, ee1, ee2, ee3, ee4, ee5, ee6, ee7, ee8, fun q hq => ptr_set hq, h.out.alloc hp rfl _⟩
    kernel_rfl
  intro p6_1 a v hJ
  obtain ⟨rfl, h⟩ := fsJ6_fin hJ
  clear hJ
  replace M := Lib.hid h.fin1
  clear h
  refine tails_one (T := []) (i := 19) (o := _) rfl (by kernel_rfl) (fun K hK => ?_)
  have kc := (M.out.nth 0 rfl).2.1
  have kf := (M.out.nth 0 rfl).2.2
  replace M : Hid (Own w [(p6_1, #[.float .f64 sl, .float .f64 sh]), ((w5_.heap.size + 1), #[.int .i64 0]), (w5_.heap.size, #[.float .f64 fl, .float .f64 fh]), ((w4_.heap.size + 1), #[.float .f64 pn, .float .f64 pn]), (w4_.heap.size, #[.float .f64 pc, .float .f64 pc])] _) := Lib.hid (M.out.set2 0 rfl (.float .f64 sl) (.float .f64 sh))
  go_simp
  refine hK.out _ _ (Or.inr ⟨(M.out.nth 4 rfl).two, (M.out.nth 3 rfl).two⟩) (fun hHeld => ?_)
  clear hK K hHeld kc kf
  refine tails_done (by kernel_rfl) ?_ _
  refine NoPanic.normal ?_
  clear hS
  replace M : Hid (Own w [((w5_.heap.size + 1), #[.int .i64 0]), (p6_1, #[.float .f64 sl, .float .f64 sh]), (w5_.heap.size, #[.float .f64 fl, .float .f64 fh]), ((w4_.heap.size + 1), #[.float .f64 pn, .float .f64 pn]), (w4_.heap.size, #[.float .f64 pc, .float .f64 pc])] _) := Lib.hid M.out.front
  revert M
  generalize ((v.setCell ⟨p6_1, 0, none⟩ (.float .f64 sl)).setCell ⟨p6_1, 1, none⟩ (.float .f64 sh)) = W6_
  intro M
  go_upto_region 7 with fail
  replace M := Lib.hid M.out.drew
  refine wp_region_noPanic ?_
  refine tails_region (S := fun w' => (w'.cell? ⟨w4_.heap.size, 0, none⟩ = some (.float .f64 pc) ∧ w'.cell? ⟨w4_.heap.size, 1, none⟩ = some (.float .f64 pc)) ∧ (w'.cell? ⟨(w4_.heap.size + 1), 0, none⟩ = some (.float .f64 pn) ∧ w'.cell? ⟨(w4_.heap.size + 1), 1, none⟩ = some (.float .f64 pn)) ∧ (w'.cell? ⟨p6_1, 0, none⟩ = some (.float .f64 sl) ∧ w'.cell? ⟨p6_1, 1, none⟩ = some (.float .f64 sh))) [] (by kernel_rfl) ?_ (fun hS => ?_)
  · exact ⟨(M.out.nth 4 rfl).two, (M.out.nth 3 rfl).two, (M.out.nth 1 rfl).two⟩
  refine tk (x := ?_) 0 rfl (by kernel_rfl) ⟨by rfl, ?_⟩ (fun _ _ _ h => h) hS ?_
  rotate_left; focus (intro w hSw; (try dsimp only at hSw); go_simp; try with_reducible rfl)
  refine tk (x := ?_) 1 rfl (by kernel_rfl) ⟨by rfl, ?_⟩ (fun _ _ _ h => h) hS ?_
  rotate_left; focus (intro w hSw; (try dsimp only at hSw); go_simp; try with_reducible rfl)
  refine tk (x := ?_) 2 rfl (by kernel_rfl) ⟨by rfl, ?_⟩ (fun _ _ _ h => h) hS ?_
  rotate_left; focus (intro w hSw; (try dsimp only at hSw); go_simp; try with_reducible rfl)
  refine tk (x := ?_) 3 rfl (by kernel_rfl) ⟨by rfl, ?_⟩ (fun _ _ _ h => h) hS ?_
  rotate_left; focus (intro w hSw; (try dsimp only at hSw); go_simp; try with_reducible rfl)
  refine tk (x := ?_) 4 rfl (by kernel_rfl) ⟨by rfl, ?_⟩ (fun _ _ _ h => h) hS ?_
  rotate_left; focus (intro w hSw; (try dsimp only at hSw); go_simp; try with_reducible rfl)
  refine tk (x := ?_) 5 rfl (by kernel_rfl) ⟨by rfl, ?_⟩ (fun _ _ _ h => h) hS ?_
  rotate_left; focus (intro w hSw; (try dsimp only at hSw); go_simp; try with_reducible rfl)
  refine tk (x := ?_) 6 rfl (by kernel_rfl) ⟨by rfl, ?_⟩ (fun _ _ _ h => h) hS ?_
  rotate_left; focus (intro w hSw; (try dsimp only at hSw); go_simp; try with_reducible rfl)
  refine tk (x := ?_) 9 rfl (by kernel_rfl) ⟨by rfl, ?_⟩ (fun _ _ _ h => h) hS ?_
  rotate_left; focus (intro w hSw; (try dsimp only at hSw); go_simp; try with_reducible rfl)
  refine tk (x := ?_) 10 rfl (by kernel_rfl) ⟨by rfl, ?_⟩ (fun _ _ _ h => h) hS ?_
  rotate_left; focus (intro w hSw; (try dsimp only at hSw); go_simp; try with_reducible rfl)
  refine tk (x := ?_) 11 rfl (by kernel_rfl) ⟨by rfl, ?_⟩ (fun _ _ _ h => h) hS ?_
  rotate_left; focus (intro w hSw; (try dsimp only at hSw); go_simp; try with_reducible rfl)
  refine tk (x := ?_) 12 rfl (by kernel_rfl) ⟨by rfl, ?_⟩ (fun _ _ _ h => h) hS ?_
  rotate_left; focus (intro w hSw; (try dsimp only at hSw); go_simp; try with_reducible rfl)
  refine tk (x := ?_) 13 rfl (by kernel_rfl) ⟨by rfl, ?_⟩ (fun _ _ _ h => h) hS ?_
  rotate_left; focus (intro w hSw; (try dsimp only at hSw); go_simp; try with_reducible rfl)
  conv => arg 9; simp only [Act.put, go_sem]
  refine lpx_cccccc_1 M 7 8 14 15 16 17 18 [80, 81, 87, 88, 89, 90, 11] 1 (fsJ7 w (w5_.heap.size + 1) jl jh kl kh ll lh ml mh ol oh) (by kernel_rfl) (by kernel_rfl) ?_ ?_ ?_ ?_ ?_ ?_ ?_ ?_ ?_ ?_
  · intro A hA
    obtain ⟨y1, hq1⟩ := put_ex (hA 80 (by simp))
    obtain ⟨y2, hq2⟩ := put_ex (hA 81 (by simp))
    obtain ⟨y3, hq3⟩ := put_ex (hA 87 (by simp))
    obtain ⟨y4, hq4⟩ := put_ex (hA 88 (by simp))
    obtain ⟨y5, hq5⟩ := put_ex (hA 89 (by simp))
    obtain ⟨y6, hq6⟩ := put_ex (hA 90 (by simp))
    obtain ⟨z1, hq7⟩ := put_ex (hA 11 (by simp))
    exact ⟨y1, y2, y3, y4, y5, y6, z1, by rw [hq1, hq2, hq3, hq4, hq5, hq6, hq7], by omega, by omega, by omega, by omega, by omega, by omega, by simp, OwnF.start M.out 1⟩
  · rintro k p a v ⟨y1, y2, y3, y4, y5, y6, z1, _, _, _, _, _, _, _, _, h⟩
    exact ⟨(h.own.nth 4 rfl).two, (h.own.nth 3 rfl).two, (h.own.nth 1 rfl).two⟩
  · intro p a v hJ
    refine op_step (o := _) rfl (fun K hK => ?_)
    obtain ⟨y1, y2, y3, y4, y5, y6, z1, ha, gg1, h⟩ := fsJ7_0 hJ
    have h := Lib.hid h
    clear hJ
    subst ha
    go_simp
    refine (d14.out _ _ (h.out.own.nth 0 rfl)).mono ?_
    rintro rr w5 ⟨rfl, hp⟩
    try go_wp2_with fail
    refine hK.out _ _ ⟨_, y2, y3, y4, y5, y6, z1, ?_, fun _ => rfl, by omega, by omega, by omega, by omega, by omega, gg1, h.out.putHead hp⟩
    kernel_rfl
  · intro p a v hJ
    refine op_step (o := _) rfl (fun K hK => ?_)
    obtain ⟨y2, y3, y4, y5, y6, z1, ha, gg1, h⟩ := fsJ7_1 hJ
    have h := Lib.hid h
    clear hJ
    subst ha
    go_simp
    refine (d15.out _ _ (h.out.own.nth 0 rfl)).mono ?_
    rintro rr w5 ⟨rfl, hp⟩
    try go_wp2_with fail
    refine hK.out _ _ ⟨_, _, y3, y4, y5, y6, z1, ?_, fun _ => rfl, fun _ => rfl, by omega, by omega, by omega, by omega, gg1, h.out.putHead hp⟩
    kernel_rfl
  · intro p a v hJ
    refine op_step (o := _) rfl (fun K hK => ?_)
    obtain ⟨y3, y4, y5, y6, z1, ha, gg1, h⟩ := fsJ7_2 hJ
    have h := Lib.hid h
    clear hJ
    subst ha
    go_simp
    refine (d14.out _ _ (h.out.own.nth 0 rfl)).mono ?_
    rintro rr w5 ⟨rfl, hp⟩
    try go_wp2_with fail
    refine hK.out _ _ ⟨_, _, _, y4, y5, y6, z1, ?_, fun _ => rfl, fun _ => rfl, fun _ => rfl, by omega, by omega, by omega, gg1, h.out.putHead hp⟩
    kernel_rfl
  · intro p a v hJ
    refine op_step (o := _) rfl (fun K hK => ?_)
    obtain ⟨y4, y5, y6, z1, ha, gg1, h⟩ := fsJ7_3 hJ
    have h := Lib.hid h
    clear hJ
    subst ha
    go_simp
    refine (d17.out _ _ (h.out.own.nth 0 rfl)).mono ?_
    rintro rr w5 ⟨rfl, hp⟩
    try go_wp2_with fail
    refine hK.out _ _ ⟨_, _, _, _, y5, y6, z1, ?_, fun _ => rfl, fun _ => rfl, fun _ => rfl, fun _ => rfl, by omega, by omega, gg1, h.out.putHead hp⟩
    kernel_rfl
  · intro p a v hJ
    refine op_step (o := _) rfl (fun K hK => ?_)
    obtain ⟨y5, y6, z1, ha, gg1, h⟩ := fsJ7_4 hJ
    have h := Lib.hid h
    clear hJ
    subst ha
    go_simp
    refine (d18.out _ _ (h.out.own.nth 0 rfl)).mono ?_
    rintro rr w5 ⟨rfl, hp⟩
    try go_wp2_with fail
    refine hK.out _ _ ⟨_, _, _, _, _, y6, z1, ?_, fun _ => rfl, fun _ => rfl, fun _ => rfl, fun _ => rfl, fun _ => rfl, by omega, gg1, h.out.putHead hp⟩
    kernel_rfl
  · intro p a v hJ
    refine op_step (o := _) rfl (fun K hK => ?_)
    obtain ⟨y6, z1, ha, gg1, h⟩ := fsJ7_5 hJ
    have h := Lib.hid h
    clear hJ
    subst ha
    go_simp
    refine (d19.out _ _ (h.out.own.nth 0 rfl)).mono ?_
    rintro rr w5 ⟨rfl, hp⟩
    try go_wp2_with fail
    refine hK.out _ _ ⟨_, _, _, _, _, _, z1, ?_, fun _ => rfl, fun _ => rfl, fun _ => rfl, fun _ => rfl, fun _ => rfl, fun _ => rfl, gg1, h.out.putHead hp⟩
    kernel_rfl
  · intro k p a v hp hJ
    refine op_step (o := _) rfl (fun K hK => ?_)
    obtain ⟨y1, y2, y3, y4, y5, y6, z1, ha, ee1, ee2, ee3, ee4, ee5, ee6, gg1, h⟩ := hJ
    have h := Lib.hid h
    subst ha
    go_simp
    refine hK.out _ _ ⟨v.heap.size, y1, y2, y3, y4, y5, y6, .pointer (some ⟨v.heap.size, 0, none⟩), ?_, ee1, ee2, ee3, ee4, ee5, ee6, fun q hq => ptr_set hq, h.out.alloc hp rfl _⟩
    kernel_rfl
  intro p7_1 a v hJ
  obtain ⟨rfl, h⟩ := fsJ7_fin hJ
  clear hJ
  replace M := Lib.hid h.fin1
  clear h
  refine tails_one (T := []) (i := 19) (o := _) rfl (by kernel_rfl) (fun K hK => ?_)
  have kc := (M.out.nth 0 rfl).2.1
  have kf := (M.out.nth 0 rfl).2.2
  replace M : Hid (Own w [(p7_1, #[.float .f64 ol, .float .f64 oh]), ((w5_.heap.size + 1), #[.int .i64 0]), (p6_1, #[.float .f64 sl, .float .f64 sh]), (w5_.heap.size, #[.float .f64 fl, .float .f64 fh]), ((w4_.heap.size + 1), #[.float .f64 pn, .float .f64 pn]), (w4_.heap.size, #[.float .f64 pc, .float .f64 pc])] _) := Lib.hid (M.out.set2 0 rfl (.float .f64 ol) (.float .f64 oh))
  go_simp
  refine hK.out _ _ (Or.inr ⟨(M.out.nth 5 rfl).two, (M.out.nth 4 rfl).two, (M.out.nth 2 rfl).two⟩) (fun hHeld => ?_)
  clear hK K hHeld kc kf
  refine tails_done (by kernel_rfl) ?_ _
  refine NoPanic.normal ?_
  clear hS
  replace M : Hid (Own w [((w5_.heap.size + 1), #[.int .i64 0]), (p7_1, #[.float .f64 ol, .float .f64 oh]), (p6_1, #[.float .f64 sl, .float .f64 sh]), (w5_.heap.size, #[.float .f64 fl, .float .f64 fh]), ((w4_.heap.size + 1), #[.float .f64 pn, .float .f64 pn]), (w4_.heap.size, #[.float .f64 pc, .float .f64 pc])] _) := Lib.hid M.out.front
  revert M
  generalize ((v.setCell ⟨p7_1, 0, none⟩ (.float .f64 ol)).setCell ⟨p7_1, 1, none⟩ (.float .f64 oh)) = W7_
  intro M
  go_upto_region 8 with fail
  replace M := Lib.hid M.out.drew
  refine wp_region_noPanic ?_
  refine tails_region (S := fun w' => (w'.cell? ⟨(w4_.heap.size + 1), 0, none⟩ = some (.float .f64 pn) ∧ w'.cell? ⟨(w4_.heap.size + 1), 1, none⟩ = some (.float .f64 pn)) ∧ (w'.cell? ⟨w4_.heap.size, 0, none⟩ = some (.float .f64 pc) ∧ w'.cell? ⟨w4_.heap.size, 1, none⟩ = some (.float .f64 pc)) ∧ (w'.cell? ⟨p6_1, 0, none⟩ = some (.float .f64 sl) ∧ w'.cell? ⟨p6_1, 1, none⟩ = some (.float .f64 sh))) [] (by kernel_rfl) ?_ (fun hS => ?_)
  · exact ⟨(M.out.nth 4 rfl).two, (M.out.nth 5 rfl).two, (M.out.nth 2 rfl).two⟩
  refine tk (x := ?_) 0 rfl (by kernel_rfl) ⟨by rfl, ?_⟩ (fun _ _ _ h => h) hS ?_
  rotate_left; focus (intro w hSw; (try dsimp only at hSw); go_simp; try with_reducible rfl)
  refine tk (x := ?_) 1 rfl (by kernel_rfl) ⟨by rfl, ?_⟩ (fun _ _ _ h => h) hS ?_
  rotate_left; focus (intro w hSw; (try dsimp only at hSw); go_simp; try with_reducible rfl)
  refine tk (x := ?_) 2 rfl (by kernel_rfl) ⟨by rfl, ?_⟩ (fun _ _ _ h => h) hS ?_
  rotate_left; focus (intro w hSw; (try dsimp only at hSw); go_simp; try with_reducible rfl)
  refine tk (x := ?_) 3 rfl (by kernel_rfl) ⟨by rfl, ?_⟩ (fun _ _ _ h => h) hS ?_
  rotate_left; focus (intro w hSw; (try dsimp only at hSw); go_simp; try with_reducible rfl)
  refine tk (x := ?_) 4 rfl (by kernel_rfl) ⟨by rfl, ?_⟩ (fun _ _ _ h => h) hS ?_
  rotate_left; focus (intro w hSw; (try dsimp only at hSw); go_simp; try with_reducible rfl)
  refine tk (x := ?_) 5 rfl (by kernel_rfl) ⟨by rfl, ?_⟩ (fun _ _ _ h => h) hS ?_
  rotate_left; focus (intro w hSw; (try dsimp only at hSw); go_simp; try with_reducible rfl)
  refine tk (x := ?_) 7 rfl (by kernel_rfl) ⟨by rfl, ?_⟩ (fun _ _ _ h => h) hS ?_
  rotate_left; focus (intro w hSw; (try dsimp only at hSw); go_simp; try with_reducible rfl)
  refine tk (x := ?_) 9 rfl (by kernel_rfl) ⟨by rfl, ?_⟩ (fun _ _ _ h => h) hS ?_
  rotate_left; focus (intro w hSw; (try dsimp only at hSw); go_simp; try with_reducible rfl)
  refine tk (x := ?_) 10 rfl (by kernel_rfl) ⟨by rfl, ?_⟩ (fun _ _ _ h => h) hS ?_
  rotate_left; focus (intro w hSw; (try dsimp only at hSw); go_simp; try with_reducible rfl)
  refine tk (x := ?_) 11 rfl (by kernel_rfl) ⟨by rfl, ?_⟩ (fun _ _ _ h => h) hS ?_
  rotate_left; focus (intro w hSw; (try dsimp only at hSw); go_simp; try with_reducible rfl)
  refine tk (x := ?_) 12 rfl (by kernel_rfl) ⟨by rfl, ?_⟩ (fun _ _ _ h => h) hS ?_
  rotate_left; focus (intro w hSw; (try dsimp only at hSw); go_simp; try with_reducible rfl)
  refine tk (x := ?_) 14 rfl (by kernel_rfl) ⟨by rfl, ?_⟩ (fun _ _ _ h => h) hS ?_
  rotate_left; focus (intro w hSw; (try dsimp only at hSw); go_simp; try with_reducible rfl)
  conv => arg 9; simp only [Act.put, go_sem]
  refine lpx_cccccc_1 M 6 8 13 15 16 17 18 [97, 99, 104, 106, 107, 108, 12] 1 (fsJ8 w (w5_.heap.size + 1) ql qh rl rh tl th ul uh vl vh) (by kernel_rfl) (by kernel_rfl) ?_ ?_ ?_ ?_ ?_ ?_ ?_ ?_ ?_ ?_
  · intro A hA
    obtain ⟨y1, hq1⟩ := put_ex (hA 97 (by simp))
    obtain ⟨y2, hq2⟩ := put_ex (hA 99 (by simp))
    obtain ⟨y3, hq3⟩ := put_ex (hA 104 (by simp))
    obtain ⟨y4, hq4⟩ := put_ex (hA 106 (by simp))
    obtain ⟨y5, hq5⟩ := put_ex (hA 107 (by simp))
    obtain ⟨y6, hq6⟩ := put_ex (hA 108 (by simp))
    obtain ⟨z1, hq7⟩ := put_ex (hA 12 (by simp))
    exact ⟨y1, y2, y3, y4, y5, y6, z1, by rw [hq1, hq2, hq3, hq4, hq5, hq6, hq7], by omega, by omega, by omega, by omega, by omega, by omega, by simp, OwnF.start M.out 1⟩
  · rintro k p a v ⟨y1, y2, y3, y4, y5, y6, z1, _, _, _, _, _, _, _, _, h⟩
    exact ⟨(h.own.nth 4 rfl).two, (h.own.nth 5 rfl).two, (h.own.nth 2 rfl).two⟩
  · intro p a v hJ
    refine op_step (o := _) rfl (fun K hK => ?_)
    obtain ⟨y1, y2, y3, y4, y5, y6, z1, ha, gg1, h⟩ := fsJ8_0 hJ
    have h := Lib.hid h
    clear hJ
    subst ha
    go_simp
    refine (d20.out _ _ (h.out.own.nth 0 rfl)).mono ?_
    rintro rr w5 ⟨rfl, hp⟩
    try go_wp2_with fail
    refine hK.out _ _ ⟨_, y2, y3, y4, y5, y6, z1, ?_, fun _ => rfl, by omega, by omega, by omega, by omega, by omega, gg1, h.out.putHead hp⟩
    kernel_rfl
  · intro p a v hJ
    refine op_step (o := _) rfl (fun K hK => ?_)
    obtain ⟨y2, y3, y4, y5, y6, z1, ha, gg1, h⟩ := fsJ8_1 hJ
    have h := Lib.hid h
    clear hJ
    subst ha
    go_simp
    refine (d21.out _ _ (h.out.own.nth 0 rfl)).mono ?_
    rintro rr w5 ⟨rfl, hp⟩
    try go_wp2_with fail
    refine hK.out _ _ ⟨_, _, y3, y4, y5, y6, z1, ?_, fun _ => rfl, fun _ => rfl, by omega, by omega, by omega, by omega, gg1, h.out.putHead hp⟩
    kernel_rfl
  · intro p a v hJ
    refine op_step (o := _) rfl (fun K hK => ?_)
    obtain ⟨y3, y4, y5, y6, z1, ha, gg1, h⟩ := fsJ8_2 hJ
    have h := Lib.hid h
    clear hJ
    subst ha
    go_simp
    refine (d20.out _ _ (h.out.own.nth 0 rfl)).mono ?_
    rintro rr w5 ⟨rfl, hp⟩
    try go_wp2_with fail
    refine hK.out _ _ ⟨_, _, _, y4, y5, y6, z1, ?_, fun _ => rfl, fun _ => rfl, fun _ => rfl, by omega, by omega, by omega, gg1, h.out.putHead hp⟩
    kernel_rfl
  · intro p a v hJ
    refine op_step (o := _) rfl (fun K hK => ?_)
    obtain ⟨y4, y5, y6, z1, ha, gg1, h⟩ := fsJ8_3 hJ
    have h := Lib.hid h
    clear hJ
    subst ha
    go_simp
    refine (d23.out _ _ (h.out.own.nth 0 rfl)).mono ?_
    rintro rr w5 ⟨rfl, hp⟩
    try go_wp2_with fail
    refine hK.out _ _ ⟨_, _, _, _, y5, y6, z1, ?_, fun _ => rfl, fun _ => rfl, fun _ => rfl, fun _ => rfl, by omega, by omega, gg1, h.out.putHead hp⟩
    kernel_rfl
  · intro p a v hJ
    refine op_step (o := _) rfl (fun K hK => ?_)
    obtain ⟨y5, y6, z1, ha, gg1, h⟩ := fsJ8_4 hJ
    have h := Lib.hid h
    clear hJ
    subst ha
    go_simp
    refine (d24.out _ _ (h.out.own.nth 0 rfl)).mono ?_
    rintro rr w5 ⟨rfl, hp⟩
    try go_wp2_with fail
    refine hK.out _ _ ⟨_, _, _, _, _, y6, z1, ?_, fun _ => rfl, fun _ => rfl, fun _ => rfl, fun _ => rfl, fun _ => rfl, by omega, gg1, h.out.putHead hp⟩
    kernel_rfl
  · intro p a v hJ
    refine op_step (o := _) rfl (fun K hK => ?_)
    obtain ⟨y6, z1, ha, gg1, h⟩ := fsJ8_5 hJ
    have h := Lib.hid h
    clear hJ
    subst ha
    go_simp
    refine (d25.out _ _ (h.out.own.nth 0 rfl)).mono ?_
    rintro rr w5 ⟨rfl, hp⟩
    try go_wp2_with fail
    refine hK.out _ _ ⟨_, _, _, _, _, _, z1, ?_, fun _ => rfl, fun _ => rfl, fun _ => rfl, fun _ => rfl, fun _ => rfl, fun _ => rfl, gg1, h.out.putHead hp⟩
    kernel_rfl
  · intro k p a v hp hJ
    refine op_step (o := _) rfl (fun K hK => ?_)
    obtain ⟨y1, y2, y3, y4, y5, y6, z1, ha, ee1, ee2, ee3, ee4, ee5, ee6, gg1, h⟩ := hJ
    have h := Lib.hid h
    subst ha
    go_simp
    refine hK.out _ _ ⟨v.heap.size, y1, y2, y3, y4, y5, y6, .pointer (some ⟨v.heap.size, 0, none⟩), ?_, ee1, ee2, ee3, ee4, ee5, ee6, fun q hq => ptr_set hq, h.out.alloc hp rfl _⟩
    kernel_rfl
  intro p8_1 a v hJ
  obtain ⟨rfl, h⟩ := fsJ8_fin hJ
  clear hJ
  replace M := Lib.hid h.fin1
  clear h
  refine tails_one (T := []) (i := 19) (o := _) rfl (by kernel_rfl) (fun K hK => ?_)
  have kc := (M.out.nth 0 rfl).2.1
  have kf := (M.out.nth 0 rfl).2.2
  replace M : Hid (Own w [(p8_1, #[.float .f64 vl, .float .f64 vh]), ((w5_.heap.size + 1), #[.int .i64 0]), (p7_1, #[.float .f64 ol, .float .f64 oh]), (p6_1, #[.float .f64 sl, .float .f64 sh]), (w5_.heap.size, #[.float .f64 fl, .float .f64 fh]), ((w4_.heap.size + 1), #[.float .f64 pn, .float .f64 pn]), (w4_.heap.size, #[.float .f64 pc, .float .f64 pc])] _) := Lib.hid (M.out.set2 0 rfl (.float .f64 vl) (.float .f64 vh))
  go_simp
  refine hK.out _ _ (Or.inr ⟨(M.out.nth 5 rfl).two, (M.out.nth 6 rfl).two, (M.out.nth 3 rfl).two⟩) (fun hHeld => ?_)
  clear hK K hHeld kc kf
  refine tails_done (by kernel_rfl) ?_ _
  refine NoPanic.normal ?_
  clear hS
  replace M : Hid (Own w [((w5_.heap.size + 1), #[.int .i64 0]), (p8_1, #[.float .f64 vl, .float .f64 vh]), (p7_1, #[.float .f64 ol, .float .f64 oh]), (p6_1, #[.float .f64 sl, .float .f64 sh]), (w5_.heap.size, #[.float .f64 fl, .float .f64 fh]), ((w4_.heap.size + 1), #[.float .f64 pn, .float .f64 pn]), (w4_.heap.size, #[.float .f64 pc, .float .f64 pc])] _) := Lib.hid M.out.front
  revert M
  generalize ((v.setCell ⟨p8_1, 0, none⟩ (.float .f64 vl)).setCell ⟨p8_1, 1, none⟩ (.float .f64 vh)) = W8_
  intro M
  go_upto_region 9 with fail
  replace M := Lib.hid M.out.drew
  refine wp_region_noPanic ?_
  refine tails_region (S := fun w' => (w'.cell? ⟨p7_1, 0, none⟩ = some (.float .f64 ol) ∧ w'.cell? ⟨p7_1, 1, none⟩ = some (.float .f64 oh)) ∧ (w'.cell? ⟨p8_1, 0, none⟩ = some (.float .f64 vl) ∧ w'.cell? ⟨p8_1, 1, none⟩ = some (.float .f64 vh))) [] (by kernel_rfl) ?_ (fun hS => ?_)
  · exact ⟨(M.out.nth 2 rfl).two, (M.out.nth 1 rfl).two⟩
  refine tk (x := ?_) 0 rfl (by kernel_rfl) ⟨by rfl, ?_⟩ (fun _ _ _ h => h) hS ?_
  rotate_left; focus (intro w hSw; (try dsimp only at hSw); go_simp; try with_reducible rfl)
  refine tk (x := ?_) 1 rfl (by kernel_rfl) ⟨by rfl, ?_⟩ (fun _ _ _ h => h) hS ?_
  rotate_left; focus (intro w hSw; (try dsimp only at hSw); go_simp; try with_reducible rfl)
  refine tk (x := ?_) 3 rfl (by kernel_rfl) ⟨by rfl, ?_⟩ (fun _ _ _ h => h) hS ?_
  rotate_left; focus (intro w hSw; (try dsimp only at hSw); go_simp; try with_reducible rfl)
  refine tk (x := ?_) 4 rfl (by kernel_rfl) ⟨by rfl, ?_⟩ (fun _ _ _ h => h) hS ?_
  rotate_left; focus (intro w hSw; (try dsimp only at hSw); go_simp; try with_reducible rfl)
  refine tk (x := ?_) 5 rfl (by kernel_rfl) ⟨by rfl, ?_⟩ (fun _ _ _ h => h) hS ?_
  rotate_left; focus (intro w hSw; (try dsimp only at hSw); go_simp; try with_reducible rfl)
  conv => arg 9; simp only [Act.put, go_sem]
  refine lpx_ccc_1 M 2 6 7 8 [111, 115, 116, 13] 1 (fsJ9 w (w5_.heap.size + 1) xl xh yl yh) (by kernel_rfl) (by kernel_rfl) ?_ ?_ ?_ ?_ ?_ ?_ ?_
  · intro A hA
    obtain ⟨y1, hq1⟩ := put_ex (hA 111 (by simp))
    obtain ⟨y2, hq2⟩ := put_ex (hA 115 (by simp))
    obtain ⟨y3, hq3⟩ := put_ex (hA 116 (by simp))
    obtain ⟨z1, hq4⟩ := put_ex (hA 13 (by simp))
    exact ⟨y1, y2, y3, z1, by rw [hq1, hq2, hq3, hq4], by omega, by omega, by omega, by simp, OwnF.start M.out 1⟩
  · rintro k p a v ⟨y1, y2, y3, z1, _, _, _, _, _, h⟩
    exact ⟨(h.own.nth 2 rfl).two, (h.own.nth 1 rfl).two⟩
  · intro p a v hJ
    refine op_step (o := _) rfl (fun K hK => ?_)
    obtain ⟨y1, y2, y3, z1, ha, gg1, h⟩ := fsJ9_0 hJ
    have h := Lib.hid h
    clear hJ
    subst ha
    go_simp
    refine (d26.out _ _ (h.out.own.nth 0 rfl)).mono ?_
    rintro rr w5 ⟨rfl, hp⟩
    try go_wp2_with fail
    refine hK.out _ _ ⟨_, y2, y3, z1, ?_, fun _ => rfl, by omega, by omega, gg1, h.out.putHead hp⟩
    kernel_rfl
  · intro p a v hJ
    refine op_step (o := _) rfl (fun K hK => ?_)
    obtain ⟨y2, y3, z1, ha, gg1, h⟩ := fsJ9_1 hJ
    have h := Lib.hid h
    clear hJ
    subst ha
    go_simp
    refine (d27.out _ _ (h.out.own.nth 0 rfl)).mono ?_
    rintro rr w5 ⟨rfl, hp⟩
    try go_wp2_with fail
    refine hK.out _ _ ⟨_, _, y3, z1, ?_, fun _ => rfl, fun _ => rfl, by omega, gg1, h.out.putHead hp⟩
    kernel_rfl
  · intro p a v hJ
    refine op_step (o := _) rfl (fun K hK => ?_)
    obtain ⟨y3, z1, ha, gg1, h⟩ := fsJ9_2 hJ
    have h := Lib.hid h
    clear hJ
    subst ha
    go_simp
    refine (d28.out _ _ (h.out.own.nth 0 rfl)).mono ?_
    rintro rr w5 ⟨rfl, hp⟩
    try go_wp2_with fail
    refine hK.out _ _ ⟨_, _, _, z1, ?_, fun _ => rfl, fun _ => rfl, fun _ => rfl, gg1, h.out.putHead hp⟩
    kernel_rfl
  · intro k p a v hp hJ
    refine op_step (o := _) rfl (fun K hK => ?_)
    obtain ⟨y1, y2, y3, z1, ha, ee1, ee2, ee3, gg1, h⟩ := hJ
    have h := Lib.hid h
    subst ha
    go_simp
    refine hK.out _ _ ⟨v.heap.size, y1, y2, y3, .pointer (some ⟨v.heap.size, 0, none⟩), ?_, ee1, ee2, ee3, fun q hq => ptr_set hq, h.out.alloc hp rfl _⟩
    kernel_rfl
  intro p9_1 a v hJ
  obtain ⟨rfl, h⟩ := fsJ9_fin hJ
  clear hJ
  replace M := Lib.hid h.fin1
  clear h
  refine tails_one (T := []) (i := 9) (o := _) rfl (by kernel_rfl) (fun K hK => ?_)
  have kc := (M.out.nth 0 rfl).2.1
  have kf := (M.out.nth 0 rfl).2.2
  replace M : Hid (Own w [(p9_1, #[.float .f64 yl, .float .f64 yh]), ((w5_.heap.size + 1), #[.int .i64 0]), (p8_1, #[.float .f64 vl, .float .f64 vh]), (p7_1, #[.float .f64 ol, .float .f64 oh]), (p6_1, #[.float .f64 sl, .float .f64 sh]), (w5_.heap.size, #[.float .f64 fl, .float .f64 fh]), ((w4_.heap.size + 1), #[.float .f64 pn, .float .f64 pn]), (w4_.heap.size, #[.float .f64 pc, .float .f64 pc])] _) := Lib.hid (M.out.set2 0 rfl (.float .f64 yl) (.float .f64 yh))
  go_simp
  refine hK.out _ _ (Or.inr ⟨(M.out.nth 3 rfl).two, (M.out.nth 2 rfl).two⟩) (fun hHeld => ?_)
  clear hK K hHeld kc kf
  refine tails_done (by kernel_rfl) ?_ _
  refine NoPanic.normal ?_
  clear hS
  replace M : Hid (Own w [((w5_.heap.size + 1), #[.int .i64 0]), (p9_1, #[.float .f64 yl, .float .f64 yh]), (p8_1, #[.float .f64 vl, .float .f64 vh]), (p7_1, #[.float .f64 ol, .float .f64 oh]), (p6_1, #[.float .f64 sl, .float .f64 sh]), (w5_.heap.size, #[.float .f64 fl, .float .f64 fh]), ((w4_.heap.size + 1), #[.float .f64 pn, .float .f64 pn]), (w4_.heap.size, #[.float .f64 pc, .float .f64 pc])] _) := Lib.hid M.out.front
  revert M
  generalize ((v.setCell ⟨p9_1, 0, none⟩ (.float .f64 yl)).setCell ⟨p9_1, 1, none⟩ (.float .f64 yh)) = W9_
  intro M
  go_wp2_with fail
  refine (err_any 0 _ 0 _ (M.out.nth 0 rfl).pc).mono ?_
  rintro r w10_ ⟨rfl, rfl⟩
  obtain ⟨k1, k2⟩ := (M.out.nth 5 rfl).two
  obtain ⟨k3, k4⟩ := (M.out.nth 1 rfl).two
  go_wp2_with fail
  refine (c30.out _).mono ?_
  rintro r w11_ ⟨rfl, hb⟩
  replace M := Lib.hid (M.out.below hb)
  clear hb
  clear k1 k2 k3 k4
  go_wp2_with fail
  refine (c31.out _).mono ?_
  rintro r w12_ ⟨rfl, hb⟩
  replace M := Lib.hid (M.out.below hb)
  clear hb
  go_wp2
  go_ret
  exact ⟨rfl, M.out.base⟩

end Go.Proofs.Ytoocmocaelcbkaa
