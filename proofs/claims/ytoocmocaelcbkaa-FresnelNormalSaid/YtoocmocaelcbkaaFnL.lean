
/- FresnelNormal: the law's walk. -/
import Derived.Test.YtoocmocaelcbkaaLanP
import Derived.Test.YtoocmocaelcbkaaQFD
import Derived.Deep.RegionHeld3
namespace Go.Proofs.Ytoocmocaelcbkaa
open Go.RowKit
attribute [local go_sem] run_store_float

theorem eq_floats (x y : Nat) (w : World) : (Op.equalIn 9999 22 (.float .f64 x) (.float .f64 y)).run Try.prog w = .ok (Op.floatEq .f64 x y) w := by
  have hf := run_underlying Try.underlying22 (w := w)
  show (Op.equalIn (9998 + 1) 22 _ _).run Try.prog w = _
  rw [Op.equalIn]
  simp only [Sem.run_bind, hf, Result.andThen]
  simp [go_sem]

section
variable {P : Program} {ops : Array Oper} {Q : Exit → Act → World → Prop} {md : Region.Mode} {S : World → Prop}
theorem lp_ccppp_1 {a0 : Act} {B v : World} {l : List (Nat × Array Value)} (_ : Hid (Own B l v)) {w0 : World} {L0 : Array Bool} (c1 c2 c3 c4 c5 m1 : Nat) (slots : List Nat) (N : Nat) (J : List (Nat × Array Value) → Act → Nat → List (Option Nat) → Act → World → Prop) (hok : latOkP [false, false, true, true, true] md ops L0 [c1, c2, c3, c4, c5] [m1] = true)
    (hsl : (slots.all fun s => decide (s < a0.tmps.size)) = true) (h0 : ∀ A : Act, (∀ s, s ∈ slots → s < A.tmps.size) → J l A 0 (List.replicate 1 none) A w0)
    (hS : ∀ k p a w, J l a0 k p a w → S w)
    (k1 : ∀ p a w, J l a0 0 p a w → wpOp P ops Q c1 (fun b v => J l a0 1 p b v) a w)
    (k2 : ∀ p a w, J l a0 1 p a w → wpOp P ops Q c2 (fun b v => J l a0 2 p b v) a w)
    (k3 : ∀ p a w, J l a0 2 p a w → ∃ o x, ops[c3]? = some o ∧ YieldsIf P ops S o x a ∧ (∀ c a w, Q (.panic c) (a.put o.dst x) w → Q (.panic c) a w) ∧ J l a0 3 p (a.put o.dst x) w)
    (k4 : ∀ p a w, J l a0 3 p a w → ∃ o x, ops[c4]? = some o ∧ YieldsIf P ops S o x a ∧ (∀ c a w, Q (.panic c) (a.put o.dst x) w → Q (.panic c) a w) ∧ J l a0 4 p (a.put o.dst x) w)
    (k5 : ∀ p a w, J l a0 4 p a w → ∃ o x, ops[c5]? = some o ∧ YieldsIf P ops S o x a ∧ (∀ c a w, Q (.panic c) (a.put o.dst x) w → Q (.panic c) a w) ∧ J l a0 5 p (a.put o.dst x) w)
    (n1 : ∀ k p a w, p[0]? = some none → J l a0 k p a w → wpOp P ops Q m1 (fun b v => ∃ q, J l a0 k (p.set 0 (some q)) b v) a w)
    (fin : ∀ q1 a w, J l a0 5 [some q1] a w → wpAnyV P md ops Q S [] N (lstOf L0 [c1, c2, c3, c4, c5] [m1] 5 [true]) a w) :
    wpAnyV P md ops Q S [] (N + 6) L0 a0 w0 := by
  refine latP_from (pl := [false, false, true, true, true]) [c1, c2, c3, c4, c5] [m1] slots N 6 (J l) hok rfl hsl h0 hS (fun k i p a w hk hn hJ => ?_) (fun k i p a w hk hn hJ => ?_) (fun k m i p a w hm hp hJ => ?_) (fun p a w hp hall hJ => ?_)
  · rcases k with _ | _ | _ | _ | _ | k
    · obtain rfl : c1 = i := by simpa using hk
      exact k1 p a w hJ
    · obtain rfl : c2 = i := by simpa using hk
      exact k2 p a w hJ
    · exact absurd hn (by decide)
    · exact absurd hn (by decide)
    · exact absurd hn (by decide)
    · simp at hk
  · rcases k with _ | _ | _ | _ | _ | k
    · exact absurd hn (by decide)
    · exact absurd hn (by decide)
    · obtain rfl : c3 = i := by simpa using hk
      exact k3 p a w hJ
    · obtain rfl : c4 = i := by simpa using hk
      exact k4 p a w hJ
    · obtain rfl : c5 = i := by simpa using hk
      exact k5 p a w hJ
    · simp at hk
  · rcases m with _ | m
    · obtain rfl : m1 = i := by simpa using hm
      exact n1 k p a w hp hJ
    · simp at hm
  · obtain ⟨q1, rfl⟩ := fin_one hp hall
    exact fin q1 a w hJ
theorem lpx_cccc_1 {a0 : Act} {B v : World} {l : List (Nat × Array Value)} {x : Nat × Array Value} (_ : Hid (Own B (x :: l) v)) {w0 : World} {L0 : Array Bool} (c1 c2 c3 c4 m1 : Nat) (slots : List Nat) (N : Nat) (J : List (Nat × Array Value) → Act → Nat → List (Option Nat) → Act → World → Prop) (hok : latOkP [false, false, false, false] md ops L0 [c1, c2, c3, c4] [m1] = true)
    (hsl : (slots.all fun s => decide (s < a0.tmps.size)) = true) (h0 : ∀ A : Act, (∀ s, s ∈ slots → s < A.tmps.size) → J l A 0 (List.replicate 1 none) A w0)
    (hS : ∀ k p a w, J l a0 k p a w → S w)
    (k1 : ∀ p a w, J l a0 0 p a w → wpOp P ops Q c1 (fun b v => J l a0 1 p b v) a w)
    (k2 : ∀ p a w, J l a0 1 p a w → wpOp P ops Q c2 (fun b v => J l a0 2 p b v) a w)
    (k3 : ∀ p a w, J l a0 2 p a w → wpOp P ops Q c3 (fun b v => J l a0 3 p b v) a w)
    (k4 : ∀ p a w, J l a0 3 p a w → wpOp P ops Q c4 (fun b v => J l a0 4 p b v) a w)
    (n1 : ∀ k p a w, p[0]? = some none → J l a0 k p a w → wpOp P ops Q m1 (fun b v => ∃ q, J l a0 k (p.set 0 (some q)) b v) a w)
    (fin : ∀ q1 a w, J l a0 4 [some q1] a w → wpAnyV P md ops Q S [] N (lstOf L0 [c1, c2, c3, c4] [m1] 4 [true]) a w) :
    wpAnyV P md ops Q S [] (N + 5) L0 a0 w0 := by
  refine latP_from (pl := [false, false, false, false]) [c1, c2, c3, c4] [m1] slots N 5 (J l) hok rfl hsl h0 hS (fun k i p a w hk hn hJ => ?_) (fun k i p a w hk hn hJ => ?_) (fun k m i p a w hm hp hJ => ?_) (fun p a w hp hall hJ => ?_)
  · rcases k with _ | _ | _ | _ | k
    · obtain rfl : c1 = i := by simpa using hk
      exact k1 p a w hJ
    · obtain rfl : c2 = i := by simpa using hk
      exact k2 p a w hJ
    · obtain rfl : c3 = i := by simpa using hk
      exact k3 p a w hJ
    · obtain rfl : c4 = i := by simpa using hk
      exact k4 p a w hJ
    · simp at hk
  · rcases k with _ | _ | _ | _ | k
    · exact absurd hn (by decide)
    · exact absurd hn (by decide)
    · exact absurd hn (by decide)
    · exact absurd hn (by decide)
    · simp at hk
  · rcases m with _ | m
    · obtain rfl : m1 = i := by simpa using hm
      exact n1 k p a w hp hJ
    · simp at hm
  · obtain ⟨q1, rfl⟩ := fin_one hp hall
    exact fin q1 a w hJ
theorem lpx_ccccccc_1 {a0 : Act} {B v : World} {l : List (Nat × Array Value)} {x : Nat × Array Value} (_ : Hid (Own B (x :: l) v)) {w0 : World} {L0 : Array Bool} (c1 c2 c3 c4 c5 c6 c7 m1 : Nat) (slots : List Nat) (N : Nat) (J : List (Nat × Array Value) → Act → Nat → List (Option Nat) → Act → World → Prop) (hok : latOkP [false, false, false, false, false, false, false] md ops L0 [c1, c2, c3, c4, c5, c6, c7] [m1] = true)
    (hsl : (slots.all fun s => decide (s < a0.tmps.size)) = true) (h0 : ∀ A : Act, (∀ s, s ∈ slots → s < A.tmps.size) → J l A 0 (List.replicate 1 none) A w0)
    (hS : ∀ k p a w, J l a0 k p a w → S w)
    (k1 : ∀ p a w, J l a0 0 p a w → wpOp P ops Q c1 (fun b v => J l a0 1 p b v) a w)
    (k2 : ∀ p a w, J l a0 1 p a w → wpOp P ops Q c2 (fun b v => J l a0 2 p b v) a w)
    (k3 : ∀ p a w, J l a0 2 p a w → wpOp P ops Q c3 (fun b v => J l a0 3 p b v) a w)
    (k4 : ∀ p a w, J l a0 3 p a w → wpOp P ops Q c4 (fun b v => J l a0 4 p b v) a w)
    (k5 : ∀ p a w, J l a0 4 p a w → wpOp P ops Q c5 (fun b v => J l a0 5 p b v) a w)
    (k6 : ∀ p a w, J l a0 5 p a w → wpOp P ops Q c6 (fun b v => J l a0 6 p b v) a w)
    (k7 : ∀ p a w, J l a0 6 p a w → wpOp P ops Q c7 (fun b v => J l a0 7 p b v) a w)
    (n1 : ∀ k p a w, p[0]? = some none → J l a0 k p a w → wpOp P ops Q m1 (fun b v => ∃ q, J l a0 k (p.set 0 (some q)) b v) a w)
    (fin : ∀ q1 a w, J l a0 7 [some q1] a w → wpAnyV P md ops Q S [] N (lstOf L0 [c1, c2, c3, c4, c5, c6, c7] [m1] 7 [true]) a w) :
    wpAnyV P md ops Q S [] (N + 8) L0 a0 w0 := by
  refine latP_from (pl := [false, false, false, false, false, false, false]) [c1, c2, c3, c4, c5, c6, c7] [m1] slots N 8 (J l) hok rfl hsl h0 hS (fun k i p a w hk hn hJ => ?_) (fun k i p a w hk hn hJ => ?_) (fun k m i p a w hm hp hJ => ?_) (fun p a w hp hall hJ => ?_)
  · rcases k with _ | _ | _ | _ | _ | _ | _ | k
    · obtain rfl : c1 = i := by simpa using hk
      exact k1 p a w hJ
    · obtain rfl : c2 = i := by simpa using hk
      exact k2 p a w hJ
    · obtain rfl : c3 = i := by simpa using hk
      exact k3 p a w hJ
    · obtain rfl : c4 = i := by simpa using hk
      exact k4 p a w hJ
    · obtain rfl : c5 = i := by simpa using hk
      exact k5 p a w hJ
    · obtain rfl : c6 = i := by simpa using hk
      exact k6 p a w hJ
    · obtain rfl : c7 = i := by simpa using hk
      exact k7 p a w hJ
    · simp at hk
  · rcases k with _ | _ | _ | _ | _ | _ | _ | k
    · exact absurd hn (by decide)
    · exact absurd hn (by decide)
    · exact absurd hn (by decide)
    · exact absurd hn (by decide)
    · exact absurd hn (by decide)
    · exact absurd hn (by decide)
    · exact absurd hn (by decide)
    · simp at hk
  · rcases m with _ | m
    · obtain rfl : m1 = i := by simpa using hm
      exact n1 k p a w hp hJ
    · simp at hm
  · obtain ⟨q1, rfl⟩ := fin_one hp hall
    exact fin q1 a w hJ
end

/-- Region 2. -/
def fnJ2 (w : World) (al ah : Nat) (l : RowL) (a0 : Act) (k : Nat) (p : List (Option Nat)) (a : Act) (v : World) : Prop :=
  ∃ y1 y2 y3 y4 y5 z1 : Value, a = ((((((a0.put (some 31) y1).put (some 33) y2).put (some 30) y3).put (some 34) y4).put (some 35) y5).put (some 10) z1) ∧ (0 < k → y1 = .agg #[.float .f64 4607182418800017408, .float .f64 4607182418800017408]) ∧ (1 < k → y2 = .tuple #[.agg #[.float .f64 al, .float .f64 ah], .int .i64 0]) ∧ (2 < k → y3 = .tuple #[.agg #[.float .f64 al, .float .f64 ah], .int .i64 0]) ∧ (3 < k → y4 = .agg #[.float .f64 al, .float .f64 ah]) ∧ (4 < k → y5 = .int .i64 0) ∧ (∀ q, p[0]? = some (some q) → z1 = .pointer (some ⟨q, 0, none⟩)) ∧ OwnF w l [#[.float .f64 0, .float .f64 0]] p v
section
variable {w v : World} {al ah : Nat} {l : RowL} {a0 a : Act} {p : List (Option Nat)}
theorem fnJ2_0 (h : fnJ2 w al ah l a0 0 p a v) : ∃ y1 y2 y3 y4 y5 z1 : Value, a = ((((((a0.put (some 31) y1).put (some 33) y2).put (some 30) y3).put (some 34) y4).put (some 35) y5).put (some 10) z1) ∧ (∀ q, p[0]? = some (some q) → z1 = .pointer (some ⟨q, 0, none⟩)) ∧ OwnF w l [#[.float .f64 0, .float .f64 0]] p v := by
  obtain ⟨y1, y2, y3, y4, y5, z1, ha, E1, E2, E3, E4, E5, G1, h⟩ := h
  exact ⟨y1, y2, y3, y4, y5, z1, ha, G1, h⟩
theorem fnJ2_1 (h : fnJ2 w al ah l a0 1 p a v) : ∃ y2 y3 y4 y5 z1 : Value, a = ((((((a0.put (some 31) (.agg #[.float .f64 4607182418800017408, .float .f64 4607182418800017408])).put (some 33) y2).put (some 30) y3).put (some 34) y4).put (some 35) y5).put (some 10) z1) ∧ (∀ q, p[0]? = some (some q) → z1 = .pointer (some ⟨q, 0, none⟩)) ∧ OwnF w l [#[.float .f64 0, .float .f64 0]] p v := by
  obtain ⟨y1, y2, y3, y4, y5, z1, ha, E1, E2, E3, E4, E5, G1, h⟩ := h
  obtain rfl := E1 (by decide)
  exact ⟨y2, y3, y4, y5, z1, ha, G1, h⟩
theorem fnJ2_2 (h : fnJ2 w al ah l a0 2 p a v) : ∃ y3 y4 y5 z1 : Value, a = ((((((a0.put (some 31) (.agg #[.float .f64 4607182418800017408, .float .f64 4607182418800017408])).put (some 33) (.tuple #[.agg #[.float .f64 al, .float .f64 ah], .int .i64 0])).put (some 30) y3).put (some 34) y4).put (some 35) y5).put (some 10) z1) ∧ (∀ q, p[0]? = some (some q) → z1 = .pointer (some ⟨q, 0, none⟩)) ∧ OwnF w l [#[.float .f64 0, .float .f64 0]] p v := by
  obtain ⟨y1, y2, y3, y4, y5, z1, ha, E1, E2, E3, E4, E5, G1, h⟩ := h
  obtain rfl := E1 (by decide)
  obtain rfl := E2 (by decide)
  exact ⟨y3, y4, y5, z1, ha, G1, h⟩
theorem fnJ2_3 (h : fnJ2 w al ah l a0 3 p a v) : ∃ y4 y5 z1 : Value, a = ((((((a0.put (some 31) (.agg #[.float .f64 4607182418800017408, .float .f64 4607182418800017408])).put (some 33) (.tuple #[.agg #[.float .f64 al, .float .f64 ah], .int .i64 0])).put (some 30) (.tuple #[.agg #[.float .f64 al, .float .f64 ah], .int .i64 0])).put (some 34) y4).put (some 35) y5).put (some 10) z1) ∧ (∀ q, p[0]? = some (some q) → z1 = .pointer (some ⟨q, 0, none⟩)) ∧ OwnF w l [#[.float .f64 0, .float .f64 0]] p v := by
  obtain ⟨y1, y2, y3, y4, y5, z1, ha, E1, E2, E3, E4, E5, G1, h⟩ := h
  obtain rfl := E1 (by decide)
  obtain rfl := E2 (by decide)
  obtain rfl := E3 (by decide)
  exact ⟨y4, y5, z1, ha, G1, h⟩
theorem fnJ2_4 (h : fnJ2 w al ah l a0 4 p a v) : ∃ y5 z1 : Value, a = ((((((a0.put (some 31) (.agg #[.float .f64 4607182418800017408, .float .f64 4607182418800017408])).put (some 33) (.tuple #[.agg #[.float .f64 al, .float .f64 ah], .int .i64 0])).put (some 30) (.tuple #[.agg #[.float .f64 al, .float .f64 ah], .int .i64 0])).put (some 34) (.agg #[.float .f64 al, .float .f64 ah])).put (some 35) y5).put (some 10) z1) ∧ (∀ q, p[0]? = some (some q) → z1 = .pointer (some ⟨q, 0, none⟩)) ∧ OwnF w l [#[.float .f64 0, .float .f64 0]] p v := by
  obtain ⟨y1, y2, y3, y4, y5, z1, ha, E1, E2, E3, E4, E5, G1, h⟩ := h
  obtain rfl := E1 (by decide)
  obtain rfl := E2 (by decide)
  obtain rfl := E3 (by decide)
  obtain rfl := E4 (by decide)
  exact ⟨y5, z1, ha, G1, h⟩
theorem fnJ2_fin {q1 : Nat} (h : fnJ2 w al ah l a0 5 [some q1] a v) : a = ((((((a0.put (some 31) (.agg #[.float .f64 4607182418800017408, .float .f64 4607182418800017408])).put (some 33) (.tuple #[.agg #[.float .f64 al, .float .f64 ah], .int .i64 0])).put (some 30) (.tuple #[.agg #[.float .f64 al, .float .f64 ah], .int .i64 0])).put (some 34) (.agg #[.float .f64 al, .float .f64 ah])).put (some 35) (.int .i64 0)).put (some 10) (.pointer (some ⟨q1, 0, none⟩))) ∧ OwnF w l [#[.float .f64 0, .float .f64 0]] [some q1] v := by
  obtain ⟨y1, y2, y3, y4, y5, z1, ha, E1, E2, E3, E4, E5, G1, h⟩ := h
  obtain rfl := E1 (by decide)
  obtain rfl := E2 (by decide)
  obtain rfl := E3 (by decide)
  obtain rfl := E4 (by decide)
  obtain rfl := E5 (by decide)
  obtain rfl := G1 _ rfl
  exact ⟨ha, h⟩
end

/-- Region 3. -/
def fnJ3 (w : World) (bl bh : Nat) (l : RowL) (a0 : Act) (k : Nat) (p : List (Option Nat)) (a : Act) (v : World) : Prop :=
  ∃ y1 y2 y3 y4 y5 z1 : Value, a = ((((((a0.put (some 37) y1).put (some 39) y2).put (some 36) y3).put (some 40) y4).put (some 41) y5).put (some 12) z1) ∧ (0 < k → y1 = .agg #[.float .f64 0, .float .f64 0]) ∧ (1 < k → y2 = .tuple #[.agg #[.float .f64 bl, .float .f64 bh], .int .i64 0]) ∧ (2 < k → y3 = .tuple #[.agg #[.float .f64 bl, .float .f64 bh], .int .i64 0]) ∧ (3 < k → y4 = .agg #[.float .f64 bl, .float .f64 bh]) ∧ (4 < k → y5 = .int .i64 0) ∧ (∀ q, p[0]? = some (some q) → z1 = .pointer (some ⟨q, 0, none⟩)) ∧ OwnF w l [#[.float .f64 0, .float .f64 0]] p v
section
variable {w v : World} {bl bh : Nat} {l : RowL} {a0 a : Act} {p : List (Option Nat)}
theorem fnJ3_0 (h : fnJ3 w bl bh l a0 0 p a v) : ∃ y1 y2 y3 y4 y5 z1 : Value, a = ((((((a0.put (some 37) y1).put (some 39) y2).put (some 36) y3).put (some 40) y4).put (some 41) y5).put (some 12) z1) ∧ (∀ q, p[0]? = some (some q) → z1 = .pointer (some ⟨q, 0, none⟩)) ∧ OwnF w l [#[.float .f64 0, .float .f64 0]] p v := by
  obtain ⟨y1, y2, y3, y4, y5, z1, ha, E1, E2, E3, E4, E5, G1, h⟩ := h
  exact ⟨y1, y2, y3, y4, y5, z1, ha, G1, h⟩
theorem fnJ3_1 (h : fnJ3 w bl bh l a0 1 p a v) : ∃ y2 y3 y4 y5 z1 : Value, a = ((((((a0.put (some 37) (.agg #[.float .f64 0, .float .f64 0])).put (some 39) y2).put (some 36) y3).put (some 40) y4).put (some 41) y5).put (some 12) z1) ∧ (∀ q, p[0]? = some (some q) → z1 = .pointer (some ⟨q, 0, none⟩)) ∧ OwnF w l [#[.float .f64 0, .float .f64 0]] p v := by
  obtain ⟨y1, y2, y3, y4, y5, z1, ha, E1, E2, E3, E4, E5, G1, h⟩ := h
  obtain rfl := E1 (by decide)
  exact ⟨y2, y3, y4, y5, z1, ha, G1, h⟩
theorem fnJ3_2 (h : fnJ3 w bl bh l a0 2 p a v) : ∃ y3 y4 y5 z1 : Value, a = ((((((a0.put (some 37) (.agg #[.float .f64 0, .float .f64 0])).put (some 39) (.tuple #[.agg #[.float .f64 bl, .float .f64 bh], .int .i64 0])).put (some 36) y3).put (some 40) y4).put (some 41) y5).put (some 12) z1) ∧ (∀ q, p[0]? = some (some q) → z1 = .pointer (some ⟨q, 0, none⟩)) ∧ OwnF w l [#[.float .f64 0, .float .f64 0]] p v := by
  obtain ⟨y1, y2, y3, y4, y5, z1, ha, E1, E2, E3, E4, E5, G1, h⟩ := h
  obtain rfl := E1 (by decide)
  obtain rfl := E2 (by decide)
  exact ⟨y3, y4, y5, z1, ha, G1, h⟩
theorem fnJ3_3 (h : fnJ3 w bl bh l a0 3 p a v) : ∃ y4 y5 z1 : Value, a = ((((((a0.put (some 37) (.agg #[.float .f64 0, .float .f64 0])).put (some 39) (.tuple #[.agg #[.float .f64 bl, .float .f64 bh], .int .i64 0])).put (some 36) (.tuple #[.agg #[.float .f64 bl, .float .f64 bh], .int .i64 0])).put (some 40) y4).put (some 41) y5).put (some 12) z1) ∧ (∀ q, p[0]? = some (some q) → z1 = .pointer (some ⟨q, 0, none⟩)) ∧ OwnF w l [#[.float .f64 0, .float .f64 0]] p v := by
  obtain ⟨y1, y2, y3, y4, y5, z1, ha, E1, E2, E3, E4, E5, G1, h⟩ := h
  obtain rfl := E1 (by decide)
  obtain rfl := E2 (by decide)
  obtain rfl := E3 (by decide)
  exact ⟨y4, y5, z1, ha, G1, h⟩
theorem fnJ3_4 (h : fnJ3 w bl bh l a0 4 p a v) : ∃ y5 z1 : Value, a = ((((((a0.put (some 37) (.agg #[.float .f64 0, .float .f64 0])).put (some 39) (.tuple #[.agg #[.float .f64 bl, .float .f64 bh], .int .i64 0])).put (some 36) (.tuple #[.agg #[.float .f64 bl, .float .f64 bh], .int .i64 0])).put (some 40) (.agg #[.float .f64 bl, .float .f64 bh])).put (some 41) y5).put (some 12) z1) ∧ (∀ q, p[0]? = some (some q) → z1 = .pointer (some ⟨q, 0, none⟩)) ∧ OwnF w l [#[.float .f64 0, .float .f64 0]] p v := by
  obtain ⟨y1, y2, y3, y4, y5, z1, ha, E1, E2, E3, E4, E5, G1, h⟩ := h
  obtain rfl := E1 (by decide)
  obtain rfl := E2 (by decide)
  obtain rfl := E3 (by decide)
  obtain rfl := E4 (by decide)
  exact ⟨y5, z1, ha, G1, h⟩
theorem fnJ3_fin {q1 : Nat} (h : fnJ3 w bl bh l a0 5 [some q1] a v) : a = ((((((a0.put (some 37) (.agg #[.float .f64 0, .float .f64 0])).put (some 39) (.tuple #[.agg #[.float .f64 bl, .float .f64 bh], .int .i64 0])).put (some 36) (.tuple #[.agg #[.float .f64 bl, .float .f64 bh], .int .i64 0])).put (some 40) (.agg #[.float .f64 bl, .float .f64 bh])).put (some 41) (.int .i64 0)).put (some 12) (.pointer (some ⟨q1, 0, none⟩))) ∧ OwnF w l [#[.float .f64 0, .float .f64 0]] [some q1] v := by
  obtain ⟨y1, y2, y3, y4, y5, z1, ha, E1, E2, E3, E4, E5, G1, h⟩ := h
  obtain rfl := E1 (by decide)
  obtain rfl := E2 (by decide)
  obtain rfl := E3 (by decide)
  obtain rfl := E4 (by decide)
  obtain rfl := E5 (by decide)
  obtain rfl := G1 _ rfl
  exact ⟨ha, h⟩
end

/-- Region 4. -/
def fnJ4 (w : World) (dl dh : Nat) (l : RowL) (a0 : Act) (k : Nat) (p : List (Option Nat)) (a : Act) (v : World) : Prop :=
  ∃ y1 y2 y3 y4 y5 z1 : Value, a = ((((((a0.put (some 43) y1).put (some 46) y2).put (some 42) y3).put (some 47) y4).put (some 48) y5).put (some 14) z1) ∧ (0 < k → y1 = .agg #[.float .f64 4607182418800017408, .float .f64 4607182418800017408]) ∧ (1 < k → y2 = .tuple #[.agg #[.float .f64 dl, .float .f64 dh], .int .i64 0]) ∧ (2 < k → y3 = .tuple #[.agg #[.float .f64 dl, .float .f64 dh], .int .i64 0]) ∧ (3 < k → y4 = .agg #[.float .f64 dl, .float .f64 dh]) ∧ (4 < k → y5 = .int .i64 0) ∧ (∀ q, p[0]? = some (some q) → z1 = .pointer (some ⟨q, 0, none⟩)) ∧ OwnF w l [#[.float .f64 0, .float .f64 0]] p v
section
variable {w v : World} {dl dh : Nat} {l : RowL} {a0 a : Act} {p : List (Option Nat)}
theorem fnJ4_0 (h : fnJ4 w dl dh l a0 0 p a v) : ∃ y1 y2 y3 y4 y5 z1 : Value, a = ((((((a0.put (some 43) y1).put (some 46) y2).put (some 42) y3).put (some 47) y4).put (some 48) y5).put (some 14) z1) ∧ (∀ q, p[0]? = some (some q) → z1 = .pointer (some ⟨q, 0, none⟩)) ∧ OwnF w l [#[.float .f64 0, .float .f64 0]] p v := by
  obtain ⟨y1, y2, y3, y4, y5, z1, ha, E1, E2, E3, E4, E5, G1, h⟩ := h
  exact ⟨y1, y2, y3, y4, y5, z1, ha, G1, h⟩
theorem fnJ4_1 (h : fnJ4 w dl dh l a0 1 p a v) : ∃ y2 y3 y4 y5 z1 : Value, a = ((((((a0.put (some 43) (.agg #[.float .f64 4607182418800017408, .float .f64 4607182418800017408])).put (some 46) y2).put (some 42) y3).put (some 47) y4).put (some 48) y5).put (some 14) z1) ∧ (∀ q, p[0]? = some (some q) → z1 = .pointer (some ⟨q, 0, none⟩)) ∧ OwnF w l [#[.float .f64 0, .float .f64 0]] p v := by
  obtain ⟨y1, y2, y3, y4, y5, z1, ha, E1, E2, E3, E4, E5, G1, h⟩ := h
  obtain rfl := E1 (by decide)
  exact ⟨y2, y3, y4, y5, z1, ha, G1, h⟩
theorem fnJ4_2 (h : fnJ4 w dl dh l a0 2 p a v) : ∃ y3 y4 y5 z1 : Value, a = ((((((a0.put (some 43) (.agg #[.float .f64 4607182418800017408, .float .f64 4607182418800017408])).put (some 46) (.tuple #[.agg #[.float .f64 dl, .float .f64 dh], .int .i64 0])).put (some 42) y3).put (some 47) y4).put (some 48) y5).put (some 14) z1) ∧ (∀ q, p[0]? = some (some q) → z1 = .pointer (some ⟨q, 0, none⟩)) ∧ OwnF w l [#[.float .f64 0, .float .f64 0]] p v := by
  obtain ⟨y1, y2, y3, y4, y5, z1, ha, E1, E2, E3, E4, E5, G1, h⟩ := h
  obtain rfl := E1 (by decide)
  obtain rfl := E2 (by decide)
  exact ⟨y3, y4, y5, z1, ha, G1, h⟩
theorem fnJ4_3 (h : fnJ4 w dl dh l a0 3 p a v) : ∃ y4 y5 z1 : Value, a = ((((((a0.put (some 43) (.agg #[.float .f64 4607182418800017408, .float .f64 4607182418800017408])).put (some 46) (.tuple #[.agg #[.float .f64 dl, .float .f64 dh], .int .i64 0])).put (some 42) (.tuple #[.agg #[.float .f64 dl, .float .f64 dh], .int .i64 0])).put (some 47) y4).put (some 48) y5).put (some 14) z1) ∧ (∀ q, p[0]? = some (some q) → z1 = .pointer (some ⟨q, 0, none⟩)) ∧ OwnF w l [#[.float .f64 0, .float .f64 0]] p v := by
  obtain ⟨y1, y2, y3, y4, y5, z1, ha, E1, E2, E3, E4, E5, G1, h⟩ := h
  obtain rfl := E1 (by decide)
  obtain rfl := E2 (by decide)
  obtain rfl := E3 (by decide)
  exact ⟨y4, y5, z1, ha, G1, h⟩
theorem fnJ4_4 (h : fnJ4 w dl dh l a0 4 p a v) : ∃ y5 z1 : Value, a = ((((((a0.put (some 43) (.agg #[.float .f64 4607182418800017408, .float .f64 4607182418800017408])).put (some 46) (.tuple #[.agg #[.float .f64 dl, .float .f64 dh], .int .i64 0])).put (some 42) (.tuple #[.agg #[.float .f64 dl, .float .f64 dh], .int .i64 0])).put (some 47) (.agg #[.float .f64 dl, .float .f64 dh])).put (some 48) y5).put (some 14) z1) ∧ (∀ q, p[0]? = some (some q) → z1 = .pointer (some ⟨q, 0, none⟩)) ∧ OwnF w l [#[.float .f64 0, .float .f64 0]] p v := by
  obtain ⟨y1, y2, y3, y4, y5, z1, ha, E1, E2, E3, E4, E5, G1, h⟩ := h
  obtain rfl := E1 (by decide)
  obtain rfl := E2 (by decide)
  obtain rfl := E3 (by decide)
  obtain rfl := E4 (by decide)
  exact ⟨y5, z1, ha, G1, h⟩
theorem fnJ4_fin {q1 : Nat} (h : fnJ4 w dl dh l a0 5 [some q1] a v) : a = ((((((a0.put (some 43) (.agg #[.float .f64 4607182418800017408, .float .f64 4607182418800017408])).put (some 46) (.tuple #[.agg #[.float .f64 dl, .float .f64 dh], .int .i64 0])).put (some 42) (.tuple #[.agg #[.float .f64 dl, .float .f64 dh], .int .i64 0])).put (some 47) (.agg #[.float .f64 dl, .float .f64 dh])).put (some 48) (.int .i64 0)).put (some 14) (.pointer (some ⟨q1, 0, none⟩))) ∧ OwnF w l [#[.float .f64 0, .float .f64 0]] [some q1] v := by
  obtain ⟨y1, y2, y3, y4, y5, z1, ha, E1, E2, E3, E4, E5, G1, h⟩ := h
  obtain rfl := E1 (by decide)
  obtain rfl := E2 (by decide)
  obtain rfl := E3 (by decide)
  obtain rfl := E4 (by decide)
  obtain rfl := E5 (by decide)
  obtain rfl := G1 _ rfl
  exact ⟨ha, h⟩
end

/-- Region 7. -/
def fnJ7 (w : World) (pb : Nat) (sl sh tl th ql qh rl rh : Nat) (l : RowL) (a0 : Act) (k : Nat) (p : List (Option Nat)) (a : Act) (v : World) : Prop :=
  ∃ y1 y2 y3 y4 z1 : Value, a = (((((a0.put (some 58) y1).put (some 62) y2).put (some 63) y3).put (some 64) y4).put (some 18) z1) ∧ (0 < k → y1 = .agg #[.float .f64 sl, .float .f64 sh]) ∧ (1 < k → y2 = .agg #[.float .f64 tl, .float .f64 th]) ∧ (2 < k → y3 = .agg #[.float .f64 ql, .float .f64 qh]) ∧ (3 < k → y4 = .agg #[.float .f64 rl, .float .f64 rh]) ∧ (∀ q, p[0]? = some (some q) → z1 = .pointer (some ⟨q, 0, none⟩)) ∧ OwnF w ((pb, #[.int .i64 0]) :: l) [#[.float .f64 0, .float .f64 0]] p v
section
variable {w v : World} {pb : Nat} {sl sh tl th ql qh rl rh : Nat} {l : RowL} {a0 a : Act} {p : List (Option Nat)}
theorem fnJ7_0 (h : fnJ7 w pb sl sh tl th ql qh rl rh l a0 0 p a v) : ∃ y1 y2 y3 y4 z1 : Value, a = (((((a0.put (some 58) y1).put (some 62) y2).put (some 63) y3).put (some 64) y4).put (some 18) z1) ∧ (∀ q, p[0]? = some (some q) → z1 = .pointer (some ⟨q, 0, none⟩)) ∧ OwnF w ((pb, #[.int .i64 0]) :: l) [#[.float .f64 0, .float .f64 0]] p v := by
  obtain ⟨y1, y2, y3, y4, z1, ha, E1, E2, E3, E4, G1, h⟩ := h
  exact ⟨y1, y2, y3, y4, z1, ha, G1, h⟩
theorem fnJ7_1 (h : fnJ7 w pb sl sh tl th ql qh rl rh l a0 1 p a v) : ∃ y2 y3 y4 z1 : Value, a = (((((a0.put (some 58) (.agg #[.float .f64 sl, .float .f64 sh])).put (some 62) y2).put (some 63) y3).put (some 64) y4).put (some 18) z1) ∧ (∀ q, p[0]? = some (some q) → z1 = .pointer (some ⟨q, 0, none⟩)) ∧ OwnF w ((pb, #[.int .i64 0]) :: l) [#[.float .f64 0, .float .f64 0]] p v := by
  obtain ⟨y1, y2, y3, y4, z1, ha, E1, E2, E3, E4, G1, h⟩ := h
  obtain rfl := E1 (by decide)
  exact ⟨y2, y3, y4, z1, ha, G1, h⟩
theorem fnJ7_2 (h : fnJ7 w pb sl sh tl th ql qh rl rh l a0 2 p a v) : ∃ y3 y4 z1 : Value, a = (((((a0.put (some 58) (.agg #[.float .f64 sl, .float .f64 sh])).put (some 62) (.agg #[.float .f64 tl, .float .f64 th])).put (some 63) y3).put (some 64) y4).put (some 18) z1) ∧ (∀ q, p[0]? = some (some q) → z1 = .pointer (some ⟨q, 0, none⟩)) ∧ OwnF w ((pb, #[.int .i64 0]) :: l) [#[.float .f64 0, .float .f64 0]] p v := by
  obtain ⟨y1, y2, y3, y4, z1, ha, E1, E2, E3, E4, G1, h⟩ := h
  obtain rfl := E1 (by decide)
  obtain rfl := E2 (by decide)
  exact ⟨y3, y4, z1, ha, G1, h⟩
theorem fnJ7_3 (h : fnJ7 w pb sl sh tl th ql qh rl rh l a0 3 p a v) : ∃ y4 z1 : Value, a = (((((a0.put (some 58) (.agg #[.float .f64 sl, .float .f64 sh])).put (some 62) (.agg #[.float .f64 tl, .float .f64 th])).put (some 63) (.agg #[.float .f64 ql, .float .f64 qh])).put (some 64) y4).put (some 18) z1) ∧ (∀ q, p[0]? = some (some q) → z1 = .pointer (some ⟨q, 0, none⟩)) ∧ OwnF w ((pb, #[.int .i64 0]) :: l) [#[.float .f64 0, .float .f64 0]] p v := by
  obtain ⟨y1, y2, y3, y4, z1, ha, E1, E2, E3, E4, G1, h⟩ := h
  obtain rfl := E1 (by decide)
  obtain rfl := E2 (by decide)
  obtain rfl := E3 (by decide)
  exact ⟨y4, z1, ha, G1, h⟩
theorem fnJ7_fin {q1 : Nat} (h : fnJ7 w pb sl sh tl th ql qh rl rh l a0 4 [some q1] a v) : a = (((((a0.put (some 58) (.agg #[.float .f64 sl, .float .f64 sh])).put (some 62) (.agg #[.float .f64 tl, .float .f64 th])).put (some 63) (.agg #[.float .f64 ql, .float .f64 qh])).put (some 64) (.agg #[.float .f64 rl, .float .f64 rh])).put (some 18) (.pointer (some ⟨q1, 0, none⟩))) ∧ OwnF w ((pb, #[.int .i64 0]) :: l) [#[.float .f64 0, .float .f64 0]] [some q1] v := by
  obtain ⟨y1, y2, y3, y4, z1, ha, E1, E2, E3, E4, G1, h⟩ := h
  obtain rfl := E1 (by decide)
  obtain rfl := E2 (by decide)
  obtain rfl := E3 (by decide)
  obtain rfl := E4 (by decide)
  obtain rfl := G1 _ rfl
  exact ⟨ha, h⟩
end

/-- Region 9. -/
def fnJ9 (w : World) (pb : Nat) (jl jh ll lh ml mh ol oh xl xh yl yh zl zh : Nat) (l : RowL) (a0 : Act) (k : Nat) (p : List (Option Nat)) (a : Act) (v : World) : Prop :=
  ∃ y1 y2 y3 y4 y5 y6 y7 z1 : Value, a = ((((((((a0.put (some 74) y1).put (some 75) y2).put (some 77) y3).put (some 83) y4).put (some 84) y5).put (some 86) y6).put (some 87) y7).put (some 20) z1) ∧ (0 < k → y1 = .agg #[.float .f64 jl, .float .f64 jh]) ∧ (1 < k → y2 = .agg #[.float .f64 ll, .float .f64 lh]) ∧ (2 < k → y3 = .agg #[.float .f64 ml, .float .f64 mh]) ∧ (3 < k → y4 = .agg #[.float .f64 ol, .float .f64 oh]) ∧ (4 < k → y5 = .agg #[.float .f64 xl, .float .f64 xh]) ∧ (5 < k → y6 = .agg #[.float .f64 yl, .float .f64 yh]) ∧ (6 < k → y7 = .agg #[.float .f64 zl, .float .f64 zh]) ∧ (∀ q, p[0]? = some (some q) → z1 = .pointer (some ⟨q, 0, none⟩)) ∧ OwnF w ((pb, #[.int .i64 0]) :: l) [#[.float .f64 0, .float .f64 0]] p v
section
variable {w v : World} {pb : Nat} {jl jh ll lh ml mh ol oh xl xh yl yh zl zh : Nat} {l : RowL} {a0 a : Act} {p : List (Option Nat)}
theorem fnJ9_0 (h : fnJ9 w pb jl jh ll lh ml mh ol oh xl xh yl yh zl zh l a0 0 p a v) : ∃ y1 y2 y3 y4 y5 y6 y7 z1 : Value, a = ((((((((a0.put (some 74) y1).put (some 75) y2).put (some 77) y3).put (some 83) y4).put (some 84) y5).put (some 86) y6).put (some 87) y7).put (some 20) z1) ∧ (∀ q, p[0]? = some (some q) → z1 = .pointer (some ⟨q, 0, none⟩)) ∧ OwnF w ((pb, #[.int .i64 0]) :: l) [#[.float .f64 0, .float .f64 0]] p v := by
  obtain ⟨y1, y2, y3, y4, y5, y6, y7, z1, ha, E1, E2, E3, E4, E5, E6, E7, G1, h⟩ := h
  exact ⟨y1, y2, y3, y4, y5, y6, y7, z1, ha, G1, h⟩
theorem fnJ9_1 (h : fnJ9 w pb jl jh ll lh ml mh ol oh xl xh yl yh zl zh l a0 1 p a v) : ∃ y2 y3 y4 y5 y6 y7 z1 : Value, a = ((((((((a0.put (some 74) (.agg #[.float .f64 jl, .float .f64 jh])).put (some 75) y2).put (some 77) y3).put (some 83) y4).put (some 84) y5).put (some 86) y6).put (some 87) y7).put (some 20) z1) ∧ (∀ q, p[0]? = some (some q) → z1 = .pointer (some ⟨q, 0, none⟩)) ∧ OwnF w ((pb, #[.int .i64 0]) :: l) [#[.float .f64 0, .float .f64 0]] p v := by
  obtain ⟨y1, y2, y3, y4, y5, y6, y7, z1, ha, E1, E2, E3, E4, E5, E6, E7, G1, h⟩ := h
  obtain rfl := E1 (by decide)
  exact ⟨y2, y3, y4, y5, y6, y7, z1, ha, G1, h⟩
theorem fnJ9_2 (h : fnJ9 w pb jl jh ll lh ml mh ol oh xl xh yl yh zl zh l a0 2 p a v) : ∃ y3 y4 y5 y6 y7 z1 : Value, a = ((((((((a0.put (some 74) (.agg #[.float .f64 jl, .float .f64 jh])).put (some 75) (.agg #[.float .f64 ll, .float .f64 lh])).put (some 77) y3).put (some 83) y4).put (some 84) y5).put (some 86) y6).put (some 87) y7).put (some 20) z1) ∧ (∀ q, p[0]? = some (some q) → z1 = .pointer (some ⟨q, 0, none⟩)) ∧ OwnF w ((pb, #[.int .i64 0]) :: l) [#[.float .f64 0, .float .f64 0]] p v := by
  obtain ⟨y1, y2, y3, y4, y5, y6, y7, z1, ha, E1, E2, E3, E4, E5, E6, E7, G1, h⟩ := h
  obtain rfl := E1 (by decide)
  obtain rfl := E2 (by decide)
  exact ⟨y3, y4, y5, y6, y7, z1, ha, G1, h⟩
theorem fnJ9_3 (h : fnJ9 w pb jl jh ll lh ml mh ol oh xl xh yl yh zl zh l a0 3 p a v) : ∃ y4 y5 y6 y7 z1 : Value, a = ((((((((a0.put (some 74) (.agg #[.float .f64 jl, .float .f64 jh])).put (some 75) (.agg #[.float .f64 ll, .float .f64 lh])).put (some 77) (.agg #[.float .f64 ml, .float .f64 mh])).put (some 83) y4).put (some 84) y5).put (some 86) y6).put (some 87) y7).put (some 20) z1) ∧ (∀ q, p[0]? = some (some q) → z1 = .pointer (some ⟨q, 0, none⟩)) ∧ OwnF w ((pb, #[.int .i64 0]) :: l) [#[.float .f64 0, .float .f64 0]] p v := by
  obtain ⟨y1, y2, y3, y4, y5, y6, y7, z1, ha, E1, E2, E3, E4, E5, E6, E7, G1, h⟩ := h
  obtain rfl := E1 (by decide)
  obtain rfl := E2 (by decide)
  obtain rfl := E3 (by decide)
  exact ⟨y4, y5, y6, y7, z1, ha, G1, h⟩
theorem fnJ9_4 (h : fnJ9 w pb jl jh ll lh ml mh ol oh xl xh yl yh zl zh l a0 4 p a v) : ∃ y5 y6 y7 z1 : Value, a = ((((((((a0.put (some 74) (.agg #[.float .f64 jl, .float .f64 jh])).put (some 75) (.agg #[.float .f64 ll, .float .f64 lh])).put (some 77) (.agg #[.float .f64 ml, .float .f64 mh])).put (some 83) (.agg #[.float .f64 ol, .float .f64 oh])).put (some 84) y5).put (some 86) y6).put (some 87) y7).put (some 20) z1) ∧ (∀ q, p[0]? = some (some q) → z1 = .pointer (some ⟨q, 0, none⟩)) ∧ OwnF w ((pb, #[.int .i64 0]) :: l) [#[.float .f64 0, .float .f64 0]] p v := by
  obtain ⟨y1, y2, y3, y4, y5, y6, y7, z1, ha, E1, E2, E3, E4, E5, E6, E7, G1, h⟩ := h
  obtain rfl := E1 (by decide)
  obtain rfl := E2 (by decide)
  obtain rfl := E3 (by decide)
  obtain rfl := E4 (by decide)
  exact ⟨y5, y6, y7, z1, ha, G1, h⟩
theorem fnJ9_5 (h : fnJ9 w pb jl jh ll lh ml mh ol oh xl xh yl yh zl zh l a0 5 p a v) : ∃ y6 y7 z1 : Value, a = ((((((((a0.put (some 74) (.agg #[.float .f64 jl, .float .f64 jh])).put (some 75) (.agg #[.float .f64 ll, .float .f64 lh])).put (some 77) (.agg #[.float .f64 ml, .float .f64 mh])).put (some 83) (.agg #[.float .f64 ol, .float .f64 oh])).put (some 84) (.agg #[.float .f64 xl, .float .f64 xh])).put (some 86) y6).put (some 87) y7).put (some 20) z1) ∧ (∀ q, p[0]? = some (some q) → z1 = .pointer (some ⟨q, 0, none⟩)) ∧ OwnF w ((pb, #[.int .i64 0]) :: l) [#[.float .f64 0, .float .f64 0]] p v := by
  obtain ⟨y1, y2, y3, y4, y5, y6, y7, z1, ha, E1, E2, E3, E4, E5, E6, E7, G1, h⟩ := h
  obtain rfl := E1 (by decide)
  obtain rfl := E2 (by decide)
  obtain rfl := E3 (by decide)
  obtain rfl := E4 (by decide)
  obtain rfl := E5 (by decide)
  exact ⟨y6, y7, z1, ha, G1, h⟩
theorem fnJ9_6 (h : fnJ9 w pb jl jh ll lh ml mh ol oh xl xh yl yh zl zh l a0 6 p a v) : ∃ y7 z1 : Value, a = ((((((((a0.put (some 74) (.agg #[.float .f64 jl, .float .f64 jh])).put (some 75) (.agg #[.float .f64 ll, .float .f64 lh])).put (some 77) (.agg #[.float .f64 ml, .float .f64 mh])).put (some 83) (.agg #[.float .f64 ol, .float .f64 oh])).put (some 84) (.agg #[.float .f64 xl, .float .f64 xh])).put (some 86) (.agg #[.float .f64 yl, .float .f64 yh])).put (some 87) y7).put (some 20) z1) ∧ (∀ q, p[0]? = some (some q) → z1 = .pointer (some ⟨q, 0, none⟩)) ∧ OwnF w ((pb, #[.int .i64 0]) :: l) [#[.float .f64 0, .float .f64 0]] p v := by
  obtain ⟨y1, y2, y3, y4, y5, y6, y7, z1, ha, E1, E2, E3, E4, E5, E6, E7, G1, h⟩ := h
  obtain rfl := E1 (by decide)
  obtain rfl := E2 (by decide)
  obtain rfl := E3 (by decide)
  obtain rfl := E4 (by decide)
  obtain rfl := E5 (by decide)
  obtain rfl := E6 (by decide)
  exact ⟨y7, z1, ha, G1, h⟩
theorem fnJ9_fin {q1 : Nat} (h : fnJ9 w pb jl jh ll lh ml mh ol oh xl xh yl yh zl zh l a0 7 [some q1] a v) : a = ((((((((a0.put (some 74) (.agg #[.float .f64 jl, .float .f64 jh])).put (some 75) (.agg #[.float .f64 ll, .float .f64 lh])).put (some 77) (.agg #[.float .f64 ml, .float .f64 mh])).put (some 83) (.agg #[.float .f64 ol, .float .f64 oh])).put (some 84) (.agg #[.float .f64 xl, .float .f64 xh])).put (some 86) (.agg #[.float .f64 yl, .float .f64 yh])).put (some 87) (.agg #[.float .f64 zl, .float .f64 zh])).put (some 20) (.pointer (some ⟨q1, 0, none⟩))) ∧ OwnF w ((pb, #[.int .i64 0]) :: l) [#[.float .f64 0, .float .f64 0]] [some q1] v := by
  obtain ⟨y1, y2, y3, y4, y5, y6, y7, z1, ha, E1, E2, E3, E4, E5, E6, E7, G1, h⟩ := h
  obtain rfl := E1 (by decide)
  obtain rfl := E2 (by decide)
  obtain rfl := E3 (by decide)
  obtain rfl := E4 (by decide)
  obtain rfl := E5 (by decide)
  obtain rfl := E6 (by decide)
  obtain rfl := E7 (by decide)
  obtain rfl := G1 _ rfl
  exact ⟨ha, h⟩
end

set_option maxRecDepth 100000 in
set_option maxHeartbeats 16000000 in
theorem normal_law {u0 v0 w0 pn pe pk al ah bl bh dl dh sl sh tl th ql qh rl rh il ih jl jh ll lh ml mh ol oh xl xh yl yh zl zh da dd : Nat} (w : World)
    (c1 : Hid (∀ w, Calls Try.prog 41 #[.float .f64 4607463893776728064, .float .f64 4616189618054758400, .int .u32 u0] w fun r w' => r = .returned (.float .f64 pn) ∧ w = w'))
    (c2 : Hid (∀ w, Calls Try.prog 40 #[.float .f64 pn] w fun r w' => r = .returned (.agg #[.float .f64 pn, .float .f64 pn]) ∧ Below w.heap.size w w'))
    (c3 : Hid (∀ w, Calls Try.prog 41 #[.float .f64 4589168020290535424, .float .f64 4625196817309499392, .int .u32 v0] w fun r w' => r = .returned (.float .f64 pe) ∧ w = w'))
    (c4 : Hid (∀ w, Calls Try.prog 40 #[.float .f64 pe] w fun r w' => r = .returned (.agg #[.float .f64 pe, .float .f64 pe]) ∧ Below w.heap.size w w'))
    (c5 : Hid (∀ w, Calls Try.prog 41 #[.float .f64 4589168020290535424, .float .f64 4625196817309499392, .int .u32 w0] w fun r w' => r = .returned (.float .f64 pk) ∧ w = w'))
    (c6 : Hid (∀ w, Calls Try.prog 40 #[.float .f64 pk] w fun r w' => r = .returned (.agg #[.float .f64 pk, .float .f64 pk]) ∧ Below w.heap.size w w'))
    (c7 : Hid (∀ w, Calls Try.prog 40 #[.float .f64 4607182418800017408] w fun r w' => r = .returned (.agg #[.float .f64 4607182418800017408, .float .f64 4607182418800017408]) ∧ Below w.heap.size w w'))
    (c8 : Hid (∀ w, Calls Try.prog 42 #[.agg #[.float .f64 4607182418800017408, .float .f64 4607182418800017408], .agg #[.float .f64 pn, .float .f64 pn]] w fun r w' => r = .returned (.tuple #[.agg #[.float .f64 al, .float .f64 ah], .int .i64 0]) ∧ Below w.heap.size w w'))
    (c9 : Hid (∀ w, Calls Try.prog 40 #[.float .f64 0] w fun r w' => r = .returned (.agg #[.float .f64 0, .float .f64 0]) ∧ Below w.heap.size w w'))
    (c10 : Hid (∀ w, Calls Try.prog 42 #[.agg #[.float .f64 0, .float .f64 0], .agg #[.float .f64 pn, .float .f64 pn]] w fun r w' => r = .returned (.tuple #[.agg #[.float .f64 bl, .float .f64 bh], .int .i64 0]) ∧ Below w.heap.size w w'))
    (c12 : Hid (∀ w, Calls Try.prog 45 #[.agg #[.float .f64 4607182418800017408, .float .f64 4607182418800017408], .agg #[.float .f64 pe, .float .f64 pe], .agg #[.float .f64 pk, .float .f64 pk]] w fun r w' => r = .returned (.tuple #[.agg #[.float .f64 dl, .float .f64 dh], .int .i64 0]) ∧ Below w.heap.size w w'))
    (d13 : Hid (KN 28 0 0 4607182418800017408 4607182418800017408 4607182418800017408))
    (d14 : Hid (K2 30 0 0 pn pn 4607182418800017408 4607182418800017408 sl sh))
    (d15 : Hid (K2 17 0 0 pn pn 4607182418800017408 4607182418800017408 tl th))
    (d16 : Hid (K2 32 0 0 sl sh tl th ql qh))
    (d17 : Hid (K1 18 0 0 ql qh rl rh))
    (d18 : Hid (K1 18 0 0 pk pk il ih))
    (d19 : Hid (K2 30 0 0 pe pe 4607182418800017408 4607182418800017408 jl jh))
    (d20 : Hid (K1 18 0 0 jl jh ll lh))
    (d21 : Hid (K2 17 0 0 ll lh il ih ml mh))
    (d22 : Hid (K2 17 0 0 pe pe 4607182418800017408 4607182418800017408 ol oh))
    (d23 : Hid (K1 18 0 0 ol oh xl xh))
    (d24 : Hid (K2 17 0 0 xl xh il ih yl yh))
    (d25 : Hid (K2 32 0 0 ml mh yl yh zl zh))
    (c27 : Hid (∀ w, Calls Try.prog 43 #[.agg #[.float .f64 al, .float .f64 ah], .agg #[.float .f64 rl, .float .f64 rh]] w fun r w' => r = .returned (.bool true) ∧ Below w.heap.size w w'))
    (o_eqlbh_418800017408 : ((FloatKind.f64.format.order bh 4607182418800017408 == some Ordering.eq) = true))
    (o_geqbl_418800009216 : (((FloatKind.f64.format.order bl 4607182418800009216 == some Ordering.gt) || (FloatKind.f64.format.order bl 4607182418800009216 == some Ordering.eq)) = true))
    (c28 : Hid (∀ w, Calls Try.prog 43 #[.agg #[.float .f64 dl, .float .f64 dh], .agg #[.float .f64 zl, .float .f64 zh]] w fun r w' => r = .returned (.bool true) ∧ Below w.heap.size w w'))
    (q_da : (∀ w, (binOp .sub 22 (.float .f64 ah) (.float .f64 al)).run Try.prog w = .ok (.float .f64 da) w))
    (o_lssda_433705197568 : ((FloatKind.f64.format.order da 4427038433705197568 == some Ordering.lt) = true))
    (q_dd : (∀ w, (binOp .sub 22 (.float .f64 dh) (.float .f64 dl)).run Try.prog w = .ok (.float .f64 dd) w))
    (o_lssdd_429978902528 : ((FloatKind.f64.format.order dd 4472074429978902528 == some Ordering.lt) = true))
    (c29 : Hid (∀ w, Calls Try.prog 44 #[] w fun r w' => r = .returned (.bool true) ∧ Below w.heap.size w w')) :
    Calls Try.prog 8 #[.int .u32 u0, .int .u32 v0, .int .u32 w0] w fun r w' => r = .returned (.bool true) ∧ Below w.heap.size w w' := by
  have M := Lib.hid (Own.nil w)
  have eqF := eq_floats
  go_enter Try.func8, Try.ntmps8
  go_wp2_with fail
  refine (c1.out _).mono ?_
  rintro r w1_ ⟨rfl, rfl⟩
  go_wp2_with fail
  refine (c2.out _).mono ?_
  rintro r w2_ ⟨rfl, hb⟩
  replace M := Lib.hid (M.out.below hb)
  clear hb
  go_wp2_with fail
  refine (c3.out _).mono ?_
  rintro r w3_ ⟨rfl, rfl⟩
  go_wp2_with fail
  refine (c4.out _).mono ?_
  rintro r w4_ ⟨rfl, hb⟩
  replace M := Lib.hid (M.out.below hb)
  clear hb
  go_wp2_with fail
  refine (c5.out _).mono ?_
  rintro r w5_ ⟨rfl, rfl⟩
  go_wp2_with fail
  refine (c6.out _).mono ?_
  rintro r w6_ ⟨rfl, hb⟩
  replace M := Lib.hid (M.out.below hb)
  clear hb
  replace M := Lib.hid (M.out.made #[.float .f64 pn, .float .f64 pn] 24)
  replace M := Lib.hid (M.out.made #[.float .f64 pe, .float .f64 pe] 24)
  replace M := Lib.hid (M.out.made #[.float .f64 pk, .float .f64 pk] 24)
  simp only [World.size_alloc] at M
  go_upto_region 2 with fail
  replace M := Lib.hid M.out.drew
  refine wp_region_noPanic ?_
  refine tails_region (S := fun w' => (w'.cell? ⟨w6_.heap.size, 0, none⟩ = some (.float .f64 pn) ∧ w'.cell? ⟨w6_.heap.size, 1, none⟩ = some (.float .f64 pn))) [] (by kernel_rfl) ?_ (fun hS => ?_)
  · exact (M.out.nth 2 rfl).two
  refine tk (x := ?_) 1 rfl (by kernel_rfl) ⟨by rfl, ?_⟩ (fun _ _ _ h => h) hS ?_
  rotate_left; focus (intro w hSw; (try dsimp only at hSw); go_simp; try with_reducible rfl)
  conv => arg 9; simp only [Act.put, go_sem]
  refine lp_ccppp_1 M 0 2 3 4 5 6 [31, 33, 30, 34, 35, 10] 2 (fnJ2 w al ah) (by kernel_rfl) (by kernel_rfl) ?_ ?_ ?_ ?_ ?_ ?_ ?_ ?_ ?_
  · intro A hA
    obtain ⟨y1, hq1⟩ := put_ex (hA 31 (by simp))
    obtain ⟨y2, hq2⟩ := put_ex (hA 33 (by simp))
    obtain ⟨y3, hq3⟩ := put_ex (hA 30 (by simp))
    obtain ⟨y4, hq4⟩ := put_ex (hA 34 (by simp))
    obtain ⟨y5, hq5⟩ := put_ex (hA 35 (by simp))
    obtain ⟨z1, hq6⟩ := put_ex (hA 10 (by simp))
    exact ⟨y1, y2, y3, y4, y5, z1, by rw [hq1, hq2, hq3, hq4, hq5, hq6], by omega, by omega, by omega, by omega, by omega, by simp, OwnF.start M.out 1⟩
  · rintro k p a v ⟨y1, y2, y3, y4, y5, z1, _, _, _, _, _, _, _, h⟩
    exact (h.own.nth 2 rfl).two
  · intro p a v hJ
    refine op_step (o := _) rfl (fun K hK => ?_)
    obtain ⟨y1, y2, y3, y4, y5, z1, ha, gg1, h⟩ := fnJ2_0 hJ
    have h := Lib.hid h
    clear hJ
    subst ha
    go_simp
    refine (c7.out _).mono ?_
    rintro rr w5 ⟨rfl, hp⟩
    try go_wp2_with fail
    refine hK.out _ _ ⟨_, y2, y3, y4, y5, z1, ?_, fun _ => rfl, by omega, by omega, by omega, by omega, gg1, h.out.below hp⟩
    kernel_rfl
  · intro p a v hJ
    refine op_step (o := _) rfl (fun K hK => ?_)
    obtain ⟨y2, y3, y4, y5, z1, ha, gg1, h⟩ := fnJ2_1 hJ
    have h := Lib.hid h
    clear hJ
    subst ha
    go_simp
    refine (c8.out _).mono ?_
    rintro rr w5 ⟨rfl, hp⟩
    try go_wp2_with fail
    refine hK.out _ _ ⟨_, _, y3, y4, y5, z1, ?_, fun _ => rfl, fun _ => rfl, by omega, by omega, by omega, gg1, h.out.below hp⟩
    kernel_rfl
  · intro p a v hJ
    obtain ⟨y3, y4, y5, z1, ha, gg1, h⟩ := fnJ2_2 hJ
    clear hJ
    subst ha
    refine ⟨_, .tuple #[.agg #[.float .f64 al, .float .f64 ah], .int .i64 0], rfl, Or.inl ⟨by rfl, ?_⟩, (fun _ _ _ h => h), _, _, _, y4, y5, z1, ?_, fun _ => rfl, fun _ => rfl, fun _ => rfl, by omega, by omega, gg1, h⟩
    · intro w hSw; clear hSw h; go_simp; try with_reducible rfl
    · kernel_rfl
  · intro p a v hJ
    obtain ⟨y4, y5, z1, ha, gg1, h⟩ := fnJ2_3 hJ
    clear hJ
    subst ha
    refine ⟨_, .agg #[.float .f64 al, .float .f64 ah], rfl, Or.inl ⟨by rfl, ?_⟩, (fun _ _ _ h => h), _, _, _, _, y5, z1, ?_, fun _ => rfl, fun _ => rfl, fun _ => rfl, fun _ => rfl, by omega, gg1, h⟩
    · intro w hSw; clear hSw h; go_simp; try with_reducible rfl
    · kernel_rfl
  · intro p a v hJ
    obtain ⟨y5, z1, ha, gg1, h⟩ := fnJ2_4 hJ
    clear hJ
    subst ha
    refine ⟨_, .int .i64 0, rfl, Or.inl ⟨by rfl, ?_⟩, (fun _ _ _ h => h), _, _, _, _, _, z1, ?_, fun _ => rfl, fun _ => rfl, fun _ => rfl, fun _ => rfl, fun _ => rfl, gg1, h⟩
    · intro w hSw; clear hSw h; go_simp; try with_reducible rfl
    · kernel_rfl
  · intro k p a v hp hJ
    refine op_step (o := _) rfl (fun K hK => ?_)
    obtain ⟨y1, y2, y3, y4, y5, z1, ha, ee1, ee2, ee3, ee4, ee5, gg1, h⟩ := hJ
    have h := Lib.hid h
    subst ha
    go_simp
    refine hK.out _ _ ⟨v.heap.size, y1, y2, y3, y4, y5, .pointer (some ⟨v.heap.size, 0, none⟩), ?_, ee1, ee2, ee3, ee4, ee5, fun q hq => ptr_set hq, h.out.alloc hp rfl _⟩
    kernel_rfl
  intro p2_1 a v hJ
  obtain ⟨rfl, h⟩ := fnJ2_fin hJ
  clear hJ
  replace M := Lib.hid h.fin1
  clear h
  refine tails_one (T := []) (i := 7) (o := _) rfl (by kernel_rfl) (fun K hK => ?_)
  have kc := (M.out.nth 0 rfl).2.1
  have kf := (M.out.nth 0 rfl).2.2
  replace M : Hid (Own w [(p2_1, #[.float .f64 al, .float .f64 ah]), ((w6_.heap.size + 2), #[.float .f64 pk, .float .f64 pk]), ((w6_.heap.size + 1), #[.float .f64 pe, .float .f64 pe]), (w6_.heap.size, #[.float .f64 pn, .float .f64 pn])] _) := Lib.hid (M.out.set2 0 rfl (.float .f64 al) (.float .f64 ah))
  go_simp
  refine hK.out _ _ (Or.inr (M.out.nth 3 rfl).two) (fun hHeld => ?_)
  clear hK K hHeld kc kf
  refine tails_one (T := []) (i := 8) (o := _) rfl (by kernel_rfl) (fun K hK => ?_)
  go_simp
  refine hK.out _ _ (Or.inr (M.out.nth 3 rfl).two) (fun hHeld => ?_)
  clear hK K hHeld
  refine tails_done (by kernel_rfl) ?_ _
  refine NoPanic.normal ?_
  clear hS
  revert M
  generalize ((v.setCell ⟨p2_1, 0, none⟩ (.float .f64 al)).setCell ⟨p2_1, 1, none⟩ (.float .f64 ah)) = W7_
  intro M
  go_upto_region 3 with fail
  replace M := Lib.hid M.out.drew
  refine wp_region_noPanic ?_
  refine tails_region (S := fun w' => (w'.cell? ⟨w6_.heap.size, 0, none⟩ = some (.float .f64 pn) ∧ w'.cell? ⟨w6_.heap.size, 1, none⟩ = some (.float .f64 pn))) [] (by kernel_rfl) ?_ (fun hS => ?_)
  · exact (M.out.nth 3 rfl).two
  refine tk (x := ?_) 1 rfl (by kernel_rfl) ⟨by rfl, ?_⟩ (fun _ _ _ h => h) hS ?_
  rotate_left; focus (intro w hSw; (try dsimp only at hSw); go_simp; try with_reducible rfl)
  conv => arg 9; simp only [Act.put, go_sem]
  refine lp_ccppp_1 M 0 2 3 4 5 6 [37, 39, 36, 40, 41, 12] 2 (fnJ3 w bl bh) (by kernel_rfl) (by kernel_rfl) ?_ ?_ ?_ ?_ ?_ ?_ ?_ ?_ ?_
  · intro A hA
    obtain ⟨y1, hq1⟩ := put_ex (hA 37 (by simp))
    obtain ⟨y2, hq2⟩ := put_ex (hA 39 (by simp))
    obtain ⟨y3, hq3⟩ := put_ex (hA 36 (by simp))
    obtain ⟨y4, hq4⟩ := put_ex (hA 40 (by simp))
    obtain ⟨y5, hq5⟩ := put_ex (hA 41 (by simp))
    obtain ⟨z1, hq6⟩ := put_ex (hA 12 (by simp))
    exact ⟨y1, y2, y3, y4, y5, z1, by rw [hq1, hq2, hq3, hq4, hq5, hq6], by omega, by omega, by omega, by omega, by omega, by simp, OwnF.start M.out 1⟩
  · rintro k p a v ⟨y1, y2, y3, y4, y5, z1, _, _, _, _, _, _, _, h⟩
    exact (h.own.nth 3 rfl).two
  · intro p a v hJ
    refine op_step (o := _) rfl (fun K hK => ?_)
    obtain ⟨y1, y2, y3, y4, y5, z1, ha, gg1, h⟩ := fnJ3_0 hJ
    have h := Lib.hid h
    clear hJ
    subst ha
    go_simp
    refine (c9.out _).mono ?_
    rintro rr w5 ⟨rfl, hp⟩
    try go_wp2_with fail
    refine hK.out _ _ ⟨_, y2, y3, y4, y5, z1, ?_, fun _ => rfl, by omega, by omega, by omega, by omega, gg1, h.out.below hp⟩
    kernel_rfl
  · intro p a v hJ
    refine op_step (o := _) rfl (fun K hK => ?_)
    obtain ⟨y2, y3, y4, y5, z1, ha, gg1, h⟩ := fnJ3_1 hJ
    have h := Lib.hid h
    clear hJ
    subst ha
    go_simp
    refine (c10.out _).mono ?_
    rintro rr w5 ⟨rfl, hp⟩
    try go_wp2_with fail
    refine hK.out _ _ ⟨_, _, y3, y4, y5, z1, ?_, fun _ => rfl, fun _ => rfl, by omega, by omega, by omega, gg1, h.out.below hp⟩
    kernel_rfl
  · intro p a v hJ
    obtain ⟨y3, y4, y5, z1, ha, gg1, h⟩ := fnJ3_2 hJ
    clear hJ
    subst ha
    refine ⟨_, .tuple #[.agg #[.float .f64 bl, .float .f64 bh], .int .i64 0], rfl, Or.inl ⟨by rfl, ?_⟩, (fun _ _ _ h => h), _, _, _, y4, y5, z1, ?_, fun _ => rfl, fun _ => rfl, fun _ => rfl, by omega, by omega, gg1, h⟩
    · intro w hSw; clear hSw h; go_simp; try with_reducible rfl
    · kernel_rfl
  · intro p a v hJ
    obtain ⟨y4, y5, z1, ha, gg1, h⟩ := fnJ3_3 hJ
    clear hJ
    subst ha
    refine ⟨_, .agg #[.float .f64 bl, .float .f64 bh], rfl, Or.inl ⟨by rfl, ?_⟩, (fun _ _ _ h => h), _, _, _, _, y5, z1, ?_, fun _ => rfl, fun _ => rfl, fun _ => rfl, fun _ => rfl, by omega, gg1, h⟩
    · intro w hSw; clear hSw h; go_simp; try with_reducible rfl
    · kernel_rfl
  · intro p a v hJ
    obtain ⟨y5, z1, ha, gg1, h⟩ := fnJ3_4 hJ
    clear hJ
    subst ha
    refine ⟨_, .int .i64 0, rfl, Or.inl ⟨by rfl, ?_⟩, (fun _ _ _ h => h), _, _, _, _, _, z1, ?_, fun _ => rfl, fun _ => rfl, fun _ => rfl, fun _ => rfl, fun _ => rfl, gg1, h⟩
    · intro w hSw; clear hSw h; go_simp; try with_reducible rfl
    · kernel_rfl
  · intro k p a v hp hJ
    refine op_step (o := _) rfl (fun K hK => ?_)
    obtain ⟨y1, y2, y3, y4, y5, z1, ha, ee1, ee2, ee3, ee4, ee5, gg1, h⟩ := hJ
    have h := Lib.hid h
    subst ha
    go_simp
    refine hK.out _ _ ⟨v.heap.size, y1, y2, y3, y4, y5, .pointer (some ⟨v.heap.size, 0, none⟩), ?_, ee1, ee2, ee3, ee4, ee5, fun q hq => ptr_set hq, h.out.alloc hp rfl _⟩
    kernel_rfl
  intro p3_1 a v hJ
  obtain ⟨rfl, h⟩ := fnJ3_fin hJ
  clear hJ
  replace M := Lib.hid h.fin1
  clear h
  refine tails_one (T := []) (i := 7) (o := _) rfl (by kernel_rfl) (fun K hK => ?_)
  have kc := (M.out.nth 0 rfl).2.1
  have kf := (M.out.nth 0 rfl).2.2
  replace M : Hid (Own w [(p3_1, #[.float .f64 bl, .float .f64 bh]), (p2_1, #[.float .f64 al, .float .f64 ah]), ((w6_.heap.size + 2), #[.float .f64 pk, .float .f64 pk]), ((w6_.heap.size + 1), #[.float .f64 pe, .float .f64 pe]), (w6_.heap.size, #[.float .f64 pn, .float .f64 pn])] _) := Lib.hid (M.out.set2 0 rfl (.float .f64 bl) (.float .f64 bh))
  go_simp
  refine hK.out _ _ (Or.inr (M.out.nth 4 rfl).two) (fun hHeld => ?_)
  clear hK K hHeld kc kf
  refine tails_one (T := []) (i := 8) (o := _) rfl (by kernel_rfl) (fun K hK => ?_)
  go_simp
  refine hK.out _ _ (Or.inr (M.out.nth 4 rfl).two) (fun hHeld => ?_)
  clear hK K hHeld
  refine tails_done (by kernel_rfl) ?_ _
  refine NoPanic.normal ?_
  clear hS
  revert M
  generalize ((v.setCell ⟨p3_1, 0, none⟩ (.float .f64 bl)).setCell ⟨p3_1, 1, none⟩ (.float .f64 bh)) = W8_
  intro M
  go_upto_region 4 with fail
  replace M := Lib.hid M.out.drew
  refine wp_region_noPanic ?_
  refine tails_region (S := fun w' => (w'.cell? ⟨(w6_.heap.size + 1), 0, none⟩ = some (.float .f64 pe) ∧ w'.cell? ⟨(w6_.heap.size + 1), 1, none⟩ = some (.float .f64 pe)) ∧ (w'.cell? ⟨(w6_.heap.size + 2), 0, none⟩ = some (.float .f64 pk) ∧ w'.cell? ⟨(w6_.heap.size + 2), 1, none⟩ = some (.float .f64 pk))) [] (by kernel_rfl) ?_ (fun hS => ?_)
  · exact ⟨(M.out.nth 3 rfl).two, (M.out.nth 2 rfl).two⟩
  refine tk (x := ?_) 1 rfl (by kernel_rfl) ⟨by rfl, ?_⟩ (fun _ _ _ h => h) hS ?_
  rotate_left; focus (intro w hSw; (try dsimp only at hSw); go_simp; try with_reducible rfl)
  refine tk (x := ?_) 2 rfl (by kernel_rfl) ⟨by rfl, ?_⟩ (fun _ _ _ h => h) hS ?_
  rotate_left; focus (intro w hSw; (try dsimp only at hSw); go_simp; try with_reducible rfl)
  conv => arg 9; simp only [Act.put, go_sem]
  refine lp_ccppp_1 M 0 3 4 5 6 7 [43, 46, 42, 47, 48, 14] 2 (fnJ4 w dl dh) (by kernel_rfl) (by kernel_rfl) ?_ ?_ ?_ ?_ ?_ ?_ ?_ ?_ ?_
  · intro A hA
    obtain ⟨y1, hq1⟩ := put_ex (hA 43 (by simp))
    obtain ⟨y2, hq2⟩ := put_ex (hA 46 (by simp))
    obtain ⟨y3, hq3⟩ := put_ex (hA 42 (by simp))
    obtain ⟨y4, hq4⟩ := put_ex (hA 47 (by simp))
    obtain ⟨y5, hq5⟩ := put_ex (hA 48 (by simp))
    obtain ⟨z1, hq6⟩ := put_ex (hA 14 (by simp))
    exact ⟨y1, y2, y3, y4, y5, z1, by rw [hq1, hq2, hq3, hq4, hq5, hq6], by omega, by omega, by omega, by omega, by omega, by simp, OwnF.start M.out 1⟩
  · rintro k p a v ⟨y1, y2, y3, y4, y5, z1, _, _, _, _, _, _, _, h⟩
    exact ⟨(h.own.nth 3 rfl).two, (h.own.nth 2 rfl).two⟩
  · intro p a v hJ
    refine op_step (o := _) rfl (fun K hK => ?_)
    obtain ⟨y1, y2, y3, y4, y5, z1, ha, gg1, h⟩ := fnJ4_0 hJ
    have h := Lib.hid h
    clear hJ
    subst ha
    go_simp
    refine (c7.out _).mono ?_
    rintro rr w5 ⟨rfl, hp⟩
    try go_wp2_with fail
    refine hK.out _ _ ⟨_, y2, y3, y4, y5, z1, ?_, fun _ => rfl, by omega, by omega, by omega, by omega, gg1, h.out.below hp⟩
    kernel_rfl
  · intro p a v hJ
    refine op_step (o := _) rfl (fun K hK => ?_)
    obtain ⟨y2, y3, y4, y5, z1, ha, gg1, h⟩ := fnJ4_1 hJ
    have h := Lib.hid h
    clear hJ
    subst ha
    go_simp
    refine (c12.out _).mono ?_
    rintro rr w5 ⟨rfl, hp⟩
    try go_wp2_with fail
    refine hK.out _ _ ⟨_, _, y3, y4, y5, z1, ?_, fun _ => rfl, fun _ => rfl, by omega, by omega, by omega, gg1, h.out.below hp⟩
    kernel_rfl
  · intro p a v hJ
    obtain ⟨y3, y4, y5, z1, ha, gg1, h⟩ := fnJ4_2 hJ
    clear hJ
    subst ha
    refine ⟨_, .tuple #[.agg #[.float .f64 dl, .float .f64 dh], .int .i64 0], rfl, Or.inl ⟨by rfl, ?_⟩, (fun _ _ _ h => h), _, _, _, y4, y5, z1, ?_, fun _ => rfl, fun _ => rfl, fun _ => rfl, by omega, by omega, gg1, h⟩
    · intro w hSw; clear hSw h; go_simp; try with_reducible rfl
    · kernel_rfl
  · intro p a v hJ
    obtain ⟨y4, y5, z1, ha, gg1, h⟩ := fnJ4_3 hJ
    clear hJ
    subst ha
    refine ⟨_, .agg #[.float .f64 dl, .float .f64 dh], rfl, Or.inl ⟨by rfl, ?_⟩, (fun _ _ _ h => h), _, _, _, _, y5, z1, ?_, fun _ => rfl, fun _ => rfl, fun _ => rfl, fun _ => rfl, by omega, gg1, h⟩
    · intro w hSw; clear hSw h; go_simp; try with_reducible rfl
    · kernel_rfl
  · intro p a v hJ
    obtain ⟨y5, z1, ha, gg1, h⟩ := fnJ4_4 hJ
    clear hJ
    subst ha
    refine ⟨_, .int .i64 0, rfl, Or.inl ⟨by rfl, ?_⟩, (fun _ _ _ h => h), _, _, _, _, _, z1, ?_, fun _ => rfl, fun _ => rfl, fun _ => rfl, fun _ => rfl, fun _ => rfl, gg1, h⟩
    · intro w hSw; clear hSw h; go_simp; try with_reducible rfl
    · kernel_rfl
  · intro k p a v hp hJ
    refine op_step (o := _) rfl (fun K hK => ?_)
    obtain ⟨y1, y2, y3, y4, y5, z1, ha, ee1, ee2, ee3, ee4, ee5, gg1, h⟩ := hJ
    have h := Lib.hid h
    subst ha
    go_simp
    refine hK.out _ _ ⟨v.heap.size, y1, y2, y3, y4, y5, .pointer (some ⟨v.heap.size, 0, none⟩), ?_, ee1, ee2, ee3, ee4, ee5, fun q hq => ptr_set hq, h.out.alloc hp rfl _⟩
    kernel_rfl
  intro p4_1 a v hJ
  obtain ⟨rfl, h⟩ := fnJ4_fin hJ
  clear hJ
  replace M := Lib.hid h.fin1
  clear h
  refine tails_one (T := []) (i := 8) (o := _) rfl (by kernel_rfl) (fun K hK => ?_)
  have kc := (M.out.nth 0 rfl).2.1
  have kf := (M.out.nth 0 rfl).2.2
  replace M : Hid (Own w [(p4_1, #[.float .f64 dl, .float .f64 dh]), (p3_1, #[.float .f64 bl, .float .f64 bh]), (p2_1, #[.float .f64 al, .float .f64 ah]), ((w6_.heap.size + 2), #[.float .f64 pk, .float .f64 pk]), ((w6_.heap.size + 1), #[.float .f64 pe, .float .f64 pe]), (w6_.heap.size, #[.float .f64 pn, .float .f64 pn])] _) := Lib.hid (M.out.set2 0 rfl (.float .f64 dl) (.float .f64 dh))
  go_simp
  refine hK.out _ _ (Or.inr ⟨(M.out.nth 4 rfl).two, (M.out.nth 3 rfl).two⟩) (fun hHeld => ?_)
  clear hK K hHeld kc kf
  refine tails_one (T := []) (i := 9) (o := _) rfl (by kernel_rfl) (fun K hK => ?_)
  go_simp
  refine hK.out _ _ (Or.inr ⟨(M.out.nth 4 rfl).two, (M.out.nth 3 rfl).two⟩) (fun hHeld => ?_)
  clear hK K hHeld
  refine tails_done (by kernel_rfl) ?_ _
  refine NoPanic.normal ?_
  clear hS
  revert M
  generalize ((v.setCell ⟨p4_1, 0, none⟩ (.float .f64 dl)).setCell ⟨p4_1, 1, none⟩ (.float .f64 dh)) = W9_
  intro M
  replace M := Lib.hid (M.out.made #[.int .i64 0] 32)
  go_wp2_with fail
  refine (d13.out _ _ (M.out.nth 0 rfl)).mono ?_
  rintro r w10_ ⟨rfl, hb⟩
  replace M : Hid (Own w [(W9_.heap.size, #[.int .i64 0]), (p4_1, #[.float .f64 dl, .float .f64 dh]), (p3_1, #[.float .f64 bl, .float .f64 bh]), (p2_1, #[.float .f64 al, .float .f64 ah]), ((w6_.heap.size + 2), #[.float .f64 pk, .float .f64 pk]), ((w6_.heap.size + 1), #[.float .f64 pe, .float .f64 pe]), (w6_.heap.size, #[.float .f64 pn, .float .f64 pn])] w10_) := Lib.hid (M.out.putAt 0 rfl hb)
  clear hb
  replace M := Lib.hid (M.out.made #[.float .f64 4607182418800017408, .float .f64 4607182418800017408] 24).front
  go_upto_region 7 with fail
  replace M := Lib.hid M.out.drew
  refine wp_region_noPanic ?_
  refine tails_region (S := fun w' => (w'.cell? ⟨w6_.heap.size, 0, none⟩ = some (.float .f64 pn) ∧ w'.cell? ⟨w6_.heap.size, 1, none⟩ = some (.float .f64 pn)) ∧ (w'.cell? ⟨w10_.heap.size, 0, none⟩ = some (.float .f64 4607182418800017408) ∧ w'.cell? ⟨w10_.heap.size, 1, none⟩ = some (.float .f64 4607182418800017408))) [] (by kernel_rfl) ?_ (fun hS => ?_)
  · exact ⟨(M.out.nth 7 rfl).two, (M.out.nth 1 rfl).two⟩
  refine tk (x := ?_) 0 rfl (by kernel_rfl) ⟨by rfl, ?_⟩ (fun _ _ _ h => h) hS ?_
  rotate_left; focus (intro w hSw; (try dsimp only at hSw); go_simp; try with_reducible rfl)
  refine tk (x := ?_) 1 rfl (by kernel_rfl) ⟨by rfl, ?_⟩ (fun _ _ _ h => h) hS ?_
  rotate_left; focus (intro w hSw; (try dsimp only at hSw); go_simp; try with_reducible rfl)
  refine tk (x := ?_) 2 rfl (by kernel_rfl) ⟨by rfl, ?_⟩ (fun _ _ _ h => h) hS ?_
  rotate_left; focus (intro w hSw; (try dsimp only at hSw); go_simp; try with_reducible rfl)
  refine tk (x := ?_) 3 rfl (by kernel_rfl) ⟨by rfl, ?_⟩ (fun _ _ _ h => h) hS ?_
  rotate_left; focus (intro w hSw; (try dsimp only at hSw); go_simp; try with_reducible rfl)
  refine tk (x := ?_) 4 rfl (by kernel_rfl) ⟨by rfl, ?_⟩ (fun _ _ _ h => h) hS ?_
  rotate_left; focus (intro w hSw; (try dsimp only at hSw); go_simp; try with_reducible rfl)
  refine tk (x := ?_) 6 rfl (by kernel_rfl) ⟨by rfl, ?_⟩ (fun _ _ _ h => h) hS ?_
  rotate_left; focus (intro w hSw; (try dsimp only at hSw); go_simp; try with_reducible rfl)
  refine tk (x := ?_) 7 rfl (by kernel_rfl) ⟨by rfl, ?_⟩ (fun _ _ _ h => h) hS ?_
  rotate_left; focus (intro w hSw; (try dsimp only at hSw); go_simp; try with_reducible rfl)
  refine tk (x := ?_) 8 rfl (by kernel_rfl) ⟨by rfl, ?_⟩ (fun _ _ _ h => h) hS ?_
  rotate_left; focus (intro w hSw; (try dsimp only at hSw); go_simp; try with_reducible rfl)
  conv => arg 9; simp only [Act.put, go_sem]
  refine lpx_cccc_1 M 5 9 10 11 12 [58, 62, 63, 64, 18] 1 (fnJ7 w W9_.heap.size sl sh tl th ql qh rl rh) (by kernel_rfl) (by kernel_rfl) ?_ ?_ ?_ ?_ ?_ ?_ ?_ ?_
  · intro A hA
    obtain ⟨y1, hq1⟩ := put_ex (hA 58 (by simp))
    obtain ⟨y2, hq2⟩ := put_ex (hA 62 (by simp))
    obtain ⟨y3, hq3⟩ := put_ex (hA 63 (by simp))
    obtain ⟨y4, hq4⟩ := put_ex (hA 64 (by simp))
    obtain ⟨z1, hq5⟩ := put_ex (hA 18 (by simp))
    exact ⟨y1, y2, y3, y4, z1, by rw [hq1, hq2, hq3, hq4, hq5], by omega, by omega, by omega, by omega, by simp, OwnF.start M.out 1⟩
  · rintro k p a v ⟨y1, y2, y3, y4, z1, _, _, _, _, _, _, h⟩
    exact ⟨(h.own.nth 7 rfl).two, (h.own.nth 1 rfl).two⟩
  · intro p a v hJ
    refine op_step (o := _) rfl (fun K hK => ?_)
    obtain ⟨y1, y2, y3, y4, z1, ha, gg1, h⟩ := fnJ7_0 hJ
    have h := Lib.hid h
    clear hJ
    subst ha
    go_simp
    refine (d14.out _ _ (h.out.own.nth 0 rfl)).mono ?_
    rintro rr w5 ⟨rfl, hp⟩
    try go_wp2_with fail
    refine hK.out _ _ ⟨_, y2, y3, y4, z1, ?_, fun _ => rfl, by omega, by omega, by omega, gg1, h.out.putHead hp⟩
    kernel_rfl
  · intro p a v hJ
    refine op_step (o := _) rfl (fun K hK => ?_)
    obtain ⟨y2, y3, y4, z1, ha, gg1, h⟩ := fnJ7_1 hJ
    have h := Lib.hid h
    clear hJ
    subst ha
    go_simp
    refine (d15.out _ _ (h.out.own.nth 0 rfl)).mono ?_
    rintro rr w5 ⟨rfl, hp⟩
    try go_wp2_with fail
    refine hK.out _ _ ⟨_, _, y3, y4, z1, ?_, fun _ => rfl, fun _ => rfl, by omega, by omega, gg1, h.out.putHead hp⟩
    kernel_rfl
  · intro p a v hJ
    refine op_step (o := _) rfl (fun K hK => ?_)
    obtain ⟨y3, y4, z1, ha, gg1, h⟩ := fnJ7_2 hJ
    have h := Lib.hid h
    clear hJ
    subst ha
    go_simp
    refine (d16.out _ _ (h.out.own.nth 0 rfl)).mono ?_
    rintro rr w5 ⟨rfl, hp⟩
    try go_wp2_with fail
    refine hK.out _ _ ⟨_, _, _, y4, z1, ?_, fun _ => rfl, fun _ => rfl, fun _ => rfl, by omega, gg1, h.out.putHead hp⟩
    kernel_rfl
  · intro p a v hJ
    refine op_step (o := _) rfl (fun K hK => ?_)
    obtain ⟨y4, z1, ha, gg1, h⟩ := fnJ7_3 hJ
    have h := Lib.hid h
    clear hJ
    subst ha
    go_simp
    refine (d17.out _ _ (h.out.own.nth 0 rfl)).mono ?_
    rintro rr w5 ⟨rfl, hp⟩
    try go_wp2_with fail
    refine hK.out _ _ ⟨_, _, _, _, z1, ?_, fun _ => rfl, fun _ => rfl, fun _ => rfl, fun _ => rfl, gg1, h.out.putHead hp⟩
    kernel_rfl
  · intro k p a v hp hJ
    refine op_step (o := _) rfl (fun K hK => ?_)
    obtain ⟨y1, y2, y3, y4, z1, ha, ee1, ee2, ee3, ee4, gg1, h⟩ := hJ
    have h := Lib.hid h
    subst ha
    go_simp
    refine hK.out _ _ ⟨v.heap.size, y1, y2, y3, y4, .pointer (some ⟨v.heap.size, 0, none⟩), ?_, ee1, ee2, ee3, ee4, fun q hq => ptr_set hq, h.out.alloc hp rfl _⟩
    kernel_rfl
  intro p7_1 a v hJ
  obtain ⟨rfl, h⟩ := fnJ7_fin hJ
  clear hJ
  replace M := Lib.hid h.fin1
  clear h
  refine tails_one (T := []) (i := 13) (o := _) rfl (by kernel_rfl) (fun K hK => ?_)
  have kc := (M.out.nth 0 rfl).2.1
  have kf := (M.out.nth 0 rfl).2.2
  replace M : Hid (Own w [(p7_1, #[.float .f64 rl, .float .f64 rh]), (W9_.heap.size, #[.int .i64 0]), (w10_.heap.size, #[.float .f64 4607182418800017408, .float .f64 4607182418800017408]), (p4_1, #[.float .f64 dl, .float .f64 dh]), (p3_1, #[.float .f64 bl, .float .f64 bh]), (p2_1, #[.float .f64 al, .float .f64 ah]), ((w6_.heap.size + 2), #[.float .f64 pk, .float .f64 pk]), ((w6_.heap.size + 1), #[.float .f64 pe, .float .f64 pe]), (w6_.heap.size, #[.float .f64 pn, .float .f64 pn])] _) := Lib.hid (M.out.set2 0 rfl (.float .f64 rl) (.float .f64 rh))
  go_simp
  refine hK.out _ _ (Or.inr ⟨(M.out.nth 8 rfl).two, (M.out.nth 2 rfl).two⟩) (fun hHeld => ?_)
  clear hK K hHeld kc kf
  refine tails_done (by kernel_rfl) ?_ _
  refine NoPanic.normal ?_
  clear hS
  replace M : Hid (Own w [(W9_.heap.size, #[.int .i64 0]), (p7_1, #[.float .f64 rl, .float .f64 rh]), (w10_.heap.size, #[.float .f64 4607182418800017408, .float .f64 4607182418800017408]), (p4_1, #[.float .f64 dl, .float .f64 dh]), (p3_1, #[.float .f64 bl, .float .f64 bh]), (p2_1, #[.float .f64 al, .float .f64 ah]), ((w6_.heap.size + 2), #[.float .f64 pk, .float .f64 pk]), ((w6_.heap.size + 1), #[.float .f64 pe, .float .f64 pe]), (w6_.heap.size, #[.float .f64 pn, .float .f64 pn])] _) := Lib.hid M.out.front
  revert M
  generalize ((v.setCell ⟨p7_1, 0, none⟩ (.float .f64 rl)).setCell ⟨p7_1, 1, none⟩ (.float .f64 rh)) = W11_
  intro M
  obtain ⟨k1, k2⟩ := (M.out.nth 6 rfl).two
  go_wp2_with fail
  refine (d18.out _ _ (M.out.nth 0 rfl)).mono ?_
  rintro r w12_ ⟨rfl, hb⟩
  replace M : Hid (Own w [(W9_.heap.size, #[.int .i64 0]), (p7_1, #[.float .f64 rl, .float .f64 rh]), (w10_.heap.size, #[.float .f64 4607182418800017408, .float .f64 4607182418800017408]), (p4_1, #[.float .f64 dl, .float .f64 dh]), (p3_1, #[.float .f64 bl, .float .f64 bh]), (p2_1, #[.float .f64 al, .float .f64 ah]), ((w6_.heap.size + 2), #[.float .f64 pk, .float .f64 pk]), ((w6_.heap.size + 1), #[.float .f64 pe, .float .f64 pe]), (w6_.heap.size, #[.float .f64 pn, .float .f64 pn])] w12_) := Lib.hid (M.out.putAt 0 rfl hb)
  clear hb
  clear k1 k2
  replace M := Lib.hid (M.out.made #[.float .f64 il, .float .f64 ih] 24).front
  go_upto_region 9 with fail
  replace M := Lib.hid M.out.drew
  refine wp_region_noPanic ?_
  refine tails_region (S := fun w' => (w'.cell? ⟨(w6_.heap.size + 1), 0, none⟩ = some (.float .f64 pe) ∧ w'.cell? ⟨(w6_.heap.size + 1), 1, none⟩ = some (.float .f64 pe)) ∧ (w'.cell? ⟨w10_.heap.size, 0, none⟩ = some (.float .f64 4607182418800017408) ∧ w'.cell? ⟨w10_.heap.size, 1, none⟩ = some (.float .f64 4607182418800017408)) ∧ (w'.cell? ⟨w12_.heap.size, 0, none⟩ = some (.float .f64 il) ∧ w'.cell? ⟨w12_.heap.size, 1, none⟩ = some (.float .f64 ih))) [] (by kernel_rfl) ?_ (fun hS => ?_)
  · exact ⟨(M.out.nth 8 rfl).two, (M.out.nth 3 rfl).two, (M.out.nth 1 rfl).two⟩
  refine tk (x := ?_) 0 rfl (by kernel_rfl) ⟨by rfl, ?_⟩ (fun _ _ _ h => h) hS ?_
  rotate_left; focus (intro w hSw; (try dsimp only at hSw); go_simp; try with_reducible rfl)
  refine tk (x := ?_) 1 rfl (by kernel_rfl) ⟨by rfl, ?_⟩ (fun _ _ _ h => h) hS ?_
  rotate_left; focus (intro w hSw; (try dsimp only at hSw); go_simp; try with_reducible rfl)
  refine tk (x := ?_) 2 rfl (by kernel_rfl) ⟨by rfl, ?_⟩ (fun _ _ _ h => h) hS ?_
  rotate_left; focus (intro w hSw; (try dsimp only at hSw); go_simp; try with_reducible rfl)
  refine tk (x := ?_) 3 rfl (by kernel_rfl) ⟨by rfl, ?_⟩ (fun _ _ _ h => h) hS ?_
  rotate_left; focus (intro w hSw; (try dsimp only at hSw); go_simp; try with_reducible rfl)
  refine tk (x := ?_) 4 rfl (by kernel_rfl) ⟨by rfl, ?_⟩ (fun _ _ _ h => h) hS ?_
  rotate_left; focus (intro w hSw; (try dsimp only at hSw); go_simp; try with_reducible rfl)
  refine tk (x := ?_) 5 rfl (by kernel_rfl) ⟨by rfl, ?_⟩ (fun _ _ _ h => h) hS ?_
  rotate_left; focus (intro w hSw; (try dsimp only at hSw); go_simp; try with_reducible rfl)
  refine tk (x := ?_) 8 rfl (by kernel_rfl) ⟨by rfl, ?_⟩ (fun _ _ _ h => h) hS ?_
  rotate_left; focus (intro w hSw; (try dsimp only at hSw); go_simp; try with_reducible rfl)
  refine tk (x := ?_) 10 rfl (by kernel_rfl) ⟨by rfl, ?_⟩ (fun _ _ _ h => h) hS ?_
  rotate_left; focus (intro w hSw; (try dsimp only at hSw); go_simp; try with_reducible rfl)
  refine tk (x := ?_) 11 rfl (by kernel_rfl) ⟨by rfl, ?_⟩ (fun _ _ _ h => h) hS ?_
  rotate_left; focus (intro w hSw; (try dsimp only at hSw); go_simp; try with_reducible rfl)
  refine tk (x := ?_) 12 rfl (by kernel_rfl) ⟨by rfl, ?_⟩ (fun _ _ _ h => h) hS ?_
  rotate_left; focus (intro w hSw; (try dsimp only at hSw); go_simp; try with_reducible rfl)
  refine tk (x := ?_) 13 rfl (by kernel_rfl) ⟨by rfl, ?_⟩ (fun _ _ _ h => h) hS ?_
  rotate_left; focus (intro w hSw; (try dsimp only at hSw); go_simp; try with_reducible rfl)
  refine tk (x := ?_) 14 rfl (by kernel_rfl) ⟨by rfl, ?_⟩ (fun _ _ _ h => h) hS ?_
  rotate_left; focus (intro w hSw; (try dsimp only at hSw); go_simp; try with_reducible rfl)
  refine tk (x := ?_) 17 rfl (by kernel_rfl) ⟨by rfl, ?_⟩ (fun _ _ _ h => h) hS ?_
  rotate_left; focus (intro w hSw; (try dsimp only at hSw); go_simp; try with_reducible rfl)
  conv => arg 9; simp only [Act.put, go_sem]
  refine lpx_ccccccc_1 M 6 7 9 15 16 18 19 20 [74, 75, 77, 83, 84, 86, 87, 20] 1 (fnJ9 w W9_.heap.size jl jh ll lh ml mh ol oh xl xh yl yh zl zh) (by kernel_rfl) (by kernel_rfl) ?_ ?_ ?_ ?_ ?_ ?_ ?_ ?_ ?_ ?_ ?_
  · intro A hA
    obtain ⟨y1, hq1⟩ := put_ex (hA 74 (by simp))
    obtain ⟨y2, hq2⟩ := put_ex (hA 75 (by simp))
    obtain ⟨y3, hq3⟩ := put_ex (hA 77 (by simp))
    obtain ⟨y4, hq4⟩ := put_ex (hA 83 (by simp))
    obtain ⟨y5, hq5⟩ := put_ex (hA 84 (by simp))
    obtain ⟨y6, hq6⟩ := put_ex (hA 86 (by simp))
    obtain ⟨y7, hq7⟩ := put_ex (hA 87 (by simp))
    obtain ⟨z1, hq8⟩ := put_ex (hA 20 (by simp))
    exact ⟨y1, y2, y3, y4, y5, y6, y7, z1, by rw [hq1, hq2, hq3, hq4, hq5, hq6, hq7, hq8], by omega, by omega, by omega, by omega, by omega, by omega, by omega, by simp, OwnF.start M.out 1⟩
  · rintro k p a v ⟨y1, y2, y3, y4, y5, y6, y7, z1, _, _, _, _, _, _, _, _, _, h⟩
    exact ⟨(h.own.nth 8 rfl).two, (h.own.nth 3 rfl).two, (h.own.nth 1 rfl).two⟩
  · intro p a v hJ
    refine op_step (o := _) rfl (fun K hK => ?_)
    obtain ⟨y1, y2, y3, y4, y5, y6, y7, z1, ha, gg1, h⟩ := fnJ9_0 hJ
    have h := Lib.hid h
    clear hJ
    subst ha
    go_simp
    refine (d19.out _ _ (h.out.own.nth 0 rfl)).mono ?_
    rintro rr w5 ⟨rfl, hp⟩
    try go_wp2_with fail
    refine hK.out _ _ ⟨_, y2, y3, y4, y5, y6, y7, z1, ?_, fun _ => rfl, by omega, by omega, by omega, by omega, by omega, by omega, gg1, h.out.putHead hp⟩
    kernel_rfl
  · intro p a v hJ
    refine op_step (o := _) rfl (fun K hK => ?_)
    obtain ⟨y2, y3, y4, y5, y6, y7, z1, ha, gg1, h⟩ := fnJ9_1 hJ
    have h := Lib.hid h
    clear hJ
    subst ha
    go_simp
    refine (d20.out _ _ (h.out.own.nth 0 rfl)).mono ?_
    rintro rr w5 ⟨rfl, hp⟩
    try go_wp2_with fail
    refine hK.out _ _ ⟨_, _, y3, y4, y5, y6, y7, z1, ?_, fun _ => rfl, fun _ => rfl, by omega, by omega, by omega, by omega, by omega, gg1, h.out.putHead hp⟩
    kernel_rfl
  · intro p a v hJ
    refine op_step (o := _) rfl (fun K hK => ?_)
    obtain ⟨y3, y4, y5, y6, y7, z1, ha, gg1, h⟩ := fnJ9_2 hJ
    have h := Lib.hid h
    clear hJ
    subst ha
    go_simp
    refine (d21.out _ _ (h.out.own.nth 0 rfl)).mono ?_
    rintro rr w5 ⟨rfl, hp⟩
    try go_wp2_with fail
    refine hK.out _ _ ⟨_, _, _, y4, y5, y6, y7, z1, ?_, fun _ => rfl, fun _ => rfl, fun _ => rfl, by omega, by omega, by omega, by omega, gg1, h.out.putHead hp⟩
    kernel_rfl
  · intro p a v hJ
    refine op_step (o := _) rfl (fun K hK => ?_)
    obtain ⟨y4, y5, y6, y7, z1, ha, gg1, h⟩ := fnJ9_3 hJ
    have h := Lib.hid h
    clear hJ
    subst ha
    go_simp
    refine (d22.out _ _ (h.out.own.nth 0 rfl)).mono ?_
    rintro rr w5 ⟨rfl, hp⟩
    try go_wp2_with fail
    refine hK.out _ _ ⟨_, _, _, _, y5, y6, y7, z1, ?_, fun _ => rfl, fun _ => rfl, fun _ => rfl, fun _ => rfl, by omega, by omega, by omega, gg1, h.out.putHead hp⟩
    kernel_rfl
  · intro p a v hJ
    refine op_step (o := _) rfl (fun K hK => ?_)
    obtain ⟨y5, y6, y7, z1, ha, gg1, h⟩ := fnJ9_4 hJ
    have h := Lib.hid h
    clear hJ
    subst ha
    go_simp
    refine (d23.out _ _ (h.out.own.nth 0 rfl)).mono ?_
    rintro rr w5 ⟨rfl, hp⟩
    try go_wp2_with fail
    refine hK.out _ _ ⟨_, _, _, _, _, y6, y7, z1, ?_, fun _ => rfl, fun _ => rfl, fun _ => rfl, fun _ => rfl, fun _ => rfl, by omega, by omega, gg1, h.out.putHead hp⟩
    kernel_rfl
  · intro p a v hJ
    refine op_step (o := _) rfl (fun K hK => ?_)
    obtain ⟨y6, y7, z1, ha, gg1, h⟩ := fnJ9_5 hJ
    have h := Lib.hid h
    clear hJ
    subst ha
    go_simp
    refine (d24.out _ _ (h.out.own.nth 0 rfl)).mono ?_
    rintro rr w5 ⟨rfl, hp⟩
    try go_wp2_with fail
    refine hK.out _ _ ⟨_, _, _, _, _, _, y7, z1, ?_, fun _ => rfl, fun _ => rfl, fun _ => rfl, fun _ => rfl, fun _ => rfl, fun _ => rfl, by omega, gg1, h.out.putHead hp⟩
    kernel_rfl
  · intro p a v hJ
    refine op_step (o := _) rfl (fun K hK => ?_)
    obtain ⟨y7, z1, ha, gg1, h⟩ := fnJ9_6 hJ
    have h := Lib.hid h
    clear hJ
    subst ha
    go_simp
    refine (d25.out _ _ (h.out.own.nth 0 rfl)).mono ?_
    rintro rr w5 ⟨rfl, hp⟩
    try go_wp2_with fail
    refine hK.out _ _ ⟨_, _, _, _, _, _, _, z1, ?_, fun _ => rfl, fun _ => rfl, fun _ => rfl, fun _ => rfl, fun _ => rfl, fun _ => rfl, fun _ => rfl, gg1, h.out.putHead hp⟩
    kernel_rfl
  · intro k p a v hp hJ
    refine op_step (o := _) rfl (fun K hK => ?_)
    obtain ⟨y1, y2, y3, y4, y5, y6, y7, z1, ha, ee1, ee2, ee3, ee4, ee5, ee6, ee7, gg1, h⟩ := hJ
    have h := Lib.hid h
    subst ha
    go_simp
    refine hK.out _ _ ⟨v.heap.size, y1, y2, y3, y4, y5, y6, y7, .pointer (some ⟨v.heap.size, 0, none⟩), ?_, ee1, ee2, ee3, ee4, ee5, ee6, ee7, fun q hq => ptr_set hq, h.out.alloc hp rfl _⟩
    kernel_rfl
  intro p9_1 a v hJ
  obtain ⟨rfl, h⟩ := fnJ9_fin hJ
  clear hJ
  replace M := Lib.hid h.fin1
  clear h
  refine tails_one (T := []) (i := 21) (o := _) rfl (by kernel_rfl) (fun K hK => ?_)
  have kc := (M.out.nth 0 rfl).2.1
  have kf := (M.out.nth 0 rfl).2.2
  replace M : Hid (Own w [(p9_1, #[.float .f64 zl, .float .f64 zh]), (W9_.heap.size, #[.int .i64 0]), (w12_.heap.size, #[.float .f64 il, .float .f64 ih]), (p7_1, #[.float .f64 rl, .float .f64 rh]), (w10_.heap.size, #[.float .f64 4607182418800017408, .float .f64 4607182418800017408]), (p4_1, #[.float .f64 dl, .float .f64 dh]), (p3_1, #[.float .f64 bl, .float .f64 bh]), (p2_1, #[.float .f64 al, .float .f64 ah]), ((w6_.heap.size + 2), #[.float .f64 pk, .float .f64 pk]), ((w6_.heap.size + 1), #[.float .f64 pe, .float .f64 pe]), (w6_.heap.size, #[.float .f64 pn, .float .f64 pn])] _) := Lib.hid (M.out.set2 0 rfl (.float .f64 zl) (.float .f64 zh))
  go_simp
  refine hK.out _ _ (Or.inr ⟨(M.out.nth 9 rfl).two, (M.out.nth 4 rfl).two, (M.out.nth 2 rfl).two⟩) (fun hHeld => ?_)
  clear hK K hHeld kc kf
  refine tails_done (by kernel_rfl) ?_ _
  refine NoPanic.normal ?_
  clear hS
  replace M : Hid (Own w [(W9_.heap.size, #[.int .i64 0]), (p9_1, #[.float .f64 zl, .float .f64 zh]), (w12_.heap.size, #[.float .f64 il, .float .f64 ih]), (p7_1, #[.float .f64 rl, .float .f64 rh]), (w10_.heap.size, #[.float .f64 4607182418800017408, .float .f64 4607182418800017408]), (p4_1, #[.float .f64 dl, .float .f64 dh]), (p3_1, #[.float .f64 bl, .float .f64 bh]), (p2_1, #[.float .f64 al, .float .f64 ah]), ((w6_.heap.size + 2), #[.float .f64 pk, .float .f64 pk]), ((w6_.heap.size + 1), #[.float .f64 pe, .float .f64 pe]), (w6_.heap.size, #[.float .f64 pn, .float .f64 pn])] _) := Lib.hid M.out.front
  revert M
  generalize ((v.setCell ⟨p9_1, 0, none⟩ (.float .f64 zl)).setCell ⟨p9_1, 1, none⟩ (.float .f64 zh)) = W13_
  intro M
  go_wp2_with fail
  refine (err_any 0 _ 0 _ (M.out.nth 0 rfl).pc).mono ?_
  rintro r w14_ ⟨rfl, rfl⟩
  obtain ⟨k1, k2⟩ := (M.out.nth 7 rfl).two
  obtain ⟨k3, k4⟩ := (M.out.nth 3 rfl).two
  go_wp2_with fail
  refine (c27.out _).mono ?_
  rintro r w15_ ⟨rfl, hb⟩
  replace M := Lib.hid (M.out.below hb)
  clear hb
  clear k1 k2 k3 k4
  obtain ⟨k1, k2⟩ := (M.out.nth 6 rfl).two
  obtain ⟨k3, k4⟩ := (M.out.nth 5 rfl).two
  obtain ⟨k5, k6⟩ := (M.out.nth 1 rfl).two
  go_wp2_with fail
  refine (c28.out _).mono ?_
  rintro r w16_ ⟨rfl, hb⟩
  replace M := Lib.hid (M.out.below hb)
  clear hb
  clear k1 k2 k3 k4 k5 k6
  obtain ⟨k1, k2⟩ := (M.out.nth 7 rfl).two
  obtain ⟨k3, k4⟩ := (M.out.nth 5 rfl).two
  go_wp2_with fail
  refine (c29.out _).mono ?_
  rintro r w17_ ⟨rfl, hb⟩
  replace M := Lib.hid (M.out.below hb)
  clear hb
  clear k1 k2 k3 k4
  go_wp2
  go_ret
  exact ⟨rfl, M.out.base⟩

end Go.Proofs.Ytoocmocaelcbkaa
