
/- LambertFalls: the law's walk. -/
import Derived.Test.YtoocmocaelcbkaaLmA
import Derived.Deep.RegionHeld3
namespace Go.Proofs.Ytoocmocaelcbkaa
open Go.RowKit
attribute [local go_sem] run_store_float

section
variable {P : Program} {ops : Array Oper} {Q : Exit → Act → World → Prop} {md : Region.Mode} {S : World → Prop}
theorem lp_cc_2 {a0 : Act} {B v : World} {l : List (Nat × Array Value)} (_ : Hid (Own B l v)) {w0 : World} {L0 : Array Bool} (c1 c2 m1 m2 : Nat) (slots : List Nat) (N : Nat) (J : List (Nat × Array Value) → Act → Nat → List (Option Nat) → Act → World → Prop) (hok : latOkP [false, false] md ops L0 [c1, c2] [m1, m2] = true)
    (hsl : (slots.all fun s => decide (s < a0.tmps.size)) = true) (h0 : ∀ A : Act, (∀ s, s ∈ slots → s < A.tmps.size) → J l A 0 (List.replicate 2 none) A w0)
    (hS : ∀ k p a w, J l a0 k p a w → S w)
    (k1 : ∀ p a w, J l a0 0 p a w → wpOp P ops Q c1 (fun b v => J l a0 1 p b v) a w)
    (k2 : ∀ p a w, J l a0 1 p a w → wpOp P ops Q c2 (fun b v => J l a0 2 p b v) a w)
    (n1 : ∀ k p a w, p[0]? = some none → J l a0 k p a w → wpOp P ops Q m1 (fun b v => ∃ q, J l a0 k (p.set 0 (some q)) b v) a w)
    (n2 : ∀ k p a w, p[1]? = some none → J l a0 k p a w → wpOp P ops Q m2 (fun b v => ∃ q, J l a0 k (p.set 1 (some q)) b v) a w)
    (fin : ∀ q1 q2 a w, J l a0 2 [some q1, some q2] a w → wpAnyV P md ops Q S [] N (lstOf L0 [c1, c2] [m1, m2] 2 [true, true]) a w) :
    wpAnyV P md ops Q S [] (N + 4) L0 a0 w0 := by
  refine latP_from (pl := [false, false]) [c1, c2] [m1, m2] slots N 4 (J l) hok rfl hsl h0 hS (fun k i p a w hk hn hJ => ?_) (fun k i p a w hk hn hJ => ?_) (fun k m i p a w hm hp hJ => ?_) (fun p a w hp hall hJ => ?_)
  · rcases k with _ | _ | k
    · obtain rfl : c1 = i := by simpa using hk
      exact k1 p a w hJ
    · obtain rfl : c2 = i := by simpa using hk
      exact k2 p a w hJ
    · simp at hk
  · rcases k with _ | _ | k
    · exact absurd hn (by decide)
    · exact absurd hn (by decide)
    · simp at hk
  · rcases m with _ | _ | m
    · obtain rfl : m1 = i := by simpa using hm
      exact n1 k p a w hp hJ
    · obtain rfl : m2 = i := by simpa using hm
      exact n2 k p a w hp hJ
    · simp at hm
  · obtain ⟨q1, q2, rfl⟩ := fin_two hp hall
    exact fin q1 q2 a w hJ
theorem lp_ccppp_1 {a0 : Act} {B v : World} {l : List (Nat × Array Value)} (_ : Hid (Own B l v)) {w0 : World} {L0 : Array Bool} (c1 c2 c3 c4 c5 m1 : Nat) (slots : List Nat) (N : Nat) (J : List (Nat × Array Value) → Act → Nat → List (Option Nat) → Act → World → Prop) (hok : latOkP [false, false, true, true, true] md ops L0 [c1, c2, c3, c4, c5] [m1] = true)
    (hsl : (slots.all fun s => decide (s < a0.tmps.size)) = true) (h0 : ∀ A : Act, (∀ s, s ∈ slots → s < A.tmps.size) → J l A 0 (List.replicate 1 none) A w0)
    (hS : ∀ k p a w, J l a0 k p a w → S w)
    (k1 : ∀ p a w, J l a0 0 p a w → wpOp P ops Q c1 (fun b v => J l a0 1 p b v) a w)
    (k2 : ∀ p a w, J l a0 1 p a w → wpOp P ops Q c2 (fun b v => J l a0 2 p b v) a w)
    (k3 : ∀ p a w, J l a0 2 p a w → ∃ o x, ops[c3]? = some o ∧ YieldsIf P ops S o x a ∧ (∀ c a w, Q (.panic c) (a.put o.dst x) w → Q (.panic c) a w) ∧ J l a0 3 p (a.put o.dst x) w)
    (k4 : ∀ p a w, J l a0 3 p a w → ∃ o x, ops[c4]? = some o ∧ YieldsIf P ops S o x a ∧ (∀ c a w, Q (.panic c) (a.put o.dst x) w → Q (.panic c) a w) ∧ J l a0 4 p (a.put o.dst x) w)
    (k5 : ∀ p a w, J l a0 4 p a w → ∃ o x, ops[c5]? = some o ∧ YieldsIf P ops S o x a ∧ (∀ c a w, Q (.panic c) (a.put o.dst x) w → Q (.panic c) a w) ∧ J l a0 5 p (a.put o.dst x) w)
    (n1 : ∀ k p a w, p[0]? = some none → J l a0 k p a w → wpOp P ops Q m1 (fun b v => ∃ q, J l a0 k (p.set 0 (some q)) b v) a w)
    (fin : ∀ q1 a w, J l a0 5 [some q1] a w → wpAnyV P md ops Q S [] N (lstOf L0 [c1, c2, c3, c4, c5] [m1] 5 [true]) a w) :
    wpAnyV P md ops Q S [] (N + 6) L0 a0 w0 := by
  refine latP_from (pl := [false, false, true, true, true]) [c1, c2, c3, c4, c5] [m1] slots N 6 (J l) hok rfl hsl h0 hS (fun k i p a w hk hn hJ => ?_) (fun k i p a w hk hn hJ => ?_) (fun k m i p a w hm hp hJ => ?_) (fun p a w hp hall hJ => ?_)
  · rcases k with _ | _ | _ | _ | _ | k
    · obtain rfl : c1 = i := by simpa using hk
      exact k1 p a w hJ
    · obtain rfl : c2 = i := by simpa using hk
      exact k2 p a w hJ
    · exact absurd hn (by decide)
    · exact absurd hn (by decide)
    · exact absurd hn (by decide)
    · simp at hk
  · rcases k with _ | _ | _ | _ | _ | k
    · exact absurd hn (by decide)
    · exact absurd hn (by decide)
    · obtain rfl : c3 = i := by simpa using hk
      exact k3 p a w hJ
    · obtain rfl : c4 = i := by simpa using hk
      exact k4 p a w hJ
    · obtain rfl : c5 = i := by simpa using hk
      exact k5 p a w hJ
    · simp at hk
  · rcases m with _ | m
    · obtain rfl : m1 = i := by simpa using hm
      exact n1 k p a w hp hJ
    · simp at hm
  · obtain ⟨q1, rfl⟩ := fin_one hp hall
    exact fin q1 a w hJ
theorem lp_cccppp_1 {a0 : Act} {B v : World} {l : List (Nat × Array Value)} (_ : Hid (Own B l v)) {w0 : World} {L0 : Array Bool} (c1 c2 c3 c4 c5 c6 m1 : Nat) (slots : List Nat) (N : Nat) (J : List (Nat × Array Value) → Act → Nat → List (Option Nat) → Act → World → Prop) (hok : latOkP [false, false, false, true, true, true] md ops L0 [c1, c2, c3, c4, c5, c6] [m1] = true)
    (hsl : (slots.all fun s => decide (s < a0.tmps.size)) = true) (h0 : ∀ A : Act, (∀ s, s ∈ slots → s < A.tmps.size) → J l A 0 (List.replicate 1 none) A w0)
    (hS : ∀ k p a w, J l a0 k p a w → S w)
    (k1 : ∀ p a w, J l a0 0 p a w → wpOp P ops Q c1 (fun b v => J l a0 1 p b v) a w)
    (k2 : ∀ p a w, J l a0 1 p a w → wpOp P ops Q c2 (fun b v => J l a0 2 p b v) a w)
    (k3 : ∀ p a w, J l a0 2 p a w → wpOp P ops Q c3 (fun b v => J l a0 3 p b v) a w)
    (k4 : ∀ p a w, J l a0 3 p a w → ∃ o x, ops[c4]? = some o ∧ YieldsIf P ops S o x a ∧ (∀ c a w, Q (.panic c) (a.put o.dst x) w → Q (.panic c) a w) ∧ J l a0 4 p (a.put o.dst x) w)
    (k5 : ∀ p a w, J l a0 4 p a w → ∃ o x, ops[c5]? = some o ∧ YieldsIf P ops S o x a ∧ (∀ c a w, Q (.panic c) (a.put o.dst x) w → Q (.panic c) a w) ∧ J l a0 5 p (a.put o.dst x) w)
    (k6 : ∀ p a w, J l a0 5 p a w → ∃ o x, ops[c6]? = some o ∧ YieldsIf P ops S o x a ∧ (∀ c a w, Q (.panic c) (a.put o.dst x) w → Q (.panic c) a w) ∧ J l a0 6 p (a.put o.dst x) w)
    (n1 : ∀ k p a w, p[0]? = some none → J l a0 k p a w → wpOp P ops Q m1 (fun b v => ∃ q, J l a0 k (p.set 0 (some q)) b v) a w)
    (fin : ∀ q1 a w, J l a0 6 [some q1] a w → wpAnyV P md ops Q S [] N (lstOf L0 [c1, c2, c3, c4, c5, c6] [m1] 6 [true]) a w) :
    wpAnyV P md ops Q S [] (N + 7) L0 a0 w0 := by
  refine latP_from (pl := [false, false, false, true, true, true]) [c1, c2, c3, c4, c5, c6] [m1] slots N 7 (J l) hok rfl hsl h0 hS (fun k i p a w hk hn hJ => ?_) (fun k i p a w hk hn hJ => ?_) (fun k m i p a w hm hp hJ => ?_) (fun p a w hp hall hJ => ?_)
  · rcases k with _ | _ | _ | _ | _ | _ | k
    · obtain rfl : c1 = i := by simpa using hk
      exact k1 p a w hJ
    · obtain rfl : c2 = i := by simpa using hk
      exact k2 p a w hJ
    · obtain rfl : c3 = i := by simpa using hk
      exact k3 p a w hJ
    · exact absurd hn (by decide)
    · exact absurd hn (by decide)
    · exact absurd hn (by decide)
    · simp at hk
  · rcases k with _ | _ | _ | _ | _ | _ | k
    · exact absurd hn (by decide)
    · exact absurd hn (by decide)
    · exact absurd hn (by decide)
    · obtain rfl : c4 = i := by simpa using hk
      exact k4 p a w hJ
    · obtain rfl : c5 = i := by simpa using hk
      exact k5 p a w hJ
    · obtain rfl : c6 = i := by simpa using hk
      exact k6 p a w hJ
    · simp at hk
  · rcases m with _ | m
    · obtain rfl : m1 = i := by simpa using hm
      exact n1 k p a w hp hJ
    · simp at hm
  · obtain ⟨q1, rfl⟩ := fin_one hp hall
    exact fin q1 a w hJ
end

/-- Region 1. -/
def lfJ1 (w : World) (al ah cl ch : Nat) (l : RowL) (a0 : Act) (k : Nat) (p : List (Option Nat)) (a : Act) (v : World) : Prop :=
  ∃ y1 y2 z1 z2 : Value, a = ((((a0.put (some 27) y1).put (some 32) y2).put (some 5) z1).put (some 6) z2) ∧ (0 < k → y1 = .agg #[.float .f64 al, .float .f64 ah]) ∧ (1 < k → y2 = .agg #[.float .f64 cl, .float .f64 ch]) ∧ (∀ q, p[0]? = some (some q) → z1 = .pointer (some ⟨q, 0, none⟩)) ∧ (∀ q, p[1]? = some (some q) → z2 = .pointer (some ⟨q, 0, none⟩)) ∧ OwnF w l [#[.float .f64 0, .float .f64 0], #[.float .f64 0, .float .f64 0]] p v
section
variable {w v : World} {al ah cl ch : Nat} {l : RowL} {a0 a : Act} {p : List (Option Nat)}
theorem lfJ1_0 (h : lfJ1 w al ah cl ch l a0 0 p a v) : ∃ y1 y2 z1 z2 : Value, a = ((((a0.put (some 27) y1).put (some 32) y2).put (some 5) z1).put (some 6) z2) ∧ (∀ q, p[0]? = some (some q) → z1 = .pointer (some ⟨q, 0, none⟩)) ∧ (∀ q, p[1]? = some (some q) → z2 = .pointer (some ⟨q, 0, none⟩)) ∧ OwnF w l [#[.float .f64 0, .float .f64 0], #[.float .f64 0, .float .f64 0]] p v := by
  obtain ⟨y1, y2, z1, z2, ha, E1, E2, G1, G2, h⟩ := h
  exact ⟨y1, y2, z1, z2, ha, G1, G2, h⟩
theorem lfJ1_1 (h : lfJ1 w al ah cl ch l a0 1 p a v) : ∃ y2 z1 z2 : Value, a = ((((a0.put (some 27) (.agg #[.float .f64 al, .float .f64 ah])).put (some 32) y2).put (some 5) z1).put (some 6) z2) ∧ (∀ q, p[0]? = some (some q) → z1 = .pointer (some ⟨q, 0, none⟩)) ∧ (∀ q, p[1]? = some (some q) → z2 = .pointer (some ⟨q, 0, none⟩)) ∧ OwnF w l [#[.float .f64 0, .float .f64 0], #[.float .f64 0, .float .f64 0]] p v := by
  obtain ⟨y1, y2, z1, z2, ha, E1, E2, G1, G2, h⟩ := h
  obtain rfl := E1 (by decide)
  exact ⟨y2, z1, z2, ha, G1, G2, h⟩
theorem lfJ1_fin {q1 q2 : Nat} (h : lfJ1 w al ah cl ch l a0 2 [some q1, some q2] a v) : a = ((((a0.put (some 27) (.agg #[.float .f64 al, .float .f64 ah])).put (some 32) (.agg #[.float .f64 cl, .float .f64 ch])).put (some 5) (.pointer (some ⟨q1, 0, none⟩))).put (some 6) (.pointer (some ⟨q2, 0, none⟩))) ∧ OwnF w l [#[.float .f64 0, .float .f64 0], #[.float .f64 0, .float .f64 0]] [some q1, some q2] v := by
  obtain ⟨y1, y2, z1, z2, ha, E1, E2, G1, G2, h⟩ := h
  obtain rfl := E1 (by decide)
  obtain rfl := E2 (by decide)
  obtain rfl := G1 _ rfl
  obtain rfl := G2 _ rfl
  exact ⟨ha, h⟩
end

/-- Region 2. -/
def lfJ2 (w : World) (rl rh dl dh : Nat) (l : RowL) (a0 : Act) (k : Nat) (p : List (Option Nat)) (a : Act) (v : World) : Prop :=
  ∃ y1 y2 z1 z2 : Value, a = ((((a0.put (some 41) y1).put (some 50) y2).put (some 7) z1).put (some 8) z2) ∧ (0 < k → y1 = .agg #[.float .f64 rl, .float .f64 rh]) ∧ (1 < k → y2 = .agg #[.float .f64 dl, .float .f64 dh]) ∧ (∀ q, p[0]? = some (some q) → z1 = .pointer (some ⟨q, 0, none⟩)) ∧ (∀ q, p[1]? = some (some q) → z2 = .pointer (some ⟨q, 0, none⟩)) ∧ OwnF w l [#[.float .f64 0, .float .f64 0], #[.float .f64 0, .float .f64 0]] p v
section
variable {w v : World} {rl rh dl dh : Nat} {l : RowL} {a0 a : Act} {p : List (Option Nat)}
theorem lfJ2_0 (h : lfJ2 w rl rh dl dh l a0 0 p a v) : ∃ y1 y2 z1 z2 : Value, a = ((((a0.put (some 41) y1).put (some 50) y2).put (some 7) z1).put (some 8) z2) ∧ (∀ q, p[0]? = some (some q) → z1 = .pointer (some ⟨q, 0, none⟩)) ∧ (∀ q, p[1]? = some (some q) → z2 = .pointer (some ⟨q, 0, none⟩)) ∧ OwnF w l [#[.float .f64 0, .float .f64 0], #[.float .f64 0, .float .f64 0]] p v := by
  obtain ⟨y1, y2, z1, z2, ha, E1, E2, G1, G2, h⟩ := h
  exact ⟨y1, y2, z1, z2, ha, G1, G2, h⟩
theorem lfJ2_1 (h : lfJ2 w rl rh dl dh l a0 1 p a v) : ∃ y2 z1 z2 : Value, a = ((((a0.put (some 41) (.agg #[.float .f64 rl, .float .f64 rh])).put (some 50) y2).put (some 7) z1).put (some 8) z2) ∧ (∀ q, p[0]? = some (some q) → z1 = .pointer (some ⟨q, 0, none⟩)) ∧ (∀ q, p[1]? = some (some q) → z2 = .pointer (some ⟨q, 0, none⟩)) ∧ OwnF w l [#[.float .f64 0, .float .f64 0], #[.float .f64 0, .float .f64 0]] p v := by
  obtain ⟨y1, y2, z1, z2, ha, E1, E2, G1, G2, h⟩ := h
  obtain rfl := E1 (by decide)
  exact ⟨y2, z1, z2, ha, G1, G2, h⟩
theorem lfJ2_fin {q1 q2 : Nat} (h : lfJ2 w rl rh dl dh l a0 2 [some q1, some q2] a v) : a = ((((a0.put (some 41) (.agg #[.float .f64 rl, .float .f64 rh])).put (some 50) (.agg #[.float .f64 dl, .float .f64 dh])).put (some 7) (.pointer (some ⟨q1, 0, none⟩))).put (some 8) (.pointer (some ⟨q2, 0, none⟩))) ∧ OwnF w l [#[.float .f64 0, .float .f64 0], #[.float .f64 0, .float .f64 0]] [some q1, some q2] v := by
  obtain ⟨y1, y2, z1, z2, ha, E1, E2, G1, G2, h⟩ := h
  obtain rfl := E1 (by decide)
  obtain rfl := E2 (by decide)
  obtain rfl := G1 _ rfl
  obtain rfl := G2 _ rfl
  exact ⟨ha, h⟩
end

/-- Region 7. -/
def lfJ7 (w : World) (l : RowL) (a0 : Act) (k : Nat) (p : List (Option Nat)) (a : Act) (v : World) : Prop :=
  ∃ y1 y2 y3 y4 y5 z1 : Value, a = ((((((a0.put (some 75) y1).put (some 76) y2).put (some 73) y3).put (some 77) y4).put (some 78) y5).put (some 17) z1) ∧ (0 < k → y1 = .agg #[.float .f64 4607182418800017408, .float .f64 4607182418800017408]) ∧ (1 < k → y2 = .tuple #[.agg #[.float .f64 0, .float .f64 0], .int .i64 0]) ∧ (2 < k → y3 = .tuple #[.agg #[.float .f64 0, .float .f64 0], .int .i64 0]) ∧ (3 < k → y4 = .agg #[.float .f64 0, .float .f64 0]) ∧ (4 < k → y5 = .int .i64 0) ∧ (∀ q, p[0]? = some (some q) → z1 = .pointer (some ⟨q, 0, none⟩)) ∧ OwnF w l [#[.float .f64 0, .float .f64 0]] p v
section
variable {w v : World} {l : RowL} {a0 a : Act} {p : List (Option Nat)}
theorem lfJ7_0 (h : lfJ7 w l a0 0 p a v) : ∃ y1 y2 y3 y4 y5 z1 : Value, a = ((((((a0.put (some 75) y1).put (some 76) y2).put (some 73) y3).put (some 77) y4).put (some 78) y5).put (some 17) z1) ∧ (∀ q, p[0]? = some (some q) → z1 = .pointer (some ⟨q, 0, none⟩)) ∧ OwnF w l [#[.float .f64 0, .float .f64 0]] p v := by
  obtain ⟨y1, y2, y3, y4, y5, z1, ha, E1, E2, E3, E4, E5, G1, h⟩ := h
  exact ⟨y1, y2, y3, y4, y5, z1, ha, G1, h⟩
theorem lfJ7_1 (h : lfJ7 w l a0 1 p a v) : ∃ y2 y3 y4 y5 z1 : Value, a = ((((((a0.put (some 75) (.agg #[.float .f64 4607182418800017408, .float .f64 4607182418800017408])).put (some 76) y2).put (some 73) y3).put (some 77) y4).put (some 78) y5).put (some 17) z1) ∧ (∀ q, p[0]? = some (some q) → z1 = .pointer (some ⟨q, 0, none⟩)) ∧ OwnF w l [#[.float .f64 0, .float .f64 0]] p v := by
  obtain ⟨y1, y2, y3, y4, y5, z1, ha, E1, E2, E3, E4, E5, G1, h⟩ := h
  obtain rfl := E1 (by decide)
  exact ⟨y2, y3, y4, y5, z1, ha, G1, h⟩
theorem lfJ7_2 (h : lfJ7 w l a0 2 p a v) : ∃ y3 y4 y5 z1 : Value, a = ((((((a0.put (some 75) (.agg #[.float .f64 4607182418800017408, .float .f64 4607182418800017408])).put (some 76) (.tuple #[.agg #[.float .f64 0, .float .f64 0], .int .i64 0])).put (some 73) y3).put (some 77) y4).put (some 78) y5).put (some 17) z1) ∧ (∀ q, p[0]? = some (some q) → z1 = .pointer (some ⟨q, 0, none⟩)) ∧ OwnF w l [#[.float .f64 0, .float .f64 0]] p v := by
  obtain ⟨y1, y2, y3, y4, y5, z1, ha, E1, E2, E3, E4, E5, G1, h⟩ := h
  obtain rfl := E1 (by decide)
  obtain rfl := E2 (by decide)
  exact ⟨y3, y4, y5, z1, ha, G1, h⟩
theorem lfJ7_3 (h : lfJ7 w l a0 3 p a v) : ∃ y4 y5 z1 : Value, a = ((((((a0.put (some 75) (.agg #[.float .f64 4607182418800017408, .float .f64 4607182418800017408])).put (some 76) (.tuple #[.agg #[.float .f64 0, .float .f64 0], .int .i64 0])).put (some 73) (.tuple #[.agg #[.float .f64 0, .float .f64 0], .int .i64 0])).put (some 77) y4).put (some 78) y5).put (some 17) z1) ∧ (∀ q, p[0]? = some (some q) → z1 = .pointer (some ⟨q, 0, none⟩)) ∧ OwnF w l [#[.float .f64 0, .float .f64 0]] p v := by
  obtain ⟨y1, y2, y3, y4, y5, z1, ha, E1, E2, E3, E4, E5, G1, h⟩ := h
  obtain rfl := E1 (by decide)
  obtain rfl := E2 (by decide)
  obtain rfl := E3 (by decide)
  exact ⟨y4, y5, z1, ha, G1, h⟩
theorem lfJ7_4 (h : lfJ7 w l a0 4 p a v) : ∃ y5 z1 : Value, a = ((((((a0.put (some 75) (.agg #[.float .f64 4607182418800017408, .float .f64 4607182418800017408])).put (some 76) (.tuple #[.agg #[.float .f64 0, .float .f64 0], .int .i64 0])).put (some 73) (.tuple #[.agg #[.float .f64 0, .float .f64 0], .int .i64 0])).put (some 77) (.agg #[.float .f64 0, .float .f64 0])).put (some 78) y5).put (some 17) z1) ∧ (∀ q, p[0]? = some (some q) → z1 = .pointer (some ⟨q, 0, none⟩)) ∧ OwnF w l [#[.float .f64 0, .float .f64 0]] p v := by
  obtain ⟨y1, y2, y3, y4, y5, z1, ha, E1, E2, E3, E4, E5, G1, h⟩ := h
  obtain rfl := E1 (by decide)
  obtain rfl := E2 (by decide)
  obtain rfl := E3 (by decide)
  obtain rfl := E4 (by decide)
  exact ⟨y5, z1, ha, G1, h⟩
theorem lfJ7_fin {q1 : Nat} (h : lfJ7 w l a0 5 [some q1] a v) : a = ((((((a0.put (some 75) (.agg #[.float .f64 4607182418800017408, .float .f64 4607182418800017408])).put (some 76) (.tuple #[.agg #[.float .f64 0, .float .f64 0], .int .i64 0])).put (some 73) (.tuple #[.agg #[.float .f64 0, .float .f64 0], .int .i64 0])).put (some 77) (.agg #[.float .f64 0, .float .f64 0])).put (some 78) (.int .i64 0)).put (some 17) (.pointer (some ⟨q1, 0, none⟩))) ∧ OwnF w l [#[.float .f64 0, .float .f64 0]] [some q1] v := by
  obtain ⟨y1, y2, y3, y4, y5, z1, ha, E1, E2, E3, E4, E5, G1, h⟩ := h
  obtain rfl := E1 (by decide)
  obtain rfl := E2 (by decide)
  obtain rfl := E3 (by decide)
  obtain rfl := E4 (by decide)
  obtain rfl := E5 (by decide)
  obtain rfl := G1 _ rfl
  exact ⟨ha, h⟩
end

/-- Region 8. -/
def lfJ8 (w : World) (ah cl gl gh : Nat) (l : RowL) (a0 : Act) (k : Nat) (p : List (Option Nat)) (a : Act) (v : World) : Prop :=
  ∃ y1 y2 y3 y4 y5 y6 z1 : Value, a = (((((((a0.put (some 82) y1).put (some 85) y2).put (some 86) y3).put (some 79) y4).put (some 87) y5).put (some 88) y6).put (some 19) z1) ∧ (0 < k → y1 = .agg #[.float .f64 ah, .float .f64 ah]) ∧ (1 < k → y2 = .agg #[.float .f64 cl, .float .f64 cl]) ∧ (2 < k → y3 = .tuple #[.agg #[.float .f64 gl, .float .f64 gh], .int .i64 0]) ∧ (3 < k → y4 = .tuple #[.agg #[.float .f64 gl, .float .f64 gh], .int .i64 0]) ∧ (4 < k → y5 = .agg #[.float .f64 gl, .float .f64 gh]) ∧ (5 < k → y6 = .int .i64 0) ∧ (∀ q, p[0]? = some (some q) → z1 = .pointer (some ⟨q, 0, none⟩)) ∧ OwnF w l [#[.float .f64 0, .float .f64 0]] p v
section
variable {w v : World} {ah cl gl gh : Nat} {l : RowL} {a0 a : Act} {p : List (Option Nat)}
theorem lfJ8_0 (h : lfJ8 w ah cl gl gh l a0 0 p a v) : ∃ y1 y2 y3 y4 y5 y6 z1 : Value, a = (((((((a0.put (some 82) y1).put (some 85) y2).put (some 86) y3).put (some 79) y4).put (some 87) y5).put (some 88) y6).put (some 19) z1) ∧ (∀ q, p[0]? = some (some q) → z1 = .pointer (some ⟨q, 0, none⟩)) ∧ OwnF w l [#[.float .f64 0, .float .f64 0]] p v := by
  obtain ⟨y1, y2, y3, y4, y5, y6, z1, ha, E1, E2, E3, E4, E5, E6, G1, h⟩ := h
  exact ⟨y1, y2, y3, y4, y5, y6, z1, ha, G1, h⟩
theorem lfJ8_1 (h : lfJ8 w ah cl gl gh l a0 1 p a v) : ∃ y2 y3 y4 y5 y6 z1 : Value, a = (((((((a0.put (some 82) (.agg #[.float .f64 ah, .float .f64 ah])).put (some 85) y2).put (some 86) y3).put (some 79) y4).put (some 87) y5).put (some 88) y6).put (some 19) z1) ∧ (∀ q, p[0]? = some (some q) → z1 = .pointer (some ⟨q, 0, none⟩)) ∧ OwnF w l [#[.float .f64 0, .float .f64 0]] p v := by
  obtain ⟨y1, y2, y3, y4, y5, y6, z1, ha, E1, E2, E3, E4, E5, E6, G1, h⟩ := h
  obtain rfl := E1 (by decide)
  exact ⟨y2, y3, y4, y5, y6, z1, ha, G1, h⟩
theorem lfJ8_2 (h : lfJ8 w ah cl gl gh l a0 2 p a v) : ∃ y3 y4 y5 y6 z1 : Value, a = (((((((a0.put (some 82) (.agg #[.float .f64 ah, .float .f64 ah])).put (some 85) (.agg #[.float .f64 cl, .float .f64 cl])).put (some 86) y3).put (some 79) y4).put (some 87) y5).put (some 88) y6).put (some 19) z1) ∧ (∀ q, p[0]? = some (some q) → z1 = .pointer (some ⟨q, 0, none⟩)) ∧ OwnF w l [#[.float .f64 0, .float .f64 0]] p v := by
  obtain ⟨y1, y2, y3, y4, y5, y6, z1, ha, E1, E2, E3, E4, E5, E6, G1, h⟩ := h
  obtain rfl := E1 (by decide)
  obtain rfl := E2 (by decide)
  exact ⟨y3, y4, y5, y6, z1, ha, G1, h⟩
theorem lfJ8_3 (h : lfJ8 w ah cl gl gh l a0 3 p a v) : ∃ y4 y5 y6 z1 : Value, a = (((((((a0.put (some 82) (.agg #[.float .f64 ah, .float .f64 ah])).put (some 85) (.agg #[.float .f64 cl, .float .f64 cl])).put (some 86) (.tuple #[.agg #[.float .f64 gl, .float .f64 gh], .int .i64 0])).put (some 79) y4).put (some 87) y5).put (some 88) y6).put (some 19) z1) ∧ (∀ q, p[0]? = some (some q) → z1 = .pointer (some ⟨q, 0, none⟩)) ∧ OwnF w l [#[.float .f64 0, .float .f64 0]] p v := by
  obtain ⟨y1, y2, y3, y4, y5, y6, z1, ha, E1, E2, E3, E4, E5, E6, G1, h⟩ := h
  obtain rfl := E1 (by decide)
  obtain rfl := E2 (by decide)
  obtain rfl := E3 (by decide)
  exact ⟨y4, y5, y6, z1, ha, G1, h⟩
theorem lfJ8_4 (h : lfJ8 w ah cl gl gh l a0 4 p a v) : ∃ y5 y6 z1 : Value, a = (((((((a0.put (some 82) (.agg #[.float .f64 ah, .float .f64 ah])).put (some 85) (.agg #[.float .f64 cl, .float .f64 cl])).put (some 86) (.tuple #[.agg #[.float .f64 gl, .float .f64 gh], .int .i64 0])).put (some 79) (.tuple #[.agg #[.float .f64 gl, .float .f64 gh], .int .i64 0])).put (some 87) y5).put (some 88) y6).put (some 19) z1) ∧ (∀ q, p[0]? = some (some q) → z1 = .pointer (some ⟨q, 0, none⟩)) ∧ OwnF w l [#[.float .f64 0, .float .f64 0]] p v := by
  obtain ⟨y1, y2, y3, y4, y5, y6, z1, ha, E1, E2, E3, E4, E5, E6, G1, h⟩ := h
  obtain rfl := E1 (by decide)
  obtain rfl := E2 (by decide)
  obtain rfl := E3 (by decide)
  obtain rfl := E4 (by decide)
  exact ⟨y5, y6, z1, ha, G1, h⟩
theorem lfJ8_5 (h : lfJ8 w ah cl gl gh l a0 5 p a v) : ∃ y6 z1 : Value, a = (((((((a0.put (some 82) (.agg #[.float .f64 ah, .float .f64 ah])).put (some 85) (.agg #[.float .f64 cl, .float .f64 cl])).put (some 86) (.tuple #[.agg #[.float .f64 gl, .float .f64 gh], .int .i64 0])).put (some 79) (.tuple #[.agg #[.float .f64 gl, .float .f64 gh], .int .i64 0])).put (some 87) (.agg #[.float .f64 gl, .float .f64 gh])).put (some 88) y6).put (some 19) z1) ∧ (∀ q, p[0]? = some (some q) → z1 = .pointer (some ⟨q, 0, none⟩)) ∧ OwnF w l [#[.float .f64 0, .float .f64 0]] p v := by
  obtain ⟨y1, y2, y3, y4, y5, y6, z1, ha, E1, E2, E3, E4, E5, E6, G1, h⟩ := h
  obtain rfl := E1 (by decide)
  obtain rfl := E2 (by decide)
  obtain rfl := E3 (by decide)
  obtain rfl := E4 (by decide)
  obtain rfl := E5 (by decide)
  exact ⟨y6, z1, ha, G1, h⟩
theorem lfJ8_fin {q1 : Nat} (h : lfJ8 w ah cl gl gh l a0 6 [some q1] a v) : a = (((((((a0.put (some 82) (.agg #[.float .f64 ah, .float .f64 ah])).put (some 85) (.agg #[.float .f64 cl, .float .f64 cl])).put (some 86) (.tuple #[.agg #[.float .f64 gl, .float .f64 gh], .int .i64 0])).put (some 79) (.tuple #[.agg #[.float .f64 gl, .float .f64 gh], .int .i64 0])).put (some 87) (.agg #[.float .f64 gl, .float .f64 gh])).put (some 88) (.int .i64 0)).put (some 19) (.pointer (some ⟨q1, 0, none⟩))) ∧ OwnF w l [#[.float .f64 0, .float .f64 0]] [some q1] v := by
  obtain ⟨y1, y2, y3, y4, y5, y6, z1, ha, E1, E2, E3, E4, E5, E6, G1, h⟩ := h
  obtain rfl := E1 (by decide)
  obtain rfl := E2 (by decide)
  obtain rfl := E3 (by decide)
  obtain rfl := E4 (by decide)
  obtain rfl := E5 (by decide)
  obtain rfl := E6 (by decide)
  obtain rfl := G1 _ rfl
  exact ⟨ha, h⟩
end

/-- Region 9. -/
def lfJ9 (w : World) (ah ch ml mh : Nat) (l : RowL) (a0 : Act) (k : Nat) (p : List (Option Nat)) (a : Act) (v : World) : Prop :=
  ∃ y1 y2 y3 y4 y5 y6 z1 : Value, a = (((((((a0.put (some 92) y1).put (some 95) y2).put (some 96) y3).put (some 89) y4).put (some 97) y5).put (some 98) y6).put (some 21) z1) ∧ (0 < k → y1 = .agg #[.float .f64 ah, .float .f64 ah]) ∧ (1 < k → y2 = .agg #[.float .f64 ch, .float .f64 ch]) ∧ (2 < k → y3 = .tuple #[.agg #[.float .f64 ml, .float .f64 mh], .int .i64 0]) ∧ (3 < k → y4 = .tuple #[.agg #[.float .f64 ml, .float .f64 mh], .int .i64 0]) ∧ (4 < k → y5 = .agg #[.float .f64 ml, .float .f64 mh]) ∧ (5 < k → y6 = .int .i64 0) ∧ (∀ q, p[0]? = some (some q) → z1 = .pointer (some ⟨q, 0, none⟩)) ∧ OwnF w l [#[.float .f64 0, .float .f64 0]] p v
section
variable {w v : World} {ah ch ml mh : Nat} {l : RowL} {a0 a : Act} {p : List (Option Nat)}
theorem lfJ9_0 (h : lfJ9 w ah ch ml mh l a0 0 p a v) : ∃ y1 y2 y3 y4 y5 y6 z1 : Value, a = (((((((a0.put (some 92) y1).put (some 95) y2).put (some 96) y3).put (some 89) y4).put (some 97) y5).put (some 98) y6).put (some 21) z1) ∧ (∀ q, p[0]? = some (some q) → z1 = .pointer (some ⟨q, 0, none⟩)) ∧ OwnF w l [#[.float .f64 0, .float .f64 0]] p v := by
  obtain ⟨y1, y2, y3, y4, y5, y6, z1, ha, E1, E2, E3, E4, E5, E6, G1, h⟩ := h
  exact ⟨y1, y2, y3, y4, y5, y6, z1, ha, G1, h⟩
theorem lfJ9_1 (h : lfJ9 w ah ch ml mh l a0 1 p a v) : ∃ y2 y3 y4 y5 y6 z1 : Value, a = (((((((a0.put (some 92) (.agg #[.float .f64 ah, .float .f64 ah])).put (some 95) y2).put (some 96) y3).put (some 89) y4).put (some 97) y5).put (some 98) y6).put (some 21) z1) ∧ (∀ q, p[0]? = some (some q) → z1 = .pointer (some ⟨q, 0, none⟩)) ∧ OwnF w l [#[.float .f64 0, .float .f64 0]] p v := by
  obtain ⟨y1, y2, y3, y4, y5, y6, z1, ha, E1, E2, E3, E4, E5, E6, G1, h⟩ := h
  obtain rfl := E1 (by decide)
  exact ⟨y2, y3, y4, y5, y6, z1, ha, G1, h⟩
theorem lfJ9_2 (h : lfJ9 w ah ch ml mh l a0 2 p a v) : ∃ y3 y4 y5 y6 z1 : Value, a = (((((((a0.put (some 92) (.agg #[.float .f64 ah, .float .f64 ah])).put (some 95) (.agg #[.float .f64 ch, .float .f64 ch])).put (some 96) y3).put (some 89) y4).put (some 97) y5).put (some 98) y6).put (some 21) z1) ∧ (∀ q, p[0]? = some (some q) → z1 = .pointer (some ⟨q, 0, none⟩)) ∧ OwnF w l [#[.float .f64 0, .float .f64 0]] p v := by
  obtain ⟨y1, y2, y3, y4, y5, y6, z1, ha, E1, E2, E3, E4, E5, E6, G1, h⟩ := h
  obtain rfl := E1 (by decide)
  obtain rfl := E2 (by decide)
  exact ⟨y3, y4, y5, y6, z1, ha, G1, h⟩
theorem lfJ9_3 (h : lfJ9 w ah ch ml mh l a0 3 p a v) : ∃ y4 y5 y6 z1 : Value, a = (((((((a0.put (some 92) (.agg #[.float .f64 ah, .float .f64 ah])).put (some 95) (.agg #[.float .f64 ch, .float .f64 ch])).put (some 96) (.tuple #[.agg #[.float .f64 ml, .float .f64 mh], .int .i64 0])).put (some 89) y4).put (some 97) y5).put (some 98) y6).put (some 21) z1) ∧ (∀ q, p[0]? = some (some q) → z1 = .pointer (some ⟨q, 0, none⟩)) ∧ OwnF w l [#[.float .f64 0, .float .f64 0]] p v := by
  obtain ⟨y1, y2, y3, y4, y5, y6, z1, ha, E1, E2, E3, E4, E5, E6, G1, h⟩ := h
  obtain rfl := E1 (by decide)
  obtain rfl := E2 (by decide)
  obtain rfl := E3 (by decide)
  exact ⟨y4, y5, y6, z1, ha, G1, h⟩
theorem lfJ9_4 (h : lfJ9 w ah ch ml mh l a0 4 p a v) : ∃ y5 y6 z1 : Value, a = (((((((a0.put (some 92) (.agg #[.float .f64 ah, .float .f64 ah])).put (some 95) (.agg #[.float .f64 ch, .float .f64 ch])).put (some 96) (.tuple #[.agg #[.float .f64 ml, .float .f64 mh], .int .i64 0])).put (some 89) (.tuple #[.agg #[.float .f64 ml, .float .f64 mh], .int .i64 0])).put (some 97) y5).put (some 98) y6).put (some 21) z1) ∧ (∀ q, p[0]? = some (some q) → z1 = .pointer (some ⟨q, 0, none⟩)) ∧ OwnF w l [#[.float .f64 0, .float .f64 0]] p v := by
  obtain ⟨y1, y2, y3, y4, y5, y6, z1, ha, E1, E2, E3, E4, E5, E6, G1, h⟩ := h
  obtain rfl := E1 (by decide)
  obtain rfl := E2 (by decide)
  obtain rfl := E3 (by decide)
  obtain rfl := E4 (by decide)
  exact ⟨y5, y6, z1, ha, G1, h⟩
theorem lfJ9_5 (h : lfJ9 w ah ch ml mh l a0 5 p a v) : ∃ y6 z1 : Value, a = (((((((a0.put (some 92) (.agg #[.float .f64 ah, .float .f64 ah])).put (some 95) (.agg #[.float .f64 ch, .float .f64 ch])).put (some 96) (.tuple #[.agg #[.float .f64 ml, .float .f64 mh], .int .i64 0])).put (some 89) (.tuple #[.agg #[.float .f64 ml, .float .f64 mh], .int .i64 0])).put (some 97) (.agg #[.float .f64 ml, .float .f64 mh])).put (some 98) y6).put (some 21) z1) ∧ (∀ q, p[0]? = some (some q) → z1 = .pointer (some ⟨q, 0, none⟩)) ∧ OwnF w l [#[.float .f64 0, .float .f64 0]] p v := by
  obtain ⟨y1, y2, y3, y4, y5, y6, z1, ha, E1, E2, E3, E4, E5, E6, G1, h⟩ := h
  obtain rfl := E1 (by decide)
  obtain rfl := E2 (by decide)
  obtain rfl := E3 (by decide)
  obtain rfl := E4 (by decide)
  obtain rfl := E5 (by decide)
  exact ⟨y6, z1, ha, G1, h⟩
theorem lfJ9_fin {q1 : Nat} (h : lfJ9 w ah ch ml mh l a0 6 [some q1] a v) : a = (((((((a0.put (some 92) (.agg #[.float .f64 ah, .float .f64 ah])).put (some 95) (.agg #[.float .f64 ch, .float .f64 ch])).put (some 96) (.tuple #[.agg #[.float .f64 ml, .float .f64 mh], .int .i64 0])).put (some 89) (.tuple #[.agg #[.float .f64 ml, .float .f64 mh], .int .i64 0])).put (some 97) (.agg #[.float .f64 ml, .float .f64 mh])).put (some 98) (.int .i64 0)).put (some 21) (.pointer (some ⟨q1, 0, none⟩))) ∧ OwnF w l [#[.float .f64 0, .float .f64 0]] [some q1] v := by
  obtain ⟨y1, y2, y3, y4, y5, y6, z1, ha, E1, E2, E3, E4, E5, E6, G1, h⟩ := h
  obtain rfl := E1 (by decide)
  obtain rfl := E2 (by decide)
  obtain rfl := E3 (by decide)
  obtain rfl := E4 (by decide)
  obtain rfl := E5 (by decide)
  obtain rfl := E6 (by decide)
  obtain rfl := G1 _ rfl
  exact ⟨ha, h⟩
end

set_option maxRecDepth 100000 in
set_option maxHeartbeats 16000000 in
theorem falls_law {u0 u1 u2 u3 v0 v1 v2 v3 al ah cl ch rl rh dl dh xl xh yl yh zl zh ol oh gl gh ml mh : Nat} (w : World)
    (c1 : Hid (∀ w, Calls Try.prog 52 #[.float .f64 0, .float .f64 4607182418800017408, .int .u32 u0, .int .u32 u1] w fun r w' => r = .returned (.agg #[.float .f64 al, .float .f64 ah]) ∧ Below w.heap.size w w'))
    (c2 : Hid (∀ w, Calls Try.prog 52 #[.float .f64 0, .float .f64 4607182418800017408, .int .u32 u2, .int .u32 u3] w fun r w' => r = .returned (.agg #[.float .f64 cl, .float .f64 ch]) ∧ Below w.heap.size w w'))
    (c3 : Hid (∀ w, Calls Try.prog 52 #[.float .f64 al, .float .f64 ah, .int .u32 v0, .int .u32 v1] w fun r w' => r = .returned (.agg #[.float .f64 rl, .float .f64 rh]) ∧ Below w.heap.size w w'))
    (c4 : Hid (∀ w, Calls Try.prog 52 #[.float .f64 cl, .float .f64 ch, .int .u32 v2, .int .u32 v3] w fun r w' => r = .returned (.agg #[.float .f64 dl, .float .f64 dh]) ∧ Below w.heap.size w w'))
    (c5 : Hid (∀ w, Calls Try.prog 49 #[.agg #[.float .f64 al, .float .f64 ah], .agg #[.float .f64 cl, .float .f64 ch]] w fun r w' => r = .returned (.tuple #[.agg #[.float .f64 xl, .float .f64 xh], .int .i64 0]) ∧ Below w.heap.size w w'))
    (c6 : Hid (∀ w, Calls Try.prog 49 #[.agg #[.float .f64 rl, .float .f64 rh], .agg #[.float .f64 dl, .float .f64 dh]] w fun r w' => r = .returned (.tuple #[.agg #[.float .f64 yl, .float .f64 yh], .int .i64 0]) ∧ Below w.heap.size w w'))
    (c7 : Hid (∀ w, Calls Try.prog 48 #[.agg #[.float .f64 al, .float .f64 ah]] w fun r w' => r = .returned (.tuple #[.agg #[.float .f64 zl, .float .f64 zh], .int .i64 0]) ∧ Below w.heap.size w w'))
    (c8 : Hid (∀ w, Calls Try.prog 48 #[.agg #[.float .f64 rl, .float .f64 rh]] w fun r w' => r = .returned (.tuple #[.agg #[.float .f64 ol, .float .f64 oh], .int .i64 0]) ∧ Below w.heap.size w w'))
    (c9 : Hid (∀ w, Calls Try.prog 46 #[.float .f64 4607182418800017408] w fun r w' => r = .returned (.agg #[.float .f64 4607182418800017408, .float .f64 4607182418800017408]) ∧ Below w.heap.size w w'))
    (c10 : Hid (∀ w, Calls Try.prog 49 #[.agg #[.float .f64 al, .float .f64 ah], .agg #[.float .f64 4607182418800017408, .float .f64 4607182418800017408]] w fun r w' => r = .returned (.tuple #[.agg #[.float .f64 0, .float .f64 0], .int .i64 0]) ∧ Below w.heap.size w w'))
    (c11 : Hid (∀ w, Calls Try.prog 46 #[.float .f64 ah] w fun r w' => r = .returned (.agg #[.float .f64 ah, .float .f64 ah]) ∧ Below w.heap.size w w'))
    (c12 : Hid (∀ w, Calls Try.prog 46 #[.float .f64 cl] w fun r w' => r = .returned (.agg #[.float .f64 cl, .float .f64 cl]) ∧ Below w.heap.size w w'))
    (c13 : Hid (∀ w, Calls Try.prog 49 #[.agg #[.float .f64 ah, .float .f64 ah], .agg #[.float .f64 cl, .float .f64 cl]] w fun r w' => r = .returned (.tuple #[.agg #[.float .f64 gl, .float .f64 gh], .int .i64 0]) ∧ Below w.heap.size w w'))
    (c15 : Hid (∀ w, Calls Try.prog 46 #[.float .f64 ch] w fun r w' => r = .returned (.agg #[.float .f64 ch, .float .f64 ch]) ∧ Below w.heap.size w w'))
    (c16 : Hid (∀ w, Calls Try.prog 49 #[.agg #[.float .f64 ah, .float .f64 ah], .agg #[.float .f64 ch, .float .f64 ch]] w fun r w' => r = .returned (.tuple #[.agg #[.float .f64 ml, .float .f64 mh], .int .i64 0]) ∧ Below w.heap.size w w'))
    (c17 : Hid (∀ w, Calls Try.prog 53 #[.agg #[.float .f64 yl, .float .f64 yh], .agg #[.float .f64 xl, .float .f64 xh]] w fun r w' => r = .returned (.bool true) ∧ Below w.heap.size w w'))
    (c18 : Hid (∀ w, Calls Try.prog 53 #[.agg #[.float .f64 ol, .float .f64 oh], .agg #[.float .f64 zl, .float .f64 zh]] w fun r w' => r = .returned (.bool true) ∧ Below w.heap.size w w'))
    (e_0_0 : (Op.floatEq .f64 0 0 = true))
    (o_leqmh_gh : (((FloatKind.f64.format.order mh gh == some Ordering.lt) || (FloatKind.f64.format.order mh gh == some Ordering.eq)) = true))
    (o_leqml_gl : (((FloatKind.f64.format.order ml gl == some Ordering.lt) || (FloatKind.f64.format.order ml gl == some Ordering.eq)) = true))
    (o_leqgh_ah : (((FloatKind.f64.format.order gh ah == some Ordering.lt) || (FloatKind.f64.format.order gh ah == some Ordering.eq)) = true))
    (o_geqxl_0 : (((FloatKind.f64.format.order xl 0 == some Ordering.gt) || (FloatKind.f64.format.order xl 0 == some Ordering.eq)) = true))
    (c19 : Hid (∀ w, Calls Try.prog 51 #[] w fun r w' => r = .returned (.bool true) ∧ Below w.heap.size w w')) :
    Calls Try.prog 11 #[.agg #[.int .u32 u0, .int .u32 u1, .int .u32 u2, .int .u32 u3], .agg #[.int .u32 v0, .int .u32 v1, .int .u32 v2, .int .u32 v3]] w fun r w' => r = .returned (.bool true) ∧ Below w.heap.size w w' := by
  have M := Lib.hid (((Own.nil w).made #[.int .u32 u0, .int .u32 u1, .int .u32 u2, .int .u32 u3] 70).made #[.int .u32 v0, .int .u32 v1, .int .u32 v2, .int .u32 v3] 70)
  simp only [World.size_alloc] at M
  have eqF := eq_floats
  go_enter Try.func11, Try.ntmps11
  go_upto_region 1 with fail
  replace M := Lib.hid M.out.drew
  revert M
  generalize ((w.alloc (.cells #[.int .u32 u0, .int .u32 u1, .int .u32 u2, .int .u32 u3] 70)).alloc (.cells #[.int .u32 v0, .int .u32 v1, .int .u32 v2, .int .u32 v3] 70)) = W0_
  intro M
  refine wp_region_noPanic ?_
  refine tails_region (S := fun w' => (w'.cell? ⟨w.heap.size, 0, none⟩ = some (.int .u32 u0) ∧ w'.cell? ⟨w.heap.size, 1, none⟩ = some (.int .u32 u1) ∧ w'.cell? ⟨w.heap.size, 2, none⟩ = some (.int .u32 u2) ∧ w'.cell? ⟨w.heap.size, 3, none⟩ = some (.int .u32 u3))) [] (by kernel_rfl) ?_ (fun hS => ?_)
  · exact (M.out.nth 1 rfl).four
  refine tk (x := ?_) 0 rfl (by kernel_rfl) ⟨by rfl, ?_⟩ (fun _ _ _ h => h) hS ?_
  rotate_left; focus (intro w hSw; (try dsimp only at hSw); go_simp; try with_reducible rfl)
  refine tk (x := ?_) 1 rfl (by kernel_rfl) ⟨by rfl, ?_⟩ (fun _ _ _ h => h) hS ?_
  rotate_left; focus (intro w hSw; (try dsimp only at hSw); go_simp; try with_reducible rfl)
  refine tk (x := ?_) 2 rfl (by kernel_rfl) ⟨by rfl, ?_⟩ (fun _ _ _ h => h) hS ?_
  rotate_left; focus (intro w hSw; (try dsimp only at hSw); go_simp; try with_reducible rfl)
  refine tk (x := ?_) 3 rfl (by kernel_rfl) ⟨by rfl, ?_⟩ (fun _ _ _ h => h) hS ?_
  rotate_left; focus (intro w hSw; (try dsimp only at hSw); go_simp; try with_reducible rfl)
  refine tk (x := ?_) 5 rfl (by kernel_rfl) ⟨by rfl, ?_⟩ (fun _ _ _ h => h) hS ?_
  rotate_left; focus (intro w hSw; (try dsimp only at hSw); go_simp; try with_reducible rfl)
  refine tk (x := ?_) 6 rfl (by kernel_rfl) ⟨by rfl, ?_⟩ (fun _ _ _ h => h) hS ?_
  rotate_left; focus (intro w hSw; (try dsimp only at hSw); go_simp; try with_reducible rfl)
  refine tk (x := ?_) 7 rfl (by kernel_rfl) ⟨by rfl, ?_⟩ (fun _ _ _ h => h) hS ?_
  rotate_left; focus (intro w hSw; (try dsimp only at hSw); go_simp; try with_reducible rfl)
  refine tk (x := ?_) 8 rfl (by kernel_rfl) ⟨by rfl, ?_⟩ (fun _ _ _ h => h) hS ?_
  rotate_left; focus (intro w hSw; (try dsimp only at hSw); go_simp; try with_reducible rfl)
  conv => arg 9; simp only [Act.put, go_sem]
  refine lp_cc_2 M 4 9 10 11 [27, 32, 5, 6] 2 (lfJ1 w al ah cl ch) (by kernel_rfl) (by kernel_rfl) ?_ ?_ ?_ ?_ ?_ ?_ ?_
  · intro A hA
    obtain ⟨y1, hq1⟩ := put_ex (hA 27 (by simp))
    obtain ⟨y2, hq2⟩ := put_ex (hA 32 (by simp))
    obtain ⟨z1, hq3⟩ := put_ex (hA 5 (by simp))
    obtain ⟨z2, hq4⟩ := put_ex (hA 6 (by simp))
    exact ⟨y1, y2, z1, z2, by rw [hq1, hq2, hq3, hq4], by omega, by omega, by simp, by simp, OwnF.start M.out 2⟩
  · rintro k p a v ⟨y1, y2, z1, z2, _, _, _, _, _, h⟩
    exact (h.own.nth 1 rfl).four
  · intro p a v hJ
    refine op_step (o := _) rfl (fun K hK => ?_)
    obtain ⟨y1, y2, z1, z2, ha, gg1, gg2, h⟩ := lfJ1_0 hJ
    have h := Lib.hid h
    clear hJ
    subst ha
    go_simp
    refine (c1.out _).mono ?_
    rintro rr w5 ⟨rfl, hp⟩
    try go_wp2_with fail
    refine hK.out _ _ ⟨_, y2, z1, z2, ?_, fun _ => rfl, by omega, gg1, gg2, h.out.below hp⟩
    kernel_rfl
  · intro p a v hJ
    refine op_step (o := _) rfl (fun K hK => ?_)
    obtain ⟨y2, z1, z2, ha, gg1, gg2, h⟩ := lfJ1_1 hJ
    have h := Lib.hid h
    clear hJ
    subst ha
    go_simp
    refine (c2.out _).mono ?_
    rintro rr w5 ⟨rfl, hp⟩
    try go_wp2_with fail
    refine hK.out _ _ ⟨_, _, z1, z2, ?_, fun _ => rfl, fun _ => rfl, gg1, gg2, h.out.below hp⟩
    kernel_rfl
  · intro k p a v hp hJ
    refine op_step (o := _) rfl (fun K hK => ?_)
    obtain ⟨y1, y2, z1, z2, ha, ee1, ee2, gg1, gg2, h⟩ := hJ
    have h := Lib.hid h
    subst ha
    go_simp
    refine hK.out _ _ ⟨v.heap.size, y1, y2, .pointer (some ⟨v.heap.size, 0, none⟩), z2, ?_, ee1, ee2, fun q hq => ptr_set hq, ptr_keep 1 (by decide) gg2, h.out.alloc hp rfl _⟩
    kernel_rfl
  · intro k p a v hp hJ
    refine op_step (o := _) rfl (fun K hK => ?_)
    obtain ⟨y1, y2, z1, z2, ha, ee1, ee2, gg1, gg2, h⟩ := hJ
    have h := Lib.hid h
    subst ha
    go_simp
    refine hK.out _ _ ⟨v.heap.size, y1, y2, z1, .pointer (some ⟨v.heap.size, 0, none⟩), ?_, ee1, ee2, ptr_keep 0 (by decide) gg1, fun q hq => ptr_set hq, h.out.alloc hp rfl _⟩
    kernel_rfl
  intro p1_1 p1_2 a v hJ
  obtain ⟨rfl, h⟩ := lfJ1_fin hJ
  clear hJ
  replace M := Lib.hid h.fin2
  clear h
  refine tails_one (T := []) (i := 12) (o := _) rfl (by kernel_rfl) (fun K hK => ?_)
  have kc := (M.out.nth 0 rfl).2.1
  have kf := (M.out.nth 0 rfl).2.2
  replace M : Hid (Own w [(p1_1, #[.float .f64 al, .float .f64 ah]), (p1_2, #[.float .f64 0, .float .f64 0]), ((w.heap.size + 1), #[.int .u32 v0, .int .u32 v1, .int .u32 v2, .int .u32 v3]), (w.heap.size, #[.int .u32 u0, .int .u32 u1, .int .u32 u2, .int .u32 u3])] _) := Lib.hid (M.out.set2 0 rfl (.float .f64 al) (.float .f64 ah))
  go_simp
  refine hK.out _ _ (Or.inr (M.out.nth 3 rfl).four) (fun hHeld => ?_)
  clear hK K hHeld kc kf
  refine tails_one (T := []) (i := 13) (o := _) rfl (by kernel_rfl) (fun K hK => ?_)
  have kc := (M.out.nth 1 rfl).2.1
  have kf := (M.out.nth 1 rfl).2.2
  replace M : Hid (Own w [(p1_1, #[.float .f64 al, .float .f64 ah]), (p1_2, #[.float .f64 cl, .float .f64 ch]), ((w.heap.size + 1), #[.int .u32 v0, .int .u32 v1, .int .u32 v2, .int .u32 v3]), (w.heap.size, #[.int .u32 u0, .int .u32 u1, .int .u32 u2, .int .u32 u3])] _) := Lib.hid (M.out.set2 1 rfl (.float .f64 cl) (.float .f64 ch))
  go_simp
  refine hK.out _ _ (Or.inr (M.out.nth 3 rfl).four) (fun hHeld => ?_)
  clear hK K hHeld kc kf
  refine tails_done (by kernel_rfl) ?_ _
  refine NoPanic.normal ?_
  clear hS
  revert M
  generalize ((((v.setCell ⟨p1_1, 0, none⟩ (.float .f64 al)).setCell ⟨p1_1, 1, none⟩ (.float .f64 ah)).setCell ⟨p1_2, 0, none⟩ (.float .f64 cl)).setCell ⟨p1_2, 1, none⟩ (.float .f64 ch)) = W1_
  intro M
  go_upto_region 2 with fail
  replace M := Lib.hid M.out.drew
  refine wp_region_noPanic ?_
  refine tails_region (S := fun w' => (w'.cell? ⟨p1_1, 0, none⟩ = some (.float .f64 al) ∧ w'.cell? ⟨p1_1, 1, none⟩ = some (.float .f64 ah)) ∧ (w'.cell? ⟨(w.heap.size + 1), 0, none⟩ = some (.int .u32 v0) ∧ w'.cell? ⟨(w.heap.size + 1), 1, none⟩ = some (.int .u32 v1) ∧ w'.cell? ⟨(w.heap.size + 1), 2, none⟩ = some (.int .u32 v2) ∧ w'.cell? ⟨(w.heap.size + 1), 3, none⟩ = some (.int .u32 v3)) ∧ (w'.cell? ⟨p1_2, 0, none⟩ = some (.float .f64 cl) ∧ w'.cell? ⟨p1_2, 1, none⟩ = some (.float .f64 ch))) [] (by kernel_rfl) ?_ (fun hS => ?_)
  · exact ⟨(M.out.nth 0 rfl).two, (M.out.nth 2 rfl).four, (M.out.nth 1 rfl).two⟩
  refine tk (x := ?_) 0 rfl (by kernel_rfl) ⟨by rfl, ?_⟩ (fun _ _ _ h => h) hS ?_
  rotate_left; focus (intro w hSw; (try dsimp only at hSw); go_simp; try with_reducible rfl)
  refine tk (x := ?_) 1 rfl (by kernel_rfl) ⟨by rfl, ?_⟩ (fun _ _ _ h => h) hS ?_
  rotate_left; focus (intro w hSw; (try dsimp only at hSw); go_simp; try with_reducible rfl)
  refine tk (x := ?_) 2 rfl (by kernel_rfl) ⟨by rfl, ?_⟩ (fun _ _ _ h => h) hS ?_
  rotate_left; focus (intro w hSw; (try dsimp only at hSw); go_simp; try with_reducible rfl)
  refine tk (x := ?_) 3 rfl (by kernel_rfl) ⟨by rfl, ?_⟩ (fun _ _ _ h => h) hS ?_
  rotate_left; focus (intro w hSw; (try dsimp only at hSw); go_simp; try with_reducible rfl)
  refine tk (x := ?_) 4 rfl (by kernel_rfl) ⟨by rfl, ?_⟩ (fun _ _ _ h => h) hS ?_
  rotate_left; focus (intro w hSw; (try dsimp only at hSw); go_simp; try with_reducible rfl)
  refine tk (x := ?_) 5 rfl (by kernel_rfl) ⟨by rfl, ?_⟩ (fun _ _ _ h => h) hS ?_
  rotate_left; focus (intro w hSw; (try dsimp only at hSw); go_simp; try with_reducible rfl)
  refine tk (x := ?_) 6 rfl (by kernel_rfl) ⟨by rfl, ?_⟩ (fun _ _ _ h => h) hS ?_
  rotate_left; focus (intro w hSw; (try dsimp only at hSw); go_simp; try with_reducible rfl)
  refine tk (x := ?_) 7 rfl (by kernel_rfl) ⟨by rfl, ?_⟩ (fun _ _ _ h => h) hS ?_
  rotate_left; focus (intro w hSw; (try dsimp only at hSw); go_simp; try with_reducible rfl)
  refine tk (x := ?_) 9 rfl (by kernel_rfl) ⟨by rfl, ?_⟩ (fun _ _ _ h => h) hS ?_
  rotate_left; focus (intro w hSw; (try dsimp only at hSw); go_simp; try with_reducible rfl)
  refine tk (x := ?_) 10 rfl (by kernel_rfl) ⟨by rfl, ?_⟩ (fun _ _ _ h => h) hS ?_
  rotate_left; focus (intro w hSw; (try dsimp only at hSw); go_simp; try with_reducible rfl)
  refine tk (x := ?_) 11 rfl (by kernel_rfl) ⟨by rfl, ?_⟩ (fun _ _ _ h => h) hS ?_
  rotate_left; focus (intro w hSw; (try dsimp only at hSw); go_simp; try with_reducible rfl)
  refine tk (x := ?_) 12 rfl (by kernel_rfl) ⟨by rfl, ?_⟩ (fun _ _ _ h => h) hS ?_
  rotate_left; focus (intro w hSw; (try dsimp only at hSw); go_simp; try with_reducible rfl)
  refine tk (x := ?_) 13 rfl (by kernel_rfl) ⟨by rfl, ?_⟩ (fun _ _ _ h => h) hS ?_
  rotate_left; focus (intro w hSw; (try dsimp only at hSw); go_simp; try with_reducible rfl)
  refine tk (x := ?_) 14 rfl (by kernel_rfl) ⟨by rfl, ?_⟩ (fun _ _ _ h => h) hS ?_
  rotate_left; focus (intro w hSw; (try dsimp only at hSw); go_simp; try with_reducible rfl)
  refine tk (x := ?_) 15 rfl (by kernel_rfl) ⟨by rfl, ?_⟩ (fun _ _ _ h => h) hS ?_
  rotate_left; focus (intro w hSw; (try dsimp only at hSw); go_simp; try with_reducible rfl)
  refine tk (x := ?_) 16 rfl (by kernel_rfl) ⟨by rfl, ?_⟩ (fun _ _ _ h => h) hS ?_
  rotate_left; focus (intro w hSw; (try dsimp only at hSw); go_simp; try with_reducible rfl)
  conv => arg 9; simp only [Act.put, go_sem]
  refine lp_cc_2 M 8 17 18 19 [41, 50, 7, 8] 2 (lfJ2 w rl rh dl dh) (by kernel_rfl) (by kernel_rfl) ?_ ?_ ?_ ?_ ?_ ?_ ?_
  · intro A hA
    obtain ⟨y1, hq1⟩ := put_ex (hA 41 (by simp))
    obtain ⟨y2, hq2⟩ := put_ex (hA 50 (by simp))
    obtain ⟨z1, hq3⟩ := put_ex (hA 7 (by simp))
    obtain ⟨z2, hq4⟩ := put_ex (hA 8 (by simp))
    exact ⟨y1, y2, z1, z2, by rw [hq1, hq2, hq3, hq4], by omega, by omega, by simp, by simp, OwnF.start M.out 2⟩
  · rintro k p a v ⟨y1, y2, z1, z2, _, _, _, _, _, h⟩
    exact ⟨(h.own.nth 0 rfl).two, (h.own.nth 2 rfl).four, (h.own.nth 1 rfl).two⟩
  · intro p a v hJ
    refine op_step (o := _) rfl (fun K hK => ?_)
    obtain ⟨y1, y2, z1, z2, ha, gg1, gg2, h⟩ := lfJ2_0 hJ
    have h := Lib.hid h
    clear hJ
    subst ha
    go_simp
    refine (c3.out _).mono ?_
    rintro rr w5 ⟨rfl, hp⟩
    try go_wp2_with fail
    refine hK.out _ _ ⟨_, y2, z1, z2, ?_, fun _ => rfl, by omega, gg1, gg2, h.out.below hp⟩
    kernel_rfl
  · intro p a v hJ
    refine op_step (o := _) rfl (fun K hK => ?_)
    obtain ⟨y2, z1, z2, ha, gg1, gg2, h⟩ := lfJ2_1 hJ
    have h := Lib.hid h
    clear hJ
    subst ha
    go_simp
    refine (c4.out _).mono ?_
    rintro rr w5 ⟨rfl, hp⟩
    try go_wp2_with fail
    refine hK.out _ _ ⟨_, _, z1, z2, ?_, fun _ => rfl, fun _ => rfl, gg1, gg2, h.out.below hp⟩
    kernel_rfl
  · intro k p a v hp hJ
    refine op_step (o := _) rfl (fun K hK => ?_)
    obtain ⟨y1, y2, z1, z2, ha, ee1, ee2, gg1, gg2, h⟩ := hJ
    have h := Lib.hid h
    subst ha
    go_simp
    refine hK.out _ _ ⟨v.heap.size, y1, y2, .pointer (some ⟨v.heap.size, 0, none⟩), z2, ?_, ee1, ee2, fun q hq => ptr_set hq, ptr_keep 1 (by decide) gg2, h.out.alloc hp rfl _⟩
    kernel_rfl
  · intro k p a v hp hJ
    refine op_step (o := _) rfl (fun K hK => ?_)
    obtain ⟨y1, y2, z1, z2, ha, ee1, ee2, gg1, gg2, h⟩ := hJ
    have h := Lib.hid h
    subst ha
    go_simp
    refine hK.out _ _ ⟨v.heap.size, y1, y2, z1, .pointer (some ⟨v.heap.size, 0, none⟩), ?_, ee1, ee2, ptr_keep 0 (by decide) gg1, fun q hq => ptr_set hq, h.out.alloc hp rfl _⟩
    kernel_rfl
  intro p2_1 p2_2 a v hJ
  obtain ⟨rfl, h⟩ := lfJ2_fin hJ
  clear hJ
  replace M := Lib.hid h.fin2
  clear h
  refine tails_one (T := []) (i := 20) (o := _) rfl (by kernel_rfl) (fun K hK => ?_)
  have kc := (M.out.nth 0 rfl).2.1
  have kf := (M.out.nth 0 rfl).2.2
  replace M : Hid (Own w [(p2_1, #[.float .f64 rl, .float .f64 rh]), (p2_2, #[.float .f64 0, .float .f64 0]), (p1_1, #[.float .f64 al, .float .f64 ah]), (p1_2, #[.float .f64 cl, .float .f64 ch]), ((w.heap.size + 1), #[.int .u32 v0, .int .u32 v1, .int .u32 v2, .int .u32 v3]), (w.heap.size, #[.int .u32 u0, .int .u32 u1, .int .u32 u2, .int .u32 u3])] _) := Lib.hid (M.out.set2 0 rfl (.float .f64 rl) (.float .f64 rh))
  go_simp
  refine hK.out _ _ (Or.inr ⟨(M.out.nth 2 rfl).two, (M.out.nth 4 rfl).four, (M.out.nth 3 rfl).two⟩) (fun hHeld => ?_)
  clear hK K hHeld kc kf
  refine tails_one (T := []) (i := 21) (o := _) rfl (by kernel_rfl) (fun K hK => ?_)
  have kc := (M.out.nth 1 rfl).2.1
  have kf := (M.out.nth 1 rfl).2.2
  replace M : Hid (Own w [(p2_1, #[.float .f64 rl, .float .f64 rh]), (p2_2, #[.float .f64 dl, .float .f64 dh]), (p1_1, #[.float .f64 al, .float .f64 ah]), (p1_2, #[.float .f64 cl, .float .f64 ch]), ((w.heap.size + 1), #[.int .u32 v0, .int .u32 v1, .int .u32 v2, .int .u32 v3]), (w.heap.size, #[.int .u32 u0, .int .u32 u1, .int .u32 u2, .int .u32 u3])] _) := Lib.hid (M.out.set2 1 rfl (.float .f64 dl) (.float .f64 dh))
  go_simp
  refine hK.out _ _ (Or.inr ⟨(M.out.nth 2 rfl).two, (M.out.nth 4 rfl).four, (M.out.nth 3 rfl).two⟩) (fun hHeld => ?_)
  clear hK K hHeld kc kf
  refine tails_done (by kernel_rfl) ?_ _
  refine NoPanic.normal ?_
  clear hS
  revert M
  generalize ((((v.setCell ⟨p2_1, 0, none⟩ (.float .f64 rl)).setCell ⟨p2_1, 1, none⟩ (.float .f64 rh)).setCell ⟨p2_2, 0, none⟩ (.float .f64 dl)).setCell ⟨p2_2, 1, none⟩ (.float .f64 dh)) = W2_
  intro M
  obtain ⟨k1, k2⟩ := (M.out.nth 2 rfl).two
  obtain ⟨k3, k4⟩ := (M.out.nth 3 rfl).two
  go_wp2_with fail
  refine (c5.out _).mono ?_
  rintro r w3_ ⟨rfl, hb⟩
  replace M := Lib.hid (M.out.below hb)
  clear hb
  clear k1 k2 k3 k4
  replace M := Lib.hid (M.out.made #[.float .f64 xl, .float .f64 xh] 24)
  obtain ⟨k1, k2⟩ := (M.out.nth 1 rfl).two
  obtain ⟨k3, k4⟩ := (M.out.nth 2 rfl).two
  go_wp2_with fail
  refine (c6.out _).mono ?_
  rintro r w4_ ⟨rfl, hb⟩
  replace M := Lib.hid (M.out.below hb)
  clear hb
  clear k1 k2 k3 k4
  replace M := Lib.hid (M.out.made #[.float .f64 yl, .float .f64 yh] 24)
  obtain ⟨k1, k2⟩ := (M.out.nth 4 rfl).two
  go_wp2_with fail
  refine (c7.out _).mono ?_
  rintro r w5_ ⟨rfl, hb⟩
  replace M := Lib.hid (M.out.below hb)
  clear hb
  clear k1 k2
  replace M := Lib.hid (M.out.made #[.float .f64 zl, .float .f64 zh] 24)
  obtain ⟨k1, k2⟩ := (M.out.nth 3 rfl).two
  go_wp2_with fail
  refine (c8.out _).mono ?_
  rintro r w6_ ⟨rfl, hb⟩
  replace M := Lib.hid (M.out.below hb)
  clear hb
  clear k1 k2
  replace M := Lib.hid (M.out.made #[.float .f64 ol, .float .f64 oh] 24)
  go_upto_region 7 with fail
  replace M := Lib.hid M.out.drew
  refine wp_region_noPanic ?_
  refine tails_region (S := fun w' => (w'.cell? ⟨p1_1, 0, none⟩ = some (.float .f64 al) ∧ w'.cell? ⟨p1_1, 1, none⟩ = some (.float .f64 ah))) [] (by kernel_rfl) ?_ (fun hS => ?_)
  · exact (M.out.nth 6 rfl).two
  refine tk (x := ?_) 0 rfl (by kernel_rfl) ⟨by rfl, ?_⟩ (fun _ _ _ h => h) hS ?_
  rotate_left; focus (intro w hSw; (try dsimp only at hSw); go_simp; try with_reducible rfl)
  conv => arg 9; simp only [Act.put, go_sem]
  refine lp_ccppp_1 M 1 2 3 4 5 6 [75, 76, 73, 77, 78, 17] 2 (lfJ7 w) (by kernel_rfl) (by kernel_rfl) ?_ ?_ ?_ ?_ ?_ ?_ ?_ ?_ ?_
  · intro A hA
    obtain ⟨y1, hq1⟩ := put_ex (hA 75 (by simp))
    obtain ⟨y2, hq2⟩ := put_ex (hA 76 (by simp))
    obtain ⟨y3, hq3⟩ := put_ex (hA 73 (by simp))
    obtain ⟨y4, hq4⟩ := put_ex (hA 77 (by simp))
    obtain ⟨y5, hq5⟩ := put_ex (hA 78 (by simp))
    obtain ⟨z1, hq6⟩ := put_ex (hA 17 (by simp))
    exact ⟨y1, y2, y3, y4, y5, z1, by rw [hq1, hq2, hq3, hq4, hq5, hq6], by omega, by omega, by omega, by omega, by omega, by simp, OwnF.start M.out 1⟩
  · rintro k p a v ⟨y1, y2, y3, y4, y5, z1, _, _, _, _, _, _, _, h⟩
    exact (h.own.nth 6 rfl).two
  · intro p a v hJ
    refine op_step (o := _) rfl (fun K hK => ?_)
    obtain ⟨y1, y2, y3, y4, y5, z1, ha, gg1, h⟩ := lfJ7_0 hJ
    have h := Lib.hid h
    clear hJ
    subst ha
    go_simp
    refine (c9.out _).mono ?_
    rintro rr w5 ⟨rfl, hp⟩
    try go_wp2_with fail
    refine hK.out _ _ ⟨_, y2, y3, y4, y5, z1, ?_, fun _ => rfl, by omega, by omega, by omega, by omega, gg1, h.out.below hp⟩
    kernel_rfl
  · intro p a v hJ
    refine op_step (o := _) rfl (fun K hK => ?_)
    obtain ⟨y2, y3, y4, y5, z1, ha, gg1, h⟩ := lfJ7_1 hJ
    have h := Lib.hid h
    clear hJ
    subst ha
    go_simp
    refine (c10.out _).mono ?_
    rintro rr w5 ⟨rfl, hp⟩
    try go_wp2_with fail
    refine hK.out _ _ ⟨_, _, y3, y4, y5, z1, ?_, fun _ => rfl, fun _ => rfl, by omega, by omega, by omega, gg1, h.out.below hp⟩
    kernel_rfl
  · intro p a v hJ
    obtain ⟨y3, y4, y5, z1, ha, gg1, h⟩ := lfJ7_2 hJ
    clear hJ
    subst ha
    refine ⟨_, .tuple #[.agg #[.float .f64 0, .float .f64 0], .int .i64 0], rfl, Or.inl ⟨by rfl, ?_⟩, (fun _ _ _ h => h), _, _, _, y4, y5, z1, ?_, fun _ => rfl, fun _ => rfl, fun _ => rfl, by omega, by omega, gg1, h⟩
    · intro w hSw; clear hSw h; go_simp; try with_reducible rfl
    · kernel_rfl
  · intro p a v hJ
    obtain ⟨y4, y5, z1, ha, gg1, h⟩ := lfJ7_3 hJ
    clear hJ
    subst ha
    refine ⟨_, .agg #[.float .f64 0, .float .f64 0], rfl, Or.inl ⟨by rfl, ?_⟩, (fun _ _ _ h => h), _, _, _, _, y5, z1, ?_, fun _ => rfl, fun _ => rfl, fun _ => rfl, fun _ => rfl, by omega, gg1, h⟩
    · intro w hSw; clear hSw h; go_simp; try with_reducible rfl
    · kernel_rfl
  · intro p a v hJ
    obtain ⟨y5, z1, ha, gg1, h⟩ := lfJ7_4 hJ
    clear hJ
    subst ha
    refine ⟨_, .int .i64 0, rfl, Or.inl ⟨by rfl, ?_⟩, (fun _ _ _ h => h), _, _, _, _, _, z1, ?_, fun _ => rfl, fun _ => rfl, fun _ => rfl, fun _ => rfl, fun _ => rfl, gg1, h⟩
    · intro w hSw; clear hSw h; go_simp; try with_reducible rfl
    · kernel_rfl
  · intro k p a v hp hJ
    refine op_step (o := _) rfl (fun K hK => ?_)
    obtain ⟨y1, y2, y3, y4, y5, z1, ha, ee1, ee2, ee3, ee4, ee5, gg1, h⟩ := hJ
    have h := Lib.hid h
    subst ha
    go_simp
    refine hK.out _ _ ⟨v.heap.size, y1, y2, y3, y4, y5, .pointer (some ⟨v.heap.size, 0, none⟩), ?_, ee1, ee2, ee3, ee4, ee5, fun q hq => ptr_set hq, h.out.alloc hp rfl _⟩
    kernel_rfl
  intro p7_1 a v hJ
  obtain ⟨rfl, h⟩ := lfJ7_fin hJ
  clear hJ
  replace M := Lib.hid h.fin1
  clear h
  refine tails_one (T := []) (i := 7) (o := _) rfl (by kernel_rfl) (fun K hK => ?_)
  have kc := (M.out.nth 0 rfl).2.1
  have kf := (M.out.nth 0 rfl).2.2
  replace M : Hid (Own w [(p7_1, #[.float .f64 0, .float .f64 0]), (w6_.heap.size, #[.float .f64 ol, .float .f64 oh]), (w5_.heap.size, #[.float .f64 zl, .float .f64 zh]), (w4_.heap.size, #[.float .f64 yl, .float .f64 yh]), (w3_.heap.size, #[.float .f64 xl, .float .f64 xh]), (p2_1, #[.float .f64 rl, .float .f64 rh]), (p2_2, #[.float .f64 dl, .float .f64 dh]), (p1_1, #[.float .f64 al, .float .f64 ah]), (p1_2, #[.float .f64 cl, .float .f64 ch]), ((w.heap.size + 1), #[.int .u32 v0, .int .u32 v1, .int .u32 v2, .int .u32 v3]), (w.heap.size, #[.int .u32 u0, .int .u32 u1, .int .u32 u2, .int .u32 u3])] _) := Lib.hid (M.out.set2 0 rfl (.float .f64 0) (.float .f64 0))
  go_simp
  refine hK.out _ _ (Or.inr (M.out.nth 7 rfl).two) (fun hHeld => ?_)
  clear hK K hHeld kc kf
  refine tails_one (T := []) (i := 8) (o := _) rfl (by kernel_rfl) (fun K hK => ?_)
  go_simp
  refine hK.out _ _ (Or.inr (M.out.nth 7 rfl).two) (fun hHeld => ?_)
  clear hK K hHeld
  refine tails_done (by kernel_rfl) ?_ _
  refine NoPanic.normal ?_
  clear hS
  revert M
  generalize ((v.setCell ⟨p7_1, 0, none⟩ (.float .f64 0)).setCell ⟨p7_1, 1, none⟩ (.float .f64 0)) = W7_
  intro M
  go_upto_region 8 with fail
  replace M := Lib.hid M.out.drew
  refine wp_region_noPanic ?_
  refine tails_region (S := fun w' => (w'.cell? ⟨p1_1, 0, none⟩ = some (.float .f64 al) ∧ w'.cell? ⟨p1_1, 1, none⟩ = some (.float .f64 ah)) ∧ (w'.cell? ⟨p1_2, 0, none⟩ = some (.float .f64 cl) ∧ w'.cell? ⟨p1_2, 1, none⟩ = some (.float .f64 ch))) [] (by kernel_rfl) ?_ (fun hS => ?_)
  · exact ⟨(M.out.nth 7 rfl).two, (M.out.nth 8 rfl).two⟩
  refine tk (x := ?_) 0 rfl (by kernel_rfl) ⟨by rfl, ?_⟩ (fun _ _ _ h => h) hS ?_
  rotate_left; focus (intro w hSw; (try dsimp only at hSw); go_simp; try with_reducible rfl)
  refine tk (x := ?_) 1 rfl (by kernel_rfl) ⟨by rfl, ?_⟩ (fun _ _ _ h => h) hS ?_
  rotate_left; focus (intro w hSw; (try dsimp only at hSw); go_simp; try with_reducible rfl)
  refine tk (x := ?_) 3 rfl (by kernel_rfl) ⟨by rfl, ?_⟩ (fun _ _ _ h => h) hS ?_
  rotate_left; focus (intro w hSw; (try dsimp only at hSw); go_simp; try with_reducible rfl)
  refine tk (x := ?_) 4 rfl (by kernel_rfl) ⟨by rfl, ?_⟩ (fun _ _ _ h => h) hS ?_
  rotate_left; focus (intro w hSw; (try dsimp only at hSw); go_simp; try with_reducible rfl)
  conv => arg 9; simp only [Act.put, go_sem]
  refine lp_cccppp_1 M 2 5 6 7 8 9 10 [82, 85, 86, 79, 87, 88, 19] 2 (lfJ8 w ah cl gl gh) (by kernel_rfl) (by kernel_rfl) ?_ ?_ ?_ ?_ ?_ ?_ ?_ ?_ ?_ ?_
  · intro A hA
    obtain ⟨y1, hq1⟩ := put_ex (hA 82 (by simp))
    obtain ⟨y2, hq2⟩ := put_ex (hA 85 (by simp))
    obtain ⟨y3, hq3⟩ := put_ex (hA 86 (by simp))
    obtain ⟨y4, hq4⟩ := put_ex (hA 79 (by simp))
    obtain ⟨y5, hq5⟩ := put_ex (hA 87 (by simp))
    obtain ⟨y6, hq6⟩ := put_ex (hA 88 (by simp))
    obtain ⟨z1, hq7⟩ := put_ex (hA 19 (by simp))
    exact ⟨y1, y2, y3, y4, y5, y6, z1, by rw [hq1, hq2, hq3, hq4, hq5, hq6, hq7], by omega, by omega, by omega, by omega, by omega, by omega, by simp, OwnF.start M.out 1⟩
  · rintro k p a v ⟨y1, y2, y3, y4, y5, y6, z1, _, _, _, _, _, _, _, _, h⟩
    exact ⟨(h.own.nth 7 rfl).two, (h.own.nth 8 rfl).two⟩
  · intro p a v hJ
    refine op_step (o := _) rfl (fun K hK => ?_)
    obtain ⟨y1, y2, y3, y4, y5, y6, z1, ha, gg1, h⟩ := lfJ8_0 hJ
    have h := Lib.hid h
    clear hJ
    subst ha
    go_simp
    refine (c11.out _).mono ?_
    rintro rr w5 ⟨rfl, hp⟩
    try go_wp2_with fail
    refine hK.out _ _ ⟨_, y2, y3, y4, y5, y6, z1, ?_, fun _ => rfl, by omega, by omega, by omega, by omega, by omega, gg1, h.out.below hp⟩
    kernel_rfl
  · intro p a v hJ
    refine op_step (o := _) rfl (fun K hK => ?_)
    obtain ⟨y2, y3, y4, y5, y6, z1, ha, gg1, h⟩ := lfJ8_1 hJ
    have h := Lib.hid h
    clear hJ
    subst ha
    go_simp
    refine (c12.out _).mono ?_
    rintro rr w5 ⟨rfl, hp⟩
    try go_wp2_with fail
    refine hK.out _ _ ⟨_, _, y3, y4, y5, y6, z1, ?_, fun _ => rfl, fun _ => rfl, by omega, by omega, by omega, by omega, gg1, h.out.below hp⟩
    kernel_rfl
  · intro p a v hJ
    refine op_step (o := _) rfl (fun K hK => ?_)
    obtain ⟨y3, y4, y5, y6, z1, ha, gg1, h⟩ := lfJ8_2 hJ
    have h := Lib.hid h
    clear hJ
    subst ha
    go_simp
    refine (c13.out _).mono ?_
    rintro rr w5 ⟨rfl, hp⟩
    try go_wp2_with fail
    refine hK.out _ _ ⟨_, _, _, y4, y5, y6, z1, ?_, fun _ => rfl, fun _ => rfl, fun _ => rfl, by omega, by omega, by omega, gg1, h.out.below hp⟩
    kernel_rfl
  · intro p a v hJ
    obtain ⟨y4, y5, y6, z1, ha, gg1, h⟩ := lfJ8_3 hJ
    clear hJ
    subst ha
    refine ⟨_, .tuple #[.agg #[.float .f64 gl, .float .f64 gh], .int .i64 0], rfl, Or.inl ⟨by rfl, ?_⟩, (fun _ _ _ h => h), _, _, _, _, y5, y6, z1, ?_, fun _ => rfl, fun _ => rfl, fun _ => rfl, fun _ => rfl, by omega, by omega, gg1, h⟩
    · intro w hSw; clear hSw h; go_simp; try with_reducible rfl
    · kernel_rfl
  · intro p a v hJ
    obtain ⟨y5, y6, z1, ha, gg1, h⟩ := lfJ8_4 hJ
    clear hJ
    subst ha
    refine ⟨_, .agg #[.float .f64 gl, .float .f64 gh], rfl, Or.inl ⟨by rfl, ?_⟩, (fun _ _ _ h => h), _, _, _, _, _, y6, z1, ?_, fun _ => rfl, fun _ => rfl, fun _ => rfl, fun _ => rfl, fun _ => rfl, by omega, gg1, h⟩
    · intro w hSw; clear hSw h; go_simp; try with_reducible rfl
    · kernel_rfl
  · intro p a v hJ
    obtain ⟨y6, z1, ha, gg1, h⟩ := lfJ8_5 hJ
    clear hJ
    subst ha
    refine ⟨_, .int .i64 0, rfl, Or.inl ⟨by rfl, ?_⟩, (fun _ _ _ h => h), _, _, _, _, _, _, z1, ?_, fun _ => rfl, fun _ => rfl, fun _ => rfl, fun _ => rfl, fun _ => rfl, fun _ => rfl, gg1, h⟩
    · intro w hSw; clear hSw h; go_simp; try with_reducible rfl
    · kernel_rfl
  · intro k p a v hp hJ
    refine op_step (o := _) rfl (fun K hK => ?_)
    obtain ⟨y1, y2, y3, y4, y5, y6, z1, ha, ee1, ee2, ee3, ee4, ee5, ee6, gg1, h⟩ := hJ
    have h := Lib.hid h
    subst ha
    go_simp
    refine hK.out _ _ ⟨v.heap.size, y1, y2, y3, y4, y5, y6, .pointer (some ⟨v.heap.size, 0, none⟩), ?_, ee1, ee2, ee3, ee4, ee5, ee6, fun q hq => ptr_set hq, h.out.alloc hp rfl _⟩
    kernel_rfl
  intro p8_1 a v hJ
  obtain ⟨rfl, h⟩ := lfJ8_fin hJ
  clear hJ
  replace M := Lib.hid h.fin1
  clear h
  refine tails_one (T := []) (i := 11) (o := _) rfl (by kernel_rfl) (fun K hK => ?_)
  have kc := (M.out.nth 0 rfl).2.1
  have kf := (M.out.nth 0 rfl).2.2
  replace M : Hid (Own w [(p8_1, #[.float .f64 gl, .float .f64 gh]), (p7_1, #[.float .f64 0, .float .f64 0]), (w6_.heap.size, #[.float .f64 ol, .float .f64 oh]), (w5_.heap.size, #[.float .f64 zl, .float .f64 zh]), (w4_.heap.size, #[.float .f64 yl, .float .f64 yh]), (w3_.heap.size, #[.float .f64 xl, .float .f64 xh]), (p2_1, #[.float .f64 rl, .float .f64 rh]), (p2_2, #[.float .f64 dl, .float .f64 dh]), (p1_1, #[.float .f64 al, .float .f64 ah]), (p1_2, #[.float .f64 cl, .float .f64 ch]), ((w.heap.size + 1), #[.int .u32 v0, .int .u32 v1, .int .u32 v2, .int .u32 v3]), (w.heap.size, #[.int .u32 u0, .int .u32 u1, .int .u32 u2, .int .u32 u3])] _) := Lib.hid (M.out.set2 0 rfl (.float .f64 gl) (.float .f64 gh))
  go_simp
  refine hK.out _ _ (Or.inr ⟨(M.out.nth 8 rfl).two, (M.out.nth 9 rfl).two⟩) (fun hHeld => ?_)
  clear hK K hHeld kc kf
  refine tails_one (T := []) (i := 12) (o := _) rfl (by kernel_rfl) (fun K hK => ?_)
  go_simp
  refine hK.out _ _ (Or.inr ⟨(M.out.nth 8 rfl).two, (M.out.nth 9 rfl).two⟩) (fun hHeld => ?_)
  clear hK K hHeld
  refine tails_done (by kernel_rfl) ?_ _
  refine NoPanic.normal ?_
  clear hS
  revert M
  generalize ((v.setCell ⟨p8_1, 0, none⟩ (.float .f64 gl)).setCell ⟨p8_1, 1, none⟩ (.float .f64 gh)) = W8_
  intro M
  go_upto_region 9 with fail
  replace M := Lib.hid M.out.drew
  refine wp_region_noPanic ?_
  refine tails_region (S := fun w' => (w'.cell? ⟨p1_1, 0, none⟩ = some (.float .f64 al) ∧ w'.cell? ⟨p1_1, 1, none⟩ = some (.float .f64 ah)) ∧ (w'.cell? ⟨p1_2, 0, none⟩ = some (.float .f64 cl) ∧ w'.cell? ⟨p1_2, 1, none⟩ = some (.float .f64 ch))) [] (by kernel_rfl) ?_ (fun hS => ?_)
  · exact ⟨(M.out.nth 8 rfl).two, (M.out.nth 9 rfl).two⟩
  refine tk (x := ?_) 0 rfl (by kernel_rfl) ⟨by rfl, ?_⟩ (fun _ _ _ h => h) hS ?_
  rotate_left; focus (intro w hSw; (try dsimp only at hSw); go_simp; try with_reducible rfl)
  refine tk (x := ?_) 1 rfl (by kernel_rfl) ⟨by rfl, ?_⟩ (fun _ _ _ h => h) hS ?_
  rotate_left; focus (intro w hSw; (try dsimp only at hSw); go_simp; try with_reducible rfl)
  refine tk (x := ?_) 3 rfl (by kernel_rfl) ⟨by rfl, ?_⟩ (fun _ _ _ h => h) hS ?_
  rotate_left; focus (intro w hSw; (try dsimp only at hSw); go_simp; try with_reducible rfl)
  refine tk (x := ?_) 4 rfl (by kernel_rfl) ⟨by rfl, ?_⟩ (fun _ _ _ h => h) hS ?_
  rotate_left; focus (intro w hSw; (try dsimp only at hSw); go_simp; try with_reducible rfl)
  conv => arg 9; simp only [Act.put, go_sem]
  refine lp_cccppp_1 M 2 5 6 7 8 9 10 [92, 95, 96, 89, 97, 98, 21] 2 (lfJ9 w ah ch ml mh) (by kernel_rfl) (by kernel_rfl) ?_ ?_ ?_ ?_ ?_ ?_ ?_ ?_ ?_ ?_
  · intro A hA
    obtain ⟨y1, hq1⟩ := put_ex (hA 92 (by simp))
    obtain ⟨y2, hq2⟩ := put_ex (hA 95 (by simp))
    obtain ⟨y3, hq3⟩ := put_ex (hA 96 (by simp))
    obtain ⟨y4, hq4⟩ := put_ex (hA 89 (by simp))
    obtain ⟨y5, hq5⟩ := put_ex (hA 97 (by simp))
    obtain ⟨y6, hq6⟩ := put_ex (hA 98 (by simp))
    obtain ⟨z1, hq7⟩ := put_ex (hA 21 (by simp))
    exact ⟨y1, y2, y3, y4, y5, y6, z1, by rw [hq1, hq2, hq3, hq4, hq5, hq6, hq7], by omega, by omega, by omega, by omega, by omega, by omega, by simp, OwnF.start M.out 1⟩
  · rintro k p a v ⟨y1, y2, y3, y4, y5, y6, z1, _, _, _, _, _, _, _, _, h⟩
    exact ⟨(h.own.nth 8 rfl).two, (h.own.nth 9 rfl).two⟩
  · intro p a v hJ
    refine op_step (o := _) rfl (fun K hK => ?_)
    obtain ⟨y1, y2, y3, y4, y5, y6, z1, ha, gg1, h⟩ := lfJ9_0 hJ
    have h := Lib.hid h
    clear hJ
    subst ha
    go_simp
    refine (c11.out _).mono ?_
    rintro rr w5 ⟨rfl, hp⟩
    try go_wp2_with fail
    refine hK.out _ _ ⟨_, y2, y3, y4, y5, y6, z1, ?_, fun _ => rfl, by omega, by omega, by omega, by omega, by omega, gg1, h.out.below hp⟩
    kernel_rfl
  · intro p a v hJ
    refine op_step (o := _) rfl (fun K hK => ?_)
    obtain ⟨y2, y3, y4, y5, y6, z1, ha, gg1, h⟩ := lfJ9_1 hJ
    have h := Lib.hid h
    clear hJ
    subst ha
    go_simp
    refine (c15.out _).mono ?_
    rintro rr w5 ⟨rfl, hp⟩
    try go_wp2_with fail
    refine hK.out _ _ ⟨_, _, y3, y4, y5, y6, z1, ?_, fun _ => rfl, fun _ => rfl, by omega, by omega, by omega, by omega, gg1, h.out.below hp⟩
    kernel_rfl
  · intro p a v hJ
    refine op_step (o := _) rfl (fun K hK => ?_)
    obtain ⟨y3, y4, y5, y6, z1, ha, gg1, h⟩ := lfJ9_2 hJ
    have h := Lib.hid h
    clear hJ
    subst ha
    go_simp
    refine (c16.out _).mono ?_
    rintro rr w5 ⟨rfl, hp⟩
    try go_wp2_with fail
    refine hK.out _ _ ⟨_, _, _, y4, y5, y6, z1, ?_, fun _ => rfl, fun _ => rfl, fun _ => rfl, by omega, by omega, by omega, gg1, h.out.below hp⟩
    kernel_rfl
  · intro p a v hJ
    obtain ⟨y4, y5, y6, z1, ha, gg1, h⟩ := lfJ9_3 hJ
    clear hJ
    subst ha
    refine ⟨_, .tuple #[.agg #[.float .f64 ml, .float .f64 mh], .int .i64 0], rfl, Or.inl ⟨by rfl, ?_⟩, (fun _ _ _ h => h), _, _, _, _, y5, y6, z1, ?_, fun _ => rfl, fun _ => rfl, fun _ => rfl, fun _ => rfl, by omega, by omega, gg1, h⟩
    · intro w hSw; clear hSw h; go_simp; try with_reducible rfl
    · kernel_rfl
  · intro p a v hJ
    obtain ⟨y5, y6, z1, ha, gg1, h⟩ := lfJ9_4 hJ
    clear hJ
    subst ha
    refine ⟨_, .agg #[.float .f64 ml, .float .f64 mh], rfl, Or.inl ⟨by rfl, ?_⟩, (fun _ _ _ h => h), _, _, _, _, _, y6, z1, ?_, fun _ => rfl, fun _ => rfl, fun _ => rfl, fun _ => rfl, fun _ => rfl, by omega, gg1, h⟩
    · intro w hSw; clear hSw h; go_simp; try with_reducible rfl
    · kernel_rfl
  · intro p a v hJ
    obtain ⟨y6, z1, ha, gg1, h⟩ := lfJ9_5 hJ
    clear hJ
    subst ha
    refine ⟨_, .int .i64 0, rfl, Or.inl ⟨by rfl, ?_⟩, (fun _ _ _ h => h), _, _, _, _, _, _, z1, ?_, fun _ => rfl, fun _ => rfl, fun _ => rfl, fun _ => rfl, fun _ => rfl, fun _ => rfl, gg1, h⟩
    · intro w hSw; clear hSw h; go_simp; try with_reducible rfl
    · kernel_rfl
  · intro k p a v hp hJ
    refine op_step (o := _) rfl (fun K hK => ?_)
    obtain ⟨y1, y2, y3, y4, y5, y6, z1, ha, ee1, ee2, ee3, ee4, ee5, ee6, gg1, h⟩ := hJ
    have h := Lib.hid h
    subst ha
    go_simp
    refine hK.out _ _ ⟨v.heap.size, y1, y2, y3, y4, y5, y6, .pointer (some ⟨v.heap.size, 0, none⟩), ?_, ee1, ee2, ee3, ee4, ee5, ee6, fun q hq => ptr_set hq, h.out.alloc hp rfl _⟩
    kernel_rfl
  intro p9_1 a v hJ
  obtain ⟨rfl, h⟩ := lfJ9_fin hJ
  clear hJ
  replace M := Lib.hid h.fin1
  clear h
  refine tails_one (T := []) (i := 11) (o := _) rfl (by kernel_rfl) (fun K hK => ?_)
  have kc := (M.out.nth 0 rfl).2.1
  have kf := (M.out.nth 0 rfl).2.2
  replace M : Hid (Own w [(p9_1, #[.float .f64 ml, .float .f64 mh]), (p8_1, #[.float .f64 gl, .float .f64 gh]), (p7_1, #[.float .f64 0, .float .f64 0]), (w6_.heap.size, #[.float .f64 ol, .float .f64 oh]), (w5_.heap.size, #[.float .f64 zl, .float .f64 zh]), (w4_.heap.size, #[.float .f64 yl, .float .f64 yh]), (w3_.heap.size, #[.float .f64 xl, .float .f64 xh]), (p2_1, #[.float .f64 rl, .float .f64 rh]), (p2_2, #[.float .f64 dl, .float .f64 dh]), (p1_1, #[.float .f64 al, .float .f64 ah]), (p1_2, #[.float .f64 cl, .float .f64 ch]), ((w.heap.size + 1), #[.int .u32 v0, .int .u32 v1, .int .u32 v2, .int .u32 v3]), (w.heap.size, #[.int .u32 u0, .int .u32 u1, .int .u32 u2, .int .u32 u3])] _) := Lib.hid (M.out.set2 0 rfl (.float .f64 ml) (.float .f64 mh))
  go_simp
  refine hK.out _ _ (Or.inr ⟨(M.out.nth 9 rfl).two, (M.out.nth 10 rfl).two⟩) (fun hHeld => ?_)
  clear hK K hHeld kc kf
  refine tails_one (T := []) (i := 12) (o := _) rfl (by kernel_rfl) (fun K hK => ?_)
  go_simp
  refine hK.out _ _ (Or.inr ⟨(M.out.nth 9 rfl).two, (M.out.nth 10 rfl).two⟩) (fun hHeld => ?_)
  clear hK K hHeld
  refine tails_done (by kernel_rfl) ?_ _
  refine NoPanic.normal ?_
  clear hS
  revert M
  generalize ((v.setCell ⟨p9_1, 0, none⟩ (.float .f64 ml)).setCell ⟨p9_1, 1, none⟩ (.float .f64 mh)) = W9_
  intro M
  obtain ⟨k1, k2⟩ := (M.out.nth 5 rfl).two
  obtain ⟨k3, k4⟩ := (M.out.nth 6 rfl).two
  go_wp2_with fail
  refine (c17.out _).mono ?_
  rintro r w10_ ⟨rfl, hb⟩
  replace M := Lib.hid (M.out.below hb)
  clear hb
  clear k1 k2 k3 k4
  obtain ⟨k1, k2⟩ := (M.out.nth 3 rfl).two
  obtain ⟨k3, k4⟩ := (M.out.nth 4 rfl).two
  go_wp2_with fail
  refine (c18.out _).mono ?_
  rintro r w11_ ⟨rfl, hb⟩
  replace M := Lib.hid (M.out.below hb)
  clear hb
  clear k1 k2 k3 k4
  obtain ⟨k1, k2⟩ := (M.out.nth 2 rfl).two
  obtain ⟨k3, k4⟩ := (M.out.nth 0 rfl).two
  obtain ⟨k5, k6⟩ := (M.out.nth 1 rfl).two
  obtain ⟨k7, k8⟩ := (M.out.nth 9 rfl).two
  obtain ⟨k9, k10⟩ := (M.out.nth 6 rfl).two
  go_wp2_with fail
  refine (c19.out _).mono ?_
  rintro r w12_ ⟨rfl, hb⟩
  replace M := Lib.hid (M.out.below hb)
  clear hb
  clear k1 k2 k3 k4 k5 k6 k7 k8 k9 k10
  go_wp2
  go_ret
  exact ⟨rfl, M.out.base⟩

end Go.Proofs.Ytoocmocaelcbkaa
