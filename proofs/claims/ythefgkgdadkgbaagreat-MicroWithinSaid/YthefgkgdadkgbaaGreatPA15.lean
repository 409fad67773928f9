/- What the claim stands on, part 16: MiWL. -/
import Derived.Test.YthefgkgdadkgbaaGreatPA13
import Derived.Test.YthefgkgdadkgbaaGreatPA14
import Derived.Deep.RegionHeld3
namespace Go.Proofs.YthefgkgdadkgbaaGreat
open Go.RowKit
attribute [local go_sem] run_store_float

section
variable {P : Program} {ops : Array Oper} {Q : Exit → Act → World → Prop} {md : Region.Mode} {S : World → Prop}
theorem lp_ccccppp_1 {a0 : Act} {B v : World} {l : List (Nat × Array Value)} (_ : Hid (Own B l v)) {w0 : World} {L0 : Array Bool} (c1 c2 c3 c4 c5 c6 c7 m1 : Nat) (slots : List Nat) (N : Nat) (J : List (Nat × Array Value) → Act → Nat → List (Option Nat) → Act → World → Prop) (hok : latOkP [false, false, false, false, true, true, true] md ops L0 [c1, c2, c3, c4, c5, c6, c7] [m1] = true)
    (hsl : (slots.all fun s => decide (s < a0.tmps.size)) = true) (h0 : ∀ A : Act, (∀ s, s ∈ slots → s < A.tmps.size) → J l A 0 (List.replicate 1 none) A w0)
    (hS : ∀ k p a w, J l a0 k p a w → S w)
    (k1 : ∀ p a w, J l a0 0 p a w → wpOp P ops Q c1 (fun b v => J l a0 1 p b v) a w)
    (k2 : ∀ p a w, J l a0 1 p a w → wpOp P ops Q c2 (fun b v => J l a0 2 p b v) a w)
    (k3 : ∀ p a w, J l a0 2 p a w → wpOp P ops Q c3 (fun b v => J l a0 3 p b v) a w)
    (k4 : ∀ p a w, J l a0 3 p a w → wpOp P ops Q c4 (fun b v => J l a0 4 p b v) a w)
    (k5 : ∀ p a w, J l a0 4 p a w → ∃ o x, ops[c5]? = some o ∧ YieldsIf P ops S o x a ∧ (∀ c a w, Q (.panic c) (a.put o.dst x) w → Q (.panic c) a w) ∧ J l a0 5 p (a.put o.dst x) w)
    (k6 : ∀ p a w, J l a0 5 p a w → ∃ o x, ops[c6]? = some o ∧ YieldsIf P ops S o x a ∧ (∀ c a w, Q (.panic c) (a.put o.dst x) w → Q (.panic c) a w) ∧ J l a0 6 p (a.put o.dst x) w)
    (k7 : ∀ p a w, J l a0 6 p a w → ∃ o x, ops[c7]? = some o ∧ YieldsIf P ops S o x a ∧ (∀ c a w, Q (.panic c) (a.put o.dst x) w → Q (.panic c) a w) ∧ J l a0 7 p (a.put o.dst x) w)
    (n1 : ∀ k p a w, p[0]? = some none → J l a0 k p a w → wpOp P ops Q m1 (fun b v => ∃ q, J l a0 k (p.set 0 (some q)) b v) a w)
    (fin : ∀ q1 a w, J l a0 7 [some q1] a w → wpAnyV P md ops Q S [] N (lstOf L0 [c1, c2, c3, c4, c5, c6, c7] [m1] 7 [true]) a w) :
    wpAnyV P md ops Q S [] (N + 8) L0 a0 w0 := by
  refine latP_from (pl := [false, false, false, false, true, true, true]) [c1, c2, c3, c4, c5, c6, c7] [m1] slots N 8 (J l) hok rfl hsl h0 hS (fun k i p a w hk hn hJ => ?_) (fun k i p a w hk hn hJ => ?_) (fun k m i p a w hm hp hJ => ?_) (fun p a w hp hall hJ => ?_)
  · rcases k with _ | _ | _ | _ | _ | _ | _ | k
    · obtain rfl : c1 = i := by simpa using hk
      exact k1 p a w hJ
    · obtain rfl : c2 = i := by simpa using hk
      exact k2 p a w hJ
    · obtain rfl : c3 = i := by simpa using hk
      exact k3 p a w hJ
    · obtain rfl : c4 = i := by simpa using hk
      exact k4 p a w hJ
    · exact absurd hn (by decide)
    · exact absurd hn (by decide)
    · exact absurd hn (by decide)
    · simp at hk
  · rcases k with _ | _ | _ | _ | _ | _ | _ | k
    · exact absurd hn (by decide)
    · exact absurd hn (by decide)
    · exact absurd hn (by decide)
    · exact absurd hn (by decide)
    · obtain rfl : c5 = i := by simpa using hk
      exact k5 p a w hJ
    · obtain rfl : c6 = i := by simpa using hk
      exact k6 p a w hJ
    · obtain rfl : c7 = i := by simpa using hk
      exact k7 p a w hJ
    · simp at hk
  · rcases m with _ | m
    · obtain rfl : m1 = i := by simpa using hm
      exact n1 k p a w hp hJ
    · simp at hm
  · obtain ⟨q1, rfl⟩ := fin_one hp hall
    exact fin q1 a w hJ
end

def mwokJ8 (w : World) (ia0 ia1 ia2 ia3 ia4 ia5 ib0 ib1 ib2 ib3 ib4 ib5 ml mh t0 t1 t2 t3 t4 t5 t6 t7 : Nat) (l : RowL) (a0 : Act) (k : Nat) (p : List (Option Nat)) (a : Act) (v : World) : Prop :=
  ∃ y1 y2 y3 y4 y5 y6 y7 z1 : Value, a = ((((((((a0.put (some 52) y1).put (some 55) y2).put (some 64) y3).put (some 65) y4).put (some 49) y5).put (some 66) y6).put (some 67) y7).put (some 18) z1) ∧ (0 < k → y1 = .agg #[.float .f64 ia0, .float .f64 ia1, .float .f64 ia2, .float .f64 ia3, .float .f64 ia4, .float .f64 ia5]) ∧ (1 < k → y2 = .agg #[.float .f64 ib0, .float .f64 ib1, .float .f64 ib2, .float .f64 ib3, .float .f64 ib4, .float .f64 ib5]) ∧ (2 < k → y3 = .agg #[.float .f64 ml, .float .f64 mh]) ∧ (3 < k → y4 = .tuple #[.agg #[.float .f64 t0, .float .f64 t1, .float .f64 t2, .float .f64 t3, .float .f64 t4, .float .f64 t5, .float .f64 t6, .float .f64 t7], .int .i64 0]) ∧ (4 < k → y5 = .tuple #[.agg #[.float .f64 t0, .float .f64 t1, .float .f64 t2, .float .f64 t3, .float .f64 t4, .float .f64 t5, .float .f64 t6, .float .f64 t7], .int .i64 0]) ∧ (5 < k → y6 = .agg #[.float .f64 t0, .float .f64 t1, .float .f64 t2, .float .f64 t3, .float .f64 t4, .float .f64 t5, .float .f64 t6, .float .f64 t7]) ∧ (6 < k → y7 = .int .i64 0) ∧ (∀ q, p[0]? = some (some q) → z1 = .pointer (some ⟨q, 0, none⟩)) ∧ OwnF w l [#[.float .f64 0, .float .f64 0, .float .f64 0, .float .f64 0, .float .f64 0, .float .f64 0, .float .f64 0, .float .f64 0]] p v
section
variable {w v : World} {ia0 ia1 ia2 ia3 ia4 ia5 ib0 ib1 ib2 ib3 ib4 ib5 ml mh t0 t1 t2 t3 t4 t5 t6 t7 : Nat} {l : RowL} {a0 a : Act} {p : List (Option Nat)}
theorem mwokJ8_0 (h : mwokJ8 w ia0 ia1 ia2 ia3 ia4 ia5 ib0 ib1 ib2 ib3 ib4 ib5 ml mh t0 t1 t2 t3 t4 t5 t6 t7 l a0 0 p a v) : ∃ y1 y2 y3 y4 y5 y6 y7 z1 : Value, a = ((((((((a0.put (some 52) y1).put (some 55) y2).put (some 64) y3).put (some 65) y4).put (some 49) y5).put (some 66) y6).put (some 67) y7).put (some 18) z1) ∧ (∀ q, p[0]? = some (some q) → z1 = .pointer (some ⟨q, 0, none⟩)) ∧ OwnF w l [#[.float .f64 0, .float .f64 0, .float .f64 0, .float .f64 0, .float .f64 0, .float .f64 0, .float .f64 0, .float .f64 0]] p v := by
  obtain ⟨y1, y2, y3, y4, y5, y6, y7, z1, ha, E1, E2, E3, E4, E5, E6, E7, G1, h⟩ := h
  exact ⟨y1, y2, y3, y4, y5, y6, y7, z1, ha, G1, h⟩
theorem mwokJ8_1 (h : mwokJ8 w ia0 ia1 ia2 ia3 ia4 ia5 ib0 ib1 ib2 ib3 ib4 ib5 ml mh t0 t1 t2 t3 t4 t5 t6 t7 l a0 1 p a v) : ∃ y2 y3 y4 y5 y6 y7 z1 : Value, a = ((((((((a0.put (some 52) (.agg #[.float .f64 ia0, .float .f64 ia1, .float .f64 ia2, .float .f64 ia3, .float .f64 ia4, .float .f64 ia5])).put (some 55) y2).put (some 64) y3).put (some 65) y4).put (some 49) y5).put (some 66) y6).put (some 67) y7).put (some 18) z1) ∧ (∀ q, p[0]? = some (some q) → z1 = .pointer (some ⟨q, 0, none⟩)) ∧ OwnF w l [#[.float .f64 0, .float .f64 0, .float .f64 0, .float .f64 0, .float .f64 0, .float .f64 0, .float .f64 0, .float .f64 0]] p v := by
  obtain ⟨y1, y2, y3, y4, y5, y6, y7, z1, ha, E1, E2, E3, E4, E5, E6, E7, G1, h⟩ := h
  obtain rfl := E1 (by decide)
  exact ⟨y2, y3, y4, y5, y6, y7, z1, ha, G1, h⟩
theorem mwokJ8_2 (h : mwokJ8 w ia0 ia1 ia2 ia3 ia4 ia5 ib0 ib1 ib2 ib3 ib4 ib5 ml mh t0 t1 t2 t3 t4 t5 t6 t7 l a0 2 p a v) : ∃ y3 y4 y5 y6 y7 z1 : Value, a = ((((((((a0.put (some 52) (.agg #[.float .f64 ia0, .float .f64 ia1, .float .f64 ia2, .float .f64 ia3, .float .f64 ia4, .float .f64 ia5])).put (some 55) (.agg #[.float .f64 ib0, .float .f64 ib1, .float .f64 ib2, .float .f64 ib3, .float .f64 ib4, .float .f64 ib5])).put (some 64) y3).put (some 65) y4).put (some 49) y5).put (some 66) y6).put (some 67) y7).put (some 18) z1) ∧ (∀ q, p[0]? = some (some q) → z1 = .pointer (some ⟨q, 0, none⟩)) ∧ OwnF w l [#[.float .f64 0, .float .f64 0, .float .f64 0, .float .f64 0, .float .f64 0, .float .f64 0, .float .f64 0, .float .f64 0]] p v := by
  obtain ⟨y1, y2, y3, y4, y5, y6, y7, z1, ha, E1, E2, E3, E4, E5, E6, E7, G1, h⟩ := h
  obtain rfl := E1 (by decide)
  obtain rfl := E2 (by decide)
  exact ⟨y3, y4, y5, y6, y7, z1, ha, G1, h⟩
theorem mwokJ8_3 (h : mwokJ8 w ia0 ia1 ia2 ia3 ia4 ia5 ib0 ib1 ib2 ib3 ib4 ib5 ml mh t0 t1 t2 t3 t4 t5 t6 t7 l a0 3 p a v) : ∃ y4 y5 y6 y7 z1 : Value, a = ((((((((a0.put (some 52) (.agg #[.float .f64 ia0, .float .f64 ia1, .float .f64 ia2, .float .f64 ia3, .float .f64 ia4, .float .f64 ia5])).put (some 55) (.agg #[.float .f64 ib0, .float .f64 ib1, .float .f64 ib2, .float .f64 ib3, .float .f64 ib4, .float .f64 ib5])).put (some 64) (.agg #[.float .f64 ml, .float .f64 mh])).put (some 65) y4).put (some 49) y5).put (some 66) y6).put (some 67) y7).put (some 18) z1) ∧ (∀ q, p[0]? = some (some q) → z1 = .pointer (some ⟨q, 0, none⟩)) ∧ OwnF w l [#[.float .f64 0, .float .f64 0, .float .f64 0, .float .f64 0, .float .f64 0, .float .f64 0, .float .f64 0, .float .f64 0]] p v := by
  obtain ⟨y1, y2, y3, y4, y5, y6, y7, z1, ha, E1, E2, E3, E4, E5, E6, E7, G1, h⟩ := h
  obtain rfl := E1 (by decide)
  obtain rfl := E2 (by decide)
  obtain rfl := E3 (by decide)
  exact ⟨y4, y5, y6, y7, z1, ha, G1, h⟩
theorem mwokJ8_4 (h : mwokJ8 w ia0 ia1 ia2 ia3 ia4 ia5 ib0 ib1 ib2 ib3 ib4 ib5 ml mh t0 t1 t2 t3 t4 t5 t6 t7 l a0 4 p a v) : ∃ y5 y6 y7 z1 : Value, a = ((((((((a0.put (some 52) (.agg #[.float .f64 ia0, .float .f64 ia1, .float .f64 ia2, .float .f64 ia3, .float .f64 ia4, .float .f64 ia5])).put (some 55) (.agg #[.float .f64 ib0, .float .f64 ib1, .float .f64 ib2, .float .f64 ib3, .float .f64 ib4, .float .f64 ib5])).put (some 64) (.agg #[.float .f64 ml, .float .f64 mh])).put (some 65) (.tuple #[.agg #[.float .f64 t0, .float .f64 t1, .float .f64 t2, .float .f64 t3, .float .f64 t4, .float .f64 t5, .float .f64 t6, .float .f64 t7], .int .i64 0])).put (some 49) y5).put (some 66) y6).put (some 67) y7).put (some 18) z1) ∧ (∀ q, p[0]? = some (some q) → z1 = .pointer (some ⟨q, 0, none⟩)) ∧ OwnF w l [#[.float .f64 0, .float .f64 0, .float .f64 0, .float .f64 0, .float .f64 0, .float .f64 0, .float .f64 0, .float .f64 0]] p v := by
  obtain ⟨y1, y2, y3, y4, y5, y6, y7, z1, ha, E1, E2, E3, E4, E5, E6, E7, G1, h⟩ := h
  obtain rfl := E1 (by decide)
  obtain rfl := E2 (by decide)
  obtain rfl := E3 (by decide)
  obtain rfl := E4 (by decide)
  exact ⟨y5, y6, y7, z1, ha, G1, h⟩
theorem mwokJ8_5 (h : mwokJ8 w ia0 ia1 ia2 ia3 ia4 ia5 ib0 ib1 ib2 ib3 ib4 ib5 ml mh t0 t1 t2 t3 t4 t5 t6 t7 l a0 5 p a v) : ∃ y6 y7 z1 : Value, a = ((((((((a0.put (some 52) (.agg #[.float .f64 ia0, .float .f64 ia1, .float .f64 ia2, .float .f64 ia3, .float .f64 ia4, .float .f64 ia5])).put (some 55) (.agg #[.float .f64 ib0, .float .f64 ib1, .float .f64 ib2, .float .f64 ib3, .float .f64 ib4, .float .f64 ib5])).put (some 64) (.agg #[.float .f64 ml, .float .f64 mh])).put (some 65) (.tuple #[.agg #[.float .f64 t0, .float .f64 t1, .float .f64 t2, .float .f64 t3, .float .f64 t4, .float .f64 t5, .float .f64 t6, .float .f64 t7], .int .i64 0])).put (some 49) (.tuple #[.agg #[.float .f64 t0, .float .f64 t1, .float .f64 t2, .float .f64 t3, .float .f64 t4, .float .f64 t5, .float .f64 t6, .float .f64 t7], .int .i64 0])).put (some 66) y6).put (some 67) y7).put (some 18) z1) ∧ (∀ q, p[0]? = some (some q) → z1 = .pointer (some ⟨q, 0, none⟩)) ∧ OwnF w l [#[.float .f64 0, .float .f64 0, .float .f64 0, .float .f64 0, .float .f64 0, .float .f64 0, .float .f64 0, .float .f64 0]] p v := by
  obtain ⟨y1, y2, y3, y4, y5, y6, y7, z1, ha, E1, E2, E3, E4, E5, E6, E7, G1, h⟩ := h
  obtain rfl := E1 (by decide)
  obtain rfl := E2 (by decide)
  obtain rfl := E3 (by decide)
  obtain rfl := E4 (by decide)
  obtain rfl := E5 (by decide)
  exact ⟨y6, y7, z1, ha, G1, h⟩
theorem mwokJ8_6 (h : mwokJ8 w ia0 ia1 ia2 ia3 ia4 ia5 ib0 ib1 ib2 ib3 ib4 ib5 ml mh t0 t1 t2 t3 t4 t5 t6 t7 l a0 6 p a v) : ∃ y7 z1 : Value, a = ((((((((a0.put (some 52) (.agg #[.float .f64 ia0, .float .f64 ia1, .float .f64 ia2, .float .f64 ia3, .float .f64 ia4, .float .f64 ia5])).put (some 55) (.agg #[.float .f64 ib0, .float .f64 ib1, .float .f64 ib2, .float .f64 ib3, .float .f64 ib4, .float .f64 ib5])).put (some 64) (.agg #[.float .f64 ml, .float .f64 mh])).put (some 65) (.tuple #[.agg #[.float .f64 t0, .float .f64 t1, .float .f64 t2, .float .f64 t3, .float .f64 t4, .float .f64 t5, .float .f64 t6, .float .f64 t7], .int .i64 0])).put (some 49) (.tuple #[.agg #[.float .f64 t0, .float .f64 t1, .float .f64 t2, .float .f64 t3, .float .f64 t4, .float .f64 t5, .float .f64 t6, .float .f64 t7], .int .i64 0])).put (some 66) (.agg #[.float .f64 t0, .float .f64 t1, .float .f64 t2, .float .f64 t3, .float .f64 t4, .float .f64 t5, .float .f64 t6, .float .f64 t7])).put (some 67) y7).put (some 18) z1) ∧ (∀ q, p[0]? = some (some q) → z1 = .pointer (some ⟨q, 0, none⟩)) ∧ OwnF w l [#[.float .f64 0, .float .f64 0, .float .f64 0, .float .f64 0, .float .f64 0, .float .f64 0, .float .f64 0, .float .f64 0]] p v := by
  obtain ⟨y1, y2, y3, y4, y5, y6, y7, z1, ha, E1, E2, E3, E4, E5, E6, E7, G1, h⟩ := h
  obtain rfl := E1 (by decide)
  obtain rfl := E2 (by decide)
  obtain rfl := E3 (by decide)
  obtain rfl := E4 (by decide)
  obtain rfl := E5 (by decide)
  obtain rfl := E6 (by decide)
  exact ⟨y7, z1, ha, G1, h⟩
theorem mwokJ8_fin {q1 : Nat} (h : mwokJ8 w ia0 ia1 ia2 ia3 ia4 ia5 ib0 ib1 ib2 ib3 ib4 ib5 ml mh t0 t1 t2 t3 t4 t5 t6 t7 l a0 7 [some q1] a v) : a = ((((((((a0.put (some 52) (.agg #[.float .f64 ia0, .float .f64 ia1, .float .f64 ia2, .float .f64 ia3, .float .f64 ia4, .float .f64 ia5])).put (some 55) (.agg #[.float .f64 ib0, .float .f64 ib1, .float .f64 ib2, .float .f64 ib3, .float .f64 ib4, .float .f64 ib5])).put (some 64) (.agg #[.float .f64 ml, .float .f64 mh])).put (some 65) (.tuple #[.agg #[.float .f64 t0, .float .f64 t1, .float .f64 t2, .float .f64 t3, .float .f64 t4, .float .f64 t5, .float .f64 t6, .float .f64 t7], .int .i64 0])).put (some 49) (.tuple #[.agg #[.float .f64 t0, .float .f64 t1, .float .f64 t2, .float .f64 t3, .float .f64 t4, .float .f64 t5, .float .f64 t6, .float .f64 t7], .int .i64 0])).put (some 66) (.agg #[.float .f64 t0, .float .f64 t1, .float .f64 t2, .float .f64 t3, .float .f64 t4, .float .f64 t5, .float .f64 t6, .float .f64 t7])).put (some 67) (.int .i64 0)).put (some 18) (.pointer (some ⟨q1, 0, none⟩))) ∧ OwnF w l [#[.float .f64 0, .float .f64 0, .float .f64 0, .float .f64 0, .float .f64 0, .float .f64 0, .float .f64 0, .float .f64 0]] [some q1] v := by
  obtain ⟨y1, y2, y3, y4, y5, y6, y7, z1, ha, E1, E2, E3, E4, E5, E6, E7, G1, h⟩ := h
  obtain rfl := E1 (by decide)
  obtain rfl := E2 (by decide)
  obtain rfl := E3 (by decide)
  obtain rfl := E4 (by decide)
  obtain rfl := E5 (by decide)
  obtain rfl := E6 (by decide)
  obtain rfl := E7 (by decide)
  obtain rfl := G1 _ rfl
  exact ⟨ha, h⟩
end

set_option maxRecDepth 100000 in
set_option maxHeartbeats 16000000 in
theorem mwithin_ok {u0 u1 u2 u3 u4 u5 bw v0 v1 v2 v3 v4 v5 w0 w1 w2 w3 w4 w5 k_0 k_1 k_2 k_3 a0 a1 a2 a3 a4 a5 b0 b1 b2 b3 b4 b5 f ca0 ca1 ca2 ca3 ca4 ca5 cb0 cb1 cb2 cb3 cb4 cb5 el eh x0 x1 x2 x3 x4 x5 x6 x7 ia0 ia1 ia2 ia3 ia4 ia5 ib0 ib1 ib2 ib3 ib4 ib5 ml mh t0 t1 t2 t3 t4 t5 t6 t7 : Nat} (w : World)
    (c1 : Hid (∀ w, Calls Tryz.prog 4 #[.agg #[.int .u32 u0, .int .u32 u1, .int .u32 u2, .int .u32 u3, .int .u32 u4, .int .u32 u5]] w fun r w' => r = .returned (.tuple #[.agg #[.float .f64 a0, .float .f64 a1, .float .f64 a2, .float .f64 a3, .float .f64 a4, .float .f64 a5], .agg #[.float .f64 b0, .float .f64 b1, .float .f64 b2, .float .f64 b3, .float .f64 b4, .float .f64 b5], .bool true]) ∧ Below w.heap.size w w'))
    (q_f : (∀ w, (binOp .quo 25 (.float .f64 (floatOfInt .f64 (bw))) (.float .f64 4643211215818981376)).run Tryz.prog w = .ok (.float .f64 f) w))
    (c2 : Hid (∀ w, Calls Tryz.prog 5 #[.agg #[.float .f64 a0, .float .f64 a1, .float .f64 a2, .float .f64 a3, .float .f64 a4, .float .f64 a5], .float .f64 f] w fun r w' => r = .returned (.agg #[.float .f64 ca0, .float .f64 ca1, .float .f64 ca2, .float .f64 ca3, .float .f64 ca4, .float .f64 ca5]) ∧ Below w.heap.size w w'))
    (c3 : Hid (∀ w, Calls Tryz.prog 5 #[.agg #[.float .f64 b0, .float .f64 b1, .float .f64 b2, .float .f64 b3, .float .f64 b4, .float .f64 b5], .float .f64 f] w fun r w' => r = .returned (.agg #[.float .f64 cb0, .float .f64 cb1, .float .f64 cb2, .float .f64 cb3, .float .f64 cb4, .float .f64 cb5]) ∧ Below w.heap.size w w'))
    (c4 : Hid (∀ w, Calls Tryz.prog 6 #[.float .f64 4584664420663164928, .float .f64 4607182418800017408, .int .u32 k_0, .int .u32 k_1] w fun r w' => r = .returned (.agg #[.float .f64 el, .float .f64 eh]) ∧ Below w.heap.size w w'))
    (c5 : Hid (∀ w, Calls Tryz.prog 7 #[.agg #[.float .f64 ca0, .float .f64 ca1, .float .f64 ca2, .float .f64 ca3, .float .f64 ca4, .float .f64 ca5], .agg #[.float .f64 cb0, .float .f64 cb1, .float .f64 cb2, .float .f64 cb3, .float .f64 cb4, .float .f64 cb5], .agg #[.float .f64 el, .float .f64 eh]] w fun r w' => r = .returned (.tuple #[.agg #[.float .f64 x0, .float .f64 x1, .float .f64 x2, .float .f64 x3, .float .f64 x4, .float .f64 x5, .float .f64 x6, .float .f64 x7], .int .i64 0]) ∧ Below w.heap.size w w'))
    (c6 : Hid (∀ w, Calls Tryz.prog 8 #[.agg #[.float .f64 ca0, .float .f64 ca1, .float .f64 ca2, .float .f64 ca3, .float .f64 ca4, .float .f64 ca5], .agg #[.int .u32 v0, .int .u32 v1, .int .u32 v2, .int .u32 v3, .int .u32 v4, .int .u32 v5]] w fun r w' => r = .returned (.agg #[.float .f64 ia0, .float .f64 ia1, .float .f64 ia2, .float .f64 ia3, .float .f64 ia4, .float .f64 ia5]) ∧ Below w.heap.size w w'))
    (c7 : Hid (∀ w, Calls Tryz.prog 8 #[.agg #[.float .f64 cb0, .float .f64 cb1, .float .f64 cb2, .float .f64 cb3, .float .f64 cb4, .float .f64 cb5], .agg #[.int .u32 w0, .int .u32 w1, .int .u32 w2, .int .u32 w3, .int .u32 w4, .int .u32 w5]] w fun r w' => r = .returned (.agg #[.float .f64 ib0, .float .f64 ib1, .float .f64 ib2, .float .f64 ib3, .float .f64 ib4, .float .f64 ib5]) ∧ Below w.heap.size w w'))
    (c8 : Hid (∀ w, Calls Tryz.prog 6 #[.float .f64 el, .float .f64 eh, .int .u32 k_2, .int .u32 k_3] w fun r w' => r = .returned (.agg #[.float .f64 ml, .float .f64 mh]) ∧ Below w.heap.size w w'))
    (c9 : Hid (∀ w, Calls Tryz.prog 7 #[.agg #[.float .f64 ia0, .float .f64 ia1, .float .f64 ia2, .float .f64 ia3, .float .f64 ia4, .float .f64 ia5], .agg #[.float .f64 ib0, .float .f64 ib1, .float .f64 ib2, .float .f64 ib3, .float .f64 ib4, .float .f64 ib5], .agg #[.float .f64 ml, .float .f64 mh]] w fun r w' => r = .returned (.tuple #[.agg #[.float .f64 t0, .float .f64 t1, .float .f64 t2, .float .f64 t3, .float .f64 t4, .float .f64 t5, .float .f64 t6, .float .f64 t7], .int .i64 0]) ∧ Below w.heap.size w w'))
    (c10 : Hid (∀ w, Calls Tryz.prog 10 #[.agg #[.float .f64 t0, .float .f64 t1], .agg #[.float .f64 x0, .float .f64 x1]] w fun r w' => r = .returned (.bool true) ∧ Below w.heap.size w w'))
    (c11 : Hid (∀ w, Calls Tryz.prog 10 #[.agg #[.float .f64 t2, .float .f64 t3], .agg #[.float .f64 x2, .float .f64 x3]] w fun r w' => r = .returned (.bool true) ∧ Below w.heap.size w w'))
    (c12 : Hid (∀ w, Calls Tryz.prog 10 #[.agg #[.float .f64 t4, .float .f64 t5], .agg #[.float .f64 x4, .float .f64 x5]] w fun r w' => r = .returned (.bool true) ∧ Below w.heap.size w w'))
    (c13 : Hid (∀ w, Calls Tryz.prog 10 #[.agg #[.float .f64 t6, .float .f64 t7], .agg #[.float .f64 x6, .float .f64 x7]] w fun r w' => r = .returned (.bool true) ∧ Below w.heap.size w w'))
    (c14 : Hid (∀ w, Calls Tryz.prog 9 #[] w fun r w' => r = .returned (.bool true) ∧ Below w.heap.size w w')) :
    Calls Tryz.prog 3 #[.agg #[.int .u32 u0, .int .u32 u1, .int .u32 u2, .int .u32 u3, .int .u32 u4, .int .u32 u5], .int .u8 bw, .agg #[.int .u32 v0, .int .u32 v1, .int .u32 v2, .int .u32 v3, .int .u32 v4, .int .u32 v5], .agg #[.int .u32 w0, .int .u32 w1, .int .u32 w2, .int .u32 w3, .int .u32 w4, .int .u32 w5], .agg #[.int .u32 k_0, .int .u32 k_1, .int .u32 k_2, .int .u32 k_3]] w fun r w' => r = .returned (.bool true) ∧ Below w.heap.size w w' := by
  have M := Lib.hid (((((Own.nil w).made #[.int .u32 u0, .int .u32 u1, .int .u32 u2, .int .u32 u3, .int .u32 u4, .int .u32 u5] 23).made #[.int .u32 v0, .int .u32 v1, .int .u32 v2, .int .u32 v3, .int .u32 v4, .int .u32 v5] 23).made #[.int .u32 w0, .int .u32 w1, .int .u32 w2, .int .u32 w3, .int .u32 w4, .int .u32 w5] 23).made #[.int .u32 k_0, .int .u32 k_1, .int .u32 k_2, .int .u32 k_3] 24)
  simp only [World.size_alloc] at M
  have eqF := eq_floats
  go_enter Tryz.func3, Tryz.ntmps3
  obtain ⟨k1, k2, k3, k4, k5, k6⟩ := (M.out.nth 3 rfl).six
  go_wp2_with fail
  refine (c1.out _).mono ?_
  rintro r w1_ ⟨rfl, hb⟩
  replace M := Lib.hid (M.out.below hb)
  clear hb
  clear k1 k2 k3 k4 k5 k6
  replace M := Lib.hid (M.out.made #[.float .f64 a0, .float .f64 a1, .float .f64 a2, .float .f64 a3, .float .f64 a4, .float .f64 a5] 29)
  replace M := Lib.hid (M.out.made #[.float .f64 b0, .float .f64 b1, .float .f64 b2, .float .f64 b3, .float .f64 b4, .float .f64 b5] 29)
  simp only [World.size_alloc] at M
  go_upto_region 5 with fail
  replace M := Lib.hid M.out.drew
  revert M
  generalize ((w1_.alloc (.cells #[.float .f64 a0, .float .f64 a1, .float .f64 a2, .float .f64 a3, .float .f64 a4, .float .f64 a5] 29)).alloc (.cells #[.float .f64 b0, .float .f64 b1, .float .f64 b2, .float .f64 b3, .float .f64 b4, .float .f64 b5] 29)) = W2_
  intro M
  refine wp_region_noPanic ?_
  refine tails_region (S := fun w' => (w'.cell? ⟨w1_.heap.size, 0, none⟩ = some (.float .f64 a0) ∧ w'.cell? ⟨w1_.heap.size, 1, none⟩ = some (.float .f64 a1) ∧ w'.cell? ⟨w1_.heap.size, 2, none⟩ = some (.float .f64 a2) ∧ w'.cell? ⟨w1_.heap.size, 3, none⟩ = some (.float .f64 a3) ∧ w'.cell? ⟨w1_.heap.size, 4, none⟩ = some (.float .f64 a4) ∧ w'.cell? ⟨w1_.heap.size, 5, none⟩ = some (.float .f64 a5)) ∧ (w'.cell? ⟨(w1_.heap.size + 1), 0, none⟩ = some (.float .f64 b0) ∧ w'.cell? ⟨(w1_.heap.size + 1), 1, none⟩ = some (.float .f64 b1) ∧ w'.cell? ⟨(w1_.heap.size + 1), 2, none⟩ = some (.float .f64 b2) ∧ w'.cell? ⟨(w1_.heap.size + 1), 3, none⟩ = some (.float .f64 b3) ∧ w'.cell? ⟨(w1_.heap.size + 1), 4, none⟩ = some (.float .f64 b4) ∧ w'.cell? ⟨(w1_.heap.size + 1), 5, none⟩ = some (.float .f64 b5))) [6, 7] (by kernel_rfl) ?_ (fun hS => ?_)
  · exact ⟨(M.out.nth 1 rfl).six, (M.out.nth 0 rfl).six⟩
  refine tails_take (T := [6, 7]) (i := 0) (o := _) (x := ?_) rfl (by kernel_rfl) (by kernel_rfl) (by kernel_rfl) (by kernel_rfl) (fun _ _ _ h => h) (Or.inl ⟨by kernel_rfl, ?_⟩) hS ?_
  rotate_left; focus (intro w hSw; (try dsimp only at hSw); go_simp; try with_reducible rfl)
  refine tails_take (T := [6, 7]) (i := 1) (o := _) (x := ?_) rfl (by kernel_rfl) (by kernel_rfl) (by kernel_rfl) (by kernel_rfl) (fun _ _ _ h => h) (Or.inl ⟨by kernel_rfl, ?_⟩) hS ?_
  rotate_left; focus (intro w hSw; (try dsimp only at hSw); go_simp; try with_reducible rfl)
  refine tails_take (T := [6, 7]) (i := 3) (o := _) (x := ?_) rfl (by kernel_rfl) (by kernel_rfl) (by kernel_rfl) (by kernel_rfl) (fun _ _ _ h => h) (Or.inl ⟨by kernel_rfl, ?_⟩) hS ?_
  rotate_left; focus (intro w hSw; (try dsimp only at hSw); go_simp; try with_reducible rfl)
  refine tails_take (T := [6, 7]) (i := 4) (o := _) (x := ?_) rfl (by kernel_rfl) (by kernel_rfl) (by kernel_rfl) (by kernel_rfl) (fun _ _ _ h => h) (Or.inl ⟨by kernel_rfl, ?_⟩) hS ?_
  rotate_left; focus (intro w hSw; (try dsimp only at hSw); go_simp; try with_reducible rfl)
  conv => arg 9; simp only [Act.put, go_sem]
  refine tails_one (T := [6, 7]) (i := 2) (o := _) rfl (by kernel_rfl) (fun K hK => ?_)
  go_simp
  refine (c2.out _).mono ?_
  rintro rr w3_ ⟨rfl, hb⟩
  replace M := Lib.hid (M.out.below hb)
  clear hb
  try go_wp2_with fail
  refine hK.out _ _ (Or.inr ⟨(M.out.nth 1 rfl).six, (M.out.nth 0 rfl).six⟩) (fun hHeld => ?_)
  clear hK K hHeld
  replace hS := (And.intro (M.out.nth 1 rfl).six (M.out.nth 0 rfl).six)
  refine tails_one (T := [6, 7]) (i := 5) (o := _) rfl (by kernel_rfl) (fun K hK => ?_)
  go_simp
  refine (c3.out _).mono ?_
  rintro rr w4_ ⟨rfl, hb⟩
  replace M := Lib.hid (M.out.below hb)
  clear hb
  try go_wp2_with fail
  refine hK.out _ _ (Or.inr ⟨(M.out.nth 1 rfl).six, (M.out.nth 0 rfl).six⟩) (fun hHeld => ?_)
  clear hK K hHeld
  replace hS := (And.intro (M.out.nth 1 rfl).six (M.out.nth 0 rfl).six)
  refine tails_one (T := [6, 7]) (i := 6) (o := _) rfl (by kernel_rfl) (fun K hK => ?_)
  have kc := (M.out.nth 1 rfl).2.1
  have kf := (M.out.nth 1 rfl).2.2
  replace M : Hid (Own w [((w1_.heap.size + 1), #[.float .f64 b0, .float .f64 b1, .float .f64 b2, .float .f64 b3, .float .f64 b4, .float .f64 b5]), (w1_.heap.size, #[.float .f64 ca0, .float .f64 ca1, .float .f64 ca2, .float .f64 ca3, .float .f64 ca4, .float .f64 ca5]), ((w.heap.size + 1 + 1 + 1), #[.int .u32 k_0, .int .u32 k_1, .int .u32 k_2, .int .u32 k_3]), ((w.heap.size + 1 + 1), #[.int .u32 w0, .int .u32 w1, .int .u32 w2, .int .u32 w3, .int .u32 w4, .int .u32 w5]), ((w.heap.size + 1), #[.int .u32 v0, .int .u32 v1, .int .u32 v2, .int .u32 v3, .int .u32 v4, .int .u32 v5]), (w.heap.size, #[.int .u32 u0, .int .u32 u1, .int .u32 u2, .int .u32 u3, .int .u32 u4, .int .u32 u5])] _) := Lib.hid (M.out.set6 1 rfl (.float .f64 ca0) (.float .f64 ca1) (.float .f64 ca2) (.float .f64 ca3) (.float .f64 ca4) (.float .f64 ca5))
  go_simp
  refine hK.out _ _ (Or.inl (by decide)) (fun hHeld => ?_)
  clear hK K hHeld kc kf
  refine tails_one (T := [6, 7]) (i := 7) (o := _) rfl (by kernel_rfl) (fun K hK => ?_)
  have kc := (M.out.nth 0 rfl).2.1
  have kf := (M.out.nth 0 rfl).2.2
  replace M : Hid (Own w [((w1_.heap.size + 1), #[.float .f64 cb0, .float .f64 cb1, .float .f64 cb2, .float .f64 cb3, .float .f64 cb4, .float .f64 cb5]), (w1_.heap.size, #[.float .f64 ca0, .float .f64 ca1, .float .f64 ca2, .float .f64 ca3, .float .f64 ca4, .float .f64 ca5]), ((w.heap.size + 1 + 1 + 1), #[.int .u32 k_0, .int .u32 k_1, .int .u32 k_2, .int .u32 k_3]), ((w.heap.size + 1 + 1), #[.int .u32 w0, .int .u32 w1, .int .u32 w2, .int .u32 w3, .int .u32 w4, .int .u32 w5]), ((w.heap.size + 1), #[.int .u32 v0, .int .u32 v1, .int .u32 v2, .int .u32 v3, .int .u32 v4, .int .u32 v5]), (w.heap.size, #[.int .u32 u0, .int .u32 u1, .int .u32 u2, .int .u32 u3, .int .u32 u4, .int .u32 u5])] _) := Lib.hid (M.out.set6 0 rfl (.float .f64 cb0) (.float .f64 cb1) (.float .f64 cb2) (.float .f64 cb3) (.float .f64 cb4) (.float .f64 cb5))
  go_simp
  refine hK.out _ _ (Or.inl (by decide)) (fun hHeld => ?_)
  clear hK K hHeld kc kf
  refine tails_done (by kernel_rfl) ?_ _
  refine NoPanic.normal ?_
  clear hS
  revert M
  generalize ((((((((((((w4_.setCell ⟨w1_.heap.size, 0, none⟩ (.float .f64 ca0)).setCell ⟨w1_.heap.size, 1, none⟩ (.float .f64 ca1)).setCell ⟨w1_.heap.size, 2, none⟩ (.float .f64 ca2)).setCell ⟨w1_.heap.size, 3, none⟩ (.float .f64 ca3)).setCell ⟨w1_.heap.size, 4, none⟩ (.float .f64 ca4)).setCell ⟨w1_.heap.size, 5, none⟩ (.float .f64 ca5)).setCell ⟨(w1_.heap.size + 1), 0, none⟩ (.float .f64 cb0)).setCell ⟨(w1_.heap.size + 1), 1, none⟩ (.float .f64 cb1)).setCell ⟨(w1_.heap.size + 1), 2, none⟩ (.float .f64 cb2)).setCell ⟨(w1_.heap.size + 1), 3, none⟩ (.float .f64 cb3)).setCell ⟨(w1_.heap.size + 1), 4, none⟩ (.float .f64 cb4)).setCell ⟨(w1_.heap.size + 1), 5, none⟩ (.float .f64 cb5)) = W5_
  intro M
  obtain ⟨k1, k2, k3, k4⟩ := (M.out.nth 2 rfl).four
  go_wp2_with fail
  refine (c4.out _).mono ?_
  rintro r w6_ ⟨rfl, hb⟩
  replace M := Lib.hid (M.out.below hb)
  clear hb
  clear k1 k2 k3 k4
  replace M := Lib.hid (M.out.made #[.float .f64 el, .float .f64 eh] 27)
  obtain ⟨k1, k2, k3, k4, k5, k6⟩ := (M.out.nth 2 rfl).six
  obtain ⟨k7, k8, k9, k10, k11, k12⟩ := (M.out.nth 1 rfl).six
  go_wp2_with fail
  refine (c5.out _).mono ?_
  rintro r w7_ ⟨rfl, hb⟩
  replace M := Lib.hid (M.out.below hb)
  clear hb
  clear k1 k2 k3 k4 k5 k6 k7 k8 k9 k10 k11 k12
  replace M := Lib.hid (M.out.made #[.float .f64 x0, .float .f64 x1, .float .f64 x2, .float .f64 x3, .float .f64 x4, .float .f64 x5, .float .f64 x6, .float .f64 x7] 35)
  go_upto_region 8 with fail
  replace M := Lib.hid M.out.drew
  revert M
  generalize (w7_.alloc (.cells #[.float .f64 x0, .float .f64 x1, .float .f64 x2, .float .f64 x3, .float .f64 x4, .float .f64 x5, .float .f64 x6, .float .f64 x7] 35)) = W8_
  intro M
  refine wp_region_noPanic ?_
  refine tails_region (S := fun w' => (w'.cell? ⟨w1_.heap.size, 0, none⟩ = some (.float .f64 ca0) ∧ w'.cell? ⟨w1_.heap.size, 1, none⟩ = some (.float .f64 ca1) ∧ w'.cell? ⟨w1_.heap.size, 2, none⟩ = some (.float .f64 ca2) ∧ w'.cell? ⟨w1_.heap.size, 3, none⟩ = some (.float .f64 ca3) ∧ w'.cell? ⟨w1_.heap.size, 4, none⟩ = some (.float .f64 ca4) ∧ w'.cell? ⟨w1_.heap.size, 5, none⟩ = some (.float .f64 ca5)) ∧ (w'.cell? ⟨(w.heap.size + 1), 0, none⟩ = some (.int .u32 v0) ∧ w'.cell? ⟨(w.heap.size + 1), 1, none⟩ = some (.int .u32 v1) ∧ w'.cell? ⟨(w.heap.size + 1), 2, none⟩ = some (.int .u32 v2) ∧ w'.cell? ⟨(w.heap.size + 1), 3, none⟩ = some (.int .u32 v3) ∧ w'.cell? ⟨(w.heap.size + 1), 4, none⟩ = some (.int .u32 v4) ∧ w'.cell? ⟨(w.heap.size + 1), 5, none⟩ = some (.int .u32 v5)) ∧ (w'.cell? ⟨(w1_.heap.size + 1), 0, none⟩ = some (.float .f64 cb0) ∧ w'.cell? ⟨(w1_.heap.size + 1), 1, none⟩ = some (.float .f64 cb1) ∧ w'.cell? ⟨(w1_.heap.size + 1), 2, none⟩ = some (.float .f64 cb2) ∧ w'.cell? ⟨(w1_.heap.size + 1), 3, none⟩ = some (.float .f64 cb3) ∧ w'.cell? ⟨(w1_.heap.size + 1), 4, none⟩ = some (.float .f64 cb4) ∧ w'.cell? ⟨(w1_.heap.size + 1), 5, none⟩ = some (.float .f64 cb5)) ∧ (w'.cell? ⟨(w.heap.size + 1 + 1), 0, none⟩ = some (.int .u32 w0) ∧ w'.cell? ⟨(w.heap.size + 1 + 1), 1, none⟩ = some (.int .u32 w1) ∧ w'.cell? ⟨(w.heap.size + 1 + 1), 2, none⟩ = some (.int .u32 w2) ∧ w'.cell? ⟨(w.heap.size + 1 + 1), 3, none⟩ = some (.int .u32 w3) ∧ w'.cell? ⟨(w.heap.size + 1 + 1), 4, none⟩ = some (.int .u32 w4) ∧ w'.cell? ⟨(w.heap.size + 1 + 1), 5, none⟩ = some (.int .u32 w5)) ∧ (w'.cell? ⟨w6_.heap.size, 0, none⟩ = some (.float .f64 el) ∧ w'.cell? ⟨w6_.heap.size, 1, none⟩ = some (.float .f64 eh)) ∧ (w'.cell? ⟨(w.heap.size + 1 + 1 + 1), 0, none⟩ = some (.int .u32 k_0) ∧ w'.cell? ⟨(w.heap.size + 1 + 1 + 1), 1, none⟩ = some (.int .u32 k_1) ∧ w'.cell? ⟨(w.heap.size + 1 + 1 + 1), 2, none⟩ = some (.int .u32 k_2) ∧ w'.cell? ⟨(w.heap.size + 1 + 1 + 1), 3, none⟩ = some (.int .u32 k_3))) [] (by kernel_rfl) ?_ (fun hS => ?_)
  · exact ⟨(M.out.nth 3 rfl).six, (M.out.nth 6 rfl).six, (M.out.nth 2 rfl).six, (M.out.nth 5 rfl).six, (M.out.nth 1 rfl).two, (M.out.nth 4 rfl).four⟩
  refine tk (x := ?_) 0 rfl (by kernel_rfl) ⟨by kernel_rfl, ?_⟩ (fun _ _ _ h => h) hS ?_
  rotate_left; focus (intro w hSw; (try dsimp only at hSw); go_simp; try with_reducible rfl)
  refine tk (x := ?_) 1 rfl (by kernel_rfl) ⟨by kernel_rfl, ?_⟩ (fun _ _ _ h => h) hS ?_
  rotate_left; focus (intro w hSw; (try dsimp only at hSw); go_simp; try with_reducible rfl)
  refine tk (x := ?_) 3 rfl (by kernel_rfl) ⟨by kernel_rfl, ?_⟩ (fun _ _ _ h => h) hS ?_
  rotate_left; focus (intro w hSw; (try dsimp only at hSw); go_simp; try with_reducible rfl)
  refine tk (x := ?_) 4 rfl (by kernel_rfl) ⟨by kernel_rfl, ?_⟩ (fun _ _ _ h => h) hS ?_
  rotate_left; focus (intro w hSw; (try dsimp only at hSw); go_simp; try with_reducible rfl)
  refine tk (x := ?_) 6 rfl (by kernel_rfl) ⟨by kernel_rfl, ?_⟩ (fun _ _ _ h => h) hS ?_
  rotate_left; focus (intro w hSw; (try dsimp only at hSw); go_simp; try with_reducible rfl)
  refine tk (x := ?_) 7 rfl (by kernel_rfl) ⟨by kernel_rfl, ?_⟩ (fun _ _ _ h => h) hS ?_
  rotate_left; focus (intro w hSw; (try dsimp only at hSw); go_simp; try with_reducible rfl)
  refine tk (x := ?_) 8 rfl (by kernel_rfl) ⟨by kernel_rfl, ?_⟩ (fun _ _ _ h => h) hS ?_
  rotate_left; focus (intro w hSw; (try dsimp only at hSw); go_simp; try with_reducible rfl)
  refine tk (x := ?_) 9 rfl (by kernel_rfl) ⟨by kernel_rfl, ?_⟩ (fun _ _ _ h => h) hS ?_
  rotate_left; focus (intro w hSw; (try dsimp only at hSw); go_simp; try with_reducible rfl)
  refine tk (x := ?_) 10 rfl (by kernel_rfl) ⟨by kernel_rfl, ?_⟩ (fun _ _ _ h => h) hS ?_
  rotate_left; focus (intro w hSw; (try dsimp only at hSw); go_simp; try with_reducible rfl)
  refine tk (x := ?_) 11 rfl (by kernel_rfl) ⟨by kernel_rfl, ?_⟩ (fun _ _ _ h => h) hS ?_
  rotate_left; focus (intro w hSw; (try dsimp only at hSw); go_simp; try with_reducible rfl)
  refine tk (x := ?_) 12 rfl (by kernel_rfl) ⟨by kernel_rfl, ?_⟩ (fun _ _ _ h => h) hS ?_
  rotate_left; focus (intro w hSw; (try dsimp only at hSw); go_simp; try with_reducible rfl)
  refine tk (x := ?_) 13 rfl (by kernel_rfl) ⟨by kernel_rfl, ?_⟩ (fun _ _ _ h => h) hS ?_
  rotate_left; focus (intro w hSw; (try dsimp only at hSw); go_simp; try with_reducible rfl)
  conv => arg 9; simp only [Act.put, go_sem]
  refine lp_ccccppp_1 M 2 5 14 15 16 17 18 19 [52, 55, 64, 65, 49, 66, 67, 18] 2 (mwokJ8 w ia0 ia1 ia2 ia3 ia4 ia5 ib0 ib1 ib2 ib3 ib4 ib5 ml mh t0 t1 t2 t3 t4 t5 t6 t7) (by kernel_rfl) (by kernel_rfl) ?_ ?_ ?_ ?_ ?_ ?_ ?_ ?_ ?_ ?_ ?_
  · intro A hA
    obtain ⟨y1, hq1⟩ := put_ex (hA 52 (by simp))
    obtain ⟨y2, hq2⟩ := put_ex (hA 55 (by simp))
    obtain ⟨y3, hq3⟩ := put_ex (hA 64 (by simp))
    obtain ⟨y4, hq4⟩ := put_ex (hA 65 (by simp))
    obtain ⟨y5, hq5⟩ := put_ex (hA 49 (by simp))
    obtain ⟨y6, hq6⟩ := put_ex (hA 66 (by simp))
    obtain ⟨y7, hq7⟩ := put_ex (hA 67 (by simp))
    obtain ⟨z1, hq8⟩ := put_ex (hA 18 (by simp))
    exact ⟨y1, y2, y3, y4, y5, y6, y7, z1, by rw [hq1, hq2, hq3, hq4, hq5, hq6, hq7, hq8], by omega, by omega, by omega, by omega, by omega, by omega, by omega, by simp, OwnF.start M.out 1⟩
  · rintro k p a v ⟨y1, y2, y3, y4, y5, y6, y7, z1, _, _, _, _, _, _, _, _, _, h⟩
    exact ⟨(h.own.nth 3 rfl).six, (h.own.nth 6 rfl).six, (h.own.nth 2 rfl).six, (h.own.nth 5 rfl).six, (h.own.nth 1 rfl).two, (h.own.nth 4 rfl).four⟩
  · intro p a v hJ
    refine op_step (o := _) rfl (fun K hK => ?_)
    obtain ⟨y1, y2, y3, y4, y5, y6, y7, z1, ha, gg1, h⟩ := mwokJ8_0 hJ
    have h := Lib.hid h
    clear hJ
    subst ha
    go_simp
    refine (c6.out _).mono ?_
    rintro rr w5 ⟨rfl, hp⟩
    try go_wp2_with fail
    refine hK.out _ _ ⟨_, y2, y3, y4, y5, y6, y7, z1, ?_, fun _ => rfl, by omega, by omega, by omega, by omega, by omega, by omega, gg1, h.out.below hp⟩
    kernel_rfl
  · intro p a v hJ
    refine op_step (o := _) rfl (fun K hK => ?_)
    obtain ⟨y2, y3, y4, y5, y6, y7, z1, ha, gg1, h⟩ := mwokJ8_1 hJ
    have h := Lib.hid h
    clear hJ
    subst ha
    go_simp
    refine (c7.out _).mono ?_
    rintro rr w5 ⟨rfl, hp⟩
    try go_wp2_with fail
    refine hK.out _ _ ⟨_, _, y3, y4, y5, y6, y7, z1, ?_, fun _ => rfl, fun _ => rfl, by omega, by omega, by omega, by omega, by omega, gg1, h.out.below hp⟩
    kernel_rfl
  · intro p a v hJ
    refine op_step (o := _) rfl (fun K hK => ?_)
    obtain ⟨y3, y4, y5, y6, y7, z1, ha, gg1, h⟩ := mwokJ8_2 hJ
    have h := Lib.hid h
    clear hJ
    subst ha
    go_simp
    refine (c8.out _).mono ?_
    rintro rr w5 ⟨rfl, hp⟩
    try go_wp2_with fail
    refine hK.out _ _ ⟨_, _, _, y4, y5, y6, y7, z1, ?_, fun _ => rfl, fun _ => rfl, fun _ => rfl, by omega, by omega, by omega, by omega, gg1, h.out.below hp⟩
    kernel_rfl
  · intro p a v hJ
    refine op_step (o := _) rfl (fun K hK => ?_)
    obtain ⟨y4, y5, y6, y7, z1, ha, gg1, h⟩ := mwokJ8_3 hJ
    have h := Lib.hid h
    clear hJ
    subst ha
    go_simp
    refine (c9.out _).mono ?_
    rintro rr w5 ⟨rfl, hp⟩
    try go_wp2_with fail
    refine hK.out _ _ ⟨_, _, _, _, y5, y6, y7, z1, ?_, fun _ => rfl, fun _ => rfl, fun _ => rfl, fun _ => rfl, by omega, by omega, by omega, gg1, h.out.below hp⟩
    kernel_rfl
  · intro p a v hJ
    replace hJ := mwokJ8_4 hJ
    refine Exists.elim hJ (fun y5 hJ => ?_)
    refine Exists.elim hJ (fun y6 hJ => ?_)
    refine Exists.elim hJ (fun y7 hJ => ?_)
    refine Exists.elim hJ (fun z1 hJ => ?_)
    have ha := hJ.1
    have gg1 := hJ.2.1
    have h := hJ.2.2
    clear hJ
    subst ha
    refine ⟨_, .tuple #[.agg #[.float .f64 t0, .float .f64 t1, .float .f64 t2, .float .f64 t3, .float .f64 t4, .float .f64 t5, .float .f64 t6, .float .f64 t7], .int .i64 0], rfl, Or.inl ⟨by kernel_rfl, ?_⟩, (fun _ _ _ h => h), _, _, _, _, _, y6, y7, z1, ?_, fun _ => rfl, fun _ => rfl, fun _ => rfl, fun _ => rfl, fun _ => rfl, by omega, by omega, gg1, h⟩
    · intro w hSw; clear hSw h; go_simp; try with_reducible rfl
    · kernel_rfl
  · intro p a v hJ
    replace hJ := mwokJ8_5 hJ
    refine Exists.elim hJ (fun y6 hJ => ?_)
    refine Exists.elim hJ (fun y7 hJ => ?_)
    refine Exists.elim hJ (fun z1 hJ => ?_)
    have ha := hJ.1
    have gg1 := hJ.2.1
    have h := hJ.2.2
    clear hJ
    subst ha
    refine ⟨_, .agg #[.float .f64 t0, .float .f64 t1, .float .f64 t2, .float .f64 t3, .float .f64 t4, .float .f64 t5, .float .f64 t6, .float .f64 t7], rfl, Or.inl ⟨by kernel_rfl, ?_⟩, (fun _ _ _ h => h), _, _, _, _, _, _, y7, z1, ?_, fun _ => rfl, fun _ => rfl, fun _ => rfl, fun _ => rfl, fun _ => rfl, fun _ => rfl, by omega, gg1, h⟩
    · intro w hSw; clear hSw h; go_simp; try with_reducible rfl
    · kernel_rfl
  · intro p a v hJ
    replace hJ := mwokJ8_6 hJ
    refine Exists.elim hJ (fun y7 hJ => ?_)
    refine Exists.elim hJ (fun z1 hJ => ?_)
    have ha := hJ.1
    have gg1 := hJ.2.1
    have h := hJ.2.2
    clear hJ
    subst ha
    refine ⟨_, .int .i64 0, rfl, Or.inl ⟨by kernel_rfl, ?_⟩, (fun _ _ _ h => h), _, _, _, _, _, _, _, z1, ?_, fun _ => rfl, fun _ => rfl, fun _ => rfl, fun _ => rfl, fun _ => rfl, fun _ => rfl, fun _ => rfl, gg1, h⟩
    · intro w hSw; clear hSw h; go_simp; try with_reducible rfl
    · kernel_rfl
  · intro k p a v hp hJ
    refine op_step (o := _) rfl (fun K hK => ?_)
    obtain ⟨y1, y2, y3, y4, y5, y6, y7, z1, ha, ee1, ee2, ee3, ee4, ee5, ee6, ee7, gg1, h⟩ := hJ
    have h := Lib.hid h
    subst ha
    go_simp
    refine hK.out _ _ ⟨v.heap.size, y1, y2, y3, y4, y5, y6, y7, .pointer (some ⟨v.heap.size, 0, none⟩), ?_, ee1, ee2, ee3, ee4, ee5, ee6, ee7, fun q hq => ptr_set hq, h.out.alloc hp rfl _⟩
    kernel_rfl
  intro p8_1 a v hJ
  obtain ⟨rfl, h⟩ := mwokJ8_fin hJ
  clear hJ
  replace M := Lib.hid h.fin1
  clear h
  refine tails_one (T := []) (i := 20) (o := _) rfl (by kernel_rfl) (fun K hK => ?_)
  have kc := (M.out.nth 0 rfl).2.1
  have kf := (M.out.nth 0 rfl).2.2
  replace M : Hid (Own w [(p8_1, #[.float .f64 t0, .float .f64 0, .float .f64 0, .float .f64 0, .float .f64 0, .float .f64 0, .float .f64 0, .float .f64 0]), (w7_.heap.size, #[.float .f64 x0, .float .f64 x1, .float .f64 x2, .float .f64 x3, .float .f64 x4, .float .f64 x5, .float .f64 x6, .float .f64 x7]), (w6_.heap.size, #[.float .f64 el, .float .f64 eh]), ((w1_.heap.size + 1), #[.float .f64 cb0, .float .f64 cb1, .float .f64 cb2, .float .f64 cb3, .float .f64 cb4, .float .f64 cb5]), (w1_.heap.size, #[.float .f64 ca0, .float .f64 ca1, .float .f64 ca2, .float .f64 ca3, .float .f64 ca4, .float .f64 ca5]), ((w.heap.size + 1 + 1 + 1), #[.int .u32 k_0, .int .u32 k_1, .int .u32 k_2, .int .u32 k_3]), ((w.heap.size + 1 + 1), #[.int .u32 w0, .int .u32 w1, .int .u32 w2, .int .u32 w3, .int .u32 w4, .int .u32 w5]), ((w.heap.size + 1), #[.int .u32 v0, .int .u32 v1, .int .u32 v2, .int .u32 v3, .int .u32 v4, .int .u32 v5]), (w.heap.size, #[.int .u32 u0, .int .u32 u1, .int .u32 u2, .int .u32 u3, .int .u32 u4, .int .u32 u5])] _) := Lib.hid ((M.out.setIn 0 rfl 0 (.float .f64 t0)).to (by rfl))
  replace M : Hid (Own w [(p8_1, #[.float .f64 t0, .float .f64 t1, .float .f64 0, .float .f64 0, .float .f64 0, .float .f64 0, .float .f64 0, .float .f64 0]), (w7_.heap.size, #[.float .f64 x0, .float .f64 x1, .float .f64 x2, .float .f64 x3, .float .f64 x4, .float .f64 x5, .float .f64 x6, .float .f64 x7]), (w6_.heap.size, #[.float .f64 el, .float .f64 eh]), ((w1_.heap.size + 1), #[.float .f64 cb0, .float .f64 cb1, .float .f64 cb2, .float .f64 cb3, .float .f64 cb4, .float .f64 cb5]), (w1_.heap.size, #[.float .f64 ca0, .float .f64 ca1, .float .f64 ca2, .float .f64 ca3, .float .f64 ca4, .float .f64 ca5]), ((w.heap.size + 1 + 1 + 1), #[.int .u32 k_0, .int .u32 k_1, .int .u32 k_2, .int .u32 k_3]), ((w.heap.size + 1 + 1), #[.int .u32 w0, .int .u32 w1, .int .u32 w2, .int .u32 w3, .int .u32 w4, .int .u32 w5]), ((w.heap.size + 1), #[.int .u32 v0, .int .u32 v1, .int .u32 v2, .int .u32 v3, .int .u32 v4, .int .u32 v5]), (w.heap.size, #[.int .u32 u0, .int .u32 u1, .int .u32 u2, .int .u32 u3, .int .u32 u4, .int .u32 u5])] _) := Lib.hid ((M.out.setIn 0 rfl 1 (.float .f64 t1)).to (by rfl))
  replace M : Hid (Own w [(p8_1, #[.float .f64 t0, .float .f64 t1, .float .f64 t2, .float .f64 0, .float .f64 0, .float .f64 0, .float .f64 0, .float .f64 0]), (w7_.heap.size, #[.float .f64 x0, .float .f64 x1, .float .f64 x2, .float .f64 x3, .float .f64 x4, .float .f64 x5, .float .f64 x6, .float .f64 x7]), (w6_.heap.size, #[.float .f64 el, .float .f64 eh]), ((w1_.heap.size + 1), #[.float .f64 cb0, .float .f64 cb1, .float .f64 cb2, .float .f64 cb3, .float .f64 cb4, .float .f64 cb5]), (w1_.heap.size, #[.float .f64 ca0, .float .f64 ca1, .float .f64 ca2, .float .f64 ca3, .float .f64 ca4, .float .f64 ca5]), ((w.heap.size + 1 + 1 + 1), #[.int .u32 k_0, .int .u32 k_1, .int .u32 k_2, .int .u32 k_3]), ((w.heap.size + 1 + 1), #[.int .u32 w0, .int .u32 w1, .int .u32 w2, .int .u32 w3, .int .u32 w4, .int .u32 w5]), ((w.heap.size + 1), #[.int .u32 v0, .int .u32 v1, .int .u32 v2, .int .u32 v3, .int .u32 v4, .int .u32 v5]), (w.heap.size, #[.int .u32 u0, .int .u32 u1, .int .u32 u2, .int .u32 u3, .int .u32 u4, .int .u32 u5])] _) := Lib.hid ((M.out.setIn 0 rfl 2 (.float .f64 t2)).to (by rfl))
  replace M : Hid (Own w [(p8_1, #[.float .f64 t0, .float .f64 t1, .float .f64 t2, .float .f64 t3, .float .f64 0, .float .f64 0, .float .f64 0, .float .f64 0]), (w7_.heap.size, #[.float .f64 x0, .float .f64 x1, .float .f64 x2, .float .f64 x3, .float .f64 x4, .float .f64 x5, .float .f64 x6, .float .f64 x7]), (w6_.heap.size, #[.float .f64 el, .float .f64 eh]), ((w1_.heap.size + 1), #[.float .f64 cb0, .float .f64 cb1, .float .f64 cb2, .float .f64 cb3, .float .f64 cb4, .float .f64 cb5]), (w1_.heap.size, #[.float .f64 ca0, .float .f64 ca1, .float .f64 ca2, .float .f64 ca3, .float .f64 ca4, .float .f64 ca5]), ((w.heap.size + 1 + 1 + 1), #[.int .u32 k_0, .int .u32 k_1, .int .u32 k_2, .int .u32 k_3]), ((w.heap.size + 1 + 1), #[.int .u32 w0, .int .u32 w1, .int .u32 w2, .int .u32 w3, .int .u32 w4, .int .u32 w5]), ((w.heap.size + 1), #[.int .u32 v0, .int .u32 v1, .int .u32 v2, .int .u32 v3, .int .u32 v4, .int .u32 v5]), (w.heap.size, #[.int .u32 u0, .int .u32 u1, .int .u32 u2, .int .u32 u3, .int .u32 u4, .int .u32 u5])] _) := Lib.hid ((M.out.setIn 0 rfl 3 (.float .f64 t3)).to (by rfl))
  replace M : Hid (Own w [(p8_1, #[.float .f64 t0, .float .f64 t1, .float .f64 t2, .float .f64 t3, .float .f64 t4, .float .f64 0, .float .f64 0, .float .f64 0]), (w7_.heap.size, #[.float .f64 x0, .float .f64 x1, .float .f64 x2, .float .f64 x3, .float .f64 x4, .float .f64 x5, .float .f64 x6, .float .f64 x7]), (w6_.heap.size, #[.float .f64 el, .float .f64 eh]), ((w1_.heap.size + 1), #[.float .f64 cb0, .float .f64 cb1, .float .f64 cb2, .float .f64 cb3, .float .f64 cb4, .float .f64 cb5]), (w1_.heap.size, #[.float .f64 ca0, .float .f64 ca1, .float .f64 ca2, .float .f64 ca3, .float .f64 ca4, .float .f64 ca5]), ((w.heap.size + 1 + 1 + 1), #[.int .u32 k_0, .int .u32 k_1, .int .u32 k_2, .int .u32 k_3]), ((w.heap.size + 1 + 1), #[.int .u32 w0, .int .u32 w1, .int .u32 w2, .int .u32 w3, .int .u32 w4, .int .u32 w5]), ((w.heap.size + 1), #[.int .u32 v0, .int .u32 v1, .int .u32 v2, .int .u32 v3, .int .u32 v4, .int .u32 v5]), (w.heap.size, #[.int .u32 u0, .int .u32 u1, .int .u32 u2, .int .u32 u3, .int .u32 u4, .int .u32 u5])] _) := Lib.hid ((M.out.setIn 0 rfl 4 (.float .f64 t4)).to (by rfl))
  replace M : Hid (Own w [(p8_1, #[.float .f64 t0, .float .f64 t1, .float .f64 t2, .float .f64 t3, .float .f64 t4, .float .f64 t5, .float .f64 0, .float .f64 0]), (w7_.heap.size, #[.float .f64 x0, .float .f64 x1, .float .f64 x2, .float .f64 x3, .float .f64 x4, .float .f64 x5, .float .f64 x6, .float .f64 x7]), (w6_.heap.size, #[.float .f64 el, .float .f64 eh]), ((w1_.heap.size + 1), #[.float .f64 cb0, .float .f64 cb1, .float .f64 cb2, .float .f64 cb3, .float .f64 cb4, .float .f64 cb5]), (w1_.heap.size, #[.float .f64 ca0, .float .f64 ca1, .float .f64 ca2, .float .f64 ca3, .float .f64 ca4, .float .f64 ca5]), ((w.heap.size + 1 + 1 + 1), #[.int .u32 k_0, .int .u32 k_1, .int .u32 k_2, .int .u32 k_3]), ((w.heap.size + 1 + 1), #[.int .u32 w0, .int .u32 w1, .int .u32 w2, .int .u32 w3, .int .u32 w4, .int .u32 w5]), ((w.heap.size + 1), #[.int .u32 v0, .int .u32 v1, .int .u32 v2, .int .u32 v3, .int .u32 v4, .int .u32 v5]), (w.heap.size, #[.int .u32 u0, .int .u32 u1, .int .u32 u2, .int .u32 u3, .int .u32 u4, .int .u32 u5])] _) := Lib.hid ((M.out.setIn 0 rfl 5 (.float .f64 t5)).to (by rfl))
  replace M : Hid (Own w [(p8_1, #[.float .f64 t0, .float .f64 t1, .float .f64 t2, .float .f64 t3, .float .f64 t4, .float .f64 t5, .float .f64 t6, .float .f64 0]), (w7_.heap.size, #[.float .f64 x0, .float .f64 x1, .float .f64 x2, .float .f64 x3, .float .f64 x4, .float .f64 x5, .float .f64 x6, .float .f64 x7]), (w6_.heap.size, #[.float .f64 el, .float .f64 eh]), ((w1_.heap.size + 1), #[.float .f64 cb0, .float .f64 cb1, .float .f64 cb2, .float .f64 cb3, .float .f64 cb4, .float .f64 cb5]), (w1_.heap.size, #[.float .f64 ca0, .float .f64 ca1, .float .f64 ca2, .float .f64 ca3, .float .f64 ca4, .float .f64 ca5]), ((w.heap.size + 1 + 1 + 1), #[.int .u32 k_0, .int .u32 k_1, .int .u32 k_2, .int .u32 k_3]), ((w.heap.size + 1 + 1), #[.int .u32 w0, .int .u32 w1, .int .u32 w2, .int .u32 w3, .int .u32 w4, .int .u32 w5]), ((w.heap.size + 1), #[.int .u32 v0, .int .u32 v1, .int .u32 v2, .int .u32 v3, .int .u32 v4, .int .u32 v5]), (w.heap.size, #[.int .u32 u0, .int .u32 u1, .int .u32 u2, .int .u32 u3, .int .u32 u4, .int .u32 u5])] _) := Lib.hid ((M.out.setIn 0 rfl 6 (.float .f64 t6)).to (by rfl))
  replace M : Hid (Own w [(p8_1, #[.float .f64 t0, .float .f64 t1, .float .f64 t2, .float .f64 t3, .float .f64 t4, .float .f64 t5, .float .f64 t6, .float .f64 t7]), (w7_.heap.size, #[.float .f64 x0, .float .f64 x1, .float .f64 x2, .float .f64 x3, .float .f64 x4, .float .f64 x5, .float .f64 x6, .float .f64 x7]), (w6_.heap.size, #[.float .f64 el, .float .f64 eh]), ((w1_.heap.size + 1), #[.float .f64 cb0, .float .f64 cb1, .float .f64 cb2, .float .f64 cb3, .float .f64 cb4, .float .f64 cb5]), (w1_.heap.size, #[.float .f64 ca0, .float .f64 ca1, .float .f64 ca2, .float .f64 ca3, .float .f64 ca4, .float .f64 ca5]), ((w.heap.size + 1 + 1 + 1), #[.int .u32 k_0, .int .u32 k_1, .int .u32 k_2, .int .u32 k_3]), ((w.heap.size + 1 + 1), #[.int .u32 w0, .int .u32 w1, .int .u32 w2, .int .u32 w3, .int .u32 w4, .int .u32 w5]), ((w.heap.size + 1), #[.int .u32 v0, .int .u32 v1, .int .u32 v2, .int .u32 v3, .int .u32 v4, .int .u32 v5]), (w.heap.size, #[.int .u32 u0, .int .u32 u1, .int .u32 u2, .int .u32 u3, .int .u32 u4, .int .u32 u5])] _) := Lib.hid ((M.out.setIn 0 rfl 7 (.float .f64 t7)).to (by rfl))
  go_simp
  refine hK.out _ _ (Or.inr ⟨(M.out.nth 4 rfl).six, (M.out.nth 7 rfl).six, (M.out.nth 3 rfl).six, (M.out.nth 6 rfl).six, (M.out.nth 2 rfl).two, (M.out.nth 5 rfl).four⟩) (fun hHeld => ?_)
  clear hK K hHeld kc kf
  refine tails_one (T := []) (i := 21) (o := _) rfl (by kernel_rfl) (fun K hK => ?_)
  go_simp
  refine hK.out _ _ (Or.inr ⟨(M.out.nth 4 rfl).six, (M.out.nth 7 rfl).six, (M.out.nth 3 rfl).six, (M.out.nth 6 rfl).six, (M.out.nth 2 rfl).two, (M.out.nth 5 rfl).four⟩) (fun hHeld => ?_)
  clear hK K hHeld
  refine tails_done (by kernel_rfl) ?_ _
  refine NoPanic.normal ?_
  clear hS
  revert M
  generalize ((((((((v.setCell ⟨p8_1, 0, none⟩ (.float .f64 t0)).setCell ⟨p8_1, 1, none⟩ (.float .f64 t1)).setCell ⟨p8_1, 2, none⟩ (.float .f64 t2)).setCell ⟨p8_1, 3, none⟩ (.float .f64 t3)).setCell ⟨p8_1, 4, none⟩ (.float .f64 t4)).setCell ⟨p8_1, 5, none⟩ (.float .f64 t5)).setCell ⟨p8_1, 6, none⟩ (.float .f64 t6)).setCell ⟨p8_1, 7, none⟩ (.float .f64 t7)) = W9_
  intro M
  obtain ⟨k1, k2, k3, k4, k5, k6, k7, k8⟩ := (M.out.nth 0 rfl).eight
  obtain ⟨k9, k10, k11, k12, k13, k14, k15, k16⟩ := (M.out.nth 1 rfl).eight
  go_wp2_with fail
  refine (c10.out _).mono ?_
  rintro r w10_ ⟨rfl, hb⟩
  replace M := Lib.hid (M.out.below hb)
  clear hb
  clear k1 k2 k3 k4 k5 k6 k7 k8 k9 k10 k11 k12 k13 k14 k15 k16
  obtain ⟨k1, k2, k3, k4, k5, k6, k7, k8⟩ := (M.out.nth 0 rfl).eight
  obtain ⟨k9, k10, k11, k12, k13, k14, k15, k16⟩ := (M.out.nth 1 rfl).eight
  go_wp2_with fail
  refine (c11.out _).mono ?_
  rintro r w11_ ⟨rfl, hb⟩
  replace M := Lib.hid (M.out.below hb)
  clear hb
  clear k1 k2 k3 k4 k5 k6 k7 k8 k9 k10 k11 k12 k13 k14 k15 k16
  obtain ⟨k1, k2, k3, k4, k5, k6, k7, k8⟩ := (M.out.nth 0 rfl).eight
  obtain ⟨k9, k10, k11, k12, k13, k14, k15, k16⟩ := (M.out.nth 1 rfl).eight
  go_wp2_with fail
  refine (c12.out _).mono ?_
  rintro r w12_ ⟨rfl, hb⟩
  replace M := Lib.hid (M.out.below hb)
  clear hb
  clear k1 k2 k3 k4 k5 k6 k7 k8 k9 k10 k11 k12 k13 k14 k15 k16
  obtain ⟨k1, k2, k3, k4, k5, k6, k7, k8⟩ := (M.out.nth 0 rfl).eight
  obtain ⟨k9, k10, k11, k12, k13, k14, k15, k16⟩ := (M.out.nth 1 rfl).eight
  go_wp2_with fail
  refine (c13.out _).mono ?_
  rintro r w13_ ⟨rfl, hb⟩
  replace M := Lib.hid (M.out.below hb)
  clear hb
  clear k1 k2 k3 k4 k5 k6 k7 k8 k9 k10 k11 k12 k13 k14 k15 k16
  go_wp2_with fail
  refine (c14.out _).mono ?_
  rintro r w14_ ⟨rfl, hb⟩
  replace M := Lib.hid (M.out.below hb)
  clear hb
  go_wp2
  go_ret
  exact ⟨rfl, M.out.base⟩

def mwerrJ8 (w : World) (ia0 ia1 ia2 ia3 ia4 ia5 ib0 ib1 ib2 ib3 ib4 ib5 ml mh t0 t1 t2 t3 t4 t5 t6 t7 : Nat) (es : Int) (l : RowL) (a0 : Act) (k : Nat) (p : List (Option Nat)) (a : Act) (v : World) : Prop :=
  ∃ y1 y2 y3 y4 y5 y6 y7 z1 : Value, a = ((((((((a0.put (some 52) y1).put (some 55) y2).put (some 64) y3).put (some 65) y4).put (some 49) y5).put (some 66) y6).put (some 67) y7).put (some 18) z1) ∧ (0 < k → y1 = .agg #[.float .f64 ia0, .float .f64 ia1, .float .f64 ia2, .float .f64 ia3, .float .f64 ia4, .float .f64 ia5]) ∧ (1 < k → y2 = .agg #[.float .f64 ib0, .float .f64 ib1, .float .f64 ib2, .float .f64 ib3, .float .f64 ib4, .float .f64 ib5]) ∧ (2 < k → y3 = .agg #[.float .f64 ml, .float .f64 mh]) ∧ (3 < k → y4 = .tuple #[.agg #[.float .f64 t0, .float .f64 t1, .float .f64 t2, .float .f64 t3, .float .f64 t4, .float .f64 t5, .float .f64 t6, .float .f64 t7], .int .i64 es]) ∧ (4 < k → y5 = .tuple #[.agg #[.float .f64 t0, .float .f64 t1, .float .f64 t2, .float .f64 t3, .float .f64 t4, .float .f64 t5, .float .f64 t6, .float .f64 t7], .int .i64 es]) ∧ (5 < k → y6 = .agg #[.float .f64 t0, .float .f64 t1, .float .f64 t2, .float .f64 t3, .float .f64 t4, .float .f64 t5, .float .f64 t6, .float .f64 t7]) ∧ (6 < k → y7 = .int .i64 es) ∧ (∀ q, p[0]? = some (some q) → z1 = .pointer (some ⟨q, 0, none⟩)) ∧ OwnF w l [#[.float .f64 0, .float .f64 0, .float .f64 0, .float .f64 0, .float .f64 0, .float .f64 0, .float .f64 0, .float .f64 0]] p v
section
variable {w v : World} {ia0 ia1 ia2 ia3 ia4 ia5 ib0 ib1 ib2 ib3 ib4 ib5 ml mh t0 t1 t2 t3 t4 t5 t6 t7 : Nat} {es : Int} {l : RowL} {a0 a : Act} {p : List (Option Nat)}
theorem mwerrJ8_0 (h : mwerrJ8 w ia0 ia1 ia2 ia3 ia4 ia5 ib0 ib1 ib2 ib3 ib4 ib5 ml mh t0 t1 t2 t3 t4 t5 t6 t7 es l a0 0 p a v) : ∃ y1 y2 y3 y4 y5 y6 y7 z1 : Value, a = ((((((((a0.put (some 52) y1).put (some 55) y2).put (some 64) y3).put (some 65) y4).put (some 49) y5).put (some 66) y6).put (some 67) y7).put (some 18) z1) ∧ (∀ q, p[0]? = some (some q) → z1 = .pointer (some ⟨q, 0, none⟩)) ∧ OwnF w l [#[.float .f64 0, .float .f64 0, .float .f64 0, .float .f64 0, .float .f64 0, .float .f64 0, .float .f64 0, .float .f64 0]] p v := by
  obtain ⟨y1, y2, y3, y4, y5, y6, y7, z1, ha, E1, E2, E3, E4, E5, E6, E7, G1, h⟩ := h
  exact ⟨y1, y2, y3, y4, y5, y6, y7, z1, ha, G1, h⟩
theorem mwerrJ8_1 (h : mwerrJ8 w ia0 ia1 ia2 ia3 ia4 ia5 ib0 ib1 ib2 ib3 ib4 ib5 ml mh t0 t1 t2 t3 t4 t5 t6 t7 es l a0 1 p a v) : ∃ y2 y3 y4 y5 y6 y7 z1 : Value, a = ((((((((a0.put (some 52) (.agg #[.float .f64 ia0, .float .f64 ia1, .float .f64 ia2, .float .f64 ia3, .float .f64 ia4, .float .f64 ia5])).put (some 55) y2).put (some 64) y3).put (some 65) y4).put (some 49) y5).put (some 66) y6).put (some 67) y7).put (some 18) z1) ∧ (∀ q, p[0]? = some (some q) → z1 = .pointer (some ⟨q, 0, none⟩)) ∧ OwnF w l [#[.float .f64 0, .float .f64 0, .float .f64 0, .float .f64 0, .float .f64 0, .float .f64 0, .float .f64 0, .float .f64 0]] p v := by
  obtain ⟨y1, y2, y3, y4, y5, y6, y7, z1, ha, E1, E2, E3, E4, E5, E6, E7, G1, h⟩ := h
  obtain rfl := E1 (by decide)
  exact ⟨y2, y3, y4, y5, y6, y7, z1, ha, G1, h⟩
theorem mwerrJ8_2 (h : mwerrJ8 w ia0 ia1 ia2 ia3 ia4 ia5 ib0 ib1 ib2 ib3 ib4 ib5 ml mh t0 t1 t2 t3 t4 t5 t6 t7 es l a0 2 p a v) : ∃ y3 y4 y5 y6 y7 z1 : Value, a = ((((((((a0.put (some 52) (.agg #[.float .f64 ia0, .float .f64 ia1, .float .f64 ia2, .float .f64 ia3, .float .f64 ia4, .float .f64 ia5])).put (some 55) (.agg #[.float .f64 ib0, .float .f64 ib1, .float .f64 ib2, .float .f64 ib3, .float .f64 ib4, .float .f64 ib5])).put (some 64) y3).put (some 65) y4).put (some 49) y5).put (some 66) y6).put (some 67) y7).put (some 18) z1) ∧ (∀ q, p[0]? = some (some q) → z1 = .pointer (some ⟨q, 0, none⟩)) ∧ OwnF w l [#[.float .f64 0, .float .f64 0, .float .f64 0, .float .f64 0, .float .f64 0, .float .f64 0, .float .f64 0, .float .f64 0]] p v := by
  obtain ⟨y1, y2, y3, y4, y5, y6, y7, z1, ha, E1, E2, E3, E4, E5, E6, E7, G1, h⟩ := h
  obtain rfl := E1 (by decide)
  obtain rfl := E2 (by decide)
  exact ⟨y3, y4, y5, y6, y7, z1, ha, G1, h⟩
theorem mwerrJ8_3 (h : mwerrJ8 w ia0 ia1 ia2 ia3 ia4 ia5 ib0 ib1 ib2 ib3 ib4 ib5 ml mh t0 t1 t2 t3 t4 t5 t6 t7 es l a0 3 p a v) : ∃ y4 y5 y6 y7 z1 : Value, a = ((((((((a0.put (some 52) (.agg #[.float .f64 ia0, .float .f64 ia1, .float .f64 ia2, .float .f64 ia3, .float .f64 ia4, .float .f64 ia5])).put (some 55) (.agg #[.float .f64 ib0, .float .f64 ib1, .float .f64 ib2, .float .f64 ib3, .float .f64 ib4, .float .f64 ib5])).put (some 64) (.agg #[.float .f64 ml, .float .f64 mh])).put (some 65) y4).put (some 49) y5).put (some 66) y6).put (some 67) y7).put (some 18) z1) ∧ (∀ q, p[0]? = some (some q) → z1 = .pointer (some ⟨q, 0, none⟩)) ∧ OwnF w l [#[.float .f64 0, .float .f64 0, .float .f64 0, .float .f64 0, .float .f64 0, .float .f64 0, .float .f64 0, .float .f64 0]] p v := by
  obtain ⟨y1, y2, y3, y4, y5, y6, y7, z1, ha, E1, E2, E3, E4, E5, E6, E7, G1, h⟩ := h
  obtain rfl := E1 (by decide)
  obtain rfl := E2 (by decide)
  obtain rfl := E3 (by decide)
  exact ⟨y4, y5, y6, y7, z1, ha, G1, h⟩
theorem mwerrJ8_4 (h : mwerrJ8 w ia0 ia1 ia2 ia3 ia4 ia5 ib0 ib1 ib2 ib3 ib4 ib5 ml mh t0 t1 t2 t3 t4 t5 t6 t7 es l a0 4 p a v) : ∃ y5 y6 y7 z1 : Value, a = ((((((((a0.put (some 52) (.agg #[.float .f64 ia0, .float .f64 ia1, .float .f64 ia2, .float .f64 ia3, .float .f64 ia4, .float .f64 ia5])).put (some 55) (.agg #[.float .f64 ib0, .float .f64 ib1, .float .f64 ib2, .float .f64 ib3, .float .f64 ib4, .float .f64 ib5])).put (some 64) (.agg #[.float .f64 ml, .float .f64 mh])).put (some 65) (.tuple #[.agg #[.float .f64 t0, .float .f64 t1, .float .f64 t2, .float .f64 t3, .float .f64 t4, .float .f64 t5, .float .f64 t6, .float .f64 t7], .int .i64 es])).put (some 49) y5).put (some 66) y6).put (some 67) y7).put (some 18) z1) ∧ (∀ q, p[0]? = some (some q) → z1 = .pointer (some ⟨q, 0, none⟩)) ∧ OwnF w l [#[.float .f64 0, .float .f64 0, .float .f64 0, .float .f64 0, .float .f64 0, .float .f64 0, .float .f64 0, .float .f64 0]] p v := by
  obtain ⟨y1, y2, y3, y4, y5, y6, y7, z1, ha, E1, E2, E3, E4, E5, E6, E7, G1, h⟩ := h
  obtain rfl := E1 (by decide)
  obtain rfl := E2 (by decide)
  obtain rfl := E3 (by decide)
  obtain rfl := E4 (by decide)
  exact ⟨y5, y6, y7, z1, ha, G1, h⟩
theorem mwerrJ8_5 (h : mwerrJ8 w ia0 ia1 ia2 ia3 ia4 ia5 ib0 ib1 ib2 ib3 ib4 ib5 ml mh t0 t1 t2 t3 t4 t5 t6 t7 es l a0 5 p a v) : ∃ y6 y7 z1 : Value, a = ((((((((a0.put (some 52) (.agg #[.float .f64 ia0, .float .f64 ia1, .float .f64 ia2, .float .f64 ia3, .float .f64 ia4, .float .f64 ia5])).put (some 55) (.agg #[.float .f64 ib0, .float .f64 ib1, .float .f64 ib2, .float .f64 ib3, .float .f64 ib4, .float .f64 ib5])).put (some 64) (.agg #[.float .f64 ml, .float .f64 mh])).put (some 65) (.tuple #[.agg #[.float .f64 t0, .float .f64 t1, .float .f64 t2, .float .f64 t3, .float .f64 t4, .float .f64 t5, .float .f64 t6, .float .f64 t7], .int .i64 es])).put (some 49) (.tuple #[.agg #[.float .f64 t0, .float .f64 t1, .float .f64 t2, .float .f64 t3, .float .f64 t4, .float .f64 t5, .float .f64 t6, .float .f64 t7], .int .i64 es])).put (some 66) y6).put (some 67) y7).put (some 18) z1) ∧ (∀ q, p[0]? = some (some q) → z1 = .pointer (some ⟨q, 0, none⟩)) ∧ OwnF w l [#[.float .f64 0, .float .f64 0, .float .f64 0, .float .f64 0, .float .f64 0, .float .f64 0, .float .f64 0, .float .f64 0]] p v := by
  obtain ⟨y1, y2, y3, y4, y5, y6, y7, z1, ha, E1, E2, E3, E4, E5, E6, E7, G1, h⟩ := h
  obtain rfl := E1 (by decide)
  obtain rfl := E2 (by decide)
  obtain rfl := E3 (by decide)
  obtain rfl := E4 (by decide)
  obtain rfl := E5 (by decide)
  exact ⟨y6, y7, z1, ha, G1, h⟩
theorem mwerrJ8_6 (h : mwerrJ8 w ia0 ia1 ia2 ia3 ia4 ia5 ib0 ib1 ib2 ib3 ib4 ib5 ml mh t0 t1 t2 t3 t4 t5 t6 t7 es l a0 6 p a v) : ∃ y7 z1 : Value, a = ((((((((a0.put (some 52) (.agg #[.float .f64 ia0, .float .f64 ia1, .float .f64 ia2, .float .f64 ia3, .float .f64 ia4, .float .f64 ia5])).put (some 55) (.agg #[.float .f64 ib0, .float .f64 ib1, .float .f64 ib2, .float .f64 ib3, .float .f64 ib4, .float .f64 ib5])).put (some 64) (.agg #[.float .f64 ml, .float .f64 mh])).put (some 65) (.tuple #[.agg #[.float .f64 t0, .float .f64 t1, .float .f64 t2, .float .f64 t3, .float .f64 t4, .float .f64 t5, .float .f64 t6, .float .f64 t7], .int .i64 es])).put (some 49) (.tuple #[.agg #[.float .f64 t0, .float .f64 t1, .float .f64 t2, .float .f64 t3, .float .f64 t4, .float .f64 t5, .float .f64 t6, .float .f64 t7], .int .i64 es])).put (some 66) (.agg #[.float .f64 t0, .float .f64 t1, .float .f64 t2, .float .f64 t3, .float .f64 t4, .float .f64 t5, .float .f64 t6, .float .f64 t7])).put (some 67) y7).put (some 18) z1) ∧ (∀ q, p[0]? = some (some q) → z1 = .pointer (some ⟨q, 0, none⟩)) ∧ OwnF w l [#[.float .f64 0, .float .f64 0, .float .f64 0, .float .f64 0, .float .f64 0, .float .f64 0, .float .f64 0, .float .f64 0]] p v := by
  obtain ⟨y1, y2, y3, y4, y5, y6, y7, z1, ha, E1, E2, E3, E4, E5, E6, E7, G1, h⟩ := h
  obtain rfl := E1 (by decide)
  obtain rfl := E2 (by decide)
  obtain rfl := E3 (by decide)
  obtain rfl := E4 (by decide)
  obtain rfl := E5 (by decide)
  obtain rfl := E6 (by decide)
  exact ⟨y7, z1, ha, G1, h⟩
theorem mwerrJ8_fin {q1 : Nat} (h : mwerrJ8 w ia0 ia1 ia2 ia3 ia4 ia5 ib0 ib1 ib2 ib3 ib4 ib5 ml mh t0 t1 t2 t3 t4 t5 t6 t7 es l a0 7 [some q1] a v) : a = ((((((((a0.put (some 52) (.agg #[.float .f64 ia0, .float .f64 ia1, .float .f64 ia2, .float .f64 ia3, .float .f64 ia4, .float .f64 ia5])).put (some 55) (.agg #[.float .f64 ib0, .float .f64 ib1, .float .f64 ib2, .float .f64 ib3, .float .f64 ib4, .float .f64 ib5])).put (some 64) (.agg #[.float .f64 ml, .float .f64 mh])).put (some 65) (.tuple #[.agg #[.float .f64 t0, .float .f64 t1, .float .f64 t2, .float .f64 t3, .float .f64 t4, .float .f64 t5, .float .f64 t6, .float .f64 t7], .int .i64 es])).put (some 49) (.tuple #[.agg #[.float .f64 t0, .float .f64 t1, .float .f64 t2, .float .f64 t3, .float .f64 t4, .float .f64 t5, .float .f64 t6, .float .f64 t7], .int .i64 es])).put (some 66) (.agg #[.float .f64 t0, .float .f64 t1, .float .f64 t2, .float .f64 t3, .float .f64 t4, .float .f64 t5, .float .f64 t6, .float .f64 t7])).put (some 67) (.int .i64 es)).put (some 18) (.pointer (some ⟨q1, 0, none⟩))) ∧ OwnF w l [#[.float .f64 0, .float .f64 0, .float .f64 0, .float .f64 0, .float .f64 0, .float .f64 0, .float .f64 0, .float .f64 0]] [some q1] v := by
  obtain ⟨y1, y2, y3, y4, y5, y6, y7, z1, ha, E1, E2, E3, E4, E5, E6, E7, G1, h⟩ := h
  obtain rfl := E1 (by decide)
  obtain rfl := E2 (by decide)
  obtain rfl := E3 (by decide)
  obtain rfl := E4 (by decide)
  obtain rfl := E5 (by decide)
  obtain rfl := E6 (by decide)
  obtain rfl := E7 (by decide)
  obtain rfl := G1 _ rfl
  exact ⟨ha, h⟩
end

set_option maxRecDepth 100000 in
set_option maxHeartbeats 16000000 in
theorem mwithin_err {u0 u1 u2 u3 u4 u5 bw v0 v1 v2 v3 v4 v5 w0 w1 w2 w3 w4 w5 k_0 k_1 k_2 k_3 a0 a1 a2 a3 a4 a5 b0 b1 b2 b3 b4 b5 f ca0 ca1 ca2 ca3 ca4 ca5 cb0 cb1 cb2 cb3 cb4 cb5 el eh x0 x1 x2 x3 x4 x5 x6 x7 ia0 ia1 ia2 ia3 ia4 ia5 ib0 ib1 ib2 ib3 ib4 ib5 ml mh t0 t1 t2 t3 t4 t5 t6 t7 : Nat} {er es : Int} (w : World)
    (c1 : Hid (∀ w, Calls Tryz.prog 4 #[.agg #[.int .u32 u0, .int .u32 u1, .int .u32 u2, .int .u32 u3, .int .u32 u4, .int .u32 u5]] w fun r w' => r = .returned (.tuple #[.agg #[.float .f64 a0, .float .f64 a1, .float .f64 a2, .float .f64 a3, .float .f64 a4, .float .f64 a5], .agg #[.float .f64 b0, .float .f64 b1, .float .f64 b2, .float .f64 b3, .float .f64 b4, .float .f64 b5], .bool true]) ∧ Below w.heap.size w w'))
    (q_f : (∀ w, (binOp .quo 25 (.float .f64 (floatOfInt .f64 (bw))) (.float .f64 4643211215818981376)).run Tryz.prog w = .ok (.float .f64 f) w))
    (c2 : Hid (∀ w, Calls Tryz.prog 5 #[.agg #[.float .f64 a0, .float .f64 a1, .float .f64 a2, .float .f64 a3, .float .f64 a4, .float .f64 a5], .float .f64 f] w fun r w' => r = .returned (.agg #[.float .f64 ca0, .float .f64 ca1, .float .f64 ca2, .float .f64 ca3, .float .f64 ca4, .float .f64 ca5]) ∧ Below w.heap.size w w'))
    (c3 : Hid (∀ w, Calls Tryz.prog 5 #[.agg #[.float .f64 b0, .float .f64 b1, .float .f64 b2, .float .f64 b3, .float .f64 b4, .float .f64 b5], .float .f64 f] w fun r w' => r = .returned (.agg #[.float .f64 cb0, .float .f64 cb1, .float .f64 cb2, .float .f64 cb3, .float .f64 cb4, .float .f64 cb5]) ∧ Below w.heap.size w w'))
    (c4 : Hid (∀ w, Calls Tryz.prog 6 #[.float .f64 4584664420663164928, .float .f64 4607182418800017408, .int .u32 k_0, .int .u32 k_1] w fun r w' => r = .returned (.agg #[.float .f64 el, .float .f64 eh]) ∧ Below w.heap.size w w'))
    (c5 : Hid (∀ w, Calls Tryz.prog 7 #[.agg #[.float .f64 ca0, .float .f64 ca1, .float .f64 ca2, .float .f64 ca3, .float .f64 ca4, .float .f64 ca5], .agg #[.float .f64 cb0, .float .f64 cb1, .float .f64 cb2, .float .f64 cb3, .float .f64 cb4, .float .f64 cb5], .agg #[.float .f64 el, .float .f64 eh]] w fun r w' => r = .returned (.tuple #[.agg #[.float .f64 x0, .float .f64 x1, .float .f64 x2, .float .f64 x3, .float .f64 x4, .float .f64 x5, .float .f64 x6, .float .f64 x7], .int .i64 er]) ∧ Below w.heap.size w w'))
    (c6 : Hid (∀ w, Calls Tryz.prog 8 #[.agg #[.float .f64 ca0, .float .f64 ca1, .float .f64 ca2, .float .f64 ca3, .float .f64 ca4, .float .f64 ca5], .agg #[.int .u32 v0, .int .u32 v1, .int .u32 v2, .int .u32 v3, .int .u32 v4, .int .u32 v5]] w fun r w' => r = .returned (.agg #[.float .f64 ia0, .float .f64 ia1, .float .f64 ia2, .float .f64 ia3, .float .f64 ia4, .float .f64 ia5]) ∧ Below w.heap.size w w'))
    (c7 : Hid (∀ w, Calls Tryz.prog 8 #[.agg #[.float .f64 cb0, .float .f64 cb1, .float .f64 cb2, .float .f64 cb3, .float .f64 cb4, .float .f64 cb5], .agg #[.int .u32 w0, .int .u32 w1, .int .u32 w2, .int .u32 w3, .int .u32 w4, .int .u32 w5]] w fun r w' => r = .returned (.agg #[.float .f64 ib0, .float .f64 ib1, .float .f64 ib2, .float .f64 ib3, .float .f64 ib4, .float .f64 ib5]) ∧ Below w.heap.size w w'))
    (c8 : Hid (∀ w, Calls Tryz.prog 6 #[.float .f64 el, .float .f64 eh, .int .u32 k_2, .int .u32 k_3] w fun r w' => r = .returned (.agg #[.float .f64 ml, .float .f64 mh]) ∧ Below w.heap.size w w'))
    (c9 : Hid (∀ w, Calls Tryz.prog 7 #[.agg #[.float .f64 ia0, .float .f64 ia1, .float .f64 ia2, .float .f64 ia3, .float .f64 ia4, .float .f64 ia5], .agg #[.float .f64 ib0, .float .f64 ib1, .float .f64 ib2, .float .f64 ib3, .float .f64 ib4, .float .f64 ib5], .agg #[.float .f64 ml, .float .f64 mh]] w fun r w' => r = .returned (.tuple #[.agg #[.float .f64 t0, .float .f64 t1, .float .f64 t2, .float .f64 t3, .float .f64 t4, .float .f64 t5, .float .f64 t6, .float .f64 t7], .int .i64 es]) ∧ Below w.heap.size w w'))
    (c10 : Hid (∀ w, Calls Tryz.prog 9 #[] w fun r w' => r = .returned (.bool true) ∧ Below w.heap.size w w'))
    (hne : (er != 0) = true) :
    Calls Tryz.prog 3 #[.agg #[.int .u32 u0, .int .u32 u1, .int .u32 u2, .int .u32 u3, .int .u32 u4, .int .u32 u5], .int .u8 bw, .agg #[.int .u32 v0, .int .u32 v1, .int .u32 v2, .int .u32 v3, .int .u32 v4, .int .u32 v5], .agg #[.int .u32 w0, .int .u32 w1, .int .u32 w2, .int .u32 w3, .int .u32 w4, .int .u32 w5], .agg #[.int .u32 k_0, .int .u32 k_1, .int .u32 k_2, .int .u32 k_3]] w fun r w' => r = .returned (.bool true) ∧ Below w.heap.size w w' := by
  have M := Lib.hid (((((Own.nil w).made #[.int .u32 u0, .int .u32 u1, .int .u32 u2, .int .u32 u3, .int .u32 u4, .int .u32 u5] 23).made #[.int .u32 v0, .int .u32 v1, .int .u32 v2, .int .u32 v3, .int .u32 v4, .int .u32 v5] 23).made #[.int .u32 w0, .int .u32 w1, .int .u32 w2, .int .u32 w3, .int .u32 w4, .int .u32 w5] 23).made #[.int .u32 k_0, .int .u32 k_1, .int .u32 k_2, .int .u32 k_3] 24)
  simp only [World.size_alloc] at M
  have eqF := eq_floats
  go_enter Tryz.func3, Tryz.ntmps3
  obtain ⟨k1, k2, k3, k4, k5, k6⟩ := (M.out.nth 3 rfl).six
  go_wp2_with fail
  refine (c1.out _).mono ?_
  rintro r w1_ ⟨rfl, hb⟩
  replace M := Lib.hid (M.out.below hb)
  clear hb
  clear k1 k2 k3 k4 k5 k6
  replace M := Lib.hid (M.out.made #[.float .f64 a0, .float .f64 a1, .float .f64 a2, .float .f64 a3, .float .f64 a4, .float .f64 a5] 29)
  replace M := Lib.hid (M.out.made #[.float .f64 b0, .float .f64 b1, .float .f64 b2, .float .f64 b3, .float .f64 b4, .float .f64 b5] 29)
  simp only [World.size_alloc] at M
  go_upto_region 5 with fail
  replace M := Lib.hid M.out.drew
  revert M
  generalize ((w1_.alloc (.cells #[.float .f64 a0, .float .f64 a1, .float .f64 a2, .float .f64 a3, .float .f64 a4, .float .f64 a5] 29)).alloc (.cells #[.float .f64 b0, .float .f64 b1, .float .f64 b2, .float .f64 b3, .float .f64 b4, .float .f64 b5] 29)) = W2_
  intro M
  refine wp_region_noPanic ?_
  refine tails_region (S := fun w' => (w'.cell? ⟨w1_.heap.size, 0, none⟩ = some (.float .f64 a0) ∧ w'.cell? ⟨w1_.heap.size, 1, none⟩ = some (.float .f64 a1) ∧ w'.cell? ⟨w1_.heap.size, 2, none⟩ = some (.float .f64 a2) ∧ w'.cell? ⟨w1_.heap.size, 3, none⟩ = some (.float .f64 a3) ∧ w'.cell? ⟨w1_.heap.size, 4, none⟩ = some (.float .f64 a4) ∧ w'.cell? ⟨w1_.heap.size, 5, none⟩ = some (.float .f64 a5)) ∧ (w'.cell? ⟨(w1_.heap.size + 1), 0, none⟩ = some (.float .f64 b0) ∧ w'.cell? ⟨(w1_.heap.size + 1), 1, none⟩ = some (.float .f64 b1) ∧ w'.cell? ⟨(w1_.heap.size + 1), 2, none⟩ = some (.float .f64 b2) ∧ w'.cell? ⟨(w1_.heap.size + 1), 3, none⟩ = some (.float .f64 b3) ∧ w'.cell? ⟨(w1_.heap.size + 1), 4, none⟩ = some (.float .f64 b4) ∧ w'.cell? ⟨(w1_.heap.size + 1), 5, none⟩ = some (.float .f64 b5))) [6, 7] (by kernel_rfl) ?_ (fun hS => ?_)
  · exact ⟨(M.out.nth 1 rfl).six, (M.out.nth 0 rfl).six⟩
  refine tails_take (T := [6, 7]) (i := 0) (o := _) (x := ?_) rfl (by kernel_rfl) (by kernel_rfl) (by kernel_rfl) (by kernel_rfl) (fun _ _ _ h => h) (Or.inl ⟨by kernel_rfl, ?_⟩) hS ?_
  rotate_left; focus (intro w hSw; (try dsimp only at hSw); go_simp; try with_reducible rfl)
  refine tails_take (T := [6, 7]) (i := 1) (o := _) (x := ?_) rfl (by kernel_rfl) (by kernel_rfl) (by kernel_rfl) (by kernel_rfl) (fun _ _ _ h => h) (Or.inl ⟨by kernel_rfl, ?_⟩) hS ?_
  rotate_left; focus (intro w hSw; (try dsimp only at hSw); go_simp; try with_reducible rfl)
  refine tails_take (T := [6, 7]) (i := 3) (o := _) (x := ?_) rfl (by kernel_rfl) (by kernel_rfl) (by kernel_rfl) (by kernel_rfl) (fun _ _ _ h => h) (Or.inl ⟨by kernel_rfl, ?_⟩) hS ?_
  rotate_left; focus (intro w hSw; (try dsimp only at hSw); go_simp; try with_reducible rfl)
  refine tails_take (T := [6, 7]) (i := 4) (o := _) (x := ?_) rfl (by kernel_rfl) (by kernel_rfl) (by kernel_rfl) (by kernel_rfl) (fun _ _ _ h => h) (Or.inl ⟨by kernel_rfl, ?_⟩) hS ?_
  rotate_left; focus (intro w hSw; (try dsimp only at hSw); go_simp; try with_reducible rfl)
  conv => arg 9; simp only [Act.put, go_sem]
  refine tails_one (T := [6, 7]) (i := 2) (o := _) rfl (by kernel_rfl) (fun K hK => ?_)
  go_simp
  refine (c2.out _).mono ?_
  rintro rr w3_ ⟨rfl, hb⟩
  replace M := Lib.hid (M.out.below hb)
  clear hb
  try go_wp2_with fail
  refine hK.out _ _ (Or.inr ⟨(M.out.nth 1 rfl).six, (M.out.nth 0 rfl).six⟩) (fun hHeld => ?_)
  clear hK K hHeld
  replace hS := (And.intro (M.out.nth 1 rfl).six (M.out.nth 0 rfl).six)
  refine tails_one (T := [6, 7]) (i := 5) (o := _) rfl (by kernel_rfl) (fun K hK => ?_)
  go_simp
  refine (c3.out _).mono ?_
  rintro rr w4_ ⟨rfl, hb⟩
  replace M := Lib.hid (M.out.below hb)
  clear hb
  try go_wp2_with fail
  refine hK.out _ _ (Or.inr ⟨(M.out.nth 1 rfl).six, (M.out.nth 0 rfl).six⟩) (fun hHeld => ?_)
  clear hK K hHeld
  replace hS := (And.intro (M.out.nth 1 rfl).six (M.out.nth 0 rfl).six)
  refine tails_one (T := [6, 7]) (i := 6) (o := _) rfl (by kernel_rfl) (fun K hK => ?_)
  have kc := (M.out.nth 1 rfl).2.1
  have kf := (M.out.nth 1 rfl).2.2
  replace M : Hid (Own w [((w1_.heap.size + 1), #[.float .f64 b0, .float .f64 b1, .float .f64 b2, .float .f64 b3, .float .f64 b4, .float .f64 b5]), (w1_.heap.size, #[.float .f64 ca0, .float .f64 ca1, .float .f64 ca2, .float .f64 ca3, .float .f64 ca4, .float .f64 ca5]), ((w.heap.size + 1 + 1 + 1), #[.int .u32 k_0, .int .u32 k_1, .int .u32 k_2, .int .u32 k_3]), ((w.heap.size + 1 + 1), #[.int .u32 w0, .int .u32 w1, .int .u32 w2, .int .u32 w3, .int .u32 w4, .int .u32 w5]), ((w.heap.size + 1), #[.int .u32 v0, .int .u32 v1, .int .u32 v2, .int .u32 v3, .int .u32 v4, .int .u32 v5]), (w.heap.size, #[.int .u32 u0, .int .u32 u1, .int .u32 u2, .int .u32 u3, .int .u32 u4, .int .u32 u5])] _) := Lib.hid (M.out.set6 1 rfl (.float .f64 ca0) (.float .f64 ca1) (.float .f64 ca2) (.float .f64 ca3) (.float .f64 ca4) (.float .f64 ca5))
  go_simp
  refine hK.out _ _ (Or.inl (by decide)) (fun hHeld => ?_)
  clear hK K hHeld kc kf
  refine tails_one (T := [6, 7]) (i := 7) (o := _) rfl (by kernel_rfl) (fun K hK => ?_)
  have kc := (M.out.nth 0 rfl).2.1
  have kf := (M.out.nth 0 rfl).2.2
  replace M : Hid (Own w [((w1_.heap.size + 1), #[.float .f64 cb0, .float .f64 cb1, .float .f64 cb2, .float .f64 cb3, .float .f64 cb4, .float .f64 cb5]), (w1_.heap.size, #[.float .f64 ca0, .float .f64 ca1, .float .f64 ca2, .float .f64 ca3, .float .f64 ca4, .float .f64 ca5]), ((w.heap.size + 1 + 1 + 1), #[.int .u32 k_0, .int .u32 k_1, .int .u32 k_2, .int .u32 k_3]), ((w.heap.size + 1 + 1), #[.int .u32 w0, .int .u32 w1, .int .u32 w2, .int .u32 w3, .int .u32 w4, .int .u32 w5]), ((w.heap.size + 1), #[.int .u32 v0, .int .u32 v1, .int .u32 v2, .int .u32 v3, .int .u32 v4, .int .u32 v5]), (w.heap.size, #[.int .u32 u0, .int .u32 u1, .int .u32 u2, .int .u32 u3, .int .u32 u4, .int .u32 u5])] _) := Lib.hid (M.out.set6 0 rfl (.float .f64 cb0) (.float .f64 cb1) (.float .f64 cb2) (.float .f64 cb3) (.float .f64 cb4) (.float .f64 cb5))
  go_simp
  refine hK.out _ _ (Or.inl (by decide)) (fun hHeld => ?_)
  clear hK K hHeld kc kf
  refine tails_done (by kernel_rfl) ?_ _
  refine NoPanic.normal ?_
  clear hS
  revert M
  generalize ((((((((((((w4_.setCell ⟨w1_.heap.size, 0, none⟩ (.float .f64 ca0)).setCell ⟨w1_.heap.size, 1, none⟩ (.float .f64 ca1)).setCell ⟨w1_.heap.size, 2, none⟩ (.float .f64 ca2)).setCell ⟨w1_.heap.size, 3, none⟩ (.float .f64 ca3)).setCell ⟨w1_.heap.size, 4, none⟩ (.float .f64 ca4)).setCell ⟨w1_.heap.size, 5, none⟩ (.float .f64 ca5)).setCell ⟨(w1_.heap.size + 1), 0, none⟩ (.float .f64 cb0)).setCell ⟨(w1_.heap.size + 1), 1, none⟩ (.float .f64 cb1)).setCell ⟨(w1_.heap.size + 1), 2, none⟩ (.float .f64 cb2)).setCell ⟨(w1_.heap.size + 1), 3, none⟩ (.float .f64 cb3)).setCell ⟨(w1_.heap.size + 1), 4, none⟩ (.float .f64 cb4)).setCell ⟨(w1_.heap.size + 1), 5, none⟩ (.float .f64 cb5)) = W5_
  intro M
  obtain ⟨k1, k2, k3, k4⟩ := (M.out.nth 2 rfl).four
  go_wp2_with fail
  refine (c4.out _).mono ?_
  rintro r w6_ ⟨rfl, hb⟩
  replace M := Lib.hid (M.out.below hb)
  clear hb
  clear k1 k2 k3 k4
  replace M := Lib.hid (M.out.made #[.float .f64 el, .float .f64 eh] 27)
  obtain ⟨k1, k2, k3, k4, k5, k6⟩ := (M.out.nth 2 rfl).six
  obtain ⟨k7, k8, k9, k10, k11, k12⟩ := (M.out.nth 1 rfl).six
  go_wp2_with fail
  refine (c5.out _).mono ?_
  rintro r w7_ ⟨rfl, hb⟩
  replace M := Lib.hid (M.out.below hb)
  clear hb
  clear k1 k2 k3 k4 k5 k6 k7 k8 k9 k10 k11 k12
  replace M := Lib.hid (M.out.made #[.float .f64 x0, .float .f64 x1, .float .f64 x2, .float .f64 x3, .float .f64 x4, .float .f64 x5, .float .f64 x6, .float .f64 x7] 35)
  go_upto_region 8 with fail
  replace M := Lib.hid M.out.drew
  revert M
  generalize (w7_.alloc (.cells #[.float .f64 x0, .float .f64 x1, .float .f64 x2, .float .f64 x3, .float .f64 x4, .float .f64 x5, .float .f64 x6, .float .f64 x7] 35)) = W8_
  intro M
  refine wp_region_noPanic ?_
  refine tails_region (S := fun w' => (w'.cell? ⟨w1_.heap.size, 0, none⟩ = some (.float .f64 ca0) ∧ w'.cell? ⟨w1_.heap.size, 1, none⟩ = some (.float .f64 ca1) ∧ w'.cell? ⟨w1_.heap.size, 2, none⟩ = some (.float .f64 ca2) ∧ w'.cell? ⟨w1_.heap.size, 3, none⟩ = some (.float .f64 ca3) ∧ w'.cell? ⟨w1_.heap.size, 4, none⟩ = some (.float .f64 ca4) ∧ w'.cell? ⟨w1_.heap.size, 5, none⟩ = some (.float .f64 ca5)) ∧ (w'.cell? ⟨(w.heap.size + 1), 0, none⟩ = some (.int .u32 v0) ∧ w'.cell? ⟨(w.heap.size + 1), 1, none⟩ = some (.int .u32 v1) ∧ w'.cell? ⟨(w.heap.size + 1), 2, none⟩ = some (.int .u32 v2) ∧ w'.cell? ⟨(w.heap.size + 1), 3, none⟩ = some (.int .u32 v3) ∧ w'.cell? ⟨(w.heap.size + 1), 4, none⟩ = some (.int .u32 v4) ∧ w'.cell? ⟨(w.heap.size + 1), 5, none⟩ = some (.int .u32 v5)) ∧ (w'.cell? ⟨(w1_.heap.size + 1), 0, none⟩ = some (.float .f64 cb0) ∧ w'.cell? ⟨(w1_.heap.size + 1), 1, none⟩ = some (.float .f64 cb1) ∧ w'.cell? ⟨(w1_.heap.size + 1), 2, none⟩ = some (.float .f64 cb2) ∧ w'.cell? ⟨(w1_.heap.size + 1), 3, none⟩ = some (.float .f64 cb3) ∧ w'.cell? ⟨(w1_.heap.size + 1), 4, none⟩ = some (.float .f64 cb4) ∧ w'.cell? ⟨(w1_.heap.size + 1), 5, none⟩ = some (.float .f64 cb5)) ∧ (w'.cell? ⟨(w.heap.size + 1 + 1), 0, none⟩ = some (.int .u32 w0) ∧ w'.cell? ⟨(w.heap.size + 1 + 1), 1, none⟩ = some (.int .u32 w1) ∧ w'.cell? ⟨(w.heap.size + 1 + 1), 2, none⟩ = some (.int .u32 w2) ∧ w'.cell? ⟨(w.heap.size + 1 + 1), 3, none⟩ = some (.int .u32 w3) ∧ w'.cell? ⟨(w.heap.size + 1 + 1), 4, none⟩ = some (.int .u32 w4) ∧ w'.cell? ⟨(w.heap.size + 1 + 1), 5, none⟩ = some (.int .u32 w5)) ∧ (w'.cell? ⟨w6_.heap.size, 0, none⟩ = some (.float .f64 el) ∧ w'.cell? ⟨w6_.heap.size, 1, none⟩ = some (.float .f64 eh)) ∧ (w'.cell? ⟨(w.heap.size + 1 + 1 + 1), 0, none⟩ = some (.int .u32 k_0) ∧ w'.cell? ⟨(w.heap.size + 1 + 1 + 1), 1, none⟩ = some (.int .u32 k_1) ∧ w'.cell? ⟨(w.heap.size + 1 + 1 + 1), 2, none⟩ = some (.int .u32 k_2) ∧ w'.cell? ⟨(w.heap.size + 1 + 1 + 1), 3, none⟩ = some (.int .u32 k_3))) [] (by kernel_rfl) ?_ (fun hS => ?_)
  · exact ⟨(M.out.nth 3 rfl).six, (M.out.nth 6 rfl).six, (M.out.nth 2 rfl).six, (M.out.nth 5 rfl).six, (M.out.nth 1 rfl).two, (M.out.nth 4 rfl).four⟩
  refine tk (x := ?_) 0 rfl (by kernel_rfl) ⟨by kernel_rfl, ?_⟩ (fun _ _ _ h => h) hS ?_
  rotate_left; focus (intro w hSw; (try dsimp only at hSw); go_simp; try with_reducible rfl)
  refine tk (x := ?_) 1 rfl (by kernel_rfl) ⟨by kernel_rfl, ?_⟩ (fun _ _ _ h => h) hS ?_
  rotate_left; focus (intro w hSw; (try dsimp only at hSw); go_simp; try with_reducible rfl)
  refine tk (x := ?_) 3 rfl (by kernel_rfl) ⟨by kernel_rfl, ?_⟩ (fun _ _ _ h => h) hS ?_
  rotate_left; focus (intro w hSw; (try dsimp only at hSw); go_simp; try with_reducible rfl)
  refine tk (x := ?_) 4 rfl (by kernel_rfl) ⟨by kernel_rfl, ?_⟩ (fun _ _ _ h => h) hS ?_
  rotate_left; focus (intro w hSw; (try dsimp only at hSw); go_simp; try with_reducible rfl)
  refine tk (x := ?_) 6 rfl (by kernel_rfl) ⟨by kernel_rfl, ?_⟩ (fun _ _ _ h => h) hS ?_
  rotate_left; focus (intro w hSw; (try dsimp only at hSw); go_simp; try with_reducible rfl)
  refine tk (x := ?_) 7 rfl (by kernel_rfl) ⟨by kernel_rfl, ?_⟩ (fun _ _ _ h => h) hS ?_
  rotate_left; focus (intro w hSw; (try dsimp only at hSw); go_simp; try with_reducible rfl)
  refine tk (x := ?_) 8 rfl (by kernel_rfl) ⟨by kernel_rfl, ?_⟩ (fun _ _ _ h => h) hS ?_
  rotate_left; focus (intro w hSw; (try dsimp only at hSw); go_simp; try with_reducible rfl)
  refine tk (x := ?_) 9 rfl (by kernel_rfl) ⟨by kernel_rfl, ?_⟩ (fun _ _ _ h => h) hS ?_
  rotate_left; focus (intro w hSw; (try dsimp only at hSw); go_simp; try with_reducible rfl)
  refine tk (x := ?_) 10 rfl (by kernel_rfl) ⟨by kernel_rfl, ?_⟩ (fun _ _ _ h => h) hS ?_
  rotate_left; focus (intro w hSw; (try dsimp only at hSw); go_simp; try with_reducible rfl)
  refine tk (x := ?_) 11 rfl (by kernel_rfl) ⟨by kernel_rfl, ?_⟩ (fun _ _ _ h => h) hS ?_
  rotate_left; focus (intro w hSw; (try dsimp only at hSw); go_simp; try with_reducible rfl)
  refine tk (x := ?_) 12 rfl (by kernel_rfl) ⟨by kernel_rfl, ?_⟩ (fun _ _ _ h => h) hS ?_
  rotate_left; focus (intro w hSw; (try dsimp only at hSw); go_simp; try with_reducible rfl)
  refine tk (x := ?_) 13 rfl (by kernel_rfl) ⟨by kernel_rfl, ?_⟩ (fun _ _ _ h => h) hS ?_
  rotate_left; focus (intro w hSw; (try dsimp only at hSw); go_simp; try with_reducible rfl)
  conv => arg 9; simp only [Act.put, go_sem]
  refine lp_ccccppp_1 M 2 5 14 15 16 17 18 19 [52, 55, 64, 65, 49, 66, 67, 18] 2 (mwerrJ8 w ia0 ia1 ia2 ia3 ia4 ia5 ib0 ib1 ib2 ib3 ib4 ib5 ml mh t0 t1 t2 t3 t4 t5 t6 t7 es) (by kernel_rfl) (by kernel_rfl) ?_ ?_ ?_ ?_ ?_ ?_ ?_ ?_ ?_ ?_ ?_
  · intro A hA
    obtain ⟨y1, hq1⟩ := put_ex (hA 52 (by simp))
    obtain ⟨y2, hq2⟩ := put_ex (hA 55 (by simp))
    obtain ⟨y3, hq3⟩ := put_ex (hA 64 (by simp))
    obtain ⟨y4, hq4⟩ := put_ex (hA 65 (by simp))
    obtain ⟨y5, hq5⟩ := put_ex (hA 49 (by simp))
    obtain ⟨y6, hq6⟩ := put_ex (hA 66 (by simp))
    obtain ⟨y7, hq7⟩ := put_ex (hA 67 (by simp))
    obtain ⟨z1, hq8⟩ := put_ex (hA 18 (by simp))
    exact ⟨y1, y2, y3, y4, y5, y6, y7, z1, by rw [hq1, hq2, hq3, hq4, hq5, hq6, hq7, hq8], by omega, by omega, by omega, by omega, by omega, by omega, by omega, by simp, OwnF.start M.out 1⟩
  · rintro k p a v ⟨y1, y2, y3, y4, y5, y6, y7, z1, _, _, _, _, _, _, _, _, _, h⟩
    exact ⟨(h.own.nth 3 rfl).six, (h.own.nth 6 rfl).six, (h.own.nth 2 rfl).six, (h.own.nth 5 rfl).six, (h.own.nth 1 rfl).two, (h.own.nth 4 rfl).four⟩
  · intro p a v hJ
    refine op_step (o := _) rfl (fun K hK => ?_)
    obtain ⟨y1, y2, y3, y4, y5, y6, y7, z1, ha, gg1, h⟩ := mwerrJ8_0 hJ
    have h := Lib.hid h
    clear hJ
    subst ha
    go_simp
    refine (c6.out _).mono ?_
    rintro rr w5 ⟨rfl, hp⟩
    try go_wp2_with fail
    refine hK.out _ _ ⟨_, y2, y3, y4, y5, y6, y7, z1, ?_, fun _ => rfl, by omega, by omega, by omega, by omega, by omega, by omega, gg1, h.out.below hp⟩
    kernel_rfl
  · intro p a v hJ
    refine op_step (o := _) rfl (fun K hK => ?_)
    obtain ⟨y2, y3, y4, y5, y6, y7, z1, ha, gg1, h⟩ := mwerrJ8_1 hJ
    have h := Lib.hid h
    clear hJ
    subst ha
    go_simp
    refine (c7.out _).mono ?_
    rintro rr w5 ⟨rfl, hp⟩
    try go_wp2_with fail
    refine hK.out _ _ ⟨_, _, y3, y4, y5, y6, y7, z1, ?_, fun _ => rfl, fun _ => rfl, by omega, by omega, by omega, by omega, by omega, gg1, h.out.below hp⟩
    kernel_rfl
  · intro p a v hJ
    refine op_step (o := _) rfl (fun K hK => ?_)
    obtain ⟨y3, y4, y5, y6, y7, z1, ha, gg1, h⟩ := mwerrJ8_2 hJ
    have h := Lib.hid h
    clear hJ
    subst ha
    go_simp
    refine (c8.out _).mono ?_
    rintro rr w5 ⟨rfl, hp⟩
    try go_wp2_with fail
    refine hK.out _ _ ⟨_, _, _, y4, y5, y6, y7, z1, ?_, fun _ => rfl, fun _ => rfl, fun _ => rfl, by omega, by omega, by omega, by omega, gg1, h.out.below hp⟩
    kernel_rfl
  · intro p a v hJ
    refine op_step (o := _) rfl (fun K hK => ?_)
    obtain ⟨y4, y5, y6, y7, z1, ha, gg1, h⟩ := mwerrJ8_3 hJ
    have h := Lib.hid h
    clear hJ
    subst ha
    go_simp
    refine (c9.out _).mono ?_
    rintro rr w5 ⟨rfl, hp⟩
    try go_wp2_with fail
    refine hK.out _ _ ⟨_, _, _, _, y5, y6, y7, z1, ?_, fun _ => rfl, fun _ => rfl, fun _ => rfl, fun _ => rfl, by omega, by omega, by omega, gg1, h.out.below hp⟩
    kernel_rfl
  · intro p a v hJ
    replace hJ := mwerrJ8_4 hJ
    refine Exists.elim hJ (fun y5 hJ => ?_)
    refine Exists.elim hJ (fun y6 hJ => ?_)
    refine Exists.elim hJ (fun y7 hJ => ?_)
    refine Exists.elim hJ (fun z1 hJ => ?_)
    have ha := hJ.1
    have gg1 := hJ.2.1
    have h := hJ.2.2
    clear hJ
    subst ha
    refine ⟨_, .tuple #[.agg #[.float .f64 t0, .float .f64 t1, .float .f64 t2, .float .f64 t3, .float .f64 t4, .float .f64 t5, .float .f64 t6, .float .f64 t7], .int .i64 es], rfl, Or.inl ⟨by kernel_rfl, ?_⟩, (fun _ _ _ h => h), _, _, _, _, _, y6, y7, z1, ?_, fun _ => rfl, fun _ => rfl, fun _ => rfl, fun _ => rfl, fun _ => rfl, by omega, by omega, gg1, h⟩
    · intro w hSw; clear hSw h; go_simp; try with_reducible rfl
    · kernel_rfl
  · intro p a v hJ
    replace hJ := mwerrJ8_5 hJ
    refine Exists.elim hJ (fun y6 hJ => ?_)
    refine Exists.elim hJ (fun y7 hJ => ?_)
    refine Exists.elim hJ (fun z1 hJ => ?_)
    have ha := hJ.1
    have gg1 := hJ.2.1
    have h := hJ.2.2
    clear hJ
    subst ha
    refine ⟨_, .agg #[.float .f64 t0, .float .f64 t1, .float .f64 t2, .float .f64 t3, .float .f64 t4, .float .f64 t5, .float .f64 t6, .float .f64 t7], rfl, Or.inl ⟨by kernel_rfl, ?_⟩, (fun _ _ _ h => h), _, _, _, _, _, _, y7, z1, ?_, fun _ => rfl, fun _ => rfl, fun _ => rfl, fun _ => rfl, fun _ => rfl, fun _ => rfl, by omega, gg1, h⟩
    · intro w hSw; clear hSw h; go_simp; try with_reducible rfl
    · kernel_rfl
  · intro p a v hJ
    replace hJ := mwerrJ8_6 hJ
    refine Exists.elim hJ (fun y7 hJ => ?_)
    refine Exists.elim hJ (fun z1 hJ => ?_)
    have ha := hJ.1
    have gg1 := hJ.2.1
    have h := hJ.2.2
    clear hJ
    subst ha
    refine ⟨_, .int .i64 es, rfl, Or.inl ⟨by kernel_rfl, ?_⟩, (fun _ _ _ h => h), _, _, _, _, _, _, _, z1, ?_, fun _ => rfl, fun _ => rfl, fun _ => rfl, fun _ => rfl, fun _ => rfl, fun _ => rfl, fun _ => rfl, gg1, h⟩
    · intro w hSw; clear hSw h; go_simp; try with_reducible rfl
    · kernel_rfl
  · intro k p a v hp hJ
    refine op_step (o := _) rfl (fun K hK => ?_)
    obtain ⟨y1, y2, y3, y4, y5, y6, y7, z1, ha, ee1, ee2, ee3, ee4, ee5, ee6, ee7, gg1, h⟩ := hJ
    have h := Lib.hid h
    subst ha
    go_simp
    refine hK.out _ _ ⟨v.heap.size, y1, y2, y3, y4, y5, y6, y7, .pointer (some ⟨v.heap.size, 0, none⟩), ?_, ee1, ee2, ee3, ee4, ee5, ee6, ee7, fun q hq => ptr_set hq, h.out.alloc hp rfl _⟩
    kernel_rfl
  intro p8_1 a v hJ
  obtain ⟨rfl, h⟩ := mwerrJ8_fin hJ
  clear hJ
  replace M := Lib.hid h.fin1
  clear h
  refine tails_one (T := []) (i := 20) (o := _) rfl (by kernel_rfl) (fun K hK => ?_)
  have kc := (M.out.nth 0 rfl).2.1
  have kf := (M.out.nth 0 rfl).2.2
  replace M : Hid (Own w [(p8_1, #[.float .f64 t0, .float .f64 0, .float .f64 0, .float .f64 0, .float .f64 0, .float .f64 0, .float .f64 0, .float .f64 0]), (w7_.heap.size, #[.float .f64 x0, .float .f64 x1, .float .f64 x2, .float .f64 x3, .float .f64 x4, .float .f64 x5, .float .f64 x6, .float .f64 x7]), (w6_.heap.size, #[.float .f64 el, .float .f64 eh]), ((w1_.heap.size + 1), #[.float .f64 cb0, .float .f64 cb1, .float .f64 cb2, .float .f64 cb3, .float .f64 cb4, .float .f64 cb5]), (w1_.heap.size, #[.float .f64 ca0, .float .f64 ca1, .float .f64 ca2, .float .f64 ca3, .float .f64 ca4, .float .f64 ca5]), ((w.heap.size + 1 + 1 + 1), #[.int .u32 k_0, .int .u32 k_1, .int .u32 k_2, .int .u32 k_3]), ((w.heap.size + 1 + 1), #[.int .u32 w0, .int .u32 w1, .int .u32 w2, .int .u32 w3, .int .u32 w4, .int .u32 w5]), ((w.heap.size + 1), #[.int .u32 v0, .int .u32 v1, .int .u32 v2, .int .u32 v3, .int .u32 v4, .int .u32 v5]), (w.heap.size, #[.int .u32 u0, .int .u32 u1, .int .u32 u2, .int .u32 u3, .int .u32 u4, .int .u32 u5])] _) := Lib.hid ((M.out.setIn 0 rfl 0 (.float .f64 t0)).to (by rfl))
  replace M : Hid (Own w [(p8_1, #[.float .f64 t0, .float .f64 t1, .float .f64 0, .float .f64 0, .float .f64 0, .float .f64 0, .float .f64 0, .float .f64 0]), (w7_.heap.size, #[.float .f64 x0, .float .f64 x1, .float .f64 x2, .float .f64 x3, .float .f64 x4, .float .f64 x5, .float .f64 x6, .float .f64 x7]), (w6_.heap.size, #[.float .f64 el, .float .f64 eh]), ((w1_.heap.size + 1), #[.float .f64 cb0, .float .f64 cb1, .float .f64 cb2, .float .f64 cb3, .float .f64 cb4, .float .f64 cb5]), (w1_.heap.size, #[.float .f64 ca0, .float .f64 ca1, .float .f64 ca2, .float .f64 ca3, .float .f64 ca4, .float .f64 ca5]), ((w.heap.size + 1 + 1 + 1), #[.int .u32 k_0, .int .u32 k_1, .int .u32 k_2, .int .u32 k_3]), ((w.heap.size + 1 + 1), #[.int .u32 w0, .int .u32 w1, .int .u32 w2, .int .u32 w3, .int .u32 w4, .int .u32 w5]), ((w.heap.size + 1), #[.int .u32 v0, .int .u32 v1, .int .u32 v2, .int .u32 v3, .int .u32 v4, .int .u32 v5]), (w.heap.size, #[.int .u32 u0, .int .u32 u1, .int .u32 u2, .int .u32 u3, .int .u32 u4, .int .u32 u5])] _) := Lib.hid ((M.out.setIn 0 rfl 1 (.float .f64 t1)).to (by rfl))
  replace M : Hid (Own w [(p8_1, #[.float .f64 t0, .float .f64 t1, .float .f64 t2, .float .f64 0, .float .f64 0, .float .f64 0, .float .f64 0, .float .f64 0]), (w7_.heap.size, #[.float .f64 x0, .float .f64 x1, .float .f64 x2, .float .f64 x3, .float .f64 x4, .float .f64 x5, .float .f64 x6, .float .f64 x7]), (w6_.heap.size, #[.float .f64 el, .float .f64 eh]), ((w1_.heap.size + 1), #[.float .f64 cb0, .float .f64 cb1, .float .f64 cb2, .float .f64 cb3, .float .f64 cb4, .float .f64 cb5]), (w1_.heap.size, #[.float .f64 ca0, .float .f64 ca1, .float .f64 ca2, .float .f64 ca3, .float .f64 ca4, .float .f64 ca5]), ((w.heap.size + 1 + 1 + 1), #[.int .u32 k_0, .int .u32 k_1, .int .u32 k_2, .int .u32 k_3]), ((w.heap.size + 1 + 1), #[.int .u32 w0, .int .u32 w1, .int .u32 w2, .int .u32 w3, .int .u32 w4, .int .u32 w5]), ((w.heap.size + 1), #[.int .u32 v0, .int .u32 v1, .int .u32 v2, .int .u32 v3, .int .u32 v4, .int .u32 v5]), (w.heap.size, #[.int .u32 u0, .int .u32 u1, .int .u32 u2, .int .u32 u3, .int .u32 u4, .int .u32 u5])] _) := Lib.hid ((M.out.setIn 0 rfl 2 (.float .f64 t2)).to (by rfl))
  replace M : Hid (Own w [(p8_1, #[.float .f64 t0, .float .f64 t1, .float .f64 t2, .float .f64 t3, .float .f64 0, .float .f64 0, .float .f64 0, .float .f64 0]), (w7_.heap.size, #[.float .f64 x0, .float .f64 x1, .float .f64 x2, .float .f64 x3, .float .f64 x4, .float .f64 x5, .float .f64 x6, .float .f64 x7]), (w6_.heap.size, #[.float .f64 el, .float .f64 eh]), ((w1_.heap.size + 1), #[.float .f64 cb0, .float .f64 cb1, .float .f64 cb2, .float .f64 cb3, .float .f64 cb4, .float .f64 cb5]), (w1_.heap.size, #[.float .f64 ca0, .float .f64 ca1, .float .f64 ca2, .float .f64 ca3, .float .f64 ca4, .float .f64 ca5]), ((w.heap.size + 1 + 1 + 1), #[.int .u32 k_0, .int .u32 k_1, .int .u32 k_2, .int .u32 k_3]), ((w.heap.size + 1 + 1), #[.int .u32 w0, .int .u32 w1, .int .u32 w2, .int .u32 w3, .int .u32 w4, .int .u32 w5]), ((w.heap.size + 1), #[.int .u32 v0, .int .u32 v1, .int .u32 v2, .int .u32 v3, .int .u32 v4, .int .u32 v5]), (w.heap.size, #[.int .u32 u0, .int .u32 u1, .int .u32 u2, .int .u32 u3, .int .u32 u4, .int .u32 u5])] _) := Lib.hid ((M.out.setIn 0 rfl 3 (.float .f64 t3)).to (by rfl))
  replace M : Hid (Own w [(p8_1, #[.float .f64 t0, .float .f64 t1, .float .f64 t2, .float .f64 t3, .float .f64 t4, .float .f64 0, .float .f64 0, .float .f64 0]), (w7_.heap.size, #[.float .f64 x0, .float .f64 x1, .float .f64 x2, .float .f64 x3, .float .f64 x4, .float .f64 x5, .float .f64 x6, .float .f64 x7]), (w6_.heap.size, #[.float .f64 el, .float .f64 eh]), ((w1_.heap.size + 1), #[.float .f64 cb0, .float .f64 cb1, .float .f64 cb2, .float .f64 cb3, .float .f64 cb4, .float .f64 cb5]), (w1_.heap.size, #[.float .f64 ca0, .float .f64 ca1, .float .f64 ca2, .float .f64 ca3, .float .f64 ca4, .float .f64 ca5]), ((w.heap.size + 1 + 1 + 1), #[.int .u32 k_0, .int .u32 k_1, .int .u32 k_2, .int .u32 k_3]), ((w.heap.size + 1 + 1), #[.int .u32 w0, .int .u32 w1, .int .u32 w2, .int .u32 w3, .int .u32 w4, .int .u32 w5]), ((w.heap.size + 1), #[.int .u32 v0, .int .u32 v1, .int .u32 v2, .int .u32 v3, .int .u32 v4, .int .u32 v5]), (w.heap.size, #[.int .u32 u0, .int .u32 u1, .int .u32 u2, .int .u32 u3, .int .u32 u4, .int .u32 u5])] _) := Lib.hid ((M.out.setIn 0 rfl 4 (.float .f64 t4)).to (by rfl))
  replace M : Hid (Own w [(p8_1, #[.float .f64 t0, .float .f64 t1, .float .f64 t2, .float .f64 t3, .float .f64 t4, .float .f64 t5, .float .f64 0, .float .f64 0]), (w7_.heap.size, #[.float .f64 x0, .float .f64 x1, .float .f64 x2, .float .f64 x3, .float .f64 x4, .float .f64 x5, .float .f64 x6, .float .f64 x7]), (w6_.heap.size, #[.float .f64 el, .float .f64 eh]), ((w1_.heap.size + 1), #[.float .f64 cb0, .float .f64 cb1, .float .f64 cb2, .float .f64 cb3, .float .f64 cb4, .float .f64 cb5]), (w1_.heap.size, #[.float .f64 ca0, .float .f64 ca1, .float .f64 ca2, .float .f64 ca3, .float .f64 ca4, .float .f64 ca5]), ((w.heap.size + 1 + 1 + 1), #[.int .u32 k_0, .int .u32 k_1, .int .u32 k_2, .int .u32 k_3]), ((w.heap.size + 1 + 1), #[.int .u32 w0, .int .u32 w1, .int .u32 w2, .int .u32 w3, .int .u32 w4, .int .u32 w5]), ((w.heap.size + 1), #[.int .u32 v0, .int .u32 v1, .int .u32 v2, .int .u32 v3, .int .u32 v4, .int .u32 v5]), (w.heap.size, #[.int .u32 u0, .int .u32 u1, .int .u32 u2, .int .u32 u3, .int .u32 u4, .int .u32 u5])] _) := Lib.hid ((M.out.setIn 0 rfl 5 (.float .f64 t5)).to (by rfl))
  replace M : Hid (Own w [(p8_1, #[.float .f64 t0, .float .f64 t1, .float .f64 t2, .float .f64 t3, .float .f64 t4, .float .f64 t5, .float .f64 t6, .float .f64 0]), (w7_.heap.size, #[.float .f64 x0, .float .f64 x1, .float .f64 x2, .float .f64 x3, .float .f64 x4, .float .f64 x5, .float .f64 x6, .float .f64 x7]), (w6_.heap.size, #[.float .f64 el, .float .f64 eh]), ((w1_.heap.size + 1), #[.float .f64 cb0, .float .f64 cb1, .float .f64 cb2, .float .f64 cb3, .float .f64 cb4, .float .f64 cb5]), (w1_.heap.size, #[.float .f64 ca0, .float .f64 ca1, .float .f64 ca2, .float .f64 ca3, .float .f64 ca4, .float .f64 ca5]), ((w.heap.size + 1 + 1 + 1), #[.int .u32 k_0, .int .u32 k_1, .int .u32 k_2, .int .u32 k_3]), ((w.heap.size + 1 + 1), #[.int .u32 w0, .int .u32 w1, .int .u32 w2, .int .u32 w3, .int .u32 w4, .int .u32 w5]), ((w.heap.size + 1), #[.int .u32 v0, .int .u32 v1, .int .u32 v2, .int .u32 v3, .int .u32 v4, .int .u32 v5]), (w.heap.size, #[.int .u32 u0, .int .u32 u1, .int .u32 u2, .int .u32 u3, .int .u32 u4, .int .u32 u5])] _) := Lib.hid ((M.out.setIn 0 rfl 6 (.float .f64 t6)).to (by rfl))
  replace M : Hid (Own w [(p8_1, #[.float .f64 t0, .float .f64 t1, .float .f64 t2, .float .f64 t3, .float .f64 t4, .float .f64 t5, .float .f64 t6, .float .f64 t7]), (w7_.heap.size, #[.float .f64 x0, .float .f64 x1, .float .f64 x2, .float .f64 x3, .float .f64 x4, .float .f64 x5, .float .f64 x6, .float .f64 x7]), (w6_.heap.size, #[.float .f64 el, .float .f64 eh]), ((w1_.heap.size + 1), #[.float .f64 cb0, .float .f64 cb1, .float .f64 cb2, .float .f64 cb3, .float .f64 cb4, .float .f64 cb5]), (w1_.heap.size, #[.float .f64 ca0, .float .f64 ca1, .float .f64 ca2, .float .f64 ca3, .float .f64 ca4, .float .f64 ca5]), ((w.heap.size + 1 + 1 + 1), #[.int .u32 k_0, .int .u32 k_1, .int .u32 k_2, .int .u32 k_3]), ((w.heap.size + 1 + 1), #[.int .u32 w0, .int .u32 w1, .int .u32 w2, .int .u32 w3, .int .u32 w4, .int .u32 w5]), ((w.heap.size + 1), #[.int .u32 v0, .int .u32 v1, .int .u32 v2, .int .u32 v3, .int .u32 v4, .int .u32 v5]), (w.heap.size, #[.int .u32 u0, .int .u32 u1, .int .u32 u2, .int .u32 u3, .int .u32 u4, .int .u32 u5])] _) := Lib.hid ((M.out.setIn 0 rfl 7 (.float .f64 t7)).to (by rfl))
  go_simp
  refine hK.out _ _ (Or.inr ⟨(M.out.nth 4 rfl).six, (M.out.nth 7 rfl).six, (M.out.nth 3 rfl).six, (M.out.nth 6 rfl).six, (M.out.nth 2 rfl).two, (M.out.nth 5 rfl).four⟩) (fun hHeld => ?_)
  clear hK K hHeld kc kf
  refine tails_one (T := []) (i := 21) (o := _) rfl (by kernel_rfl) (fun K hK => ?_)
  go_simp
  refine hK.out _ _ (Or.inr ⟨(M.out.nth 4 rfl).six, (M.out.nth 7 rfl).six, (M.out.nth 3 rfl).six, (M.out.nth 6 rfl).six, (M.out.nth 2 rfl).two, (M.out.nth 5 rfl).four⟩) (fun hHeld => ?_)
  clear hK K hHeld
  refine tails_done (by kernel_rfl) ?_ _
  refine NoPanic.normal ?_
  clear hS
  revert M
  generalize ((((((((v.setCell ⟨p8_1, 0, none⟩ (.float .f64 t0)).setCell ⟨p8_1, 1, none⟩ (.float .f64 t1)).setCell ⟨p8_1, 2, none⟩ (.float .f64 t2)).setCell ⟨p8_1, 3, none⟩ (.float .f64 t3)).setCell ⟨p8_1, 4, none⟩ (.float .f64 t4)).setCell ⟨p8_1, 5, none⟩ (.float .f64 t5)).setCell ⟨p8_1, 6, none⟩ (.float .f64 t6)).setCell ⟨p8_1, 7, none⟩ (.float .f64 t7)) = W9_
  intro M
  go_wp2_with fail
  refine (c10.out _).mono ?_
  rintro r w10_ ⟨rfl, hb⟩
  replace M := Lib.hid (M.out.below hb)
  clear hb
  go_wp2
  go_ret
  exact ⟨rfl, M.out.base⟩

end Go.Proofs.YthefgkgdadkgbaaGreat
