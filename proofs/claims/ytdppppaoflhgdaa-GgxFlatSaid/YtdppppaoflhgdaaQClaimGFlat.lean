
/- GgxFlat, of any cosine and any alpha that are drawn: with alpha 1 the mirrors lean alike whichever way, and twice Lambda and one, squared, meets 1 and alpha's square times the tangent's. No conditions. -/
import Derived.Test.YtdppppaoflhgdaaLanS
import Derived.Test.YtdppppaoflhgdaaBtw
import Derived.Deep.RegionHeld3
import Derived.Test.YtdppppaoflhgdaaGgM
import Derived.Test.YtdppppaoflhgdaaQGe
import Derived.Test.YtdppppaoflhgdaaQOpen
import Derived.ProofKit
import Derived.Carry
namespace Go.Proofs.Ytdppppaoflhgdaa
open Go.RowKit
attribute [local go_sem] run_store_float

section
variable {P : Program} {ops : Array Oper} {Q : Exit → Act → World → Prop} {md : Region.Mode} {S : World → Prop}
theorem lp_ccppp_1 {a0 : Act} {B v : World} {l : List (Nat × Array Value)} (_ : Hid (Own B l v)) {w0 : World} {L0 : Array Bool} (c1 c2 c3 c4 c5 m1 : Nat) (slots : List Nat) (N : Nat) (J : List (Nat × Array Value) → Act → Nat → List (Option Nat) → Act → World → Prop) (hok : latOkP [false, false, true, true, true] md ops L0 [c1, c2, c3, c4, c5] [m1] = true)
    (hsl : (slots.all fun s => decide (s < a0.tmps.size)) = true) (h0 : ∀ A : Act, (∀ s, s ∈ slots → s < A.tmps.size) → J l A 0 (List.replicate 1 none) A w0)
    (hS : ∀ k p a w, J l a0 k p a w → S w)
    (k1 : ∀ p a w, J l a0 0 p a w → wpOp P ops Q c1 (fun b v => J l a0 1 p b v) a w)
    (k2 : ∀ p a w, J l a0 1 p a w → wpOp P ops Q c2 (fun b v => J l a0 2 p b v) a w)
    (k3 : ∀ p a w, J l a0 2 p a w → ∃ o x, ops[c3]? = some o ∧ YieldsIf P ops S o x a ∧ (∀ c a w, Q (.panic c) (a.put o.dst x) w → Q (.panic c) a w) ∧ J l a0 3 p (a.put o.dst x) w)
    (k4 : ∀ p a w, J l a0 3 p a w → ∃ o x, ops[c4]? = some o ∧ YieldsIf P ops S o x a ∧ (∀ c a w, Q (.panic c) (a.put o.dst x) w → Q (.panic c) a w) ∧ J l a0 4 p (a.put o.dst x) w)
    (k5 : ∀ p a w, J l a0 4 p a w → ∃ o x, ops[c5]? = some o ∧ YieldsIf P ops S o x a ∧ (∀ c a w, Q (.panic c) (a.put o.dst x) w → Q (.panic c) a w) ∧ J l a0 5 p (a.put o.dst x) w)
    (n1 : ∀ k p a w, p[0]? = some none → J l a0 k p a w → wpOp P ops Q m1 (fun b v => ∃ q, J l a0 k (p.set 0 (some q)) b v) a w)
    (fin : ∀ q1 a w, J l a0 5 [some q1] a w → wpAnyV P md ops Q S [] N (lstOf L0 [c1, c2, c3, c4, c5] [m1] 5 [true]) a w) :
    wpAnyV P md ops Q S [] (N + 6) L0 a0 w0 := by
  refine latP_from (pl := [false, false, true, true, true]) [c1, c2, c3, c4, c5] [m1] slots N 6 (J l) hok rfl hsl h0 hS (fun k i p a w hk hn hJ => ?_) (fun k i p a w hk hn hJ => ?_) (fun k m i p a w hm hp hJ => ?_) (fun p a w hp hall hJ => ?_)
  · rcases k with _ | _ | _ | _ | _ | k
    · obtain rfl : c1 = i := by simpa using hk
      exact k1 p a w hJ
    · obtain rfl : c2 = i := by simpa using hk
      exact k2 p a w hJ
    · exact absurd hn (by decide)
    · exact absurd hn (by decide)
    · exact absurd hn (by decide)
    · simp at hk
  · rcases k with _ | _ | _ | _ | _ | k
    · exact absurd hn (by decide)
    · exact absurd hn (by decide)
    · obtain rfl : c3 = i := by simpa using hk
      exact k3 p a w hJ
    · obtain rfl : c4 = i := by simpa using hk
      exact k4 p a w hJ
    · obtain rfl : c5 = i := by simpa using hk
      exact k5 p a w hJ
    · simp at hk
  · rcases m with _ | m
    · obtain rfl : m1 = i := by simpa using hm
      exact n1 k p a w hp hJ
    · simp at hm
  · obtain ⟨q1, rfl⟩ := fin_one hp hall
    exact fin q1 a w hJ
theorem lpx_ccccc_1 {a0 : Act} {B v : World} {l : List (Nat × Array Value)} {x : Nat × Array Value} (_ : Hid (Own B (x :: l) v)) {w0 : World} {L0 : Array Bool} (c1 c2 c3 c4 c5 m1 : Nat) (slots : List Nat) (N : Nat) (J : List (Nat × Array Value) → Act → Nat → List (Option Nat) → Act → World → Prop) (hok : latOkP [false, false, false, false, false] md ops L0 [c1, c2, c3, c4, c5] [m1] = true)
    (hsl : (slots.all fun s => decide (s < a0.tmps.size)) = true) (h0 : ∀ A : Act, (∀ s, s ∈ slots → s < A.tmps.size) → J l A 0 (List.replicate 1 none) A w0)
    (hS : ∀ k p a w, J l a0 k p a w → S w)
    (k1 : ∀ p a w, J l a0 0 p a w → wpOp P ops Q c1 (fun b v => J l a0 1 p b v) a w)
    (k2 : ∀ p a w, J l a0 1 p a w → wpOp P ops Q c2 (fun b v => J l a0 2 p b v) a w)
    (k3 : ∀ p a w, J l a0 2 p a w → wpOp P ops Q c3 (fun b v => J l a0 3 p b v) a w)
    (k4 : ∀ p a w, J l a0 3 p a w → wpOp P ops Q c4 (fun b v => J l a0 4 p b v) a w)
    (k5 : ∀ p a w, J l a0 4 p a w → wpOp P ops Q c5 (fun b v => J l a0 5 p b v) a w)
    (n1 : ∀ k p a w, p[0]? = some none → J l a0 k p a w → wpOp P ops Q m1 (fun b v => ∃ q, J l a0 k (p.set 0 (some q)) b v) a w)
    (fin : ∀ q1 a w, J l a0 5 [some q1] a w → wpAnyV P md ops Q S [] N (lstOf L0 [c1, c2, c3, c4, c5] [m1] 5 [true]) a w) :
    wpAnyV P md ops Q S [] (N + 6) L0 a0 w0 := by
  refine latP_from (pl := [false, false, false, false, false]) [c1, c2, c3, c4, c5] [m1] slots N 6 (J l) hok rfl hsl h0 hS (fun k i p a w hk hn hJ => ?_) (fun k i p a w hk hn hJ => ?_) (fun k m i p a w hm hp hJ => ?_) (fun p a w hp hall hJ => ?_)
  · rcases k with _ | _ | _ | _ | _ | k
    · obtain rfl : c1 = i := by simpa using hk
      exact k1 p a w hJ
    · obtain rfl : c2 = i := by simpa using hk
      exact k2 p a w hJ
    · obtain rfl : c3 = i := by simpa using hk
      exact k3 p a w hJ
    · obtain rfl : c4 = i := by simpa using hk
      exact k4 p a w hJ
    · obtain rfl : c5 = i := by simpa using hk
      exact k5 p a w hJ
    · simp at hk
  · rcases k with _ | _ | _ | _ | _ | k
    · exact absurd hn (by decide)
    · exact absurd hn (by decide)
    · exact absurd hn (by decide)
    · exact absurd hn (by decide)
    · exact absurd hn (by decide)
    · simp at hk
  · rcases m with _ | m
    · obtain rfl : m1 = i := by simpa using hm
      exact n1 k p a w hp hJ
    · simp at hm
  · obtain ⟨q1, rfl⟩ := fin_one hp hall
    exact fin q1 a w hJ
theorem lpx_cccc_1 {a0 : Act} {B v : World} {l : List (Nat × Array Value)} {x : Nat × Array Value} (_ : Hid (Own B (x :: l) v)) {w0 : World} {L0 : Array Bool} (c1 c2 c3 c4 m1 : Nat) (slots : List Nat) (N : Nat) (J : List (Nat × Array Value) → Act → Nat → List (Option Nat) → Act → World → Prop) (hok : latOkP [false, false, false, false] md ops L0 [c1, c2, c3, c4] [m1] = true)
    (hsl : (slots.all fun s => decide (s < a0.tmps.size)) = true) (h0 : ∀ A : Act, (∀ s, s ∈ slots → s < A.tmps.size) → J l A 0 (List.replicate 1 none) A w0)
    (hS : ∀ k p a w, J l a0 k p a w → S w)
    (k1 : ∀ p a w, J l a0 0 p a w → wpOp P ops Q c1 (fun b v => J l a0 1 p b v) a w)
    (k2 : ∀ p a w, J l a0 1 p a w → wpOp P ops Q c2 (fun b v => J l a0 2 p b v) a w)
    (k3 : ∀ p a w, J l a0 2 p a w → wpOp P ops Q c3 (fun b v => J l a0 3 p b v) a w)
    (k4 : ∀ p a w, J l a0 3 p a w → wpOp P ops Q c4 (fun b v => J l a0 4 p b v) a w)
    (n1 : ∀ k p a w, p[0]? = some none → J l a0 k p a w → wpOp P ops Q m1 (fun b v => ∃ q, J l a0 k (p.set 0 (some q)) b v) a w)
    (fin : ∀ q1 a w, J l a0 4 [some q1] a w → wpAnyV P md ops Q S [] N (lstOf L0 [c1, c2, c3, c4] [m1] 4 [true]) a w) :
    wpAnyV P md ops Q S [] (N + 5) L0 a0 w0 := by
  refine latP_from (pl := [false, false, false, false]) [c1, c2, c3, c4] [m1] slots N 5 (J l) hok rfl hsl h0 hS (fun k i p a w hk hn hJ => ?_) (fun k i p a w hk hn hJ => ?_) (fun k m i p a w hm hp hJ => ?_) (fun p a w hp hall hJ => ?_)
  · rcases k with _ | _ | _ | _ | k
    · obtain rfl : c1 = i := by simpa using hk
      exact k1 p a w hJ
    · obtain rfl : c2 = i := by simpa using hk
      exact k2 p a w hJ
    · obtain rfl : c3 = i := by simpa using hk
      exact k3 p a w hJ
    · obtain rfl : c4 = i := by simpa using hk
      exact k4 p a w hJ
    · simp at hk
  · rcases k with _ | _ | _ | _ | k
    · exact absurd hn (by decide)
    · exact absurd hn (by decide)
    · exact absurd hn (by decide)
    · exact absurd hn (by decide)
    · simp at hk
  · rcases m with _ | m
    · obtain rfl : m1 = i := by simpa using hm
      exact n1 k p a w hp hJ
    · simp at hm
  · obtain ⟨q1, rfl⟩ := fin_one hp hall
    exact fin q1 a w hJ
end

/-- Region 2. -/
def gfJ2 (w : World) (dl dh : Nat) (l : RowL) (a0 : Act) (k : Nat) (p : List (Option Nat)) (a : Act) (v : World) : Prop :=
  ∃ y1 y2 y3 y4 y5 z1 : Value, a = ((((((a0.put (some 24) y1).put (some 25) y2).put (some 22) y3).put (some 26) y4).put (some 27) y5).put (some 7) z1) ∧ (0 < k → y1 = .agg #[.float .f64 4607182418800017408, .float .f64 4607182418800017408]) ∧ (1 < k → y2 = .tuple #[.agg #[.float .f64 dl, .float .f64 dh], .int .i64 0]) ∧ (2 < k → y3 = .tuple #[.agg #[.float .f64 dl, .float .f64 dh], .int .i64 0]) ∧ (3 < k → y4 = .agg #[.float .f64 dl, .float .f64 dh]) ∧ (4 < k → y5 = .int .i64 0) ∧ (∀ q, p[0]? = some (some q) → z1 = .pointer (some ⟨q, 0, none⟩)) ∧ OwnF w l [#[.float .f64 0, .float .f64 0]] p v
section
variable {w v : World} {dl dh : Nat} {l : RowL} {a0 a : Act} {p : List (Option Nat)}
theorem gfJ2_0 (h : gfJ2 w dl dh l a0 0 p a v) : ∃ y1 y2 y3 y4 y5 z1 : Value, a = ((((((a0.put (some 24) y1).put (some 25) y2).put (some 22) y3).put (some 26) y4).put (some 27) y5).put (some 7) z1) ∧ (∀ q, p[0]? = some (some q) → z1 = .pointer (some ⟨q, 0, none⟩)) ∧ OwnF w l [#[.float .f64 0, .float .f64 0]] p v := by
  obtain ⟨y1, y2, y3, y4, y5, z1, ha, E1, E2, E3, E4, E5, G1, h⟩ := h
  exact ⟨y1, y2, y3, y4, y5, z1, ha, G1, h⟩
theorem gfJ2_1 (h : gfJ2 w dl dh l a0 1 p a v) : ∃ y2 y3 y4 y5 z1 : Value, a = ((((((a0.put (some 24) (.agg #[.float .f64 4607182418800017408, .float .f64 4607182418800017408])).put (some 25) y2).put (some 22) y3).put (some 26) y4).put (some 27) y5).put (some 7) z1) ∧ (∀ q, p[0]? = some (some q) → z1 = .pointer (some ⟨q, 0, none⟩)) ∧ OwnF w l [#[.float .f64 0, .float .f64 0]] p v := by
  obtain ⟨y1, y2, y3, y4, y5, z1, ha, E1, E2, E3, E4, E5, G1, h⟩ := h
  obtain rfl := E1 (by decide)
  exact ⟨y2, y3, y4, y5, z1, ha, G1, h⟩
theorem gfJ2_2 (h : gfJ2 w dl dh l a0 2 p a v) : ∃ y3 y4 y5 z1 : Value, a = ((((((a0.put (some 24) (.agg #[.float .f64 4607182418800017408, .float .f64 4607182418800017408])).put (some 25) (.tuple #[.agg #[.float .f64 dl, .float .f64 dh], .int .i64 0])).put (some 22) y3).put (some 26) y4).put (some 27) y5).put (some 7) z1) ∧ (∀ q, p[0]? = some (some q) → z1 = .pointer (some ⟨q, 0, none⟩)) ∧ OwnF w l [#[.float .f64 0, .float .f64 0]] p v := by
  obtain ⟨y1, y2, y3, y4, y5, z1, ha, E1, E2, E3, E4, E5, G1, h⟩ := h
  obtain rfl := E1 (by decide)
  obtain rfl := E2 (by decide)
  exact ⟨y3, y4, y5, z1, ha, G1, h⟩
theorem gfJ2_3 (h : gfJ2 w dl dh l a0 3 p a v) : ∃ y4 y5 z1 : Value, a = ((((((a0.put (some 24) (.agg #[.float .f64 4607182418800017408, .float .f64 4607182418800017408])).put (some 25) (.tuple #[.agg #[.float .f64 dl, .float .f64 dh], .int .i64 0])).put (some 22) (.tuple #[.agg #[.float .f64 dl, .float .f64 dh], .int .i64 0])).put (some 26) y4).put (some 27) y5).put (some 7) z1) ∧ (∀ q, p[0]? = some (some q) → z1 = .pointer (some ⟨q, 0, none⟩)) ∧ OwnF w l [#[.float .f64 0, .float .f64 0]] p v := by
  obtain ⟨y1, y2, y3, y4, y5, z1, ha, E1, E2, E3, E4, E5, G1, h⟩ := h
  obtain rfl := E1 (by decide)
  obtain rfl := E2 (by decide)
  obtain rfl := E3 (by decide)
  exact ⟨y4, y5, z1, ha, G1, h⟩
theorem gfJ2_4 (h : gfJ2 w dl dh l a0 4 p a v) : ∃ y5 z1 : Value, a = ((((((a0.put (some 24) (.agg #[.float .f64 4607182418800017408, .float .f64 4607182418800017408])).put (some 25) (.tuple #[.agg #[.float .f64 dl, .float .f64 dh], .int .i64 0])).put (some 22) (.tuple #[.agg #[.float .f64 dl, .float .f64 dh], .int .i64 0])).put (some 26) (.agg #[.float .f64 dl, .float .f64 dh])).put (some 27) y5).put (some 7) z1) ∧ (∀ q, p[0]? = some (some q) → z1 = .pointer (some ⟨q, 0, none⟩)) ∧ OwnF w l [#[.float .f64 0, .float .f64 0]] p v := by
  obtain ⟨y1, y2, y3, y4, y5, z1, ha, E1, E2, E3, E4, E5, G1, h⟩ := h
  obtain rfl := E1 (by decide)
  obtain rfl := E2 (by decide)
  obtain rfl := E3 (by decide)
  obtain rfl := E4 (by decide)
  exact ⟨y5, z1, ha, G1, h⟩
theorem gfJ2_fin {q1 : Nat} (h : gfJ2 w dl dh l a0 5 [some q1] a v) : a = ((((((a0.put (some 24) (.agg #[.float .f64 4607182418800017408, .float .f64 4607182418800017408])).put (some 25) (.tuple #[.agg #[.float .f64 dl, .float .f64 dh], .int .i64 0])).put (some 22) (.tuple #[.agg #[.float .f64 dl, .float .f64 dh], .int .i64 0])).put (some 26) (.agg #[.float .f64 dl, .float .f64 dh])).put (some 27) (.int .i64 0)).put (some 7) (.pointer (some ⟨q1, 0, none⟩))) ∧ OwnF w l [#[.float .f64 0, .float .f64 0]] [some q1] v := by
  obtain ⟨y1, y2, y3, y4, y5, z1, ha, E1, E2, E3, E4, E5, G1, h⟩ := h
  obtain rfl := E1 (by decide)
  obtain rfl := E2 (by decide)
  obtain rfl := E3 (by decide)
  obtain rfl := E4 (by decide)
  obtain rfl := E5 (by decide)
  obtain rfl := G1 _ rfl
  exact ⟨ha, h⟩
end

/-- Region 6. -/
def gfJ6 (w : World) (pb : Nat) (mal mah mbl mbh mcl mch : Nat) (l : RowL) (a0 : Act) (k : Nat) (p : List (Option Nat)) (a : Act) (v : World) : Prop :=
  ∃ y1 y2 y3 y4 y5 z1 : Value, a = ((((((a0.put (some 45) y1).put (some 47) y2).put (some 49) y3).put (some 50) y4).put (some 51) y5).put (some 13) z1) ∧ (0 < k → y1 = .agg #[.float .f64 4611686018427387904, .float .f64 4611686018427387904]) ∧ (1 < k → y2 = .agg #[.float .f64 mal, .float .f64 mah]) ∧ (2 < k → y3 = .agg #[.float .f64 4607182418800017408, .float .f64 4607182418800017408]) ∧ (3 < k → y4 = .agg #[.float .f64 mbl, .float .f64 mbh]) ∧ (4 < k → y5 = .agg #[.float .f64 mcl, .float .f64 mch]) ∧ (∀ q, p[0]? = some (some q) → z1 = .pointer (some ⟨q, 0, none⟩)) ∧ OwnF w ((pb, #[.int .i64 0]) :: l) [#[.float .f64 0, .float .f64 0]] p v
section
variable {w v : World} {pb : Nat} {mal mah mbl mbh mcl mch : Nat} {l : RowL} {a0 a : Act} {p : List (Option Nat)}
theorem gfJ6_0 (h : gfJ6 w pb mal mah mbl mbh mcl mch l a0 0 p a v) : ∃ y1 y2 y3 y4 y5 z1 : Value, a = ((((((a0.put (some 45) y1).put (some 47) y2).put (some 49) y3).put (some 50) y4).put (some 51) y5).put (some 13) z1) ∧ (∀ q, p[0]? = some (some q) → z1 = .pointer (some ⟨q, 0, none⟩)) ∧ OwnF w ((pb, #[.int .i64 0]) :: l) [#[.float .f64 0, .float .f64 0]] p v := by
  obtain ⟨y1, y2, y3, y4, y5, z1, ha, E1, E2, E3, E4, E5, G1, h⟩ := h
  exact ⟨y1, y2, y3, y4, y5, z1, ha, G1, h⟩
theorem gfJ6_1 (h : gfJ6 w pb mal mah mbl mbh mcl mch l a0 1 p a v) : ∃ y2 y3 y4 y5 z1 : Value, a = ((((((a0.put (some 45) (.agg #[.float .f64 4611686018427387904, .float .f64 4611686018427387904])).put (some 47) y2).put (some 49) y3).put (some 50) y4).put (some 51) y5).put (some 13) z1) ∧ (∀ q, p[0]? = some (some q) → z1 = .pointer (some ⟨q, 0, none⟩)) ∧ OwnF w ((pb, #[.int .i64 0]) :: l) [#[.float .f64 0, .float .f64 0]] p v := by
  obtain ⟨y1, y2, y3, y4, y5, z1, ha, E1, E2, E3, E4, E5, G1, h⟩ := h
  obtain rfl := E1 (by decide)
  exact ⟨y2, y3, y4, y5, z1, ha, G1, h⟩
theorem gfJ6_2 (h : gfJ6 w pb mal mah mbl mbh mcl mch l a0 2 p a v) : ∃ y3 y4 y5 z1 : Value, a = ((((((a0.put (some 45) (.agg #[.float .f64 4611686018427387904, .float .f64 4611686018427387904])).put (some 47) (.agg #[.float .f64 mal, .float .f64 mah])).put (some 49) y3).put (some 50) y4).put (some 51) y5).put (some 13) z1) ∧ (∀ q, p[0]? = some (some q) → z1 = .pointer (some ⟨q, 0, none⟩)) ∧ OwnF w ((pb, #[.int .i64 0]) :: l) [#[.float .f64 0, .float .f64 0]] p v := by
  obtain ⟨y1, y2, y3, y4, y5, z1, ha, E1, E2, E3, E4, E5, G1, h⟩ := h
  obtain rfl := E1 (by decide)
  obtain rfl := E2 (by decide)
  exact ⟨y3, y4, y5, z1, ha, G1, h⟩
theorem gfJ6_3 (h : gfJ6 w pb mal mah mbl mbh mcl mch l a0 3 p a v) : ∃ y4 y5 z1 : Value, a = ((((((a0.put (some 45) (.agg #[.float .f64 4611686018427387904, .float .f64 4611686018427387904])).put (some 47) (.agg #[.float .f64 mal, .float .f64 mah])).put (some 49) (.agg #[.float .f64 4607182418800017408, .float .f64 4607182418800017408])).put (some 50) y4).put (some 51) y5).put (some 13) z1) ∧ (∀ q, p[0]? = some (some q) → z1 = .pointer (some ⟨q, 0, none⟩)) ∧ OwnF w ((pb, #[.int .i64 0]) :: l) [#[.float .f64 0, .float .f64 0]] p v := by
  obtain ⟨y1, y2, y3, y4, y5, z1, ha, E1, E2, E3, E4, E5, G1, h⟩ := h
  obtain rfl := E1 (by decide)
  obtain rfl := E2 (by decide)
  obtain rfl := E3 (by decide)
  exact ⟨y4, y5, z1, ha, G1, h⟩
theorem gfJ6_4 (h : gfJ6 w pb mal mah mbl mbh mcl mch l a0 4 p a v) : ∃ y5 z1 : Value, a = ((((((a0.put (some 45) (.agg #[.float .f64 4611686018427387904, .float .f64 4611686018427387904])).put (some 47) (.agg #[.float .f64 mal, .float .f64 mah])).put (some 49) (.agg #[.float .f64 4607182418800017408, .float .f64 4607182418800017408])).put (some 50) (.agg #[.float .f64 mbl, .float .f64 mbh])).put (some 51) y5).put (some 13) z1) ∧ (∀ q, p[0]? = some (some q) → z1 = .pointer (some ⟨q, 0, none⟩)) ∧ OwnF w ((pb, #[.int .i64 0]) :: l) [#[.float .f64 0, .float .f64 0]] p v := by
  obtain ⟨y1, y2, y3, y4, y5, z1, ha, E1, E2, E3, E4, E5, G1, h⟩ := h
  obtain rfl := E1 (by decide)
  obtain rfl := E2 (by decide)
  obtain rfl := E3 (by decide)
  obtain rfl := E4 (by decide)
  exact ⟨y5, z1, ha, G1, h⟩
theorem gfJ6_fin {q1 : Nat} (h : gfJ6 w pb mal mah mbl mbh mcl mch l a0 5 [some q1] a v) : a = ((((((a0.put (some 45) (.agg #[.float .f64 4611686018427387904, .float .f64 4611686018427387904])).put (some 47) (.agg #[.float .f64 mal, .float .f64 mah])).put (some 49) (.agg #[.float .f64 4607182418800017408, .float .f64 4607182418800017408])).put (some 50) (.agg #[.float .f64 mbl, .float .f64 mbh])).put (some 51) (.agg #[.float .f64 mcl, .float .f64 mch])).put (some 13) (.pointer (some ⟨q1, 0, none⟩))) ∧ OwnF w ((pb, #[.int .i64 0]) :: l) [#[.float .f64 0, .float .f64 0]] [some q1] v := by
  obtain ⟨y1, y2, y3, y4, y5, z1, ha, E1, E2, E3, E4, E5, G1, h⟩ := h
  obtain rfl := E1 (by decide)
  obtain rfl := E2 (by decide)
  obtain rfl := E3 (by decide)
  obtain rfl := E4 (by decide)
  obtain rfl := E5 (by decide)
  obtain rfl := G1 _ rfl
  exact ⟨ha, h⟩
end

/-- Region 7. -/
def gfJ7 (w : World) (pb : Nat) (nal nah nbl nbh ncl nch : Nat) (l : RowL) (a0 : Act) (k : Nat) (p : List (Option Nat)) (a : Act) (v : World) : Prop :=
  ∃ y1 y2 y3 y4 z1 : Value, a = (((((a0.put (some 55) y1).put (some 58) y2).put (some 59) y3).put (some 60) y4).put (some 14) z1) ∧ (0 < k → y1 = .agg #[.float .f64 4607182418800017408, .float .f64 4607182418800017408]) ∧ (1 < k → y2 = .agg #[.float .f64 nal, .float .f64 nah]) ∧ (2 < k → y3 = .agg #[.float .f64 nbl, .float .f64 nbh]) ∧ (3 < k → y4 = .agg #[.float .f64 ncl, .float .f64 nch]) ∧ (∀ q, p[0]? = some (some q) → z1 = .pointer (some ⟨q, 0, none⟩)) ∧ OwnF w ((pb, #[.int .i64 0]) :: l) [#[.float .f64 0, .float .f64 0]] p v
section
variable {w v : World} {pb : Nat} {nal nah nbl nbh ncl nch : Nat} {l : RowL} {a0 a : Act} {p : List (Option Nat)}
theorem gfJ7_0 (h : gfJ7 w pb nal nah nbl nbh ncl nch l a0 0 p a v) : ∃ y1 y2 y3 y4 z1 : Value, a = (((((a0.put (some 55) y1).put (some 58) y2).put (some 59) y3).put (some 60) y4).put (some 14) z1) ∧ (∀ q, p[0]? = some (some q) → z1 = .pointer (some ⟨q, 0, none⟩)) ∧ OwnF w ((pb, #[.int .i64 0]) :: l) [#[.float .f64 0, .float .f64 0]] p v := by
  obtain ⟨y1, y2, y3, y4, z1, ha, E1, E2, E3, E4, G1, h⟩ := h
  exact ⟨y1, y2, y3, y4, z1, ha, G1, h⟩
theorem gfJ7_1 (h : gfJ7 w pb nal nah nbl nbh ncl nch l a0 1 p a v) : ∃ y2 y3 y4 z1 : Value, a = (((((a0.put (some 55) (.agg #[.float .f64 4607182418800017408, .float .f64 4607182418800017408])).put (some 58) y2).put (some 59) y3).put (some 60) y4).put (some 14) z1) ∧ (∀ q, p[0]? = some (some q) → z1 = .pointer (some ⟨q, 0, none⟩)) ∧ OwnF w ((pb, #[.int .i64 0]) :: l) [#[.float .f64 0, .float .f64 0]] p v := by
  obtain ⟨y1, y2, y3, y4, z1, ha, E1, E2, E3, E4, G1, h⟩ := h
  obtain rfl := E1 (by decide)
  exact ⟨y2, y3, y4, z1, ha, G1, h⟩
theorem gfJ7_2 (h : gfJ7 w pb nal nah nbl nbh ncl nch l a0 2 p a v) : ∃ y3 y4 z1 : Value, a = (((((a0.put (some 55) (.agg #[.float .f64 4607182418800017408, .float .f64 4607182418800017408])).put (some 58) (.agg #[.float .f64 nal, .float .f64 nah])).put (some 59) y3).put (some 60) y4).put (some 14) z1) ∧ (∀ q, p[0]? = some (some q) → z1 = .pointer (some ⟨q, 0, none⟩)) ∧ OwnF w ((pb, #[.int .i64 0]) :: l) [#[.float .f64 0, .float .f64 0]] p v := by
  obtain ⟨y1, y2, y3, y4, z1, ha, E1, E2, E3, E4, G1, h⟩ := h
  obtain rfl := E1 (by decide)
  obtain rfl := E2 (by decide)
  exact ⟨y3, y4, z1, ha, G1, h⟩
theorem gfJ7_3 (h : gfJ7 w pb nal nah nbl nbh ncl nch l a0 3 p a v) : ∃ y4 z1 : Value, a = (((((a0.put (some 55) (.agg #[.float .f64 4607182418800017408, .float .f64 4607182418800017408])).put (some 58) (.agg #[.float .f64 nal, .float .f64 nah])).put (some 59) (.agg #[.float .f64 nbl, .float .f64 nbh])).put (some 60) y4).put (some 14) z1) ∧ (∀ q, p[0]? = some (some q) → z1 = .pointer (some ⟨q, 0, none⟩)) ∧ OwnF w ((pb, #[.int .i64 0]) :: l) [#[.float .f64 0, .float .f64 0]] p v := by
  obtain ⟨y1, y2, y3, y4, z1, ha, E1, E2, E3, E4, G1, h⟩ := h
  obtain rfl := E1 (by decide)
  obtain rfl := E2 (by decide)
  obtain rfl := E3 (by decide)
  exact ⟨y4, z1, ha, G1, h⟩
theorem gfJ7_fin {q1 : Nat} (h : gfJ7 w pb nal nah nbl nbh ncl nch l a0 4 [some q1] a v) : a = (((((a0.put (some 55) (.agg #[.float .f64 4607182418800017408, .float .f64 4607182418800017408])).put (some 58) (.agg #[.float .f64 nal, .float .f64 nah])).put (some 59) (.agg #[.float .f64 nbl, .float .f64 nbh])).put (some 60) (.agg #[.float .f64 ncl, .float .f64 nch])).put (some 14) (.pointer (some ⟨q1, 0, none⟩))) ∧ OwnF w ((pb, #[.int .i64 0]) :: l) [#[.float .f64 0, .float .f64 0]] [some q1] v := by
  obtain ⟨y1, y2, y3, y4, z1, ha, E1, E2, E3, E4, G1, h⟩ := h
  obtain rfl := E1 (by decide)
  obtain rfl := E2 (by decide)
  obtain rfl := E3 (by decide)
  obtain rfl := E4 (by decide)
  obtain rfl := G1 _ rfl
  exact ⟨ha, h⟩
end

/-- Region 8. -/
def gfJ8 (w : World) (pb : Nat) (oal oah obl obh ocl och odl odh : Nat) (l : RowL) (a0 : Act) (k : Nat) (p : List (Option Nat)) (a : Act) (v : World) : Prop :=
  ∃ y1 y2 y3 y4 y5 z1 : Value, a = ((((((a0.put (some 63) y1).put (some 70) y2).put (some 71) y3).put (some 72) y4).put (some 73) y5).put (some 15) z1) ∧ (0 < k → y1 = .agg #[.float .f64 4607182418800017408, .float .f64 4607182418800017408]) ∧ (1 < k → y2 = .agg #[.float .f64 oal, .float .f64 oah]) ∧ (2 < k → y3 = .agg #[.float .f64 obl, .float .f64 obh]) ∧ (3 < k → y4 = .agg #[.float .f64 ocl, .float .f64 och]) ∧ (4 < k → y5 = .agg #[.float .f64 odl, .float .f64 odh]) ∧ (∀ q, p[0]? = some (some q) → z1 = .pointer (some ⟨q, 0, none⟩)) ∧ OwnF w ((pb, #[.int .i64 0]) :: l) [#[.float .f64 0, .float .f64 0]] p v
section
variable {w v : World} {pb : Nat} {oal oah obl obh ocl och odl odh : Nat} {l : RowL} {a0 a : Act} {p : List (Option Nat)}
theorem gfJ8_0 (h : gfJ8 w pb oal oah obl obh ocl och odl odh l a0 0 p a v) : ∃ y1 y2 y3 y4 y5 z1 : Value, a = ((((((a0.put (some 63) y1).put (some 70) y2).put (some 71) y3).put (some 72) y4).put (some 73) y5).put (some 15) z1) ∧ (∀ q, p[0]? = some (some q) → z1 = .pointer (some ⟨q, 0, none⟩)) ∧ OwnF w ((pb, #[.int .i64 0]) :: l) [#[.float .f64 0, .float .f64 0]] p v := by
  obtain ⟨y1, y2, y3, y4, y5, z1, ha, E1, E2, E3, E4, E5, G1, h⟩ := h
  exact ⟨y1, y2, y3, y4, y5, z1, ha, G1, h⟩
theorem gfJ8_1 (h : gfJ8 w pb oal oah obl obh ocl och odl odh l a0 1 p a v) : ∃ y2 y3 y4 y5 z1 : Value, a = ((((((a0.put (some 63) (.agg #[.float .f64 4607182418800017408, .float .f64 4607182418800017408])).put (some 70) y2).put (some 71) y3).put (some 72) y4).put (some 73) y5).put (some 15) z1) ∧ (∀ q, p[0]? = some (some q) → z1 = .pointer (some ⟨q, 0, none⟩)) ∧ OwnF w ((pb, #[.int .i64 0]) :: l) [#[.float .f64 0, .float .f64 0]] p v := by
  obtain ⟨y1, y2, y3, y4, y5, z1, ha, E1, E2, E3, E4, E5, G1, h⟩ := h
  obtain rfl := E1 (by decide)
  exact ⟨y2, y3, y4, y5, z1, ha, G1, h⟩
theorem gfJ8_2 (h : gfJ8 w pb oal oah obl obh ocl och odl odh l a0 2 p a v) : ∃ y3 y4 y5 z1 : Value, a = ((((((a0.put (some 63) (.agg #[.float .f64 4607182418800017408, .float .f64 4607182418800017408])).put (some 70) (.agg #[.float .f64 oal, .float .f64 oah])).put (some 71) y3).put (some 72) y4).put (some 73) y5).put (some 15) z1) ∧ (∀ q, p[0]? = some (some q) → z1 = .pointer (some ⟨q, 0, none⟩)) ∧ OwnF w ((pb, #[.int .i64 0]) :: l) [#[.float .f64 0, .float .f64 0]] p v := by
  obtain ⟨y1, y2, y3, y4, y5, z1, ha, E1, E2, E3, E4, E5, G1, h⟩ := h
  obtain rfl := E1 (by decide)
  obtain rfl := E2 (by decide)
  exact ⟨y3, y4, y5, z1, ha, G1, h⟩
theorem gfJ8_3 (h : gfJ8 w pb oal oah obl obh ocl och odl odh l a0 3 p a v) : ∃ y4 y5 z1 : Value, a = ((((((a0.put (some 63) (.agg #[.float .f64 4607182418800017408, .float .f64 4607182418800017408])).put (some 70) (.agg #[.float .f64 oal, .float .f64 oah])).put (some 71) (.agg #[.float .f64 obl, .float .f64 obh])).put (some 72) y4).put (some 73) y5).put (some 15) z1) ∧ (∀ q, p[0]? = some (some q) → z1 = .pointer (some ⟨q, 0, none⟩)) ∧ OwnF w ((pb, #[.int .i64 0]) :: l) [#[.float .f64 0, .float .f64 0]] p v := by
  obtain ⟨y1, y2, y3, y4, y5, z1, ha, E1, E2, E3, E4, E5, G1, h⟩ := h
  obtain rfl := E1 (by decide)
  obtain rfl := E2 (by decide)
  obtain rfl := E3 (by decide)
  exact ⟨y4, y5, z1, ha, G1, h⟩
theorem gfJ8_4 (h : gfJ8 w pb oal oah obl obh ocl och odl odh l a0 4 p a v) : ∃ y5 z1 : Value, a = ((((((a0.put (some 63) (.agg #[.float .f64 4607182418800017408, .float .f64 4607182418800017408])).put (some 70) (.agg #[.float .f64 oal, .float .f64 oah])).put (some 71) (.agg #[.float .f64 obl, .float .f64 obh])).put (some 72) (.agg #[.float .f64 ocl, .float .f64 och])).put (some 73) y5).put (some 15) z1) ∧ (∀ q, p[0]? = some (some q) → z1 = .pointer (some ⟨q, 0, none⟩)) ∧ OwnF w ((pb, #[.int .i64 0]) :: l) [#[.float .f64 0, .float .f64 0]] p v := by
  obtain ⟨y1, y2, y3, y4, y5, z1, ha, E1, E2, E3, E4, E5, G1, h⟩ := h
  obtain rfl := E1 (by decide)
  obtain rfl := E2 (by decide)
  obtain rfl := E3 (by decide)
  obtain rfl := E4 (by decide)
  exact ⟨y5, z1, ha, G1, h⟩
theorem gfJ8_fin {q1 : Nat} (h : gfJ8 w pb oal oah obl obh ocl och odl odh l a0 5 [some q1] a v) : a = ((((((a0.put (some 63) (.agg #[.float .f64 4607182418800017408, .float .f64 4607182418800017408])).put (some 70) (.agg #[.float .f64 oal, .float .f64 oah])).put (some 71) (.agg #[.float .f64 obl, .float .f64 obh])).put (some 72) (.agg #[.float .f64 ocl, .float .f64 och])).put (some 73) (.agg #[.float .f64 odl, .float .f64 odh])).put (some 15) (.pointer (some ⟨q1, 0, none⟩))) ∧ OwnF w ((pb, #[.int .i64 0]) :: l) [#[.float .f64 0, .float .f64 0]] [some q1] v := by
  obtain ⟨y1, y2, y3, y4, y5, z1, ha, E1, E2, E3, E4, E5, G1, h⟩ := h
  obtain rfl := E1 (by decide)
  obtain rfl := E2 (by decide)
  obtain rfl := E3 (by decide)
  obtain rfl := E4 (by decide)
  obtain rfl := E5 (by decide)
  obtain rfl := G1 _ rfl
  exact ⟨ha, h⟩
end

set_option maxRecDepth 100000 in
set_option maxHeartbeats 16000000 in
theorem gflat_law {u0 v0 c a dl dh ll lh fl fh mal mah mbl mbh mcl mch nal nah nbl nbh ncl nch oal oah obl obh ocl och odl odh : Nat} (w : World)
    (c1 : Hid (∀ w, Calls Try.prog 16 #[.float .f64 4571153621781053440, .float .f64 4607182418800017408, .int .u32 u0] w fun r w' => r = .returned (.float .f64 c) ∧ w = w'))
    (c2 : Hid (∀ w, Calls Try.prog 15 #[.float .f64 c] w fun r w' => r = .returned (.agg #[.float .f64 c, .float .f64 c]) ∧ Below w.heap.size w w'))
    (c3 : Hid (∀ w, Calls Try.prog 16 #[.float .f64 4584664420663164928, .float .f64 4607182418800017408, .int .u32 v0] w fun r w' => r = .returned (.float .f64 a) ∧ w = w'))
    (c4 : Hid (∀ w, Calls Try.prog 15 #[.float .f64 a] w fun r w' => r = .returned (.agg #[.float .f64 a, .float .f64 a]) ∧ Below w.heap.size w w'))
    (c5 : Hid (∀ w, Calls Try.prog 15 #[.float .f64 4607182418800017408] w fun r w' => r = .returned (.agg #[.float .f64 4607182418800017408, .float .f64 4607182418800017408]) ∧ Below w.heap.size w w'))
    (c6 : Hid (∀ w, Calls Try.prog 21 #[.agg #[.float .f64 c, .float .f64 c], .agg #[.float .f64 4607182418800017408, .float .f64 4607182418800017408]] w fun r w' => r = .returned (.tuple #[.agg #[.float .f64 dl, .float .f64 dh], .int .i64 0]) ∧ Below w.heap.size w w'))
    (c7 : Hid (∀ w, Calls Try.prog 32 #[.agg #[.float .f64 c, .float .f64 c], .agg #[.float .f64 a, .float .f64 a]] w fun r w' => r = .returned (.tuple #[.agg #[.float .f64 ll, .float .f64 lh], .int .i64 0]) ∧ Below w.heap.size w w'))
    (d8 : Hid (KN 19 0 0 4607182418800017408 4607182418800017408 4607182418800017408))
    (c9 : Hid (∀ w, Calls Try.prog 20 #[] w fun r w' => r = .returned (.agg #[.float .f64 4614256656552045848, .float .f64 4614256656552045849]) ∧ Below w.heap.size w w'))
    (d10 : Hid (K2 33 0 0 4607182418800017408 4607182418800017408 4614256656552045848 4614256656552045849 fl fh))
    (d11 : Hid (KN 19 0 0 4611686018427387904 4611686018427387904 4611686018427387904))
    (d12 : Hid (K2 18 0 0 4611686018427387904 4611686018427387904 ll lh mal mah))
    (d14 : Hid (K2 23 0 0 mal mah 4607182418800017408 4607182418800017408 mbl mbh))
    (d15 : Hid (K1 34 0 0 mbl mbh mcl mch))
    (d17 : Hid (K1 34 0 0 c c nal nah))
    (d18 : Hid (K2 22 0 0 4607182418800017408 4607182418800017408 nal nah nbl nbh))
    (d19 : Hid (K1 35 0 0 nbl nbh ncl nch))
    (d21 : Hid (K2 33 0 0 ncl nch c c oal oah))
    (d22 : Hid (K2 18 0 0 a a oal oah obl obh))
    (d23 : Hid (K1 34 0 0 obl obh ocl och))
    (d24 : Hid (K2 23 0 0 4607182418800017408 4607182418800017408 ocl och odl odh))
    (c26 : Hid (∀ w, Calls Try.prog 27 #[.agg #[.float .f64 dl, .float .f64 dh], .agg #[.float .f64 fl, .float .f64 fh]] w fun r w' => r = .returned (.bool true) ∧ Below w.heap.size w w'))
    (c27 : Hid (∀ w, Calls Try.prog 27 #[.agg #[.float .f64 mcl, .float .f64 mch], .agg #[.float .f64 odl, .float .f64 odh]] w fun r w' => r = .returned (.bool true) ∧ Below w.heap.size w w'))
    (o_geqll_0 : (((FloatKind.f64.format.order ll 0 == some Ordering.gt) || (FloatKind.f64.format.order ll 0 == some Ordering.eq)) = true))
    (c28 : Hid (∀ w, Calls Try.prog 24 #[] w fun r w' => r = .returned (.bool true) ∧ Below w.heap.size w w')) :
    Calls Try.prog 7 #[.int .u32 u0, .int .u32 v0] w fun r w' => r = .returned (.bool true) ∧ Below w.heap.size w w' := by
  have M := Lib.hid (Own.nil w)
  have eqF := eq_floats
  go_enter Try.func7, Try.ntmps7
  go_wp2_with fail
  refine (c1.out _).mono ?_
  rintro r w1_ ⟨rfl, rfl⟩
  go_wp2_with fail
  refine (c2.out _).mono ?_
  rintro r w2_ ⟨rfl, hb⟩
  replace M := Lib.hid (M.out.below hb)
  clear hb
  go_wp2_with fail
  refine (c3.out _).mono ?_
  rintro r w3_ ⟨rfl, rfl⟩
  go_wp2_with fail
  refine (c4.out _).mono ?_
  rintro r w4_ ⟨rfl, hb⟩
  replace M := Lib.hid (M.out.below hb)
  clear hb
  replace M := Lib.hid (M.out.made #[.float .f64 c, .float .f64 c] 27)
  replace M := Lib.hid (M.out.made #[.float .f64 a, .float .f64 a] 27)
  simp only [World.size_alloc] at M
  go_upto_region 2 with fail
  replace M := Lib.hid M.out.drew
  revert M
  generalize ((w4_.alloc (.cells #[.float .f64 c, .float .f64 c] 27)).alloc (.cells #[.float .f64 a, .float .f64 a] 27)) = W5_
  intro M
  refine wp_region_noPanic ?_
  refine tails_region (S := fun w' => (w'.cell? ⟨w4_.heap.size, 0, none⟩ = some (.float .f64 c) ∧ w'.cell? ⟨w4_.heap.size, 1, none⟩ = some (.float .f64 c))) [] (by kernel_rfl) ?_ (fun hS => ?_)
  · exact (M.out.nth 1 rfl).two
  refine tk (x := ?_) 0 rfl (by kernel_rfl) ⟨by kernel_rfl, ?_⟩ (fun _ _ _ h => h) hS ?_
  rotate_left; focus (intro w hSw; (try dsimp only at hSw); go_simp; try with_reducible rfl)
  conv => arg 9; simp only [Act.put, go_sem]
  refine lp_ccppp_1 M 1 2 3 4 5 6 [24, 25, 22, 26, 27, 7] 2 (gfJ2 w dl dh) (by kernel_rfl) (by kernel_rfl) ?_ ?_ ?_ ?_ ?_ ?_ ?_ ?_ ?_
  · intro A hA
    obtain ⟨y1, hq1⟩ := put_ex (hA 24 (by simp))
    obtain ⟨y2, hq2⟩ := put_ex (hA 25 (by simp))
    obtain ⟨y3, hq3⟩ := put_ex (hA 22 (by simp))
    obtain ⟨y4, hq4⟩ := put_ex (hA 26 (by simp))
    obtain ⟨y5, hq5⟩ := put_ex (hA 27 (by simp))
    obtain ⟨z1, hq6⟩ := put_ex (hA 7 (by simp))
    exact ⟨y1, y2, y3, y4, y5, z1, by rw [hq1, hq2, hq3, hq4, hq5, hq6], by omega, by omega, by omega, by omega, by omega, by simp, OwnF.start M.out 1⟩
  · rintro k p a v ⟨y1, y2, y3, y4, y5, z1, _, _, _, _, _, _, _, h⟩
    exact (h.own.nth 1 rfl).two
  · intro p a v hJ
    refine op_step (o := _) rfl (fun K hK => ?_)
    obtain ⟨y1, y2, y3, y4, y5, z1, ha, gg1, h⟩ := gfJ2_0 hJ
    have h := Lib.hid h
    clear hJ
    subst ha
    go_simp
    refine (c5.out _).mono ?_
    rintro rr w5 ⟨rfl, hp⟩
    try go_wp2_with fail
    refine hK.out _ _ ⟨_, y2, y3, y4, y5, z1, ?_, fun _ => rfl, by omega, by omega, by omega, by omega, gg1, h.out.below hp⟩
    kernel_rfl
  · intro p a v hJ
    refine op_step (o := _) rfl (fun K hK => ?_)
    obtain ⟨y2, y3, y4, y5, z1, ha, gg1, h⟩ := gfJ2_1 hJ
    have h := Lib.hid h
    clear hJ
    subst ha
    go_simp
    refine (c6.out _).mono ?_
    rintro rr w5 ⟨rfl, hp⟩
    try go_wp2_with fail
    refine hK.out _ _ ⟨_, _, y3, y4, y5, z1, ?_, fun _ => rfl, fun _ => rfl, by omega, by omega, by omega, gg1, h.out.below hp⟩
    kernel_rfl
  · intro p a v hJ
    replace hJ := gfJ2_2 hJ
    refine Exists.elim hJ (fun y3 hJ => ?_)
    refine Exists.elim hJ (fun y4 hJ => ?_)
    refine Exists.elim hJ (fun y5 hJ => ?_)
    refine Exists.elim hJ (fun z1 hJ => ?_)
    have ha := hJ.1
    have gg1 := hJ.2.1
    have h := hJ.2.2
    clear hJ
    subst ha
    refine ⟨_, .tuple #[.agg #[.float .f64 dl, .float .f64 dh], .int .i64 0], rfl, Or.inl ⟨by kernel_rfl, ?_⟩, (fun _ _ _ h => h), _, _, _, y4, y5, z1, ?_, fun _ => rfl, fun _ => rfl, fun _ => rfl, by omega, by omega, gg1, h⟩
    · intro w hSw; clear hSw h; go_simp; try with_reducible rfl
    · kernel_rfl
  · intro p a v hJ
    replace hJ := gfJ2_3 hJ
    refine Exists.elim hJ (fun y4 hJ => ?_)
    refine Exists.elim hJ (fun y5 hJ => ?_)
    refine Exists.elim hJ (fun z1 hJ => ?_)
    have ha := hJ.1
    have gg1 := hJ.2.1
    have h := hJ.2.2
    clear hJ
    subst ha
    refine ⟨_, .agg #[.float .f64 dl, .float .f64 dh], rfl, Or.inl ⟨by kernel_rfl, ?_⟩, (fun _ _ _ h => h), _, _, _, _, y5, z1, ?_, fun _ => rfl, fun _ => rfl, fun _ => rfl, fun _ => rfl, by omega, gg1, h⟩
    · intro w hSw; clear hSw h; go_simp; try with_reducible rfl
    · kernel_rfl
  · intro p a v hJ
    replace hJ := gfJ2_4 hJ
    refine Exists.elim hJ (fun y5 hJ => ?_)
    refine Exists.elim hJ (fun z1 hJ => ?_)
    have ha := hJ.1
    have gg1 := hJ.2.1
    have h := hJ.2.2
    clear hJ
    subst ha
    refine ⟨_, .int .i64 0, rfl, Or.inl ⟨by kernel_rfl, ?_⟩, (fun _ _ _ h => h), _, _, _, _, _, z1, ?_, fun _ => rfl, fun _ => rfl, fun _ => rfl, fun _ => rfl, fun _ => rfl, gg1, h⟩
    · intro w hSw; clear hSw h; go_simp; try with_reducible rfl
    · kernel_rfl
  · intro k p a v hp hJ
    refine op_step (o := _) rfl (fun K hK => ?_)
    obtain ⟨y1, y2, y3, y4, y5, z1, ha, ee1, ee2, ee3, ee4, ee5, gg1, h⟩ := hJ
    have h := Lib.hid h
    subst ha
    go_simp
    refine hK.out _ _ ⟨v.heap.size, y1, y2, y3, y4, y5, .pointer (some ⟨v.heap.size, 0, none⟩), ?_, ee1, ee2, ee3, ee4, ee5, fun q hq => ptr_set hq, h.out.alloc hp rfl _⟩
    kernel_rfl
  intro p2_1 a v hJ
  obtain ⟨rfl, h⟩ := gfJ2_fin hJ
  clear hJ
  replace M := Lib.hid h.fin1
  clear h
  refine tails_one (T := []) (i := 7) (o := _) rfl (by kernel_rfl) (fun K hK => ?_)
  have kc := (M.out.nth 0 rfl).2.1
  have kf := (M.out.nth 0 rfl).2.2
  replace M : Hid (Own w [(p2_1, #[.float .f64 dl, .float .f64 dh]), ((w4_.heap.size + 1), #[.float .f64 a, .float .f64 a]), (w4_.heap.size, #[.float .f64 c, .float .f64 c])] _) := Lib.hid (M.out.set2 0 rfl (.float .f64 dl) (.float .f64 dh))
  go_simp
  refine hK.out _ _ (Or.inr (M.out.nth 2 rfl).two) (fun hHeld => ?_)
  clear hK K hHeld kc kf
  refine tails_one (T := []) (i := 8) (o := _) rfl (by kernel_rfl) (fun K hK => ?_)
  go_simp
  refine hK.out _ _ (Or.inr (M.out.nth 2 rfl).two) (fun hHeld => ?_)
  clear hK K hHeld
  refine tails_done (by kernel_rfl) ?_ _
  refine NoPanic.normal ?_
  clear hS
  revert M
  generalize ((v.setCell ⟨p2_1, 0, none⟩ (.float .f64 dl)).setCell ⟨p2_1, 1, none⟩ (.float .f64 dh)) = W6_
  intro M
  obtain ⟨k1, k2⟩ := (M.out.nth 2 rfl).two
  obtain ⟨k3, k4⟩ := (M.out.nth 1 rfl).two
  go_wp2_with fail
  refine (c7.out _).mono ?_
  rintro r w7_ ⟨rfl, hb⟩
  replace M := Lib.hid (M.out.below hb)
  clear hb
  clear k1 k2 k3 k4
  replace M := Lib.hid (M.out.made #[.float .f64 ll, .float .f64 lh] 27)
  replace M := Lib.hid (M.out.made #[.int .i64 0] 38)
  simp only [World.size_alloc] at M
  go_wp2_with fail
  refine (d8.out _ _ (M.out.nth 0 rfl)).mono ?_
  rintro r w8_ ⟨rfl, hb⟩
  replace M : Hid (Own w [((w7_.heap.size + 1), #[.int .i64 0]), (w7_.heap.size, #[.float .f64 ll, .float .f64 lh]), (p2_1, #[.float .f64 dl, .float .f64 dh]), ((w4_.heap.size + 1), #[.float .f64 a, .float .f64 a]), (w4_.heap.size, #[.float .f64 c, .float .f64 c])] w8_) := Lib.hid (M.out.putAt 0 rfl hb)
  clear hb
  go_wp2_with fail
  refine (c9.out _).mono ?_
  rintro r w9_ ⟨rfl, hb⟩
  replace M := Lib.hid (M.out.below hb)
  clear hb
  go_wp2_with fail
  refine (d10.out _ _ (M.out.nth 0 rfl)).mono ?_
  rintro r w10_ ⟨rfl, hb⟩
  replace M : Hid (Own w [((w7_.heap.size + 1), #[.int .i64 0]), (w7_.heap.size, #[.float .f64 ll, .float .f64 lh]), (p2_1, #[.float .f64 dl, .float .f64 dh]), ((w4_.heap.size + 1), #[.float .f64 a, .float .f64 a]), (w4_.heap.size, #[.float .f64 c, .float .f64 c])] w10_) := Lib.hid (M.out.putAt 0 rfl hb)
  clear hb
  replace M := Lib.hid (M.out.made #[.float .f64 fl, .float .f64 fh] 27).front
  go_upto_region 6 with fail
  replace M := Lib.hid M.out.drew
  revert M
  generalize (w10_.alloc (.cells #[.float .f64 fl, .float .f64 fh] 27)) = W11_
  intro M
  refine wp_region_noPanic ?_
  refine tails_region (S := fun w' => (w'.cell? ⟨w7_.heap.size, 0, none⟩ = some (.float .f64 ll) ∧ w'.cell? ⟨w7_.heap.size, 1, none⟩ = some (.float .f64 lh))) [] (by kernel_rfl) ?_ (fun hS => ?_)
  · exact (M.out.nth 2 rfl).two
  refine tk (x := ?_) 0 rfl (by kernel_rfl) ⟨by kernel_rfl, ?_⟩ (fun _ _ _ h => h) hS ?_
  rotate_left; focus (intro w hSw; (try dsimp only at hSw); go_simp; try with_reducible rfl)
  refine tk (x := ?_) 1 rfl (by kernel_rfl) ⟨by kernel_rfl, ?_⟩ (fun _ _ _ h => h) hS ?_
  rotate_left; focus (intro w hSw; (try dsimp only at hSw); go_simp; try with_reducible rfl)
  refine tk (x := ?_) 2 rfl (by kernel_rfl) ⟨by kernel_rfl, ?_⟩ (fun _ _ _ h => h) hS ?_
  rotate_left; focus (intro w hSw; (try dsimp only at hSw); go_simp; try with_reducible rfl)
  refine tk (x := ?_) 3 rfl (by kernel_rfl) ⟨by kernel_rfl, ?_⟩ (fun _ _ _ h => h) hS ?_
  rotate_left; focus (intro w hSw; (try dsimp only at hSw); go_simp; try with_reducible rfl)
  refine tk (x := ?_) 5 rfl (by kernel_rfl) ⟨by kernel_rfl, ?_⟩ (fun _ _ _ h => h) hS ?_
  rotate_left; focus (intro w hSw; (try dsimp only at hSw); go_simp; try with_reducible rfl)
  refine tk (x := ?_) 7 rfl (by kernel_rfl) ⟨by kernel_rfl, ?_⟩ (fun _ _ _ h => h) hS ?_
  rotate_left; focus (intro w hSw; (try dsimp only at hSw); go_simp; try with_reducible rfl)
  conv => arg 9; simp only [Act.put, go_sem]
  refine lpx_ccccc_1 M 4 6 8 9 10 11 [45, 47, 49, 50, 51, 13] 1 (gfJ6 w (w7_.heap.size + 1) mal mah mbl mbh mcl mch) (by kernel_rfl) (by kernel_rfl) ?_ ?_ ?_ ?_ ?_ ?_ ?_ ?_ ?_
  · intro A hA
    obtain ⟨y1, hq1⟩ := put_ex (hA 45 (by simp))
    obtain ⟨y2, hq2⟩ := put_ex (hA 47 (by simp))
    obtain ⟨y3, hq3⟩ := put_ex (hA 49 (by simp))
    obtain ⟨y4, hq4⟩ := put_ex (hA 50 (by simp))
    obtain ⟨y5, hq5⟩ := put_ex (hA 51 (by simp))
    obtain ⟨z1, hq6⟩ := put_ex (hA 13 (by simp))
    exact ⟨y1, y2, y3, y4, y5, z1, by rw [hq1, hq2, hq3, hq4, hq5, hq6], by omega, by omega, by omega, by omega, by omega, by simp, OwnF.start M.out 1⟩
  · rintro k p a v ⟨y1, y2, y3, y4, y5, z1, _, _, _, _, _, _, _, h⟩
    exact (h.own.nth 2 rfl).two
  · intro p a v hJ
    refine op_step (o := _) rfl (fun K hK => ?_)
    obtain ⟨y1, y2, y3, y4, y5, z1, ha, gg1, h⟩ := gfJ6_0 hJ
    have h := Lib.hid h
    clear hJ
    subst ha
    go_simp
    refine (d11.out _ _ (h.out.own.nth 0 rfl)).mono ?_
    rintro rr w5 ⟨rfl, hp⟩
    try go_wp2_with fail
    refine hK.out _ _ ⟨_, y2, y3, y4, y5, z1, ?_, fun _ => rfl, by omega, by omega, by omega, by omega, gg1, h.out.putHead hp⟩
    kernel_rfl
  · intro p a v hJ
    refine op_step (o := _) rfl (fun K hK => ?_)
    obtain ⟨y2, y3, y4, y5, z1, ha, gg1, h⟩ := gfJ6_1 hJ
    have h := Lib.hid h
    clear hJ
    subst ha
    go_simp
    refine (d12.out _ _ (h.out.own.nth 0 rfl)).mono ?_
    rintro rr w5 ⟨rfl, hp⟩
    try go_wp2_with fail
    refine hK.out _ _ ⟨_, _, y3, y4, y5, z1, ?_, fun _ => rfl, fun _ => rfl, by omega, by omega, by omega, gg1, h.out.putHead hp⟩
    kernel_rfl
  · intro p a v hJ
    refine op_step (o := _) rfl (fun K hK => ?_)
    obtain ⟨y3, y4, y5, z1, ha, gg1, h⟩ := gfJ6_2 hJ
    have h := Lib.hid h
    clear hJ
    subst ha
    go_simp
    refine (d8.out _ _ (h.out.own.nth 0 rfl)).mono ?_
    rintro rr w5 ⟨rfl, hp⟩
    try go_wp2_with fail
    refine hK.out _ _ ⟨_, _, _, y4, y5, z1, ?_, fun _ => rfl, fun _ => rfl, fun _ => rfl, by omega, by omega, gg1, h.out.putHead hp⟩
    kernel_rfl
  · intro p a v hJ
    refine op_step (o := _) rfl (fun K hK => ?_)
    obtain ⟨y4, y5, z1, ha, gg1, h⟩ := gfJ6_3 hJ
    have h := Lib.hid h
    clear hJ
    subst ha
    go_simp
    refine (d14.out _ _ (h.out.own.nth 0 rfl)).mono ?_
    rintro rr w5 ⟨rfl, hp⟩
    try go_wp2_with fail
    refine hK.out _ _ ⟨_, _, _, _, y5, z1, ?_, fun _ => rfl, fun _ => rfl, fun _ => rfl, fun _ => rfl, by omega, gg1, h.out.putHead hp⟩
    kernel_rfl
  · intro p a v hJ
    refine op_step (o := _) rfl (fun K hK => ?_)
    obtain ⟨y5, z1, ha, gg1, h⟩ := gfJ6_4 hJ
    have h := Lib.hid h
    clear hJ
    subst ha
    go_simp
    refine (d15.out _ _ (h.out.own.nth 0 rfl)).mono ?_
    rintro rr w5 ⟨rfl, hp⟩
    try go_wp2_with fail
    refine hK.out _ _ ⟨_, _, _, _, _, z1, ?_, fun _ => rfl, fun _ => rfl, fun _ => rfl, fun _ => rfl, fun _ => rfl, gg1, h.out.putHead hp⟩
    kernel_rfl
  · intro k p a v hp hJ
    refine op_step (o := _) rfl (fun K hK => ?_)
    obtain ⟨y1, y2, y3, y4, y5, z1, ha, ee1, ee2, ee3, ee4, ee5, gg1, h⟩ := hJ
    have h := Lib.hid h
    subst ha
    go_simp
    refine hK.out _ _ ⟨v.heap.size, y1, y2, y3, y4, y5, .pointer (some ⟨v.heap.size, 0, none⟩), ?_, ee1, ee2, ee3, ee4, ee5, fun q hq => ptr_set hq, h.out.alloc hp rfl _⟩
    kernel_rfl
  intro p6_1 a v hJ
  obtain ⟨rfl, h⟩ := gfJ6_fin hJ
  clear hJ
  replace M := Lib.hid h.fin1
  clear h
  refine tails_one (T := []) (i := 12) (o := _) rfl (by kernel_rfl) (fun K hK => ?_)
  have kc := (M.out.nth 0 rfl).2.1
  have kf := (M.out.nth 0 rfl).2.2
  replace M : Hid (Own w [(p6_1, #[.float .f64 mcl, .float .f64 mch]), ((w7_.heap.size + 1), #[.int .i64 0]), (w10_.heap.size, #[.float .f64 fl, .float .f64 fh]), (w7_.heap.size, #[.float .f64 ll, .float .f64 lh]), (p2_1, #[.float .f64 dl, .float .f64 dh]), ((w4_.heap.size + 1), #[.float .f64 a, .float .f64 a]), (w4_.heap.size, #[.float .f64 c, .float .f64 c])] _) := Lib.hid (M.out.set2 0 rfl (.float .f64 mcl) (.float .f64 mch))
  go_simp
  refine hK.out _ _ (Or.inr (M.out.nth 3 rfl).two) (fun hHeld => ?_)
  clear hK K hHeld kc kf
  refine tails_done (by kernel_rfl) ?_ _
  refine NoPanic.normal ?_
  clear hS
  replace M : Hid (Own w [((w7_.heap.size + 1), #[.int .i64 0]), (p6_1, #[.float .f64 mcl, .float .f64 mch]), (w10_.heap.size, #[.float .f64 fl, .float .f64 fh]), (w7_.heap.size, #[.float .f64 ll, .float .f64 lh]), (p2_1, #[.float .f64 dl, .float .f64 dh]), ((w4_.heap.size + 1), #[.float .f64 a, .float .f64 a]), (w4_.heap.size, #[.float .f64 c, .float .f64 c])] _) := Lib.hid M.out.front
  revert M
  generalize ((v.setCell ⟨p6_1, 0, none⟩ (.float .f64 mcl)).setCell ⟨p6_1, 1, none⟩ (.float .f64 mch)) = W12_
  intro M
  go_upto_region 7 with fail
  replace M := Lib.hid M.out.drew
  refine wp_region_noPanic ?_
  refine tails_region (S := fun w' => (w'.cell? ⟨w4_.heap.size, 0, none⟩ = some (.float .f64 c) ∧ w'.cell? ⟨w4_.heap.size, 1, none⟩ = some (.float .f64 c))) [] (by kernel_rfl) ?_ (fun hS => ?_)
  · exact (M.out.nth 6 rfl).two
  refine tk (x := ?_) 0 rfl (by kernel_rfl) ⟨by kernel_rfl, ?_⟩ (fun _ _ _ h => h) hS ?_
  rotate_left; focus (intro w hSw; (try dsimp only at hSw); go_simp; try with_reducible rfl)
  refine tk (x := ?_) 1 rfl (by kernel_rfl) ⟨by kernel_rfl, ?_⟩ (fun _ _ _ h => h) hS ?_
  rotate_left; focus (intro w hSw; (try dsimp only at hSw); go_simp; try with_reducible rfl)
  refine tk (x := ?_) 2 rfl (by kernel_rfl) ⟨by kernel_rfl, ?_⟩ (fun _ _ _ h => h) hS ?_
  rotate_left; focus (intro w hSw; (try dsimp only at hSw); go_simp; try with_reducible rfl)
  refine tk (x := ?_) 4 rfl (by kernel_rfl) ⟨by kernel_rfl, ?_⟩ (fun _ _ _ h => h) hS ?_
  rotate_left; focus (intro w hSw; (try dsimp only at hSw); go_simp; try with_reducible rfl)
  refine tk (x := ?_) 5 rfl (by kernel_rfl) ⟨by kernel_rfl, ?_⟩ (fun _ _ _ h => h) hS ?_
  rotate_left; focus (intro w hSw; (try dsimp only at hSw); go_simp; try with_reducible rfl)
  conv => arg 9; simp only [Act.put, go_sem]
  refine lpx_cccc_1 M 3 6 7 8 9 [55, 58, 59, 60, 14] 1 (gfJ7 w (w7_.heap.size + 1) nal nah nbl nbh ncl nch) (by kernel_rfl) (by kernel_rfl) ?_ ?_ ?_ ?_ ?_ ?_ ?_ ?_
  · intro A hA
    obtain ⟨y1, hq1⟩ := put_ex (hA 55 (by simp))
    obtain ⟨y2, hq2⟩ := put_ex (hA 58 (by simp))
    obtain ⟨y3, hq3⟩ := put_ex (hA 59 (by simp))
    obtain ⟨y4, hq4⟩ := put_ex (hA 60 (by simp))
    obtain ⟨z1, hq5⟩ := put_ex (hA 14 (by simp))
    exact ⟨y1, y2, y3, y4, z1, by rw [hq1, hq2, hq3, hq4, hq5], by omega, by omega, by omega, by omega, by simp, OwnF.start M.out 1⟩
  · rintro k p a v ⟨y1, y2, y3, y4, z1, _, _, _, _, _, _, h⟩
    exact (h.own.nth 6 rfl).two
  · intro p a v hJ
    refine op_step (o := _) rfl (fun K hK => ?_)
    obtain ⟨y1, y2, y3, y4, z1, ha, gg1, h⟩ := gfJ7_0 hJ
    have h := Lib.hid h
    clear hJ
    subst ha
    go_simp
    refine (d8.out _ _ (h.out.own.nth 0 rfl)).mono ?_
    rintro rr w5 ⟨rfl, hp⟩
    try go_wp2_with fail
    refine hK.out _ _ ⟨_, y2, y3, y4, z1, ?_, fun _ => rfl, by omega, by omega, by omega, gg1, h.out.putHead hp⟩
    kernel_rfl
  · intro p a v hJ
    refine op_step (o := _) rfl (fun K hK => ?_)
    obtain ⟨y2, y3, y4, z1, ha, gg1, h⟩ := gfJ7_1 hJ
    have h := Lib.hid h
    clear hJ
    subst ha
    go_simp
    refine (d17.out _ _ (h.out.own.nth 0 rfl)).mono ?_
    rintro rr w5 ⟨rfl, hp⟩
    try go_wp2_with fail
    refine hK.out _ _ ⟨_, _, y3, y4, z1, ?_, fun _ => rfl, fun _ => rfl, by omega, by omega, gg1, h.out.putHead hp⟩
    kernel_rfl
  · intro p a v hJ
    refine op_step (o := _) rfl (fun K hK => ?_)
    obtain ⟨y3, y4, z1, ha, gg1, h⟩ := gfJ7_2 hJ
    have h := Lib.hid h
    clear hJ
    subst ha
    go_simp
    refine (d18.out _ _ (h.out.own.nth 0 rfl)).mono ?_
    rintro rr w5 ⟨rfl, hp⟩
    try go_wp2_with fail
    refine hK.out _ _ ⟨_, _, _, y4, z1, ?_, fun _ => rfl, fun _ => rfl, fun _ => rfl, by omega, gg1, h.out.putHead hp⟩
    kernel_rfl
  · intro p a v hJ
    refine op_step (o := _) rfl (fun K hK => ?_)
    obtain ⟨y4, z1, ha, gg1, h⟩ := gfJ7_3 hJ
    have h := Lib.hid h
    clear hJ
    subst ha
    go_simp
    refine (d19.out _ _ (h.out.own.nth 0 rfl)).mono ?_
    rintro rr w5 ⟨rfl, hp⟩
    try go_wp2_with fail
    refine hK.out _ _ ⟨_, _, _, _, z1, ?_, fun _ => rfl, fun _ => rfl, fun _ => rfl, fun _ => rfl, gg1, h.out.putHead hp⟩
    kernel_rfl
  · intro k p a v hp hJ
    refine op_step (o := _) rfl (fun K hK => ?_)
    obtain ⟨y1, y2, y3, y4, z1, ha, ee1, ee2, ee3, ee4, gg1, h⟩ := hJ
    have h := Lib.hid h
    subst ha
    go_simp
    refine hK.out _ _ ⟨v.heap.size, y1, y2, y3, y4, .pointer (some ⟨v.heap.size, 0, none⟩), ?_, ee1, ee2, ee3, ee4, fun q hq => ptr_set hq, h.out.alloc hp rfl _⟩
    kernel_rfl
  intro p7_1 a v hJ
  obtain ⟨rfl, h⟩ := gfJ7_fin hJ
  clear hJ
  replace M := Lib.hid h.fin1
  clear h
  refine tails_one (T := []) (i := 10) (o := _) rfl (by kernel_rfl) (fun K hK => ?_)
  have kc := (M.out.nth 0 rfl).2.1
  have kf := (M.out.nth 0 rfl).2.2
  replace M : Hid (Own w [(p7_1, #[.float .f64 ncl, .float .f64 nch]), ((w7_.heap.size + 1), #[.int .i64 0]), (p6_1, #[.float .f64 mcl, .float .f64 mch]), (w10_.heap.size, #[.float .f64 fl, .float .f64 fh]), (w7_.heap.size, #[.float .f64 ll, .float .f64 lh]), (p2_1, #[.float .f64 dl, .float .f64 dh]), ((w4_.heap.size + 1), #[.float .f64 a, .float .f64 a]), (w4_.heap.size, #[.float .f64 c, .float .f64 c])] _) := Lib.hid (M.out.set2 0 rfl (.float .f64 ncl) (.float .f64 nch))
  go_simp
  refine hK.out _ _ (Or.inr (M.out.nth 7 rfl).two) (fun hHeld => ?_)
  clear hK K hHeld kc kf
  refine tails_done (by kernel_rfl) ?_ _
  refine NoPanic.normal ?_
  clear hS
  replace M : Hid (Own w [((w7_.heap.size + 1), #[.int .i64 0]), (p7_1, #[.float .f64 ncl, .float .f64 nch]), (p6_1, #[.float .f64 mcl, .float .f64 mch]), (w10_.heap.size, #[.float .f64 fl, .float .f64 fh]), (w7_.heap.size, #[.float .f64 ll, .float .f64 lh]), (p2_1, #[.float .f64 dl, .float .f64 dh]), ((w4_.heap.size + 1), #[.float .f64 a, .float .f64 a]), (w4_.heap.size, #[.float .f64 c, .float .f64 c])] _) := Lib.hid M.out.front
  revert M
  generalize ((v.setCell ⟨p7_1, 0, none⟩ (.float .f64 ncl)).setCell ⟨p7_1, 1, none⟩ (.float .f64 nch)) = W13_
  intro M
  go_upto_region 8 with fail
  replace M := Lib.hid M.out.drew
  refine wp_region_noPanic ?_
  refine tails_region (S := fun w' => (w'.cell? ⟨(w4_.heap.size + 1), 0, none⟩ = some (.float .f64 a) ∧ w'.cell? ⟨(w4_.heap.size + 1), 1, none⟩ = some (.float .f64 a)) ∧ (w'.cell? ⟨p7_1, 0, none⟩ = some (.float .f64 ncl) ∧ w'.cell? ⟨p7_1, 1, none⟩ = some (.float .f64 nch)) ∧ (w'.cell? ⟨w4_.heap.size, 0, none⟩ = some (.float .f64 c) ∧ w'.cell? ⟨w4_.heap.size, 1, none⟩ = some (.float .f64 c))) [] (by kernel_rfl) ?_ (fun hS => ?_)
  · exact ⟨(M.out.nth 6 rfl).two, (M.out.nth 1 rfl).two, (M.out.nth 7 rfl).two⟩
  refine tk (x := ?_) 0 rfl (by kernel_rfl) ⟨by kernel_rfl, ?_⟩ (fun _ _ _ h => h) hS ?_
  rotate_left; focus (intro w hSw; (try dsimp only at hSw); go_simp; try with_reducible rfl)
  refine tk (x := ?_) 1 rfl (by kernel_rfl) ⟨by kernel_rfl, ?_⟩ (fun _ _ _ h => h) hS ?_
  rotate_left; focus (intro w hSw; (try dsimp only at hSw); go_simp; try with_reducible rfl)
  refine tk (x := ?_) 3 rfl (by kernel_rfl) ⟨by kernel_rfl, ?_⟩ (fun _ _ _ h => h) hS ?_
  rotate_left; focus (intro w hSw; (try dsimp only at hSw); go_simp; try with_reducible rfl)
  refine tk (x := ?_) 4 rfl (by kernel_rfl) ⟨by kernel_rfl, ?_⟩ (fun _ _ _ h => h) hS ?_
  rotate_left; focus (intro w hSw; (try dsimp only at hSw); go_simp; try with_reducible rfl)
  refine tk (x := ?_) 5 rfl (by kernel_rfl) ⟨by kernel_rfl, ?_⟩ (fun _ _ _ h => h) hS ?_
  rotate_left; focus (intro w hSw; (try dsimp only at hSw); go_simp; try with_reducible rfl)
  refine tk (x := ?_) 6 rfl (by kernel_rfl) ⟨by kernel_rfl, ?_⟩ (fun _ _ _ h => h) hS ?_
  rotate_left; focus (intro w hSw; (try dsimp only at hSw); go_simp; try with_reducible rfl)
  refine tk (x := ?_) 7 rfl (by kernel_rfl) ⟨by kernel_rfl, ?_⟩ (fun _ _ _ h => h) hS ?_
  rotate_left; focus (intro w hSw; (try dsimp only at hSw); go_simp; try with_reducible rfl)
  refine tk (x := ?_) 8 rfl (by kernel_rfl) ⟨by kernel_rfl, ?_⟩ (fun _ _ _ h => h) hS ?_
  rotate_left; focus (intro w hSw; (try dsimp only at hSw); go_simp; try with_reducible rfl)
  conv => arg 9; simp only [Act.put, go_sem]
  refine lpx_ccccc_1 M 2 9 10 11 12 13 [63, 70, 71, 72, 73, 15] 1 (gfJ8 w (w7_.heap.size + 1) oal oah obl obh ocl och odl odh) (by kernel_rfl) (by kernel_rfl) ?_ ?_ ?_ ?_ ?_ ?_ ?_ ?_ ?_
  · intro A hA
    obtain ⟨y1, hq1⟩ := put_ex (hA 63 (by simp))
    obtain ⟨y2, hq2⟩ := put_ex (hA 70 (by simp))
    obtain ⟨y3, hq3⟩ := put_ex (hA 71 (by simp))
    obtain ⟨y4, hq4⟩ := put_ex (hA 72 (by simp))
    obtain ⟨y5, hq5⟩ := put_ex (hA 73 (by simp))
    obtain ⟨z1, hq6⟩ := put_ex (hA 15 (by simp))
    exact ⟨y1, y2, y3, y4, y5, z1, by rw [hq1, hq2, hq3, hq4, hq5, hq6], by omega, by omega, by omega, by omega, by omega, by simp, OwnF.start M.out 1⟩
  · rintro k p a v ⟨y1, y2, y3, y4, y5, z1, _, _, _, _, _, _, _, h⟩
    exact ⟨(h.own.nth 6 rfl).two, (h.own.nth 1 rfl).two, (h.own.nth 7 rfl).two⟩
  · intro p a v hJ
    refine op_step (o := _) rfl (fun K hK => ?_)
    obtain ⟨y1, y2, y3, y4, y5, z1, ha, gg1, h⟩ := gfJ8_0 hJ
    have h := Lib.hid h
    clear hJ
    subst ha
    go_simp
    refine (d8.out _ _ (h.out.own.nth 0 rfl)).mono ?_
    rintro rr w5 ⟨rfl, hp⟩
    try go_wp2_with fail
    refine hK.out _ _ ⟨_, y2, y3, y4, y5, z1, ?_, fun _ => rfl, by omega, by omega, by omega, by omega, gg1, h.out.putHead hp⟩
    kernel_rfl
  · intro p a v hJ
    refine op_step (o := _) rfl (fun K hK => ?_)
    obtain ⟨y2, y3, y4, y5, z1, ha, gg1, h⟩ := gfJ8_1 hJ
    have h := Lib.hid h
    clear hJ
    subst ha
    go_simp
    refine (d21.out _ _ (h.out.own.nth 0 rfl)).mono ?_
    rintro rr w5 ⟨rfl, hp⟩
    try go_wp2_with fail
    refine hK.out _ _ ⟨_, _, y3, y4, y5, z1, ?_, fun _ => rfl, fun _ => rfl, by omega, by omega, by omega, gg1, h.out.putHead hp⟩
    kernel_rfl
  · intro p a v hJ
    refine op_step (o := _) rfl (fun K hK => ?_)
    obtain ⟨y3, y4, y5, z1, ha, gg1, h⟩ := gfJ8_2 hJ
    have h := Lib.hid h
    clear hJ
    subst ha
    go_simp
    refine (d22.out _ _ (h.out.own.nth 0 rfl)).mono ?_
    rintro rr w5 ⟨rfl, hp⟩
    try go_wp2_with fail
    refine hK.out _ _ ⟨_, _, _, y4, y5, z1, ?_, fun _ => rfl, fun _ => rfl, fun _ => rfl, by omega, by omega, gg1, h.out.putHead hp⟩
    kernel_rfl
  · intro p a v hJ
    refine op_step (o := _) rfl (fun K hK => ?_)
    obtain ⟨y4, y5, z1, ha, gg1, h⟩ := gfJ8_3 hJ
    have h := Lib.hid h
    clear hJ
    subst ha
    go_simp
    refine (d23.out _ _ (h.out.own.nth 0 rfl)).mono ?_
    rintro rr w5 ⟨rfl, hp⟩
    try go_wp2_with fail
    refine hK.out _ _ ⟨_, _, _, _, y5, z1, ?_, fun _ => rfl, fun _ => rfl, fun _ => rfl, fun _ => rfl, by omega, gg1, h.out.putHead hp⟩
    kernel_rfl
  · intro p a v hJ
    refine op_step (o := _) rfl (fun K hK => ?_)
    obtain ⟨y5, z1, ha, gg1, h⟩ := gfJ8_4 hJ
    have h := Lib.hid h
    clear hJ
    subst ha
    go_simp
    refine (d24.out _ _ (h.out.own.nth 0 rfl)).mono ?_
    rintro rr w5 ⟨rfl, hp⟩
    try go_wp2_with fail
    refine hK.out _ _ ⟨_, _, _, _, _, z1, ?_, fun _ => rfl, fun _ => rfl, fun _ => rfl, fun _ => rfl, fun _ => rfl, gg1, h.out.putHead hp⟩
    kernel_rfl
  · intro k p a v hp hJ
    refine op_step (o := _) rfl (fun K hK => ?_)
    obtain ⟨y1, y2, y3, y4, y5, z1, ha, ee1, ee2, ee3, ee4, ee5, gg1, h⟩ := hJ
    have h := Lib.hid h
    subst ha
    go_simp
    refine hK.out _ _ ⟨v.heap.size, y1, y2, y3, y4, y5, .pointer (some ⟨v.heap.size, 0, none⟩), ?_, ee1, ee2, ee3, ee4, ee5, fun q hq => ptr_set hq, h.out.alloc hp rfl _⟩
    kernel_rfl
  intro p8_1 a v hJ
  obtain ⟨rfl, h⟩ := gfJ8_fin hJ
  clear hJ
  replace M := Lib.hid h.fin1
  clear h
  refine tails_one (T := []) (i := 14) (o := _) rfl (by kernel_rfl) (fun K hK => ?_)
  have kc := (M.out.nth 0 rfl).2.1
  have kf := (M.out.nth 0 rfl).2.2
  replace M : Hid (Own w [(p8_1, #[.float .f64 odl, .float .f64 odh]), ((w7_.heap.size + 1), #[.int .i64 0]), (p7_1, #[.float .f64 ncl, .float .f64 nch]), (p6_1, #[.float .f64 mcl, .float .f64 mch]), (w10_.heap.size, #[.float .f64 fl, .float .f64 fh]), (w7_.heap.size, #[.float .f64 ll, .float .f64 lh]), (p2_1, #[.float .f64 dl, .float .f64 dh]), ((w4_.heap.size + 1), #[.float .f64 a, .float .f64 a]), (w4_.heap.size, #[.float .f64 c, .float .f64 c])] _) := Lib.hid (M.out.set2 0 rfl (.float .f64 odl) (.float .f64 odh))
  go_simp
  refine hK.out _ _ (Or.inr ⟨(M.out.nth 7 rfl).two, (M.out.nth 2 rfl).two, (M.out.nth 8 rfl).two⟩) (fun hHeld => ?_)
  clear hK K hHeld kc kf
  refine tails_done (by kernel_rfl) ?_ _
  refine NoPanic.normal ?_
  clear hS
  replace M : Hid (Own w [((w7_.heap.size + 1), #[.int .i64 0]), (p8_1, #[.float .f64 odl, .float .f64 odh]), (p7_1, #[.float .f64 ncl, .float .f64 nch]), (p6_1, #[.float .f64 mcl, .float .f64 mch]), (w10_.heap.size, #[.float .f64 fl, .float .f64 fh]), (w7_.heap.size, #[.float .f64 ll, .float .f64 lh]), (p2_1, #[.float .f64 dl, .float .f64 dh]), ((w4_.heap.size + 1), #[.float .f64 a, .float .f64 a]), (w4_.heap.size, #[.float .f64 c, .float .f64 c])] _) := Lib.hid M.out.front
  revert M
  generalize ((v.setCell ⟨p8_1, 0, none⟩ (.float .f64 odl)).setCell ⟨p8_1, 1, none⟩ (.float .f64 odh)) = W14_
  intro M
  go_wp2_with fail
  refine (err_any 0 _ 0 _ (M.out.nth 0 rfl).pc).mono ?_
  rintro r w15_ ⟨rfl, rfl⟩
  obtain ⟨k1, k2⟩ := (M.out.nth 6 rfl).two
  obtain ⟨k3, k4⟩ := (M.out.nth 4 rfl).two
  go_wp2_with fail
  refine (c26.out _).mono ?_
  rintro r w16_ ⟨rfl, hb⟩
  replace M := Lib.hid (M.out.below hb)
  clear hb
  clear k1 k2 k3 k4
  obtain ⟨k1, k2⟩ := (M.out.nth 3 rfl).two
  obtain ⟨k3, k4⟩ := (M.out.nth 1 rfl).two
  go_wp2_with fail
  refine (c27.out _).mono ?_
  rintro r w17_ ⟨rfl, hb⟩
  replace M := Lib.hid (M.out.below hb)
  clear hb
  clear k1 k2 k3 k4
  obtain ⟨k1, k2⟩ := (M.out.nth 5 rfl).two
  go_wp2_with fail
  refine (c28.out _).mono ?_
  rintro r w18_ ⟨rfl, hb⟩
  replace M := Lib.hid (M.out.below hb)
  clear hb
  clear k1 k2
  go_wp2
  go_ret
  exact ⟨rfl, M.out.base⟩

end Go.Proofs.Ytdppppaoflhgdaa

namespace Go.Proofs.Ytdppppaoflhgdaa
open Go.RowKit

def w2' : Nat := 4611686018427387904
theorem w2'_fit : Fit (oneR w2') := one_fit (by decide) (by decide)
/-- The law's intervals. -/
def Fx.f : Res := divR (oneR u1) piR
def Fx.ma (c a : Res) : Res := mulR (oneR w2') (Gx.l c a)
def Fx.mb (c a : Res) : Res := addR (Fx.ma c a) (oneR u1)
def Fx.mc (c a : Res) : Res := sqrR (Fx.mb c a)
def Fx.nc (c : Res) : Res := sqrtR (Gx.n c)
def Fx.oa (c : Res) : Res := divR (Fx.nc c) c
def Fx.ob (c a : Res) : Res := mulR a (Fx.oa c)
def Fx.oc (c a : Res) : Res := sqrR (Fx.ob c a)
def Fx.od (c a : Res) : Res := addR (oneR u1) (Fx.oc c a)
theorem fx_f : Fit Fx.f := .of (by decide +kernel)
theorem fx_ok : (fitB (Fx.ma cI8 aI) && fitB (Fx.mb cI8 aI) && fitB (Fx.mc cI8 aI) && fitB (Fx.nc cI8) && fitB (Fx.oa cI8) && fitB (Fx.ob cI8 aI) && fitB (Fx.oc cI8 aI) && fitB (Fx.od cI8 aI)) = true := by decide +kernel
structure FxF (c a : Res) : Prop where
  ma : Fit (Fx.ma c a)
  mb : Fit (Fx.mb c a)
  mc : Fit (Fx.mc c a)
  nc : Fit (Fx.nc c)
  oa : Fit (Fx.oa c)
  ob : Fit (Fx.ob c a)
  oc : Fit (Fx.oc c a)
  od : Fit (Fx.od c a)
theorem fx_fits {c a : Res} (hc : In c cI8) (ha : In a aI) : FxF c a := by
  have ok := fx_ok
  simp only [Bool.and_eq_true] at ok
  obtain ⟨⟨⟨⟨⟨⟨⟨f1, f2⟩, f3⟩, f4⟩, f5⟩, f6⟩, f7⟩, f8⟩ := ok
  have I := l8_in hc ha
  have G := g8_in hc ha
  have j1 : In (Fx.ma c a) (Fx.ma cI8 aI) := mul_in (.refl w2'_fit) w2'_fit I.l lf_box.l (Fit.of f1).e
  have j2 : In (Fx.mb c a) (Fx.mb cI8 aI) := add_in j1 (.of f1) (.refl u1_fit) u1_fit (Fit.of f2).e
  have j3 : In (Fx.mc c a) (Fx.mc cI8 aI) := sqr_in j2 (.of f2) (Fit.of f3).e
  have j4 : In (Fx.nc c) (Fx.nc cI8) := sqrt_in G.n gf_box8.n (Fit.of f4).e
  have j5 : In (Fx.oa c) (Fx.oa cI8) := div_in j4 (.of f4) hc cI8_fit (Fit.of f5).e
  have j6 : In (Fx.ob c a) (Fx.ob cI8 aI) := mul_in ha aI_fit j5 (.of f5) (Fit.of f6).e
  have j7 : In (Fx.oc c a) (Fx.oc cI8 aI) := sqr_in j6 (.of f6) (Fit.of f7).e
  have j8 : In (Fx.od c a) (Fx.od cI8 aI) := add_in (.refl u1_fit) u1_fit j7 (.of f7) (Fit.of f8).e
  exact ⟨j1.fit, j2.fit, j3.fit, j4.fit, j5.fit, j6.fit, j7.fit, j8.fit⟩
theorem two_has9 : HasQ (oneR w2') 2 := HasQ.lit (k := 2) (by decide +kernel) rfl
/-- With alpha 1. -/
theorem flat_meets {c : Res} (hc : In c ouI) : val (Gx.D c (oneR u1)).lo ≤ val Fx.f.hi ∧ val Fx.f.lo ≤ val (Gx.D c (oneR u1)).hi := by
  have d := D_has hc a1_in (HasQ.fst hc.fit) one_has
  have f : HasQ Fx.f (1 / Qp) := HasQ.div u1_fit big_fit.1 one_has pi_has two_pos.2.2 fx_f.e
  generalize ((val c.lo : Int) : Rat) / ((SS : Int) : Rat) = x at *
  have e1 : spQ x 1 = 1 := by unfold spQ; grind
  have e : 1 * 1 / (Qp * (spQ x 1 * spQ x 1)) = 1 / Qp := by
    rw [e1]; grind
  rw [e] at d
  exact ⟨has_le d f Rat.le_refl, has_le f d Rat.le_refl⟩
theorem tan_sq {x y Z : Rat} : 1 + y * (Z / x) * (y * (Z / x)) = 1 + y * y / (x * x) * (Z * Z) := by grind
theorem tan_p {x y : Rat} : 1 + y * y / (x * x) * (1 - x * x) = 1 + y * y * ((1 - x * x) / (x * x)) := by grind
theorem lam_meets {c a : Nat} (hc : In (oneR c) cI8) (ha : In (oneR a) aI) : val (Fx.mc (oneR c) (oneR a)).lo ≤ val (Fx.od (oneR c) (oneR a)).hi ∧ val (Fx.od (oneR c) (oneR a)).lo ≤ val (Fx.mc (oneR c) (oneR a)).hi := by
  have I := l8_in hc ha
  have G := g8_in hc ha
  have L := I.fits
  have K := G.fits
  have X := fx_fits hc ha
  have lows := gx_lows
  have hx := rv_has c
  have hy := rv_has a
  have x0 : rv c ≠ 0 := by
    have h : rv 0 < rv c := by
      have e : ¬ rv c ≤ rv 0 := fun h => by
        have k := rv_le.1 h
        have l : val cI8.lo ≤ val c := hc.lo
        have : val 0 < val cI8.lo := by decide +kernel
        omega
      grind
    rw [rv_0] at h
    grind
  generalize rv c = x at *
  generalize rv a = y at *
  have q1 := HasQ.sqr ha.fit hy K.a2.e
  have q2 := HasQ.sqr hc.fit hx K.c2.e
  have q3 := HasQ.sub u1_fit K.c2 one_has q2 K.n.e
  have q4 := HasQ.div K.n K.c2 q3 q2 (by have := G.c2.lo; omega) L.t.e
  have q5 := HasQ.mul K.a2 L.t q1 q4 L.m.e
  have q6 := HasQ.add u1_fit L.m one_has q5 L.p.e
  obtain ⟨S, s1, _, s3⟩ := HasS.sqrt L.p (HasS.const q6) L.r.e
  have c1 := HasS.const one_has
  have d := HasS.sub L.r u1_fit s1 c1 L.d.e
  have h := HasS.mul uh_fit L.d (HasS.const half_has) d L.h.e
  have e : Gx.h (oneR c) (oneR a) = Gx.l (oneR c) (oneR a) := (lam_h hc ha).symm
  have h' : HasS (Gx.l (oneR c) (oneR a)) fun m => 1 / 2 * (S m - 1) := by rw [← e]; exact h
  have ma := HasS.mul w2'_fit L.l (HasS.const two_has9) h' X.ma.e
  have mb := HasS.add X.ma u1_fit ma c1 X.mb.e
  have mc := (HasS.sqr X.mb mb X.mc.e).turn ((Eqv.of fun m => by grind : Eqv _ fun m => S m * S m).trans s3)
  obtain ⟨Z, z1, _, z3⟩ := HasS.sqrt K.n (HasS.const q3) X.nc.e
  have hxS := HasS.const hx
  have oa := HasS.div X.nc hc.fit z1 hxS (by have l : val cI8.lo ≤ val c := hc.lo; have : 0 < val cI8.lo := (by decide +kernel); show 0 < val c; omega) X.oa.e
  have ob := HasS.mul ha.fit X.oa (HasS.const hy) oa X.ob.e
  have oc := HasS.sqr X.ob ob X.oc.e
  have od := HasS.add u1_fit X.oc c1 oc X.od.e
  have zz : Eqv (fun m => 1 + y * (Z m / x) * (y * (Z m / x))) fun _ => 1 + y * y * ((1 - x * x) / (x * x)) := by
    have k1 : Eqv (fun m => 1 + y * (Z m / x) * (y * (Z m / x))) fun m => 1 + y * y / (x * x) * (Z m * Z m) := Eqv.of fun m => tan_sq
    have k2 : Eqv (fun m => 1 + y * y / (x * x) * (Z m * Z m)) fun _ => 1 + y * y / (x * x) * (1 - x * x) := Eqv.add Eqv.rfl (Eqv.mul Eqv.rfl z3 (Bd.const _) (Eqv.bd z3.symm (Bd.const _)))
    have k3 : Eqv (fun _ : Nat => 1 + y * y / (x * x) * (1 - x * x)) fun _ => 1 + y * y * ((1 - x * x) / (x * x)) := Eqv.of fun _ => tan_p
    exact k1.trans (k2.trans k3)
  exact HasS.meet mc (od.turn zz)
theorem lam_nonneg {c a : Res} (hc : In c cI8) (ha : In a aI) : 0 ≤ val (Gx.l c a).lo := by
  rw [lam_h hc ha]
  have := (l8_in hc ha).h.lo
  have := gx_lows.2.2.2.1
  omega
end Go.Proofs.Ytdppppaoflhgdaa

namespace Go.Proofs.Ytdppppaoflhgdaa
open Go.RowKit

theorem btw_c (n : Nat) (hn : n < 4294967296) : ∃ x, In (oneR x) cI8 ∧ ∀ w, Calls Try.prog 16 #[.float .f64 4571153621781053440, .float .f64 4607182418800017408, .int .u32 n] w fun r w' => r = .returned (.float .f64 x) ∧ w = w' := by
  obtain ⟨x, h, c⟩ := between8_any 4571153621781053440 4607182418800017408 n (by decide) (by decide) (by decide) (by decide) (by decide +kernel) (by decide +kernel) (by decide +kernel) hn
  exact ⟨x, ⟨one_fit h.lt h.right, h.lo, h.hi⟩, c⟩
theorem btw_a (n : Nat) (hn : n < 4294967296) : ∃ x, In (oneR x) aI ∧ ∀ w, Calls Try.prog 16 #[.float .f64 4584664420663164928, .float .f64 4607182418800017408, .int .u32 n] w fun r w' => r = .returned (.float .f64 x) ∧ w = w' := by
  obtain ⟨x, h, c⟩ := between8_any 4584664420663164928 4607182418800017408 n (by decide) (by decide) (by decide) (by decide) (by decide +kernel) (by decide +kernel) (by decide +kernel) hn
  exact ⟨x, ⟨one_fit h.lt h.right, h.lo, h.hi⟩, c⟩
theorem In.up8 {c : Res} (h : In c cI8) : In c ouI := ⟨h.fit, Int.le_trans cI8_in.lo h.lo, Int.le_trans h.hi cI8_in.hi⟩
theorem p9_of {x : Nat} {A : Res} (h : In (oneR x) A) (w : World) : Calls Try.prog 15 #[.float .f64 x] w fun r w' => r = .returned (.agg #[.float .f64 x, .float .f64 x]) ∧ Below w.heap.size w w' := p9_any x h.fit.lo h.fit.rlo w

set_option maxRecDepth 100000 in
set_option maxHeartbeats 1000000 in
theorem flat_any (u v : Nat) (w : World) (hu : u < 4294967296) (hv : v < 4294967296) :
    Calls Try.prog 7 #[.int .u32 u, .int .u32 v] w fun r w' => r = .returned (.bool true) ∧ Below w.heap.size w w' := by
  obtain ⟨c, hc, cc⟩ := btw_c u hu
  obtain ⟨a, ha, ca⟩ := btw_a v hv
  have I := l8_in hc ha
  have L := I.fits
  have K := (g8_in hc ha).fits
  have X := fx_fits hc ha
  have fD : Fit (Gx.D (oneR c) (oneR u1)) := (g_in hc.up8 a1_in).D.fit
  have tD := D_any hc.up8 a1_in
  have mD := flat_meets hc.up8
  have mL := lam_meets hc ha
  have l0 := lam_nonneg hc ha
  have z0 : val 0 = 0 := v00
  have d10 : K2 33 0 0 u1 u1 4614256656552045848 4614256656552045849 Fx.f.lo Fx.f.hi := fun pb => calc_div u1_fit big_fit.1 fx_f pb
  have d12 : K2 18 0 0 w2' w2' (Gx.l (oneR c) (oneR a)).lo (Gx.l (oneR c) (oneR a)).hi (Fx.ma (oneR c) (oneR a)).lo (Fx.ma (oneR c) (oneR a)).hi := fun pb => calc_mul w2'_fit L.l X.ma pb
  have d14 : K2 23 0 0 (Fx.ma (oneR c) (oneR a)).lo (Fx.ma (oneR c) (oneR a)).hi u1 u1 (Fx.mb (oneR c) (oneR a)).lo (Fx.mb (oneR c) (oneR a)).hi := fun pb => calc_add X.ma u1_fit X.mb pb
  have d15 : K1 34 0 0 (Fx.mb (oneR c) (oneR a)).lo (Fx.mb (oneR c) (oneR a)).hi (Fx.mc (oneR c) (oneR a)).lo (Fx.mc (oneR c) (oneR a)).hi := fun pb => calc_sqr X.mb X.mc pb
  have d17 : K1 34 0 0 c c (Gx.c2 (oneR c)).lo (Gx.c2 (oneR c)).hi := fun pb => calc_sqr hc.fit K.c2 pb
  have d18 : K2 22 0 0 u1 u1 (Gx.c2 (oneR c)).lo (Gx.c2 (oneR c)).hi (Gx.n (oneR c)).lo (Gx.n (oneR c)).hi := fun pb => calc_sub u1_fit K.c2 K.n pb
  have d19 : K1 35 0 0 (Gx.n (oneR c)).lo (Gx.n (oneR c)).hi (Fx.nc (oneR c)).lo (Fx.nc (oneR c)).hi := fun pb => calc_sqrt K.n X.nc pb
  have d21 : K2 33 0 0 (Fx.nc (oneR c)).lo (Fx.nc (oneR c)).hi c c (Fx.oa (oneR c)).lo (Fx.oa (oneR c)).hi := fun pb => calc_div X.nc hc.fit X.oa pb
  have d22 : K2 18 0 0 a a (Fx.oa (oneR c)).lo (Fx.oa (oneR c)).hi (Fx.ob (oneR c) (oneR a)).lo (Fx.ob (oneR c) (oneR a)).hi := fun pb => calc_mul ha.fit X.oa X.ob pb
  have d23 : K1 34 0 0 (Fx.ob (oneR c) (oneR a)).lo (Fx.ob (oneR c) (oneR a)).hi (Fx.oc (oneR c) (oneR a)).lo (Fx.oc (oneR c) (oneR a)).hi := fun pb => calc_sqr X.ob X.oc pb
  have d24 : K2 23 0 0 u1 u1 (Fx.oc (oneR c) (oneR a)).lo (Fx.oc (oneR c) (oneR a)).hi (Fx.od (oneR c) (oneR a)).lo (Fx.od (oneR c) (oneR a)).hi := fun pb => calc_add u1_fit X.oc X.od pb
  have t7 := L_ok hc.up8 ha L.zero
  have m1 := fun w => meets8 fD fx_f mD w
  have m2 := fun w => meets8 X.mc X.od mL w
  have fl := L.l
  have p1 := fun w => p9_of hc w
  have p2 := fun w => p9_of ha w
  clear I L K X mD mL
  have og : ((FloatKind.f64.format.order (Gx.l (oneR c) (oneR a)).lo 0 == some Ordering.gt) || (FloatKind.f64.format.order (Gx.l (oneR c) (oneR a)).lo 0 == some Ordering.eq)) = true := by
    rw [order_gt _ _ fl.lo (by decide) fl.rlo (by decide), order_eq _ _ fl.lo (by decide) fl.rlo (by decide), z0]
    by_cases e : val (Gx.l (oneR c) (oneR a)).lo = 0
    · rw [decide_eq_true e, Bool.or_true]
    · rw [decide_eq_true (by omega : 0 < val (Gx.l (oneR c) (oneR a)).lo), Bool.true_or]
  clear fl l0 fD
  generalize Gx.D (oneR c) (oneR u1) = r_d at *
  generalize Gx.l (oneR c) (oneR a) = r_l at *
  generalize Fx.f = r_f at *
  generalize Fx.ma (oneR c) (oneR a) = r_ma at *
  generalize Fx.mb (oneR c) (oneR a) = r_mb at *
  generalize Fx.mc (oneR c) (oneR a) = r_mc at *
  generalize Gx.c2 (oneR c) = r_na at *
  generalize Gx.n (oneR c) = r_nb at *
  generalize Fx.nc (oneR c) = r_nc at *
  generalize Fx.oa (oneR c) = r_oa at *
  generalize Fx.ob (oneR c) (oneR a) = r_ob at *
  generalize Fx.oc (oneR c) (oneR a) = r_oc at *
  generalize Fx.od (oneR c) (oneR a) = r_od at *
  exact gflat_law (u0 := u) (v0 := v) (c := c) (a := a) (dl := r_d.lo) (dh := r_d.hi) (ll := r_l.lo) (lh := r_l.hi) (fl := r_f.lo) (fh := r_f.hi) (mal := r_ma.lo) (mah := r_ma.hi) (mbl := r_mb.lo) (mbh := r_mb.hi) (mcl := r_mc.lo) (mch := r_mc.hi) (nal := r_na.lo) (nah := r_na.hi) (nbl := r_nb.lo) (nbh := r_nb.hi) (ncl := r_nc.lo) (nch := r_nc.hi) (oal := r_oa.lo) (oah := r_oa.hi) (obl := r_ob.lo) (obh := r_ob.hi) (ocl := r_oc.lo) (och := r_oc.hi) (odl := r_od.lo) (odh := r_od.hi) w
    (c1 := Lib.hid cc) (c2 := Lib.hid p1) (c3 := Lib.hid ca) (c4 := Lib.hid p2) (c5 := Lib.hid (p9_lit _ (by decide +kernel))) (c6 := Lib.hid tD) (c7 := Lib.hid t7)
    (d8 := Lib.hid fun pb => calc_num u1_fit pb) (c9 := Lib.hid fun w => pi_any w) (d10 := Lib.hid d10) (d11 := Lib.hid fun pb => calc_num w2'_fit pb)
    (d12 := Lib.hid d12) (d14 := Lib.hid d14) (d15 := Lib.hid d15) (d17 := Lib.hid d17) (d18 := Lib.hid d18) (d19 := Lib.hid d19) (d21 := Lib.hid d21) (d22 := Lib.hid d22) (d23 := Lib.hid d23) (d24 := Lib.hid d24)
    (c26 := Lib.hid m1) (c27 := Lib.hid m2) (o_geqll_0 := og) (c28 := Lib.hid awake9_any)
end Go.Proofs.Ytdppppaoflhgdaa

namespace Go.Proofs.Ytdppppaoflhgdaa
open Go.ChangeShapes Go.WideShapes Go.ChangeAt Go.RowKit

set_option maxRecDepth 100000 in
theorem ggxFlat_lifted (os : Os) (started : os.Started) (H : Type) (enc : TypeId × Value → H) :
    ReturnsInHanded {} Try.checked os 7 .any (Rows.ggxFlatSpec.pre6 enc Try.prog Try.f7 Rows.ggxFlatRow.domain false) (Rows.ggxFlatSpec.post enc Try.prog Try.f7 false true false false) := by
  refine returnsInHanded_of_change (C := Try.checked) Try.own started (by kernel_rfl) Try.func7
    (ChangeSpec.witness6 (enc := enc) (C := Try.checked) false ⟨#[], #[.int .u32 0, .int .u32 0], []⟩ 8 (by kernel_rfl) (by kernel_rfl) (by kernel_rfl) (by kernel_rfl)) ?_
  intro W base args ds gs before hval0 hW hcnd _
  have hval : ∀ (j : Nat) t v, Try.f7.params[j]? = some t → args[j]? = some v → Value.okWide Try.prog W .any base t v := hval0
  have hW' := hW
  obtain ⟨p, q, hA0, hV, rfl, hfz, hnd⟩ := hW
  have hA : DataW.TrodAll enc Try.prog W 0 (fun _ => true) true Try.f7.params.toList args.toList ds p := hA0
  rw [Try.params7] at hA hval
  obtain ⟨v0, v1, d0, d1, p0, p1, rfl, rfl, rfl, h0, h1⟩ := trodAll_two hA
  obtain ⟨rfl, rfl⟩ := trodVars_none hV
  obtain ⟨y0, rfl, rfl, rfl, wf0⟩ := open_int Try.underlying44 (hval 0 44 v0 rfl rfl) h0
  obtain ⟨y1, rfl, rfl, rfl, wf1⟩ := open_int Try.underlying44 (hval 1 44 v1 rfl rfl) h1
  clear hA0 hval0
  simp only [List.append_nil] at hW'
  have b0 : 0 ≤ y0 ∧ y0 < 4294967296 := by
    have := wf0
    simp [Lit.wf] at this
    have e1 : IntKind.u32.min = 0 := by decide
    have e2 : IntKind.u32.max = 4294967295 := by decide
    omega
  obtain ⟨x0, rfl⟩ := Int.eq_ofNat_of_zero_le b0.1
  have l0_ : x0 < 4294967296 := by omega
  have b1 : 0 ≤ y1 ∧ y1 < 4294967296 := by
    have := wf1
    simp [Lit.wf] at this
    have e1 : IntKind.u32.min = 0 := by decide
    have e2 : IntKind.u32.max = 4294967295 := by decide
    omega
  obtain ⟨x1, rfl⟩ := Int.eq_ofNat_of_zero_le b1.1
  have l1_ : x1 < 4294967296 := by omega
  refine (flat_any x0 x1 W l0_ l1_).mono fun e W' ⟨he, hw⟩ => ?_
  subst he
  refine ⟨_, rfl, _, _, _, [], [], [], hW', trodAll_mk1 (shut_bool Try.underlying4 _), trodAll_mk2 (shut_int Try.underlying44 wf0) (shut_int Try.underlying44 wf1), rfl, hw.frame _, fun h => by cases h⟩

theorem ggxFlat_holds : Rows.GgxFlatSaid :=
  OpenClaim.holds_of_wide 7 Try.f7 rfl rfl rfl rfl rfl rfl rfl ⟨rfl, rfl, rfl, rfl, rfl⟩ rfl rfl rfl rfl rfl (by kernel_rfl) Try.func7 (by kernel_rfl)
    (of_decide_eq_true (by kernel_rfl)) (by unfold Func.isWrapper; first | (rw [if_pos (by decide +kernel)]; kernel_rfl) | (rw [if_neg (by decide +kernel)]; exact ⟨rfl, rfl⟩))
    (fun os started H enc _ => ggxFlat_lifted os started H enc)

end Go.Proofs.Ytdppppaoflhgdaa
