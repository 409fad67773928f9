
/- OrenPair holds for any number of 32 bits: the law answers true, and its argument reads as before. No conditions. -/
import Derived.Test.YtoiaefgpegiieaaQO1
import Derived.Deep.RegionHeld3
import Derived.Test.YtoiaefgpegiieaaQO4
import Derived.Test.YtoiaefgpegiieaaQOpT
import Derived.ProofKit
import Derived.Carry
namespace Go.Proofs.Ytoiaefgpegiieaa
open Go.RowKit
attribute [local go_sem] run_store_float

section
variable {P : Program} {ops : Array Oper} {Q : Exit → Act → World → Prop} {md : Region.Mode} {S : World → Prop}
theorem lpx_cccccc_1 {a0 : Act} {B v : World} {l : List (Nat × Array Value)} {x : Nat × Array Value} (_ : Hid (Own B (x :: l) v)) {w0 : World} {L0 : Array Bool} (c1 c2 c3 c4 c5 c6 m1 : Nat) (slots : List Nat) (N : Nat) (J : List (Nat × Array Value) → Act → Nat → List (Option Nat) → Act → World → Prop) (hok : latOkP [false, false, false, false, false, false] md ops L0 [c1, c2, c3, c4, c5, c6] [m1] = true)
    (hsl : (slots.all fun s => decide (s < a0.tmps.size)) = true) (h0 : ∀ A : Act, (∀ s, s ∈ slots → s < A.tmps.size) → J l A 0 (List.replicate 1 none) A w0)
    (hS : ∀ k p a w, J l a0 k p a w → S w)
    (k1 : ∀ p a w, J l a0 0 p a w → wpOp P ops Q c1 (fun b v => J l a0 1 p b v) a w)
    (k2 : ∀ p a w, J l a0 1 p a w → wpOp P ops Q c2 (fun b v => J l a0 2 p b v) a w)
    (k3 : ∀ p a w, J l a0 2 p a w → wpOp P ops Q c3 (fun b v => J l a0 3 p b v) a w)
    (k4 : ∀ p a w, J l a0 3 p a w → wpOp P ops Q c4 (fun b v => J l a0 4 p b v) a w)
    (k5 : ∀ p a w, J l a0 4 p a w → wpOp P ops Q c5 (fun b v => J l a0 5 p b v) a w)
    (k6 : ∀ p a w, J l a0 5 p a w → wpOp P ops Q c6 (fun b v => J l a0 6 p b v) a w)
    (n1 : ∀ k p a w, p[0]? = some none → J l a0 k p a w → wpOp P ops Q m1 (fun b v => ∃ q, J l a0 k (p.set 0 (some q)) b v) a w)
    (fin : ∀ q1 a w, J l a0 6 [some q1] a w → wpAnyV P md ops Q S [] N (lstOf L0 [c1, c2, c3, c4, c5, c6] [m1] 6 [true]) a w) :
    wpAnyV P md ops Q S [] (N + 7) L0 a0 w0 := by
  refine latP_from (pl := [false, false, false, false, false, false]) [c1, c2, c3, c4, c5, c6] [m1] slots N 7 (J l) hok rfl hsl h0 hS (fun k i p a w hk hn hJ => ?_) (fun k i p a w hk hn hJ => ?_) (fun k m i p a w hm hp hJ => ?_) (fun p a w hp hall hJ => ?_)
  · rcases k with _ | _ | _ | _ | _ | _ | k
    · obtain rfl : c1 = i := by simpa using hk
      exact k1 p a w hJ
    · obtain rfl : c2 = i := by simpa using hk
      exact k2 p a w hJ
    · obtain rfl : c3 = i := by simpa using hk
      exact k3 p a w hJ
    · obtain rfl : c4 = i := by simpa using hk
      exact k4 p a w hJ
    · obtain rfl : c5 = i := by simpa using hk
      exact k5 p a w hJ
    · obtain rfl : c6 = i := by simpa using hk
      exact k6 p a w hJ
    · simp at hk
  · rcases k with _ | _ | _ | _ | _ | _ | k
    · exact absurd hn (by decide)
    · exact absurd hn (by decide)
    · exact absurd hn (by decide)
    · exact absurd hn (by decide)
    · exact absurd hn (by decide)
    · exact absurd hn (by decide)
    · simp at hk
  · rcases m with _ | m
    · obtain rfl : m1 = i := by simpa using hm
      exact n1 k p a w hp hJ
    · simp at hm
  · obtain ⟨q1, rfl⟩ := fin_one hp hall
    exact fin q1 a w hJ
theorem lpx_ccc_1 {a0 : Act} {B v : World} {l : List (Nat × Array Value)} {x : Nat × Array Value} (_ : Hid (Own B (x :: l) v)) {w0 : World} {L0 : Array Bool} (c1 c2 c3 m1 : Nat) (slots : List Nat) (N : Nat) (J : List (Nat × Array Value) → Act → Nat → List (Option Nat) → Act → World → Prop) (hok : latOkP [false, false, false] md ops L0 [c1, c2, c3] [m1] = true)
    (hsl : (slots.all fun s => decide (s < a0.tmps.size)) = true) (h0 : ∀ A : Act, (∀ s, s ∈ slots → s < A.tmps.size) → J l A 0 (List.replicate 1 none) A w0)
    (hS : ∀ k p a w, J l a0 k p a w → S w)
    (k1 : ∀ p a w, J l a0 0 p a w → wpOp P ops Q c1 (fun b v => J l a0 1 p b v) a w)
    (k2 : ∀ p a w, J l a0 1 p a w → wpOp P ops Q c2 (fun b v => J l a0 2 p b v) a w)
    (k3 : ∀ p a w, J l a0 2 p a w → wpOp P ops Q c3 (fun b v => J l a0 3 p b v) a w)
    (n1 : ∀ k p a w, p[0]? = some none → J l a0 k p a w → wpOp P ops Q m1 (fun b v => ∃ q, J l a0 k (p.set 0 (some q)) b v) a w)
    (fin : ∀ q1 a w, J l a0 3 [some q1] a w → wpAnyV P md ops Q S [] N (lstOf L0 [c1, c2, c3] [m1] 3 [true]) a w) :
    wpAnyV P md ops Q S [] (N + 4) L0 a0 w0 := by
  refine latP_from (pl := [false, false, false]) [c1, c2, c3] [m1] slots N 4 (J l) hok rfl hsl h0 hS (fun k i p a w hk hn hJ => ?_) (fun k i p a w hk hn hJ => ?_) (fun k m i p a w hm hp hJ => ?_) (fun p a w hp hall hJ => ?_)
  · rcases k with _ | _ | _ | k
    · obtain rfl : c1 = i := by simpa using hk
      exact k1 p a w hJ
    · obtain rfl : c2 = i := by simpa using hk
      exact k2 p a w hJ
    · obtain rfl : c3 = i := by simpa using hk
      exact k3 p a w hJ
    · simp at hk
  · rcases k with _ | _ | _ | k
    · exact absurd hn (by decide)
    · exact absurd hn (by decide)
    · exact absurd hn (by decide)
    · simp at hk
  · rcases m with _ | m
    · obtain rfl : m1 = i := by simpa using hm
      exact n1 k p a w hp hJ
    · simp at hm
  · obtain ⟨q1, rfl⟩ := fin_one hp hall
    exact fin q1 a w hJ
end

/-- Region 5. -/
def oqJ5 (w : World) (pb : Nat) (xl xh tl th gl gh : Nat) (l : RowL) (a0 : Act) (k : Nat) (p : List (Option Nat)) (a : Act) (v : World) : Prop :=
  ∃ y1 y2 y3 y4 y5 y6 z1 : Value, a = (((((((a0.put (some 27) y1).put (some 28) y2).put (some 31) y3).put (some 33) y4).put (some 34) y5).put (some 35) y6).put (some 9) z1) ∧ (0 < k → y1 = .agg #[.float .f64 4611686018427387904, .float .f64 4611686018427387904]) ∧ (1 < k → y2 = .agg #[.float .f64 xl, .float .f64 xh]) ∧ (2 < k → y3 = .agg #[.float .f64 4611686018427387904, .float .f64 4611686018427387904]) ∧ (3 < k → y4 = .agg #[.float .f64 4613937818241073152, .float .f64 4613937818241073152]) ∧ (4 < k → y5 = .agg #[.float .f64 tl, .float .f64 th]) ∧ (5 < k → y6 = .agg #[.float .f64 gl, .float .f64 gh]) ∧ (∀ q, p[0]? = some (some q) → z1 = .pointer (some ⟨q, 0, none⟩)) ∧ OwnF w ((pb, #[.int .i64 0]) :: l) [#[.float .f64 0, .float .f64 0]] p v
section
variable {w v : World} {pb : Nat} {xl xh tl th gl gh : Nat} {l : RowL} {a0 a : Act} {p : List (Option Nat)}
theorem oqJ5_0 (h : oqJ5 w pb xl xh tl th gl gh l a0 0 p a v) : ∃ y1 y2 y3 y4 y5 y6 z1 : Value, a = (((((((a0.put (some 27) y1).put (some 28) y2).put (some 31) y3).put (some 33) y4).put (some 34) y5).put (some 35) y6).put (some 9) z1) ∧ (∀ q, p[0]? = some (some q) → z1 = .pointer (some ⟨q, 0, none⟩)) ∧ OwnF w ((pb, #[.int .i64 0]) :: l) [#[.float .f64 0, .float .f64 0]] p v := by
  obtain ⟨y1, y2, y3, y4, y5, y6, z1, ha, E1, E2, E3, E4, E5, E6, G1, h⟩ := h
  exact ⟨y1, y2, y3, y4, y5, y6, z1, ha, G1, h⟩
theorem oqJ5_1 (h : oqJ5 w pb xl xh tl th gl gh l a0 1 p a v) : ∃ y2 y3 y4 y5 y6 z1 : Value, a = (((((((a0.put (some 27) (.agg #[.float .f64 4611686018427387904, .float .f64 4611686018427387904])).put (some 28) y2).put (some 31) y3).put (some 33) y4).put (some 34) y5).put (some 35) y6).put (some 9) z1) ∧ (∀ q, p[0]? = some (some q) → z1 = .pointer (some ⟨q, 0, none⟩)) ∧ OwnF w ((pb, #[.int .i64 0]) :: l) [#[.float .f64 0, .float .f64 0]] p v := by
  obtain ⟨y1, y2, y3, y4, y5, y6, z1, ha, E1, E2, E3, E4, E5, E6, G1, h⟩ := h
  obtain rfl := E1 (by decide)
  exact ⟨y2, y3, y4, y5, y6, z1, ha, G1, h⟩
theorem oqJ5_2 (h : oqJ5 w pb xl xh tl th gl gh l a0 2 p a v) : ∃ y3 y4 y5 y6 z1 : Value, a = (((((((a0.put (some 27) (.agg #[.float .f64 4611686018427387904, .float .f64 4611686018427387904])).put (some 28) (.agg #[.float .f64 xl, .float .f64 xh])).put (some 31) y3).put (some 33) y4).put (some 34) y5).put (some 35) y6).put (some 9) z1) ∧ (∀ q, p[0]? = some (some q) → z1 = .pointer (some ⟨q, 0, none⟩)) ∧ OwnF w ((pb, #[.int .i64 0]) :: l) [#[.float .f64 0, .float .f64 0]] p v := by
  obtain ⟨y1, y2, y3, y4, y5, y6, z1, ha, E1, E2, E3, E4, E5, E6, G1, h⟩ := h
  obtain rfl := E1 (by decide)
  obtain rfl := E2 (by decide)
  exact ⟨y3, y4, y5, y6, z1, ha, G1, h⟩
theorem oqJ5_3 (h : oqJ5 w pb xl xh tl th gl gh l a0 3 p a v) : ∃ y4 y5 y6 z1 : Value, a = (((((((a0.put (some 27) (.agg #[.float .f64 4611686018427387904, .float .f64 4611686018427387904])).put (some 28) (.agg #[.float .f64 xl, .float .f64 xh])).put (some 31) (.agg #[.float .f64 4611686018427387904, .float .f64 4611686018427387904])).put (some 33) y4).put (some 34) y5).put (some 35) y6).put (some 9) z1) ∧ (∀ q, p[0]? = some (some q) → z1 = .pointer (some ⟨q, 0, none⟩)) ∧ OwnF w ((pb, #[.int .i64 0]) :: l) [#[.float .f64 0, .float .f64 0]] p v := by
  obtain ⟨y1, y2, y3, y4, y5, y6, z1, ha, E1, E2, E3, E4, E5, E6, G1, h⟩ := h
  obtain rfl := E1 (by decide)
  obtain rfl := E2 (by decide)
  obtain rfl := E3 (by decide)
  exact ⟨y4, y5, y6, z1, ha, G1, h⟩
theorem oqJ5_4 (h : oqJ5 w pb xl xh tl th gl gh l a0 4 p a v) : ∃ y5 y6 z1 : Value, a = (((((((a0.put (some 27) (.agg #[.float .f64 4611686018427387904, .float .f64 4611686018427387904])).put (some 28) (.agg #[.float .f64 xl, .float .f64 xh])).put (some 31) (.agg #[.float .f64 4611686018427387904, .float .f64 4611686018427387904])).put (some 33) (.agg #[.float .f64 4613937818241073152, .float .f64 4613937818241073152])).put (some 34) y5).put (some 35) y6).put (some 9) z1) ∧ (∀ q, p[0]? = some (some q) → z1 = .pointer (some ⟨q, 0, none⟩)) ∧ OwnF w ((pb, #[.int .i64 0]) :: l) [#[.float .f64 0, .float .f64 0]] p v := by
  obtain ⟨y1, y2, y3, y4, y5, y6, z1, ha, E1, E2, E3, E4, E5, E6, G1, h⟩ := h
  obtain rfl := E1 (by decide)
  obtain rfl := E2 (by decide)
  obtain rfl := E3 (by decide)
  obtain rfl := E4 (by decide)
  exact ⟨y5, y6, z1, ha, G1, h⟩
theorem oqJ5_5 (h : oqJ5 w pb xl xh tl th gl gh l a0 5 p a v) : ∃ y6 z1 : Value, a = (((((((a0.put (some 27) (.agg #[.float .f64 4611686018427387904, .float .f64 4611686018427387904])).put (some 28) (.agg #[.float .f64 xl, .float .f64 xh])).put (some 31) (.agg #[.float .f64 4611686018427387904, .float .f64 4611686018427387904])).put (some 33) (.agg #[.float .f64 4613937818241073152, .float .f64 4613937818241073152])).put (some 34) (.agg #[.float .f64 tl, .float .f64 th])).put (some 35) y6).put (some 9) z1) ∧ (∀ q, p[0]? = some (some q) → z1 = .pointer (some ⟨q, 0, none⟩)) ∧ OwnF w ((pb, #[.int .i64 0]) :: l) [#[.float .f64 0, .float .f64 0]] p v := by
  obtain ⟨y1, y2, y3, y4, y5, y6, z1, ha, E1, E2, E3, E4, E5, E6, G1, h⟩ := h
  obtain rfl := E1 (by decide)
  obtain rfl := E2 (by decide)
  obtain rfl := E3 (by decide)
  obtain rfl := E4 (by decide)
  obtain rfl := E5 (by decide)
  exact ⟨y6, z1, ha, G1, h⟩
theorem oqJ5_fin {q1 : Nat} (h : oqJ5 w pb xl xh tl th gl gh l a0 6 [some q1] a v) : a = (((((((a0.put (some 27) (.agg #[.float .f64 4611686018427387904, .float .f64 4611686018427387904])).put (some 28) (.agg #[.float .f64 xl, .float .f64 xh])).put (some 31) (.agg #[.float .f64 4611686018427387904, .float .f64 4611686018427387904])).put (some 33) (.agg #[.float .f64 4613937818241073152, .float .f64 4613937818241073152])).put (some 34) (.agg #[.float .f64 tl, .float .f64 th])).put (some 35) (.agg #[.float .f64 gl, .float .f64 gh])).put (some 9) (.pointer (some ⟨q1, 0, none⟩))) ∧ OwnF w ((pb, #[.int .i64 0]) :: l) [#[.float .f64 0, .float .f64 0]] [some q1] v := by
  obtain ⟨y1, y2, y3, y4, y5, y6, z1, ha, E1, E2, E3, E4, E5, E6, G1, h⟩ := h
  obtain rfl := E1 (by decide)
  obtain rfl := E2 (by decide)
  obtain rfl := E3 (by decide)
  obtain rfl := E4 (by decide)
  obtain rfl := E5 (by decide)
  obtain rfl := E6 (by decide)
  obtain rfl := G1 _ rfl
  exact ⟨ha, h⟩
end

/-- Region 6. -/
def oqJ6 (w : World) (pb : Nat) (ml mh nl nh ol oh : Nat) (l : RowL) (a0 : Act) (k : Nat) (p : List (Option Nat)) (a : Act) (v : World) : Prop :=
  ∃ y1 y2 y3 z1 : Value, a = ((((a0.put (some 40) y1).put (some 44) y2).put (some 45) y3).put (some 10) z1) ∧ (0 < k → y1 = .agg #[.float .f64 ml, .float .f64 mh]) ∧ (1 < k → y2 = .agg #[.float .f64 nl, .float .f64 nh]) ∧ (2 < k → y3 = .agg #[.float .f64 ol, .float .f64 oh]) ∧ (∀ q, p[0]? = some (some q) → z1 = .pointer (some ⟨q, 0, none⟩)) ∧ OwnF w ((pb, #[.int .i64 0]) :: l) [#[.float .f64 0, .float .f64 0]] p v
section
variable {w v : World} {pb : Nat} {ml mh nl nh ol oh : Nat} {l : RowL} {a0 a : Act} {p : List (Option Nat)}
theorem oqJ6_0 (h : oqJ6 w pb ml mh nl nh ol oh l a0 0 p a v) : ∃ y1 y2 y3 z1 : Value, a = ((((a0.put (some 40) y1).put (some 44) y2).put (some 45) y3).put (some 10) z1) ∧ (∀ q, p[0]? = some (some q) → z1 = .pointer (some ⟨q, 0, none⟩)) ∧ OwnF w ((pb, #[.int .i64 0]) :: l) [#[.float .f64 0, .float .f64 0]] p v := by
  obtain ⟨y1, y2, y3, z1, ha, E1, E2, E3, G1, h⟩ := h
  exact ⟨y1, y2, y3, z1, ha, G1, h⟩
theorem oqJ6_1 (h : oqJ6 w pb ml mh nl nh ol oh l a0 1 p a v) : ∃ y2 y3 z1 : Value, a = ((((a0.put (some 40) (.agg #[.float .f64 ml, .float .f64 mh])).put (some 44) y2).put (some 45) y3).put (some 10) z1) ∧ (∀ q, p[0]? = some (some q) → z1 = .pointer (some ⟨q, 0, none⟩)) ∧ OwnF w ((pb, #[.int .i64 0]) :: l) [#[.float .f64 0, .float .f64 0]] p v := by
  obtain ⟨y1, y2, y3, z1, ha, E1, E2, E3, G1, h⟩ := h
  obtain rfl := E1 (by decide)
  exact ⟨y2, y3, z1, ha, G1, h⟩
theorem oqJ6_2 (h : oqJ6 w pb ml mh nl nh ol oh l a0 2 p a v) : ∃ y3 z1 : Value, a = ((((a0.put (some 40) (.agg #[.float .f64 ml, .float .f64 mh])).put (some 44) (.agg #[.float .f64 nl, .float .f64 nh])).put (some 45) y3).put (some 10) z1) ∧ (∀ q, p[0]? = some (some q) → z1 = .pointer (some ⟨q, 0, none⟩)) ∧ OwnF w ((pb, #[.int .i64 0]) :: l) [#[.float .f64 0, .float .f64 0]] p v := by
  obtain ⟨y1, y2, y3, z1, ha, E1, E2, E3, G1, h⟩ := h
  obtain rfl := E1 (by decide)
  obtain rfl := E2 (by decide)
  exact ⟨y3, z1, ha, G1, h⟩
theorem oqJ6_fin {q1 : Nat} (h : oqJ6 w pb ml mh nl nh ol oh l a0 3 [some q1] a v) : a = ((((a0.put (some 40) (.agg #[.float .f64 ml, .float .f64 mh])).put (some 44) (.agg #[.float .f64 nl, .float .f64 nh])).put (some 45) (.agg #[.float .f64 ol, .float .f64 oh])).put (some 10) (.pointer (some ⟨q1, 0, none⟩))) ∧ OwnF w ((pb, #[.int .i64 0]) :: l) [#[.float .f64 0, .float .f64 0]] [some q1] v := by
  obtain ⟨y1, y2, y3, z1, ha, E1, E2, E3, G1, h⟩ := h
  obtain rfl := E1 (by decide)
  obtain rfl := E2 (by decide)
  obtain rfl := E3 (by decide)
  obtain rfl := G1 _ rfl
  exact ⟨ha, h⟩
end

set_option maxRecDepth 100000 in
set_option maxHeartbeats 16000000 in
theorem opair_law {u0 s al ah bl bh xl xh tl th gl gh ml mh nl nh ol oh df : Nat} (w : World)
    (c1 : Hid (∀ w, Calls Try.prog 46 #[.int .u32 u0] w fun r w' => r = .returned (.float .f64 s) ∧ w = w'))
    (c2 : Hid (∀ w, Calls Try.prog 35 #[.float .f64 s] w fun r w' => r = .returned (.agg #[.float .f64 s, .float .f64 s]) ∧ Below w.heap.size w w'))
    (c3 : Hid (∀ w, Calls Try.prog 43 #[.agg #[.float .f64 s, .float .f64 s]] w fun r w' => r = .returned (.tuple #[.agg #[.float .f64 al, .float .f64 ah], .agg #[.float .f64 bl, .float .f64 bh], .int .i64 0]) ∧ Below w.heap.size w w'))
    (c4 : Hid (∀ w, Calls Try.prog 47 #[] w fun r w' => r = .returned (.agg #[.float .f64 4614256656552045848, .float .f64 4614256656552045849]) ∧ Below w.heap.size w w'))
    (d5 : Hid (∀ pb v, Has1 v (pb, #[.int .i64 0]) → Calls Try.prog 19 #[.pointer (some ⟨pb, 0, none⟩), .float .f64 4611686018427387904] v fun r w' => r = .returned (.agg #[.float .f64 4611686018427387904, .float .f64 4611686018427387904]) ∧ Put ⟨pb, 0, none⟩ (.int .i64 0) v w'))
    (d6 : Hid (∀ pb v, Has1 v (pb, #[.int .i64 0]) → Calls Try.prog 24 #[.pointer (some ⟨pb, 0, none⟩), .agg #[.float .f64 4614256656552045848, .float .f64 4614256656552045849], .agg #[.float .f64 4611686018427387904, .float .f64 4611686018427387904]] v fun r w' => r = .returned (.agg #[.float .f64 xl, .float .f64 xh]) ∧ Put ⟨pb, 0, none⟩ (.int .i64 0) v w'))
    (d8 : Hid (∀ pb v, Has1 v (pb, #[.int .i64 0]) → Calls Try.prog 19 #[.pointer (some ⟨pb, 0, none⟩), .float .f64 4613937818241073152] v fun r w' => r = .returned (.agg #[.float .f64 4613937818241073152, .float .f64 4613937818241073152]) ∧ Put ⟨pb, 0, none⟩ (.int .i64 0) v w'))
    (d9 : Hid (∀ pb v, Has1 v (pb, #[.int .i64 0]) → Calls Try.prog 24 #[.pointer (some ⟨pb, 0, none⟩), .agg #[.float .f64 4611686018427387904, .float .f64 4611686018427387904], .agg #[.float .f64 4613937818241073152, .float .f64 4613937818241073152]] v fun r w' => r = .returned (.agg #[.float .f64 tl, .float .f64 th]) ∧ Put ⟨pb, 0, none⟩ (.int .i64 0) v w'))
    (d10 : Hid (∀ pb v, Has1 v (pb, #[.int .i64 0]) → Calls Try.prog 21 #[.pointer (some ⟨pb, 0, none⟩), .agg #[.float .f64 xl, .float .f64 xh], .agg #[.float .f64 tl, .float .f64 th]] v fun r w' => r = .returned (.agg #[.float .f64 gl, .float .f64 gh]) ∧ Put ⟨pb, 0, none⟩ (.int .i64 0) v w'))
    (d11 : Hid (∀ pb v, Has1 v (pb, #[.int .i64 0]) → Calls Try.prog 20 #[.pointer (some ⟨pb, 0, none⟩), .agg #[.float .f64 4614256656552045848, .float .f64 4614256656552045849], .agg #[.float .f64 al, .float .f64 ah]] v fun r w' => r = .returned (.agg #[.float .f64 ml, .float .f64 mh]) ∧ Put ⟨pb, 0, none⟩ (.int .i64 0) v w'))
    (d12 : Hid (∀ pb v, Has1 v (pb, #[.int .i64 0]) → Calls Try.prog 20 #[.pointer (some ⟨pb, 0, none⟩), .agg #[.float .f64 gl, .float .f64 gh], .agg #[.float .f64 bl, .float .f64 bh]] v fun r w' => r = .returned (.agg #[.float .f64 nl, .float .f64 nh]) ∧ Put ⟨pb, 0, none⟩ (.int .i64 0) v w'))
    (d13 : Hid (∀ pb v, Has1 v (pb, #[.int .i64 0]) → Calls Try.prog 25 #[.pointer (some ⟨pb, 0, none⟩), .agg #[.float .f64 ml, .float .f64 mh], .agg #[.float .f64 nl, .float .f64 nh]] v fun r w' => r = .returned (.agg #[.float .f64 ol, .float .f64 oh]) ∧ Put ⟨pb, 0, none⟩ (.int .i64 0) v w'))
    (o_leqol_418800017408 : (((FloatKind.f64.format.order ol 4607182418800017408 == some Ordering.lt) || (FloatKind.f64.format.order ol 4607182418800017408 == some Ordering.eq)) = true))
    (o_geqoh_418800017408 : (((FloatKind.f64.format.order oh 4607182418800017408 == some Ordering.gt) || (FloatKind.f64.format.order oh 4607182418800017408 == some Ordering.eq)) = true))
    (q_df : (∀ w, (binOp .sub 22 (.float .f64 oh) (.float .f64 ol)).run Try.prog w = .ok (.float .f64 df) w))
    (o_leqdf_435568345088 : (((FloatKind.f64.format.order df 4404520435568345088 == some Ordering.lt) || (FloatKind.f64.format.order df 4404520435568345088 == some Ordering.eq)) = true))
    (c15 : Hid (∀ w, Calls Try.prog 38 #[] w fun r w' => r = .returned (.bool true) ∧ Below w.heap.size w w')) :
    Calls Try.prog 9 #[.int .u32 u0] w fun r w' => r = .returned (.bool true) ∧ Below w.heap.size w w' := by
  have M := Lib.hid (Own.nil w)
  have eqF := eq_floats
  go_enter Try.func9, Try.ntmps9
  go_wp2_with fail
  refine (c1.out _).mono ?_
  rintro r w1_ ⟨rfl, rfl⟩
  go_wp2_with fail
  refine (c2.out _).mono ?_
  rintro r w2_ ⟨rfl, hb⟩
  replace M := Lib.hid (M.out.below hb)
  clear hb
  replace M := Lib.hid (M.out.made #[.float .f64 s, .float .f64 s] 24)
  go_wp2_with fail
  refine (c3.out _).mono ?_
  rintro r w3_ ⟨rfl, hb⟩
  replace M := Lib.hid (M.out.below hb)
  clear hb
  replace M := Lib.hid (M.out.made #[.float .f64 al, .float .f64 ah] 24)
  replace M := Lib.hid (M.out.made #[.float .f64 bl, .float .f64 bh] 24)
  replace M := Lib.hid (M.out.made #[.int .i64 0] 36)
  simp only [World.size_alloc] at M
  go_wp2_with fail
  refine (c4.out _).mono ?_
  rintro r w4_ ⟨rfl, hb⟩
  replace M := Lib.hid (M.out.below hb)
  clear hb
  replace M := Lib.hid (M.out.made #[.float .f64 4614256656552045848, .float .f64 4614256656552045849] 24).front
  go_upto_region 5 with fail
  replace M := Lib.hid M.out.drew
  revert M
  generalize (w4_.alloc (.cells #[.float .f64 4614256656552045848, .float .f64 4614256656552045849] 24)) = W5_
  intro M
  refine wp_region_noPanic ?_
  refine tails_region (S := fun w' => (w'.cell? ⟨w4_.heap.size, 0, none⟩ = some (.float .f64 4614256656552045848) ∧ w'.cell? ⟨w4_.heap.size, 1, none⟩ = some (.float .f64 4614256656552045849))) [] (by kernel_rfl) ?_ (fun hS => ?_)
  · exact (M.out.nth 1 rfl).two
  refine tk (x := ?_) 0 rfl (by kernel_rfl) ⟨by rfl, ?_⟩ (fun _ _ _ h => h) hS ?_
  rotate_left; focus (intro w hSw; (try dsimp only at hSw); go_simp; try with_reducible rfl)
  refine tk (x := ?_) 1 rfl (by kernel_rfl) ⟨by rfl, ?_⟩ (fun _ _ _ h => h) hS ?_
  rotate_left; focus (intro w hSw; (try dsimp only at hSw); go_simp; try with_reducible rfl)
  refine tk (x := ?_) 2 rfl (by kernel_rfl) ⟨by rfl, ?_⟩ (fun _ _ _ h => h) hS ?_
  rotate_left; focus (intro w hSw; (try dsimp only at hSw); go_simp; try with_reducible rfl)
  refine tk (x := ?_) 3 rfl (by kernel_rfl) ⟨by rfl, ?_⟩ (fun _ _ _ h => h) hS ?_
  rotate_left; focus (intro w hSw; (try dsimp only at hSw); go_simp; try with_reducible rfl)
  refine tk (x := ?_) 6 rfl (by kernel_rfl) ⟨by rfl, ?_⟩ (fun _ _ _ h => h) hS ?_
  rotate_left; focus (intro w hSw; (try dsimp only at hSw); go_simp; try with_reducible rfl)
  refine tk (x := ?_) 7 rfl (by kernel_rfl) ⟨by rfl, ?_⟩ (fun _ _ _ h => h) hS ?_
  rotate_left; focus (intro w hSw; (try dsimp only at hSw); go_simp; try with_reducible rfl)
  refine tk (x := ?_) 9 rfl (by kernel_rfl) ⟨by rfl, ?_⟩ (fun _ _ _ h => h) hS ?_
  rotate_left; focus (intro w hSw; (try dsimp only at hSw); go_simp; try with_reducible rfl)
  conv => arg 9; simp only [Act.put, go_sem]
  refine lpx_cccccc_1 M 4 5 8 10 11 12 13 [27, 28, 31, 33, 34, 35, 9] 1 (oqJ5 w (w3_.heap.size + 2) xl xh tl th gl gh) (by kernel_rfl) (by kernel_rfl) ?_ ?_ ?_ ?_ ?_ ?_ ?_ ?_ ?_ ?_
  · intro A hA
    obtain ⟨y1, hq1⟩ := put_ex (hA 27 (by simp))
    obtain ⟨y2, hq2⟩ := put_ex (hA 28 (by simp))
    obtain ⟨y3, hq3⟩ := put_ex (hA 31 (by simp))
    obtain ⟨y4, hq4⟩ := put_ex (hA 33 (by simp))
    obtain ⟨y5, hq5⟩ := put_ex (hA 34 (by simp))
    obtain ⟨y6, hq6⟩ := put_ex (hA 35 (by simp))
    obtain ⟨z1, hq7⟩ := put_ex (hA 9 (by simp))
    exact ⟨y1, y2, y3, y4, y5, y6, z1, by rw [hq1, hq2, hq3, hq4, hq5, hq6, hq7], by omega, by omega, by omega, by omega, by omega, by omega, by simp, OwnF.start M.out 1⟩
  · rintro k p a v ⟨y1, y2, y3, y4, y5, y6, z1, _, _, _, _, _, _, _, _, h⟩
    exact (h.own.nth 1 rfl).two
  · intro p a v hJ
    refine op_step (o := _) rfl (fun K hK => ?_)
    obtain ⟨y1, y2, y3, y4, y5, y6, z1, ha, gg1, h⟩ := oqJ5_0 hJ
    have h := Lib.hid h
    clear hJ
    subst ha
    go_simp
    refine (d5.out _ _ (h.out.own.nth 0 rfl)).mono ?_
    rintro rr w5 ⟨rfl, hp⟩
    try go_wp2_with fail
    refine hK.out _ _ ⟨_, y2, y3, y4, y5, y6, z1, ?_, fun _ => rfl, by omega, by omega, by omega, by omega, by omega, gg1, h.out.putHead hp⟩
    kernel_rfl
  · intro p a v hJ
    refine op_step (o := _) rfl (fun K hK => ?_)
    obtain ⟨y2, y3, y4, y5, y6, z1, ha, gg1, h⟩ := oqJ5_1 hJ
    have h := Lib.hid h
    clear hJ
    subst ha
    go_simp
    refine (d6.out _ _ (h.out.own.nth 0 rfl)).mono ?_
    rintro rr w5 ⟨rfl, hp⟩
    try go_wp2_with fail
    refine hK.out _ _ ⟨_, _, y3, y4, y5, y6, z1, ?_, fun _ => rfl, fun _ => rfl, by omega, by omega, by omega, by omega, gg1, h.out.putHead hp⟩
    kernel_rfl
  · intro p a v hJ
    refine op_step (o := _) rfl (fun K hK => ?_)
    obtain ⟨y3, y4, y5, y6, z1, ha, gg1, h⟩ := oqJ5_2 hJ
    have h := Lib.hid h
    clear hJ
    subst ha
    go_simp
    refine (d5.out _ _ (h.out.own.nth 0 rfl)).mono ?_
    rintro rr w5 ⟨rfl, hp⟩
    try go_wp2_with fail
    refine hK.out _ _ ⟨_, _, _, y4, y5, y6, z1, ?_, fun _ => rfl, fun _ => rfl, fun _ => rfl, by omega, by omega, by omega, gg1, h.out.putHead hp⟩
    kernel_rfl
  · intro p a v hJ
    refine op_step (o := _) rfl (fun K hK => ?_)
    obtain ⟨y4, y5, y6, z1, ha, gg1, h⟩ := oqJ5_3 hJ
    have h := Lib.hid h
    clear hJ
    subst ha
    go_simp
    refine (d8.out _ _ (h.out.own.nth 0 rfl)).mono ?_
    rintro rr w5 ⟨rfl, hp⟩
    try go_wp2_with fail
    refine hK.out _ _ ⟨_, _, _, _, y5, y6, z1, ?_, fun _ => rfl, fun _ => rfl, fun _ => rfl, fun _ => rfl, by omega, by omega, gg1, h.out.putHead hp⟩
    kernel_rfl
  · intro p a v hJ
    refine op_step (o := _) rfl (fun K hK => ?_)
    obtain ⟨y5, y6, z1, ha, gg1, h⟩ := oqJ5_4 hJ
    have h := Lib.hid h
    clear hJ
    subst ha
    go_simp
    refine (d9.out _ _ (h.out.own.nth 0 rfl)).mono ?_
    rintro rr w5 ⟨rfl, hp⟩
    try go_wp2_with fail
    refine hK.out _ _ ⟨_, _, _, _, _, y6, z1, ?_, fun _ => rfl, fun _ => rfl, fun _ => rfl, fun _ => rfl, fun _ => rfl, by omega, gg1, h.out.putHead hp⟩
    kernel_rfl
  · intro p a v hJ
    refine op_step (o := _) rfl (fun K hK => ?_)
    obtain ⟨y6, z1, ha, gg1, h⟩ := oqJ5_5 hJ
    have h := Lib.hid h
    clear hJ
    subst ha
    go_simp
    refine (d10.out _ _ (h.out.own.nth 0 rfl)).mono ?_
    rintro rr w5 ⟨rfl, hp⟩
    try go_wp2_with fail
    refine hK.out _ _ ⟨_, _, _, _, _, _, z1, ?_, fun _ => rfl, fun _ => rfl, fun _ => rfl, fun _ => rfl, fun _ => rfl, fun _ => rfl, gg1, h.out.putHead hp⟩
    kernel_rfl
  · intro k p a v hp hJ
    refine op_step (o := _) rfl (fun K hK => ?_)
    obtain ⟨y1, y2, y3, y4, y5, y6, z1, ha, ee1, ee2, ee3, ee4, ee5, ee6, gg1, h⟩ := hJ
    have h := Lib.hid h
    subst ha
    go_simp
    refine hK.out _ _ ⟨v.heap.size, y1, y2, y3, y4, y5, y6, .pointer (some ⟨v.heap.size, 0, none⟩), ?_, ee1, ee2, ee3, ee4, ee5, ee6, fun q hq => ptr_set hq, h.out.alloc hp rfl _⟩
    kernel_rfl
  intro p5_1 a v hJ
  obtain ⟨rfl, h⟩ := oqJ5_fin hJ
  clear hJ
  replace M := Lib.hid h.fin1
  clear h
  refine tails_one (T := []) (i := 14) (o := _) rfl (by kernel_rfl) (fun K hK => ?_)
  have kc := (M.out.nth 0 rfl).2.1
  have kf := (M.out.nth 0 rfl).2.2
  replace M : Hid (Own w [(p5_1, #[.float .f64 gl, .float .f64 gh]), ((w3_.heap.size + 2), #[.int .i64 0]), (w4_.heap.size, #[.float .f64 4614256656552045848, .float .f64 4614256656552045849]), ((w3_.heap.size + 1), #[.float .f64 bl, .float .f64 bh]), (w3_.heap.size, #[.float .f64 al, .float .f64 ah]), (w2_.heap.size, #[.float .f64 s, .float .f64 s])] _) := Lib.hid (M.out.set2 0 rfl (.float .f64 gl) (.float .f64 gh))
  go_simp
  refine hK.out _ _ (Or.inr (M.out.nth 2 rfl).two) (fun hHeld => ?_)
  clear hK K hHeld kc kf
  refine tails_done (by kernel_rfl) ?_ _
  refine NoPanic.normal ?_
  clear hS
  replace M : Hid (Own w [((w3_.heap.size + 2), #[.int .i64 0]), (p5_1, #[.float .f64 gl, .float .f64 gh]), (w4_.heap.size, #[.float .f64 4614256656552045848, .float .f64 4614256656552045849]), ((w3_.heap.size + 1), #[.float .f64 bl, .float .f64 bh]), (w3_.heap.size, #[.float .f64 al, .float .f64 ah]), (w2_.heap.size, #[.float .f64 s, .float .f64 s])] _) := Lib.hid M.out.front
  revert M
  generalize ((v.setCell ⟨p5_1, 0, none⟩ (.float .f64 gl)).setCell ⟨p5_1, 1, none⟩ (.float .f64 gh)) = W6_
  intro M
  go_upto_region 6 with fail
  replace M := Lib.hid M.out.drew
  refine wp_region_noPanic ?_
  refine tails_region (S := fun w' => (w'.cell? ⟨w4_.heap.size, 0, none⟩ = some (.float .f64 4614256656552045848) ∧ w'.cell? ⟨w4_.heap.size, 1, none⟩ = some (.float .f64 4614256656552045849)) ∧ (w'.cell? ⟨w3_.heap.size, 0, none⟩ = some (.float .f64 al) ∧ w'.cell? ⟨w3_.heap.size, 1, none⟩ = some (.float .f64 ah)) ∧ (w'.cell? ⟨p5_1, 0, none⟩ = some (.float .f64 gl) ∧ w'.cell? ⟨p5_1, 1, none⟩ = some (.float .f64 gh)) ∧ (w'.cell? ⟨(w3_.heap.size + 1), 0, none⟩ = some (.float .f64 bl) ∧ w'.cell? ⟨(w3_.heap.size + 1), 1, none⟩ = some (.float .f64 bh))) [] (by kernel_rfl) ?_ (fun hS => ?_)
  · exact ⟨(M.out.nth 2 rfl).two, (M.out.nth 4 rfl).two, (M.out.nth 1 rfl).two, (M.out.nth 3 rfl).two⟩
  refine tk (x := ?_) 0 rfl (by kernel_rfl) ⟨by rfl, ?_⟩ (fun _ _ _ h => h) hS ?_
  rotate_left; focus (intro w hSw; (try dsimp only at hSw); go_simp; try with_reducible rfl)
  refine tk (x := ?_) 1 rfl (by kernel_rfl) ⟨by rfl, ?_⟩ (fun _ _ _ h => h) hS ?_
  rotate_left; focus (intro w hSw; (try dsimp only at hSw); go_simp; try with_reducible rfl)
  refine tk (x := ?_) 2 rfl (by kernel_rfl) ⟨by rfl, ?_⟩ (fun _ _ _ h => h) hS ?_
  rotate_left; focus (intro w hSw; (try dsimp only at hSw); go_simp; try with_reducible rfl)
  refine tk (x := ?_) 3 rfl (by kernel_rfl) ⟨by rfl, ?_⟩ (fun _ _ _ h => h) hS ?_
  rotate_left; focus (intro w hSw; (try dsimp only at hSw); go_simp; try with_reducible rfl)
  refine tk (x := ?_) 5 rfl (by kernel_rfl) ⟨by rfl, ?_⟩ (fun _ _ _ h => h) hS ?_
  rotate_left; focus (intro w hSw; (try dsimp only at hSw); go_simp; try with_reducible rfl)
  refine tk (x := ?_) 6 rfl (by kernel_rfl) ⟨by rfl, ?_⟩ (fun _ _ _ h => h) hS ?_
  rotate_left; focus (intro w hSw; (try dsimp only at hSw); go_simp; try with_reducible rfl)
  refine tk (x := ?_) 7 rfl (by kernel_rfl) ⟨by rfl, ?_⟩ (fun _ _ _ h => h) hS ?_
  rotate_left; focus (intro w hSw; (try dsimp only at hSw); go_simp; try with_reducible rfl)
  conv => arg 9; simp only [Act.put, go_sem]
  refine lpx_ccc_1 M 4 8 9 10 [40, 44, 45, 10] 1 (oqJ6 w (w3_.heap.size + 2) ml mh nl nh ol oh) (by kernel_rfl) (by kernel_rfl) ?_ ?_ ?_ ?_ ?_ ?_ ?_
  · intro A hA
    obtain ⟨y1, hq1⟩ := put_ex (hA 40 (by simp))
    obtain ⟨y2, hq2⟩ := put_ex (hA 44 (by simp))
    obtain ⟨y3, hq3⟩ := put_ex (hA 45 (by simp))
    obtain ⟨z1, hq4⟩ := put_ex (hA 10 (by simp))
    exact ⟨y1, y2, y3, z1, by rw [hq1, hq2, hq3, hq4], by omega, by omega, by omega, by simp, OwnF.start M.out 1⟩
  · rintro k p a v ⟨y1, y2, y3, z1, _, _, _, _, _, h⟩
    exact ⟨(h.own.nth 2 rfl).two, (h.own.nth 4 rfl).two, (h.own.nth 1 rfl).two, (h.own.nth 3 rfl).two⟩
  · intro p a v hJ
    refine op_step (o := _) rfl (fun K hK => ?_)
    obtain ⟨y1, y2, y3, z1, ha, gg1, h⟩ := oqJ6_0 hJ
    have h := Lib.hid h
    clear hJ
    subst ha
    go_simp
    refine (d11.out _ _ (h.out.own.nth 0 rfl)).mono ?_
    rintro rr w5 ⟨rfl, hp⟩
    try go_wp2_with fail
    refine hK.out _ _ ⟨_, y2, y3, z1, ?_, fun _ => rfl, by omega, by omega, gg1, h.out.putHead hp⟩
    kernel_rfl
  · intro p a v hJ
    refine op_step (o := _) rfl (fun K hK => ?_)
    obtain ⟨y2, y3, z1, ha, gg1, h⟩ := oqJ6_1 hJ
    have h := Lib.hid h
    clear hJ
    subst ha
    go_simp
    refine (d12.out _ _ (h.out.own.nth 0 rfl)).mono ?_
    rintro rr w5 ⟨rfl, hp⟩
    try go_wp2_with fail
    refine hK.out _ _ ⟨_, _, y3, z1, ?_, fun _ => rfl, fun _ => rfl, by omega, gg1, h.out.putHead hp⟩
    kernel_rfl
  · intro p a v hJ
    refine op_step (o := _) rfl (fun K hK => ?_)
    obtain ⟨y3, z1, ha, gg1, h⟩ := oqJ6_2 hJ
    have h := Lib.hid h
    clear hJ
    subst ha
    go_simp
    refine (d13.out _ _ (h.out.own.nth 0 rfl)).mono ?_
    rintro rr w5 ⟨rfl, hp⟩
    try go_wp2_with fail
    refine hK.out _ _ ⟨_, _, _, z1, ?_, fun _ => rfl, fun _ => rfl, fun _ => rfl, gg1, h.out.putHead hp⟩
    kernel_rfl
  · intro k p a v hp hJ
    refine op_step (o := _) rfl (fun K hK => ?_)
    obtain ⟨y1, y2, y3, z1, ha, ee1, ee2, ee3, gg1, h⟩ := hJ
    have h := Lib.hid h
    subst ha
    go_simp
    refine hK.out _ _ ⟨v.heap.size, y1, y2, y3, .pointer (some ⟨v.heap.size, 0, none⟩), ?_, ee1, ee2, ee3, fun q hq => ptr_set hq, h.out.alloc hp rfl _⟩
    kernel_rfl
  intro p6_1 a v hJ
  obtain ⟨rfl, h⟩ := oqJ6_fin hJ
  clear hJ
  replace M := Lib.hid h.fin1
  clear h
  refine tails_one (T := []) (i := 11) (o := _) rfl (by kernel_rfl) (fun K hK => ?_)
  have kc := (M.out.nth 0 rfl).2.1
  have kf := (M.out.nth 0 rfl).2.2
  replace M : Hid (Own w [(p6_1, #[.float .f64 ol, .float .f64 oh]), ((w3_.heap.size + 2), #[.int .i64 0]), (p5_1, #[.float .f64 gl, .float .f64 gh]), (w4_.heap.size, #[.float .f64 4614256656552045848, .float .f64 4614256656552045849]), ((w3_.heap.size + 1), #[.float .f64 bl, .float .f64 bh]), (w3_.heap.size, #[.float .f64 al, .float .f64 ah]), (w2_.heap.size, #[.float .f64 s, .float .f64 s])] _) := Lib.hid (M.out.set2 0 rfl (.float .f64 ol) (.float .f64 oh))
  go_simp
  refine hK.out _ _ (Or.inr ⟨(M.out.nth 3 rfl).two, (M.out.nth 5 rfl).two, (M.out.nth 2 rfl).two, (M.out.nth 4 rfl).two⟩) (fun hHeld => ?_)
  clear hK K hHeld kc kf
  refine tails_done (by kernel_rfl) ?_ _
  refine NoPanic.normal ?_
  clear hS
  replace M : Hid (Own w [((w3_.heap.size + 2), #[.int .i64 0]), (p6_1, #[.float .f64 ol, .float .f64 oh]), (p5_1, #[.float .f64 gl, .float .f64 gh]), (w4_.heap.size, #[.float .f64 4614256656552045848, .float .f64 4614256656552045849]), ((w3_.heap.size + 1), #[.float .f64 bl, .float .f64 bh]), (w3_.heap.size, #[.float .f64 al, .float .f64 ah]), (w2_.heap.size, #[.float .f64 s, .float .f64 s])] _) := Lib.hid M.out.front
  revert M
  generalize ((v.setCell ⟨p6_1, 0, none⟩ (.float .f64 ol)).setCell ⟨p6_1, 1, none⟩ (.float .f64 oh)) = W7_
  intro M
  go_wp2_with fail
  refine (err_any 0 _ 0 _ (M.out.nth 0 rfl).pc).mono ?_
  rintro r w8_ ⟨rfl, rfl⟩
  obtain ⟨k1, k2⟩ := (M.out.nth 1 rfl).two
  go_wp2_with fail
  refine (c15.out _).mono ?_
  rintro r w9_ ⟨rfl, hb⟩
  replace M := Lib.hid (M.out.below hb)
  clear hb
  clear k1 k2
  go_wp2
  go_ret
  exact ⟨rfl, M.out.base⟩

end Go.Proofs.Ytoiaefgpegiieaa

namespace Go.Proofs.Ytoiaefgpegiieaa
open Go.RowKit

theorem leq8 {x y : Nat} (lx : x < 18446744073709551616) (ly : y < 18446744073709551616) (rx : rightB x = true) (ry : rightB y = true) (h : val x ≤ val y) : ((FloatKind.f64.format.order x y == some Ordering.lt) || (FloatKind.f64.format.order x y == some Ordering.eq)) = true :=
  (order_le x y lx ly rx ry).trans (decide_eq_true h)
theorem geq8 {x y : Nat} (lx : x < 18446744073709551616) (ly : y < 18446744073709551616) (rx : rightB x = true) (ry : rightB y = true) (h : val y ≤ val x) : ((FloatKind.f64.format.order x y == some Ordering.gt) || (FloatKind.f64.format.order x y == some Ordering.eq)) = true := by
  rw [order_gt x y lx ly rx ry, order_eq x y lx ly rx ry]
  by_cases g : val y < val x
  · rw [decide_eq_true g]; rfl
  · rw [decide_eq_true (by omega : val x = val y), Bool.or_true]
theorem o_lo (x : Nat) : (oneR x).lo = x := by rw [oneR]
theorem o_hi (x : Nat) : (oneR x).hi = x := by rw [oneR]
theorem opair_any (u : Nat) (w : World) (hu : u < 4294967296) : Calls Try.prog 9 #[.int .u32 u] w fun r w' => r = .returned (.bool true) ∧ Below w.heap.size w w' := by
  obtain ⟨f, f1, f2, f3, f4, f5⟩ := frac_word u hu
  have hs : In (oneR f) ouI := ⟨one_fit f2 f3, by show val 0 ≤ val f; rw [Or.v0]; exact f4, f5⟩
  obtain ⟨x1, x2, x3, x4, x5⟩ := one_snd hs
  have P := pair_in hs
  obtain ⟨c1, c2, c3⟩ := Or.consts
  have e1 : val u1 = SS := unit_ends.1
  have lo : val (addR (mulR piR (Or.a (oneR f))) (mulR Or.g (Or.b (oneR f)))).lo ≤ val u1 := by
    have k := has_le x5 h_one Rat.le_refl
    rw [o_hi] at k
    exact k
  have hi : val u1 ≤ val (addR (mulR piR (Or.a (oneR f))) (mulR Or.g (Or.b (oneR f)))).hi := by
    have k := has_le h_one x5 Rat.le_refl
    rw [o_lo] at k
    exact k
  obtain ⟨df, q1, q2, q3, q4, q5⟩ := sub_all x3.hi x3.lo x3.rhi x3.rlo x3.le (y0 := 4404520435568345088) (by decide) (by decide) x4
  exact opair_law (u0 := u) (s := f) w (c1 := Lib.hid fun w => frac_walk u f w (fun w => run_float_arith w .quo 22 .f64 _ _ _ f1)) (c2 := Lib.hid fun w => p8_any f f2 f3 w) (c3 := Lib.hid fun w => pair8 hs w) (c4 := Lib.hid pi_any)
    (d5 := Lib.hid fun pb => calc_num w2_fit pb) (d6 := Lib.hid fun pb => calc_div big_fit.1 w2_fit c1 pb) (d8 := Lib.hid fun pb => calc_num w3_fit pb) (d9 := Lib.hid fun pb => calc_div w2_fit w3_fit c2 pb) (d10 := Lib.hid fun pb => calc_sub c1 c2 c3 pb)
    (d11 := Lib.hid fun pb => calc_mul big_fit.1 P.a.fit x1 pb) (d12 := Lib.hid fun pb => calc_mul c3 P.b.fit x2 pb) (d13 := Lib.hid fun pb => calc_add x1 x2 x3 pb)
    (o_leqol_418800017408 := leq8 x3.lo (by decide) x3.rlo (by decide) lo) (o_geqoh_418800017408 := geq8 x3.hi (by decide) x3.rhi (by decide) hi)
    (q_df := fun w => run_float_arith w .sub 22 .f64 _ _ _ q1) (o_leqdf_435568345088 := leq8 q2 (by decide) q3 (by decide) q5) (c15 := Lib.hid awake8_any)
end Go.Proofs.Ytoiaefgpegiieaa

namespace Go.Proofs.Ytoiaefgpegiieaa
open Go.ChangeShapes Go.WideShapes Go.ChangeAt Go.RowKit

set_option maxRecDepth 100000 in
theorem orenPair_lifted (os : Os) (started : os.Started) (H : Type) (enc : TypeId × Value → H) :
    ReturnsInHanded {} Try.checked os 9 .any (Rows.orenPairSpec.pre6 enc Try.prog Try.f9 Rows.orenPairRow.domain false) (Rows.orenPairSpec.post enc Try.prog Try.f9 false true false false) := by
  refine returnsInHanded_of_change (C := Try.checked) Try.own started (by kernel_rfl) Try.func9
    (ChangeSpec.witness6 (enc := enc) (C := Try.checked) false ⟨#[], #[.int .u32 0], []⟩ 8 (by kernel_rfl) (by kernel_rfl) (by kernel_rfl) (by kernel_rfl)) ?_
  intro W base args ds gs before hval0 hW hcnd _
  have hval : ∀ (j : Nat) t v, Try.f9.params[j]? = some t → args[j]? = some v → Value.okWide Try.prog W .any base t v := hval0
  have hW' := hW
  obtain ⟨p, q, hA0, hV, rfl, hfz, hnd⟩ := hW
  have hA : DataW.TrodAll enc Try.prog W 0 (fun _ => true) true Try.f9.params.toList args.toList ds p := hA0
  rw [Try.params9] at hA hval
  obtain ⟨v0, d0, rfl, rfl, h0⟩ := trodAll_one hA
  obtain ⟨rfl, rfl⟩ := trodVars_none hV
  obtain ⟨y0, rfl, rfl, rfl, wf0⟩ := open_int Try.underlying56 (hval 0 56 v0 rfl rfl) h0
  clear hA0 hval0
  simp only [List.append_nil] at hW'
  have b0 : 0 ≤ y0 ∧ y0 < 4294967296 := by
    have := wf0
    simp [Lit.wf] at this
    have e1 : IntKind.u32.min = 0 := by decide
    have e2 : IntKind.u32.max = 4294967295 := by decide
    omega
  obtain ⟨x0, rfl⟩ := Int.eq_ofNat_of_zero_le b0.1
  have l0_ : x0 < 4294967296 := by omega
  refine (opair_any x0 W l0_).mono fun e W' ⟨he, hw⟩ => ?_
  subst he
  refine ⟨_, rfl, _, _, _, [], [], [], hW', trodAll_mk1 (shut_bool Try.underlying4 _), trodAll_mk1 (shut_int Try.underlying56 wf0), rfl, hw.frame _, fun h => by cases h⟩

theorem orenPair_holds : Rows.OrenPairSaid :=
  OpenClaim.holds_of_wide 9 Try.f9 rfl rfl rfl rfl rfl rfl rfl ⟨rfl, rfl, rfl, rfl, rfl⟩ rfl rfl rfl rfl rfl (by kernel_rfl) Try.func9 (by kernel_rfl)
    (of_decide_eq_true (by kernel_rfl)) (by unfold Func.isWrapper; first | (rw [if_pos (by decide +kernel)]; kernel_rfl) | (rw [if_neg (by decide +kernel)]; exact ⟨rfl, rfl⟩))
    (fun os started H enc _ => orenPair_lifted os started H enc)

end Go.Proofs.Ytoiaefgpegiieaa
