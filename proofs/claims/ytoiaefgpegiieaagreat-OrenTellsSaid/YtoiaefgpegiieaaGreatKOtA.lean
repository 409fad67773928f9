/- burnishref08: what its functions answer, by letters. -/
import Derived.Test.YtoiaefgpegiieaaGreatKQO1
import Derived.Deep.RegionHeld3
namespace Go.Proofs.YtoiaefgpegiieaaGreat
open Go.RowKit
attribute [local go_sem] run_store_float

section
variable {P : Program} {ops : Array Oper} {Q : Exit → Act → World → Prop} {md : Region.Mode} {S : World → Prop}
theorem lpz_cccccc_1 {a0 : Act} {B v : World} {l : List (Nat × Array Value)} {x : Nat × Array Value} (_ : Hid (Own B (x :: l) v)) {w0 : World} {L0 : Array Bool} (c1 c2 c3 c4 c5 c6 m1 : Nat) (slots : List Nat) (N : Nat) (J : List (Nat × Array Value) → Act → Nat → List (Option Nat) → Act → World → Prop) (hok : latOkP [false, false, false, false, false, false] md ops L0 [c1, c2, c3, c4, c5, c6] [m1] = true)
    (hsl : (slots.all fun s => decide (s < a0.tmps.size)) = true) (h0 : ∀ A : Act, (∀ s, s ∈ slots → s < A.tmps.size) → J l A 0 (List.replicate 1 none) A w0)
    (hS : ∀ k p a w, J l a0 k p a w → S w)
    (k1 : ∀ p a w, J l a0 0 p a w → wpOp P ops Q c1 (fun b v => J l a0 1 p b v) a w)
    (k2 : ∀ p a w, J l a0 1 p a w → wpOp P ops Q c2 (fun b v => J l a0 2 p b v) a w)
    (k3 : ∀ p a w, J l a0 2 p a w → wpOp P ops Q c3 (fun b v => J l a0 3 p b v) a w)
    (k4 : ∀ p a w, J l a0 3 p a w → wpOp P ops Q c4 (fun b v => J l a0 4 p b v) a w)
    (k5 : ∀ p a w, J l a0 4 p a w → wpOp P ops Q c5 (fun b v => J l a0 5 p b v) a w)
    (k6 : ∀ p a w, J l a0 5 p a w → wpOp P ops Q c6 (fun b v => J l a0 6 p b v) a w)
    (n1 : ∀ k p a w, p[0]? = some none → J l a0 k p a w → wpOp P ops Q m1 (fun b v => ∃ q, J l a0 k (p.set 0 (some q)) b v) a w)
    (fin : ∀ q1 a w, J l a0 6 [some q1] a w → wpAnyV P md ops Q S [] N (lstOf L0 [c1, c2, c3, c4, c5, c6] [m1] 6 [true]) a w) :
    wpAnyV P md ops Q S [] (N + 7) L0 a0 w0 := by
  refine latP_from (pl := [false, false, false, false, false, false]) [c1, c2, c3, c4, c5, c6] [m1] slots N 7 (J l) hok rfl hsl h0 hS (fun k i p a w hk hn hJ => ?_) (fun k i p a w hk hn hJ => ?_) (fun k m i p a w hm hp hJ => ?_) (fun p a w hp hall hJ => ?_)
  · rcases k with _ | _ | _ | _ | _ | _ | k
    · obtain rfl : c1 = i := by simpa using hk
      exact k1 p a w hJ
    · obtain rfl : c2 = i := by simpa using hk
      exact k2 p a w hJ
    · obtain rfl : c3 = i := by simpa using hk
      exact k3 p a w hJ
    · obtain rfl : c4 = i := by simpa using hk
      exact k4 p a w hJ
    · obtain rfl : c5 = i := by simpa using hk
      exact k5 p a w hJ
    · obtain rfl : c6 = i := by simpa using hk
      exact k6 p a w hJ
    · simp at hk
  · rcases k with _ | _ | _ | _ | _ | _ | k
    · exact absurd hn (by decide)
    · exact absurd hn (by decide)
    · exact absurd hn (by decide)
    · exact absurd hn (by decide)
    · exact absurd hn (by decide)
    · exact absurd hn (by decide)
    · simp at hk
  · rcases m with _ | m
    · obtain rfl : m1 = i := by simpa using hm
      exact n1 k p a w hp hJ
    · simp at hm
  · obtain ⟨q1, rfl⟩ := fin_one hp hall
    exact fin q1 a w hJ
theorem lpz_cccc_1 {a0 : Act} {B v : World} {l : List (Nat × Array Value)} {x : Nat × Array Value} (_ : Hid (Own B (x :: l) v)) {w0 : World} {L0 : Array Bool} (c1 c2 c3 c4 m1 : Nat) (slots : List Nat) (N : Nat) (J : List (Nat × Array Value) → Act → Nat → List (Option Nat) → Act → World → Prop) (hok : latOkP [false, false, false, false] md ops L0 [c1, c2, c3, c4] [m1] = true)
    (hsl : (slots.all fun s => decide (s < a0.tmps.size)) = true) (h0 : ∀ A : Act, (∀ s, s ∈ slots → s < A.tmps.size) → J l A 0 (List.replicate 1 none) A w0)
    (hS : ∀ k p a w, J l a0 k p a w → S w)
    (k1 : ∀ p a w, J l a0 0 p a w → wpOp P ops Q c1 (fun b v => J l a0 1 p b v) a w)
    (k2 : ∀ p a w, J l a0 1 p a w → wpOp P ops Q c2 (fun b v => J l a0 2 p b v) a w)
    (k3 : ∀ p a w, J l a0 2 p a w → wpOp P ops Q c3 (fun b v => J l a0 3 p b v) a w)
    (k4 : ∀ p a w, J l a0 3 p a w → wpOp P ops Q c4 (fun b v => J l a0 4 p b v) a w)
    (n1 : ∀ k p a w, p[0]? = some none → J l a0 k p a w → wpOp P ops Q m1 (fun b v => ∃ q, J l a0 k (p.set 0 (some q)) b v) a w)
    (fin : ∀ q1 a w, J l a0 4 [some q1] a w → wpAnyV P md ops Q S [] N (lstOf L0 [c1, c2, c3, c4] [m1] 4 [true]) a w) :
    wpAnyV P md ops Q S [] (N + 5) L0 a0 w0 := by
  refine latP_from (pl := [false, false, false, false]) [c1, c2, c3, c4] [m1] slots N 5 (J l) hok rfl hsl h0 hS (fun k i p a w hk hn hJ => ?_) (fun k i p a w hk hn hJ => ?_) (fun k m i p a w hm hp hJ => ?_) (fun p a w hp hall hJ => ?_)
  · rcases k with _ | _ | _ | _ | k
    · obtain rfl : c1 = i := by simpa using hk
      exact k1 p a w hJ
    · obtain rfl : c2 = i := by simpa using hk
      exact k2 p a w hJ
    · obtain rfl : c3 = i := by simpa using hk
      exact k3 p a w hJ
    · obtain rfl : c4 = i := by simpa using hk
      exact k4 p a w hJ
    · simp at hk
  · rcases k with _ | _ | _ | _ | k
    · exact absurd hn (by decide)
    · exact absurd hn (by decide)
    · exact absurd hn (by decide)
    · exact absurd hn (by decide)
    · simp at hk
  · rcases m with _ | m
    · obtain rfl : m1 = i := by simpa using hm
      exact n1 k p a w hp hJ
    · simp at hm
  · obtain ⟨q1, rfl⟩ := fin_one hp hall
    exact fin q1 a w hJ
theorem lpz_cc_1 {a0 : Act} {B v : World} {l : List (Nat × Array Value)} {x : Nat × Array Value} (_ : Hid (Own B (x :: l) v)) {w0 : World} {L0 : Array Bool} (c1 c2 m1 : Nat) (slots : List Nat) (N : Nat) (J : List (Nat × Array Value) → Act → Nat → List (Option Nat) → Act → World → Prop) (hok : latOkP [false, false] md ops L0 [c1, c2] [m1] = true)
    (hsl : (slots.all fun s => decide (s < a0.tmps.size)) = true) (h0 : ∀ A : Act, (∀ s, s ∈ slots → s < A.tmps.size) → J l A 0 (List.replicate 1 none) A w0)
    (hS : ∀ k p a w, J l a0 k p a w → S w)
    (k1 : ∀ p a w, J l a0 0 p a w → wpOp P ops Q c1 (fun b v => J l a0 1 p b v) a w)
    (k2 : ∀ p a w, J l a0 1 p a w → wpOp P ops Q c2 (fun b v => J l a0 2 p b v) a w)
    (n1 : ∀ k p a w, p[0]? = some none → J l a0 k p a w → wpOp P ops Q m1 (fun b v => ∃ q, J l a0 k (p.set 0 (some q)) b v) a w)
    (fin : ∀ q1 a w, J l a0 2 [some q1] a w → wpAnyV P md ops Q S [] N (lstOf L0 [c1, c2] [m1] 2 [true]) a w) :
    wpAnyV P md ops Q S [] (N + 3) L0 a0 w0 := by
  refine latP_from (pl := [false, false]) [c1, c2] [m1] slots N 3 (J l) hok rfl hsl h0 hS (fun k i p a w hk hn hJ => ?_) (fun k i p a w hk hn hJ => ?_) (fun k m i p a w hm hp hJ => ?_) (fun p a w hp hall hJ => ?_)
  · rcases k with _ | _ | k
    · obtain rfl : c1 = i := by simpa using hk
      exact k1 p a w hJ
    · obtain rfl : c2 = i := by simpa using hk
      exact k2 p a w hJ
    · simp at hk
  · rcases k with _ | _ | k
    · exact absurd hn (by decide)
    · exact absurd hn (by decide)
    · simp at hk
  · rcases m with _ | m
    · obtain rfl : m1 = i := by simpa using hm
      exact n1 k p a w hp hJ
    · simp at hm
  · obtain ⟨q1, rfl⟩ := fin_one hp hall
    exact fin q1 a w hJ
end

set_option maxRecDepth 100000 in
set_option maxHeartbeats 16000000 in
theorem refPair_iv {sl sh : Nat} (w : World)
    (c1 : Hid (∀ w, Calls Tryz.prog 16 #[.agg #[.float .f64 sl, .float .f64 sh]] w fun r w' => r = .returned (.bool false) ∧ Below w.heap.size w w')) :
    Calls Tryz.prog 6 #[.agg #[.float .f64 sl, .float .f64 sh]] w fun r w' => r = .returned (.tuple #[.agg #[.float .f64 0, .float .f64 0], .agg #[.float .f64 0, .float .f64 0], .int .i64 20]) ∧ Below w.heap.size w w' := by
  have M := Lib.hid ((((Own.nil w).made #[.float .f64 sl, .float .f64 sh] 24).made #[.float .f64 0, .float .f64 0] 24).made #[.float .f64 0, .float .f64 0] 24)
  simp only [World.size_alloc] at M
  have eqF := eq_floats
  go_enter Tryz.func6, Tryz.ntmps6
  obtain ⟨k1, k2⟩ := (M.out.nth 2 rfl).two
  go_wp2_with fail
  refine (c1.out _).mono ?_
  rintro r w1_ ⟨rfl, hb⟩
  replace M := Lib.hid (M.out.below hb)
  clear hb
  clear k1 k2
  have kc := (M.out.nth 1 rfl).2.1
  have kf := (M.out.nth 1 rfl).2.2
  replace M : Hid (Own w [((w.heap.size + 1 + 1), #[.float .f64 0, .float .f64 0]), ((w.heap.size + 1), #[.float .f64 0, .float .f64 0]), (w.heap.size, #[.float .f64 sl, .float .f64 sh])] _) := Lib.hid (M.out.set2 1 rfl (.float .f64 0) (.float .f64 0))
  have kc := (M.out.nth 0 rfl).2.1
  have kf := (M.out.nth 0 rfl).2.2
  replace M : Hid (Own w [((w.heap.size + 1 + 1), #[.float .f64 0, .float .f64 0]), ((w.heap.size + 1), #[.float .f64 0, .float .f64 0]), (w.heap.size, #[.float .f64 sl, .float .f64 sh])] _) := Lib.hid (M.out.set2 0 rfl (.float .f64 0) (.float .f64 0))
  go_wp2
  obtain ⟨f1, f2⟩ := (M.out.nth 1 rfl).two
  obtain ⟨f3, f4⟩ := (M.out.nth 0 rfl).two
  exact bodyPost_ret (v := .tuple #[.agg #[.float .f64 0, .float .f64 0], .agg #[.float .f64 0, .float .f64 0], .int .i64 20]) (by simp [results, Tryz.results6, go_sem, f1, f2, f3, f4]) rfl ⟨rfl, M.out.base⟩

set_option maxRecDepth 100000 in
set_option maxHeartbeats 16000000 in
theorem refPair_arg {sl sh : Nat} (w : World)
    (c1 : Hid (∀ w, Calls Tryz.prog 16 #[.agg #[.float .f64 sl, .float .f64 sh]] w fun r w' => r = .returned (.bool true) ∧ Below w.heap.size w w'))
    (c2 : Hid (∀ w, Calls Tryz.prog 17 #[.agg #[.float .f64 sl, .float .f64 sh], .float .f64 0, .float .f64 4607182418800017408] w fun r w' => r = .returned (.bool false) ∧ Below w.heap.size w w')) :
    Calls Tryz.prog 6 #[.agg #[.float .f64 sl, .float .f64 sh]] w fun r w' => r = .returned (.tuple #[.agg #[.float .f64 0, .float .f64 0], .agg #[.float .f64 0, .float .f64 0], .int .i64 2]) ∧ Below w.heap.size w w' := by
  have M := Lib.hid ((((Own.nil w).made #[.float .f64 sl, .float .f64 sh] 24).made #[.float .f64 0, .float .f64 0] 24).made #[.float .f64 0, .float .f64 0] 24)
  simp only [World.size_alloc] at M
  have eqF := eq_floats
  go_enter Tryz.func6, Tryz.ntmps6
  obtain ⟨k1, k2⟩ := (M.out.nth 2 rfl).two
  go_wp2_with fail
  refine (c1.out _).mono ?_
  rintro r w1_ ⟨rfl, hb⟩
  replace M := Lib.hid (M.out.below hb)
  clear hb
  clear k1 k2
  obtain ⟨k1, k2⟩ := (M.out.nth 2 rfl).two
  go_wp2_with fail
  refine (c2.out _).mono ?_
  rintro r w2_ ⟨rfl, hb⟩
  replace M := Lib.hid (M.out.below hb)
  clear hb
  clear k1 k2
  have kc := (M.out.nth 1 rfl).2.1
  have kf := (M.out.nth 1 rfl).2.2
  replace M : Hid (Own w [((w.heap.size + 1 + 1), #[.float .f64 0, .float .f64 0]), ((w.heap.size + 1), #[.float .f64 0, .float .f64 0]), (w.heap.size, #[.float .f64 sl, .float .f64 sh])] _) := Lib.hid (M.out.set2 1 rfl (.float .f64 0) (.float .f64 0))
  have kc := (M.out.nth 0 rfl).2.1
  have kf := (M.out.nth 0 rfl).2.2
  replace M : Hid (Own w [((w.heap.size + 1 + 1), #[.float .f64 0, .float .f64 0]), ((w.heap.size + 1), #[.float .f64 0, .float .f64 0]), (w.heap.size, #[.float .f64 sl, .float .f64 sh])] _) := Lib.hid (M.out.set2 0 rfl (.float .f64 0) (.float .f64 0))
  go_wp2
  obtain ⟨f1, f2⟩ := (M.out.nth 1 rfl).two
  obtain ⟨f3, f4⟩ := (M.out.nth 0 rfl).two
  exact bodyPost_ret (v := .tuple #[.agg #[.float .f64 0, .float .f64 0], .agg #[.float .f64 0, .float .f64 0], .int .i64 2]) (by simp [results, Tryz.results6, go_sem, f1, f2, f3, f4]) rfl ⟨rfl, M.out.base⟩

def zpokJ7 (w : World) (pb : Nat) (xl xh tl th gl gh : Nat) (l : RowL) (a0 : Act) (k : Nat) (p : List (Option Nat)) (a : Act) (v : World) : Prop :=
  ∃ y1 y2 y3 y4 y5 y6 z1 : Value, a = (((((((a0.put (some 26) y1).put (some 27) y2).put (some 30) y3).put (some 32) y4).put (some 33) y5).put (some 34) y6).put (some 7) z1) ∧ (0 < k → y1 = .agg #[.float .f64 4611686018427387904, .float .f64 4611686018427387904]) ∧ (1 < k → y2 = .agg #[.float .f64 xl, .float .f64 xh]) ∧ (2 < k → y3 = .agg #[.float .f64 4611686018427387904, .float .f64 4611686018427387904]) ∧ (3 < k → y4 = .agg #[.float .f64 4613937818241073152, .float .f64 4613937818241073152]) ∧ (4 < k → y5 = .agg #[.float .f64 tl, .float .f64 th]) ∧ (5 < k → y6 = .agg #[.float .f64 gl, .float .f64 gh]) ∧ (∀ q, p[0]? = some (some q) → z1 = .pointer (some ⟨q, 0, none⟩)) ∧ OwnF w ((pb, #[.int .i64 0]) :: l) [#[.float .f64 0, .float .f64 0]] p v
section
variable {w v : World} {pb : Nat} {xl xh tl th gl gh : Nat} {l : RowL} {a0 a : Act} {p : List (Option Nat)}
theorem zpokJ7_0 (h : zpokJ7 w pb xl xh tl th gl gh l a0 0 p a v) : ∃ y1 y2 y3 y4 y5 y6 z1 : Value, a = (((((((a0.put (some 26) y1).put (some 27) y2).put (some 30) y3).put (some 32) y4).put (some 33) y5).put (some 34) y6).put (some 7) z1) ∧ (∀ q, p[0]? = some (some q) → z1 = .pointer (some ⟨q, 0, none⟩)) ∧ OwnF w ((pb, #[.int .i64 0]) :: l) [#[.float .f64 0, .float .f64 0]] p v := by
  obtain ⟨y1, y2, y3, y4, y5, y6, z1, ha, E1, E2, E3, E4, E5, E6, G1, h⟩ := h
  exact ⟨y1, y2, y3, y4, y5, y6, z1, ha, G1, h⟩
theorem zpokJ7_1 (h : zpokJ7 w pb xl xh tl th gl gh l a0 1 p a v) : ∃ y2 y3 y4 y5 y6 z1 : Value, a = (((((((a0.put (some 26) (.agg #[.float .f64 4611686018427387904, .float .f64 4611686018427387904])).put (some 27) y2).put (some 30) y3).put (some 32) y4).put (some 33) y5).put (some 34) y6).put (some 7) z1) ∧ (∀ q, p[0]? = some (some q) → z1 = .pointer (some ⟨q, 0, none⟩)) ∧ OwnF w ((pb, #[.int .i64 0]) :: l) [#[.float .f64 0, .float .f64 0]] p v := by
  obtain ⟨y1, y2, y3, y4, y5, y6, z1, ha, E1, E2, E3, E4, E5, E6, G1, h⟩ := h
  obtain rfl := E1 (by decide)
  exact ⟨y2, y3, y4, y5, y6, z1, ha, G1, h⟩
theorem zpokJ7_2 (h : zpokJ7 w pb xl xh tl th gl gh l a0 2 p a v) : ∃ y3 y4 y5 y6 z1 : Value, a = (((((((a0.put (some 26) (.agg #[.float .f64 4611686018427387904, .float .f64 4611686018427387904])).put (some 27) (.agg #[.float .f64 xl, .float .f64 xh])).put (some 30) y3).put (some 32) y4).put (some 33) y5).put (some 34) y6).put (some 7) z1) ∧ (∀ q, p[0]? = some (some q) → z1 = .pointer (some ⟨q, 0, none⟩)) ∧ OwnF w ((pb, #[.int .i64 0]) :: l) [#[.float .f64 0, .float .f64 0]] p v := by
  obtain ⟨y1, y2, y3, y4, y5, y6, z1, ha, E1, E2, E3, E4, E5, E6, G1, h⟩ := h
  obtain rfl := E1 (by decide)
  obtain rfl := E2 (by decide)
  exact ⟨y3, y4, y5, y6, z1, ha, G1, h⟩
theorem zpokJ7_3 (h : zpokJ7 w pb xl xh tl th gl gh l a0 3 p a v) : ∃ y4 y5 y6 z1 : Value, a = (((((((a0.put (some 26) (.agg #[.float .f64 4611686018427387904, .float .f64 4611686018427387904])).put (some 27) (.agg #[.float .f64 xl, .float .f64 xh])).put (some 30) (.agg #[.float .f64 4611686018427387904, .float .f64 4611686018427387904])).put (some 32) y4).put (some 33) y5).put (some 34) y6).put (some 7) z1) ∧ (∀ q, p[0]? = some (some q) → z1 = .pointer (some ⟨q, 0, none⟩)) ∧ OwnF w ((pb, #[.int .i64 0]) :: l) [#[.float .f64 0, .float .f64 0]] p v := by
  obtain ⟨y1, y2, y3, y4, y5, y6, z1, ha, E1, E2, E3, E4, E5, E6, G1, h⟩ := h
  obtain rfl := E1 (by decide)
  obtain rfl := E2 (by decide)
  obtain rfl := E3 (by decide)
  exact ⟨y4, y5, y6, z1, ha, G1, h⟩
theorem zpokJ7_4 (h : zpokJ7 w pb xl xh tl th gl gh l a0 4 p a v) : ∃ y5 y6 z1 : Value, a = (((((((a0.put (some 26) (.agg #[.float .f64 4611686018427387904, .float .f64 4611686018427387904])).put (some 27) (.agg #[.float .f64 xl, .float .f64 xh])).put (some 30) (.agg #[.float .f64 4611686018427387904, .float .f64 4611686018427387904])).put (some 32) (.agg #[.float .f64 4613937818241073152, .float .f64 4613937818241073152])).put (some 33) y5).put (some 34) y6).put (some 7) z1) ∧ (∀ q, p[0]? = some (some q) → z1 = .pointer (some ⟨q, 0, none⟩)) ∧ OwnF w ((pb, #[.int .i64 0]) :: l) [#[.float .f64 0, .float .f64 0]] p v := by
  obtain ⟨y1, y2, y3, y4, y5, y6, z1, ha, E1, E2, E3, E4, E5, E6, G1, h⟩ := h
  obtain rfl := E1 (by decide)
  obtain rfl := E2 (by decide)
  obtain rfl := E3 (by decide)
  obtain rfl := E4 (by decide)
  exact ⟨y5, y6, z1, ha, G1, h⟩
theorem zpokJ7_5 (h : zpokJ7 w pb xl xh tl th gl gh l a0 5 p a v) : ∃ y6 z1 : Value, a = (((((((a0.put (some 26) (.agg #[.float .f64 4611686018427387904, .float .f64 4611686018427387904])).put (some 27) (.agg #[.float .f64 xl, .float .f64 xh])).put (some 30) (.agg #[.float .f64 4611686018427387904, .float .f64 4611686018427387904])).put (some 32) (.agg #[.float .f64 4613937818241073152, .float .f64 4613937818241073152])).put (some 33) (.agg #[.float .f64 tl, .float .f64 th])).put (some 34) y6).put (some 7) z1) ∧ (∀ q, p[0]? = some (some q) → z1 = .pointer (some ⟨q, 0, none⟩)) ∧ OwnF w ((pb, #[.int .i64 0]) :: l) [#[.float .f64 0, .float .f64 0]] p v := by
  obtain ⟨y1, y2, y3, y4, y5, y6, z1, ha, E1, E2, E3, E4, E5, E6, G1, h⟩ := h
  obtain rfl := E1 (by decide)
  obtain rfl := E2 (by decide)
  obtain rfl := E3 (by decide)
  obtain rfl := E4 (by decide)
  obtain rfl := E5 (by decide)
  exact ⟨y6, z1, ha, G1, h⟩
theorem zpokJ7_fin {q1 : Nat} (h : zpokJ7 w pb xl xh tl th gl gh l a0 6 [some q1] a v) : a = (((((((a0.put (some 26) (.agg #[.float .f64 4611686018427387904, .float .f64 4611686018427387904])).put (some 27) (.agg #[.float .f64 xl, .float .f64 xh])).put (some 30) (.agg #[.float .f64 4611686018427387904, .float .f64 4611686018427387904])).put (some 32) (.agg #[.float .f64 4613937818241073152, .float .f64 4613937818241073152])).put (some 33) (.agg #[.float .f64 tl, .float .f64 th])).put (some 34) (.agg #[.float .f64 gl, .float .f64 gh])).put (some 7) (.pointer (some ⟨q1, 0, none⟩))) ∧ OwnF w ((pb, #[.int .i64 0]) :: l) [#[.float .f64 0, .float .f64 0]] [some q1] v := by
  obtain ⟨y1, y2, y3, y4, y5, y6, z1, ha, E1, E2, E3, E4, E5, E6, G1, h⟩ := h
  obtain rfl := E1 (by decide)
  obtain rfl := E2 (by decide)
  obtain rfl := E3 (by decide)
  obtain rfl := E4 (by decide)
  obtain rfl := E5 (by decide)
  obtain rfl := E6 (by decide)
  obtain rfl := G1 _ rfl
  exact ⟨ha, h⟩
end

def zpokJ8 (w : World) (pb : Nat) (ml mh ql qh al ah : Nat) (l : RowL) (a0 : Act) (k : Nat) (p : List (Option Nat)) (a : Act) (v : World) : Prop :=
  ∃ y1 y2 y3 y4 z1 : Value, a = (((((a0.put (some 37) y1).put (some 43) y2).put (some 44) y3).put (some 45) y4).put (some 8) z1) ∧ (0 < k → y1 = .agg #[.float .f64 4607182418800017408, .float .f64 4607182418800017408]) ∧ (1 < k → y2 = .agg #[.float .f64 ml, .float .f64 mh]) ∧ (2 < k → y3 = .agg #[.float .f64 ql, .float .f64 qh]) ∧ (3 < k → y4 = .agg #[.float .f64 al, .float .f64 ah]) ∧ (∀ q, p[0]? = some (some q) → z1 = .pointer (some ⟨q, 0, none⟩)) ∧ OwnF w ((pb, #[.int .i64 0]) :: l) [#[.float .f64 0, .float .f64 0]] p v
section
variable {w v : World} {pb : Nat} {ml mh ql qh al ah : Nat} {l : RowL} {a0 a : Act} {p : List (Option Nat)}
theorem zpokJ8_0 (h : zpokJ8 w pb ml mh ql qh al ah l a0 0 p a v) : ∃ y1 y2 y3 y4 z1 : Value, a = (((((a0.put (some 37) y1).put (some 43) y2).put (some 44) y3).put (some 45) y4).put (some 8) z1) ∧ (∀ q, p[0]? = some (some q) → z1 = .pointer (some ⟨q, 0, none⟩)) ∧ OwnF w ((pb, #[.int .i64 0]) :: l) [#[.float .f64 0, .float .f64 0]] p v := by
  obtain ⟨y1, y2, y3, y4, z1, ha, E1, E2, E3, E4, G1, h⟩ := h
  exact ⟨y1, y2, y3, y4, z1, ha, G1, h⟩
theorem zpokJ8_1 (h : zpokJ8 w pb ml mh ql qh al ah l a0 1 p a v) : ∃ y2 y3 y4 z1 : Value, a = (((((a0.put (some 37) (.agg #[.float .f64 4607182418800017408, .float .f64 4607182418800017408])).put (some 43) y2).put (some 44) y3).put (some 45) y4).put (some 8) z1) ∧ (∀ q, p[0]? = some (some q) → z1 = .pointer (some ⟨q, 0, none⟩)) ∧ OwnF w ((pb, #[.int .i64 0]) :: l) [#[.float .f64 0, .float .f64 0]] p v := by
  obtain ⟨y1, y2, y3, y4, z1, ha, E1, E2, E3, E4, G1, h⟩ := h
  obtain rfl := E1 (by decide)
  exact ⟨y2, y3, y4, z1, ha, G1, h⟩
theorem zpokJ8_2 (h : zpokJ8 w pb ml mh ql qh al ah l a0 2 p a v) : ∃ y3 y4 z1 : Value, a = (((((a0.put (some 37) (.agg #[.float .f64 4607182418800017408, .float .f64 4607182418800017408])).put (some 43) (.agg #[.float .f64 ml, .float .f64 mh])).put (some 44) y3).put (some 45) y4).put (some 8) z1) ∧ (∀ q, p[0]? = some (some q) → z1 = .pointer (some ⟨q, 0, none⟩)) ∧ OwnF w ((pb, #[.int .i64 0]) :: l) [#[.float .f64 0, .float .f64 0]] p v := by
  obtain ⟨y1, y2, y3, y4, z1, ha, E1, E2, E3, E4, G1, h⟩ := h
  obtain rfl := E1 (by decide)
  obtain rfl := E2 (by decide)
  exact ⟨y3, y4, z1, ha, G1, h⟩
theorem zpokJ8_3 (h : zpokJ8 w pb ml mh ql qh al ah l a0 3 p a v) : ∃ y4 z1 : Value, a = (((((a0.put (some 37) (.agg #[.float .f64 4607182418800017408, .float .f64 4607182418800017408])).put (some 43) (.agg #[.float .f64 ml, .float .f64 mh])).put (some 44) (.agg #[.float .f64 ql, .float .f64 qh])).put (some 45) y4).put (some 8) z1) ∧ (∀ q, p[0]? = some (some q) → z1 = .pointer (some ⟨q, 0, none⟩)) ∧ OwnF w ((pb, #[.int .i64 0]) :: l) [#[.float .f64 0, .float .f64 0]] p v := by
  obtain ⟨y1, y2, y3, y4, z1, ha, E1, E2, E3, E4, G1, h⟩ := h
  obtain rfl := E1 (by decide)
  obtain rfl := E2 (by decide)
  obtain rfl := E3 (by decide)
  exact ⟨y4, z1, ha, G1, h⟩
theorem zpokJ8_fin {q1 : Nat} (h : zpokJ8 w pb ml mh ql qh al ah l a0 4 [some q1] a v) : a = (((((a0.put (some 37) (.agg #[.float .f64 4607182418800017408, .float .f64 4607182418800017408])).put (some 43) (.agg #[.float .f64 ml, .float .f64 mh])).put (some 44) (.agg #[.float .f64 ql, .float .f64 qh])).put (some 45) (.agg #[.float .f64 al, .float .f64 ah])).put (some 8) (.pointer (some ⟨q1, 0, none⟩))) ∧ OwnF w ((pb, #[.int .i64 0]) :: l) [#[.float .f64 0, .float .f64 0]] [some q1] v := by
  obtain ⟨y1, y2, y3, y4, z1, ha, E1, E2, E3, E4, G1, h⟩ := h
  obtain rfl := E1 (by decide)
  obtain rfl := E2 (by decide)
  obtain rfl := E3 (by decide)
  obtain rfl := E4 (by decide)
  obtain rfl := G1 _ rfl
  exact ⟨ha, h⟩
end

set_option maxRecDepth 100000 in
set_option maxHeartbeats 16000000 in
theorem refPair_ok {sl sh xl xh tl th gl gh ml mh ql qh al ah bl bh : Nat} (w : World)
    (c1 : Hid (∀ w, Calls Tryz.prog 16 #[.agg #[.float .f64 sl, .float .f64 sh]] w fun r w' => r = .returned (.bool true) ∧ Below w.heap.size w w'))
    (c2 : Hid (∀ w, Calls Tryz.prog 17 #[.agg #[.float .f64 sl, .float .f64 sh], .float .f64 0, .float .f64 4607182418800017408] w fun r w' => r = .returned (.bool true) ∧ Below w.heap.size w w'))
    (c3 : Hid (∀ w, Calls Tryz.prog 18 #[] w fun r w' => r = .returned (.agg #[.float .f64 4614256656552045848, .float .f64 4614256656552045849]) ∧ Below w.heap.size w w'))
    (d4 : Hid (∀ pb v, Has1 v (pb, #[.int .i64 0]) → Calls Tryz.prog 21 #[.pointer (some ⟨pb, 0, none⟩), .float .f64 4611686018427387904] v fun r w' => r = .returned (.agg #[.float .f64 4611686018427387904, .float .f64 4611686018427387904]) ∧ Put ⟨pb, 0, none⟩ (.int .i64 0) v w'))
    (d5 : Hid (∀ pb v, Has1 v (pb, #[.int .i64 0]) → Calls Tryz.prog 20 #[.pointer (some ⟨pb, 0, none⟩), .agg #[.float .f64 4614256656552045848, .float .f64 4614256656552045849], .agg #[.float .f64 4611686018427387904, .float .f64 4611686018427387904]] v fun r w' => r = .returned (.agg #[.float .f64 xl, .float .f64 xh]) ∧ Put ⟨pb, 0, none⟩ (.int .i64 0) v w'))
    (d7 : Hid (∀ pb v, Has1 v (pb, #[.int .i64 0]) → Calls Tryz.prog 21 #[.pointer (some ⟨pb, 0, none⟩), .float .f64 4613937818241073152] v fun r w' => r = .returned (.agg #[.float .f64 4613937818241073152, .float .f64 4613937818241073152]) ∧ Put ⟨pb, 0, none⟩ (.int .i64 0) v w'))
    (d8 : Hid (∀ pb v, Has1 v (pb, #[.int .i64 0]) → Calls Tryz.prog 20 #[.pointer (some ⟨pb, 0, none⟩), .agg #[.float .f64 4611686018427387904, .float .f64 4611686018427387904], .agg #[.float .f64 4613937818241073152, .float .f64 4613937818241073152]] v fun r w' => r = .returned (.agg #[.float .f64 tl, .float .f64 th]) ∧ Put ⟨pb, 0, none⟩ (.int .i64 0) v w'))
    (d9 : Hid (∀ pb v, Has1 v (pb, #[.int .i64 0]) → Calls Tryz.prog 19 #[.pointer (some ⟨pb, 0, none⟩), .agg #[.float .f64 xl, .float .f64 xh], .agg #[.float .f64 tl, .float .f64 th]] v fun r w' => r = .returned (.agg #[.float .f64 gl, .float .f64 gh]) ∧ Put ⟨pb, 0, none⟩ (.int .i64 0) v w'))
    (d10 : Hid (∀ pb v, Has1 v (pb, #[.int .i64 0]) → Calls Tryz.prog 21 #[.pointer (some ⟨pb, 0, none⟩), .float .f64 4607182418800017408] v fun r w' => r = .returned (.agg #[.float .f64 4607182418800017408, .float .f64 4607182418800017408]) ∧ Put ⟨pb, 0, none⟩ (.int .i64 0) v w'))
    (d11 : Hid (∀ pb v, Has1 v (pb, #[.int .i64 0]) → Calls Tryz.prog 23 #[.pointer (some ⟨pb, 0, none⟩), .agg #[.float .f64 gl, .float .f64 gh], .agg #[.float .f64 sl, .float .f64 sh]] v fun r w' => r = .returned (.agg #[.float .f64 ml, .float .f64 mh]) ∧ Put ⟨pb, 0, none⟩ (.int .i64 0) v w'))
    (d12 : Hid (∀ pb v, Has1 v (pb, #[.int .i64 0]) → Calls Tryz.prog 22 #[.pointer (some ⟨pb, 0, none⟩), .agg #[.float .f64 4614256656552045848, .float .f64 4614256656552045849], .agg #[.float .f64 ml, .float .f64 mh]] v fun r w' => r = .returned (.agg #[.float .f64 ql, .float .f64 qh]) ∧ Put ⟨pb, 0, none⟩ (.int .i64 0) v w'))
    (d13 : Hid (∀ pb v, Has1 v (pb, #[.int .i64 0]) → Calls Tryz.prog 20 #[.pointer (some ⟨pb, 0, none⟩), .agg #[.float .f64 4607182418800017408, .float .f64 4607182418800017408], .agg #[.float .f64 ql, .float .f64 qh]] v fun r w' => r = .returned (.agg #[.float .f64 al, .float .f64 ah]) ∧ Put ⟨pb, 0, none⟩ (.int .i64 0) v w'))
    (d14 : Hid (∀ pb v, Has1 v (pb, #[.int .i64 0]) → Calls Tryz.prog 23 #[.pointer (some ⟨pb, 0, none⟩), .agg #[.float .f64 sl, .float .f64 sh], .agg #[.float .f64 al, .float .f64 ah]] v fun r w' => r = .returned (.agg #[.float .f64 bl, .float .f64 bh]) ∧ Put ⟨pb, 0, none⟩ (.int .i64 0) v w')) :
    Calls Tryz.prog 6 #[.agg #[.float .f64 sl, .float .f64 sh]] w fun r w' => r = .returned (.tuple #[.agg #[.float .f64 al, .float .f64 ah], .agg #[.float .f64 bl, .float .f64 bh], .int .i64 0]) ∧ Below w.heap.size w w' := by
  have M := Lib.hid ((((Own.nil w).made #[.float .f64 sl, .float .f64 sh] 24).made #[.float .f64 0, .float .f64 0] 24).made #[.float .f64 0, .float .f64 0] 24)
  simp only [World.size_alloc] at M
  have eqF := eq_floats
  go_enter Tryz.func6, Tryz.ntmps6
  obtain ⟨k1, k2⟩ := (M.out.nth 2 rfl).two
  go_wp2_with fail
  refine (c1.out _).mono ?_
  rintro r w1_ ⟨rfl, hb⟩
  replace M := Lib.hid (M.out.below hb)
  clear hb
  clear k1 k2
  obtain ⟨k1, k2⟩ := (M.out.nth 2 rfl).two
  go_wp2_with fail
  refine (c2.out _).mono ?_
  rintro r w2_ ⟨rfl, hb⟩
  replace M := Lib.hid (M.out.below hb)
  clear hb
  clear k1 k2
  replace M := Lib.hid (M.out.made #[.int .i64 0] 52)
  go_wp2_with fail
  refine (c3.out _).mono ?_
  rintro r w3_ ⟨rfl, hb⟩
  replace M := Lib.hid (M.out.below hb)
  clear hb
  replace M := Lib.hid (M.out.made #[.float .f64 4614256656552045848, .float .f64 4614256656552045849] 24).front
  go_upto_region 7 with fail
  replace M := Lib.hid M.out.drew
  revert M
  generalize (w3_.alloc (.cells #[.float .f64 4614256656552045848, .float .f64 4614256656552045849] 24)) = W4_
  intro M
  refine wp_region_noPanic ?_
  refine tails_region (S := fun w' => (w'.cell? ⟨w3_.heap.size, 0, none⟩ = some (.float .f64 4614256656552045848) ∧ w'.cell? ⟨w3_.heap.size, 1, none⟩ = some (.float .f64 4614256656552045849))) [] (by kernel_rfl) ?_ (fun hS => ?_)
  · exact (M.out.nth 1 rfl).two
  refine tk (x := ?_) 0 rfl (by kernel_rfl) ⟨by rfl, ?_⟩ (fun _ _ _ h => h) hS ?_
  rotate_left; focus (intro w hSw; (try dsimp only at hSw); go_simp; try with_reducible rfl)
  refine tk (x := ?_) 1 rfl (by kernel_rfl) ⟨by rfl, ?_⟩ (fun _ _ _ h => h) hS ?_
  rotate_left; focus (intro w hSw; (try dsimp only at hSw); go_simp; try with_reducible rfl)
  refine tk (x := ?_) 2 rfl (by kernel_rfl) ⟨by rfl, ?_⟩ (fun _ _ _ h => h) hS ?_
  rotate_left; focus (intro w hSw; (try dsimp only at hSw); go_simp; try with_reducible rfl)
  refine tk (x := ?_) 3 rfl (by kernel_rfl) ⟨by rfl, ?_⟩ (fun _ _ _ h => h) hS ?_
  rotate_left; focus (intro w hSw; (try dsimp only at hSw); go_simp; try with_reducible rfl)
  refine tk (x := ?_) 6 rfl (by kernel_rfl) ⟨by rfl, ?_⟩ (fun _ _ _ h => h) hS ?_
  rotate_left; focus (intro w hSw; (try dsimp only at hSw); go_simp; try with_reducible rfl)
  refine tk (x := ?_) 7 rfl (by kernel_rfl) ⟨by rfl, ?_⟩ (fun _ _ _ h => h) hS ?_
  rotate_left; focus (intro w hSw; (try dsimp only at hSw); go_simp; try with_reducible rfl)
  refine tk (x := ?_) 9 rfl (by kernel_rfl) ⟨by rfl, ?_⟩ (fun _ _ _ h => h) hS ?_
  rotate_left; focus (intro w hSw; (try dsimp only at hSw); go_simp; try with_reducible rfl)
  conv => arg 9; simp only [Act.put, go_sem]
  refine lpz_cccccc_1 M 4 5 8 10 11 12 13 [26, 27, 30, 32, 33, 34, 7] 1 (zpokJ7 w w2_.heap.size xl xh tl th gl gh) (by kernel_rfl) (by kernel_rfl) ?_ ?_ ?_ ?_ ?_ ?_ ?_ ?_ ?_ ?_
  · intro A hA
    obtain ⟨y1, hq1⟩ := put_ex (hA 26 (by simp))
    obtain ⟨y2, hq2⟩ := put_ex (hA 27 (by simp))
    obtain ⟨y3, hq3⟩ := put_ex (hA 30 (by simp))
    obtain ⟨y4, hq4⟩ := put_ex (hA 32 (by simp))
    obtain ⟨y5, hq5⟩ := put_ex (hA 33 (by simp))
    obtain ⟨y6, hq6⟩ := put_ex (hA 34 (by simp))
    obtain ⟨z1, hq7⟩ := put_ex (hA 7 (by simp))
    exact ⟨y1, y2, y3, y4, y5, y6, z1, by rw [hq1, hq2, hq3, hq4, hq5, hq6, hq7], by omega, by omega, by omega, by omega, by omega, by omega, by simp, OwnF.start M.out 1⟩
  · rintro k p a v ⟨y1, y2, y3, y4, y5, y6, z1, _, _, _, _, _, _, _, _, h⟩
    exact (h.own.nth 1 rfl).two
  · intro p a v hJ
    refine op_step (o := _) rfl (fun K hK => ?_)
    obtain ⟨y1, y2, y3, y4, y5, y6, z1, ha, gg1, h⟩ := zpokJ7_0 hJ
    have h := Lib.hid h
    clear hJ
    subst ha
    go_simp
    refine (d4.out _ _ (h.out.own.nth 0 rfl)).mono ?_
    rintro rr w5 ⟨rfl, hp⟩
    try go_wp2_with fail
    refine hK.out _ _ ⟨_, y2, y3, y4, y5, y6, z1, ?_, fun _ => rfl, by omega, by omega, by omega, by omega, by omega, gg1, h.out.putHead hp⟩
    kernel_rfl
  · intro p a v hJ
    refine op_step (o := _) rfl (fun K hK => ?_)
    obtain ⟨y2, y3, y4, y5, y6, z1, ha, gg1, h⟩ := zpokJ7_1 hJ
    have h := Lib.hid h
    clear hJ
    subst ha
    go_simp
    refine (d5.out _ _ (h.out.own.nth 0 rfl)).mono ?_
    rintro rr w5 ⟨rfl, hp⟩
    try go_wp2_with fail
    refine hK.out _ _ ⟨_, _, y3, y4, y5, y6, z1, ?_, fun _ => rfl, fun _ => rfl, by omega, by omega, by omega, by omega, gg1, h.out.putHead hp⟩
    kernel_rfl
  · intro p a v hJ
    refine op_step (o := _) rfl (fun K hK => ?_)
    obtain ⟨y3, y4, y5, y6, z1, ha, gg1, h⟩ := zpokJ7_2 hJ
    have h := Lib.hid h
    clear hJ
    subst ha
    go_simp
    refine (d4.out _ _ (h.out.own.nth 0 rfl)).mono ?_
    rintro rr w5 ⟨rfl, hp⟩
    try go_wp2_with fail
    refine hK.out _ _ ⟨_, _, _, y4, y5, y6, z1, ?_, fun _ => rfl, fun _ => rfl, fun _ => rfl, by omega, by omega, by omega, gg1, h.out.putHead hp⟩
    kernel_rfl
  · intro p a v hJ
    refine op_step (o := _) rfl (fun K hK => ?_)
    obtain ⟨y4, y5, y6, z1, ha, gg1, h⟩ := zpokJ7_3 hJ
    have h := Lib.hid h
    clear hJ
    subst ha
    go_simp
    refine (d7.out _ _ (h.out.own.nth 0 rfl)).mono ?_
    rintro rr w5 ⟨rfl, hp⟩
    try go_wp2_with fail
    refine hK.out _ _ ⟨_, _, _, _, y5, y6, z1, ?_, fun _ => rfl, fun _ => rfl, fun _ => rfl, fun _ => rfl, by omega, by omega, gg1, h.out.putHead hp⟩
    kernel_rfl
  · intro p a v hJ
    refine op_step (o := _) rfl (fun K hK => ?_)
    obtain ⟨y5, y6, z1, ha, gg1, h⟩ := zpokJ7_4 hJ
    have h := Lib.hid h
    clear hJ
    subst ha
    go_simp
    refine (d8.out _ _ (h.out.own.nth 0 rfl)).mono ?_
    rintro rr w5 ⟨rfl, hp⟩
    try go_wp2_with fail
    refine hK.out _ _ ⟨_, _, _, _, _, y6, z1, ?_, fun _ => rfl, fun _ => rfl, fun _ => rfl, fun _ => rfl, fun _ => rfl, by omega, gg1, h.out.putHead hp⟩
    kernel_rfl
  · intro p a v hJ
    refine op_step (o := _) rfl (fun K hK => ?_)
    obtain ⟨y6, z1, ha, gg1, h⟩ := zpokJ7_5 hJ
    have h := Lib.hid h
    clear hJ
    subst ha
    go_simp
    refine (d9.out _ _ (h.out.own.nth 0 rfl)).mono ?_
    rintro rr w5 ⟨rfl, hp⟩
    try go_wp2_with fail
    refine hK.out _ _ ⟨_, _, _, _, _, _, z1, ?_, fun _ => rfl, fun _ => rfl, fun _ => rfl, fun _ => rfl, fun _ => rfl, fun _ => rfl, gg1, h.out.putHead hp⟩
    kernel_rfl
  · intro k p a v hp hJ
    refine op_step (o := _) rfl (fun K hK => ?_)
    obtain ⟨y1, y2, y3, y4, y5, y6, z1, ha, ee1, ee2, ee3, ee4, ee5, ee6, gg1, h⟩ := hJ
    have h := Lib.hid h
    subst ha
    go_simp
    refine hK.out _ _ ⟨v.heap.size, y1, y2, y3, y4, y5, y6, .pointer (some ⟨v.heap.size, 0, none⟩), ?_, ee1, ee2, ee3, ee4, ee5, ee6, fun q hq => ptr_set hq, h.out.alloc hp rfl _⟩
    kernel_rfl
  intro p7_1 a v hJ
  obtain ⟨rfl, h⟩ := zpokJ7_fin hJ
  clear hJ
  replace M := Lib.hid h.fin1
  clear h
  refine tails_one (T := []) (i := 14) (o := _) rfl (by kernel_rfl) (fun K hK => ?_)
  have kc := (M.out.nth 0 rfl).2.1
  have kf := (M.out.nth 0 rfl).2.2
  replace M : Hid (Own w [(p7_1, #[.float .f64 gl, .float .f64 gh]), (w2_.heap.size, #[.int .i64 0]), (w3_.heap.size, #[.float .f64 4614256656552045848, .float .f64 4614256656552045849]), ((w.heap.size + 1 + 1), #[.float .f64 0, .float .f64 0]), ((w.heap.size + 1), #[.float .f64 0, .float .f64 0]), (w.heap.size, #[.float .f64 sl, .float .f64 sh])] _) := Lib.hid (M.out.set2 0 rfl (.float .f64 gl) (.float .f64 gh))
  go_simp
  refine hK.out _ _ (Or.inr (M.out.nth 2 rfl).two) (fun hHeld => ?_)
  clear hK K hHeld kc kf
  refine tails_done (by kernel_rfl) ?_ _
  refine NoPanic.normal ?_
  clear hS
  replace M : Hid (Own w [(w2_.heap.size, #[.int .i64 0]), (p7_1, #[.float .f64 gl, .float .f64 gh]), (w3_.heap.size, #[.float .f64 4614256656552045848, .float .f64 4614256656552045849]), ((w.heap.size + 1 + 1), #[.float .f64 0, .float .f64 0]), ((w.heap.size + 1), #[.float .f64 0, .float .f64 0]), (w.heap.size, #[.float .f64 sl, .float .f64 sh])] _) := Lib.hid M.out.front
  revert M
  generalize ((v.setCell ⟨p7_1, 0, none⟩ (.float .f64 gl)).setCell ⟨p7_1, 1, none⟩ (.float .f64 gh)) = W5_
  intro M
  go_upto_region 8 with fail
  replace M := Lib.hid M.out.drew
  refine wp_region_noPanic ?_
  refine tails_region (S := fun w' => (w'.cell? ⟨w3_.heap.size, 0, none⟩ = some (.float .f64 4614256656552045848) ∧ w'.cell? ⟨w3_.heap.size, 1, none⟩ = some (.float .f64 4614256656552045849)) ∧ (w'.cell? ⟨p7_1, 0, none⟩ = some (.float .f64 gl) ∧ w'.cell? ⟨p7_1, 1, none⟩ = some (.float .f64 gh)) ∧ (w'.cell? ⟨w.heap.size, 0, none⟩ = some (.float .f64 sl) ∧ w'.cell? ⟨w.heap.size, 1, none⟩ = some (.float .f64 sh))) [] (by kernel_rfl) ?_ (fun hS => ?_)
  · exact ⟨(M.out.nth 2 rfl).two, (M.out.nth 1 rfl).two, (M.out.nth 5 rfl).two⟩
  refine tk (x := ?_) 0 rfl (by kernel_rfl) ⟨by rfl, ?_⟩ (fun _ _ _ h => h) hS ?_
  rotate_left; focus (intro w hSw; (try dsimp only at hSw); go_simp; try with_reducible rfl)
  refine tk (x := ?_) 1 rfl (by kernel_rfl) ⟨by rfl, ?_⟩ (fun _ _ _ h => h) hS ?_
  rotate_left; focus (intro w hSw; (try dsimp only at hSw); go_simp; try with_reducible rfl)
  refine tk (x := ?_) 3 rfl (by kernel_rfl) ⟨by rfl, ?_⟩ (fun _ _ _ h => h) hS ?_
  rotate_left; focus (intro w hSw; (try dsimp only at hSw); go_simp; try with_reducible rfl)
  refine tk (x := ?_) 4 rfl (by kernel_rfl) ⟨by rfl, ?_⟩ (fun _ _ _ h => h) hS ?_
  rotate_left; focus (intro w hSw; (try dsimp only at hSw); go_simp; try with_reducible rfl)
  refine tk (x := ?_) 5 rfl (by kernel_rfl) ⟨by rfl, ?_⟩ (fun _ _ _ h => h) hS ?_
  rotate_left; focus (intro w hSw; (try dsimp only at hSw); go_simp; try with_reducible rfl)
  refine tk (x := ?_) 6 rfl (by kernel_rfl) ⟨by rfl, ?_⟩ (fun _ _ _ h => h) hS ?_
  rotate_left; focus (intro w hSw; (try dsimp only at hSw); go_simp; try with_reducible rfl)
  refine tk (x := ?_) 7 rfl (by kernel_rfl) ⟨by rfl, ?_⟩ (fun _ _ _ h => h) hS ?_
  rotate_left; focus (intro w hSw; (try dsimp only at hSw); go_simp; try with_reducible rfl)
  conv => arg 9; simp only [Act.put, go_sem]
  refine lpz_cccc_1 M 2 8 9 10 11 [37, 43, 44, 45, 8] 1 (zpokJ8 w w2_.heap.size ml mh ql qh al ah) (by kernel_rfl) (by kernel_rfl) ?_ ?_ ?_ ?_ ?_ ?_ ?_ ?_
  · intro A hA
    obtain ⟨y1, hq1⟩ := put_ex (hA 37 (by simp))
    obtain ⟨y2, hq2⟩ := put_ex (hA 43 (by simp))
    obtain ⟨y3, hq3⟩ := put_ex (hA 44 (by simp))
    obtain ⟨y4, hq4⟩ := put_ex (hA 45 (by simp))
    obtain ⟨z1, hq5⟩ := put_ex (hA 8 (by simp))
    exact ⟨y1, y2, y3, y4, z1, by rw [hq1, hq2, hq3, hq4, hq5], by omega, by omega, by omega, by omega, by simp, OwnF.start M.out 1⟩
  · rintro k p a v ⟨y1, y2, y3, y4, z1, _, _, _, _, _, _, h⟩
    exact ⟨(h.own.nth 2 rfl).two, (h.own.nth 1 rfl).two, (h.own.nth 5 rfl).two⟩
  · intro p a v hJ
    refine op_step (o := _) rfl (fun K hK => ?_)
    obtain ⟨y1, y2, y3, y4, z1, ha, gg1, h⟩ := zpokJ8_0 hJ
    have h := Lib.hid h
    clear hJ
    subst ha
    go_simp
    refine (d10.out _ _ (h.out.own.nth 0 rfl)).mono ?_
    rintro rr w5 ⟨rfl, hp⟩
    try go_wp2_with fail
    refine hK.out _ _ ⟨_, y2, y3, y4, z1, ?_, fun _ => rfl, by omega, by omega, by omega, gg1, h.out.putHead hp⟩
    kernel_rfl
  · intro p a v hJ
    refine op_step (o := _) rfl (fun K hK => ?_)
    obtain ⟨y2, y3, y4, z1, ha, gg1, h⟩ := zpokJ8_1 hJ
    have h := Lib.hid h
    clear hJ
    subst ha
    go_simp
    refine (d11.out _ _ (h.out.own.nth 0 rfl)).mono ?_
    rintro rr w5 ⟨rfl, hp⟩
    try go_wp2_with fail
    refine hK.out _ _ ⟨_, _, y3, y4, z1, ?_, fun _ => rfl, fun _ => rfl, by omega, by omega, gg1, h.out.putHead hp⟩
    kernel_rfl
  · intro p a v hJ
    refine op_step (o := _) rfl (fun K hK => ?_)
    obtain ⟨y3, y4, z1, ha, gg1, h⟩ := zpokJ8_2 hJ
    have h := Lib.hid h
    clear hJ
    subst ha
    go_simp
    refine (d12.out _ _ (h.out.own.nth 0 rfl)).mono ?_
    rintro rr w5 ⟨rfl, hp⟩
    try go_wp2_with fail
    refine hK.out _ _ ⟨_, _, _, y4, z1, ?_, fun _ => rfl, fun _ => rfl, fun _ => rfl, by omega, gg1, h.out.putHead hp⟩
    kernel_rfl
  · intro p a v hJ
    refine op_step (o := _) rfl (fun K hK => ?_)
    obtain ⟨y4, z1, ha, gg1, h⟩ := zpokJ8_3 hJ
    have h := Lib.hid h
    clear hJ
    subst ha
    go_simp
    refine (d13.out _ _ (h.out.own.nth 0 rfl)).mono ?_
    rintro rr w5 ⟨rfl, hp⟩
    try go_wp2_with fail
    refine hK.out _ _ ⟨_, _, _, _, z1, ?_, fun _ => rfl, fun _ => rfl, fun _ => rfl, fun _ => rfl, gg1, h.out.putHead hp⟩
    kernel_rfl
  · intro k p a v hp hJ
    refine op_step (o := _) rfl (fun K hK => ?_)
    obtain ⟨y1, y2, y3, y4, z1, ha, ee1, ee2, ee3, ee4, gg1, h⟩ := hJ
    have h := Lib.hid h
    subst ha
    go_simp
    refine hK.out _ _ ⟨v.heap.size, y1, y2, y3, y4, .pointer (some ⟨v.heap.size, 0, none⟩), ?_, ee1, ee2, ee3, ee4, fun q hq => ptr_set hq, h.out.alloc hp rfl _⟩
    kernel_rfl
  intro p8_1 a v hJ
  obtain ⟨rfl, h⟩ := zpokJ8_fin hJ
  clear hJ
  replace M := Lib.hid h.fin1
  clear h
  refine tails_one (T := []) (i := 12) (o := _) rfl (by kernel_rfl) (fun K hK => ?_)
  have kc := (M.out.nth 0 rfl).2.1
  have kf := (M.out.nth 0 rfl).2.2
  replace M : Hid (Own w [(p8_1, #[.float .f64 al, .float .f64 ah]), (w2_.heap.size, #[.int .i64 0]), (p7_1, #[.float .f64 gl, .float .f64 gh]), (w3_.heap.size, #[.float .f64 4614256656552045848, .float .f64 4614256656552045849]), ((w.heap.size + 1 + 1), #[.float .f64 0, .float .f64 0]), ((w.heap.size + 1), #[.float .f64 0, .float .f64 0]), (w.heap.size, #[.float .f64 sl, .float .f64 sh])] _) := Lib.hid (M.out.set2 0 rfl (.float .f64 al) (.float .f64 ah))
  go_simp
  refine hK.out _ _ (Or.inr ⟨(M.out.nth 3 rfl).two, (M.out.nth 2 rfl).two, (M.out.nth 6 rfl).two⟩) (fun hHeld => ?_)
  clear hK K hHeld kc kf
  refine tails_done (by kernel_rfl) ?_ _
  refine NoPanic.normal ?_
  clear hS
  replace M : Hid (Own w [(w2_.heap.size, #[.int .i64 0]), (p8_1, #[.float .f64 al, .float .f64 ah]), (p7_1, #[.float .f64 gl, .float .f64 gh]), (w3_.heap.size, #[.float .f64 4614256656552045848, .float .f64 4614256656552045849]), ((w.heap.size + 1 + 1), #[.float .f64 0, .float .f64 0]), ((w.heap.size + 1), #[.float .f64 0, .float .f64 0]), (w.heap.size, #[.float .f64 sl, .float .f64 sh])] _) := Lib.hid M.out.front
  revert M
  generalize ((v.setCell ⟨p8_1, 0, none⟩ (.float .f64 al)).setCell ⟨p8_1, 1, none⟩ (.float .f64 ah)) = W6_
  intro M
  go_upto_region 9 with fail
  replace M := Lib.hid M.out.drew
  refine wp_region_noPanic ?_
  refine tails_region (S := fun w' => (w'.cell? ⟨p8_1, 0, none⟩ = some (.float .f64 al) ∧ w'.cell? ⟨p8_1, 1, none⟩ = some (.float .f64 ah)) ∧ (w'.cell? ⟨w.heap.size, 0, none⟩ = some (.float .f64 sl) ∧ w'.cell? ⟨w.heap.size, 1, none⟩ = some (.float .f64 sh))) [] (by kernel_rfl) ?_ (fun hS => ?_)
  · exact ⟨(M.out.nth 1 rfl).two, (M.out.nth 6 rfl).two⟩
  refine tk (x := ?_) 0 rfl (by kernel_rfl) ⟨by rfl, ?_⟩ (fun _ _ _ h => h) hS ?_
  rotate_left; focus (intro w hSw; (try dsimp only at hSw); go_simp; try with_reducible rfl)
  refine tk (x := ?_) 1 rfl (by kernel_rfl) ⟨by rfl, ?_⟩ (fun _ _ _ h => h) hS ?_
  rotate_left; focus (intro w hSw; (try dsimp only at hSw); go_simp; try with_reducible rfl)
  refine tk (x := ?_) 2 rfl (by kernel_rfl) ⟨by rfl, ?_⟩ (fun _ _ _ h => h) hS ?_
  rotate_left; focus (intro w hSw; (try dsimp only at hSw); go_simp; try with_reducible rfl)
  refine tk (x := ?_) 3 rfl (by kernel_rfl) ⟨by rfl, ?_⟩ (fun _ _ _ h => h) hS ?_
  rotate_left; focus (intro w hSw; (try dsimp only at hSw); go_simp; try with_reducible rfl)
  conv => arg 9; simp only [Act.put, go_sem]
  refine tails_one (T := []) (i := 4) (o := _) rfl (by kernel_rfl) (fun K hK => ?_)
  go_simp
  refine (d14.out _ _ (M.out.nth 0 rfl)).mono ?_
  rintro rr w7_ ⟨rfl, hb⟩
  replace M : Hid (Own w [(w2_.heap.size, #[.int .i64 0]), (p8_1, #[.float .f64 al, .float .f64 ah]), (p7_1, #[.float .f64 gl, .float .f64 gh]), (w3_.heap.size, #[.float .f64 4614256656552045848, .float .f64 4614256656552045849]), ((w.heap.size + 1 + 1), #[.float .f64 0, .float .f64 0]), ((w.heap.size + 1), #[.float .f64 0, .float .f64 0]), (w.heap.size, #[.float .f64 sl, .float .f64 sh])] w7_) := Lib.hid (M.out.putAt 0 rfl hb)
  clear hb
  try go_wp2_with fail
  refine hK.out _ _ (Or.inr ⟨(M.out.nth 1 rfl).two, (M.out.nth 6 rfl).two⟩) (fun hHeld => ?_)
  clear hK K hHeld
  replace hS := (And.intro (M.out.nth 1 rfl).two (M.out.nth 6 rfl).two)
  refine tails_one (T := []) (i := 5) (o := _) rfl (by kernel_rfl) (fun K hK => ?_)
  have kc := (M.out.nth 5 rfl).2.1
  have kf := (M.out.nth 5 rfl).2.2
  replace M : Hid (Own w [(w2_.heap.size, #[.int .i64 0]), (p8_1, #[.float .f64 al, .float .f64 ah]), (p7_1, #[.float .f64 gl, .float .f64 gh]), (w3_.heap.size, #[.float .f64 4614256656552045848, .float .f64 4614256656552045849]), ((w.heap.size + 1 + 1), #[.float .f64 0, .float .f64 0]), ((w.heap.size + 1), #[.float .f64 al, .float .f64 ah]), (w.heap.size, #[.float .f64 sl, .float .f64 sh])] _) := Lib.hid (M.out.set2 5 rfl (.float .f64 al) (.float .f64 ah))
  go_simp
  refine hK.out _ _ (Or.inr ⟨(M.out.nth 1 rfl).two, (M.out.nth 6 rfl).two⟩) (fun hHeld => ?_)
  clear hK K hHeld kc kf
  refine tails_one (T := []) (i := 6) (o := _) rfl (by kernel_rfl) (fun K hK => ?_)
  have kc := (M.out.nth 4 rfl).2.1
  have kf := (M.out.nth 4 rfl).2.2
  replace M : Hid (Own w [(w2_.heap.size, #[.int .i64 0]), (p8_1, #[.float .f64 al, .float .f64 ah]), (p7_1, #[.float .f64 gl, .float .f64 gh]), (w3_.heap.size, #[.float .f64 4614256656552045848, .float .f64 4614256656552045849]), ((w.heap.size + 1 + 1), #[.float .f64 bl, .float .f64 bh]), ((w.heap.size + 1), #[.float .f64 al, .float .f64 ah]), (w.heap.size, #[.float .f64 sl, .float .f64 sh])] _) := Lib.hid (M.out.set2 4 rfl (.float .f64 bl) (.float .f64 bh))
  go_simp
  refine hK.out _ _ (Or.inr ⟨(M.out.nth 1 rfl).two, (M.out.nth 6 rfl).two⟩) (fun hHeld => ?_)
  clear hK K hHeld kc kf
  refine tails_one (T := []) (i := 7) (o := _) rfl (by kernel_rfl) (fun K hK => ?_)
  go_simp
  refine hK.out _ _ (Or.inr ⟨(M.out.nth 1 rfl).two, (M.out.nth 6 rfl).two⟩) (fun hHeld => ?_)
  clear hK K hHeld
  refine tails_done (by kernel_rfl) ?_ _
  refine NoPanic.normal ?_
  clear hS
  revert M
  generalize ((((w7_.setCell ⟨(w.heap.size + 1), 0, none⟩ (.float .f64 al)).setCell ⟨(w.heap.size + 1), 1, none⟩ (.float .f64 ah)).setCell ⟨(w.heap.size + 1 + 1), 0, none⟩ (.float .f64 bl)).setCell ⟨(w.heap.size + 1 + 1), 1, none⟩ (.float .f64 bh)) = W8_
  intro M
  go_wp2
  obtain ⟨f1, f2⟩ := (M.out.nth 5 rfl).two
  obtain ⟨f3, f4⟩ := (M.out.nth 4 rfl).two
  exact bodyPost_ret (v := .tuple #[.agg #[.float .f64 al, .float .f64 ah], .agg #[.float .f64 bl, .float .f64 bh], .int .i64 0]) (by simp [results, Tryz.results6, go_sem, f1, f2, f3, f4]) rfl ⟨rfl, M.out.base⟩

set_option maxRecDepth 100000 in
set_option maxHeartbeats 16000000 in
theorem refSlope_iv0 {il ih ol oh dl dh : Nat} (w : World)
    (c1 : Hid (∀ w, Calls Tryz.prog 16 #[.agg #[.float .f64 il, .float .f64 ih]] w fun r w' => r = .returned (.bool false) ∧ Below w.heap.size w w')) :
    Calls Tryz.prog 8 #[.agg #[.float .f64 il, .float .f64 ih], .agg #[.float .f64 ol, .float .f64 oh], .agg #[.float .f64 dl, .float .f64 dh]] w fun r w' => r = .returned (.tuple #[.agg #[.float .f64 0, .float .f64 0], .int .i64 20]) ∧ Below w.heap.size w w' := by
  have M := Lib.hid (((((Own.nil w).made #[.float .f64 il, .float .f64 ih] 24).made #[.float .f64 ol, .float .f64 oh] 24).made #[.float .f64 dl, .float .f64 dh] 24).made #[.float .f64 0, .float .f64 0] 24)
  simp only [World.size_alloc] at M
  have eqF := eq_floats
  go_enter Tryz.func8, Tryz.ntmps8
  obtain ⟨k1, k2⟩ := (M.out.nth 3 rfl).two
  go_wp2_with fail
  refine (c1.out _).mono ?_
  rintro r w1_ ⟨rfl, hb⟩
  replace M := Lib.hid (M.out.below hb)
  clear hb
  clear k1 k2
  have kc := (M.out.nth 0 rfl).2.1
  have kf := (M.out.nth 0 rfl).2.2
  replace M : Hid (Own w [((w.heap.size + 1 + 1 + 1), #[.float .f64 0, .float .f64 0]), ((w.heap.size + 1 + 1), #[.float .f64 dl, .float .f64 dh]), ((w.heap.size + 1), #[.float .f64 ol, .float .f64 oh]), (w.heap.size, #[.float .f64 il, .float .f64 ih])] _) := Lib.hid (M.out.set2 0 rfl (.float .f64 0) (.float .f64 0))
  go_wp2
  obtain ⟨f1, f2⟩ := (M.out.nth 0 rfl).two
  exact bodyPost_ret (v := .tuple #[.agg #[.float .f64 0, .float .f64 0], .int .i64 20]) (by simp [results, Tryz.results8, go_sem, f1, f2]) rfl ⟨rfl, M.out.base⟩

set_option maxRecDepth 100000 in
set_option maxHeartbeats 16000000 in
theorem refSlope_iv1 {il ih ol oh dl dh : Nat} (w : World)
    (c1 : Hid (∀ w, Calls Tryz.prog 16 #[.agg #[.float .f64 il, .float .f64 ih]] w fun r w' => r = .returned (.bool true) ∧ Below w.heap.size w w'))
    (c2 : Hid (∀ w, Calls Tryz.prog 16 #[.agg #[.float .f64 ol, .float .f64 oh]] w fun r w' => r = .returned (.bool false) ∧ Below w.heap.size w w')) :
    Calls Tryz.prog 8 #[.agg #[.float .f64 il, .float .f64 ih], .agg #[.float .f64 ol, .float .f64 oh], .agg #[.float .f64 dl, .float .f64 dh]] w fun r w' => r = .returned (.tuple #[.agg #[.float .f64 0, .float .f64 0], .int .i64 20]) ∧ Below w.heap.size w w' := by
  have M := Lib.hid (((((Own.nil w).made #[.float .f64 il, .float .f64 ih] 24).made #[.float .f64 ol, .float .f64 oh] 24).made #[.float .f64 dl, .float .f64 dh] 24).made #[.float .f64 0, .float .f64 0] 24)
  simp only [World.size_alloc] at M
  have eqF := eq_floats
  go_enter Tryz.func8, Tryz.ntmps8
  obtain ⟨k1, k2⟩ := (M.out.nth 3 rfl).two
  go_wp2_with fail
  refine (c1.out _).mono ?_
  rintro r w1_ ⟨rfl, hb⟩
  replace M := Lib.hid (M.out.below hb)
  clear hb
  clear k1 k2
  obtain ⟨k1, k2⟩ := (M.out.nth 2 rfl).two
  go_wp2_with fail
  refine (c2.out _).mono ?_
  rintro r w2_ ⟨rfl, hb⟩
  replace M := Lib.hid (M.out.below hb)
  clear hb
  clear k1 k2
  have kc := (M.out.nth 0 rfl).2.1
  have kf := (M.out.nth 0 rfl).2.2
  replace M : Hid (Own w [((w.heap.size + 1 + 1 + 1), #[.float .f64 0, .float .f64 0]), ((w.heap.size + 1 + 1), #[.float .f64 dl, .float .f64 dh]), ((w.heap.size + 1), #[.float .f64 ol, .float .f64 oh]), (w.heap.size, #[.float .f64 il, .float .f64 ih])] _) := Lib.hid (M.out.set2 0 rfl (.float .f64 0) (.float .f64 0))
  go_wp2
  obtain ⟨f1, f2⟩ := (M.out.nth 0 rfl).two
  exact bodyPost_ret (v := .tuple #[.agg #[.float .f64 0, .float .f64 0], .int .i64 20]) (by simp [results, Tryz.results8, go_sem, f1, f2]) rfl ⟨rfl, M.out.base⟩

set_option maxRecDepth 100000 in
set_option maxHeartbeats 16000000 in
theorem refSlope_iv2 {il ih ol oh dl dh : Nat} (w : World)
    (c1 : Hid (∀ w, Calls Tryz.prog 16 #[.agg #[.float .f64 il, .float .f64 ih]] w fun r w' => r = .returned (.bool true) ∧ Below w.heap.size w w'))
    (c2 : Hid (∀ w, Calls Tryz.prog 16 #[.agg #[.float .f64 ol, .float .f64 oh]] w fun r w' => r = .returned (.bool true) ∧ Below w.heap.size w w'))
    (c3 : Hid (∀ w, Calls Tryz.prog 16 #[.agg #[.float .f64 dl, .float .f64 dh]] w fun r w' => r = .returned (.bool false) ∧ Below w.heap.size w w')) :
    Calls Tryz.prog 8 #[.agg #[.float .f64 il, .float .f64 ih], .agg #[.float .f64 ol, .float .f64 oh], .agg #[.float .f64 dl, .float .f64 dh]] w fun r w' => r = .returned (.tuple #[.agg #[.float .f64 0, .float .f64 0], .int .i64 20]) ∧ Below w.heap.size w w' := by
  have M := Lib.hid (((((Own.nil w).made #[.float .f64 il, .float .f64 ih] 24).made #[.float .f64 ol, .float .f64 oh] 24).made #[.float .f64 dl, .float .f64 dh] 24).made #[.float .f64 0, .float .f64 0] 24)
  simp only [World.size_alloc] at M
  have eqF := eq_floats
  go_enter Tryz.func8, Tryz.ntmps8
  obtain ⟨k1, k2⟩ := (M.out.nth 3 rfl).two
  go_wp2_with fail
  refine (c1.out _).mono ?_
  rintro r w1_ ⟨rfl, hb⟩
  replace M := Lib.hid (M.out.below hb)
  clear hb
  clear k1 k2
  obtain ⟨k1, k2⟩ := (M.out.nth 2 rfl).two
  go_wp2_with fail
  refine (c2.out _).mono ?_
  rintro r w2_ ⟨rfl, hb⟩
  replace M := Lib.hid (M.out.below hb)
  clear hb
  clear k1 k2
  obtain ⟨k1, k2⟩ := (M.out.nth 1 rfl).two
  go_wp2_with fail
  refine (c3.out _).mono ?_
  rintro r w3_ ⟨rfl, hb⟩
  replace M := Lib.hid (M.out.below hb)
  clear hb
  clear k1 k2
  have kc := (M.out.nth 0 rfl).2.1
  have kf := (M.out.nth 0 rfl).2.2
  replace M : Hid (Own w [((w.heap.size + 1 + 1 + 1), #[.float .f64 0, .float .f64 0]), ((w.heap.size + 1 + 1), #[.float .f64 dl, .float .f64 dh]), ((w.heap.size + 1), #[.float .f64 ol, .float .f64 oh]), (w.heap.size, #[.float .f64 il, .float .f64 ih])] _) := Lib.hid (M.out.set2 0 rfl (.float .f64 0) (.float .f64 0))
  go_wp2
  obtain ⟨f1, f2⟩ := (M.out.nth 0 rfl).two
  exact bodyPost_ret (v := .tuple #[.agg #[.float .f64 0, .float .f64 0], .int .i64 20]) (by simp [results, Tryz.results8, go_sem, f1, f2]) rfl ⟨rfl, M.out.base⟩

set_option maxRecDepth 100000 in
set_option maxHeartbeats 16000000 in
theorem refSlope_arg0 {il ih ol oh dl dh : Nat} (w : World)
    (c1 : Hid (∀ w, Calls Tryz.prog 16 #[.agg #[.float .f64 il, .float .f64 ih]] w fun r w' => r = .returned (.bool true) ∧ Below w.heap.size w w'))
    (c2 : Hid (∀ w, Calls Tryz.prog 16 #[.agg #[.float .f64 ol, .float .f64 oh]] w fun r w' => r = .returned (.bool true) ∧ Below w.heap.size w w'))
    (c3 : Hid (∀ w, Calls Tryz.prog 16 #[.agg #[.float .f64 dl, .float .f64 dh]] w fun r w' => r = .returned (.bool true) ∧ Below w.heap.size w w'))
    (c4 : Hid (∀ w, Calls Tryz.prog 17 #[.agg #[.float .f64 il, .float .f64 ih], .float .f64 0, .float .f64 4607182418800017408] w fun r w' => r = .returned (.bool false) ∧ Below w.heap.size w w')) :
    Calls Tryz.prog 8 #[.agg #[.float .f64 il, .float .f64 ih], .agg #[.float .f64 ol, .float .f64 oh], .agg #[.float .f64 dl, .float .f64 dh]] w fun r w' => r = .returned (.tuple #[.agg #[.float .f64 0, .float .f64 0], .int .i64 2]) ∧ Below w.heap.size w w' := by
  have M := Lib.hid (((((Own.nil w).made #[.float .f64 il, .float .f64 ih] 24).made #[.float .f64 ol, .float .f64 oh] 24).made #[.float .f64 dl, .float .f64 dh] 24).made #[.float .f64 0, .float .f64 0] 24)
  simp only [World.size_alloc] at M
  have eqF := eq_floats
  go_enter Tryz.func8, Tryz.ntmps8
  obtain ⟨k1, k2⟩ := (M.out.nth 3 rfl).two
  go_wp2_with fail
  refine (c1.out _).mono ?_
  rintro r w1_ ⟨rfl, hb⟩
  replace M := Lib.hid (M.out.below hb)
  clear hb
  clear k1 k2
  obtain ⟨k1, k2⟩ := (M.out.nth 2 rfl).two
  go_wp2_with fail
  refine (c2.out _).mono ?_
  rintro r w2_ ⟨rfl, hb⟩
  replace M := Lib.hid (M.out.below hb)
  clear hb
  clear k1 k2
  obtain ⟨k1, k2⟩ := (M.out.nth 1 rfl).two
  go_wp2_with fail
  refine (c3.out _).mono ?_
  rintro r w3_ ⟨rfl, hb⟩
  replace M := Lib.hid (M.out.below hb)
  clear hb
  clear k1 k2
  obtain ⟨k1, k2⟩ := (M.out.nth 3 rfl).two
  go_wp2_with fail
  refine (c4.out _).mono ?_
  rintro r w4_ ⟨rfl, hb⟩
  replace M := Lib.hid (M.out.below hb)
  clear hb
  clear k1 k2
  have kc := (M.out.nth 0 rfl).2.1
  have kf := (M.out.nth 0 rfl).2.2
  replace M : Hid (Own w [((w.heap.size + 1 + 1 + 1), #[.float .f64 0, .float .f64 0]), ((w.heap.size + 1 + 1), #[.float .f64 dl, .float .f64 dh]), ((w.heap.size + 1), #[.float .f64 ol, .float .f64 oh]), (w.heap.size, #[.float .f64 il, .float .f64 ih])] _) := Lib.hid (M.out.set2 0 rfl (.float .f64 0) (.float .f64 0))
  go_wp2
  obtain ⟨f1, f2⟩ := (M.out.nth 0 rfl).two
  exact bodyPost_ret (v := .tuple #[.agg #[.float .f64 0, .float .f64 0], .int .i64 2]) (by simp [results, Tryz.results8, go_sem, f1, f2]) rfl ⟨rfl, M.out.base⟩

set_option maxRecDepth 100000 in
set_option maxHeartbeats 16000000 in
theorem refSlope_arg1 {il ih ol oh dl dh : Nat} (w : World)
    (c1 : Hid (∀ w, Calls Tryz.prog 16 #[.agg #[.float .f64 il, .float .f64 ih]] w fun r w' => r = .returned (.bool true) ∧ Below w.heap.size w w'))
    (c2 : Hid (∀ w, Calls Tryz.prog 16 #[.agg #[.float .f64 ol, .float .f64 oh]] w fun r w' => r = .returned (.bool true) ∧ Below w.heap.size w w'))
    (c3 : Hid (∀ w, Calls Tryz.prog 16 #[.agg #[.float .f64 dl, .float .f64 dh]] w fun r w' => r = .returned (.bool true) ∧ Below w.heap.size w w'))
    (c4 : Hid (∀ w, Calls Tryz.prog 17 #[.agg #[.float .f64 il, .float .f64 ih], .float .f64 0, .float .f64 4607182418800017408] w fun r w' => r = .returned (.bool true) ∧ Below w.heap.size w w'))
    (c5 : Hid (∀ w, Calls Tryz.prog 17 #[.agg #[.float .f64 ol, .float .f64 oh], .float .f64 0, .float .f64 4607182418800017408] w fun r w' => r = .returned (.bool false) ∧ Below w.heap.size w w')) :
    Calls Tryz.prog 8 #[.agg #[.float .f64 il, .float .f64 ih], .agg #[.float .f64 ol, .float .f64 oh], .agg #[.float .f64 dl, .float .f64 dh]] w fun r w' => r = .returned (.tuple #[.agg #[.float .f64 0, .float .f64 0], .int .i64 2]) ∧ Below w.heap.size w w' := by
  have M := Lib.hid (((((Own.nil w).made #[.float .f64 il, .float .f64 ih] 24).made #[.float .f64 ol, .float .f64 oh] 24).made #[.float .f64 dl, .float .f64 dh] 24).made #[.float .f64 0, .float .f64 0] 24)
  simp only [World.size_alloc] at M
  have eqF := eq_floats
  go_enter Tryz.func8, Tryz.ntmps8
  obtain ⟨k1, k2⟩ := (M.out.nth 3 rfl).two
  go_wp2_with fail
  refine (c1.out _).mono ?_
  rintro r w1_ ⟨rfl, hb⟩
  replace M := Lib.hid (M.out.below hb)
  clear hb
  clear k1 k2
  obtain ⟨k1, k2⟩ := (M.out.nth 2 rfl).two
  go_wp2_with fail
  refine (c2.out _).mono ?_
  rintro r w2_ ⟨rfl, hb⟩
  replace M := Lib.hid (M.out.below hb)
  clear hb
  clear k1 k2
  obtain ⟨k1, k2⟩ := (M.out.nth 1 rfl).two
  go_wp2_with fail
  refine (c3.out _).mono ?_
  rintro r w3_ ⟨rfl, hb⟩
  replace M := Lib.hid (M.out.below hb)
  clear hb
  clear k1 k2
  obtain ⟨k1, k2⟩ := (M.out.nth 3 rfl).two
  go_wp2_with fail
  refine (c4.out _).mono ?_
  rintro r w4_ ⟨rfl, hb⟩
  replace M := Lib.hid (M.out.below hb)
  clear hb
  clear k1 k2
  obtain ⟨k1, k2⟩ := (M.out.nth 2 rfl).two
  go_wp2_with fail
  refine (c5.out _).mono ?_
  rintro r w5_ ⟨rfl, hb⟩
  replace M := Lib.hid (M.out.below hb)
  clear hb
  clear k1 k2
  have kc := (M.out.nth 0 rfl).2.1
  have kf := (M.out.nth 0 rfl).2.2
  replace M : Hid (Own w [((w.heap.size + 1 + 1 + 1), #[.float .f64 0, .float .f64 0]), ((w.heap.size + 1 + 1), #[.float .f64 dl, .float .f64 dh]), ((w.heap.size + 1), #[.float .f64 ol, .float .f64 oh]), (w.heap.size, #[.float .f64 il, .float .f64 ih])] _) := Lib.hid (M.out.set2 0 rfl (.float .f64 0) (.float .f64 0))
  go_wp2
  obtain ⟨f1, f2⟩ := (M.out.nth 0 rfl).two
  exact bodyPost_ret (v := .tuple #[.agg #[.float .f64 0, .float .f64 0], .int .i64 2]) (by simp [results, Tryz.results8, go_sem, f1, f2]) rfl ⟨rfl, M.out.base⟩

set_option maxRecDepth 100000 in
set_option maxHeartbeats 16000000 in
theorem refSlope_arg2 {il ih ol oh dl dh : Nat} (w : World)
    (c1 : Hid (∀ w, Calls Tryz.prog 16 #[.agg #[.float .f64 il, .float .f64 ih]] w fun r w' => r = .returned (.bool true) ∧ Below w.heap.size w w'))
    (c2 : Hid (∀ w, Calls Tryz.prog 16 #[.agg #[.float .f64 ol, .float .f64 oh]] w fun r w' => r = .returned (.bool true) ∧ Below w.heap.size w w'))
    (c3 : Hid (∀ w, Calls Tryz.prog 16 #[.agg #[.float .f64 dl, .float .f64 dh]] w fun r w' => r = .returned (.bool true) ∧ Below w.heap.size w w'))
    (c4 : Hid (∀ w, Calls Tryz.prog 17 #[.agg #[.float .f64 il, .float .f64 ih], .float .f64 0, .float .f64 4607182418800017408] w fun r w' => r = .returned (.bool true) ∧ Below w.heap.size w w'))
    (c5 : Hid (∀ w, Calls Tryz.prog 17 #[.agg #[.float .f64 ol, .float .f64 oh], .float .f64 0, .float .f64 4607182418800017408] w fun r w' => r = .returned (.bool true) ∧ Below w.heap.size w w'))
    (c6 : Hid (∀ w, Calls Tryz.prog 17 #[.agg #[.float .f64 dl, .float .f64 dh], .float .f64 13830554455654793216, .float .f64 4607182418800017408] w fun r w' => r = .returned (.bool false) ∧ Below w.heap.size w w')) :
    Calls Tryz.prog 8 #[.agg #[.float .f64 il, .float .f64 ih], .agg #[.float .f64 ol, .float .f64 oh], .agg #[.float .f64 dl, .float .f64 dh]] w fun r w' => r = .returned (.tuple #[.agg #[.float .f64 0, .float .f64 0], .int .i64 2]) ∧ Below w.heap.size w w' := by
  have M := Lib.hid (((((Own.nil w).made #[.float .f64 il, .float .f64 ih] 24).made #[.float .f64 ol, .float .f64 oh] 24).made #[.float .f64 dl, .float .f64 dh] 24).made #[.float .f64 0, .float .f64 0] 24)
  simp only [World.size_alloc] at M
  have eqF := eq_floats
  go_enter Tryz.func8, Tryz.ntmps8
  obtain ⟨k1, k2⟩ := (M.out.nth 3 rfl).two
  go_wp2_with fail
  refine (c1.out _).mono ?_
  rintro r w1_ ⟨rfl, hb⟩
  replace M := Lib.hid (M.out.below hb)
  clear hb
  clear k1 k2
  obtain ⟨k1, k2⟩ := (M.out.nth 2 rfl).two
  go_wp2_with fail
  refine (c2.out _).mono ?_
  rintro r w2_ ⟨rfl, hb⟩
  replace M := Lib.hid (M.out.below hb)
  clear hb
  clear k1 k2
  obtain ⟨k1, k2⟩ := (M.out.nth 1 rfl).two
  go_wp2_with fail
  refine (c3.out _).mono ?_
  rintro r w3_ ⟨rfl, hb⟩
  replace M := Lib.hid (M.out.below hb)
  clear hb
  clear k1 k2
  obtain ⟨k1, k2⟩ := (M.out.nth 3 rfl).two
  go_wp2_with fail
  refine (c4.out _).mono ?_
  rintro r w4_ ⟨rfl, hb⟩
  replace M := Lib.hid (M.out.below hb)
  clear hb
  clear k1 k2
  obtain ⟨k1, k2⟩ := (M.out.nth 2 rfl).two
  go_wp2_with fail
  refine (c5.out _).mono ?_
  rintro r w5_ ⟨rfl, hb⟩
  replace M := Lib.hid (M.out.below hb)
  clear hb
  clear k1 k2
  obtain ⟨k1, k2⟩ := (M.out.nth 1 rfl).two
  go_wp2_with fail
  refine (c6.out _).mono ?_
  rintro r w6_ ⟨rfl, hb⟩
  replace M := Lib.hid (M.out.below hb)
  clear hb
  clear k1 k2
  have kc := (M.out.nth 0 rfl).2.1
  have kf := (M.out.nth 0 rfl).2.2
  replace M : Hid (Own w [((w.heap.size + 1 + 1 + 1), #[.float .f64 0, .float .f64 0]), ((w.heap.size + 1 + 1), #[.float .f64 dl, .float .f64 dh]), ((w.heap.size + 1), #[.float .f64 ol, .float .f64 oh]), (w.heap.size, #[.float .f64 il, .float .f64 ih])] _) := Lib.hid (M.out.set2 0 rfl (.float .f64 0) (.float .f64 0))
  go_wp2
  obtain ⟨f1, f2⟩ := (M.out.nth 0 rfl).two
  exact bodyPost_ret (v := .tuple #[.agg #[.float .f64 0, .float .f64 0], .int .i64 2]) (by simp [results, Tryz.results8, go_sem, f1, f2]) rfl ⟨rfl, M.out.base⟩

def zslowJ6 (w : World) (pb : Nat) (ml mh sl sh : Nat) (l : RowL) (a0 : Act) (k : Nat) (p : List (Option Nat)) (a : Act) (v : World) : Prop :=
  ∃ y1 y2 z1 : Value, a = (((a0.put (some 47) y1).put (some 48) y2).put (some 9) z1) ∧ (0 < k → y1 = .agg #[.float .f64 ml, .float .f64 mh]) ∧ (1 < k → y2 = .agg #[.float .f64 sl, .float .f64 sh]) ∧ (∀ q, p[0]? = some (some q) → z1 = .pointer (some ⟨q, 0, none⟩)) ∧ OwnF w ((pb, #[.int .i64 0]) :: l) [#[.float .f64 0, .float .f64 0]] p v
section
variable {w v : World} {pb : Nat} {ml mh sl sh : Nat} {l : RowL} {a0 a : Act} {p : List (Option Nat)}
theorem zslowJ6_0 (h : zslowJ6 w pb ml mh sl sh l a0 0 p a v) : ∃ y1 y2 z1 : Value, a = (((a0.put (some 47) y1).put (some 48) y2).put (some 9) z1) ∧ (∀ q, p[0]? = some (some q) → z1 = .pointer (some ⟨q, 0, none⟩)) ∧ OwnF w ((pb, #[.int .i64 0]) :: l) [#[.float .f64 0, .float .f64 0]] p v := by
  obtain ⟨y1, y2, z1, ha, E1, E2, G1, h⟩ := h
  exact ⟨y1, y2, z1, ha, G1, h⟩
theorem zslowJ6_1 (h : zslowJ6 w pb ml mh sl sh l a0 1 p a v) : ∃ y2 z1 : Value, a = (((a0.put (some 47) (.agg #[.float .f64 ml, .float .f64 mh])).put (some 48) y2).put (some 9) z1) ∧ (∀ q, p[0]? = some (some q) → z1 = .pointer (some ⟨q, 0, none⟩)) ∧ OwnF w ((pb, #[.int .i64 0]) :: l) [#[.float .f64 0, .float .f64 0]] p v := by
  obtain ⟨y1, y2, z1, ha, E1, E2, G1, h⟩ := h
  obtain rfl := E1 (by decide)
  exact ⟨y2, z1, ha, G1, h⟩
theorem zslowJ6_fin {q1 : Nat} (h : zslowJ6 w pb ml mh sl sh l a0 2 [some q1] a v) : a = (((a0.put (some 47) (.agg #[.float .f64 ml, .float .f64 mh])).put (some 48) (.agg #[.float .f64 sl, .float .f64 sh])).put (some 9) (.pointer (some ⟨q1, 0, none⟩))) ∧ OwnF w ((pb, #[.int .i64 0]) :: l) [#[.float .f64 0, .float .f64 0]] [some q1] v := by
  obtain ⟨y1, y2, z1, ha, E1, E2, G1, h⟩ := h
  obtain rfl := E1 (by decide)
  obtain rfl := E2 (by decide)
  obtain rfl := G1 _ rfl
  exact ⟨ha, h⟩
end

set_option maxRecDepth 100000 in
set_option maxHeartbeats 16000000 in
theorem refSlope_low {il ih ol oh dl dh ml mh sl sh kl kh : Nat} (w : World)
    (c1 : Hid (∀ w, Calls Tryz.prog 16 #[.agg #[.float .f64 il, .float .f64 ih]] w fun r w' => r = .returned (.bool true) ∧ Below w.heap.size w w'))
    (c2 : Hid (∀ w, Calls Tryz.prog 16 #[.agg #[.float .f64 ol, .float .f64 oh]] w fun r w' => r = .returned (.bool true) ∧ Below w.heap.size w w'))
    (c3 : Hid (∀ w, Calls Tryz.prog 16 #[.agg #[.float .f64 dl, .float .f64 dh]] w fun r w' => r = .returned (.bool true) ∧ Below w.heap.size w w'))
    (c4 : Hid (∀ w, Calls Tryz.prog 17 #[.agg #[.float .f64 il, .float .f64 ih], .float .f64 0, .float .f64 4607182418800017408] w fun r w' => r = .returned (.bool true) ∧ Below w.heap.size w w'))
    (c5 : Hid (∀ w, Calls Tryz.prog 17 #[.agg #[.float .f64 ol, .float .f64 oh], .float .f64 0, .float .f64 4607182418800017408] w fun r w' => r = .returned (.bool true) ∧ Below w.heap.size w w'))
    (c6 : Hid (∀ w, Calls Tryz.prog 17 #[.agg #[.float .f64 dl, .float .f64 dh], .float .f64 13830554455654793216, .float .f64 4607182418800017408] w fun r w' => r = .returned (.bool true) ∧ Below w.heap.size w w'))
    (d7 : Hid (∀ pb v, Has1 v (pb, #[.int .i64 0]) → Calls Tryz.prog 23 #[.pointer (some ⟨pb, 0, none⟩), .agg #[.float .f64 il, .float .f64 ih], .agg #[.float .f64 ol, .float .f64 oh]] v fun r w' => r = .returned (.agg #[.float .f64 ml, .float .f64 mh]) ∧ Put ⟨pb, 0, none⟩ (.int .i64 0) v w'))
    (d8 : Hid (∀ pb v, Has1 v (pb, #[.int .i64 0]) → Calls Tryz.prog 19 #[.pointer (some ⟨pb, 0, none⟩), .agg #[.float .f64 dl, .float .f64 dh], .agg #[.float .f64 ml, .float .f64 mh]] v fun r w' => r = .returned (.agg #[.float .f64 sl, .float .f64 sh]) ∧ Put ⟨pb, 0, none⟩ (.int .i64 0) v w'))
    (o_gtrsh_0 : ((FloatKind.f64.format.order sh 0 == some Ordering.gt) = false))
    (c9 : Hid (∀ w, Calls Tryz.prog 27 #[.agg #[.float .f64 sl, .float .f64 sh], .float .f64 13830554455654793216, .float .f64 4607182418800017408] w fun r w' => r = .returned (.agg #[.float .f64 kl, .float .f64 kh]) ∧ Below w.heap.size w w')) :
    Calls Tryz.prog 8 #[.agg #[.float .f64 il, .float .f64 ih], .agg #[.float .f64 ol, .float .f64 oh], .agg #[.float .f64 dl, .float .f64 dh]] w fun r w' => r = .returned (.tuple #[.agg #[.float .f64 kl, .float .f64 kh], .int .i64 0]) ∧ Below w.heap.size w w' := by
  have M := Lib.hid (((((Own.nil w).made #[.float .f64 il, .float .f64 ih] 24).made #[.float .f64 ol, .float .f64 oh] 24).made #[.float .f64 dl, .float .f64 dh] 24).made #[.float .f64 0, .float .f64 0] 24)
  simp only [World.size_alloc] at M
  have eqF := eq_floats
  go_enter Tryz.func8, Tryz.ntmps8
  obtain ⟨k1, k2⟩ := (M.out.nth 3 rfl).two
  go_wp2_with fail
  refine (c1.out _).mono ?_
  rintro r w1_ ⟨rfl, hb⟩
  replace M := Lib.hid (M.out.below hb)
  clear hb
  clear k1 k2
  obtain ⟨k1, k2⟩ := (M.out.nth 2 rfl).two
  go_wp2_with fail
  refine (c2.out _).mono ?_
  rintro r w2_ ⟨rfl, hb⟩
  replace M := Lib.hid (M.out.below hb)
  clear hb
  clear k1 k2
  obtain ⟨k1, k2⟩ := (M.out.nth 1 rfl).two
  go_wp2_with fail
  refine (c3.out _).mono ?_
  rintro r w3_ ⟨rfl, hb⟩
  replace M := Lib.hid (M.out.below hb)
  clear hb
  clear k1 k2
  obtain ⟨k1, k2⟩ := (M.out.nth 3 rfl).two
  go_wp2_with fail
  refine (c4.out _).mono ?_
  rintro r w4_ ⟨rfl, hb⟩
  replace M := Lib.hid (M.out.below hb)
  clear hb
  clear k1 k2
  obtain ⟨k1, k2⟩ := (M.out.nth 2 rfl).two
  go_wp2_with fail
  refine (c5.out _).mono ?_
  rintro r w5_ ⟨rfl, hb⟩
  replace M := Lib.hid (M.out.below hb)
  clear hb
  clear k1 k2
  obtain ⟨k1, k2⟩ := (M.out.nth 1 rfl).two
  go_wp2_with fail
  refine (c6.out _).mono ?_
  rintro r w6_ ⟨rfl, hb⟩
  replace M := Lib.hid (M.out.below hb)
  clear hb
  clear k1 k2
  replace M := Lib.hid (M.out.made #[.int .i64 0] 52)
  go_upto_region 6 with fail
  replace M := Lib.hid M.out.drew
  revert M
  generalize (w6_.alloc (.cells #[.int .i64 0] 52)) = W7_
  intro M
  refine wp_region_noPanic ?_
  refine tails_region (S := fun w' => (w'.cell? ⟨(w.heap.size + 1 + 1), 0, none⟩ = some (.float .f64 dl) ∧ w'.cell? ⟨(w.heap.size + 1 + 1), 1, none⟩ = some (.float .f64 dh)) ∧ (w'.cell? ⟨w.heap.size, 0, none⟩ = some (.float .f64 il) ∧ w'.cell? ⟨w.heap.size, 1, none⟩ = some (.float .f64 ih)) ∧ (w'.cell? ⟨(w.heap.size + 1), 0, none⟩ = some (.float .f64 ol) ∧ w'.cell? ⟨(w.heap.size + 1), 1, none⟩ = some (.float .f64 oh))) [] (by kernel_rfl) ?_ (fun hS => ?_)
  · exact ⟨(M.out.nth 2 rfl).two, (M.out.nth 4 rfl).two, (M.out.nth 3 rfl).two⟩
  refine tk (x := ?_) 0 rfl (by kernel_rfl) ⟨by rfl, ?_⟩ (fun _ _ _ h => h) hS ?_
  rotate_left; focus (intro w hSw; (try dsimp only at hSw); go_simp; try with_reducible rfl)
  refine tk (x := ?_) 1 rfl (by kernel_rfl) ⟨by rfl, ?_⟩ (fun _ _ _ h => h) hS ?_
  rotate_left; focus (intro w hSw; (try dsimp only at hSw); go_simp; try with_reducible rfl)
  refine tk (x := ?_) 2 rfl (by kernel_rfl) ⟨by rfl, ?_⟩ (fun _ _ _ h => h) hS ?_
  rotate_left; focus (intro w hSw; (try dsimp only at hSw); go_simp; try with_reducible rfl)
  refine tk (x := ?_) 3 rfl (by kernel_rfl) ⟨by rfl, ?_⟩ (fun _ _ _ h => h) hS ?_
  rotate_left; focus (intro w hSw; (try dsimp only at hSw); go_simp; try with_reducible rfl)
  refine tk (x := ?_) 4 rfl (by kernel_rfl) ⟨by rfl, ?_⟩ (fun _ _ _ h => h) hS ?_
  rotate_left; focus (intro w hSw; (try dsimp only at hSw); go_simp; try with_reducible rfl)
  conv => arg 9; simp only [Act.put, go_sem]
  refine lpz_cc_1 M 5 6 7 [47, 48, 9] 1 (zslowJ6 w w6_.heap.size ml mh sl sh) (by kernel_rfl) (by kernel_rfl) ?_ ?_ ?_ ?_ ?_ ?_
  · intro A hA
    obtain ⟨y1, hq1⟩ := put_ex (hA 47 (by simp))
    obtain ⟨y2, hq2⟩ := put_ex (hA 48 (by simp))
    obtain ⟨z1, hq3⟩ := put_ex (hA 9 (by simp))
    exact ⟨y1, y2, z1, by rw [hq1, hq2, hq3], by omega, by omega, by simp, OwnF.start M.out 1⟩
  · rintro k p a v ⟨y1, y2, z1, _, _, _, _, h⟩
    exact ⟨(h.own.nth 2 rfl).two, (h.own.nth 4 rfl).two, (h.own.nth 3 rfl).two⟩
  · intro p a v hJ
    refine op_step (o := _) rfl (fun K hK => ?_)
    obtain ⟨y1, y2, z1, ha, gg1, h⟩ := zslowJ6_0 hJ
    have h := Lib.hid h
    clear hJ
    subst ha
    go_simp
    refine (d7.out _ _ (h.out.own.nth 0 rfl)).mono ?_
    rintro rr w5 ⟨rfl, hp⟩
    try go_wp2_with fail
    refine hK.out _ _ ⟨_, y2, z1, ?_, fun _ => rfl, by omega, gg1, h.out.putHead hp⟩
    kernel_rfl
  · intro p a v hJ
    refine op_step (o := _) rfl (fun K hK => ?_)
    obtain ⟨y2, z1, ha, gg1, h⟩ := zslowJ6_1 hJ
    have h := Lib.hid h
    clear hJ
    subst ha
    go_simp
    refine (d8.out _ _ (h.out.own.nth 0 rfl)).mono ?_
    rintro rr w5 ⟨rfl, hp⟩
    try go_wp2_with fail
    refine hK.out _ _ ⟨_, _, z1, ?_, fun _ => rfl, fun _ => rfl, gg1, h.out.putHead hp⟩
    kernel_rfl
  · intro k p a v hp hJ
    refine op_step (o := _) rfl (fun K hK => ?_)
    obtain ⟨y1, y2, z1, ha, ee1, ee2, gg1, h⟩ := hJ
    have h := Lib.hid h
    subst ha
    go_simp
    refine hK.out _ _ ⟨v.heap.size, y1, y2, .pointer (some ⟨v.heap.size, 0, none⟩), ?_, ee1, ee2, fun q hq => ptr_set hq, h.out.alloc hp rfl _⟩
    kernel_rfl
  intro p6_1 a v hJ
  obtain ⟨rfl, h⟩ := zslowJ6_fin hJ
  clear hJ
  replace M := Lib.hid h.fin1
  clear h
  refine tails_one (T := []) (i := 8) (o := _) rfl (by kernel_rfl) (fun K hK => ?_)
  have kc := (M.out.nth 0 rfl).2.1
  have kf := (M.out.nth 0 rfl).2.2
  replace M : Hid (Own w [(p6_1, #[.float .f64 sl, .float .f64 sh]), (w6_.heap.size, #[.int .i64 0]), ((w.heap.size + 1 + 1 + 1), #[.float .f64 0, .float .f64 0]), ((w.heap.size + 1 + 1), #[.float .f64 dl, .float .f64 dh]), ((w.heap.size + 1), #[.float .f64 ol, .float .f64 oh]), (w.heap.size, #[.float .f64 il, .float .f64 ih])] _) := Lib.hid (M.out.set2 0 rfl (.float .f64 sl) (.float .f64 sh))
  go_simp
  refine hK.out _ _ (Or.inr ⟨(M.out.nth 3 rfl).two, (M.out.nth 5 rfl).two, (M.out.nth 4 rfl).two⟩) (fun hHeld => ?_)
  clear hK K hHeld kc kf
  refine tails_done (by kernel_rfl) ?_ _
  refine NoPanic.normal ?_
  clear hS
  replace M : Hid (Own w [(w6_.heap.size, #[.int .i64 0]), (p6_1, #[.float .f64 sl, .float .f64 sh]), ((w.heap.size + 1 + 1 + 1), #[.float .f64 0, .float .f64 0]), ((w.heap.size + 1 + 1), #[.float .f64 dl, .float .f64 dh]), ((w.heap.size + 1), #[.float .f64 ol, .float .f64 oh]), (w.heap.size, #[.float .f64 il, .float .f64 ih])] _) := Lib.hid M.out.front
  revert M
  generalize ((v.setCell ⟨p6_1, 0, none⟩ (.float .f64 sl)).setCell ⟨p6_1, 1, none⟩ (.float .f64 sh)) = W8_
  intro M
  obtain ⟨k1, k2⟩ := (M.out.nth 1 rfl).two
  have k3 := (M.out.nth 0 rfl).pc
  obtain ⟨k4, k5⟩ := (M.out.nth 1 rfl).two
  go_wp2_with fail
  refine (c9.out _).mono ?_
  rintro r w9_ ⟨rfl, hb⟩
  replace M := Lib.hid (M.out.below hb)
  clear hb
  clear k1 k2 k3 k4 k5
  have kc := (M.out.nth 2 rfl).2.1
  have kf := (M.out.nth 2 rfl).2.2
  replace M : Hid (Own w [(w6_.heap.size, #[.int .i64 0]), (p6_1, #[.float .f64 sl, .float .f64 sh]), ((w.heap.size + 1 + 1 + 1), #[.float .f64 kl, .float .f64 kh]), ((w.heap.size + 1 + 1), #[.float .f64 dl, .float .f64 dh]), ((w.heap.size + 1), #[.float .f64 ol, .float .f64 oh]), (w.heap.size, #[.float .f64 il, .float .f64 ih])] _) := Lib.hid (M.out.set2 2 rfl (.float .f64 kl) (.float .f64 kh))
  go_wp2
  obtain ⟨f1, f2⟩ := (M.out.nth 2 rfl).two
  exact bodyPost_ret (v := .tuple #[.agg #[.float .f64 kl, .float .f64 kh], .int .i64 0]) (by simp [results, Tryz.results8, go_sem, f1, f2]) rfl ⟨rfl, M.out.base⟩

def zsposJ6 (w : World) (pb : Nat) (ml mh sl sh : Nat) (l : RowL) (a0 : Act) (k : Nat) (p : List (Option Nat)) (a : Act) (v : World) : Prop :=
  ∃ y1 y2 z1 : Value, a = (((a0.put (some 47) y1).put (some 48) y2).put (some 9) z1) ∧ (0 < k → y1 = .agg #[.float .f64 ml, .float .f64 mh]) ∧ (1 < k → y2 = .agg #[.float .f64 sl, .float .f64 sh]) ∧ (∀ q, p[0]? = some (some q) → z1 = .pointer (some ⟨q, 0, none⟩)) ∧ OwnF w ((pb, #[.int .i64 0]) :: l) [#[.float .f64 0, .float .f64 0]] p v
section
variable {w v : World} {pb : Nat} {ml mh sl sh : Nat} {l : RowL} {a0 a : Act} {p : List (Option Nat)}
theorem zsposJ6_0 (h : zsposJ6 w pb ml mh sl sh l a0 0 p a v) : ∃ y1 y2 z1 : Value, a = (((a0.put (some 47) y1).put (some 48) y2).put (some 9) z1) ∧ (∀ q, p[0]? = some (some q) → z1 = .pointer (some ⟨q, 0, none⟩)) ∧ OwnF w ((pb, #[.int .i64 0]) :: l) [#[.float .f64 0, .float .f64 0]] p v := by
  obtain ⟨y1, y2, z1, ha, E1, E2, G1, h⟩ := h
  exact ⟨y1, y2, z1, ha, G1, h⟩
theorem zsposJ6_1 (h : zsposJ6 w pb ml mh sl sh l a0 1 p a v) : ∃ y2 z1 : Value, a = (((a0.put (some 47) (.agg #[.float .f64 ml, .float .f64 mh])).put (some 48) y2).put (some 9) z1) ∧ (∀ q, p[0]? = some (some q) → z1 = .pointer (some ⟨q, 0, none⟩)) ∧ OwnF w ((pb, #[.int .i64 0]) :: l) [#[.float .f64 0, .float .f64 0]] p v := by
  obtain ⟨y1, y2, z1, ha, E1, E2, G1, h⟩ := h
  obtain rfl := E1 (by decide)
  exact ⟨y2, z1, ha, G1, h⟩
theorem zsposJ6_fin {q1 : Nat} (h : zsposJ6 w pb ml mh sl sh l a0 2 [some q1] a v) : a = (((a0.put (some 47) (.agg #[.float .f64 ml, .float .f64 mh])).put (some 48) (.agg #[.float .f64 sl, .float .f64 sh])).put (some 9) (.pointer (some ⟨q1, 0, none⟩))) ∧ OwnF w ((pb, #[.int .i64 0]) :: l) [#[.float .f64 0, .float .f64 0]] [some q1] v := by
  obtain ⟨y1, y2, z1, ha, E1, E2, G1, h⟩ := h
  obtain rfl := E1 (by decide)
  obtain rfl := E2 (by decide)
  obtain rfl := G1 _ rfl
  exact ⟨ha, h⟩
end

set_option maxRecDepth 100000 in
set_option maxHeartbeats 16000000 in
theorem refSlope_pos {il ih ol oh dl dh ml mh sl sh xl xh rl rh kl kh : Nat} (w : World)
    (c1 : Hid (∀ w, Calls Tryz.prog 16 #[.agg #[.float .f64 il, .float .f64 ih]] w fun r w' => r = .returned (.bool true) ∧ Below w.heap.size w w'))
    (c2 : Hid (∀ w, Calls Tryz.prog 16 #[.agg #[.float .f64 ol, .float .f64 oh]] w fun r w' => r = .returned (.bool true) ∧ Below w.heap.size w w'))
    (c3 : Hid (∀ w, Calls Tryz.prog 16 #[.agg #[.float .f64 dl, .float .f64 dh]] w fun r w' => r = .returned (.bool true) ∧ Below w.heap.size w w'))
    (c4 : Hid (∀ w, Calls Tryz.prog 17 #[.agg #[.float .f64 il, .float .f64 ih], .float .f64 0, .float .f64 4607182418800017408] w fun r w' => r = .returned (.bool true) ∧ Below w.heap.size w w'))
    (c5 : Hid (∀ w, Calls Tryz.prog 17 #[.agg #[.float .f64 ol, .float .f64 oh], .float .f64 0, .float .f64 4607182418800017408] w fun r w' => r = .returned (.bool true) ∧ Below w.heap.size w w'))
    (c6 : Hid (∀ w, Calls Tryz.prog 17 #[.agg #[.float .f64 dl, .float .f64 dh], .float .f64 13830554455654793216, .float .f64 4607182418800017408] w fun r w' => r = .returned (.bool true) ∧ Below w.heap.size w w'))
    (d7 : Hid (∀ pb v, Has1 v (pb, #[.int .i64 0]) → Calls Tryz.prog 23 #[.pointer (some ⟨pb, 0, none⟩), .agg #[.float .f64 il, .float .f64 ih], .agg #[.float .f64 ol, .float .f64 oh]] v fun r w' => r = .returned (.agg #[.float .f64 ml, .float .f64 mh]) ∧ Put ⟨pb, 0, none⟩ (.int .i64 0) v w'))
    (d8 : Hid (∀ pb v, Has1 v (pb, #[.int .i64 0]) → Calls Tryz.prog 19 #[.pointer (some ⟨pb, 0, none⟩), .agg #[.float .f64 dl, .float .f64 dh], .agg #[.float .f64 ml, .float .f64 mh]] v fun r w' => r = .returned (.agg #[.float .f64 sl, .float .f64 sh]) ∧ Put ⟨pb, 0, none⟩ (.int .i64 0) v w'))
    (o_gtrsh_0 : ((FloatKind.f64.format.order sh 0 == some Ordering.gt) = true))
    (d9 : Hid (∀ pb v, Has1 v (pb, #[.int .i64 0]) → Calls Tryz.prog 25 #[.pointer (some ⟨pb, 0, none⟩), .agg #[.float .f64 il, .float .f64 ih], .agg #[.float .f64 ol, .float .f64 oh]] v fun r w' => r = .returned (.agg #[.float .f64 xl, .float .f64 xh]) ∧ Put ⟨pb, 0, none⟩ (.int .i64 0) v w'))
    (o_geqsl_0 : (((FloatKind.f64.format.order sl 0 == some Ordering.gt) || (FloatKind.f64.format.order sl 0 == some Ordering.eq)) = true))
    (d10 : Hid (∀ pb v, Has1 v (pb, #[.int .i64 0]) → Calls Tryz.prog 20 #[.pointer (some ⟨pb, 0, none⟩), .agg #[.float .f64 sl, .float .f64 sh], .agg #[.float .f64 xl, .float .f64 xh]] v fun r w' => r = .returned (.agg #[.float .f64 rl, .float .f64 rh]) ∧ Put ⟨pb, 0, none⟩ (.int .i64 0) v w'))
    (c11 : Hid (∀ w, Calls Tryz.prog 27 #[.agg #[.float .f64 rl, .float .f64 rh], .float .f64 13830554455654793216, .float .f64 4607182418800017408] w fun r w' => r = .returned (.agg #[.float .f64 kl, .float .f64 kh]) ∧ Below w.heap.size w w')) :
    Calls Tryz.prog 8 #[.agg #[.float .f64 il, .float .f64 ih], .agg #[.float .f64 ol, .float .f64 oh], .agg #[.float .f64 dl, .float .f64 dh]] w fun r w' => r = .returned (.tuple #[.agg #[.float .f64 kl, .float .f64 kh], .int .i64 0]) ∧ Below w.heap.size w w' := by
  have M := Lib.hid (((((Own.nil w).made #[.float .f64 il, .float .f64 ih] 24).made #[.float .f64 ol, .float .f64 oh] 24).made #[.float .f64 dl, .float .f64 dh] 24).made #[.float .f64 0, .float .f64 0] 24)
  simp only [World.size_alloc] at M
  have eqF := eq_floats
  go_enter Tryz.func8, Tryz.ntmps8
  obtain ⟨k1, k2⟩ := (M.out.nth 3 rfl).two
  go_wp2_with fail
  refine (c1.out _).mono ?_
  rintro r w1_ ⟨rfl, hb⟩
  replace M := Lib.hid (M.out.below hb)
  clear hb
  clear k1 k2
  obtain ⟨k1, k2⟩ := (M.out.nth 2 rfl).two
  go_wp2_with fail
  refine (c2.out _).mono ?_
  rintro r w2_ ⟨rfl, hb⟩
  replace M := Lib.hid (M.out.below hb)
  clear hb
  clear k1 k2
  obtain ⟨k1, k2⟩ := (M.out.nth 1 rfl).two
  go_wp2_with fail
  refine (c3.out _).mono ?_
  rintro r w3_ ⟨rfl, hb⟩
  replace M := Lib.hid (M.out.below hb)
  clear hb
  clear k1 k2
  obtain ⟨k1, k2⟩ := (M.out.nth 3 rfl).two
  go_wp2_with fail
  refine (c4.out _).mono ?_
  rintro r w4_ ⟨rfl, hb⟩
  replace M := Lib.hid (M.out.below hb)
  clear hb
  clear k1 k2
  obtain ⟨k1, k2⟩ := (M.out.nth 2 rfl).two
  go_wp2_with fail
  refine (c5.out _).mono ?_
  rintro r w5_ ⟨rfl, hb⟩
  replace M := Lib.hid (M.out.below hb)
  clear hb
  clear k1 k2
  obtain ⟨k1, k2⟩ := (M.out.nth 1 rfl).two
  go_wp2_with fail
  refine (c6.out _).mono ?_
  rintro r w6_ ⟨rfl, hb⟩
  replace M := Lib.hid (M.out.below hb)
  clear hb
  clear k1 k2
  replace M := Lib.hid (M.out.made #[.int .i64 0] 52)
  go_upto_region 6 with fail
  replace M := Lib.hid M.out.drew
  revert M
  generalize (w6_.alloc (.cells #[.int .i64 0] 52)) = W7_
  intro M
  refine wp_region_noPanic ?_
  refine tails_region (S := fun w' => (w'.cell? ⟨(w.heap.size + 1 + 1), 0, none⟩ = some (.float .f64 dl) ∧ w'.cell? ⟨(w.heap.size + 1 + 1), 1, none⟩ = some (.float .f64 dh)) ∧ (w'.cell? ⟨w.heap.size, 0, none⟩ = some (.float .f64 il) ∧ w'.cell? ⟨w.heap.size, 1, none⟩ = some (.float .f64 ih)) ∧ (w'.cell? ⟨(w.heap.size + 1), 0, none⟩ = some (.float .f64 ol) ∧ w'.cell? ⟨(w.heap.size + 1), 1, none⟩ = some (.float .f64 oh))) [] (by kernel_rfl) ?_ (fun hS => ?_)
  · exact ⟨(M.out.nth 2 rfl).two, (M.out.nth 4 rfl).two, (M.out.nth 3 rfl).two⟩
  refine tk (x := ?_) 0 rfl (by kernel_rfl) ⟨by rfl, ?_⟩ (fun _ _ _ h => h) hS ?_
  rotate_left; focus (intro w hSw; (try dsimp only at hSw); go_simp; try with_reducible rfl)
  refine tk (x := ?_) 1 rfl (by kernel_rfl) ⟨by rfl, ?_⟩ (fun _ _ _ h => h) hS ?_
  rotate_left; focus (intro w hSw; (try dsimp only at hSw); go_simp; try with_reducible rfl)
  refine tk (x := ?_) 2 rfl (by kernel_rfl) ⟨by rfl, ?_⟩ (fun _ _ _ h => h) hS ?_
  rotate_left; focus (intro w hSw; (try dsimp only at hSw); go_simp; try with_reducible rfl)
  refine tk (x := ?_) 3 rfl (by kernel_rfl) ⟨by rfl, ?_⟩ (fun _ _ _ h => h) hS ?_
  rotate_left; focus (intro w hSw; (try dsimp only at hSw); go_simp; try with_reducible rfl)
  refine tk (x := ?_) 4 rfl (by kernel_rfl) ⟨by rfl, ?_⟩ (fun _ _ _ h => h) hS ?_
  rotate_left; focus (intro w hSw; (try dsimp only at hSw); go_simp; try with_reducible rfl)
  conv => arg 9; simp only [Act.put, go_sem]
  refine lpz_cc_1 M 5 6 7 [47, 48, 9] 1 (zsposJ6 w w6_.heap.size ml mh sl sh) (by kernel_rfl) (by kernel_rfl) ?_ ?_ ?_ ?_ ?_ ?_
  · intro A hA
    obtain ⟨y1, hq1⟩ := put_ex (hA 47 (by simp))
    obtain ⟨y2, hq2⟩ := put_ex (hA 48 (by simp))
    obtain ⟨z1, hq3⟩ := put_ex (hA 9 (by simp))
    exact ⟨y1, y2, z1, by rw [hq1, hq2, hq3], by omega, by omega, by simp, OwnF.start M.out 1⟩
  · rintro k p a v ⟨y1, y2, z1, _, _, _, _, h⟩
    exact ⟨(h.own.nth 2 rfl).two, (h.own.nth 4 rfl).two, (h.own.nth 3 rfl).two⟩
  · intro p a v hJ
    refine op_step (o := _) rfl (fun K hK => ?_)
    obtain ⟨y1, y2, z1, ha, gg1, h⟩ := zsposJ6_0 hJ
    have h := Lib.hid h
    clear hJ
    subst ha
    go_simp
    refine (d7.out _ _ (h.out.own.nth 0 rfl)).mono ?_
    rintro rr w5 ⟨rfl, hp⟩
    try go_wp2_with fail
    refine hK.out _ _ ⟨_, y2, z1, ?_, fun _ => rfl, by omega, gg1, h.out.putHead hp⟩
    kernel_rfl
  · intro p a v hJ
    refine op_step (o := _) rfl (fun K hK => ?_)
    obtain ⟨y2, z1, ha, gg1, h⟩ := zsposJ6_1 hJ
    have h := Lib.hid h
    clear hJ
    subst ha
    go_simp
    refine (d8.out _ _ (h.out.own.nth 0 rfl)).mono ?_
    rintro rr w5 ⟨rfl, hp⟩
    try go_wp2_with fail
    refine hK.out _ _ ⟨_, _, z1, ?_, fun _ => rfl, fun _ => rfl, gg1, h.out.putHead hp⟩
    kernel_rfl
  · intro k p a v hp hJ
    refine op_step (o := _) rfl (fun K hK => ?_)
    obtain ⟨y1, y2, z1, ha, ee1, ee2, gg1, h⟩ := hJ
    have h := Lib.hid h
    subst ha
    go_simp
    refine hK.out _ _ ⟨v.heap.size, y1, y2, .pointer (some ⟨v.heap.size, 0, none⟩), ?_, ee1, ee2, fun q hq => ptr_set hq, h.out.alloc hp rfl _⟩
    kernel_rfl
  intro p6_1 a v hJ
  obtain ⟨rfl, h⟩ := zsposJ6_fin hJ
  clear hJ
  replace M := Lib.hid h.fin1
  clear h
  refine tails_one (T := []) (i := 8) (o := _) rfl (by kernel_rfl) (fun K hK => ?_)
  have kc := (M.out.nth 0 rfl).2.1
  have kf := (M.out.nth 0 rfl).2.2
  replace M : Hid (Own w [(p6_1, #[.float .f64 sl, .float .f64 sh]), (w6_.heap.size, #[.int .i64 0]), ((w.heap.size + 1 + 1 + 1), #[.float .f64 0, .float .f64 0]), ((w.heap.size + 1 + 1), #[.float .f64 dl, .float .f64 dh]), ((w.heap.size + 1), #[.float .f64 ol, .float .f64 oh]), (w.heap.size, #[.float .f64 il, .float .f64 ih])] _) := Lib.hid (M.out.set2 0 rfl (.float .f64 sl) (.float .f64 sh))
  go_simp
  refine hK.out _ _ (Or.inr ⟨(M.out.nth 3 rfl).two, (M.out.nth 5 rfl).two, (M.out.nth 4 rfl).two⟩) (fun hHeld => ?_)
  clear hK K hHeld kc kf
  refine tails_done (by kernel_rfl) ?_ _
  refine NoPanic.normal ?_
  clear hS
  replace M : Hid (Own w [(w6_.heap.size, #[.int .i64 0]), (p6_1, #[.float .f64 sl, .float .f64 sh]), ((w.heap.size + 1 + 1 + 1), #[.float .f64 0, .float .f64 0]), ((w.heap.size + 1 + 1), #[.float .f64 dl, .float .f64 dh]), ((w.heap.size + 1), #[.float .f64 ol, .float .f64 oh]), (w.heap.size, #[.float .f64 il, .float .f64 ih])] _) := Lib.hid M.out.front
  revert M
  generalize ((v.setCell ⟨p6_1, 0, none⟩ (.float .f64 sl)).setCell ⟨p6_1, 1, none⟩ (.float .f64 sh)) = W8_
  intro M
  obtain ⟨k1, k2⟩ := (M.out.nth 1 rfl).two
  obtain ⟨k3, k4⟩ := (M.out.nth 5 rfl).two
  obtain ⟨k5, k6⟩ := (M.out.nth 4 rfl).two
  go_wp2_with fail
  refine (d9.out _ _ (M.out.nth 0 rfl)).mono ?_
  rintro r w9_ ⟨rfl, hb⟩
  replace M : Hid (Own w [(w6_.heap.size, #[.int .i64 0]), (p6_1, #[.float .f64 sl, .float .f64 sh]), ((w.heap.size + 1 + 1 + 1), #[.float .f64 0, .float .f64 0]), ((w.heap.size + 1 + 1), #[.float .f64 dl, .float .f64 dh]), ((w.heap.size + 1), #[.float .f64 ol, .float .f64 oh]), (w.heap.size, #[.float .f64 il, .float .f64 ih])] w9_) := Lib.hid (M.out.putAt 0 rfl hb)
  clear hb
  clear k1 k2 k3 k4 k5 k6
  replace M := Lib.hid (M.out.made #[.float .f64 xl, .float .f64 xh] 24).front
  obtain ⟨k1, k2⟩ := (M.out.nth 2 rfl).two
  obtain ⟨k3, k4⟩ := (M.out.nth 2 rfl).two
  obtain ⟨k5, k6⟩ := (M.out.nth 1 rfl).two
  go_wp2_with fail
  refine (d10.out _ _ (M.out.nth 0 rfl)).mono ?_
  rintro r w10_ ⟨rfl, hb⟩
  replace M : Hid (Own w [(w6_.heap.size, #[.int .i64 0]), (w9_.heap.size, #[.float .f64 xl, .float .f64 xh]), (p6_1, #[.float .f64 sl, .float .f64 sh]), ((w.heap.size + 1 + 1 + 1), #[.float .f64 0, .float .f64 0]), ((w.heap.size + 1 + 1), #[.float .f64 dl, .float .f64 dh]), ((w.heap.size + 1), #[.float .f64 ol, .float .f64 oh]), (w.heap.size, #[.float .f64 il, .float .f64 ih])] w10_) := Lib.hid (M.out.putAt 0 rfl hb)
  clear hb
  clear k1 k2 k3 k4 k5 k6
  have kc := (M.out.nth 2 rfl).2.1
  have kf := (M.out.nth 2 rfl).2.2
  replace M : Hid (Own w [(w6_.heap.size, #[.int .i64 0]), (w9_.heap.size, #[.float .f64 xl, .float .f64 xh]), (p6_1, #[.float .f64 rl, .float .f64 rh]), ((w.heap.size + 1 + 1 + 1), #[.float .f64 0, .float .f64 0]), ((w.heap.size + 1 + 1), #[.float .f64 dl, .float .f64 dh]), ((w.heap.size + 1), #[.float .f64 ol, .float .f64 oh]), (w.heap.size, #[.float .f64 il, .float .f64 ih])] _) := Lib.hid (M.out.set2 2 rfl (.float .f64 rl) (.float .f64 rh))
  have k3 := (M.out.nth 0 rfl).pc
  obtain ⟨k4, k5⟩ := (M.out.nth 2 rfl).two
  go_wp2_with fail
  refine (c11.out _).mono ?_
  rintro r w11_ ⟨rfl, hb⟩
  replace M := Lib.hid (M.out.below hb)
  clear hb
  clear kc kf k3 k4 k5
  have kc := (M.out.nth 3 rfl).2.1
  have kf := (M.out.nth 3 rfl).2.2
  replace M : Hid (Own w [(w6_.heap.size, #[.int .i64 0]), (w9_.heap.size, #[.float .f64 xl, .float .f64 xh]), (p6_1, #[.float .f64 rl, .float .f64 rh]), ((w.heap.size + 1 + 1 + 1), #[.float .f64 kl, .float .f64 kh]), ((w.heap.size + 1 + 1), #[.float .f64 dl, .float .f64 dh]), ((w.heap.size + 1), #[.float .f64 ol, .float .f64 oh]), (w.heap.size, #[.float .f64 il, .float .f64 ih])] _) := Lib.hid (M.out.set2 3 rfl (.float .f64 kl) (.float .f64 kh))
  go_wp2
  obtain ⟨f1, f2⟩ := (M.out.nth 3 rfl).two
  exact bodyPost_ret (v := .tuple #[.agg #[.float .f64 kl, .float .f64 kh], .int .i64 0]) (by simp [results, Tryz.results8, go_sem, f1, f2]) rfl ⟨rfl, M.out.base⟩

def zsperrJ6 (w : World) (pb : Nat) (ml mh sl sh : Nat) (l : RowL) (a0 : Act) (k : Nat) (p : List (Option Nat)) (a : Act) (v : World) : Prop :=
  ∃ y1 y2 z1 : Value, a = (((a0.put (some 47) y1).put (some 48) y2).put (some 9) z1) ∧ (0 < k → y1 = .agg #[.float .f64 ml, .float .f64 mh]) ∧ (1 < k → y2 = .agg #[.float .f64 sl, .float .f64 sh]) ∧ (∀ q, p[0]? = some (some q) → z1 = .pointer (some ⟨q, 0, none⟩)) ∧ OwnF w ((pb, #[.int .i64 0]) :: l) [#[.float .f64 0, .float .f64 0]] p v
section
variable {w v : World} {pb : Nat} {ml mh sl sh : Nat} {l : RowL} {a0 a : Act} {p : List (Option Nat)}
theorem zsperrJ6_0 (h : zsperrJ6 w pb ml mh sl sh l a0 0 p a v) : ∃ y1 y2 z1 : Value, a = (((a0.put (some 47) y1).put (some 48) y2).put (some 9) z1) ∧ (∀ q, p[0]? = some (some q) → z1 = .pointer (some ⟨q, 0, none⟩)) ∧ OwnF w ((pb, #[.int .i64 0]) :: l) [#[.float .f64 0, .float .f64 0]] p v := by
  obtain ⟨y1, y2, z1, ha, E1, E2, G1, h⟩ := h
  exact ⟨y1, y2, z1, ha, G1, h⟩
theorem zsperrJ6_1 (h : zsperrJ6 w pb ml mh sl sh l a0 1 p a v) : ∃ y2 z1 : Value, a = (((a0.put (some 47) (.agg #[.float .f64 ml, .float .f64 mh])).put (some 48) y2).put (some 9) z1) ∧ (∀ q, p[0]? = some (some q) → z1 = .pointer (some ⟨q, 0, none⟩)) ∧ OwnF w ((pb, #[.int .i64 0]) :: l) [#[.float .f64 0, .float .f64 0]] p v := by
  obtain ⟨y1, y2, z1, ha, E1, E2, G1, h⟩ := h
  obtain rfl := E1 (by decide)
  exact ⟨y2, z1, ha, G1, h⟩
theorem zsperrJ6_fin {q1 : Nat} (h : zsperrJ6 w pb ml mh sl sh l a0 2 [some q1] a v) : a = (((a0.put (some 47) (.agg #[.float .f64 ml, .float .f64 mh])).put (some 48) (.agg #[.float .f64 sl, .float .f64 sh])).put (some 9) (.pointer (some ⟨q1, 0, none⟩))) ∧ OwnF w ((pb, #[.int .i64 0]) :: l) [#[.float .f64 0, .float .f64 0]] [some q1] v := by
  obtain ⟨y1, y2, z1, ha, E1, E2, G1, h⟩ := h
  obtain rfl := E1 (by decide)
  obtain rfl := E2 (by decide)
  obtain rfl := G1 _ rfl
  exact ⟨ha, h⟩
end

set_option maxRecDepth 100000 in
set_option maxHeartbeats 16000000 in
theorem refSlope_perr {il ih ol oh dl dh ml mh sl sh xl xh rl rh : Nat} {e : Int} (w : World)
    (c1 : Hid (∀ w, Calls Tryz.prog 16 #[.agg #[.float .f64 il, .float .f64 ih]] w fun r w' => r = .returned (.bool true) ∧ Below w.heap.size w w'))
    (c2 : Hid (∀ w, Calls Tryz.prog 16 #[.agg #[.float .f64 ol, .float .f64 oh]] w fun r w' => r = .returned (.bool true) ∧ Below w.heap.size w w'))
    (c3 : Hid (∀ w, Calls Tryz.prog 16 #[.agg #[.float .f64 dl, .float .f64 dh]] w fun r w' => r = .returned (.bool true) ∧ Below w.heap.size w w'))
    (c4 : Hid (∀ w, Calls Tryz.prog 17 #[.agg #[.float .f64 il, .float .f64 ih], .float .f64 0, .float .f64 4607182418800017408] w fun r w' => r = .returned (.bool true) ∧ Below w.heap.size w w'))
    (c5 : Hid (∀ w, Calls Tryz.prog 17 #[.agg #[.float .f64 ol, .float .f64 oh], .float .f64 0, .float .f64 4607182418800017408] w fun r w' => r = .returned (.bool true) ∧ Below w.heap.size w w'))
    (c6 : Hid (∀ w, Calls Tryz.prog 17 #[.agg #[.float .f64 dl, .float .f64 dh], .float .f64 13830554455654793216, .float .f64 4607182418800017408] w fun r w' => r = .returned (.bool true) ∧ Below w.heap.size w w'))
    (d7 : Hid (∀ pb v, Has1 v (pb, #[.int .i64 0]) → Calls Tryz.prog 23 #[.pointer (some ⟨pb, 0, none⟩), .agg #[.float .f64 il, .float .f64 ih], .agg #[.float .f64 ol, .float .f64 oh]] v fun r w' => r = .returned (.agg #[.float .f64 ml, .float .f64 mh]) ∧ Put ⟨pb, 0, none⟩ (.int .i64 0) v w'))
    (d8 : Hid (∀ pb v, Has1 v (pb, #[.int .i64 0]) → Calls Tryz.prog 19 #[.pointer (some ⟨pb, 0, none⟩), .agg #[.float .f64 dl, .float .f64 dh], .agg #[.float .f64 ml, .float .f64 mh]] v fun r w' => r = .returned (.agg #[.float .f64 sl, .float .f64 sh]) ∧ Put ⟨pb, 0, none⟩ (.int .i64 0) v w'))
    (o_gtrsh_0 : ((FloatKind.f64.format.order sh 0 == some Ordering.gt) = true))
    (d9 : Hid (∀ pb v, Has1 v (pb, #[.int .i64 0]) → Calls Tryz.prog 25 #[.pointer (some ⟨pb, 0, none⟩), .agg #[.float .f64 il, .float .f64 ih], .agg #[.float .f64 ol, .float .f64 oh]] v fun r w' => r = .returned (.agg #[.float .f64 xl, .float .f64 xh]) ∧ Put ⟨pb, 0, none⟩ (.int .i64 0) v w'))
    (o_geqsl_0 : (((FloatKind.f64.format.order sl 0 == some Ordering.gt) || (FloatKind.f64.format.order sl 0 == some Ordering.eq)) = true))
    (d10 : Hid (∀ pb v, Has1 v (pb, #[.int .i64 0]) → Calls Tryz.prog 20 #[.pointer (some ⟨pb, 0, none⟩), .agg #[.float .f64 sl, .float .f64 sh], .agg #[.float .f64 xl, .float .f64 xh]] v fun r w' => r = .returned (.agg #[.float .f64 rl, .float .f64 rh]) ∧ Put ⟨pb, 0, none⟩ (.int .i64 e) v w'))
    (hne : (e != 0) = true) :
    Calls Tryz.prog 8 #[.agg #[.float .f64 il, .float .f64 ih], .agg #[.float .f64 ol, .float .f64 oh], .agg #[.float .f64 dl, .float .f64 dh]] w fun r w' => r = .returned (.tuple #[.agg #[.float .f64 0, .float .f64 0], .int .i64 e]) ∧ Below w.heap.size w w' := by
  have M := Lib.hid (((((Own.nil w).made #[.float .f64 il, .float .f64 ih] 24).made #[.float .f64 ol, .float .f64 oh] 24).made #[.float .f64 dl, .float .f64 dh] 24).made #[.float .f64 0, .float .f64 0] 24)
  simp only [World.size_alloc] at M
  have eqF := eq_floats
  go_enter Tryz.func8, Tryz.ntmps8
  obtain ⟨k1, k2⟩ := (M.out.nth 3 rfl).two
  go_wp2_with fail
  refine (c1.out _).mono ?_
  rintro r w1_ ⟨rfl, hb⟩
  replace M := Lib.hid (M.out.below hb)
  clear hb
  clear k1 k2
  obtain ⟨k1, k2⟩ := (M.out.nth 2 rfl).two
  go_wp2_with fail
  refine (c2.out _).mono ?_
  rintro r w2_ ⟨rfl, hb⟩
  replace M := Lib.hid (M.out.below hb)
  clear hb
  clear k1 k2
  obtain ⟨k1, k2⟩ := (M.out.nth 1 rfl).two
  go_wp2_with fail
  refine (c3.out _).mono ?_
  rintro r w3_ ⟨rfl, hb⟩
  replace M := Lib.hid (M.out.below hb)
  clear hb
  clear k1 k2
  obtain ⟨k1, k2⟩ := (M.out.nth 3 rfl).two
  go_wp2_with fail
  refine (c4.out _).mono ?_
  rintro r w4_ ⟨rfl, hb⟩
  replace M := Lib.hid (M.out.below hb)
  clear hb
  clear k1 k2
  obtain ⟨k1, k2⟩ := (M.out.nth 2 rfl).two
  go_wp2_with fail
  refine (c5.out _).mono ?_
  rintro r w5_ ⟨rfl, hb⟩
  replace M := Lib.hid (M.out.below hb)
  clear hb
  clear k1 k2
  obtain ⟨k1, k2⟩ := (M.out.nth 1 rfl).two
  go_wp2_with fail
  refine (c6.out _).mono ?_
  rintro r w6_ ⟨rfl, hb⟩
  replace M := Lib.hid (M.out.below hb)
  clear hb
  clear k1 k2
  replace M := Lib.hid (M.out.made #[.int .i64 0] 52)
  go_upto_region 6 with fail
  replace M := Lib.hid M.out.drew
  revert M
  generalize (w6_.alloc (.cells #[.int .i64 0] 52)) = W7_
  intro M
  refine wp_region_noPanic ?_
  refine tails_region (S := fun w' => (w'.cell? ⟨(w.heap.size + 1 + 1), 0, none⟩ = some (.float .f64 dl) ∧ w'.cell? ⟨(w.heap.size + 1 + 1), 1, none⟩ = some (.float .f64 dh)) ∧ (w'.cell? ⟨w.heap.size, 0, none⟩ = some (.float .f64 il) ∧ w'.cell? ⟨w.heap.size, 1, none⟩ = some (.float .f64 ih)) ∧ (w'.cell? ⟨(w.heap.size + 1), 0, none⟩ = some (.float .f64 ol) ∧ w'.cell? ⟨(w.heap.size + 1), 1, none⟩ = some (.float .f64 oh))) [] (by kernel_rfl) ?_ (fun hS => ?_)
  · exact ⟨(M.out.nth 2 rfl).two, (M.out.nth 4 rfl).two, (M.out.nth 3 rfl).two⟩
  refine tk (x := ?_) 0 rfl (by kernel_rfl) ⟨by rfl, ?_⟩ (fun _ _ _ h => h) hS ?_
  rotate_left; focus (intro w hSw; (try dsimp only at hSw); go_simp; try with_reducible rfl)
  refine tk (x := ?_) 1 rfl (by kernel_rfl) ⟨by rfl, ?_⟩ (fun _ _ _ h => h) hS ?_
  rotate_left; focus (intro w hSw; (try dsimp only at hSw); go_simp; try with_reducible rfl)
  refine tk (x := ?_) 2 rfl (by kernel_rfl) ⟨by rfl, ?_⟩ (fun _ _ _ h => h) hS ?_
  rotate_left; focus (intro w hSw; (try dsimp only at hSw); go_simp; try with_reducible rfl)
  refine tk (x := ?_) 3 rfl (by kernel_rfl) ⟨by rfl, ?_⟩ (fun _ _ _ h => h) hS ?_
  rotate_left; focus (intro w hSw; (try dsimp only at hSw); go_simp; try with_reducible rfl)
  refine tk (x := ?_) 4 rfl (by kernel_rfl) ⟨by rfl, ?_⟩ (fun _ _ _ h => h) hS ?_
  rotate_left; focus (intro w hSw; (try dsimp only at hSw); go_simp; try with_reducible rfl)
  conv => arg 9; simp only [Act.put, go_sem]
  refine lpz_cc_1 M 5 6 7 [47, 48, 9] 1 (zsperrJ6 w w6_.heap.size ml mh sl sh) (by kernel_rfl) (by kernel_rfl) ?_ ?_ ?_ ?_ ?_ ?_
  · intro A hA
    obtain ⟨y1, hq1⟩ := put_ex (hA 47 (by simp))
    obtain ⟨y2, hq2⟩ := put_ex (hA 48 (by simp))
    obtain ⟨z1, hq3⟩ := put_ex (hA 9 (by simp))
    exact ⟨y1, y2, z1, by rw [hq1, hq2, hq3], by omega, by omega, by simp, OwnF.start M.out 1⟩
  · rintro k p a v ⟨y1, y2, z1, _, _, _, _, h⟩
    exact ⟨(h.own.nth 2 rfl).two, (h.own.nth 4 rfl).two, (h.own.nth 3 rfl).two⟩
  · intro p a v hJ
    refine op_step (o := _) rfl (fun K hK => ?_)
    obtain ⟨y1, y2, z1, ha, gg1, h⟩ := zsperrJ6_0 hJ
    have h := Lib.hid h
    clear hJ
    subst ha
    go_simp
    refine (d7.out _ _ (h.out.own.nth 0 rfl)).mono ?_
    rintro rr w5 ⟨rfl, hp⟩
    try go_wp2_with fail
    refine hK.out _ _ ⟨_, y2, z1, ?_, fun _ => rfl, by omega, gg1, h.out.putHead hp⟩
    kernel_rfl
  · intro p a v hJ
    refine op_step (o := _) rfl (fun K hK => ?_)
    obtain ⟨y2, z1, ha, gg1, h⟩ := zsperrJ6_1 hJ
    have h := Lib.hid h
    clear hJ
    subst ha
    go_simp
    refine (d8.out _ _ (h.out.own.nth 0 rfl)).mono ?_
    rintro rr w5 ⟨rfl, hp⟩
    try go_wp2_with fail
    refine hK.out _ _ ⟨_, _, z1, ?_, fun _ => rfl, fun _ => rfl, gg1, h.out.putHead hp⟩
    kernel_rfl
  · intro k p a v hp hJ
    refine op_step (o := _) rfl (fun K hK => ?_)
    obtain ⟨y1, y2, z1, ha, ee1, ee2, gg1, h⟩ := hJ
    have h := Lib.hid h
    subst ha
    go_simp
    refine hK.out _ _ ⟨v.heap.size, y1, y2, .pointer (some ⟨v.heap.size, 0, none⟩), ?_, ee1, ee2, fun q hq => ptr_set hq, h.out.alloc hp rfl _⟩
    kernel_rfl
  intro p6_1 a v hJ
  obtain ⟨rfl, h⟩ := zsperrJ6_fin hJ
  clear hJ
  replace M := Lib.hid h.fin1
  clear h
  refine tails_one (T := []) (i := 8) (o := _) rfl (by kernel_rfl) (fun K hK => ?_)
  have kc := (M.out.nth 0 rfl).2.1
  have kf := (M.out.nth 0 rfl).2.2
  replace M : Hid (Own w [(p6_1, #[.float .f64 sl, .float .f64 sh]), (w6_.heap.size, #[.int .i64 0]), ((w.heap.size + 1 + 1 + 1), #[.float .f64 0, .float .f64 0]), ((w.heap.size + 1 + 1), #[.float .f64 dl, .float .f64 dh]), ((w.heap.size + 1), #[.float .f64 ol, .float .f64 oh]), (w.heap.size, #[.float .f64 il, .float .f64 ih])] _) := Lib.hid (M.out.set2 0 rfl (.float .f64 sl) (.float .f64 sh))
  go_simp
  refine hK.out _ _ (Or.inr ⟨(M.out.nth 3 rfl).two, (M.out.nth 5 rfl).two, (M.out.nth 4 rfl).two⟩) (fun hHeld => ?_)
  clear hK K hHeld kc kf
  refine tails_done (by kernel_rfl) ?_ _
  refine NoPanic.normal ?_
  clear hS
  replace M : Hid (Own w [(w6_.heap.size, #[.int .i64 0]), (p6_1, #[.float .f64 sl, .float .f64 sh]), ((w.heap.size + 1 + 1 + 1), #[.float .f64 0, .float .f64 0]), ((w.heap.size + 1 + 1), #[.float .f64 dl, .float .f64 dh]), ((w.heap.size + 1), #[.float .f64 ol, .float .f64 oh]), (w.heap.size, #[.float .f64 il, .float .f64 ih])] _) := Lib.hid M.out.front
  revert M
  generalize ((v.setCell ⟨p6_1, 0, none⟩ (.float .f64 sl)).setCell ⟨p6_1, 1, none⟩ (.float .f64 sh)) = W8_
  intro M
  obtain ⟨k1, k2⟩ := (M.out.nth 1 rfl).two
  obtain ⟨k3, k4⟩ := (M.out.nth 5 rfl).two
  obtain ⟨k5, k6⟩ := (M.out.nth 4 rfl).two
  go_wp2_with fail
  refine (d9.out _ _ (M.out.nth 0 rfl)).mono ?_
  rintro r w9_ ⟨rfl, hb⟩
  replace M : Hid (Own w [(w6_.heap.size, #[.int .i64 0]), (p6_1, #[.float .f64 sl, .float .f64 sh]), ((w.heap.size + 1 + 1 + 1), #[.float .f64 0, .float .f64 0]), ((w.heap.size + 1 + 1), #[.float .f64 dl, .float .f64 dh]), ((w.heap.size + 1), #[.float .f64 ol, .float .f64 oh]), (w.heap.size, #[.float .f64 il, .float .f64 ih])] w9_) := Lib.hid (M.out.putAt 0 rfl hb)
  clear hb
  clear k1 k2 k3 k4 k5 k6
  replace M := Lib.hid (M.out.made #[.float .f64 xl, .float .f64 xh] 24).front
  obtain ⟨k1, k2⟩ := (M.out.nth 2 rfl).two
  obtain ⟨k3, k4⟩ := (M.out.nth 2 rfl).two
  obtain ⟨k5, k6⟩ := (M.out.nth 1 rfl).two
  go_wp2_with fail
  refine (d10.out _ _ (M.out.nth 0 rfl)).mono ?_
  rintro r w10_ ⟨rfl, hb⟩
  replace M : Hid (Own w [(w6_.heap.size, #[.int .i64 e]), (w9_.heap.size, #[.float .f64 xl, .float .f64 xh]), (p6_1, #[.float .f64 sl, .float .f64 sh]), ((w.heap.size + 1 + 1 + 1), #[.float .f64 0, .float .f64 0]), ((w.heap.size + 1 + 1), #[.float .f64 dl, .float .f64 dh]), ((w.heap.size + 1), #[.float .f64 ol, .float .f64 oh]), (w.heap.size, #[.float .f64 il, .float .f64 ih])] w10_) := Lib.hid (M.out.putAt 0 rfl hb)
  clear hb
  clear k1 k2 k3 k4 k5 k6
  have kc := (M.out.nth 2 rfl).2.1
  have kf := (M.out.nth 2 rfl).2.2
  replace M : Hid (Own w [(w6_.heap.size, #[.int .i64 e]), (w9_.heap.size, #[.float .f64 xl, .float .f64 xh]), (p6_1, #[.float .f64 rl, .float .f64 rh]), ((w.heap.size + 1 + 1 + 1), #[.float .f64 0, .float .f64 0]), ((w.heap.size + 1 + 1), #[.float .f64 dl, .float .f64 dh]), ((w.heap.size + 1), #[.float .f64 ol, .float .f64 oh]), (w.heap.size, #[.float .f64 il, .float .f64 ih])] _) := Lib.hid (M.out.set2 2 rfl (.float .f64 rl) (.float .f64 rh))
  have k3 := (M.out.nth 0 rfl).pc
  go_upto_region 14 with fail
  clear kc kf k3
  replace M := Lib.hid M.out.drew
  revert M
  generalize ((w10_.setCell ⟨p6_1, 0, none⟩ (.float .f64 rl)).setCell ⟨p6_1, 1, none⟩ (.float .f64 rh)) = W11_
  intro M
  refine wp_region_noPanic ?_
  refine tails_region (S := fun w' => (w'.cell? ⟨w6_.heap.size, 0, none⟩ = some (.int .i64 e))) [] (by kernel_rfl) ?_ (fun hS => ?_)
  · exact (M.out.nth 0 rfl).pc
  revert hS M
  generalize W11_.drew = V_
  intro M hS
  refine tk (x := ?_) 0 rfl (by kernel_rfl) ⟨by rfl, ?_⟩ (fun _ _ _ h => h) hS ?_
  rotate_left; focus (intro w hSw; (try dsimp only at hSw); go_simp; try with_reducible rfl)
  refine tk (x := ?_) 1 rfl (by kernel_rfl) ⟨by rfl, ?_⟩ (fun _ _ _ h => h) hS ?_
  rotate_left; focus (intro w hSw; (try dsimp only at hSw); go_simp; try with_reducible rfl)
  refine tk (x := ?_) 2 rfl (by kernel_rfl) ⟨by rfl, ?_⟩ (fun _ _ _ h => h) hS ?_
  rotate_left; focus (intro w hSw; (try dsimp only at hSw); go_simp; try with_reducible rfl)
  refine tk (x := ?_) 3 rfl (by kernel_rfl) ⟨by rfl, ?_⟩ (fun _ _ _ h => h) hS ?_
  rotate_left; focus (intro w hSw; (try dsimp only at hSw); go_simp; try with_reducible rfl)
  refine tk (x := ?_) 4 rfl (by kernel_rfl) ⟨by rfl, ?_⟩ (fun _ _ _ h => h) hS ?_
  rotate_left; focus (intro w hSw; (try dsimp only at hSw); go_simp; try with_reducible rfl)
  conv => arg 9; simp only [Act.put, go_sem]
  refine tails_one (T := []) (i := 5) (o := _) rfl (by kernel_rfl) (fun K hK => ?_)
  have kc := (M.out.nth 3 rfl).2.1
  have kf := (M.out.nth 3 rfl).2.2
  replace M : Hid (Own w [(w6_.heap.size, #[.int .i64 e]), (w9_.heap.size, #[.float .f64 xl, .float .f64 xh]), (p6_1, #[.float .f64 rl, .float .f64 rh]), ((w.heap.size + 1 + 1 + 1), #[.float .f64 0, .float .f64 0]), ((w.heap.size + 1 + 1), #[.float .f64 dl, .float .f64 dh]), ((w.heap.size + 1), #[.float .f64 ol, .float .f64 oh]), (w.heap.size, #[.float .f64 il, .float .f64 ih])] _) := Lib.hid (M.out.set2 3 rfl (.float .f64 0) (.float .f64 0))
  go_simp
  refine hK.out _ _ (Or.inr (M.out.nth 0 rfl).pc) (fun hHeld => ?_)
  clear hK K hHeld kc kf
  refine tails_one (T := []) (i := 6) (o := _) rfl (by kernel_rfl) (fun K hK => ?_)
  go_simp
  refine hK.out _ _ (Or.inr (M.out.nth 0 rfl).pc) (fun hHeld => ?_)
  clear hK K hHeld
  refine tails_done (by kernel_rfl) ?_ _
  refine NoPanic.normal ?_
  clear hS
  revert M
  generalize ((V_.setCell ⟨(w.heap.size + 1 + 1 + 1), 0, none⟩ (.float .f64 0)).setCell ⟨(w.heap.size + 1 + 1 + 1), 1, none⟩ (.float .f64 0)) = W12_
  intro M
  go_wp2
  obtain ⟨f1, f2⟩ := (M.out.nth 3 rfl).two
  exact bodyPost_ret (v := .tuple #[.agg #[.float .f64 0, .float .f64 0], .int .i64 e]) (by simp [results, Tryz.results8, go_sem, f1, f2]) rfl ⟨rfl, M.out.base⟩

def zsmidJ6 (w : World) (pb : Nat) (ml mh sl sh : Nat) (l : RowL) (a0 : Act) (k : Nat) (p : List (Option Nat)) (a : Act) (v : World) : Prop :=
  ∃ y1 y2 z1 : Value, a = (((a0.put (some 47) y1).put (some 48) y2).put (some 9) z1) ∧ (0 < k → y1 = .agg #[.float .f64 ml, .float .f64 mh]) ∧ (1 < k → y2 = .agg #[.float .f64 sl, .float .f64 sh]) ∧ (∀ q, p[0]? = some (some q) → z1 = .pointer (some ⟨q, 0, none⟩)) ∧ OwnF w ((pb, #[.int .i64 0]) :: l) [#[.float .f64 0, .float .f64 0]] p v
section
variable {w v : World} {pb : Nat} {ml mh sl sh : Nat} {l : RowL} {a0 a : Act} {p : List (Option Nat)}
theorem zsmidJ6_0 (h : zsmidJ6 w pb ml mh sl sh l a0 0 p a v) : ∃ y1 y2 z1 : Value, a = (((a0.put (some 47) y1).put (some 48) y2).put (some 9) z1) ∧ (∀ q, p[0]? = some (some q) → z1 = .pointer (some ⟨q, 0, none⟩)) ∧ OwnF w ((pb, #[.int .i64 0]) :: l) [#[.float .f64 0, .float .f64 0]] p v := by
  obtain ⟨y1, y2, z1, ha, E1, E2, G1, h⟩ := h
  exact ⟨y1, y2, z1, ha, G1, h⟩
theorem zsmidJ6_1 (h : zsmidJ6 w pb ml mh sl sh l a0 1 p a v) : ∃ y2 z1 : Value, a = (((a0.put (some 47) (.agg #[.float .f64 ml, .float .f64 mh])).put (some 48) y2).put (some 9) z1) ∧ (∀ q, p[0]? = some (some q) → z1 = .pointer (some ⟨q, 0, none⟩)) ∧ OwnF w ((pb, #[.int .i64 0]) :: l) [#[.float .f64 0, .float .f64 0]] p v := by
  obtain ⟨y1, y2, z1, ha, E1, E2, G1, h⟩ := h
  obtain rfl := E1 (by decide)
  exact ⟨y2, z1, ha, G1, h⟩
theorem zsmidJ6_fin {q1 : Nat} (h : zsmidJ6 w pb ml mh sl sh l a0 2 [some q1] a v) : a = (((a0.put (some 47) (.agg #[.float .f64 ml, .float .f64 mh])).put (some 48) (.agg #[.float .f64 sl, .float .f64 sh])).put (some 9) (.pointer (some ⟨q1, 0, none⟩))) ∧ OwnF w ((pb, #[.int .i64 0]) :: l) [#[.float .f64 0, .float .f64 0]] [some q1] v := by
  obtain ⟨y1, y2, z1, ha, E1, E2, G1, h⟩ := h
  obtain rfl := E1 (by decide)
  obtain rfl := E2 (by decide)
  obtain rfl := G1 _ rfl
  exact ⟨ha, h⟩
end

set_option maxRecDepth 100000 in
set_option maxHeartbeats 16000000 in
theorem refSlope_mid {il ih ol oh dl dh ml mh sl sh xl xh rl rh hl hh kl kh : Nat} (w : World)
    (c1 : Hid (∀ w, Calls Tryz.prog 16 #[.agg #[.float .f64 il, .float .f64 ih]] w fun r w' => r = .returned (.bool true) ∧ Below w.heap.size w w'))
    (c2 : Hid (∀ w, Calls Tryz.prog 16 #[.agg #[.float .f64 ol, .float .f64 oh]] w fun r w' => r = .returned (.bool true) ∧ Below w.heap.size w w'))
    (c3 : Hid (∀ w, Calls Tryz.prog 16 #[.agg #[.float .f64 dl, .float .f64 dh]] w fun r w' => r = .returned (.bool true) ∧ Below w.heap.size w w'))
    (c4 : Hid (∀ w, Calls Tryz.prog 17 #[.agg #[.float .f64 il, .float .f64 ih], .float .f64 0, .float .f64 4607182418800017408] w fun r w' => r = .returned (.bool true) ∧ Below w.heap.size w w'))
    (c5 : Hid (∀ w, Calls Tryz.prog 17 #[.agg #[.float .f64 ol, .float .f64 oh], .float .f64 0, .float .f64 4607182418800017408] w fun r w' => r = .returned (.bool true) ∧ Below w.heap.size w w'))
    (c6 : Hid (∀ w, Calls Tryz.prog 17 #[.agg #[.float .f64 dl, .float .f64 dh], .float .f64 13830554455654793216, .float .f64 4607182418800017408] w fun r w' => r = .returned (.bool true) ∧ Below w.heap.size w w'))
    (d7 : Hid (∀ pb v, Has1 v (pb, #[.int .i64 0]) → Calls Tryz.prog 23 #[.pointer (some ⟨pb, 0, none⟩), .agg #[.float .f64 il, .float .f64 ih], .agg #[.float .f64 ol, .float .f64 oh]] v fun r w' => r = .returned (.agg #[.float .f64 ml, .float .f64 mh]) ∧ Put ⟨pb, 0, none⟩ (.int .i64 0) v w'))
    (d8 : Hid (∀ pb v, Has1 v (pb, #[.int .i64 0]) → Calls Tryz.prog 19 #[.pointer (some ⟨pb, 0, none⟩), .agg #[.float .f64 dl, .float .f64 dh], .agg #[.float .f64 ml, .float .f64 mh]] v fun r w' => r = .returned (.agg #[.float .f64 sl, .float .f64 sh]) ∧ Put ⟨pb, 0, none⟩ (.int .i64 0) v w'))
    (o_gtrsh_0 : ((FloatKind.f64.format.order sh 0 == some Ordering.gt) = true))
    (d9 : Hid (∀ pb v, Has1 v (pb, #[.int .i64 0]) → Calls Tryz.prog 25 #[.pointer (some ⟨pb, 0, none⟩), .agg #[.float .f64 il, .float .f64 ih], .agg #[.float .f64 ol, .float .f64 oh]] v fun r w' => r = .returned (.agg #[.float .f64 xl, .float .f64 xh]) ∧ Put ⟨pb, 0, none⟩ (.int .i64 0) v w'))
    (o_geqsl_0 : (((FloatKind.f64.format.order sl 0 == some Ordering.gt) || (FloatKind.f64.format.order sl 0 == some Ordering.eq)) = false))
    (d10 : Hid (∀ pb v, Has1 v (pb, #[.int .i64 0]) → Calls Tryz.prog 20 #[.pointer (some ⟨pb, 0, none⟩), .agg #[.float .f64 0, .float .f64 sh], .agg #[.float .f64 xl, .float .f64 xh]] v fun r w' => r = .returned (.agg #[.float .f64 rl, .float .f64 rh]) ∧ Put ⟨pb, 0, none⟩ (.int .i64 0) v w'))
    (c11 : Hid (∀ w, Calls Tryz.prog 26 #[.agg #[.float .f64 sl, .float .f64 0], .agg #[.float .f64 rl, .float .f64 rh]] w fun r w' => r = .returned (.agg #[.float .f64 hl, .float .f64 hh]) ∧ Below w.heap.size w w'))
    (c12 : Hid (∀ w, Calls Tryz.prog 27 #[.agg #[.float .f64 hl, .float .f64 hh], .float .f64 13830554455654793216, .float .f64 4607182418800017408] w fun r w' => r = .returned (.agg #[.float .f64 kl, .float .f64 kh]) ∧ Below w.heap.size w w')) :
    Calls Tryz.prog 8 #[.agg #[.float .f64 il, .float .f64 ih], .agg #[.float .f64 ol, .float .f64 oh], .agg #[.float .f64 dl, .float .f64 dh]] w fun r w' => r = .returned (.tuple #[.agg #[.float .f64 kl, .float .f64 kh], .int .i64 0]) ∧ Below w.heap.size w w' := by
  have M := Lib.hid (((((Own.nil w).made #[.float .f64 il, .float .f64 ih] 24).made #[.float .f64 ol, .float .f64 oh] 24).made #[.float .f64 dl, .float .f64 dh] 24).made #[.float .f64 0, .float .f64 0] 24)
  simp only [World.size_alloc] at M
  have eqF := eq_floats
  go_enter Tryz.func8, Tryz.ntmps8
  obtain ⟨k1, k2⟩ := (M.out.nth 3 rfl).two
  go_wp2_with fail
  refine (c1.out _).mono ?_
  rintro r w1_ ⟨rfl, hb⟩
  replace M := Lib.hid (M.out.below hb)
  clear hb
  clear k1 k2
  obtain ⟨k1, k2⟩ := (M.out.nth 2 rfl).two
  go_wp2_with fail
  refine (c2.out _).mono ?_
  rintro r w2_ ⟨rfl, hb⟩
  replace M := Lib.hid (M.out.below hb)
  clear hb
  clear k1 k2
  obtain ⟨k1, k2⟩ := (M.out.nth 1 rfl).two
  go_wp2_with fail
  refine (c3.out _).mono ?_
  rintro r w3_ ⟨rfl, hb⟩
  replace M := Lib.hid (M.out.below hb)
  clear hb
  clear k1 k2
  obtain ⟨k1, k2⟩ := (M.out.nth 3 rfl).two
  go_wp2_with fail
  refine (c4.out _).mono ?_
  rintro r w4_ ⟨rfl, hb⟩
  replace M := Lib.hid (M.out.below hb)
  clear hb
  clear k1 k2
  obtain ⟨k1, k2⟩ := (M.out.nth 2 rfl).two
  go_wp2_with fail
  refine (c5.out _).mono ?_
  rintro r w5_ ⟨rfl, hb⟩
  replace M := Lib.hid (M.out.below hb)
  clear hb
  clear k1 k2
  obtain ⟨k1, k2⟩ := (M.out.nth 1 rfl).two
  go_wp2_with fail
  refine (c6.out _).mono ?_
  rintro r w6_ ⟨rfl, hb⟩
  replace M := Lib.hid (M.out.below hb)
  clear hb
  clear k1 k2
  replace M := Lib.hid (M.out.made #[.int .i64 0] 52)
  go_upto_region 6 with fail
  replace M := Lib.hid M.out.drew
  revert M
  generalize (w6_.alloc (.cells #[.int .i64 0] 52)) = W7_
  intro M
  refine wp_region_noPanic ?_
  refine tails_region (S := fun w' => (w'.cell? ⟨(w.heap.size + 1 + 1), 0, none⟩ = some (.float .f64 dl) ∧ w'.cell? ⟨(w.heap.size + 1 + 1), 1, none⟩ = some (.float .f64 dh)) ∧ (w'.cell? ⟨w.heap.size, 0, none⟩ = some (.float .f64 il) ∧ w'.cell? ⟨w.heap.size, 1, none⟩ = some (.float .f64 ih)) ∧ (w'.cell? ⟨(w.heap.size + 1), 0, none⟩ = some (.float .f64 ol) ∧ w'.cell? ⟨(w.heap.size + 1), 1, none⟩ = some (.float .f64 oh))) [] (by kernel_rfl) ?_ (fun hS => ?_)
  · exact ⟨(M.out.nth 2 rfl).two, (M.out.nth 4 rfl).two, (M.out.nth 3 rfl).two⟩
  refine tk (x := ?_) 0 rfl (by kernel_rfl) ⟨by rfl, ?_⟩ (fun _ _ _ h => h) hS ?_
  rotate_left; focus (intro w hSw; (try dsimp only at hSw); go_simp; try with_reducible rfl)
  refine tk (x := ?_) 1 rfl (by kernel_rfl) ⟨by rfl, ?_⟩ (fun _ _ _ h => h) hS ?_
  rotate_left; focus (intro w hSw; (try dsimp only at hSw); go_simp; try with_reducible rfl)
  refine tk (x := ?_) 2 rfl (by kernel_rfl) ⟨by rfl, ?_⟩ (fun _ _ _ h => h) hS ?_
  rotate_left; focus (intro w hSw; (try dsimp only at hSw); go_simp; try with_reducible rfl)
  refine tk (x := ?_) 3 rfl (by kernel_rfl) ⟨by rfl, ?_⟩ (fun _ _ _ h => h) hS ?_
  rotate_left; focus (intro w hSw; (try dsimp only at hSw); go_simp; try with_reducible rfl)
  refine tk (x := ?_) 4 rfl (by kernel_rfl) ⟨by rfl, ?_⟩ (fun _ _ _ h => h) hS ?_
  rotate_left; focus (intro w hSw; (try dsimp only at hSw); go_simp; try with_reducible rfl)
  conv => arg 9; simp only [Act.put, go_sem]
  refine lpz_cc_1 M 5 6 7 [47, 48, 9] 1 (zsmidJ6 w w6_.heap.size ml mh sl sh) (by kernel_rfl) (by kernel_rfl) ?_ ?_ ?_ ?_ ?_ ?_
  · intro A hA
    obtain ⟨y1, hq1⟩ := put_ex (hA 47 (by simp))
    obtain ⟨y2, hq2⟩ := put_ex (hA 48 (by simp))
    obtain ⟨z1, hq3⟩ := put_ex (hA 9 (by simp))
    exact ⟨y1, y2, z1, by rw [hq1, hq2, hq3], by omega, by omega, by simp, OwnF.start M.out 1⟩
  · rintro k p a v ⟨y1, y2, z1, _, _, _, _, h⟩
    exact ⟨(h.own.nth 2 rfl).two, (h.own.nth 4 rfl).two, (h.own.nth 3 rfl).two⟩
  · intro p a v hJ
    refine op_step (o := _) rfl (fun K hK => ?_)
    obtain ⟨y1, y2, z1, ha, gg1, h⟩ := zsmidJ6_0 hJ
    have h := Lib.hid h
    clear hJ
    subst ha
    go_simp
    refine (d7.out _ _ (h.out.own.nth 0 rfl)).mono ?_
    rintro rr w5 ⟨rfl, hp⟩
    try go_wp2_with fail
    refine hK.out _ _ ⟨_, y2, z1, ?_, fun _ => rfl, by omega, gg1, h.out.putHead hp⟩
    kernel_rfl
  · intro p a v hJ
    refine op_step (o := _) rfl (fun K hK => ?_)
    obtain ⟨y2, z1, ha, gg1, h⟩ := zsmidJ6_1 hJ
    have h := Lib.hid h
    clear hJ
    subst ha
    go_simp
    refine (d8.out _ _ (h.out.own.nth 0 rfl)).mono ?_
    rintro rr w5 ⟨rfl, hp⟩
    try go_wp2_with fail
    refine hK.out _ _ ⟨_, _, z1, ?_, fun _ => rfl, fun _ => rfl, gg1, h.out.putHead hp⟩
    kernel_rfl
  · intro k p a v hp hJ
    refine op_step (o := _) rfl (fun K hK => ?_)
    obtain ⟨y1, y2, z1, ha, ee1, ee2, gg1, h⟩ := hJ
    have h := Lib.hid h
    subst ha
    go_simp
    refine hK.out _ _ ⟨v.heap.size, y1, y2, .pointer (some ⟨v.heap.size, 0, none⟩), ?_, ee1, ee2, fun q hq => ptr_set hq, h.out.alloc hp rfl _⟩
    kernel_rfl
  intro p6_1 a v hJ
  obtain ⟨rfl, h⟩ := zsmidJ6_fin hJ
  clear hJ
  replace M := Lib.hid h.fin1
  clear h
  refine tails_one (T := []) (i := 8) (o := _) rfl (by kernel_rfl) (fun K hK => ?_)
  have kc := (M.out.nth 0 rfl).2.1
  have kf := (M.out.nth 0 rfl).2.2
  replace M : Hid (Own w [(p6_1, #[.float .f64 sl, .float .f64 sh]), (w6_.heap.size, #[.int .i64 0]), ((w.heap.size + 1 + 1 + 1), #[.float .f64 0, .float .f64 0]), ((w.heap.size + 1 + 1), #[.float .f64 dl, .float .f64 dh]), ((w.heap.size + 1), #[.float .f64 ol, .float .f64 oh]), (w.heap.size, #[.float .f64 il, .float .f64 ih])] _) := Lib.hid (M.out.set2 0 rfl (.float .f64 sl) (.float .f64 sh))
  go_simp
  refine hK.out _ _ (Or.inr ⟨(M.out.nth 3 rfl).two, (M.out.nth 5 rfl).two, (M.out.nth 4 rfl).two⟩) (fun hHeld => ?_)
  clear hK K hHeld kc kf
  refine tails_done (by kernel_rfl) ?_ _
  refine NoPanic.normal ?_
  clear hS
  replace M : Hid (Own w [(w6_.heap.size, #[.int .i64 0]), (p6_1, #[.float .f64 sl, .float .f64 sh]), ((w.heap.size + 1 + 1 + 1), #[.float .f64 0, .float .f64 0]), ((w.heap.size + 1 + 1), #[.float .f64 dl, .float .f64 dh]), ((w.heap.size + 1), #[.float .f64 ol, .float .f64 oh]), (w.heap.size, #[.float .f64 il, .float .f64 ih])] _) := Lib.hid M.out.front
  revert M
  generalize ((v.setCell ⟨p6_1, 0, none⟩ (.float .f64 sl)).setCell ⟨p6_1, 1, none⟩ (.float .f64 sh)) = W8_
  intro M
  obtain ⟨k1, k2⟩ := (M.out.nth 1 rfl).two
  obtain ⟨k3, k4⟩ := (M.out.nth 5 rfl).two
  obtain ⟨k5, k6⟩ := (M.out.nth 4 rfl).two
  go_wp2_with fail
  refine (d9.out _ _ (M.out.nth 0 rfl)).mono ?_
  rintro r w9_ ⟨rfl, hb⟩
  replace M : Hid (Own w [(w6_.heap.size, #[.int .i64 0]), (p6_1, #[.float .f64 sl, .float .f64 sh]), ((w.heap.size + 1 + 1 + 1), #[.float .f64 0, .float .f64 0]), ((w.heap.size + 1 + 1), #[.float .f64 dl, .float .f64 dh]), ((w.heap.size + 1), #[.float .f64 ol, .float .f64 oh]), (w.heap.size, #[.float .f64 il, .float .f64 ih])] w9_) := Lib.hid (M.out.putAt 0 rfl hb)
  clear hb
  clear k1 k2 k3 k4 k5 k6
  replace M := Lib.hid (M.out.made #[.float .f64 xl, .float .f64 xh] 24).front
  obtain ⟨k1, k2⟩ := (M.out.nth 2 rfl).two
  obtain ⟨k3, k4⟩ := (M.out.nth 2 rfl).two
  obtain ⟨k5, k6⟩ := (M.out.nth 1 rfl).two
  go_wp2_with fail
  refine (d10.out _ _ (M.out.nth 0 rfl)).mono ?_
  rintro r w10_ ⟨rfl, hb⟩
  replace M : Hid (Own w [(w6_.heap.size, #[.int .i64 0]), (w9_.heap.size, #[.float .f64 xl, .float .f64 xh]), (p6_1, #[.float .f64 sl, .float .f64 sh]), ((w.heap.size + 1 + 1 + 1), #[.float .f64 0, .float .f64 0]), ((w.heap.size + 1 + 1), #[.float .f64 dl, .float .f64 dh]), ((w.heap.size + 1), #[.float .f64 ol, .float .f64 oh]), (w.heap.size, #[.float .f64 il, .float .f64 ih])] w10_) := Lib.hid (M.out.putAt 0 rfl hb)
  clear hb
  clear k1 k2 k3 k4 k5 k6
  replace M := Lib.hid (M.out.made #[.float .f64 rl, .float .f64 rh] 24).front
  obtain ⟨k1, k2⟩ := (M.out.nth 3 rfl).two
  obtain ⟨k3, k4⟩ := (M.out.nth 1 rfl).two
  go_wp2_with fail
  refine (c11.out _).mono ?_
  rintro r w11_ ⟨rfl, hb⟩
  replace M := Lib.hid (M.out.below hb)
  clear hb
  clear k1 k2 k3 k4
  have kc := (M.out.nth 3 rfl).2.1
  have kf := (M.out.nth 3 rfl).2.2
  replace M : Hid (Own w [(w6_.heap.size, #[.int .i64 0]), (w10_.heap.size, #[.float .f64 rl, .float .f64 rh]), (w9_.heap.size, #[.float .f64 xl, .float .f64 xh]), (p6_1, #[.float .f64 hl, .float .f64 hh]), ((w.heap.size + 1 + 1 + 1), #[.float .f64 0, .float .f64 0]), ((w.heap.size + 1 + 1), #[.float .f64 dl, .float .f64 dh]), ((w.heap.size + 1), #[.float .f64 ol, .float .f64 oh]), (w.heap.size, #[.float .f64 il, .float .f64 ih])] _) := Lib.hid (M.out.set2 3 rfl (.float .f64 hl) (.float .f64 hh))
  have k3 := (M.out.nth 0 rfl).pc
  obtain ⟨k4, k5⟩ := (M.out.nth 3 rfl).two
  go_wp2_with fail
  refine (c12.out _).mono ?_
  rintro r w12_ ⟨rfl, hb⟩
  replace M := Lib.hid (M.out.below hb)
  clear hb
  clear kc kf k3 k4 k5
  have kc := (M.out.nth 4 rfl).2.1
  have kf := (M.out.nth 4 rfl).2.2
  replace M : Hid (Own w [(w6_.heap.size, #[.int .i64 0]), (w10_.heap.size, #[.float .f64 rl, .float .f64 rh]), (w9_.heap.size, #[.float .f64 xl, .float .f64 xh]), (p6_1, #[.float .f64 hl, .float .f64 hh]), ((w.heap.size + 1 + 1 + 1), #[.float .f64 kl, .float .f64 kh]), ((w.heap.size + 1 + 1), #[.float .f64 dl, .float .f64 dh]), ((w.heap.size + 1), #[.float .f64 ol, .float .f64 oh]), (w.heap.size, #[.float .f64 il, .float .f64 ih])] _) := Lib.hid (M.out.set2 4 rfl (.float .f64 kl) (.float .f64 kh))
  go_wp2
  obtain ⟨f1, f2⟩ := (M.out.nth 4 rfl).two
  exact bodyPost_ret (v := .tuple #[.agg #[.float .f64 kl, .float .f64 kh], .int .i64 0]) (by simp [results, Tryz.results8, go_sem, f1, f2]) rfl ⟨rfl, M.out.base⟩

def zsmerrJ6 (w : World) (pb : Nat) (ml mh sl sh : Nat) (l : RowL) (a0 : Act) (k : Nat) (p : List (Option Nat)) (a : Act) (v : World) : Prop :=
  ∃ y1 y2 z1 : Value, a = (((a0.put (some 47) y1).put (some 48) y2).put (some 9) z1) ∧ (0 < k → y1 = .agg #[.float .f64 ml, .float .f64 mh]) ∧ (1 < k → y2 = .agg #[.float .f64 sl, .float .f64 sh]) ∧ (∀ q, p[0]? = some (some q) → z1 = .pointer (some ⟨q, 0, none⟩)) ∧ OwnF w ((pb, #[.int .i64 0]) :: l) [#[.float .f64 0, .float .f64 0]] p v
section
variable {w v : World} {pb : Nat} {ml mh sl sh : Nat} {l : RowL} {a0 a : Act} {p : List (Option Nat)}
theorem zsmerrJ6_0 (h : zsmerrJ6 w pb ml mh sl sh l a0 0 p a v) : ∃ y1 y2 z1 : Value, a = (((a0.put (some 47) y1).put (some 48) y2).put (some 9) z1) ∧ (∀ q, p[0]? = some (some q) → z1 = .pointer (some ⟨q, 0, none⟩)) ∧ OwnF w ((pb, #[.int .i64 0]) :: l) [#[.float .f64 0, .float .f64 0]] p v := by
  obtain ⟨y1, y2, z1, ha, E1, E2, G1, h⟩ := h
  exact ⟨y1, y2, z1, ha, G1, h⟩
theorem zsmerrJ6_1 (h : zsmerrJ6 w pb ml mh sl sh l a0 1 p a v) : ∃ y2 z1 : Value, a = (((a0.put (some 47) (.agg #[.float .f64 ml, .float .f64 mh])).put (some 48) y2).put (some 9) z1) ∧ (∀ q, p[0]? = some (some q) → z1 = .pointer (some ⟨q, 0, none⟩)) ∧ OwnF w ((pb, #[.int .i64 0]) :: l) [#[.float .f64 0, .float .f64 0]] p v := by
  obtain ⟨y1, y2, z1, ha, E1, E2, G1, h⟩ := h
  obtain rfl := E1 (by decide)
  exact ⟨y2, z1, ha, G1, h⟩
theorem zsmerrJ6_fin {q1 : Nat} (h : zsmerrJ6 w pb ml mh sl sh l a0 2 [some q1] a v) : a = (((a0.put (some 47) (.agg #[.float .f64 ml, .float .f64 mh])).put (some 48) (.agg #[.float .f64 sl, .float .f64 sh])).put (some 9) (.pointer (some ⟨q1, 0, none⟩))) ∧ OwnF w ((pb, #[.int .i64 0]) :: l) [#[.float .f64 0, .float .f64 0]] [some q1] v := by
  obtain ⟨y1, y2, z1, ha, E1, E2, G1, h⟩ := h
  obtain rfl := E1 (by decide)
  obtain rfl := E2 (by decide)
  obtain rfl := G1 _ rfl
  exact ⟨ha, h⟩
end

set_option maxRecDepth 100000 in
set_option maxHeartbeats 16000000 in
theorem refSlope_merr {il ih ol oh dl dh ml mh sl sh xl xh rl rh hl hh : Nat} {e : Int} (w : World)
    (c1 : Hid (∀ w, Calls Tryz.prog 16 #[.agg #[.float .f64 il, .float .f64 ih]] w fun r w' => r = .returned (.bool true) ∧ Below w.heap.size w w'))
    (c2 : Hid (∀ w, Calls Tryz.prog 16 #[.agg #[.float .f64 ol, .float .f64 oh]] w fun r w' => r = .returned (.bool true) ∧ Below w.heap.size w w'))
    (c3 : Hid (∀ w, Calls Tryz.prog 16 #[.agg #[.float .f64 dl, .float .f64 dh]] w fun r w' => r = .returned (.bool true) ∧ Below w.heap.size w w'))
    (c4 : Hid (∀ w, Calls Tryz.prog 17 #[.agg #[.float .f64 il, .float .f64 ih], .float .f64 0, .float .f64 4607182418800017408] w fun r w' => r = .returned (.bool true) ∧ Below w.heap.size w w'))
    (c5 : Hid (∀ w, Calls Tryz.prog 17 #[.agg #[.float .f64 ol, .float .f64 oh], .float .f64 0, .float .f64 4607182418800017408] w fun r w' => r = .returned (.bool true) ∧ Below w.heap.size w w'))
    (c6 : Hid (∀ w, Calls Tryz.prog 17 #[.agg #[.float .f64 dl, .float .f64 dh], .float .f64 13830554455654793216, .float .f64 4607182418800017408] w fun r w' => r = .returned (.bool true) ∧ Below w.heap.size w w'))
    (d7 : Hid (∀ pb v, Has1 v (pb, #[.int .i64 0]) → Calls Tryz.prog 23 #[.pointer (some ⟨pb, 0, none⟩), .agg #[.float .f64 il, .float .f64 ih], .agg #[.float .f64 ol, .float .f64 oh]] v fun r w' => r = .returned (.agg #[.float .f64 ml, .float .f64 mh]) ∧ Put ⟨pb, 0, none⟩ (.int .i64 0) v w'))
    (d8 : Hid (∀ pb v, Has1 v (pb, #[.int .i64 0]) → Calls Tryz.prog 19 #[.pointer (some ⟨pb, 0, none⟩), .agg #[.float .f64 dl, .float .f64 dh], .agg #[.float .f64 ml, .float .f64 mh]] v fun r w' => r = .returned (.agg #[.float .f64 sl, .float .f64 sh]) ∧ Put ⟨pb, 0, none⟩ (.int .i64 0) v w'))
    (o_gtrsh_0 : ((FloatKind.f64.format.order sh 0 == some Ordering.gt) = true))
    (d9 : Hid (∀ pb v, Has1 v (pb, #[.int .i64 0]) → Calls Tryz.prog 25 #[.pointer (some ⟨pb, 0, none⟩), .agg #[.float .f64 il, .float .f64 ih], .agg #[.float .f64 ol, .float .f64 oh]] v fun r w' => r = .returned (.agg #[.float .f64 xl, .float .f64 xh]) ∧ Put ⟨pb, 0, none⟩ (.int .i64 0) v w'))
    (o_geqsl_0 : (((FloatKind.f64.format.order sl 0 == some Ordering.gt) || (FloatKind.f64.format.order sl 0 == some Ordering.eq)) = false))
    (d10 : Hid (∀ pb v, Has1 v (pb, #[.int .i64 0]) → Calls Tryz.prog 20 #[.pointer (some ⟨pb, 0, none⟩), .agg #[.float .f64 0, .float .f64 sh], .agg #[.float .f64 xl, .float .f64 xh]] v fun r w' => r = .returned (.agg #[.float .f64 rl, .float .f64 rh]) ∧ Put ⟨pb, 0, none⟩ (.int .i64 e) v w'))
    (c11 : Hid (∀ w, Calls Tryz.prog 26 #[.agg #[.float .f64 sl, .float .f64 0], .agg #[.float .f64 rl, .float .f64 rh]] w fun r w' => r = .returned (.agg #[.float .f64 hl, .float .f64 hh]) ∧ Below w.heap.size w w'))
    (hne : (e != 0) = true) :
    Calls Tryz.prog 8 #[.agg #[.float .f64 il, .float .f64 ih], .agg #[.float .f64 ol, .float .f64 oh], .agg #[.float .f64 dl, .float .f64 dh]] w fun r w' => r = .returned (.tuple #[.agg #[.float .f64 0, .float .f64 0], .int .i64 e]) ∧ Below w.heap.size w w' := by
  have M := Lib.hid (((((Own.nil w).made #[.float .f64 il, .float .f64 ih] 24).made #[.float .f64 ol, .float .f64 oh] 24).made #[.float .f64 dl, .float .f64 dh] 24).made #[.float .f64 0, .float .f64 0] 24)
  simp only [World.size_alloc] at M
  have eqF := eq_floats
  go_enter Tryz.func8, Tryz.ntmps8
  obtain ⟨k1, k2⟩ := (M.out.nth 3 rfl).two
  go_wp2_with fail
  refine (c1.out _).mono ?_
  rintro r w1_ ⟨rfl, hb⟩
  replace M := Lib.hid (M.out.below hb)
  clear hb
  clear k1 k2
  obtain ⟨k1, k2⟩ := (M.out.nth 2 rfl).two
  go_wp2_with fail
  refine (c2.out _).mono ?_
  rintro r w2_ ⟨rfl, hb⟩
  replace M := Lib.hid (M.out.below hb)
  clear hb
  clear k1 k2
  obtain ⟨k1, k2⟩ := (M.out.nth 1 rfl).two
  go_wp2_with fail
  refine (c3.out _).mono ?_
  rintro r w3_ ⟨rfl, hb⟩
  replace M := Lib.hid (M.out.below hb)
  clear hb
  clear k1 k2
  obtain ⟨k1, k2⟩ := (M.out.nth 3 rfl).two
  go_wp2_with fail
  refine (c4.out _).mono ?_
  rintro r w4_ ⟨rfl, hb⟩
  replace M := Lib.hid (M.out.below hb)
  clear hb
  clear k1 k2
  obtain ⟨k1, k2⟩ := (M.out.nth 2 rfl).two
  go_wp2_with fail
  refine (c5.out _).mono ?_
  rintro r w5_ ⟨rfl, hb⟩
  replace M := Lib.hid (M.out.below hb)
  clear hb
  clear k1 k2
  obtain ⟨k1, k2⟩ := (M.out.nth 1 rfl).two
  go_wp2_with fail
  refine (c6.out _).mono ?_
  rintro r w6_ ⟨rfl, hb⟩
  replace M := Lib.hid (M.out.below hb)
  clear hb
  clear k1 k2
  replace M := Lib.hid (M.out.made #[.int .i64 0] 52)
  go_upto_region 6 with fail
  replace M := Lib.hid M.out.drew
  revert M
  generalize (w6_.alloc (.cells #[.int .i64 0] 52)) = W7_
  intro M
  refine wp_region_noPanic ?_
  refine tails_region (S := fun w' => (w'.cell? ⟨(w.heap.size + 1 + 1), 0, none⟩ = some (.float .f64 dl) ∧ w'.cell? ⟨(w.heap.size + 1 + 1), 1, none⟩ = some (.float .f64 dh)) ∧ (w'.cell? ⟨w.heap.size, 0, none⟩ = some (.float .f64 il) ∧ w'.cell? ⟨w.heap.size, 1, none⟩ = some (.float .f64 ih)) ∧ (w'.cell? ⟨(w.heap.size + 1), 0, none⟩ = some (.float .f64 ol) ∧ w'.cell? ⟨(w.heap.size + 1), 1, none⟩ = some (.float .f64 oh))) [] (by kernel_rfl) ?_ (fun hS => ?_)
  · exact ⟨(M.out.nth 2 rfl).two, (M.out.nth 4 rfl).two, (M.out.nth 3 rfl).two⟩
  refine tk (x := ?_) 0 rfl (by kernel_rfl) ⟨by rfl, ?_⟩ (fun _ _ _ h => h) hS ?_
  rotate_left; focus (intro w hSw; (try dsimp only at hSw); go_simp; try with_reducible rfl)
  refine tk (x := ?_) 1 rfl (by kernel_rfl) ⟨by rfl, ?_⟩ (fun _ _ _ h => h) hS ?_
  rotate_left; focus (intro w hSw; (try dsimp only at hSw); go_simp; try with_reducible rfl)
  refine tk (x := ?_) 2 rfl (by kernel_rfl) ⟨by rfl, ?_⟩ (fun _ _ _ h => h) hS ?_
  rotate_left; focus (intro w hSw; (try dsimp only at hSw); go_simp; try with_reducible rfl)
  refine tk (x := ?_) 3 rfl (by kernel_rfl) ⟨by rfl, ?_⟩ (fun _ _ _ h => h) hS ?_
  rotate_left; focus (intro w hSw; (try dsimp only at hSw); go_simp; try with_reducible rfl)
  refine tk (x := ?_) 4 rfl (by kernel_rfl) ⟨by rfl, ?_⟩ (fun _ _ _ h => h) hS ?_
  rotate_left; focus (intro w hSw; (try dsimp only at hSw); go_simp; try with_reducible rfl)
  conv => arg 9; simp only [Act.put, go_sem]
  refine lpz_cc_1 M 5 6 7 [47, 48, 9] 1 (zsmerrJ6 w w6_.heap.size ml mh sl sh) (by kernel_rfl) (by kernel_rfl) ?_ ?_ ?_ ?_ ?_ ?_
  · intro A hA
    obtain ⟨y1, hq1⟩ := put_ex (hA 47 (by simp))
    obtain ⟨y2, hq2⟩ := put_ex (hA 48 (by simp))
    obtain ⟨z1, hq3⟩ := put_ex (hA 9 (by simp))
    exact ⟨y1, y2, z1, by rw [hq1, hq2, hq3], by omega, by omega, by simp, OwnF.start M.out 1⟩
  · rintro k p a v ⟨y1, y2, z1, _, _, _, _, h⟩
    exact ⟨(h.own.nth 2 rfl).two, (h.own.nth 4 rfl).two, (h.own.nth 3 rfl).two⟩
  · intro p a v hJ
    refine op_step (o := _) rfl (fun K hK => ?_)
    obtain ⟨y1, y2, z1, ha, gg1, h⟩ := zsmerrJ6_0 hJ
    have h := Lib.hid h
    clear hJ
    subst ha
    go_simp
    refine (d7.out _ _ (h.out.own.nth 0 rfl)).mono ?_
    rintro rr w5 ⟨rfl, hp⟩
    try go_wp2_with fail
    refine hK.out _ _ ⟨_, y2, z1, ?_, fun _ => rfl, by omega, gg1, h.out.putHead hp⟩
    kernel_rfl
  · intro p a v hJ
    refine op_step (o := _) rfl (fun K hK => ?_)
    obtain ⟨y2, z1, ha, gg1, h⟩ := zsmerrJ6_1 hJ
    have h := Lib.hid h
    clear hJ
    subst ha
    go_simp
    refine (d8.out _ _ (h.out.own.nth 0 rfl)).mono ?_
    rintro rr w5 ⟨rfl, hp⟩
    try go_wp2_with fail
    refine hK.out _ _ ⟨_, _, z1, ?_, fun _ => rfl, fun _ => rfl, gg1, h.out.putHead hp⟩
    kernel_rfl
  · intro k p a v hp hJ
    refine op_step (o := _) rfl (fun K hK => ?_)
    obtain ⟨y1, y2, z1, ha, ee1, ee2, gg1, h⟩ := hJ
    have h := Lib.hid h
    subst ha
    go_simp
    refine hK.out _ _ ⟨v.heap.size, y1, y2, .pointer (some ⟨v.heap.size, 0, none⟩), ?_, ee1, ee2, fun q hq => ptr_set hq, h.out.alloc hp rfl _⟩
    kernel_rfl
  intro p6_1 a v hJ
  obtain ⟨rfl, h⟩ := zsmerrJ6_fin hJ
  clear hJ
  replace M := Lib.hid h.fin1
  clear h
  refine tails_one (T := []) (i := 8) (o := _) rfl (by kernel_rfl) (fun K hK => ?_)
  have kc := (M.out.nth 0 rfl).2.1
  have kf := (M.out.nth 0 rfl).2.2
  replace M : Hid (Own w [(p6_1, #[.float .f64 sl, .float .f64 sh]), (w6_.heap.size, #[.int .i64 0]), ((w.heap.size + 1 + 1 + 1), #[.float .f64 0, .float .f64 0]), ((w.heap.size + 1 + 1), #[.float .f64 dl, .float .f64 dh]), ((w.heap.size + 1), #[.float .f64 ol, .float .f64 oh]), (w.heap.size, #[.float .f64 il, .float .f64 ih])] _) := Lib.hid (M.out.set2 0 rfl (.float .f64 sl) (.float .f64 sh))
  go_simp
  refine hK.out _ _ (Or.inr ⟨(M.out.nth 3 rfl).two, (M.out.nth 5 rfl).two, (M.out.nth 4 rfl).two⟩) (fun hHeld => ?_)
  clear hK K hHeld kc kf
  refine tails_done (by kernel_rfl) ?_ _
  refine NoPanic.normal ?_
  clear hS
  replace M : Hid (Own w [(w6_.heap.size, #[.int .i64 0]), (p6_1, #[.float .f64 sl, .float .f64 sh]), ((w.heap.size + 1 + 1 + 1), #[.float .f64 0, .float .f64 0]), ((w.heap.size + 1 + 1), #[.float .f64 dl, .float .f64 dh]), ((w.heap.size + 1), #[.float .f64 ol, .float .f64 oh]), (w.heap.size, #[.float .f64 il, .float .f64 ih])] _) := Lib.hid M.out.front
  revert M
  generalize ((v.setCell ⟨p6_1, 0, none⟩ (.float .f64 sl)).setCell ⟨p6_1, 1, none⟩ (.float .f64 sh)) = W8_
  intro M
  obtain ⟨k1, k2⟩ := (M.out.nth 1 rfl).two
  obtain ⟨k3, k4⟩ := (M.out.nth 5 rfl).two
  obtain ⟨k5, k6⟩ := (M.out.nth 4 rfl).two
  go_wp2_with fail
  refine (d9.out _ _ (M.out.nth 0 rfl)).mono ?_
  rintro r w9_ ⟨rfl, hb⟩
  replace M : Hid (Own w [(w6_.heap.size, #[.int .i64 0]), (p6_1, #[.float .f64 sl, .float .f64 sh]), ((w.heap.size + 1 + 1 + 1), #[.float .f64 0, .float .f64 0]), ((w.heap.size + 1 + 1), #[.float .f64 dl, .float .f64 dh]), ((w.heap.size + 1), #[.float .f64 ol, .float .f64 oh]), (w.heap.size, #[.float .f64 il, .float .f64 ih])] w9_) := Lib.hid (M.out.putAt 0 rfl hb)
  clear hb
  clear k1 k2 k3 k4 k5 k6
  replace M := Lib.hid (M.out.made #[.float .f64 xl, .float .f64 xh] 24).front
  obtain ⟨k1, k2⟩ := (M.out.nth 2 rfl).two
  obtain ⟨k3, k4⟩ := (M.out.nth 2 rfl).two
  obtain ⟨k5, k6⟩ := (M.out.nth 1 rfl).two
  go_wp2_with fail
  refine (d10.out _ _ (M.out.nth 0 rfl)).mono ?_
  rintro r w10_ ⟨rfl, hb⟩
  replace M : Hid (Own w [(w6_.heap.size, #[.int .i64 e]), (w9_.heap.size, #[.float .f64 xl, .float .f64 xh]), (p6_1, #[.float .f64 sl, .float .f64 sh]), ((w.heap.size + 1 + 1 + 1), #[.float .f64 0, .float .f64 0]), ((w.heap.size + 1 + 1), #[.float .f64 dl, .float .f64 dh]), ((w.heap.size + 1), #[.float .f64 ol, .float .f64 oh]), (w.heap.size, #[.float .f64 il, .float .f64 ih])] w10_) := Lib.hid (M.out.putAt 0 rfl hb)
  clear hb
  clear k1 k2 k3 k4 k5 k6
  replace M := Lib.hid (M.out.made #[.float .f64 rl, .float .f64 rh] 24).front
  obtain ⟨k1, k2⟩ := (M.out.nth 3 rfl).two
  obtain ⟨k3, k4⟩ := (M.out.nth 1 rfl).two
  go_wp2_with fail
  refine (c11.out _).mono ?_
  rintro r w11_ ⟨rfl, hb⟩
  replace M := Lib.hid (M.out.below hb)
  clear hb
  clear k1 k2 k3 k4
  have kc := (M.out.nth 3 rfl).2.1
  have kf := (M.out.nth 3 rfl).2.2
  replace M : Hid (Own w [(w6_.heap.size, #[.int .i64 e]), (w10_.heap.size, #[.float .f64 rl, .float .f64 rh]), (w9_.heap.size, #[.float .f64 xl, .float .f64 xh]), (p6_1, #[.float .f64 hl, .float .f64 hh]), ((w.heap.size + 1 + 1 + 1), #[.float .f64 0, .float .f64 0]), ((w.heap.size + 1 + 1), #[.float .f64 dl, .float .f64 dh]), ((w.heap.size + 1), #[.float .f64 ol, .float .f64 oh]), (w.heap.size, #[.float .f64 il, .float .f64 ih])] _) := Lib.hid (M.out.set2 3 rfl (.float .f64 hl) (.float .f64 hh))
  have k3 := (M.out.nth 0 rfl).pc
  go_upto_region 14 with fail
  clear kc kf k3
  replace M := Lib.hid M.out.drew
  revert M
  generalize ((w11_.setCell ⟨p6_1, 0, none⟩ (.float .f64 hl)).setCell ⟨p6_1, 1, none⟩ (.float .f64 hh)) = W12_
  intro M
  refine wp_region_noPanic ?_
  refine tails_region (S := fun w' => (w'.cell? ⟨w6_.heap.size, 0, none⟩ = some (.int .i64 e))) [] (by kernel_rfl) ?_ (fun hS => ?_)
  · exact (M.out.nth 0 rfl).pc
  revert hS M
  generalize W12_.drew = V_
  intro M hS
  refine tk (x := ?_) 0 rfl (by kernel_rfl) ⟨by rfl, ?_⟩ (fun _ _ _ h => h) hS ?_
  rotate_left; focus (intro w hSw; (try dsimp only at hSw); go_simp; try with_reducible rfl)
  refine tk (x := ?_) 1 rfl (by kernel_rfl) ⟨by rfl, ?_⟩ (fun _ _ _ h => h) hS ?_
  rotate_left; focus (intro w hSw; (try dsimp only at hSw); go_simp; try with_reducible rfl)
  refine tk (x := ?_) 2 rfl (by kernel_rfl) ⟨by rfl, ?_⟩ (fun _ _ _ h => h) hS ?_
  rotate_left; focus (intro w hSw; (try dsimp only at hSw); go_simp; try with_reducible rfl)
  refine tk (x := ?_) 3 rfl (by kernel_rfl) ⟨by rfl, ?_⟩ (fun _ _ _ h => h) hS ?_
  rotate_left; focus (intro w hSw; (try dsimp only at hSw); go_simp; try with_reducible rfl)
  refine tk (x := ?_) 4 rfl (by kernel_rfl) ⟨by rfl, ?_⟩ (fun _ _ _ h => h) hS ?_
  rotate_left; focus (intro w hSw; (try dsimp only at hSw); go_simp; try with_reducible rfl)
  conv => arg 9; simp only [Act.put, go_sem]
  refine tails_one (T := []) (i := 5) (o := _) rfl (by kernel_rfl) (fun K hK => ?_)
  have kc := (M.out.nth 4 rfl).2.1
  have kf := (M.out.nth 4 rfl).2.2
  replace M : Hid (Own w [(w6_.heap.size, #[.int .i64 e]), (w10_.heap.size, #[.float .f64 rl, .float .f64 rh]), (w9_.heap.size, #[.float .f64 xl, .float .f64 xh]), (p6_1, #[.float .f64 hl, .float .f64 hh]), ((w.heap.size + 1 + 1 + 1), #[.float .f64 0, .float .f64 0]), ((w.heap.size + 1 + 1), #[.float .f64 dl, .float .f64 dh]), ((w.heap.size + 1), #[.float .f64 ol, .float .f64 oh]), (w.heap.size, #[.float .f64 il, .float .f64 ih])] _) := Lib.hid (M.out.set2 4 rfl (.float .f64 0) (.float .f64 0))
  go_simp
  refine hK.out _ _ (Or.inr (M.out.nth 0 rfl).pc) (fun hHeld => ?_)
  clear hK K hHeld kc kf
  refine tails_one (T := []) (i := 6) (o := _) rfl (by kernel_rfl) (fun K hK => ?_)
  go_simp
  refine hK.out _ _ (Or.inr (M.out.nth 0 rfl).pc) (fun hHeld => ?_)
  clear hK K hHeld
  refine tails_done (by kernel_rfl) ?_ _
  refine NoPanic.normal ?_
  clear hS
  revert M
  generalize ((V_.setCell ⟨(w.heap.size + 1 + 1 + 1), 0, none⟩ (.float .f64 0)).setCell ⟨(w.heap.size + 1 + 1 + 1), 1, none⟩ (.float .f64 0)) = W13_
  intro M
  go_wp2
  obtain ⟨f1, f2⟩ := (M.out.nth 4 rfl).two
  exact bodyPost_ret (v := .tuple #[.agg #[.float .f64 0, .float .f64 0], .int .i64 e]) (by simp [results, Tryz.results8, go_sem, f1, f2]) rfl ⟨rfl, M.out.base⟩

set_option maxRecDepth 100000 in
set_option maxHeartbeats 16000000 in
theorem refValue_iv0 {rl rh sl sh il ih ol oh dl dh : Nat} (w : World)
    (c1 : Hid (∀ w, Calls Tryz.prog 16 #[.agg #[.float .f64 rl, .float .f64 rh]] w fun r w' => r = .returned (.bool false) ∧ Below w.heap.size w w')) :
    Calls Tryz.prog 10 #[.agg #[.float .f64 rl, .float .f64 rh], .agg #[.float .f64 sl, .float .f64 sh], .agg #[.float .f64 il, .float .f64 ih], .agg #[.float .f64 ol, .float .f64 oh], .agg #[.float .f64 dl, .float .f64 dh]] w fun r w' => r = .returned (.tuple #[.agg #[.float .f64 0, .float .f64 0], .int .i64 20]) ∧ Below w.heap.size w w' := by
  have M := Lib.hid (((((((Own.nil w).made #[.float .f64 rl, .float .f64 rh] 24).made #[.float .f64 sl, .float .f64 sh] 24).made #[.float .f64 il, .float .f64 ih] 24).made #[.float .f64 ol, .float .f64 oh] 24).made #[.float .f64 dl, .float .f64 dh] 24).made #[.float .f64 0, .float .f64 0] 24)
  simp only [World.size_alloc] at M
  have eqF := eq_floats
  go_enter Tryz.func10, Tryz.ntmps10
  obtain ⟨k1, k2⟩ := (M.out.nth 5 rfl).two
  go_wp2_with fail
  refine (c1.out _).mono ?_
  rintro r w1_ ⟨rfl, hb⟩
  replace M := Lib.hid (M.out.below hb)
  clear hb
  clear k1 k2
  have kc := (M.out.nth 0 rfl).2.1
  have kf := (M.out.nth 0 rfl).2.2
  replace M : Hid (Own w [((w.heap.size + 1 + 1 + 1 + 1 + 1), #[.float .f64 0, .float .f64 0]), ((w.heap.size + 1 + 1 + 1 + 1), #[.float .f64 dl, .float .f64 dh]), ((w.heap.size + 1 + 1 + 1), #[.float .f64 ol, .float .f64 oh]), ((w.heap.size + 1 + 1), #[.float .f64 il, .float .f64 ih]), ((w.heap.size + 1), #[.float .f64 sl, .float .f64 sh]), (w.heap.size, #[.float .f64 rl, .float .f64 rh])] _) := Lib.hid (M.out.set2 0 rfl (.float .f64 0) (.float .f64 0))
  go_wp2
  obtain ⟨f1, f2⟩ := (M.out.nth 0 rfl).two
  exact bodyPost_ret (v := .tuple #[.agg #[.float .f64 0, .float .f64 0], .int .i64 20]) (by simp [results, Tryz.results10, go_sem, f1, f2]) rfl ⟨rfl, M.out.base⟩

set_option maxRecDepth 100000 in
set_option maxHeartbeats 16000000 in
theorem refValue_iv1 {rl rh sl sh il ih ol oh dl dh : Nat} (w : World)
    (c1 : Hid (∀ w, Calls Tryz.prog 16 #[.agg #[.float .f64 rl, .float .f64 rh]] w fun r w' => r = .returned (.bool true) ∧ Below w.heap.size w w'))
    (c2 : Hid (∀ w, Calls Tryz.prog 16 #[.agg #[.float .f64 sl, .float .f64 sh]] w fun r w' => r = .returned (.bool false) ∧ Below w.heap.size w w')) :
    Calls Tryz.prog 10 #[.agg #[.float .f64 rl, .float .f64 rh], .agg #[.float .f64 sl, .float .f64 sh], .agg #[.float .f64 il, .float .f64 ih], .agg #[.float .f64 ol, .float .f64 oh], .agg #[.float .f64 dl, .float .f64 dh]] w fun r w' => r = .returned (.tuple #[.agg #[.float .f64 0, .float .f64 0], .int .i64 20]) ∧ Below w.heap.size w w' := by
  have M := Lib.hid (((((((Own.nil w).made #[.float .f64 rl, .float .f64 rh] 24).made #[.float .f64 sl, .float .f64 sh] 24).made #[.float .f64 il, .float .f64 ih] 24).made #[.float .f64 ol, .float .f64 oh] 24).made #[.float .f64 dl, .float .f64 dh] 24).made #[.float .f64 0, .float .f64 0] 24)
  simp only [World.size_alloc] at M
  have eqF := eq_floats
  go_enter Tryz.func10, Tryz.ntmps10
  obtain ⟨k1, k2⟩ := (M.out.nth 5 rfl).two
  go_wp2_with fail
  refine (c1.out _).mono ?_
  rintro r w1_ ⟨rfl, hb⟩
  replace M := Lib.hid (M.out.below hb)
  clear hb
  clear k1 k2
  obtain ⟨k1, k2⟩ := (M.out.nth 4 rfl).two
  go_wp2_with fail
  refine (c2.out _).mono ?_
  rintro r w2_ ⟨rfl, hb⟩
  replace M := Lib.hid (M.out.below hb)
  clear hb
  clear k1 k2
  have kc := (M.out.nth 0 rfl).2.1
  have kf := (M.out.nth 0 rfl).2.2
  replace M : Hid (Own w [((w.heap.size + 1 + 1 + 1 + 1 + 1), #[.float .f64 0, .float .f64 0]), ((w.heap.size + 1 + 1 + 1 + 1), #[.float .f64 dl, .float .f64 dh]), ((w.heap.size + 1 + 1 + 1), #[.float .f64 ol, .float .f64 oh]), ((w.heap.size + 1 + 1), #[.float .f64 il, .float .f64 ih]), ((w.heap.size + 1), #[.float .f64 sl, .float .f64 sh]), (w.heap.size, #[.float .f64 rl, .float .f64 rh])] _) := Lib.hid (M.out.set2 0 rfl (.float .f64 0) (.float .f64 0))
  go_wp2
  obtain ⟨f1, f2⟩ := (M.out.nth 0 rfl).two
  exact bodyPost_ret (v := .tuple #[.agg #[.float .f64 0, .float .f64 0], .int .i64 20]) (by simp [results, Tryz.results10, go_sem, f1, f2]) rfl ⟨rfl, M.out.base⟩

set_option maxRecDepth 100000 in
set_option maxHeartbeats 16000000 in
theorem refValue_iv2 {rl rh sl sh il ih ol oh dl dh : Nat} (w : World)
    (c1 : Hid (∀ w, Calls Tryz.prog 16 #[.agg #[.float .f64 rl, .float .f64 rh]] w fun r w' => r = .returned (.bool true) ∧ Below w.heap.size w w'))
    (c2 : Hid (∀ w, Calls Tryz.prog 16 #[.agg #[.float .f64 sl, .float .f64 sh]] w fun r w' => r = .returned (.bool true) ∧ Below w.heap.size w w'))
    (c3 : Hid (∀ w, Calls Tryz.prog 16 #[.agg #[.float .f64 il, .float .f64 ih]] w fun r w' => r = .returned (.bool false) ∧ Below w.heap.size w w')) :
    Calls Tryz.prog 10 #[.agg #[.float .f64 rl, .float .f64 rh], .agg #[.float .f64 sl, .float .f64 sh], .agg #[.float .f64 il, .float .f64 ih], .agg #[.float .f64 ol, .float .f64 oh], .agg #[.float .f64 dl, .float .f64 dh]] w fun r w' => r = .returned (.tuple #[.agg #[.float .f64 0, .float .f64 0], .int .i64 20]) ∧ Below w.heap.size w w' := by
  have M := Lib.hid (((((((Own.nil w).made #[.float .f64 rl, .float .f64 rh] 24).made #[.float .f64 sl, .float .f64 sh] 24).made #[.float .f64 il, .float .f64 ih] 24).made #[.float .f64 ol, .float .f64 oh] 24).made #[.float .f64 dl, .float .f64 dh] 24).made #[.float .f64 0, .float .f64 0] 24)
  simp only [World.size_alloc] at M
  have eqF := eq_floats
  go_enter Tryz.func10, Tryz.ntmps10
  obtain ⟨k1, k2⟩ := (M.out.nth 5 rfl).two
  go_wp2_with fail
  refine (c1.out _).mono ?_
  rintro r w1_ ⟨rfl, hb⟩
  replace M := Lib.hid (M.out.below hb)
  clear hb
  clear k1 k2
  obtain ⟨k1, k2⟩ := (M.out.nth 4 rfl).two
  go_wp2_with fail
  refine (c2.out _).mono ?_
  rintro r w2_ ⟨rfl, hb⟩
  replace M := Lib.hid (M.out.below hb)
  clear hb
  clear k1 k2
  obtain ⟨k1, k2⟩ := (M.out.nth 3 rfl).two
  go_wp2_with fail
  refine (c3.out _).mono ?_
  rintro r w3_ ⟨rfl, hb⟩
  replace M := Lib.hid (M.out.below hb)
  clear hb
  clear k1 k2
  have kc := (M.out.nth 0 rfl).2.1
  have kf := (M.out.nth 0 rfl).2.2
  replace M : Hid (Own w [((w.heap.size + 1 + 1 + 1 + 1 + 1), #[.float .f64 0, .float .f64 0]), ((w.heap.size + 1 + 1 + 1 + 1), #[.float .f64 dl, .float .f64 dh]), ((w.heap.size + 1 + 1 + 1), #[.float .f64 ol, .float .f64 oh]), ((w.heap.size + 1 + 1), #[.float .f64 il, .float .f64 ih]), ((w.heap.size + 1), #[.float .f64 sl, .float .f64 sh]), (w.heap.size, #[.float .f64 rl, .float .f64 rh])] _) := Lib.hid (M.out.set2 0 rfl (.float .f64 0) (.float .f64 0))
  go_wp2
  obtain ⟨f1, f2⟩ := (M.out.nth 0 rfl).two
  exact bodyPost_ret (v := .tuple #[.agg #[.float .f64 0, .float .f64 0], .int .i64 20]) (by simp [results, Tryz.results10, go_sem, f1, f2]) rfl ⟨rfl, M.out.base⟩

set_option maxRecDepth 100000 in
set_option maxHeartbeats 16000000 in
theorem refValue_iv3 {rl rh sl sh il ih ol oh dl dh : Nat} (w : World)
    (c1 : Hid (∀ w, Calls Tryz.prog 16 #[.agg #[.float .f64 rl, .float .f64 rh]] w fun r w' => r = .returned (.bool true) ∧ Below w.heap.size w w'))
    (c2 : Hid (∀ w, Calls Tryz.prog 16 #[.agg #[.float .f64 sl, .float .f64 sh]] w fun r w' => r = .returned (.bool true) ∧ Below w.heap.size w w'))
    (c3 : Hid (∀ w, Calls Tryz.prog 16 #[.agg #[.float .f64 il, .float .f64 ih]] w fun r w' => r = .returned (.bool true) ∧ Below w.heap.size w w'))
    (c4 : Hid (∀ w, Calls Tryz.prog 16 #[.agg #[.float .f64 ol, .float .f64 oh]] w fun r w' => r = .returned (.bool false) ∧ Below w.heap.size w w')) :
    Calls Tryz.prog 10 #[.agg #[.float .f64 rl, .float .f64 rh], .agg #[.float .f64 sl, .float .f64 sh], .agg #[.float .f64 il, .float .f64 ih], .agg #[.float .f64 ol, .float .f64 oh], .agg #[.float .f64 dl, .float .f64 dh]] w fun r w' => r = .returned (.tuple #[.agg #[.float .f64 0, .float .f64 0], .int .i64 20]) ∧ Below w.heap.size w w' := by
  have M := Lib.hid (((((((Own.nil w).made #[.float .f64 rl, .float .f64 rh] 24).made #[.float .f64 sl, .float .f64 sh] 24).made #[.float .f64 il, .float .f64 ih] 24).made #[.float .f64 ol, .float .f64 oh] 24).made #[.float .f64 dl, .float .f64 dh] 24).made #[.float .f64 0, .float .f64 0] 24)
  simp only [World.size_alloc] at M
  have eqF := eq_floats
  go_enter Tryz.func10, Tryz.ntmps10
  obtain ⟨k1, k2⟩ := (M.out.nth 5 rfl).two
  go_wp2_with fail
  refine (c1.out _).mono ?_
  rintro r w1_ ⟨rfl, hb⟩
  replace M := Lib.hid (M.out.below hb)
  clear hb
  clear k1 k2
  obtain ⟨k1, k2⟩ := (M.out.nth 4 rfl).two
  go_wp2_with fail
  refine (c2.out _).mono ?_
  rintro r w2_ ⟨rfl, hb⟩
  replace M := Lib.hid (M.out.below hb)
  clear hb
  clear k1 k2
  obtain ⟨k1, k2⟩ := (M.out.nth 3 rfl).two
  go_wp2_with fail
  refine (c3.out _).mono ?_
  rintro r w3_ ⟨rfl, hb⟩
  replace M := Lib.hid (M.out.below hb)
  clear hb
  clear k1 k2
  obtain ⟨k1, k2⟩ := (M.out.nth 2 rfl).two
  go_wp2_with fail
  refine (c4.out _).mono ?_
  rintro r w4_ ⟨rfl, hb⟩
  replace M := Lib.hid (M.out.below hb)
  clear hb
  clear k1 k2
  have kc := (M.out.nth 0 rfl).2.1
  have kf := (M.out.nth 0 rfl).2.2
  replace M : Hid (Own w [((w.heap.size + 1 + 1 + 1 + 1 + 1), #[.float .f64 0, .float .f64 0]), ((w.heap.size + 1 + 1 + 1 + 1), #[.float .f64 dl, .float .f64 dh]), ((w.heap.size + 1 + 1 + 1), #[.float .f64 ol, .float .f64 oh]), ((w.heap.size + 1 + 1), #[.float .f64 il, .float .f64 ih]), ((w.heap.size + 1), #[.float .f64 sl, .float .f64 sh]), (w.heap.size, #[.float .f64 rl, .float .f64 rh])] _) := Lib.hid (M.out.set2 0 rfl (.float .f64 0) (.float .f64 0))
  go_wp2
  obtain ⟨f1, f2⟩ := (M.out.nth 0 rfl).two
  exact bodyPost_ret (v := .tuple #[.agg #[.float .f64 0, .float .f64 0], .int .i64 20]) (by simp [results, Tryz.results10, go_sem, f1, f2]) rfl ⟨rfl, M.out.base⟩

set_option maxRecDepth 100000 in
set_option maxHeartbeats 16000000 in
theorem refValue_iv4 {rl rh sl sh il ih ol oh dl dh : Nat} (w : World)
    (c1 : Hid (∀ w, Calls Tryz.prog 16 #[.agg #[.float .f64 rl, .float .f64 rh]] w fun r w' => r = .returned (.bool true) ∧ Below w.heap.size w w'))
    (c2 : Hid (∀ w, Calls Tryz.prog 16 #[.agg #[.float .f64 sl, .float .f64 sh]] w fun r w' => r = .returned (.bool true) ∧ Below w.heap.size w w'))
    (c3 : Hid (∀ w, Calls Tryz.prog 16 #[.agg #[.float .f64 il, .float .f64 ih]] w fun r w' => r = .returned (.bool true) ∧ Below w.heap.size w w'))
    (c4 : Hid (∀ w, Calls Tryz.prog 16 #[.agg #[.float .f64 ol, .float .f64 oh]] w fun r w' => r = .returned (.bool true) ∧ Below w.heap.size w w'))
    (c5 : Hid (∀ w, Calls Tryz.prog 16 #[.agg #[.float .f64 dl, .float .f64 dh]] w fun r w' => r = .returned (.bool false) ∧ Below w.heap.size w w')) :
    Calls Tryz.prog 10 #[.agg #[.float .f64 rl, .float .f64 rh], .agg #[.float .f64 sl, .float .f64 sh], .agg #[.float .f64 il, .float .f64 ih], .agg #[.float .f64 ol, .float .f64 oh], .agg #[.float .f64 dl, .float .f64 dh]] w fun r w' => r = .returned (.tuple #[.agg #[.float .f64 0, .float .f64 0], .int .i64 20]) ∧ Below w.heap.size w w' := by
  have M := Lib.hid (((((((Own.nil w).made #[.float .f64 rl, .float .f64 rh] 24).made #[.float .f64 sl, .float .f64 sh] 24).made #[.float .f64 il, .float .f64 ih] 24).made #[.float .f64 ol, .float .f64 oh] 24).made #[.float .f64 dl, .float .f64 dh] 24).made #[.float .f64 0, .float .f64 0] 24)
  simp only [World.size_alloc] at M
  have eqF := eq_floats
  go_enter Tryz.func10, Tryz.ntmps10
  obtain ⟨k1, k2⟩ := (M.out.nth 5 rfl).two
  go_wp2_with fail
  refine (c1.out _).mono ?_
  rintro r w1_ ⟨rfl, hb⟩
  replace M := Lib.hid (M.out.below hb)
  clear hb
  clear k1 k2
  obtain ⟨k1, k2⟩ := (M.out.nth 4 rfl).two
  go_wp2_with fail
  refine (c2.out _).mono ?_
  rintro r w2_ ⟨rfl, hb⟩
  replace M := Lib.hid (M.out.below hb)
  clear hb
  clear k1 k2
  obtain ⟨k1, k2⟩ := (M.out.nth 3 rfl).two
  go_wp2_with fail
  refine (c3.out _).mono ?_
  rintro r w3_ ⟨rfl, hb⟩
  replace M := Lib.hid (M.out.below hb)
  clear hb
  clear k1 k2
  obtain ⟨k1, k2⟩ := (M.out.nth 2 rfl).two
  go_wp2_with fail
  refine (c4.out _).mono ?_
  rintro r w4_ ⟨rfl, hb⟩
  replace M := Lib.hid (M.out.below hb)
  clear hb
  clear k1 k2
  obtain ⟨k1, k2⟩ := (M.out.nth 1 rfl).two
  go_wp2_with fail
  refine (c5.out _).mono ?_
  rintro r w5_ ⟨rfl, hb⟩
  replace M := Lib.hid (M.out.below hb)
  clear hb
  clear k1 k2
  have kc := (M.out.nth 0 rfl).2.1
  have kf := (M.out.nth 0 rfl).2.2
  replace M : Hid (Own w [((w.heap.size + 1 + 1 + 1 + 1 + 1), #[.float .f64 0, .float .f64 0]), ((w.heap.size + 1 + 1 + 1 + 1), #[.float .f64 dl, .float .f64 dh]), ((w.heap.size + 1 + 1 + 1), #[.float .f64 ol, .float .f64 oh]), ((w.heap.size + 1 + 1), #[.float .f64 il, .float .f64 ih]), ((w.heap.size + 1), #[.float .f64 sl, .float .f64 sh]), (w.heap.size, #[.float .f64 rl, .float .f64 rh])] _) := Lib.hid (M.out.set2 0 rfl (.float .f64 0) (.float .f64 0))
  go_wp2
  obtain ⟨f1, f2⟩ := (M.out.nth 0 rfl).two
  exact bodyPost_ret (v := .tuple #[.agg #[.float .f64 0, .float .f64 0], .int .i64 20]) (by simp [results, Tryz.results10, go_sem, f1, f2]) rfl ⟨rfl, M.out.base⟩

set_option maxRecDepth 100000 in
set_option maxHeartbeats 16000000 in
theorem refValue_arg {rl rh sl sh il ih ol oh dl dh : Nat} (w : World)
    (c1 : Hid (∀ w, Calls Tryz.prog 16 #[.agg #[.float .f64 rl, .float .f64 rh]] w fun r w' => r = .returned (.bool true) ∧ Below w.heap.size w w'))
    (c2 : Hid (∀ w, Calls Tryz.prog 16 #[.agg #[.float .f64 sl, .float .f64 sh]] w fun r w' => r = .returned (.bool true) ∧ Below w.heap.size w w'))
    (c3 : Hid (∀ w, Calls Tryz.prog 16 #[.agg #[.float .f64 il, .float .f64 ih]] w fun r w' => r = .returned (.bool true) ∧ Below w.heap.size w w'))
    (c4 : Hid (∀ w, Calls Tryz.prog 16 #[.agg #[.float .f64 ol, .float .f64 oh]] w fun r w' => r = .returned (.bool true) ∧ Below w.heap.size w w'))
    (c5 : Hid (∀ w, Calls Tryz.prog 16 #[.agg #[.float .f64 dl, .float .f64 dh]] w fun r w' => r = .returned (.bool true) ∧ Below w.heap.size w w'))
    (c6 : Hid (∀ w, Calls Tryz.prog 17 #[.agg #[.float .f64 rl, .float .f64 rh], .float .f64 0, .float .f64 4607182418800017408] w fun r w' => r = .returned (.bool false) ∧ Below w.heap.size w w')) :
    Calls Tryz.prog 10 #[.agg #[.float .f64 rl, .float .f64 rh], .agg #[.float .f64 sl, .float .f64 sh], .agg #[.float .f64 il, .float .f64 ih], .agg #[.float .f64 ol, .float .f64 oh], .agg #[.float .f64 dl, .float .f64 dh]] w fun r w' => r = .returned (.tuple #[.agg #[.float .f64 0, .float .f64 0], .int .i64 2]) ∧ Below w.heap.size w w' := by
  have M := Lib.hid (((((((Own.nil w).made #[.float .f64 rl, .float .f64 rh] 24).made #[.float .f64 sl, .float .f64 sh] 24).made #[.float .f64 il, .float .f64 ih] 24).made #[.float .f64 ol, .float .f64 oh] 24).made #[.float .f64 dl, .float .f64 dh] 24).made #[.float .f64 0, .float .f64 0] 24)
  simp only [World.size_alloc] at M
  have eqF := eq_floats
  go_enter Tryz.func10, Tryz.ntmps10
  obtain ⟨k1, k2⟩ := (M.out.nth 5 rfl).two
  go_wp2_with fail
  refine (c1.out _).mono ?_
  rintro r w1_ ⟨rfl, hb⟩
  replace M := Lib.hid (M.out.below hb)
  clear hb
  clear k1 k2
  obtain ⟨k1, k2⟩ := (M.out.nth 4 rfl).two
  go_wp2_with fail
  refine (c2.out _).mono ?_
  rintro r w2_ ⟨rfl, hb⟩
  replace M := Lib.hid (M.out.below hb)
  clear hb
  clear k1 k2
  obtain ⟨k1, k2⟩ := (M.out.nth 3 rfl).two
  go_wp2_with fail
  refine (c3.out _).mono ?_
  rintro r w3_ ⟨rfl, hb⟩
  replace M := Lib.hid (M.out.below hb)
  clear hb
  clear k1 k2
  obtain ⟨k1, k2⟩ := (M.out.nth 2 rfl).two
  go_wp2_with fail
  refine (c4.out _).mono ?_
  rintro r w4_ ⟨rfl, hb⟩
  replace M := Lib.hid (M.out.below hb)
  clear hb
  clear k1 k2
  obtain ⟨k1, k2⟩ := (M.out.nth 1 rfl).two
  go_wp2_with fail
  refine (c5.out _).mono ?_
  rintro r w5_ ⟨rfl, hb⟩
  replace M := Lib.hid (M.out.below hb)
  clear hb
  clear k1 k2
  obtain ⟨k1, k2⟩ := (M.out.nth 5 rfl).two
  go_wp2_with fail
  refine (c6.out _).mono ?_
  rintro r w6_ ⟨rfl, hb⟩
  replace M := Lib.hid (M.out.below hb)
  clear hb
  clear k1 k2
  have kc := (M.out.nth 0 rfl).2.1
  have kf := (M.out.nth 0 rfl).2.2
  replace M : Hid (Own w [((w.heap.size + 1 + 1 + 1 + 1 + 1), #[.float .f64 0, .float .f64 0]), ((w.heap.size + 1 + 1 + 1 + 1), #[.float .f64 dl, .float .f64 dh]), ((w.heap.size + 1 + 1 + 1), #[.float .f64 ol, .float .f64 oh]), ((w.heap.size + 1 + 1), #[.float .f64 il, .float .f64 ih]), ((w.heap.size + 1), #[.float .f64 sl, .float .f64 sh]), (w.heap.size, #[.float .f64 rl, .float .f64 rh])] _) := Lib.hid (M.out.set2 0 rfl (.float .f64 0) (.float .f64 0))
  go_wp2
  obtain ⟨f1, f2⟩ := (M.out.nth 0 rfl).two
  exact bodyPost_ret (v := .tuple #[.agg #[.float .f64 0, .float .f64 0], .int .i64 2]) (by simp [results, Tryz.results10, go_sem, f1, f2]) rfl ⟨rfl, M.out.base⟩

set_option maxRecDepth 100000 in
set_option maxHeartbeats 16000000 in
theorem refValue_pair {rl rh sl sh il ih ol oh dl dh al ah bl bh : Nat} {e : Int} (w : World)
    (c1 : Hid (∀ w, Calls Tryz.prog 16 #[.agg #[.float .f64 rl, .float .f64 rh]] w fun r w' => r = .returned (.bool true) ∧ Below w.heap.size w w'))
    (c2 : Hid (∀ w, Calls Tryz.prog 16 #[.agg #[.float .f64 sl, .float .f64 sh]] w fun r w' => r = .returned (.bool true) ∧ Below w.heap.size w w'))
    (c3 : Hid (∀ w, Calls Tryz.prog 16 #[.agg #[.float .f64 il, .float .f64 ih]] w fun r w' => r = .returned (.bool true) ∧ Below w.heap.size w w'))
    (c4 : Hid (∀ w, Calls Tryz.prog 16 #[.agg #[.float .f64 ol, .float .f64 oh]] w fun r w' => r = .returned (.bool true) ∧ Below w.heap.size w w'))
    (c5 : Hid (∀ w, Calls Tryz.prog 16 #[.agg #[.float .f64 dl, .float .f64 dh]] w fun r w' => r = .returned (.bool true) ∧ Below w.heap.size w w'))
    (c6 : Hid (∀ w, Calls Tryz.prog 17 #[.agg #[.float .f64 rl, .float .f64 rh], .float .f64 0, .float .f64 4607182418800017408] w fun r w' => r = .returned (.bool true) ∧ Below w.heap.size w w'))
    (c7 : Hid (∀ w, Calls Tryz.prog 6 #[.agg #[.float .f64 sl, .float .f64 sh]] w fun r w' => r = .returned (.tuple #[.agg #[.float .f64 al, .float .f64 ah], .agg #[.float .f64 bl, .float .f64 bh], .int .i64 e]) ∧ Below w.heap.size w w'))
    (hne : (e != 0) = true) :
    Calls Tryz.prog 10 #[.agg #[.float .f64 rl, .float .f64 rh], .agg #[.float .f64 sl, .float .f64 sh], .agg #[.float .f64 il, .float .f64 ih], .agg #[.float .f64 ol, .float .f64 oh], .agg #[.float .f64 dl, .float .f64 dh]] w fun r w' => r = .returned (.tuple #[.agg #[.float .f64 0, .float .f64 0], .int .i64 e]) ∧ Below w.heap.size w w' := by
  have M := Lib.hid (((((((Own.nil w).made #[.float .f64 rl, .float .f64 rh] 24).made #[.float .f64 sl, .float .f64 sh] 24).made #[.float .f64 il, .float .f64 ih] 24).made #[.float .f64 ol, .float .f64 oh] 24).made #[.float .f64 dl, .float .f64 dh] 24).made #[.float .f64 0, .float .f64 0] 24)
  simp only [World.size_alloc] at M
  have eqF := eq_floats
  go_enter Tryz.func10, Tryz.ntmps10
  obtain ⟨k1, k2⟩ := (M.out.nth 5 rfl).two
  go_wp2_with fail
  refine (c1.out _).mono ?_
  rintro r w1_ ⟨rfl, hb⟩
  replace M := Lib.hid (M.out.below hb)
  clear hb
  clear k1 k2
  obtain ⟨k1, k2⟩ := (M.out.nth 4 rfl).two
  go_wp2_with fail
  refine (c2.out _).mono ?_
  rintro r w2_ ⟨rfl, hb⟩
  replace M := Lib.hid (M.out.below hb)
  clear hb
  clear k1 k2
  obtain ⟨k1, k2⟩ := (M.out.nth 3 rfl).two
  go_wp2_with fail
  refine (c3.out _).mono ?_
  rintro r w3_ ⟨rfl, hb⟩
  replace M := Lib.hid (M.out.below hb)
  clear hb
  clear k1 k2
  obtain ⟨k1, k2⟩ := (M.out.nth 2 rfl).two
  go_wp2_with fail
  refine (c4.out _).mono ?_
  rintro r w4_ ⟨rfl, hb⟩
  replace M := Lib.hid (M.out.below hb)
  clear hb
  clear k1 k2
  obtain ⟨k1, k2⟩ := (M.out.nth 1 rfl).two
  go_wp2_with fail
  refine (c5.out _).mono ?_
  rintro r w5_ ⟨rfl, hb⟩
  replace M := Lib.hid (M.out.below hb)
  clear hb
  clear k1 k2
  obtain ⟨k1, k2⟩ := (M.out.nth 5 rfl).two
  go_wp2_with fail
  refine (c6.out _).mono ?_
  rintro r w6_ ⟨rfl, hb⟩
  replace M := Lib.hid (M.out.below hb)
  clear hb
  clear k1 k2
  obtain ⟨k1, k2⟩ := (M.out.nth 4 rfl).two
  go_wp2_with fail
  refine (c7.out _).mono ?_
  rintro r w7_ ⟨rfl, hb⟩
  replace M := Lib.hid (M.out.below hb)
  clear hb
  clear k1 k2
  replace M := Lib.hid (M.out.made #[.float .f64 al, .float .f64 ah] 24)
  replace M := Lib.hid (M.out.made #[.float .f64 bl, .float .f64 bh] 24)
  simp only [World.size_alloc] at M
  have kc := (M.out.nth 2 rfl).2.1
  have kf := (M.out.nth 2 rfl).2.2
  replace M : Hid (Own w [((w7_.heap.size + 1), #[.float .f64 bl, .float .f64 bh]), (w7_.heap.size, #[.float .f64 al, .float .f64 ah]), ((w.heap.size + 1 + 1 + 1 + 1 + 1), #[.float .f64 0, .float .f64 0]), ((w.heap.size + 1 + 1 + 1 + 1), #[.float .f64 dl, .float .f64 dh]), ((w.heap.size + 1 + 1 + 1), #[.float .f64 ol, .float .f64 oh]), ((w.heap.size + 1 + 1), #[.float .f64 il, .float .f64 ih]), ((w.heap.size + 1), #[.float .f64 sl, .float .f64 sh]), (w.heap.size, #[.float .f64 rl, .float .f64 rh])] _) := Lib.hid (M.out.set2 2 rfl (.float .f64 0) (.float .f64 0))
  go_wp2
  obtain ⟨f1, f2⟩ := (M.out.nth 2 rfl).two
  exact bodyPost_ret (v := .tuple #[.agg #[.float .f64 0, .float .f64 0], .int .i64 e]) (by simp [results, Tryz.results10, go_sem, f1, f2]) rfl ⟨rfl, M.out.base⟩

set_option maxRecDepth 100000 in
set_option maxHeartbeats 16000000 in
theorem refValue_slope {rl rh sl sh il ih ol oh dl dh al ah bl bh tl th : Nat} {e : Int} (w : World)
    (c1 : Hid (∀ w, Calls Tryz.prog 16 #[.agg #[.float .f64 rl, .float .f64 rh]] w fun r w' => r = .returned (.bool true) ∧ Below w.heap.size w w'))
    (c2 : Hid (∀ w, Calls Tryz.prog 16 #[.agg #[.float .f64 sl, .float .f64 sh]] w fun r w' => r = .returned (.bool true) ∧ Below w.heap.size w w'))
    (c3 : Hid (∀ w, Calls Tryz.prog 16 #[.agg #[.float .f64 il, .float .f64 ih]] w fun r w' => r = .returned (.bool true) ∧ Below w.heap.size w w'))
    (c4 : Hid (∀ w, Calls Tryz.prog 16 #[.agg #[.float .f64 ol, .float .f64 oh]] w fun r w' => r = .returned (.bool true) ∧ Below w.heap.size w w'))
    (c5 : Hid (∀ w, Calls Tryz.prog 16 #[.agg #[.float .f64 dl, .float .f64 dh]] w fun r w' => r = .returned (.bool true) ∧ Below w.heap.size w w'))
    (c6 : Hid (∀ w, Calls Tryz.prog 17 #[.agg #[.float .f64 rl, .float .f64 rh], .float .f64 0, .float .f64 4607182418800017408] w fun r w' => r = .returned (.bool true) ∧ Below w.heap.size w w'))
    (c7 : Hid (∀ w, Calls Tryz.prog 6 #[.agg #[.float .f64 sl, .float .f64 sh]] w fun r w' => r = .returned (.tuple #[.agg #[.float .f64 al, .float .f64 ah], .agg #[.float .f64 bl, .float .f64 bh], .int .i64 0]) ∧ Below w.heap.size w w'))
    (c8 : Hid (∀ w, Calls Tryz.prog 8 #[.agg #[.float .f64 il, .float .f64 ih], .agg #[.float .f64 ol, .float .f64 oh], .agg #[.float .f64 dl, .float .f64 dh]] w fun r w' => r = .returned (.tuple #[.agg #[.float .f64 tl, .float .f64 th], .int .i64 e]) ∧ Below w.heap.size w w'))
    (hne : (e != 0) = true) :
    Calls Tryz.prog 10 #[.agg #[.float .f64 rl, .float .f64 rh], .agg #[.float .f64 sl, .float .f64 sh], .agg #[.float .f64 il, .float .f64 ih], .agg #[.float .f64 ol, .float .f64 oh], .agg #[.float .f64 dl, .float .f64 dh]] w fun r w' => r = .returned (.tuple #[.agg #[.float .f64 0, .float .f64 0], .int .i64 e]) ∧ Below w.heap.size w w' := by
  have M := Lib.hid (((((((Own.nil w).made #[.float .f64 rl, .float .f64 rh] 24).made #[.float .f64 sl, .float .f64 sh] 24).made #[.float .f64 il, .float .f64 ih] 24).made #[.float .f64 ol, .float .f64 oh] 24).made #[.float .f64 dl, .float .f64 dh] 24).made #[.float .f64 0, .float .f64 0] 24)
  simp only [World.size_alloc] at M
  have eqF := eq_floats
  go_enter Tryz.func10, Tryz.ntmps10
  obtain ⟨k1, k2⟩ := (M.out.nth 5 rfl).two
  go_wp2_with fail
  refine (c1.out _).mono ?_
  rintro r w1_ ⟨rfl, hb⟩
  replace M := Lib.hid (M.out.below hb)
  clear hb
  clear k1 k2
  obtain ⟨k1, k2⟩ := (M.out.nth 4 rfl).two
  go_wp2_with fail
  refine (c2.out _).mono ?_
  rintro r w2_ ⟨rfl, hb⟩
  replace M := Lib.hid (M.out.below hb)
  clear hb
  clear k1 k2
  obtain ⟨k1, k2⟩ := (M.out.nth 3 rfl).two
  go_wp2_with fail
  refine (c3.out _).mono ?_
  rintro r w3_ ⟨rfl, hb⟩
  replace M := Lib.hid (M.out.below hb)
  clear hb
  clear k1 k2
  obtain ⟨k1, k2⟩ := (M.out.nth 2 rfl).two
  go_wp2_with fail
  refine (c4.out _).mono ?_
  rintro r w4_ ⟨rfl, hb⟩
  replace M := Lib.hid (M.out.below hb)
  clear hb
  clear k1 k2
  obtain ⟨k1, k2⟩ := (M.out.nth 1 rfl).two
  go_wp2_with fail
  refine (c5.out _).mono ?_
  rintro r w5_ ⟨rfl, hb⟩
  replace M := Lib.hid (M.out.below hb)
  clear hb
  clear k1 k2
  obtain ⟨k1, k2⟩ := (M.out.nth 5 rfl).two
  go_wp2_with fail
  refine (c6.out _).mono ?_
  rintro r w6_ ⟨rfl, hb⟩
  replace M := Lib.hid (M.out.below hb)
  clear hb
  clear k1 k2
  obtain ⟨k1, k2⟩ := (M.out.nth 4 rfl).two
  go_wp2_with fail
  refine (c7.out _).mono ?_
  rintro r w7_ ⟨rfl, hb⟩
  replace M := Lib.hid (M.out.below hb)
  clear hb
  clear k1 k2
  replace M := Lib.hid (M.out.made #[.float .f64 al, .float .f64 ah] 24)
  replace M := Lib.hid (M.out.made #[.float .f64 bl, .float .f64 bh] 24)
  simp only [World.size_alloc] at M
  obtain ⟨k1, k2⟩ := (M.out.nth 5 rfl).two
  obtain ⟨k3, k4⟩ := (M.out.nth 4 rfl).two
  obtain ⟨k5, k6⟩ := (M.out.nth 3 rfl).two
  go_wp2_with fail
  refine (c8.out _).mono ?_
  rintro r w8_ ⟨rfl, hb⟩
  replace M := Lib.hid (M.out.below hb)
  clear hb
  clear k1 k2 k3 k4 k5 k6
  replace M := Lib.hid (M.out.made #[.float .f64 tl, .float .f64 th] 24)
  have kc := (M.out.nth 3 rfl).2.1
  have kf := (M.out.nth 3 rfl).2.2
  replace M : Hid (Own w [(w8_.heap.size, #[.float .f64 tl, .float .f64 th]), ((w7_.heap.size + 1), #[.float .f64 bl, .float .f64 bh]), (w7_.heap.size, #[.float .f64 al, .float .f64 ah]), ((w.heap.size + 1 + 1 + 1 + 1 + 1), #[.float .f64 0, .float .f64 0]), ((w.heap.size + 1 + 1 + 1 + 1), #[.float .f64 dl, .float .f64 dh]), ((w.heap.size + 1 + 1 + 1), #[.float .f64 ol, .float .f64 oh]), ((w.heap.size + 1 + 1), #[.float .f64 il, .float .f64 ih]), ((w.heap.size + 1), #[.float .f64 sl, .float .f64 sh]), (w.heap.size, #[.float .f64 rl, .float .f64 rh])] _) := Lib.hid (M.out.set2 3 rfl (.float .f64 0) (.float .f64 0))
  go_wp2
  obtain ⟨f1, f2⟩ := (M.out.nth 3 rfl).two
  exact bodyPost_ret (v := .tuple #[.agg #[.float .f64 0, .float .f64 0], .int .i64 e]) (by simp [results, Tryz.results10, go_sem, f1, f2]) rfl ⟨rfl, M.out.base⟩

set_option maxRecDepth 100000 in
set_option maxHeartbeats 16000000 in
theorem refValue_ok {rl rh sl sh il ih ol oh dl dh al ah bl bh tl th ml mh nl nh xl xh kl kh : Nat} (w : World)
    (c1 : Hid (∀ w, Calls Tryz.prog 16 #[.agg #[.float .f64 rl, .float .f64 rh]] w fun r w' => r = .returned (.bool true) ∧ Below w.heap.size w w'))
    (c2 : Hid (∀ w, Calls Tryz.prog 16 #[.agg #[.float .f64 sl, .float .f64 sh]] w fun r w' => r = .returned (.bool true) ∧ Below w.heap.size w w'))
    (c3 : Hid (∀ w, Calls Tryz.prog 16 #[.agg #[.float .f64 il, .float .f64 ih]] w fun r w' => r = .returned (.bool true) ∧ Below w.heap.size w w'))
    (c4 : Hid (∀ w, Calls Tryz.prog 16 #[.agg #[.float .f64 ol, .float .f64 oh]] w fun r w' => r = .returned (.bool true) ∧ Below w.heap.size w w'))
    (c5 : Hid (∀ w, Calls Tryz.prog 16 #[.agg #[.float .f64 dl, .float .f64 dh]] w fun r w' => r = .returned (.bool true) ∧ Below w.heap.size w w'))
    (c6 : Hid (∀ w, Calls Tryz.prog 17 #[.agg #[.float .f64 rl, .float .f64 rh], .float .f64 0, .float .f64 4607182418800017408] w fun r w' => r = .returned (.bool true) ∧ Below w.heap.size w w'))
    (c7 : Hid (∀ w, Calls Tryz.prog 6 #[.agg #[.float .f64 sl, .float .f64 sh]] w fun r w' => r = .returned (.tuple #[.agg #[.float .f64 al, .float .f64 ah], .agg #[.float .f64 bl, .float .f64 bh], .int .i64 0]) ∧ Below w.heap.size w w'))
    (c8 : Hid (∀ w, Calls Tryz.prog 8 #[.agg #[.float .f64 il, .float .f64 ih], .agg #[.float .f64 ol, .float .f64 oh], .agg #[.float .f64 dl, .float .f64 dh]] w fun r w' => r = .returned (.tuple #[.agg #[.float .f64 tl, .float .f64 th], .int .i64 0]) ∧ Below w.heap.size w w'))
    (d9 : Hid (∀ pb v, Has1 v (pb, #[.int .i64 0]) → Calls Tryz.prog 23 #[.pointer (some ⟨pb, 0, none⟩), .agg #[.float .f64 bl, .float .f64 bh], .agg #[.float .f64 tl, .float .f64 th]] v fun r w' => r = .returned (.agg #[.float .f64 ml, .float .f64 mh]) ∧ Put ⟨pb, 0, none⟩ (.int .i64 0) v w'))
    (d10 : Hid (∀ pb v, Has1 v (pb, #[.int .i64 0]) → Calls Tryz.prog 22 #[.pointer (some ⟨pb, 0, none⟩), .agg #[.float .f64 al, .float .f64 ah], .agg #[.float .f64 ml, .float .f64 mh]] v fun r w' => r = .returned (.agg #[.float .f64 nl, .float .f64 nh]) ∧ Put ⟨pb, 0, none⟩ (.int .i64 0) v w'))
    (d11 : Hid (∀ pb v, Has1 v (pb, #[.int .i64 0]) → Calls Tryz.prog 23 #[.pointer (some ⟨pb, 0, none⟩), .agg #[.float .f64 rl, .float .f64 rh], .agg #[.float .f64 nl, .float .f64 nh]] v fun r w' => r = .returned (.agg #[.float .f64 xl, .float .f64 xh]) ∧ Put ⟨pb, 0, none⟩ (.int .i64 0) v w'))
    (c12 : Hid (∀ w, Calls Tryz.prog 27 #[.agg #[.float .f64 xl, .float .f64 xh], .float .f64 0, .float .f64 4607182418800017408] w fun r w' => r = .returned (.agg #[.float .f64 kl, .float .f64 kh]) ∧ Below w.heap.size w w')) :
    Calls Tryz.prog 10 #[.agg #[.float .f64 rl, .float .f64 rh], .agg #[.float .f64 sl, .float .f64 sh], .agg #[.float .f64 il, .float .f64 ih], .agg #[.float .f64 ol, .float .f64 oh], .agg #[.float .f64 dl, .float .f64 dh]] w fun r w' => r = .returned (.tuple #[.agg #[.float .f64 kl, .float .f64 kh], .int .i64 0]) ∧ Below w.heap.size w w' := by
  have M := Lib.hid (((((((Own.nil w).made #[.float .f64 rl, .float .f64 rh] 24).made #[.float .f64 sl, .float .f64 sh] 24).made #[.float .f64 il, .float .f64 ih] 24).made #[.float .f64 ol, .float .f64 oh] 24).made #[.float .f64 dl, .float .f64 dh] 24).made #[.float .f64 0, .float .f64 0] 24)
  simp only [World.size_alloc] at M
  have eqF := eq_floats
  go_enter Tryz.func10, Tryz.ntmps10
  obtain ⟨k1, k2⟩ := (M.out.nth 5 rfl).two
  go_wp2_with fail
  refine (c1.out _).mono ?_
  rintro r w1_ ⟨rfl, hb⟩
  replace M := Lib.hid (M.out.below hb)
  clear hb
  clear k1 k2
  obtain ⟨k1, k2⟩ := (M.out.nth 4 rfl).two
  go_wp2_with fail
  refine (c2.out _).mono ?_
  rintro r w2_ ⟨rfl, hb⟩
  replace M := Lib.hid (M.out.below hb)
  clear hb
  clear k1 k2
  obtain ⟨k1, k2⟩ := (M.out.nth 3 rfl).two
  go_wp2_with fail
  refine (c3.out _).mono ?_
  rintro r w3_ ⟨rfl, hb⟩
  replace M := Lib.hid (M.out.below hb)
  clear hb
  clear k1 k2
  obtain ⟨k1, k2⟩ := (M.out.nth 2 rfl).two
  go_wp2_with fail
  refine (c4.out _).mono ?_
  rintro r w4_ ⟨rfl, hb⟩
  replace M := Lib.hid (M.out.below hb)
  clear hb
  clear k1 k2
  obtain ⟨k1, k2⟩ := (M.out.nth 1 rfl).two
  go_wp2_with fail
  refine (c5.out _).mono ?_
  rintro r w5_ ⟨rfl, hb⟩
  replace M := Lib.hid (M.out.below hb)
  clear hb
  clear k1 k2
  obtain ⟨k1, k2⟩ := (M.out.nth 5 rfl).two
  go_wp2_with fail
  refine (c6.out _).mono ?_
  rintro r w6_ ⟨rfl, hb⟩
  replace M := Lib.hid (M.out.below hb)
  clear hb
  clear k1 k2
  obtain ⟨k1, k2⟩ := (M.out.nth 4 rfl).two
  go_wp2_with fail
  refine (c7.out _).mono ?_
  rintro r w7_ ⟨rfl, hb⟩
  replace M := Lib.hid (M.out.below hb)
  clear hb
  clear k1 k2
  replace M := Lib.hid (M.out.made #[.float .f64 al, .float .f64 ah] 24)
  replace M := Lib.hid (M.out.made #[.float .f64 bl, .float .f64 bh] 24)
  simp only [World.size_alloc] at M
  obtain ⟨k1, k2⟩ := (M.out.nth 5 rfl).two
  obtain ⟨k3, k4⟩ := (M.out.nth 4 rfl).two
  obtain ⟨k5, k6⟩ := (M.out.nth 3 rfl).two
  go_wp2_with fail
  refine (c8.out _).mono ?_
  rintro r w8_ ⟨rfl, hb⟩
  replace M := Lib.hid (M.out.below hb)
  clear hb
  clear k1 k2 k3 k4 k5 k6
  replace M := Lib.hid (M.out.made #[.float .f64 tl, .float .f64 th] 24)
  replace M := Lib.hid (M.out.made #[.int .i64 0] 52)
  simp only [World.size_alloc] at M
  go_upto_region 12 with fail
  replace M := Lib.hid M.out.drew
  revert M
  generalize ((w8_.alloc (.cells #[.float .f64 tl, .float .f64 th] 24)).alloc (.cells #[.int .i64 0] 52)) = W9_
  intro M
  refine wp_region_noPanic ?_
  refine tails_region (S := fun w' => (w'.cell? ⟨w.heap.size, 0, none⟩ = some (.float .f64 rl) ∧ w'.cell? ⟨w.heap.size, 1, none⟩ = some (.float .f64 rh)) ∧ (w'.cell? ⟨w7_.heap.size, 0, none⟩ = some (.float .f64 al) ∧ w'.cell? ⟨w7_.heap.size, 1, none⟩ = some (.float .f64 ah)) ∧ (w'.cell? ⟨(w7_.heap.size + 1), 0, none⟩ = some (.float .f64 bl) ∧ w'.cell? ⟨(w7_.heap.size + 1), 1, none⟩ = some (.float .f64 bh)) ∧ (w'.cell? ⟨w8_.heap.size, 0, none⟩ = some (.float .f64 tl) ∧ w'.cell? ⟨w8_.heap.size, 1, none⟩ = some (.float .f64 th))) [] (by kernel_rfl) ?_ (fun hS => ?_)
  · exact ⟨(M.out.nth 9 rfl).two, (M.out.nth 3 rfl).two, (M.out.nth 2 rfl).two, (M.out.nth 1 rfl).two⟩
  refine tk (x := ?_) 0 rfl (by kernel_rfl) ⟨by rfl, ?_⟩ (fun _ _ _ h => h) hS ?_
  rotate_left; focus (intro w hSw; (try dsimp only at hSw); go_simp; try with_reducible rfl)
  refine tk (x := ?_) 1 rfl (by kernel_rfl) ⟨by rfl, ?_⟩ (fun _ _ _ h => h) hS ?_
  rotate_left; focus (intro w hSw; (try dsimp only at hSw); go_simp; try with_reducible rfl)
  refine tk (x := ?_) 2 rfl (by kernel_rfl) ⟨by rfl, ?_⟩ (fun _ _ _ h => h) hS ?_
  rotate_left; focus (intro w hSw; (try dsimp only at hSw); go_simp; try with_reducible rfl)
  refine tk (x := ?_) 3 rfl (by kernel_rfl) ⟨by rfl, ?_⟩ (fun _ _ _ h => h) hS ?_
  rotate_left; focus (intro w hSw; (try dsimp only at hSw); go_simp; try with_reducible rfl)
  refine tk (x := ?_) 4 rfl (by kernel_rfl) ⟨by rfl, ?_⟩ (fun _ _ _ h => h) hS ?_
  rotate_left; focus (intro w hSw; (try dsimp only at hSw); go_simp; try with_reducible rfl)
  refine tk (x := ?_) 5 rfl (by kernel_rfl) ⟨by rfl, ?_⟩ (fun _ _ _ h => h) hS ?_
  rotate_left; focus (intro w hSw; (try dsimp only at hSw); go_simp; try with_reducible rfl)
  refine tk (x := ?_) 6 rfl (by kernel_rfl) ⟨by rfl, ?_⟩ (fun _ _ _ h => h) hS ?_
  rotate_left; focus (intro w hSw; (try dsimp only at hSw); go_simp; try with_reducible rfl)
  conv => arg 9; simp only [Act.put, go_sem]
  refine tails_one (T := []) (i := 7) (o := _) rfl (by kernel_rfl) (fun K hK => ?_)
  go_simp
  refine (d9.out _ _ (M.out.nth 0 rfl)).mono ?_
  rintro rr w10_ ⟨rfl, hb⟩
  replace M : Hid (Own w [((w8_.heap.size + 1), #[.int .i64 0]), (w8_.heap.size, #[.float .f64 tl, .float .f64 th]), ((w7_.heap.size + 1), #[.float .f64 bl, .float .f64 bh]), (w7_.heap.size, #[.float .f64 al, .float .f64 ah]), ((w.heap.size + 1 + 1 + 1 + 1 + 1), #[.float .f64 0, .float .f64 0]), ((w.heap.size + 1 + 1 + 1 + 1), #[.float .f64 dl, .float .f64 dh]), ((w.heap.size + 1 + 1 + 1), #[.float .f64 ol, .float .f64 oh]), ((w.heap.size + 1 + 1), #[.float .f64 il, .float .f64 ih]), ((w.heap.size + 1), #[.float .f64 sl, .float .f64 sh]), (w.heap.size, #[.float .f64 rl, .float .f64 rh])] w10_) := Lib.hid (M.out.putAt 0 rfl hb)
  clear hb
  try go_wp2_with fail
  refine hK.out _ _ (Or.inr ⟨(M.out.nth 9 rfl).two, (M.out.nth 3 rfl).two, (M.out.nth 2 rfl).two, (M.out.nth 1 rfl).two⟩) (fun hHeld => ?_)
  clear hK K hHeld
  replace hS := (And.intro (M.out.nth 9 rfl).two (And.intro (M.out.nth 3 rfl).two (And.intro (M.out.nth 2 rfl).two (M.out.nth 1 rfl).two)))
  refine tails_one (T := []) (i := 8) (o := _) rfl (by kernel_rfl) (fun K hK => ?_)
  go_simp
  refine (d10.out _ _ (M.out.nth 0 rfl)).mono ?_
  rintro rr w11_ ⟨rfl, hb⟩
  replace M : Hid (Own w [((w8_.heap.size + 1), #[.int .i64 0]), (w8_.heap.size, #[.float .f64 tl, .float .f64 th]), ((w7_.heap.size + 1), #[.float .f64 bl, .float .f64 bh]), (w7_.heap.size, #[.float .f64 al, .float .f64 ah]), ((w.heap.size + 1 + 1 + 1 + 1 + 1), #[.float .f64 0, .float .f64 0]), ((w.heap.size + 1 + 1 + 1 + 1), #[.float .f64 dl, .float .f64 dh]), ((w.heap.size + 1 + 1 + 1), #[.float .f64 ol, .float .f64 oh]), ((w.heap.size + 1 + 1), #[.float .f64 il, .float .f64 ih]), ((w.heap.size + 1), #[.float .f64 sl, .float .f64 sh]), (w.heap.size, #[.float .f64 rl, .float .f64 rh])] w11_) := Lib.hid (M.out.putAt 0 rfl hb)
  clear hb
  try go_wp2_with fail
  refine hK.out _ _ (Or.inr ⟨(M.out.nth 9 rfl).two, (M.out.nth 3 rfl).two, (M.out.nth 2 rfl).two, (M.out.nth 1 rfl).two⟩) (fun hHeld => ?_)
  clear hK K hHeld
  replace hS := (And.intro (M.out.nth 9 rfl).two (And.intro (M.out.nth 3 rfl).two (And.intro (M.out.nth 2 rfl).two (M.out.nth 1 rfl).two)))
  refine tails_one (T := []) (i := 9) (o := _) rfl (by kernel_rfl) (fun K hK => ?_)
  go_simp
  refine (d11.out _ _ (M.out.nth 0 rfl)).mono ?_
  rintro rr w12_ ⟨rfl, hb⟩
  replace M : Hid (Own w [((w8_.heap.size + 1), #[.int .i64 0]), (w8_.heap.size, #[.float .f64 tl, .float .f64 th]), ((w7_.heap.size + 1), #[.float .f64 bl, .float .f64 bh]), (w7_.heap.size, #[.float .f64 al, .float .f64 ah]), ((w.heap.size + 1 + 1 + 1 + 1 + 1), #[.float .f64 0, .float .f64 0]), ((w.heap.size + 1 + 1 + 1 + 1), #[.float .f64 dl, .float .f64 dh]), ((w.heap.size + 1 + 1 + 1), #[.float .f64 ol, .float .f64 oh]), ((w.heap.size + 1 + 1), #[.float .f64 il, .float .f64 ih]), ((w.heap.size + 1), #[.float .f64 sl, .float .f64 sh]), (w.heap.size, #[.float .f64 rl, .float .f64 rh])] w12_) := Lib.hid (M.out.putAt 0 rfl hb)
  clear hb
  try go_wp2_with fail
  refine hK.out _ _ (Or.inr ⟨(M.out.nth 9 rfl).two, (M.out.nth 3 rfl).two, (M.out.nth 2 rfl).two, (M.out.nth 1 rfl).two⟩) (fun hHeld => ?_)
  clear hK K hHeld
  replace hS := (And.intro (M.out.nth 9 rfl).two (And.intro (M.out.nth 3 rfl).two (And.intro (M.out.nth 2 rfl).two (M.out.nth 1 rfl).two)))
  refine tails_one (T := []) (i := 10) (o := _) rfl (by kernel_rfl) (fun K hK => ?_)
  go_simp
  refine (c12.out _).mono ?_
  rintro rr w13_ ⟨rfl, hb⟩
  replace M := Lib.hid (M.out.below hb)
  clear hb
  try go_wp2_with fail
  refine hK.out _ _ (Or.inr ⟨(M.out.nth 9 rfl).two, (M.out.nth 3 rfl).two, (M.out.nth 2 rfl).two, (M.out.nth 1 rfl).two⟩) (fun hHeld => ?_)
  clear hK K hHeld
  replace hS := (And.intro (M.out.nth 9 rfl).two (And.intro (M.out.nth 3 rfl).two (And.intro (M.out.nth 2 rfl).two (M.out.nth 1 rfl).two)))
  refine tails_one (T := []) (i := 11) (o := _) rfl (by kernel_rfl) (fun K hK => ?_)
  have kc := (M.out.nth 4 rfl).2.1
  have kf := (M.out.nth 4 rfl).2.2
  replace M : Hid (Own w [((w8_.heap.size + 1), #[.int .i64 0]), (w8_.heap.size, #[.float .f64 tl, .float .f64 th]), ((w7_.heap.size + 1), #[.float .f64 bl, .float .f64 bh]), (w7_.heap.size, #[.float .f64 al, .float .f64 ah]), ((w.heap.size + 1 + 1 + 1 + 1 + 1), #[.float .f64 kl, .float .f64 kh]), ((w.heap.size + 1 + 1 + 1 + 1), #[.float .f64 dl, .float .f64 dh]), ((w.heap.size + 1 + 1 + 1), #[.float .f64 ol, .float .f64 oh]), ((w.heap.size + 1 + 1), #[.float .f64 il, .float .f64 ih]), ((w.heap.size + 1), #[.float .f64 sl, .float .f64 sh]), (w.heap.size, #[.float .f64 rl, .float .f64 rh])] _) := Lib.hid (M.out.set2 4 rfl (.float .f64 kl) (.float .f64 kh))
  go_simp
  refine hK.out _ _ (Or.inr ⟨(M.out.nth 9 rfl).two, (M.out.nth 3 rfl).two, (M.out.nth 2 rfl).two, (M.out.nth 1 rfl).two⟩) (fun hHeld => ?_)
  clear hK K hHeld kc kf
  refine tails_one (T := []) (i := 12) (o := _) rfl (by kernel_rfl) (fun K hK => ?_)
  go_simp
  refine hK.out _ _ (Or.inr ⟨(M.out.nth 9 rfl).two, (M.out.nth 3 rfl).two, (M.out.nth 2 rfl).two, (M.out.nth 1 rfl).two⟩) (fun hHeld => ?_)
  clear hK K hHeld
  refine tails_done (by kernel_rfl) ?_ _
  refine NoPanic.normal ?_
  clear hS
  revert M
  generalize ((w13_.setCell ⟨(w.heap.size + 1 + 1 + 1 + 1 + 1), 0, none⟩ (.float .f64 kl)).setCell ⟨(w.heap.size + 1 + 1 + 1 + 1 + 1), 1, none⟩ (.float .f64 kh)) = W14_
  intro M
  go_wp2
  obtain ⟨f1, f2⟩ := (M.out.nth 4 rfl).two
  exact bodyPost_ret (v := .tuple #[.agg #[.float .f64 kl, .float .f64 kh], .int .i64 0]) (by simp [results, Tryz.results10, go_sem, f1, f2]) rfl ⟨rfl, M.out.base⟩

end Go.Proofs.YtoiaefgpegiieaaGreat
