
/- FresnelComplex: the law's walk. -/
import Derived.Test.YtoocmocaelcbkaaLanP
import Derived.Test.YtoocmocaelcbkaaQFD
import Derived.Deep.RegionHeld3
namespace Go.Proofs.Ytoocmocaelcbkaa
open Go.RowKit
attribute [local go_sem] run_store_float

theorem eq_floats (x y : Nat) (w : World) : (Op.equalIn 9999 22 (.float .f64 x) (.float .f64 y)).run Try.prog w = .ok (Op.floatEq .f64 x y) w := by
  have hf := run_underlying Try.underlying22 (w := w)
  show (Op.equalIn (9998 + 1) 22 _ _).run Try.prog w = _
  rw [Op.equalIn]
  simp only [Sem.run_bind, hf, Result.andThen]
  simp [go_sem]

section
variable {P : Program} {ops : Array Oper} {Q : Exit → Act → World → Prop} {md : Region.Mode} {S : World → Prop}
theorem lpx_ccc_1 {a0 : Act} {B v : World} {l : List (Nat × Array Value)} {x : Nat × Array Value} (_ : Hid (Own B (x :: l) v)) {w0 : World} {L0 : Array Bool} (c1 c2 c3 m1 : Nat) (slots : List Nat) (N : Nat) (J : List (Nat × Array Value) → Act → Nat → List (Option Nat) → Act → World → Prop) (hok : latOkP [false, false, false] md ops L0 [c1, c2, c3] [m1] = true)
    (hsl : (slots.all fun s => decide (s < a0.tmps.size)) = true) (h0 : ∀ A : Act, (∀ s, s ∈ slots → s < A.tmps.size) → J l A 0 (List.replicate 1 none) A w0)
    (hS : ∀ k p a w, J l a0 k p a w → S w)
    (k1 : ∀ p a w, J l a0 0 p a w → wpOp P ops Q c1 (fun b v => J l a0 1 p b v) a w)
    (k2 : ∀ p a w, J l a0 1 p a w → wpOp P ops Q c2 (fun b v => J l a0 2 p b v) a w)
    (k3 : ∀ p a w, J l a0 2 p a w → wpOp P ops Q c3 (fun b v => J l a0 3 p b v) a w)
    (n1 : ∀ k p a w, p[0]? = some none → J l a0 k p a w → wpOp P ops Q m1 (fun b v => ∃ q, J l a0 k (p.set 0 (some q)) b v) a w)
    (fin : ∀ q1 a w, J l a0 3 [some q1] a w → wpAnyV P md ops Q S [] N (lstOf L0 [c1, c2, c3] [m1] 3 [true]) a w) :
    wpAnyV P md ops Q S [] (N + 4) L0 a0 w0 := by
  refine latP_from (pl := [false, false, false]) [c1, c2, c3] [m1] slots N 4 (J l) hok rfl hsl h0 hS (fun k i p a w hk hn hJ => ?_) (fun k i p a w hk hn hJ => ?_) (fun k m i p a w hm hp hJ => ?_) (fun p a w hp hall hJ => ?_)
  · rcases k with _ | _ | _ | k
    · obtain rfl : c1 = i := by simpa using hk
      exact k1 p a w hJ
    · obtain rfl : c2 = i := by simpa using hk
      exact k2 p a w hJ
    · obtain rfl : c3 = i := by simpa using hk
      exact k3 p a w hJ
    · simp at hk
  · rcases k with _ | _ | _ | k
    · exact absurd hn (by decide)
    · exact absurd hn (by decide)
    · exact absurd hn (by decide)
    · simp at hk
  · rcases m with _ | m
    · obtain rfl : m1 = i := by simpa using hm
      exact n1 k p a w hp hJ
    · simp at hm
  · obtain ⟨q1, rfl⟩ := fin_one hp hall
    exact fin q1 a w hJ
theorem lpx_ccccc_2 {a0 : Act} {B v : World} {l : List (Nat × Array Value)} {x : Nat × Array Value} (_ : Hid (Own B (x :: l) v)) {w0 : World} {L0 : Array Bool} (c1 c2 c3 c4 c5 m1 m2 : Nat) (slots : List Nat) (N : Nat) (J : List (Nat × Array Value) → Act → Nat → List (Option Nat) → Act → World → Prop) (hok : latOkP [false, false, false, false, false] md ops L0 [c1, c2, c3, c4, c5] [m1, m2] = true)
    (hsl : (slots.all fun s => decide (s < a0.tmps.size)) = true) (h0 : ∀ A : Act, (∀ s, s ∈ slots → s < A.tmps.size) → J l A 0 (List.replicate 2 none) A w0)
    (hS : ∀ k p a w, J l a0 k p a w → S w)
    (k1 : ∀ p a w, J l a0 0 p a w → wpOp P ops Q c1 (fun b v => J l a0 1 p b v) a w)
    (k2 : ∀ p a w, J l a0 1 p a w → wpOp P ops Q c2 (fun b v => J l a0 2 p b v) a w)
    (k3 : ∀ p a w, J l a0 2 p a w → wpOp P ops Q c3 (fun b v => J l a0 3 p b v) a w)
    (k4 : ∀ p a w, J l a0 3 p a w → wpOp P ops Q c4 (fun b v => J l a0 4 p b v) a w)
    (k5 : ∀ p a w, J l a0 4 p a w → wpOp P ops Q c5 (fun b v => J l a0 5 p b v) a w)
    (n1 : ∀ k p a w, p[0]? = some none → J l a0 k p a w → wpOp P ops Q m1 (fun b v => ∃ q, J l a0 k (p.set 0 (some q)) b v) a w)
    (n2 : ∀ k p a w, p[1]? = some none → J l a0 k p a w → wpOp P ops Q m2 (fun b v => ∃ q, J l a0 k (p.set 1 (some q)) b v) a w)
    (fin : ∀ q1 q2 a w, J l a0 5 [some q1, some q2] a w → wpAnyV P md ops Q S [] N (lstOf L0 [c1, c2, c3, c4, c5] [m1, m2] 5 [true, true]) a w) :
    wpAnyV P md ops Q S [] (N + 7) L0 a0 w0 := by
  refine latP_from (pl := [false, false, false, false, false]) [c1, c2, c3, c4, c5] [m1, m2] slots N 7 (J l) hok rfl hsl h0 hS (fun k i p a w hk hn hJ => ?_) (fun k i p a w hk hn hJ => ?_) (fun k m i p a w hm hp hJ => ?_) (fun p a w hp hall hJ => ?_)
  · rcases k with _ | _ | _ | _ | _ | k
    · obtain rfl : c1 = i := by simpa using hk
      exact k1 p a w hJ
    · obtain rfl : c2 = i := by simpa using hk
      exact k2 p a w hJ
    · obtain rfl : c3 = i := by simpa using hk
      exact k3 p a w hJ
    · obtain rfl : c4 = i := by simpa using hk
      exact k4 p a w hJ
    · obtain rfl : c5 = i := by simpa using hk
      exact k5 p a w hJ
    · simp at hk
  · rcases k with _ | _ | _ | _ | _ | k
    · exact absurd hn (by decide)
    · exact absurd hn (by decide)
    · exact absurd hn (by decide)
    · exact absurd hn (by decide)
    · exact absurd hn (by decide)
    · simp at hk
  · rcases m with _ | _ | m
    · obtain rfl : m1 = i := by simpa using hm
      exact n1 k p a w hp hJ
    · obtain rfl : m2 = i := by simpa using hm
      exact n2 k p a w hp hJ
    · simp at hm
  · obtain ⟨q1, q2, rfl⟩ := fin_two hp hall
    exact fin q1 q2 a w hJ
theorem lpx_cccc_1 {a0 : Act} {B v : World} {l : List (Nat × Array Value)} {x : Nat × Array Value} (_ : Hid (Own B (x :: l) v)) {w0 : World} {L0 : Array Bool} (c1 c2 c3 c4 m1 : Nat) (slots : List Nat) (N : Nat) (J : List (Nat × Array Value) → Act → Nat → List (Option Nat) → Act → World → Prop) (hok : latOkP [false, false, false, false] md ops L0 [c1, c2, c3, c4] [m1] = true)
    (hsl : (slots.all fun s => decide (s < a0.tmps.size)) = true) (h0 : ∀ A : Act, (∀ s, s ∈ slots → s < A.tmps.size) → J l A 0 (List.replicate 1 none) A w0)
    (hS : ∀ k p a w, J l a0 k p a w → S w)
    (k1 : ∀ p a w, J l a0 0 p a w → wpOp P ops Q c1 (fun b v => J l a0 1 p b v) a w)
    (k2 : ∀ p a w, J l a0 1 p a w → wpOp P ops Q c2 (fun b v => J l a0 2 p b v) a w)
    (k3 : ∀ p a w, J l a0 2 p a w → wpOp P ops Q c3 (fun b v => J l a0 3 p b v) a w)
    (k4 : ∀ p a w, J l a0 3 p a w → wpOp P ops Q c4 (fun b v => J l a0 4 p b v) a w)
    (n1 : ∀ k p a w, p[0]? = some none → J l a0 k p a w → wpOp P ops Q m1 (fun b v => ∃ q, J l a0 k (p.set 0 (some q)) b v) a w)
    (fin : ∀ q1 a w, J l a0 4 [some q1] a w → wpAnyV P md ops Q S [] N (lstOf L0 [c1, c2, c3, c4] [m1] 4 [true]) a w) :
    wpAnyV P md ops Q S [] (N + 5) L0 a0 w0 := by
  refine latP_from (pl := [false, false, false, false]) [c1, c2, c3, c4] [m1] slots N 5 (J l) hok rfl hsl h0 hS (fun k i p a w hk hn hJ => ?_) (fun k i p a w hk hn hJ => ?_) (fun k m i p a w hm hp hJ => ?_) (fun p a w hp hall hJ => ?_)
  · rcases k with _ | _ | _ | _ | k
    · obtain rfl : c1 = i := by simpa using hk
      exact k1 p a w hJ
    · obtain rfl : c2 = i := by simpa using hk
      exact k2 p a w hJ
    · obtain rfl : c3 = i := by simpa using hk
      exact k3 p a w hJ
    · obtain rfl : c4 = i := by simpa using hk
      exact k4 p a w hJ
    · simp at hk
  · rcases k with _ | _ | _ | _ | k
    · exact absurd hn (by decide)
    · exact absurd hn (by decide)
    · exact absurd hn (by decide)
    · exact absurd hn (by decide)
    · simp at hk
  · rcases m with _ | m
    · obtain rfl : m1 = i := by simpa using hm
      exact n1 k p a w hp hJ
    · simp at hm
  · obtain ⟨q1, rfl⟩ := fin_one hp hall
    exact fin q1 a w hJ
theorem lpx_ccccccccc_1 {a0 : Act} {B v : World} {l : List (Nat × Array Value)} {x : Nat × Array Value} (_ : Hid (Own B (x :: l) v)) {w0 : World} {L0 : Array Bool} (c1 c2 c3 c4 c5 c6 c7 c8 c9 m1 : Nat) (slots : List Nat) (N : Nat) (J : List (Nat × Array Value) → Act → Nat → List (Option Nat) → Act → World → Prop) (hok : latOkP [false, false, false, false, false, false, false, false, false] md ops L0 [c1, c2, c3, c4, c5, c6, c7, c8, c9] [m1] = true)
    (hsl : (slots.all fun s => decide (s < a0.tmps.size)) = true) (h0 : ∀ A : Act, (∀ s, s ∈ slots → s < A.tmps.size) → J l A 0 (List.replicate 1 none) A w0)
    (hS : ∀ k p a w, J l a0 k p a w → S w)
    (k1 : ∀ p a w, J l a0 0 p a w → wpOp P ops Q c1 (fun b v => J l a0 1 p b v) a w)
    (k2 : ∀ p a w, J l a0 1 p a w → wpOp P ops Q c2 (fun b v => J l a0 2 p b v) a w)
    (k3 : ∀ p a w, J l a0 2 p a w → wpOp P ops Q c3 (fun b v => J l a0 3 p b v) a w)
    (k4 : ∀ p a w, J l a0 3 p a w → wpOp P ops Q c4 (fun b v => J l a0 4 p b v) a w)
    (k5 : ∀ p a w, J l a0 4 p a w → wpOp P ops Q c5 (fun b v => J l a0 5 p b v) a w)
    (k6 : ∀ p a w, J l a0 5 p a w → wpOp P ops Q c6 (fun b v => J l a0 6 p b v) a w)
    (k7 : ∀ p a w, J l a0 6 p a w → wpOp P ops Q c7 (fun b v => J l a0 7 p b v) a w)
    (k8 : ∀ p a w, J l a0 7 p a w → wpOp P ops Q c8 (fun b v => J l a0 8 p b v) a w)
    (k9 : ∀ p a w, J l a0 8 p a w → wpOp P ops Q c9 (fun b v => J l a0 9 p b v) a w)
    (n1 : ∀ k p a w, p[0]? = some none → J l a0 k p a w → wpOp P ops Q m1 (fun b v => ∃ q, J l a0 k (p.set 0 (some q)) b v) a w)
    (fin : ∀ q1 a w, J l a0 9 [some q1] a w → wpAnyV P md ops Q S [] N (lstOf L0 [c1, c2, c3, c4, c5, c6, c7, c8, c9] [m1] 9 [true]) a w) :
    wpAnyV P md ops Q S [] (N + 10) L0 a0 w0 := by
  refine latP_from (pl := [false, false, false, false, false, false, false, false, false]) [c1, c2, c3, c4, c5, c6, c7, c8, c9] [m1] slots N 10 (J l) hok rfl hsl h0 hS (fun k i p a w hk hn hJ => ?_) (fun k i p a w hk hn hJ => ?_) (fun k m i p a w hm hp hJ => ?_) (fun p a w hp hall hJ => ?_)
  · rcases k with _ | _ | _ | _ | _ | _ | _ | _ | _ | k
    · obtain rfl : c1 = i := by simpa using hk
      exact k1 p a w hJ
    · obtain rfl : c2 = i := by simpa using hk
      exact k2 p a w hJ
    · obtain rfl : c3 = i := by simpa using hk
      exact k3 p a w hJ
    · obtain rfl : c4 = i := by simpa using hk
      exact k4 p a w hJ
    · obtain rfl : c5 = i := by simpa using hk
      exact k5 p a w hJ
    · obtain rfl : c6 = i := by simpa using hk
      exact k6 p a w hJ
    · obtain rfl : c7 = i := by simpa using hk
      exact k7 p a w hJ
    · obtain rfl : c8 = i := by simpa using hk
      exact k8 p a w hJ
    · obtain rfl : c9 = i := by simpa using hk
      exact k9 p a w hJ
    · simp at hk
  · rcases k with _ | _ | _ | _ | _ | _ | _ | _ | _ | k
    · exact absurd hn (by decide)
    · exact absurd hn (by decide)
    · exact absurd hn (by decide)
    · exact absurd hn (by decide)
    · exact absurd hn (by decide)
    · exact absurd hn (by decide)
    · exact absurd hn (by decide)
    · exact absurd hn (by decide)
    · exact absurd hn (by decide)
    · simp at hk
  · rcases m with _ | m
    · obtain rfl : m1 = i := by simpa using hm
      exact n1 k p a w hp hJ
    · simp at hm
  · obtain ⟨q1, rfl⟩ := fin_one hp hall
    exact fin q1 a w hJ
theorem lpx_cc_2 {a0 : Act} {B v : World} {l : List (Nat × Array Value)} {x : Nat × Array Value} (_ : Hid (Own B (x :: l) v)) {w0 : World} {L0 : Array Bool} (c1 c2 m1 m2 : Nat) (slots : List Nat) (N : Nat) (J : List (Nat × Array Value) → Act → Nat → List (Option Nat) → Act → World → Prop) (hok : latOkP [false, false] md ops L0 [c1, c2] [m1, m2] = true)
    (hsl : (slots.all fun s => decide (s < a0.tmps.size)) = true) (h0 : ∀ A : Act, (∀ s, s ∈ slots → s < A.tmps.size) → J l A 0 (List.replicate 2 none) A w0)
    (hS : ∀ k p a w, J l a0 k p a w → S w)
    (k1 : ∀ p a w, J l a0 0 p a w → wpOp P ops Q c1 (fun b v => J l a0 1 p b v) a w)
    (k2 : ∀ p a w, J l a0 1 p a w → wpOp P ops Q c2 (fun b v => J l a0 2 p b v) a w)
    (n1 : ∀ k p a w, p[0]? = some none → J l a0 k p a w → wpOp P ops Q m1 (fun b v => ∃ q, J l a0 k (p.set 0 (some q)) b v) a w)
    (n2 : ∀ k p a w, p[1]? = some none → J l a0 k p a w → wpOp P ops Q m2 (fun b v => ∃ q, J l a0 k (p.set 1 (some q)) b v) a w)
    (fin : ∀ q1 q2 a w, J l a0 2 [some q1, some q2] a w → wpAnyV P md ops Q S [] N (lstOf L0 [c1, c2] [m1, m2] 2 [true, true]) a w) :
    wpAnyV P md ops Q S [] (N + 4) L0 a0 w0 := by
  refine latP_from (pl := [false, false]) [c1, c2] [m1, m2] slots N 4 (J l) hok rfl hsl h0 hS (fun k i p a w hk hn hJ => ?_) (fun k i p a w hk hn hJ => ?_) (fun k m i p a w hm hp hJ => ?_) (fun p a w hp hall hJ => ?_)
  · rcases k with _ | _ | k
    · obtain rfl : c1 = i := by simpa using hk
      exact k1 p a w hJ
    · obtain rfl : c2 = i := by simpa using hk
      exact k2 p a w hJ
    · simp at hk
  · rcases k with _ | _ | k
    · exact absurd hn (by decide)
    · exact absurd hn (by decide)
    · simp at hk
  · rcases m with _ | _ | m
    · obtain rfl : m1 = i := by simpa using hm
      exact n1 k p a w hp hJ
    · obtain rfl : m2 = i := by simpa using hm
      exact n2 k p a w hp hJ
    · simp at hm
  · obtain ⟨q1, q2, rfl⟩ := fin_two hp hall
    exact fin q1 q2 a w hJ
theorem lpx_ccccccccccc_1 {a0 : Act} {B v : World} {l : List (Nat × Array Value)} {x : Nat × Array Value} (_ : Hid (Own B (x :: l) v)) {w0 : World} {L0 : Array Bool} (c1 c2 c3 c4 c5 c6 c7 c8 c9 c10 c11 m1 : Nat) (slots : List Nat) (N : Nat) (J : List (Nat × Array Value) → Act → Nat → List (Option Nat) → Act → World → Prop) (hok : latOkP [false, false, false, false, false, false, false, false, false, false, false] md ops L0 [c1, c2, c3, c4, c5, c6, c7, c8, c9, c10, c11] [m1] = true)
    (hsl : (slots.all fun s => decide (s < a0.tmps.size)) = true) (h0 : ∀ A : Act, (∀ s, s ∈ slots → s < A.tmps.size) → J l A 0 (List.replicate 1 none) A w0)
    (hS : ∀ k p a w, J l a0 k p a w → S w)
    (k1 : ∀ p a w, J l a0 0 p a w → wpOp P ops Q c1 (fun b v => J l a0 1 p b v) a w)
    (k2 : ∀ p a w, J l a0 1 p a w → wpOp P ops Q c2 (fun b v => J l a0 2 p b v) a w)
    (k3 : ∀ p a w, J l a0 2 p a w → wpOp P ops Q c3 (fun b v => J l a0 3 p b v) a w)
    (k4 : ∀ p a w, J l a0 3 p a w → wpOp P ops Q c4 (fun b v => J l a0 4 p b v) a w)
    (k5 : ∀ p a w, J l a0 4 p a w → wpOp P ops Q c5 (fun b v => J l a0 5 p b v) a w)
    (k6 : ∀ p a w, J l a0 5 p a w → wpOp P ops Q c6 (fun b v => J l a0 6 p b v) a w)
    (k7 : ∀ p a w, J l a0 6 p a w → wpOp P ops Q c7 (fun b v => J l a0 7 p b v) a w)
    (k8 : ∀ p a w, J l a0 7 p a w → wpOp P ops Q c8 (fun b v => J l a0 8 p b v) a w)
    (k9 : ∀ p a w, J l a0 8 p a w → wpOp P ops Q c9 (fun b v => J l a0 9 p b v) a w)
    (k10 : ∀ p a w, J l a0 9 p a w → wpOp P ops Q c10 (fun b v => J l a0 10 p b v) a w)
    (k11 : ∀ p a w, J l a0 10 p a w → wpOp P ops Q c11 (fun b v => J l a0 11 p b v) a w)
    (n1 : ∀ k p a w, p[0]? = some none → J l a0 k p a w → wpOp P ops Q m1 (fun b v => ∃ q, J l a0 k (p.set 0 (some q)) b v) a w)
    (fin : ∀ q1 a w, J l a0 11 [some q1] a w → wpAnyV P md ops Q S [] N (lstOf L0 [c1, c2, c3, c4, c5, c6, c7, c8, c9, c10, c11] [m1] 11 [true]) a w) :
    wpAnyV P md ops Q S [] (N + 12) L0 a0 w0 := by
  refine latP_from (pl := [false, false, false, false, false, false, false, false, false, false, false]) [c1, c2, c3, c4, c5, c6, c7, c8, c9, c10, c11] [m1] slots N 12 (J l) hok rfl hsl h0 hS (fun k i p a w hk hn hJ => ?_) (fun k i p a w hk hn hJ => ?_) (fun k m i p a w hm hp hJ => ?_) (fun p a w hp hall hJ => ?_)
  · rcases k with _ | _ | _ | _ | _ | _ | _ | _ | _ | _ | _ | k
    · obtain rfl : c1 = i := by simpa using hk
      exact k1 p a w hJ
    · obtain rfl : c2 = i := by simpa using hk
      exact k2 p a w hJ
    · obtain rfl : c3 = i := by simpa using hk
      exact k3 p a w hJ
    · obtain rfl : c4 = i := by simpa using hk
      exact k4 p a w hJ
    · obtain rfl : c5 = i := by simpa using hk
      exact k5 p a w hJ
    · obtain rfl : c6 = i := by simpa using hk
      exact k6 p a w hJ
    · obtain rfl : c7 = i := by simpa using hk
      exact k7 p a w hJ
    · obtain rfl : c8 = i := by simpa using hk
      exact k8 p a w hJ
    · obtain rfl : c9 = i := by simpa using hk
      exact k9 p a w hJ
    · obtain rfl : c10 = i := by simpa using hk
      exact k10 p a w hJ
    · obtain rfl : c11 = i := by simpa using hk
      exact k11 p a w hJ
    · simp at hk
  · rcases k with _ | _ | _ | _ | _ | _ | _ | _ | _ | _ | _ | k
    · exact absurd hn (by decide)
    · exact absurd hn (by decide)
    · exact absurd hn (by decide)
    · exact absurd hn (by decide)
    · exact absurd hn (by decide)
    · exact absurd hn (by decide)
    · exact absurd hn (by decide)
    · exact absurd hn (by decide)
    · exact absurd hn (by decide)
    · exact absurd hn (by decide)
    · exact absurd hn (by decide)
    · simp at hk
  · rcases m with _ | m
    · obtain rfl : m1 = i := by simpa using hm
      exact n1 k p a w hp hJ
    · simp at hm
  · obtain ⟨q1, rfl⟩ := fin_one hp hall
    exact fin q1 a w hJ
theorem lpx_cc_1 {a0 : Act} {B v : World} {l : List (Nat × Array Value)} {x : Nat × Array Value} (_ : Hid (Own B (x :: l) v)) {w0 : World} {L0 : Array Bool} (c1 c2 m1 : Nat) (slots : List Nat) (N : Nat) (J : List (Nat × Array Value) → Act → Nat → List (Option Nat) → Act → World → Prop) (hok : latOkP [false, false] md ops L0 [c1, c2] [m1] = true)
    (hsl : (slots.all fun s => decide (s < a0.tmps.size)) = true) (h0 : ∀ A : Act, (∀ s, s ∈ slots → s < A.tmps.size) → J l A 0 (List.replicate 1 none) A w0)
    (hS : ∀ k p a w, J l a0 k p a w → S w)
    (k1 : ∀ p a w, J l a0 0 p a w → wpOp P ops Q c1 (fun b v => J l a0 1 p b v) a w)
    (k2 : ∀ p a w, J l a0 1 p a w → wpOp P ops Q c2 (fun b v => J l a0 2 p b v) a w)
    (n1 : ∀ k p a w, p[0]? = some none → J l a0 k p a w → wpOp P ops Q m1 (fun b v => ∃ q, J l a0 k (p.set 0 (some q)) b v) a w)
    (fin : ∀ q1 a w, J l a0 2 [some q1] a w → wpAnyV P md ops Q S [] N (lstOf L0 [c1, c2] [m1] 2 [true]) a w) :
    wpAnyV P md ops Q S [] (N + 3) L0 a0 w0 := by
  refine latP_from (pl := [false, false]) [c1, c2] [m1] slots N 3 (J l) hok rfl hsl h0 hS (fun k i p a w hk hn hJ => ?_) (fun k i p a w hk hn hJ => ?_) (fun k m i p a w hm hp hJ => ?_) (fun p a w hp hall hJ => ?_)
  · rcases k with _ | _ | k
    · obtain rfl : c1 = i := by simpa using hk
      exact k1 p a w hJ
    · obtain rfl : c2 = i := by simpa using hk
      exact k2 p a w hJ
    · simp at hk
  · rcases k with _ | _ | k
    · exact absurd hn (by decide)
    · exact absurd hn (by decide)
    · simp at hk
  · rcases m with _ | m
    · obtain rfl : m1 = i := by simpa using hm
      exact n1 k p a w hp hJ
    · simp at hm
  · obtain ⟨q1, rfl⟩ := fin_one hp hall
    exact fin q1 a w hJ
end

/-- Region 8. -/
def fcJ8 (w : World) (pb : Nat) (al ah bl bh : Nat) (l : RowL) (a0 : Act) (k : Nat) (p : List (Option Nat)) (a : Act) (v : World) : Prop :=
  ∃ y1 y2 y3 z1 : Value, a = ((((a0.put (some 70) y1).put (some 73) y2).put (some 74) y3).put (some 15) z1) ∧ (0 < k → y1 = .agg #[.float .f64 4607182418800017408, .float .f64 4607182418800017408]) ∧ (1 < k → y2 = .agg #[.float .f64 al, .float .f64 ah]) ∧ (2 < k → y3 = .agg #[.float .f64 bl, .float .f64 bh]) ∧ (∀ q, p[0]? = some (some q) → z1 = .pointer (some ⟨q, 0, none⟩)) ∧ OwnF w ((pb, #[.int .i64 0]) :: l) [#[.float .f64 0, .float .f64 0]] p v
section
variable {w v : World} {pb : Nat} {al ah bl bh : Nat} {l : RowL} {a0 a : Act} {p : List (Option Nat)}
theorem fcJ8_0 (h : fcJ8 w pb al ah bl bh l a0 0 p a v) : ∃ y1 y2 y3 z1 : Value, a = ((((a0.put (some 70) y1).put (some 73) y2).put (some 74) y3).put (some 15) z1) ∧ (∀ q, p[0]? = some (some q) → z1 = .pointer (some ⟨q, 0, none⟩)) ∧ OwnF w ((pb, #[.int .i64 0]) :: l) [#[.float .f64 0, .float .f64 0]] p v := by
  obtain ⟨y1, y2, y3, z1, ha, E1, E2, E3, G1, h⟩ := h
  exact ⟨y1, y2, y3, z1, ha, G1, h⟩
theorem fcJ8_1 (h : fcJ8 w pb al ah bl bh l a0 1 p a v) : ∃ y2 y3 z1 : Value, a = ((((a0.put (some 70) (.agg #[.float .f64 4607182418800017408, .float .f64 4607182418800017408])).put (some 73) y2).put (some 74) y3).put (some 15) z1) ∧ (∀ q, p[0]? = some (some q) → z1 = .pointer (some ⟨q, 0, none⟩)) ∧ OwnF w ((pb, #[.int .i64 0]) :: l) [#[.float .f64 0, .float .f64 0]] p v := by
  obtain ⟨y1, y2, y3, z1, ha, E1, E2, E3, G1, h⟩ := h
  obtain rfl := E1 (by decide)
  exact ⟨y2, y3, z1, ha, G1, h⟩
theorem fcJ8_2 (h : fcJ8 w pb al ah bl bh l a0 2 p a v) : ∃ y3 z1 : Value, a = ((((a0.put (some 70) (.agg #[.float .f64 4607182418800017408, .float .f64 4607182418800017408])).put (some 73) (.agg #[.float .f64 al, .float .f64 ah])).put (some 74) y3).put (some 15) z1) ∧ (∀ q, p[0]? = some (some q) → z1 = .pointer (some ⟨q, 0, none⟩)) ∧ OwnF w ((pb, #[.int .i64 0]) :: l) [#[.float .f64 0, .float .f64 0]] p v := by
  obtain ⟨y1, y2, y3, z1, ha, E1, E2, E3, G1, h⟩ := h
  obtain rfl := E1 (by decide)
  obtain rfl := E2 (by decide)
  exact ⟨y3, z1, ha, G1, h⟩
theorem fcJ8_fin {q1 : Nat} (h : fcJ8 w pb al ah bl bh l a0 3 [some q1] a v) : a = ((((a0.put (some 70) (.agg #[.float .f64 4607182418800017408, .float .f64 4607182418800017408])).put (some 73) (.agg #[.float .f64 al, .float .f64 ah])).put (some 74) (.agg #[.float .f64 bl, .float .f64 bh])).put (some 15) (.pointer (some ⟨q1, 0, none⟩))) ∧ OwnF w ((pb, #[.int .i64 0]) :: l) [#[.float .f64 0, .float .f64 0]] [some q1] v := by
  obtain ⟨y1, y2, y3, z1, ha, E1, E2, E3, G1, h⟩ := h
  obtain rfl := E1 (by decide)
  obtain rfl := E2 (by decide)
  obtain rfl := E3 (by decide)
  obtain rfl := G1 _ rfl
  exact ⟨ha, h⟩
end

/-- Region 9. -/
def fcJ9 (w : World) (pb : Nat) (dl dh gl gh il ih jl jh kl kh : Nat) (l : RowL) (a0 : Act) (k : Nat) (p : List (Option Nat)) (a : Act) (v : World) : Prop :=
  ∃ y1 y2 y3 y4 y5 z1 z2 : Value, a = (((((((a0.put (some 78) y1).put (some 81) y2).put (some 82) y3).put (some 88) y4).put (some 89) y5).put (some 16) z1).put (some 17) z2) ∧ (0 < k → y1 = .agg #[.float .f64 dl, .float .f64 dh]) ∧ (1 < k → y2 = .agg #[.float .f64 gl, .float .f64 gh]) ∧ (2 < k → y3 = .agg #[.float .f64 il, .float .f64 ih]) ∧ (3 < k → y4 = .agg #[.float .f64 jl, .float .f64 jh]) ∧ (4 < k → y5 = .agg #[.float .f64 kl, .float .f64 kh]) ∧ (∀ q, p[0]? = some (some q) → z1 = .pointer (some ⟨q, 0, none⟩)) ∧ (∀ q, p[1]? = some (some q) → z2 = .pointer (some ⟨q, 0, none⟩)) ∧ OwnF w ((pb, #[.int .i64 0]) :: l) [#[.float .f64 0, .float .f64 0], #[.float .f64 0, .float .f64 0]] p v
section
variable {w v : World} {pb : Nat} {dl dh gl gh il ih jl jh kl kh : Nat} {l : RowL} {a0 a : Act} {p : List (Option Nat)}
theorem fcJ9_0 (h : fcJ9 w pb dl dh gl gh il ih jl jh kl kh l a0 0 p a v) : ∃ y1 y2 y3 y4 y5 z1 z2 : Value, a = (((((((a0.put (some 78) y1).put (some 81) y2).put (some 82) y3).put (some 88) y4).put (some 89) y5).put (some 16) z1).put (some 17) z2) ∧ (∀ q, p[0]? = some (some q) → z1 = .pointer (some ⟨q, 0, none⟩)) ∧ (∀ q, p[1]? = some (some q) → z2 = .pointer (some ⟨q, 0, none⟩)) ∧ OwnF w ((pb, #[.int .i64 0]) :: l) [#[.float .f64 0, .float .f64 0], #[.float .f64 0, .float .f64 0]] p v := by
  obtain ⟨y1, y2, y3, y4, y5, z1, z2, ha, E1, E2, E3, E4, E5, G1, G2, h⟩ := h
  exact ⟨y1, y2, y3, y4, y5, z1, z2, ha, G1, G2, h⟩
theorem fcJ9_1 (h : fcJ9 w pb dl dh gl gh il ih jl jh kl kh l a0 1 p a v) : ∃ y2 y3 y4 y5 z1 z2 : Value, a = (((((((a0.put (some 78) (.agg #[.float .f64 dl, .float .f64 dh])).put (some 81) y2).put (some 82) y3).put (some 88) y4).put (some 89) y5).put (some 16) z1).put (some 17) z2) ∧ (∀ q, p[0]? = some (some q) → z1 = .pointer (some ⟨q, 0, none⟩)) ∧ (∀ q, p[1]? = some (some q) → z2 = .pointer (some ⟨q, 0, none⟩)) ∧ OwnF w ((pb, #[.int .i64 0]) :: l) [#[.float .f64 0, .float .f64 0], #[.float .f64 0, .float .f64 0]] p v := by
  obtain ⟨y1, y2, y3, y4, y5, z1, z2, ha, E1, E2, E3, E4, E5, G1, G2, h⟩ := h
  obtain rfl := E1 (by decide)
  exact ⟨y2, y3, y4, y5, z1, z2, ha, G1, G2, h⟩
theorem fcJ9_2 (h : fcJ9 w pb dl dh gl gh il ih jl jh kl kh l a0 2 p a v) : ∃ y3 y4 y5 z1 z2 : Value, a = (((((((a0.put (some 78) (.agg #[.float .f64 dl, .float .f64 dh])).put (some 81) (.agg #[.float .f64 gl, .float .f64 gh])).put (some 82) y3).put (some 88) y4).put (some 89) y5).put (some 16) z1).put (some 17) z2) ∧ (∀ q, p[0]? = some (some q) → z1 = .pointer (some ⟨q, 0, none⟩)) ∧ (∀ q, p[1]? = some (some q) → z2 = .pointer (some ⟨q, 0, none⟩)) ∧ OwnF w ((pb, #[.int .i64 0]) :: l) [#[.float .f64 0, .float .f64 0], #[.float .f64 0, .float .f64 0]] p v := by
  obtain ⟨y1, y2, y3, y4, y5, z1, z2, ha, E1, E2, E3, E4, E5, G1, G2, h⟩ := h
  obtain rfl := E1 (by decide)
  obtain rfl := E2 (by decide)
  exact ⟨y3, y4, y5, z1, z2, ha, G1, G2, h⟩
theorem fcJ9_3 (h : fcJ9 w pb dl dh gl gh il ih jl jh kl kh l a0 3 p a v) : ∃ y4 y5 z1 z2 : Value, a = (((((((a0.put (some 78) (.agg #[.float .f64 dl, .float .f64 dh])).put (some 81) (.agg #[.float .f64 gl, .float .f64 gh])).put (some 82) (.agg #[.float .f64 il, .float .f64 ih])).put (some 88) y4).put (some 89) y5).put (some 16) z1).put (some 17) z2) ∧ (∀ q, p[0]? = some (some q) → z1 = .pointer (some ⟨q, 0, none⟩)) ∧ (∀ q, p[1]? = some (some q) → z2 = .pointer (some ⟨q, 0, none⟩)) ∧ OwnF w ((pb, #[.int .i64 0]) :: l) [#[.float .f64 0, .float .f64 0], #[.float .f64 0, .float .f64 0]] p v := by
  obtain ⟨y1, y2, y3, y4, y5, z1, z2, ha, E1, E2, E3, E4, E5, G1, G2, h⟩ := h
  obtain rfl := E1 (by decide)
  obtain rfl := E2 (by decide)
  obtain rfl := E3 (by decide)
  exact ⟨y4, y5, z1, z2, ha, G1, G2, h⟩
theorem fcJ9_4 (h : fcJ9 w pb dl dh gl gh il ih jl jh kl kh l a0 4 p a v) : ∃ y5 z1 z2 : Value, a = (((((((a0.put (some 78) (.agg #[.float .f64 dl, .float .f64 dh])).put (some 81) (.agg #[.float .f64 gl, .float .f64 gh])).put (some 82) (.agg #[.float .f64 il, .float .f64 ih])).put (some 88) (.agg #[.float .f64 jl, .float .f64 jh])).put (some 89) y5).put (some 16) z1).put (some 17) z2) ∧ (∀ q, p[0]? = some (some q) → z1 = .pointer (some ⟨q, 0, none⟩)) ∧ (∀ q, p[1]? = some (some q) → z2 = .pointer (some ⟨q, 0, none⟩)) ∧ OwnF w ((pb, #[.int .i64 0]) :: l) [#[.float .f64 0, .float .f64 0], #[.float .f64 0, .float .f64 0]] p v := by
  obtain ⟨y1, y2, y3, y4, y5, z1, z2, ha, E1, E2, E3, E4, E5, G1, G2, h⟩ := h
  obtain rfl := E1 (by decide)
  obtain rfl := E2 (by decide)
  obtain rfl := E3 (by decide)
  obtain rfl := E4 (by decide)
  exact ⟨y5, z1, z2, ha, G1, G2, h⟩
theorem fcJ9_fin {q1 q2 : Nat} (h : fcJ9 w pb dl dh gl gh il ih jl jh kl kh l a0 5 [some q1, some q2] a v) : a = (((((((a0.put (some 78) (.agg #[.float .f64 dl, .float .f64 dh])).put (some 81) (.agg #[.float .f64 gl, .float .f64 gh])).put (some 82) (.agg #[.float .f64 il, .float .f64 ih])).put (some 88) (.agg #[.float .f64 jl, .float .f64 jh])).put (some 89) (.agg #[.float .f64 kl, .float .f64 kh])).put (some 16) (.pointer (some ⟨q1, 0, none⟩))).put (some 17) (.pointer (some ⟨q2, 0, none⟩))) ∧ OwnF w ((pb, #[.int .i64 0]) :: l) [#[.float .f64 0, .float .f64 0], #[.float .f64 0, .float .f64 0]] [some q1, some q2] v := by
  obtain ⟨y1, y2, y3, y4, y5, z1, z2, ha, E1, E2, E3, E4, E5, G1, G2, h⟩ := h
  obtain rfl := E1 (by decide)
  obtain rfl := E2 (by decide)
  obtain rfl := E3 (by decide)
  obtain rfl := E4 (by decide)
  obtain rfl := E5 (by decide)
  obtain rfl := G1 _ rfl
  obtain rfl := G2 _ rfl
  exact ⟨ha, h⟩
end

/-- Region 11. -/
def fcJ11 (w : World) (pb : Nat) (ml mh nl nh ol oh ql qh : Nat) (l : RowL) (a0 : Act) (k : Nat) (p : List (Option Nat)) (a : Act) (v : World) : Prop :=
  ∃ y1 y2 y3 y4 z1 : Value, a = (((((a0.put (some 98) y1).put (some 101) y2).put (some 102) y3).put (some 103) y4).put (some 19) z1) ∧ (0 < k → y1 = .agg #[.float .f64 ml, .float .f64 mh]) ∧ (1 < k → y2 = .agg #[.float .f64 nl, .float .f64 nh]) ∧ (2 < k → y3 = .agg #[.float .f64 ol, .float .f64 oh]) ∧ (3 < k → y4 = .agg #[.float .f64 ql, .float .f64 qh]) ∧ (∀ q, p[0]? = some (some q) → z1 = .pointer (some ⟨q, 0, none⟩)) ∧ OwnF w ((pb, #[.int .i64 0]) :: l) [#[.float .f64 0, .float .f64 0]] p v
section
variable {w v : World} {pb : Nat} {ml mh nl nh ol oh ql qh : Nat} {l : RowL} {a0 a : Act} {p : List (Option Nat)}
theorem fcJ11_0 (h : fcJ11 w pb ml mh nl nh ol oh ql qh l a0 0 p a v) : ∃ y1 y2 y3 y4 z1 : Value, a = (((((a0.put (some 98) y1).put (some 101) y2).put (some 102) y3).put (some 103) y4).put (some 19) z1) ∧ (∀ q, p[0]? = some (some q) → z1 = .pointer (some ⟨q, 0, none⟩)) ∧ OwnF w ((pb, #[.int .i64 0]) :: l) [#[.float .f64 0, .float .f64 0]] p v := by
  obtain ⟨y1, y2, y3, y4, z1, ha, E1, E2, E3, E4, G1, h⟩ := h
  exact ⟨y1, y2, y3, y4, z1, ha, G1, h⟩
theorem fcJ11_1 (h : fcJ11 w pb ml mh nl nh ol oh ql qh l a0 1 p a v) : ∃ y2 y3 y4 z1 : Value, a = (((((a0.put (some 98) (.agg #[.float .f64 ml, .float .f64 mh])).put (some 101) y2).put (some 102) y3).put (some 103) y4).put (some 19) z1) ∧ (∀ q, p[0]? = some (some q) → z1 = .pointer (some ⟨q, 0, none⟩)) ∧ OwnF w ((pb, #[.int .i64 0]) :: l) [#[.float .f64 0, .float .f64 0]] p v := by
  obtain ⟨y1, y2, y3, y4, z1, ha, E1, E2, E3, E4, G1, h⟩ := h
  obtain rfl := E1 (by decide)
  exact ⟨y2, y3, y4, z1, ha, G1, h⟩
theorem fcJ11_2 (h : fcJ11 w pb ml mh nl nh ol oh ql qh l a0 2 p a v) : ∃ y3 y4 z1 : Value, a = (((((a0.put (some 98) (.agg #[.float .f64 ml, .float .f64 mh])).put (some 101) (.agg #[.float .f64 nl, .float .f64 nh])).put (some 102) y3).put (some 103) y4).put (some 19) z1) ∧ (∀ q, p[0]? = some (some q) → z1 = .pointer (some ⟨q, 0, none⟩)) ∧ OwnF w ((pb, #[.int .i64 0]) :: l) [#[.float .f64 0, .float .f64 0]] p v := by
  obtain ⟨y1, y2, y3, y4, z1, ha, E1, E2, E3, E4, G1, h⟩ := h
  obtain rfl := E1 (by decide)
  obtain rfl := E2 (by decide)
  exact ⟨y3, y4, z1, ha, G1, h⟩
theorem fcJ11_3 (h : fcJ11 w pb ml mh nl nh ol oh ql qh l a0 3 p a v) : ∃ y4 z1 : Value, a = (((((a0.put (some 98) (.agg #[.float .f64 ml, .float .f64 mh])).put (some 101) (.agg #[.float .f64 nl, .float .f64 nh])).put (some 102) (.agg #[.float .f64 ol, .float .f64 oh])).put (some 103) y4).put (some 19) z1) ∧ (∀ q, p[0]? = some (some q) → z1 = .pointer (some ⟨q, 0, none⟩)) ∧ OwnF w ((pb, #[.int .i64 0]) :: l) [#[.float .f64 0, .float .f64 0]] p v := by
  obtain ⟨y1, y2, y3, y4, z1, ha, E1, E2, E3, E4, G1, h⟩ := h
  obtain rfl := E1 (by decide)
  obtain rfl := E2 (by decide)
  obtain rfl := E3 (by decide)
  exact ⟨y4, z1, ha, G1, h⟩
theorem fcJ11_fin {q1 : Nat} (h : fcJ11 w pb ml mh nl nh ol oh ql qh l a0 4 [some q1] a v) : a = (((((a0.put (some 98) (.agg #[.float .f64 ml, .float .f64 mh])).put (some 101) (.agg #[.float .f64 nl, .float .f64 nh])).put (some 102) (.agg #[.float .f64 ol, .float .f64 oh])).put (some 103) (.agg #[.float .f64 ql, .float .f64 qh])).put (some 19) (.pointer (some ⟨q1, 0, none⟩))) ∧ OwnF w ((pb, #[.int .i64 0]) :: l) [#[.float .f64 0, .float .f64 0]] [some q1] v := by
  obtain ⟨y1, y2, y3, y4, z1, ha, E1, E2, E3, E4, G1, h⟩ := h
  obtain rfl := E1 (by decide)
  obtain rfl := E2 (by decide)
  obtain rfl := E3 (by decide)
  obtain rfl := E4 (by decide)
  obtain rfl := G1 _ rfl
  exact ⟨ha, h⟩
end

/-- Region 12. -/
def fcJ12 (w : World) (pb : Nat) (rl rh sl sh tl th ul uh : Nat) (l : RowL) (a0 : Act) (k : Nat) (p : List (Option Nat)) (a : Act) (v : World) : Prop :=
  ∃ y1 y2 y3 y4 z1 : Value, a = (((((a0.put (some 110) y1).put (some 112) y2).put (some 114) y3).put (some 115) y4).put (some 20) z1) ∧ (0 < k → y1 = .agg #[.float .f64 rl, .float .f64 rh]) ∧ (1 < k → y2 = .agg #[.float .f64 sl, .float .f64 sh]) ∧ (2 < k → y3 = .agg #[.float .f64 tl, .float .f64 th]) ∧ (3 < k → y4 = .agg #[.float .f64 ul, .float .f64 uh]) ∧ (∀ q, p[0]? = some (some q) → z1 = .pointer (some ⟨q, 0, none⟩)) ∧ OwnF w ((pb, #[.int .i64 0]) :: l) [#[.float .f64 0, .float .f64 0]] p v
section
variable {w v : World} {pb : Nat} {rl rh sl sh tl th ul uh : Nat} {l : RowL} {a0 a : Act} {p : List (Option Nat)}
theorem fcJ12_0 (h : fcJ12 w pb rl rh sl sh tl th ul uh l a0 0 p a v) : ∃ y1 y2 y3 y4 z1 : Value, a = (((((a0.put (some 110) y1).put (some 112) y2).put (some 114) y3).put (some 115) y4).put (some 20) z1) ∧ (∀ q, p[0]? = some (some q) → z1 = .pointer (some ⟨q, 0, none⟩)) ∧ OwnF w ((pb, #[.int .i64 0]) :: l) [#[.float .f64 0, .float .f64 0]] p v := by
  obtain ⟨y1, y2, y3, y4, z1, ha, E1, E2, E3, E4, G1, h⟩ := h
  exact ⟨y1, y2, y3, y4, z1, ha, G1, h⟩
theorem fcJ12_1 (h : fcJ12 w pb rl rh sl sh tl th ul uh l a0 1 p a v) : ∃ y2 y3 y4 z1 : Value, a = (((((a0.put (some 110) (.agg #[.float .f64 rl, .float .f64 rh])).put (some 112) y2).put (some 114) y3).put (some 115) y4).put (some 20) z1) ∧ (∀ q, p[0]? = some (some q) → z1 = .pointer (some ⟨q, 0, none⟩)) ∧ OwnF w ((pb, #[.int .i64 0]) :: l) [#[.float .f64 0, .float .f64 0]] p v := by
  obtain ⟨y1, y2, y3, y4, z1, ha, E1, E2, E3, E4, G1, h⟩ := h
  obtain rfl := E1 (by decide)
  exact ⟨y2, y3, y4, z1, ha, G1, h⟩
theorem fcJ12_2 (h : fcJ12 w pb rl rh sl sh tl th ul uh l a0 2 p a v) : ∃ y3 y4 z1 : Value, a = (((((a0.put (some 110) (.agg #[.float .f64 rl, .float .f64 rh])).put (some 112) (.agg #[.float .f64 sl, .float .f64 sh])).put (some 114) y3).put (some 115) y4).put (some 20) z1) ∧ (∀ q, p[0]? = some (some q) → z1 = .pointer (some ⟨q, 0, none⟩)) ∧ OwnF w ((pb, #[.int .i64 0]) :: l) [#[.float .f64 0, .float .f64 0]] p v := by
  obtain ⟨y1, y2, y3, y4, z1, ha, E1, E2, E3, E4, G1, h⟩ := h
  obtain rfl := E1 (by decide)
  obtain rfl := E2 (by decide)
  exact ⟨y3, y4, z1, ha, G1, h⟩
theorem fcJ12_3 (h : fcJ12 w pb rl rh sl sh tl th ul uh l a0 3 p a v) : ∃ y4 z1 : Value, a = (((((a0.put (some 110) (.agg #[.float .f64 rl, .float .f64 rh])).put (some 112) (.agg #[.float .f64 sl, .float .f64 sh])).put (some 114) (.agg #[.float .f64 tl, .float .f64 th])).put (some 115) y4).put (some 20) z1) ∧ (∀ q, p[0]? = some (some q) → z1 = .pointer (some ⟨q, 0, none⟩)) ∧ OwnF w ((pb, #[.int .i64 0]) :: l) [#[.float .f64 0, .float .f64 0]] p v := by
  obtain ⟨y1, y2, y3, y4, z1, ha, E1, E2, E3, E4, G1, h⟩ := h
  obtain rfl := E1 (by decide)
  obtain rfl := E2 (by decide)
  obtain rfl := E3 (by decide)
  exact ⟨y4, z1, ha, G1, h⟩
theorem fcJ12_fin {q1 : Nat} (h : fcJ12 w pb rl rh sl sh tl th ul uh l a0 4 [some q1] a v) : a = (((((a0.put (some 110) (.agg #[.float .f64 rl, .float .f64 rh])).put (some 112) (.agg #[.float .f64 sl, .float .f64 sh])).put (some 114) (.agg #[.float .f64 tl, .float .f64 th])).put (some 115) (.agg #[.float .f64 ul, .float .f64 uh])).put (some 20) (.pointer (some ⟨q1, 0, none⟩))) ∧ OwnF w ((pb, #[.int .i64 0]) :: l) [#[.float .f64 0, .float .f64 0]] [some q1] v := by
  obtain ⟨y1, y2, y3, y4, z1, ha, E1, E2, E3, E4, G1, h⟩ := h
  obtain rfl := E1 (by decide)
  obtain rfl := E2 (by decide)
  obtain rfl := E3 (by decide)
  obtain rfl := E4 (by decide)
  obtain rfl := G1 _ rfl
  exact ⟨ha, h⟩
end

/-- Region 13. -/
def fcJ13 (w : World) (pb : Nat) (vl vh xl xh yl yh zl zh : Nat) (l : RowL) (a0 : Act) (k : Nat) (p : List (Option Nat)) (a : Act) (v : World) : Prop :=
  ∃ y1 y2 y3 y4 z1 : Value, a = (((((a0.put (some 122) y1).put (some 124) y2).put (some 126) y3).put (some 127) y4).put (some 21) z1) ∧ (0 < k → y1 = .agg #[.float .f64 vl, .float .f64 vh]) ∧ (1 < k → y2 = .agg #[.float .f64 xl, .float .f64 xh]) ∧ (2 < k → y3 = .agg #[.float .f64 yl, .float .f64 yh]) ∧ (3 < k → y4 = .agg #[.float .f64 zl, .float .f64 zh]) ∧ (∀ q, p[0]? = some (some q) → z1 = .pointer (some ⟨q, 0, none⟩)) ∧ OwnF w ((pb, #[.int .i64 0]) :: l) [#[.float .f64 0, .float .f64 0]] p v
section
variable {w v : World} {pb : Nat} {vl vh xl xh yl yh zl zh : Nat} {l : RowL} {a0 a : Act} {p : List (Option Nat)}
theorem fcJ13_0 (h : fcJ13 w pb vl vh xl xh yl yh zl zh l a0 0 p a v) : ∃ y1 y2 y3 y4 z1 : Value, a = (((((a0.put (some 122) y1).put (some 124) y2).put (some 126) y3).put (some 127) y4).put (some 21) z1) ∧ (∀ q, p[0]? = some (some q) → z1 = .pointer (some ⟨q, 0, none⟩)) ∧ OwnF w ((pb, #[.int .i64 0]) :: l) [#[.float .f64 0, .float .f64 0]] p v := by
  obtain ⟨y1, y2, y3, y4, z1, ha, E1, E2, E3, E4, G1, h⟩ := h
  exact ⟨y1, y2, y3, y4, z1, ha, G1, h⟩
theorem fcJ13_1 (h : fcJ13 w pb vl vh xl xh yl yh zl zh l a0 1 p a v) : ∃ y2 y3 y4 z1 : Value, a = (((((a0.put (some 122) (.agg #[.float .f64 vl, .float .f64 vh])).put (some 124) y2).put (some 126) y3).put (some 127) y4).put (some 21) z1) ∧ (∀ q, p[0]? = some (some q) → z1 = .pointer (some ⟨q, 0, none⟩)) ∧ OwnF w ((pb, #[.int .i64 0]) :: l) [#[.float .f64 0, .float .f64 0]] p v := by
  obtain ⟨y1, y2, y3, y4, z1, ha, E1, E2, E3, E4, G1, h⟩ := h
  obtain rfl := E1 (by decide)
  exact ⟨y2, y3, y4, z1, ha, G1, h⟩
theorem fcJ13_2 (h : fcJ13 w pb vl vh xl xh yl yh zl zh l a0 2 p a v) : ∃ y3 y4 z1 : Value, a = (((((a0.put (some 122) (.agg #[.float .f64 vl, .float .f64 vh])).put (some 124) (.agg #[.float .f64 xl, .float .f64 xh])).put (some 126) y3).put (some 127) y4).put (some 21) z1) ∧ (∀ q, p[0]? = some (some q) → z1 = .pointer (some ⟨q, 0, none⟩)) ∧ OwnF w ((pb, #[.int .i64 0]) :: l) [#[.float .f64 0, .float .f64 0]] p v := by
  obtain ⟨y1, y2, y3, y4, z1, ha, E1, E2, E3, E4, G1, h⟩ := h
  obtain rfl := E1 (by decide)
  obtain rfl := E2 (by decide)
  exact ⟨y3, y4, z1, ha, G1, h⟩
theorem fcJ13_3 (h : fcJ13 w pb vl vh xl xh yl yh zl zh l a0 3 p a v) : ∃ y4 z1 : Value, a = (((((a0.put (some 122) (.agg #[.float .f64 vl, .float .f64 vh])).put (some 124) (.agg #[.float .f64 xl, .float .f64 xh])).put (some 126) (.agg #[.float .f64 yl, .float .f64 yh])).put (some 127) y4).put (some 21) z1) ∧ (∀ q, p[0]? = some (some q) → z1 = .pointer (some ⟨q, 0, none⟩)) ∧ OwnF w ((pb, #[.int .i64 0]) :: l) [#[.float .f64 0, .float .f64 0]] p v := by
  obtain ⟨y1, y2, y3, y4, z1, ha, E1, E2, E3, E4, G1, h⟩ := h
  obtain rfl := E1 (by decide)
  obtain rfl := E2 (by decide)
  obtain rfl := E3 (by decide)
  exact ⟨y4, z1, ha, G1, h⟩
theorem fcJ13_fin {q1 : Nat} (h : fcJ13 w pb vl vh xl xh yl yh zl zh l a0 4 [some q1] a v) : a = (((((a0.put (some 122) (.agg #[.float .f64 vl, .float .f64 vh])).put (some 124) (.agg #[.float .f64 xl, .float .f64 xh])).put (some 126) (.agg #[.float .f64 yl, .float .f64 yh])).put (some 127) (.agg #[.float .f64 zl, .float .f64 zh])).put (some 21) (.pointer (some ⟨q1, 0, none⟩))) ∧ OwnF w ((pb, #[.int .i64 0]) :: l) [#[.float .f64 0, .float .f64 0]] [some q1] v := by
  obtain ⟨y1, y2, y3, y4, z1, ha, E1, E2, E3, E4, G1, h⟩ := h
  obtain rfl := E1 (by decide)
  obtain rfl := E2 (by decide)
  obtain rfl := E3 (by decide)
  obtain rfl := E4 (by decide)
  obtain rfl := G1 _ rfl
  exact ⟨ha, h⟩
end

/-- Region 14. -/
def fcJ14 (w : World) (pb : Nat) (cal cah cbl cbh ccl cch cdl cdh cel ceh cfl cfh cgl cgh chl chh : Nat) (l : RowL) (a0 : Act) (k : Nat) (p : List (Option Nat)) (a : Act) (v : World) : Prop :=
  ∃ y1 y2 y3 y4 y5 y6 y7 y8 y9 z1 : Value, a = ((((((((((a0.put (some 134) y1).put (some 135) y2).put (some 138) y3).put (some 139) y4).put (some 145) y5).put (some 146) y6).put (some 149) y7).put (some 150) y8).put (some 151) y9).put (some 22) z1) ∧ (0 < k → y1 = .agg #[.float .f64 cal, .float .f64 cah]) ∧ (1 < k → y2 = .agg #[.float .f64 cbl, .float .f64 cbh]) ∧ (2 < k → y3 = .agg #[.float .f64 ccl, .float .f64 cch]) ∧ (3 < k → y4 = .agg #[.float .f64 cdl, .float .f64 cdh]) ∧ (4 < k → y5 = .agg #[.float .f64 cel, .float .f64 ceh]) ∧ (5 < k → y6 = .agg #[.float .f64 cfl, .float .f64 cfh]) ∧ (6 < k → y7 = .agg #[.float .f64 ccl, .float .f64 cch]) ∧ (7 < k → y8 = .agg #[.float .f64 cgl, .float .f64 cgh]) ∧ (8 < k → y9 = .agg #[.float .f64 chl, .float .f64 chh]) ∧ (∀ q, p[0]? = some (some q) → z1 = .pointer (some ⟨q, 0, none⟩)) ∧ OwnF w ((pb, #[.int .i64 0]) :: l) [#[.float .f64 0, .float .f64 0]] p v
section
variable {w v : World} {pb : Nat} {cal cah cbl cbh ccl cch cdl cdh cel ceh cfl cfh cgl cgh chl chh : Nat} {l : RowL} {a0 a : Act} {p : List (Option Nat)}
theorem fcJ14_0 (h : fcJ14 w pb cal cah cbl cbh ccl cch cdl cdh cel ceh cfl cfh cgl cgh chl chh l a0 0 p a v) : ∃ y1 y2 y3 y4 y5 y6 y7 y8 y9 z1 : Value, a = ((((((((((a0.put (some 134) y1).put (some 135) y2).put (some 138) y3).put (some 139) y4).put (some 145) y5).put (some 146) y6).put (some 149) y7).put (some 150) y8).put (some 151) y9).put (some 22) z1) ∧ (∀ q, p[0]? = some (some q) → z1 = .pointer (some ⟨q, 0, none⟩)) ∧ OwnF w ((pb, #[.int .i64 0]) :: l) [#[.float .f64 0, .float .f64 0]] p v := by
  obtain ⟨y1, y2, y3, y4, y5, y6, y7, y8, y9, z1, ha, E1, E2, E3, E4, E5, E6, E7, E8, E9, G1, h⟩ := h
  exact ⟨y1, y2, y3, y4, y5, y6, y7, y8, y9, z1, ha, G1, h⟩
theorem fcJ14_1 (h : fcJ14 w pb cal cah cbl cbh ccl cch cdl cdh cel ceh cfl cfh cgl cgh chl chh l a0 1 p a v) : ∃ y2 y3 y4 y5 y6 y7 y8 y9 z1 : Value, a = ((((((((((a0.put (some 134) (.agg #[.float .f64 cal, .float .f64 cah])).put (some 135) y2).put (some 138) y3).put (some 139) y4).put (some 145) y5).put (some 146) y6).put (some 149) y7).put (some 150) y8).put (some 151) y9).put (some 22) z1) ∧ (∀ q, p[0]? = some (some q) → z1 = .pointer (some ⟨q, 0, none⟩)) ∧ OwnF w ((pb, #[.int .i64 0]) :: l) [#[.float .f64 0, .float .f64 0]] p v := by
  obtain ⟨y1, y2, y3, y4, y5, y6, y7, y8, y9, z1, ha, E1, E2, E3, E4, E5, E6, E7, E8, E9, G1, h⟩ := h
  obtain rfl := E1 (by decide)
  exact ⟨y2, y3, y4, y5, y6, y7, y8, y9, z1, ha, G1, h⟩
theorem fcJ14_2 (h : fcJ14 w pb cal cah cbl cbh ccl cch cdl cdh cel ceh cfl cfh cgl cgh chl chh l a0 2 p a v) : ∃ y3 y4 y5 y6 y7 y8 y9 z1 : Value, a = ((((((((((a0.put (some 134) (.agg #[.float .f64 cal, .float .f64 cah])).put (some 135) (.agg #[.float .f64 cbl, .float .f64 cbh])).put (some 138) y3).put (some 139) y4).put (some 145) y5).put (some 146) y6).put (some 149) y7).put (some 150) y8).put (some 151) y9).put (some 22) z1) ∧ (∀ q, p[0]? = some (some q) → z1 = .pointer (some ⟨q, 0, none⟩)) ∧ OwnF w ((pb, #[.int .i64 0]) :: l) [#[.float .f64 0, .float .f64 0]] p v := by
  obtain ⟨y1, y2, y3, y4, y5, y6, y7, y8, y9, z1, ha, E1, E2, E3, E4, E5, E6, E7, E8, E9, G1, h⟩ := h
  obtain rfl := E1 (by decide)
  obtain rfl := E2 (by decide)
  exact ⟨y3, y4, y5, y6, y7, y8, y9, z1, ha, G1, h⟩
theorem fcJ14_3 (h : fcJ14 w pb cal cah cbl cbh ccl cch cdl cdh cel ceh cfl cfh cgl cgh chl chh l a0 3 p a v) : ∃ y4 y5 y6 y7 y8 y9 z1 : Value, a = ((((((((((a0.put (some 134) (.agg #[.float .f64 cal, .float .f64 cah])).put (some 135) (.agg #[.float .f64 cbl, .float .f64 cbh])).put (some 138) (.agg #[.float .f64 ccl, .float .f64 cch])).put (some 139) y4).put (some 145) y5).put (some 146) y6).put (some 149) y7).put (some 150) y8).put (some 151) y9).put (some 22) z1) ∧ (∀ q, p[0]? = some (some q) → z1 = .pointer (some ⟨q, 0, none⟩)) ∧ OwnF w ((pb, #[.int .i64 0]) :: l) [#[.float .f64 0, .float .f64 0]] p v := by
  obtain ⟨y1, y2, y3, y4, y5, y6, y7, y8, y9, z1, ha, E1, E2, E3, E4, E5, E6, E7, E8, E9, G1, h⟩ := h
  obtain rfl := E1 (by decide)
  obtain rfl := E2 (by decide)
  obtain rfl := E3 (by decide)
  exact ⟨y4, y5, y6, y7, y8, y9, z1, ha, G1, h⟩
theorem fcJ14_4 (h : fcJ14 w pb cal cah cbl cbh ccl cch cdl cdh cel ceh cfl cfh cgl cgh chl chh l a0 4 p a v) : ∃ y5 y6 y7 y8 y9 z1 : Value, a = ((((((((((a0.put (some 134) (.agg #[.float .f64 cal, .float .f64 cah])).put (some 135) (.agg #[.float .f64 cbl, .float .f64 cbh])).put (some 138) (.agg #[.float .f64 ccl, .float .f64 cch])).put (some 139) (.agg #[.float .f64 cdl, .float .f64 cdh])).put (some 145) y5).put (some 146) y6).put (some 149) y7).put (some 150) y8).put (some 151) y9).put (some 22) z1) ∧ (∀ q, p[0]? = some (some q) → z1 = .pointer (some ⟨q, 0, none⟩)) ∧ OwnF w ((pb, #[.int .i64 0]) :: l) [#[.float .f64 0, .float .f64 0]] p v := by
  obtain ⟨y1, y2, y3, y4, y5, y6, y7, y8, y9, z1, ha, E1, E2, E3, E4, E5, E6, E7, E8, E9, G1, h⟩ := h
  obtain rfl := E1 (by decide)
  obtain rfl := E2 (by decide)
  obtain rfl := E3 (by decide)
  obtain rfl := E4 (by decide)
  exact ⟨y5, y6, y7, y8, y9, z1, ha, G1, h⟩
theorem fcJ14_5 (h : fcJ14 w pb cal cah cbl cbh ccl cch cdl cdh cel ceh cfl cfh cgl cgh chl chh l a0 5 p a v) : ∃ y6 y7 y8 y9 z1 : Value, a = ((((((((((a0.put (some 134) (.agg #[.float .f64 cal, .float .f64 cah])).put (some 135) (.agg #[.float .f64 cbl, .float .f64 cbh])).put (some 138) (.agg #[.float .f64 ccl, .float .f64 cch])).put (some 139) (.agg #[.float .f64 cdl, .float .f64 cdh])).put (some 145) (.agg #[.float .f64 cel, .float .f64 ceh])).put (some 146) y6).put (some 149) y7).put (some 150) y8).put (some 151) y9).put (some 22) z1) ∧ (∀ q, p[0]? = some (some q) → z1 = .pointer (some ⟨q, 0, none⟩)) ∧ OwnF w ((pb, #[.int .i64 0]) :: l) [#[.float .f64 0, .float .f64 0]] p v := by
  obtain ⟨y1, y2, y3, y4, y5, y6, y7, y8, y9, z1, ha, E1, E2, E3, E4, E5, E6, E7, E8, E9, G1, h⟩ := h
  obtain rfl := E1 (by decide)
  obtain rfl := E2 (by decide)
  obtain rfl := E3 (by decide)
  obtain rfl := E4 (by decide)
  obtain rfl := E5 (by decide)
  exact ⟨y6, y7, y8, y9, z1, ha, G1, h⟩
theorem fcJ14_6 (h : fcJ14 w pb cal cah cbl cbh ccl cch cdl cdh cel ceh cfl cfh cgl cgh chl chh l a0 6 p a v) : ∃ y7 y8 y9 z1 : Value, a = ((((((((((a0.put (some 134) (.agg #[.float .f64 cal, .float .f64 cah])).put (some 135) (.agg #[.float .f64 cbl, .float .f64 cbh])).put (some 138) (.agg #[.float .f64 ccl, .float .f64 cch])).put (some 139) (.agg #[.float .f64 cdl, .float .f64 cdh])).put (some 145) (.agg #[.float .f64 cel, .float .f64 ceh])).put (some 146) (.agg #[.float .f64 cfl, .float .f64 cfh])).put (some 149) y7).put (some 150) y8).put (some 151) y9).put (some 22) z1) ∧ (∀ q, p[0]? = some (some q) → z1 = .pointer (some ⟨q, 0, none⟩)) ∧ OwnF w ((pb, #[.int .i64 0]) :: l) [#[.float .f64 0, .float .f64 0]] p v := by
  obtain ⟨y1, y2, y3, y4, y5, y6, y7, y8, y9, z1, ha, E1, E2, E3, E4, E5, E6, E7, E8, E9, G1, h⟩ := h
  obtain rfl := E1 (by decide)
  obtain rfl := E2 (by decide)
  obtain rfl := E3 (by decide)
  obtain rfl := E4 (by decide)
  obtain rfl := E5 (by decide)
  obtain rfl := E6 (by decide)
  exact ⟨y7, y8, y9, z1, ha, G1, h⟩
theorem fcJ14_7 (h : fcJ14 w pb cal cah cbl cbh ccl cch cdl cdh cel ceh cfl cfh cgl cgh chl chh l a0 7 p a v) : ∃ y8 y9 z1 : Value, a = ((((((((((a0.put (some 134) (.agg #[.float .f64 cal, .float .f64 cah])).put (some 135) (.agg #[.float .f64 cbl, .float .f64 cbh])).put (some 138) (.agg #[.float .f64 ccl, .float .f64 cch])).put (some 139) (.agg #[.float .f64 cdl, .float .f64 cdh])).put (some 145) (.agg #[.float .f64 cel, .float .f64 ceh])).put (some 146) (.agg #[.float .f64 cfl, .float .f64 cfh])).put (some 149) (.agg #[.float .f64 ccl, .float .f64 cch])).put (some 150) y8).put (some 151) y9).put (some 22) z1) ∧ (∀ q, p[0]? = some (some q) → z1 = .pointer (some ⟨q, 0, none⟩)) ∧ OwnF w ((pb, #[.int .i64 0]) :: l) [#[.float .f64 0, .float .f64 0]] p v := by
  obtain ⟨y1, y2, y3, y4, y5, y6, y7, y8, y9, z1, ha, E1, E2, E3, E4, E5, E6, E7, E8, E9, G1, h⟩ := h
  obtain rfl := E1 (by decide)
  obtain rfl := E2 (by decide)
  obtain rfl := E3 (by decide)
  obtain rfl := E4 (by decide)
  obtain rfl := E5 (by decide)
  obtain rfl := E6 (by decide)
  obtain rfl := E7 (by decide)
  exact ⟨y8, y9, z1, ha, G1, h⟩
theorem fcJ14_8 (h : fcJ14 w pb cal cah cbl cbh ccl cch cdl cdh cel ceh cfl cfh cgl cgh chl chh l a0 8 p a v) : ∃ y9 z1 : Value, a = ((((((((((a0.put (some 134) (.agg #[.float .f64 cal, .float .f64 cah])).put (some 135) (.agg #[.float .f64 cbl, .float .f64 cbh])).put (some 138) (.agg #[.float .f64 ccl, .float .f64 cch])).put (some 139) (.agg #[.float .f64 cdl, .float .f64 cdh])).put (some 145) (.agg #[.float .f64 cel, .float .f64 ceh])).put (some 146) (.agg #[.float .f64 cfl, .float .f64 cfh])).put (some 149) (.agg #[.float .f64 ccl, .float .f64 cch])).put (some 150) (.agg #[.float .f64 cgl, .float .f64 cgh])).put (some 151) y9).put (some 22) z1) ∧ (∀ q, p[0]? = some (some q) → z1 = .pointer (some ⟨q, 0, none⟩)) ∧ OwnF w ((pb, #[.int .i64 0]) :: l) [#[.float .f64 0, .float .f64 0]] p v := by
  obtain ⟨y1, y2, y3, y4, y5, y6, y7, y8, y9, z1, ha, E1, E2, E3, E4, E5, E6, E7, E8, E9, G1, h⟩ := h
  obtain rfl := E1 (by decide)
  obtain rfl := E2 (by decide)
  obtain rfl := E3 (by decide)
  obtain rfl := E4 (by decide)
  obtain rfl := E5 (by decide)
  obtain rfl := E6 (by decide)
  obtain rfl := E7 (by decide)
  obtain rfl := E8 (by decide)
  exact ⟨y9, z1, ha, G1, h⟩
theorem fcJ14_fin {q1 : Nat} (h : fcJ14 w pb cal cah cbl cbh ccl cch cdl cdh cel ceh cfl cfh cgl cgh chl chh l a0 9 [some q1] a v) : a = ((((((((((a0.put (some 134) (.agg #[.float .f64 cal, .float .f64 cah])).put (some 135) (.agg #[.float .f64 cbl, .float .f64 cbh])).put (some 138) (.agg #[.float .f64 ccl, .float .f64 cch])).put (some 139) (.agg #[.float .f64 cdl, .float .f64 cdh])).put (some 145) (.agg #[.float .f64 cel, .float .f64 ceh])).put (some 146) (.agg #[.float .f64 cfl, .float .f64 cfh])).put (some 149) (.agg #[.float .f64 ccl, .float .f64 cch])).put (some 150) (.agg #[.float .f64 cgl, .float .f64 cgh])).put (some 151) (.agg #[.float .f64 chl, .float .f64 chh])).put (some 22) (.pointer (some ⟨q1, 0, none⟩))) ∧ OwnF w ((pb, #[.int .i64 0]) :: l) [#[.float .f64 0, .float .f64 0]] [some q1] v := by
  obtain ⟨y1, y2, y3, y4, y5, y6, y7, y8, y9, z1, ha, E1, E2, E3, E4, E5, E6, E7, E8, E9, G1, h⟩ := h
  obtain rfl := E1 (by decide)
  obtain rfl := E2 (by decide)
  obtain rfl := E3 (by decide)
  obtain rfl := E4 (by decide)
  obtain rfl := E5 (by decide)
  obtain rfl := E6 (by decide)
  obtain rfl := E7 (by decide)
  obtain rfl := E8 (by decide)
  obtain rfl := E9 (by decide)
  obtain rfl := G1 _ rfl
  exact ⟨ha, h⟩
end

/-- Region 15. -/
def fcJ15 (w : World) (pb : Nat) (dal dah dbl dbh : Nat) (l : RowL) (a0 : Act) (k : Nat) (p : List (Option Nat)) (a : Act) (v : World) : Prop :=
  ∃ y1 y2 z1 z2 : Value, a = ((((a0.put (some 155) y1).put (some 159) y2).put (some 23) z1).put (some 24) z2) ∧ (0 < k → y1 = .agg #[.float .f64 dal, .float .f64 dah]) ∧ (1 < k → y2 = .agg #[.float .f64 dbl, .float .f64 dbh]) ∧ (∀ q, p[0]? = some (some q) → z1 = .pointer (some ⟨q, 0, none⟩)) ∧ (∀ q, p[1]? = some (some q) → z2 = .pointer (some ⟨q, 0, none⟩)) ∧ OwnF w ((pb, #[.int .i64 0]) :: l) [#[.float .f64 0, .float .f64 0], #[.float .f64 0, .float .f64 0]] p v
section
variable {w v : World} {pb : Nat} {dal dah dbl dbh : Nat} {l : RowL} {a0 a : Act} {p : List (Option Nat)}
theorem fcJ15_0 (h : fcJ15 w pb dal dah dbl dbh l a0 0 p a v) : ∃ y1 y2 z1 z2 : Value, a = ((((a0.put (some 155) y1).put (some 159) y2).put (some 23) z1).put (some 24) z2) ∧ (∀ q, p[0]? = some (some q) → z1 = .pointer (some ⟨q, 0, none⟩)) ∧ (∀ q, p[1]? = some (some q) → z2 = .pointer (some ⟨q, 0, none⟩)) ∧ OwnF w ((pb, #[.int .i64 0]) :: l) [#[.float .f64 0, .float .f64 0], #[.float .f64 0, .float .f64 0]] p v := by
  obtain ⟨y1, y2, z1, z2, ha, E1, E2, G1, G2, h⟩ := h
  exact ⟨y1, y2, z1, z2, ha, G1, G2, h⟩
theorem fcJ15_1 (h : fcJ15 w pb dal dah dbl dbh l a0 1 p a v) : ∃ y2 z1 z2 : Value, a = ((((a0.put (some 155) (.agg #[.float .f64 dal, .float .f64 dah])).put (some 159) y2).put (some 23) z1).put (some 24) z2) ∧ (∀ q, p[0]? = some (some q) → z1 = .pointer (some ⟨q, 0, none⟩)) ∧ (∀ q, p[1]? = some (some q) → z2 = .pointer (some ⟨q, 0, none⟩)) ∧ OwnF w ((pb, #[.int .i64 0]) :: l) [#[.float .f64 0, .float .f64 0], #[.float .f64 0, .float .f64 0]] p v := by
  obtain ⟨y1, y2, z1, z2, ha, E1, E2, G1, G2, h⟩ := h
  obtain rfl := E1 (by decide)
  exact ⟨y2, z1, z2, ha, G1, G2, h⟩
theorem fcJ15_fin {q1 q2 : Nat} (h : fcJ15 w pb dal dah dbl dbh l a0 2 [some q1, some q2] a v) : a = ((((a0.put (some 155) (.agg #[.float .f64 dal, .float .f64 dah])).put (some 159) (.agg #[.float .f64 dbl, .float .f64 dbh])).put (some 23) (.pointer (some ⟨q1, 0, none⟩))).put (some 24) (.pointer (some ⟨q2, 0, none⟩))) ∧ OwnF w ((pb, #[.int .i64 0]) :: l) [#[.float .f64 0, .float .f64 0], #[.float .f64 0, .float .f64 0]] [some q1, some q2] v := by
  obtain ⟨y1, y2, z1, z2, ha, E1, E2, G1, G2, h⟩ := h
  obtain rfl := E1 (by decide)
  obtain rfl := E2 (by decide)
  obtain rfl := G1 _ rfl
  obtain rfl := G2 _ rfl
  exact ⟨ha, h⟩
end

/-- Region 16. -/
def fcJ16 (w : World) (pb : Nat) (dcl dch ddl ddh del deh dfl dfh dgl dgh dhl dhh dil dih djl djh dkl dkh dll dlh dml dmh : Nat) (l : RowL) (a0 : Act) (k : Nat) (p : List (Option Nat)) (a : Act) (v : World) : Prop :=
  ∃ y1 y2 y3 y4 y5 y6 y7 y8 y9 y10 y11 z1 : Value, a = ((((((((((((a0.put (some 166) y1).put (some 167) y2).put (some 172) y3).put (some 173) y4).put (some 174) y5).put (some 180) y6).put (some 181) y7).put (some 186) y8).put (some 187) y9).put (some 188) y10).put (some 189) y11).put (some 25) z1) ∧ (0 < k → y1 = .agg #[.float .f64 dcl, .float .f64 dch]) ∧ (1 < k → y2 = .agg #[.float .f64 ddl, .float .f64 ddh]) ∧ (2 < k → y3 = .agg #[.float .f64 del, .float .f64 deh]) ∧ (3 < k → y4 = .agg #[.float .f64 dfl, .float .f64 dfh]) ∧ (4 < k → y5 = .agg #[.float .f64 dgl, .float .f64 dgh]) ∧ (5 < k → y6 = .agg #[.float .f64 dhl, .float .f64 dhh]) ∧ (6 < k → y7 = .agg #[.float .f64 dil, .float .f64 dih]) ∧ (7 < k → y8 = .agg #[.float .f64 djl, .float .f64 djh]) ∧ (8 < k → y9 = .agg #[.float .f64 dkl, .float .f64 dkh]) ∧ (9 < k → y10 = .agg #[.float .f64 dll, .float .f64 dlh]) ∧ (10 < k → y11 = .agg #[.float .f64 dml, .float .f64 dmh]) ∧ (∀ q, p[0]? = some (some q) → z1 = .pointer (some ⟨q, 0, none⟩)) ∧ OwnF w ((pb, #[.int .i64 0]) :: l) [#[.float .f64 0, .float .f64 0]] p v
section
variable {w v : World} {pb : Nat} {dcl dch ddl ddh del deh dfl dfh dgl dgh dhl dhh dil dih djl djh dkl dkh dll dlh dml dmh : Nat} {l : RowL} {a0 a : Act} {p : List (Option Nat)}
theorem fcJ16_0 (h : fcJ16 w pb dcl dch ddl ddh del deh dfl dfh dgl dgh dhl dhh dil dih djl djh dkl dkh dll dlh dml dmh l a0 0 p a v) : ∃ y1 y2 y3 y4 y5 y6 y7 y8 y9 y10 y11 z1 : Value, a = ((((((((((((a0.put (some 166) y1).put (some 167) y2).put (some 172) y3).put (some 173) y4).put (some 174) y5).put (some 180) y6).put (some 181) y7).put (some 186) y8).put (some 187) y9).put (some 188) y10).put (some 189) y11).put (some 25) z1) ∧ (∀ q, p[0]? = some (some q) → z1 = .pointer (some ⟨q, 0, none⟩)) ∧ OwnF w ((pb, #[.int .i64 0]) :: l) [#[.float .f64 0, .float .f64 0]] p v := by
  obtain ⟨y1, y2, y3, y4, y5, y6, y7, y8, y9, y10, y11, z1, ha, E1, E2, E3, E4, E5, E6, E7, E8, E9, E10, E11, G1, h⟩ := h
  exact ⟨y1, y2, y3, y4, y5, y6, y7, y8, y9, y10, y11, z1, ha, G1, h⟩
theorem fcJ16_1 (h : fcJ16 w pb dcl dch ddl ddh del deh dfl dfh dgl dgh dhl dhh dil dih djl djh dkl dkh dll dlh dml dmh l a0 1 p a v) : ∃ y2 y3 y4 y5 y6 y7 y8 y9 y10 y11 z1 : Value, a = ((((((((((((a0.put (some 166) (.agg #[.float .f64 dcl, .float .f64 dch])).put (some 167) y2).put (some 172) y3).put (some 173) y4).put (some 174) y5).put (some 180) y6).put (some 181) y7).put (some 186) y8).put (some 187) y9).put (some 188) y10).put (some 189) y11).put (some 25) z1) ∧ (∀ q, p[0]? = some (some q) → z1 = .pointer (some ⟨q, 0, none⟩)) ∧ OwnF w ((pb, #[.int .i64 0]) :: l) [#[.float .f64 0, .float .f64 0]] p v := by
  obtain ⟨y1, y2, y3, y4, y5, y6, y7, y8, y9, y10, y11, z1, ha, E1, E2, E3, E4, E5, E6, E7, E8, E9, E10, E11, G1, h⟩ := h
  obtain rfl := E1 (by decide)
  exact ⟨y2, y3, y4, y5, y6, y7, y8, y9, y10, y11, z1, ha, G1, h⟩
theorem fcJ16_2 (h : fcJ16 w pb dcl dch ddl ddh del deh dfl dfh dgl dgh dhl dhh dil dih djl djh dkl dkh dll dlh dml dmh l a0 2 p a v) : ∃ y3 y4 y5 y6 y7 y8 y9 y10 y11 z1 : Value, a = ((((((((((((a0.put (some 166) (.agg #[.float .f64 dcl, .float .f64 dch])).put (some 167) (.agg #[.float .f64 ddl, .float .f64 ddh])).put (some 172) y3).put (some 173) y4).put (some 174) y5).put (some 180) y6).put (some 181) y7).put (some 186) y8).put (some 187) y9).put (some 188) y10).put (some 189) y11).put (some 25) z1) ∧ (∀ q, p[0]? = some (some q) → z1 = .pointer (some ⟨q, 0, none⟩)) ∧ OwnF w ((pb, #[.int .i64 0]) :: l) [#[.float .f64 0, .float .f64 0]] p v := by
  obtain ⟨y1, y2, y3, y4, y5, y6, y7, y8, y9, y10, y11, z1, ha, E1, E2, E3, E4, E5, E6, E7, E8, E9, E10, E11, G1, h⟩ := h
  obtain rfl := E1 (by decide)
  obtain rfl := E2 (by decide)
  exact ⟨y3, y4, y5, y6, y7, y8, y9, y10, y11, z1, ha, G1, h⟩
theorem fcJ16_3 (h : fcJ16 w pb dcl dch ddl ddh del deh dfl dfh dgl dgh dhl dhh dil dih djl djh dkl dkh dll dlh dml dmh l a0 3 p a v) : ∃ y4 y5 y6 y7 y8 y9 y10 y11 z1 : Value, a = ((((((((((((a0.put (some 166) (.agg #[.float .f64 dcl, .float .f64 dch])).put (some 167) (.agg #[.float .f64 ddl, .float .f64 ddh])).put (some 172) (.agg #[.float .f64 del, .float .f64 deh])).put (some 173) y4).put (some 174) y5).put (some 180) y6).put (some 181) y7).put (some 186) y8).put (some 187) y9).put (some 188) y10).put (some 189) y11).put (some 25) z1) ∧ (∀ q, p[0]? = some (some q) → z1 = .pointer (some ⟨q, 0, none⟩)) ∧ OwnF w ((pb, #[.int .i64 0]) :: l) [#[.float .f64 0, .float .f64 0]] p v := by
  obtain ⟨y1, y2, y3, y4, y5, y6, y7, y8, y9, y10, y11, z1, ha, E1, E2, E3, E4, E5, E6, E7, E8, E9, E10, E11, G1, h⟩ := h
  obtain rfl := E1 (by decide)
  obtain rfl := E2 (by decide)
  obtain rfl := E3 (by decide)
  exact ⟨y4, y5, y6, y7, y8, y9, y10, y11, z1, ha, G1, h⟩
theorem fcJ16_4 (h : fcJ16 w pb dcl dch ddl ddh del deh dfl dfh dgl dgh dhl dhh dil dih djl djh dkl dkh dll dlh dml dmh l a0 4 p a v) : ∃ y5 y6 y7 y8 y9 y10 y11 z1 : Value, a = ((((((((((((a0.put (some 166) (.agg #[.float .f64 dcl, .float .f64 dch])).put (some 167) (.agg #[.float .f64 ddl, .float .f64 ddh])).put (some 172) (.agg #[.float .f64 del, .float .f64 deh])).put (some 173) (.agg #[.float .f64 dfl, .float .f64 dfh])).put (some 174) y5).put (some 180) y6).put (some 181) y7).put (some 186) y8).put (some 187) y9).put (some 188) y10).put (some 189) y11).put (some 25) z1) ∧ (∀ q, p[0]? = some (some q) → z1 = .pointer (some ⟨q, 0, none⟩)) ∧ OwnF w ((pb, #[.int .i64 0]) :: l) [#[.float .f64 0, .float .f64 0]] p v := by
  obtain ⟨y1, y2, y3, y4, y5, y6, y7, y8, y9, y10, y11, z1, ha, E1, E2, E3, E4, E5, E6, E7, E8, E9, E10, E11, G1, h⟩ := h
  obtain rfl := E1 (by decide)
  obtain rfl := E2 (by decide)
  obtain rfl := E3 (by decide)
  obtain rfl := E4 (by decide)
  exact ⟨y5, y6, y7, y8, y9, y10, y11, z1, ha, G1, h⟩
theorem fcJ16_5 (h : fcJ16 w pb dcl dch ddl ddh del deh dfl dfh dgl dgh dhl dhh dil dih djl djh dkl dkh dll dlh dml dmh l a0 5 p a v) : ∃ y6 y7 y8 y9 y10 y11 z1 : Value, a = ((((((((((((a0.put (some 166) (.agg #[.float .f64 dcl, .float .f64 dch])).put (some 167) (.agg #[.float .f64 ddl, .float .f64 ddh])).put (some 172) (.agg #[.float .f64 del, .float .f64 deh])).put (some 173) (.agg #[.float .f64 dfl, .float .f64 dfh])).put (some 174) (.agg #[.float .f64 dgl, .float .f64 dgh])).put (some 180) y6).put (some 181) y7).put (some 186) y8).put (some 187) y9).put (some 188) y10).put (some 189) y11).put (some 25) z1) ∧ (∀ q, p[0]? = some (some q) → z1 = .pointer (some ⟨q, 0, none⟩)) ∧ OwnF w ((pb, #[.int .i64 0]) :: l) [#[.float .f64 0, .float .f64 0]] p v := by
  obtain ⟨y1, y2, y3, y4, y5, y6, y7, y8, y9, y10, y11, z1, ha, E1, E2, E3, E4, E5, E6, E7, E8, E9, E10, E11, G1, h⟩ := h
  obtain rfl := E1 (by decide)
  obtain rfl := E2 (by decide)
  obtain rfl := E3 (by decide)
  obtain rfl := E4 (by decide)
  obtain rfl := E5 (by decide)
  exact ⟨y6, y7, y8, y9, y10, y11, z1, ha, G1, h⟩
theorem fcJ16_6 (h : fcJ16 w pb dcl dch ddl ddh del deh dfl dfh dgl dgh dhl dhh dil dih djl djh dkl dkh dll dlh dml dmh l a0 6 p a v) : ∃ y7 y8 y9 y10 y11 z1 : Value, a = ((((((((((((a0.put (some 166) (.agg #[.float .f64 dcl, .float .f64 dch])).put (some 167) (.agg #[.float .f64 ddl, .float .f64 ddh])).put (some 172) (.agg #[.float .f64 del, .float .f64 deh])).put (some 173) (.agg #[.float .f64 dfl, .float .f64 dfh])).put (some 174) (.agg #[.float .f64 dgl, .float .f64 dgh])).put (some 180) (.agg #[.float .f64 dhl, .float .f64 dhh])).put (some 181) y7).put (some 186) y8).put (some 187) y9).put (some 188) y10).put (some 189) y11).put (some 25) z1) ∧ (∀ q, p[0]? = some (some q) → z1 = .pointer (some ⟨q, 0, none⟩)) ∧ OwnF w ((pb, #[.int .i64 0]) :: l) [#[.float .f64 0, .float .f64 0]] p v := by
  obtain ⟨y1, y2, y3, y4, y5, y6, y7, y8, y9, y10, y11, z1, ha, E1, E2, E3, E4, E5, E6, E7, E8, E9, E10, E11, G1, h⟩ := h
  obtain rfl := E1 (by decide)
  obtain rfl := E2 (by decide)
  obtain rfl := E3 (by decide)
  obtain rfl := E4 (by decide)
  obtain rfl := E5 (by decide)
  obtain rfl := E6 (by decide)
  exact ⟨y7, y8, y9, y10, y11, z1, ha, G1, h⟩
theorem fcJ16_7 (h : fcJ16 w pb dcl dch ddl ddh del deh dfl dfh dgl dgh dhl dhh dil dih djl djh dkl dkh dll dlh dml dmh l a0 7 p a v) : ∃ y8 y9 y10 y11 z1 : Value, a = ((((((((((((a0.put (some 166) (.agg #[.float .f64 dcl, .float .f64 dch])).put (some 167) (.agg #[.float .f64 ddl, .float .f64 ddh])).put (some 172) (.agg #[.float .f64 del, .float .f64 deh])).put (some 173) (.agg #[.float .f64 dfl, .float .f64 dfh])).put (some 174) (.agg #[.float .f64 dgl, .float .f64 dgh])).put (some 180) (.agg #[.float .f64 dhl, .float .f64 dhh])).put (some 181) (.agg #[.float .f64 dil, .float .f64 dih])).put (some 186) y8).put (some 187) y9).put (some 188) y10).put (some 189) y11).put (some 25) z1) ∧ (∀ q, p[0]? = some (some q) → z1 = .pointer (some ⟨q, 0, none⟩)) ∧ OwnF w ((pb, #[.int .i64 0]) :: l) [#[.float .f64 0, .float .f64 0]] p v := by
  obtain ⟨y1, y2, y3, y4, y5, y6, y7, y8, y9, y10, y11, z1, ha, E1, E2, E3, E4, E5, E6, E7, E8, E9, E10, E11, G1, h⟩ := h
  obtain rfl := E1 (by decide)
  obtain rfl := E2 (by decide)
  obtain rfl := E3 (by decide)
  obtain rfl := E4 (by decide)
  obtain rfl := E5 (by decide)
  obtain rfl := E6 (by decide)
  obtain rfl := E7 (by decide)
  exact ⟨y8, y9, y10, y11, z1, ha, G1, h⟩
theorem fcJ16_8 (h : fcJ16 w pb dcl dch ddl ddh del deh dfl dfh dgl dgh dhl dhh dil dih djl djh dkl dkh dll dlh dml dmh l a0 8 p a v) : ∃ y9 y10 y11 z1 : Value, a = ((((((((((((a0.put (some 166) (.agg #[.float .f64 dcl, .float .f64 dch])).put (some 167) (.agg #[.float .f64 ddl, .float .f64 ddh])).put (some 172) (.agg #[.float .f64 del, .float .f64 deh])).put (some 173) (.agg #[.float .f64 dfl, .float .f64 dfh])).put (some 174) (.agg #[.float .f64 dgl, .float .f64 dgh])).put (some 180) (.agg #[.float .f64 dhl, .float .f64 dhh])).put (some 181) (.agg #[.float .f64 dil, .float .f64 dih])).put (some 186) (.agg #[.float .f64 djl, .float .f64 djh])).put (some 187) y9).put (some 188) y10).put (some 189) y11).put (some 25) z1) ∧ (∀ q, p[0]? = some (some q) → z1 = .pointer (some ⟨q, 0, none⟩)) ∧ OwnF w ((pb, #[.int .i64 0]) :: l) [#[.float .f64 0, .float .f64 0]] p v := by
  obtain ⟨y1, y2, y3, y4, y5, y6, y7, y8, y9, y10, y11, z1, ha, E1, E2, E3, E4, E5, E6, E7, E8, E9, E10, E11, G1, h⟩ := h
  obtain rfl := E1 (by decide)
  obtain rfl := E2 (by decide)
  obtain rfl := E3 (by decide)
  obtain rfl := E4 (by decide)
  obtain rfl := E5 (by decide)
  obtain rfl := E6 (by decide)
  obtain rfl := E7 (by decide)
  obtain rfl := E8 (by decide)
  exact ⟨y9, y10, y11, z1, ha, G1, h⟩
theorem fcJ16_9 (h : fcJ16 w pb dcl dch ddl ddh del deh dfl dfh dgl dgh dhl dhh dil dih djl djh dkl dkh dll dlh dml dmh l a0 9 p a v) : ∃ y10 y11 z1 : Value, a = ((((((((((((a0.put (some 166) (.agg #[.float .f64 dcl, .float .f64 dch])).put (some 167) (.agg #[.float .f64 ddl, .float .f64 ddh])).put (some 172) (.agg #[.float .f64 del, .float .f64 deh])).put (some 173) (.agg #[.float .f64 dfl, .float .f64 dfh])).put (some 174) (.agg #[.float .f64 dgl, .float .f64 dgh])).put (some 180) (.agg #[.float .f64 dhl, .float .f64 dhh])).put (some 181) (.agg #[.float .f64 dil, .float .f64 dih])).put (some 186) (.agg #[.float .f64 djl, .float .f64 djh])).put (some 187) (.agg #[.float .f64 dkl, .float .f64 dkh])).put (some 188) y10).put (some 189) y11).put (some 25) z1) ∧ (∀ q, p[0]? = some (some q) → z1 = .pointer (some ⟨q, 0, none⟩)) ∧ OwnF w ((pb, #[.int .i64 0]) :: l) [#[.float .f64 0, .float .f64 0]] p v := by
  obtain ⟨y1, y2, y3, y4, y5, y6, y7, y8, y9, y10, y11, z1, ha, E1, E2, E3, E4, E5, E6, E7, E8, E9, E10, E11, G1, h⟩ := h
  obtain rfl := E1 (by decide)
  obtain rfl := E2 (by decide)
  obtain rfl := E3 (by decide)
  obtain rfl := E4 (by decide)
  obtain rfl := E5 (by decide)
  obtain rfl := E6 (by decide)
  obtain rfl := E7 (by decide)
  obtain rfl := E8 (by decide)
  obtain rfl := E9 (by decide)
  exact ⟨y10, y11, z1, ha, G1, h⟩
theorem fcJ16_10 (h : fcJ16 w pb dcl dch ddl ddh del deh dfl dfh dgl dgh dhl dhh dil dih djl djh dkl dkh dll dlh dml dmh l a0 10 p a v) : ∃ y11 z1 : Value, a = ((((((((((((a0.put (some 166) (.agg #[.float .f64 dcl, .float .f64 dch])).put (some 167) (.agg #[.float .f64 ddl, .float .f64 ddh])).put (some 172) (.agg #[.float .f64 del, .float .f64 deh])).put (some 173) (.agg #[.float .f64 dfl, .float .f64 dfh])).put (some 174) (.agg #[.float .f64 dgl, .float .f64 dgh])).put (some 180) (.agg #[.float .f64 dhl, .float .f64 dhh])).put (some 181) (.agg #[.float .f64 dil, .float .f64 dih])).put (some 186) (.agg #[.float .f64 djl, .float .f64 djh])).put (some 187) (.agg #[.float .f64 dkl, .float .f64 dkh])).put (some 188) (.agg #[.float .f64 dll, .float .f64 dlh])).put (some 189) y11).put (some 25) z1) ∧ (∀ q, p[0]? = some (some q) → z1 = .pointer (some ⟨q, 0, none⟩)) ∧ OwnF w ((pb, #[.int .i64 0]) :: l) [#[.float .f64 0, .float .f64 0]] p v := by
  obtain ⟨y1, y2, y3, y4, y5, y6, y7, y8, y9, y10, y11, z1, ha, E1, E2, E3, E4, E5, E6, E7, E8, E9, E10, E11, G1, h⟩ := h
  obtain rfl := E1 (by decide)
  obtain rfl := E2 (by decide)
  obtain rfl := E3 (by decide)
  obtain rfl := E4 (by decide)
  obtain rfl := E5 (by decide)
  obtain rfl := E6 (by decide)
  obtain rfl := E7 (by decide)
  obtain rfl := E8 (by decide)
  obtain rfl := E9 (by decide)
  obtain rfl := E10 (by decide)
  exact ⟨y11, z1, ha, G1, h⟩
theorem fcJ16_fin {q1 : Nat} (h : fcJ16 w pb dcl dch ddl ddh del deh dfl dfh dgl dgh dhl dhh dil dih djl djh dkl dkh dll dlh dml dmh l a0 11 [some q1] a v) : a = ((((((((((((a0.put (some 166) (.agg #[.float .f64 dcl, .float .f64 dch])).put (some 167) (.agg #[.float .f64 ddl, .float .f64 ddh])).put (some 172) (.agg #[.float .f64 del, .float .f64 deh])).put (some 173) (.agg #[.float .f64 dfl, .float .f64 dfh])).put (some 174) (.agg #[.float .f64 dgl, .float .f64 dgh])).put (some 180) (.agg #[.float .f64 dhl, .float .f64 dhh])).put (some 181) (.agg #[.float .f64 dil, .float .f64 dih])).put (some 186) (.agg #[.float .f64 djl, .float .f64 djh])).put (some 187) (.agg #[.float .f64 dkl, .float .f64 dkh])).put (some 188) (.agg #[.float .f64 dll, .float .f64 dlh])).put (some 189) (.agg #[.float .f64 dml, .float .f64 dmh])).put (some 25) (.pointer (some ⟨q1, 0, none⟩))) ∧ OwnF w ((pb, #[.int .i64 0]) :: l) [#[.float .f64 0, .float .f64 0]] [some q1] v := by
  obtain ⟨y1, y2, y3, y4, y5, y6, y7, y8, y9, y10, y11, z1, ha, E1, E2, E3, E4, E5, E6, E7, E8, E9, E10, E11, G1, h⟩ := h
  obtain rfl := E1 (by decide)
  obtain rfl := E2 (by decide)
  obtain rfl := E3 (by decide)
  obtain rfl := E4 (by decide)
  obtain rfl := E5 (by decide)
  obtain rfl := E6 (by decide)
  obtain rfl := E7 (by decide)
  obtain rfl := E8 (by decide)
  obtain rfl := E9 (by decide)
  obtain rfl := E10 (by decide)
  obtain rfl := E11 (by decide)
  obtain rfl := G1 _ rfl
  exact ⟨ha, h⟩
end

/-- Region 17. -/
def fcJ17 (w : World) (pb : Nat) (eal eah ebl ebh : Nat) (l : RowL) (a0 : Act) (k : Nat) (p : List (Option Nat)) (a : Act) (v : World) : Prop :=
  ∃ y1 y2 z1 : Value, a = (((a0.put (some 194) y1).put (some 196) y2).put (some 26) z1) ∧ (0 < k → y1 = .agg #[.float .f64 eal, .float .f64 eah]) ∧ (1 < k → y2 = .agg #[.float .f64 ebl, .float .f64 ebh]) ∧ (∀ q, p[0]? = some (some q) → z1 = .pointer (some ⟨q, 0, none⟩)) ∧ OwnF w ((pb, #[.int .i64 0]) :: l) [#[.float .f64 0, .float .f64 0]] p v
section
variable {w v : World} {pb : Nat} {eal eah ebl ebh : Nat} {l : RowL} {a0 a : Act} {p : List (Option Nat)}
theorem fcJ17_0 (h : fcJ17 w pb eal eah ebl ebh l a0 0 p a v) : ∃ y1 y2 z1 : Value, a = (((a0.put (some 194) y1).put (some 196) y2).put (some 26) z1) ∧ (∀ q, p[0]? = some (some q) → z1 = .pointer (some ⟨q, 0, none⟩)) ∧ OwnF w ((pb, #[.int .i64 0]) :: l) [#[.float .f64 0, .float .f64 0]] p v := by
  obtain ⟨y1, y2, z1, ha, E1, E2, G1, h⟩ := h
  exact ⟨y1, y2, z1, ha, G1, h⟩
theorem fcJ17_1 (h : fcJ17 w pb eal eah ebl ebh l a0 1 p a v) : ∃ y2 z1 : Value, a = (((a0.put (some 194) (.agg #[.float .f64 eal, .float .f64 eah])).put (some 196) y2).put (some 26) z1) ∧ (∀ q, p[0]? = some (some q) → z1 = .pointer (some ⟨q, 0, none⟩)) ∧ OwnF w ((pb, #[.int .i64 0]) :: l) [#[.float .f64 0, .float .f64 0]] p v := by
  obtain ⟨y1, y2, z1, ha, E1, E2, G1, h⟩ := h
  obtain rfl := E1 (by decide)
  exact ⟨y2, z1, ha, G1, h⟩
theorem fcJ17_fin {q1 : Nat} (h : fcJ17 w pb eal eah ebl ebh l a0 2 [some q1] a v) : a = (((a0.put (some 194) (.agg #[.float .f64 eal, .float .f64 eah])).put (some 196) (.agg #[.float .f64 ebl, .float .f64 ebh])).put (some 26) (.pointer (some ⟨q1, 0, none⟩))) ∧ OwnF w ((pb, #[.int .i64 0]) :: l) [#[.float .f64 0, .float .f64 0]] [some q1] v := by
  obtain ⟨y1, y2, z1, ha, E1, E2, G1, h⟩ := h
  obtain rfl := E1 (by decide)
  obtain rfl := E2 (by decide)
  obtain rfl := G1 _ rfl
  exact ⟨ha, h⟩
end

set_option maxRecDepth 100000 in
set_option maxHeartbeats 16000000 in
theorem complex_law {u0 v0 w0 pc pe pk fl fh al ah bl bh dl dh gl gh il ih jl jh kl kh ll lh ml mh nl nh ol oh ql qh rl rh sl sh tl th ul uh vl vh xl xh yl yh zl zh cal cah cbl cbh ccl cch cdl cdh cel ceh cfl cfh cgl cgh chl chh dal dah dbl dbh dcl dch ddl ddh del deh dfl dfh dgl dgh dhl dhh dil dih djl djh dkl dkh dll dlh dml dmh eal eah ebl ebh : Nat} (w : World)
    (c1 : Hid (∀ w, Calls Try.prog 41 #[.float .f64 4571153621781053440, .float .f64 4607182418800017408, .int .u32 u0] w fun r w' => r = .returned (.float .f64 pc) ∧ w = w'))
    (c2 : Hid (∀ w, Calls Try.prog 40 #[.float .f64 pc] w fun r w' => r = .returned (.agg #[.float .f64 pc, .float .f64 pc]) ∧ Below w.heap.size w w'))
    (c3 : Hid (∀ w, Calls Try.prog 41 #[.float .f64 4589168020290535424, .float .f64 4625196817309499392, .int .u32 v0] w fun r w' => r = .returned (.float .f64 pe) ∧ w = w'))
    (c4 : Hid (∀ w, Calls Try.prog 40 #[.float .f64 pe] w fun r w' => r = .returned (.agg #[.float .f64 pe, .float .f64 pe]) ∧ Below w.heap.size w w'))
    (c5 : Hid (∀ w, Calls Try.prog 41 #[.float .f64 4589168020290535424, .float .f64 4625196817309499392, .int .u32 w0] w fun r w' => r = .returned (.float .f64 pk) ∧ w = w'))
    (c6 : Hid (∀ w, Calls Try.prog 40 #[.float .f64 pk] w fun r w' => r = .returned (.agg #[.float .f64 pk, .float .f64 pk]) ∧ Below w.heap.size w w'))
    (c7 : Hid (∀ w, Calls Try.prog 45 #[.agg #[.float .f64 pc, .float .f64 pc], .agg #[.float .f64 pe, .float .f64 pe], .agg #[.float .f64 pk, .float .f64 pk]] w fun r w' => r = .returned (.tuple #[.agg #[.float .f64 fl, .float .f64 fh], .int .i64 0]) ∧ Below w.heap.size w w'))
    (o_lssfl_0 : ((FloatKind.f64.format.order fl 0 == some Ordering.lt) = false))
    (o_gtrfh_418800017408 : ((FloatKind.f64.format.order fh 4607182418800017408 == some Ordering.gt) = false))
    (o_gtrfl_fh : ((FloatKind.f64.format.order fl fh == some Ordering.gt) = false))
    (d8 : Hid (KN 28 0 0 4611686018427387904 4611686018427387904 4611686018427387904))
    (d9 : Hid (KN 28 0 0 0 0 0))
    (d10 : Hid (KN 28 0 0 4607182418800017408 4607182418800017408 4607182418800017408))
    (d11 : Hid (K1 18 0 0 pc pc al ah))
    (d12 : Hid (K2 30 0 0 4607182418800017408 4607182418800017408 al ah bl bh))
    (d13 : Hid (K1 18 0 0 pe pe dl dh))
    (d14 : Hid (K1 18 0 0 pk pk gl gh))
    (d15 : Hid (K2 30 0 0 dl dh gl gh il ih))
    (d16 : Hid (K2 29 0 0 pe pe pk pk jl jh))
    (d17 : Hid (K2 29 0 0 4611686018427387904 4611686018427387904 jl jh kl kh))
    (d18 : Hid (K2 30 0 0 il ih bl bh ll lh))
    (d19 : Hid (K1 18 0 0 ll lh ml mh))
    (d20 : Hid (K1 18 0 0 kl kh nl nh))
    (d21 : Hid (K2 17 0 0 ml mh nl nh ol oh))
    (d22 : Hid (K1 33 0 0 ol oh ql qh))
    (d23 : Hid (K2 17 0 0 ql qh ll lh rl rh))
    (d24 : Hid (K2 32 0 0 rl rh 4611686018427387904 4611686018427387904 sl sh))
    (d25 : Hid (K2 31 0 0 sl sh 0 0 tl th))
    (d26 : Hid (K1 33 0 0 tl th ul uh))
    (d27 : Hid (K2 30 0 0 ql qh ll lh vl vh))
    (d28 : Hid (K2 32 0 0 vl vh 4611686018427387904 4611686018427387904 xl xh))
    (d29 : Hid (K2 31 0 0 xl xh 0 0 yl yh))
    (d30 : Hid (K1 33 0 0 yl yh zl zh))
    (d31 : Hid (K2 30 0 0 pc pc ul uh cal cah))
    (d32 : Hid (K1 18 0 0 cal cah cbl cbh))
    (d33 : Hid (K1 18 0 0 zl zh ccl cch))
    (d34 : Hid (K2 17 0 0 cbl cbh ccl cch cdl cdh))
    (d35 : Hid (K2 17 0 0 pc pc ul uh cel ceh))
    (d36 : Hid (K1 18 0 0 cel ceh cfl cfh))
    (d38 : Hid (K2 17 0 0 cfl cfh ccl cch cgl cgh))
    (d39 : Hid (K2 32 0 0 cdl cdh cgl cgh chl chh))
    (d40 : Hid (K2 29 0 0 il ih pc pc dal dah))
    (d41 : Hid (K2 29 0 0 kl kh pc pc dbl dbh))
    (d42 : Hid (K2 30 0 0 dal dah ul uh dcl dch))
    (d43 : Hid (K1 18 0 0 dcl dch ddl ddh))
    (d44 : Hid (K2 30 0 0 dbl dbh zl zh del deh))
    (d45 : Hid (K1 18 0 0 del deh dfl dfh))
    (d46 : Hid (K2 17 0 0 ddl ddh dfl dfh dgl dgh))
    (d47 : Hid (K2 17 0 0 dal dah ul uh dhl dhh))
    (d48 : Hid (K1 18 0 0 dhl dhh dil dih))
    (d49 : Hid (K2 17 0 0 dbl dbh zl zh djl djh))
    (d50 : Hid (K1 18 0 0 djl djh dkl dkh))
    (d51 : Hid (K2 17 0 0 dil dih dkl dkh dll dlh))
    (d52 : Hid (K2 32 0 0 dgl dgh dll dlh dml dmh))
    (d53 : Hid (K2 17 0 0 chl chh dml dmh eal eah))
    (d54 : Hid (K2 32 0 0 eal eah 4611686018427387904 4611686018427387904 ebl ebh))
    (c56 : Hid (∀ w, Calls Try.prog 43 #[.agg #[.float .f64 fl, .float .f64 fh], .agg #[.float .f64 ebl, .float .f64 ebh]] w fun r w' => r = .returned (.bool true) ∧ Below w.heap.size w w'))
    (c57 : Hid (∀ w, Calls Try.prog 44 #[] w fun r w' => r = .returned (.bool true) ∧ Below w.heap.size w w')) :
    Calls Try.prog 9 #[.int .u32 u0, .int .u32 v0, .int .u32 w0] w fun r w' => r = .returned (.bool true) ∧ Below w.heap.size w w' := by
  have M := Lib.hid (Own.nil w)
  have eqF := eq_floats
  go_enter Try.func9, Try.ntmps9
  go_wp2_with fail
  refine (c1.out _).mono ?_
  rintro r w1_ ⟨rfl, rfl⟩
  go_wp2_with fail
  refine (c2.out _).mono ?_
  rintro r w2_ ⟨rfl, hb⟩
  replace M := Lib.hid (M.out.below hb)
  clear hb
  replace M := Lib.hid (M.out.made #[.float .f64 pc, .float .f64 pc] 24)
  go_wp2_with fail
  refine (c3.out _).mono ?_
  rintro r w3_ ⟨rfl, rfl⟩
  go_wp2_with fail
  refine (c4.out _).mono ?_
  rintro r w4_ ⟨rfl, hb⟩
  replace M := Lib.hid (M.out.below hb)
  clear hb
  go_wp2_with fail
  refine (c5.out _).mono ?_
  rintro r w5_ ⟨rfl, rfl⟩
  go_wp2_with fail
  refine (c6.out _).mono ?_
  rintro r w6_ ⟨rfl, hb⟩
  replace M := Lib.hid (M.out.below hb)
  clear hb
  replace M := Lib.hid (M.out.made #[.float .f64 pe, .float .f64 pe] 24)
  replace M := Lib.hid (M.out.made #[.float .f64 pk, .float .f64 pk] 24)
  simp only [World.size_alloc] at M
  obtain ⟨k1, k2⟩ := (M.out.nth 2 rfl).two
  go_wp2_with fail
  refine (c7.out _).mono ?_
  rintro r w7_ ⟨rfl, hb⟩
  replace M := Lib.hid (M.out.below hb)
  clear hb
  clear k1 k2
  replace M := Lib.hid (M.out.made #[.float .f64 fl, .float .f64 fh] 24)
  replace M := Lib.hid (M.out.made #[.int .i64 0] 32)
  simp only [World.size_alloc] at M
  go_wp2_with fail
  refine (d8.out _ _ (M.out.nth 0 rfl)).mono ?_
  rintro r w8_ ⟨rfl, hb⟩
  replace M : Hid (Own w [((w7_.heap.size + 1), #[.int .i64 0]), (w7_.heap.size, #[.float .f64 fl, .float .f64 fh]), ((w6_.heap.size + 1), #[.float .f64 pk, .float .f64 pk]), (w6_.heap.size, #[.float .f64 pe, .float .f64 pe]), (w2_.heap.size, #[.float .f64 pc, .float .f64 pc])] w8_) := Lib.hid (M.out.putAt 0 rfl hb)
  clear hb
  go_wp2_with fail
  refine (d9.out _ _ (M.out.nth 0 rfl)).mono ?_
  rintro r w9_ ⟨rfl, hb⟩
  replace M : Hid (Own w [((w7_.heap.size + 1), #[.int .i64 0]), (w7_.heap.size, #[.float .f64 fl, .float .f64 fh]), ((w6_.heap.size + 1), #[.float .f64 pk, .float .f64 pk]), (w6_.heap.size, #[.float .f64 pe, .float .f64 pe]), (w2_.heap.size, #[.float .f64 pc, .float .f64 pc])] w9_) := Lib.hid (M.out.putAt 0 rfl hb)
  clear hb
  replace M := Lib.hid (M.out.made #[.float .f64 4611686018427387904, .float .f64 4611686018427387904] 24).front
  replace M := Lib.hid (M.out.made #[.float .f64 0, .float .f64 0] 24).front
  simp only [World.size_alloc] at M
  go_upto_region 8 with fail
  replace M := Lib.hid M.out.drew
  refine wp_region_noPanic ?_
  refine tails_region (S := fun w' => (w'.cell? ⟨w2_.heap.size, 0, none⟩ = some (.float .f64 pc) ∧ w'.cell? ⟨w2_.heap.size, 1, none⟩ = some (.float .f64 pc))) [] (by kernel_rfl) ?_ (fun hS => ?_)
  · exact (M.out.nth 6 rfl).two
  refine tk (x := ?_) 0 rfl (by kernel_rfl) ⟨by rfl, ?_⟩ (fun _ _ _ h => h) hS ?_
  rotate_left; focus (intro w hSw; (try dsimp only at hSw); go_simp; try with_reducible rfl)
  refine tk (x := ?_) 1 rfl (by kernel_rfl) ⟨by rfl, ?_⟩ (fun _ _ _ h => h) hS ?_
  rotate_left; focus (intro w hSw; (try dsimp only at hSw); go_simp; try with_reducible rfl)
  refine tk (x := ?_) 3 rfl (by kernel_rfl) ⟨by rfl, ?_⟩ (fun _ _ _ h => h) hS ?_
  rotate_left; focus (intro w hSw; (try dsimp only at hSw); go_simp; try with_reducible rfl)
  refine tk (x := ?_) 4 rfl (by kernel_rfl) ⟨by rfl, ?_⟩ (fun _ _ _ h => h) hS ?_
  rotate_left; focus (intro w hSw; (try dsimp only at hSw); go_simp; try with_reducible rfl)
  conv => arg 9; simp only [Act.put, go_sem]
  refine lpx_ccc_1 M 2 5 6 7 [70, 73, 74, 15] 1 (fcJ8 w (w7_.heap.size + 1) al ah bl bh) (by kernel_rfl) (by kernel_rfl) ?_ ?_ ?_ ?_ ?_ ?_ ?_
  · intro A hA
    obtain ⟨y1, hq1⟩ := put_ex (hA 70 (by simp))
    obtain ⟨y2, hq2⟩ := put_ex (hA 73 (by simp))
    obtain ⟨y3, hq3⟩ := put_ex (hA 74 (by simp))
    obtain ⟨z1, hq4⟩ := put_ex (hA 15 (by simp))
    exact ⟨y1, y2, y3, z1, by rw [hq1, hq2, hq3, hq4], by omega, by omega, by omega, by simp, OwnF.start M.out 1⟩
  · rintro k p a v ⟨y1, y2, y3, z1, _, _, _, _, _, h⟩
    exact (h.own.nth 6 rfl).two
  · intro p a v hJ
    refine op_step (o := _) rfl (fun K hK => ?_)
    obtain ⟨y1, y2, y3, z1, ha, gg1, h⟩ := fcJ8_0 hJ
    have h := Lib.hid h
    clear hJ
    subst ha
    go_simp
    refine (d10.out _ _ (h.out.own.nth 0 rfl)).mono ?_
    rintro rr w5 ⟨rfl, hp⟩
    try go_wp2_with fail
    refine hK.out _ _ ⟨_, y2, y3, z1, ?_, fun _ => rfl, by omega, by omega, gg1, h.out.putHead hp⟩
    kernel_rfl
  · intro p a v hJ
    refine op_step (o := _) rfl (fun K hK => ?_)
    obtain ⟨y2, y3, z1, ha, gg1, h⟩ := fcJ8_1 hJ
    have h := Lib.hid h
    clear hJ
    subst ha
    go_simp
    refine (d11.out _ _ (h.out.own.nth 0 rfl)).mono ?_
    rintro rr w5 ⟨rfl, hp⟩
    try go_wp2_with fail
    refine hK.out _ _ ⟨_, _, y3, z1, ?_, fun _ => rfl, fun _ => rfl, by omega, gg1, h.out.putHead hp⟩
    kernel_rfl
  · intro p a v hJ
    refine op_step (o := _) rfl (fun K hK => ?_)
    obtain ⟨y3, z1, ha, gg1, h⟩ := fcJ8_2 hJ
    have h := Lib.hid h
    clear hJ
    subst ha
    go_simp
    refine (d12.out _ _ (h.out.own.nth 0 rfl)).mono ?_
    rintro rr w5 ⟨rfl, hp⟩
    try go_wp2_with fail
    refine hK.out _ _ ⟨_, _, _, z1, ?_, fun _ => rfl, fun _ => rfl, fun _ => rfl, gg1, h.out.putHead hp⟩
    kernel_rfl
  · intro k p a v hp hJ
    refine op_step (o := _) rfl (fun K hK => ?_)
    obtain ⟨y1, y2, y3, z1, ha, ee1, ee2, ee3, gg1, h⟩ := hJ
    have h := Lib.hid h
    subst ha
    go_simp
    refine hK.out _ _ ⟨v.heap.size, y1, y2, y3, .pointer (some ⟨v.heap.size, 0, none⟩), ?_, ee1, ee2, ee3, fun q hq => ptr_set hq, h.out.alloc hp rfl _⟩
    kernel_rfl
  intro p8_1 a v hJ
  obtain ⟨rfl, h⟩ := fcJ8_fin hJ
  clear hJ
  replace M := Lib.hid h.fin1
  clear h
  refine tails_one (T := []) (i := 8) (o := _) rfl (by kernel_rfl) (fun K hK => ?_)
  have kc := (M.out.nth 0 rfl).2.1
  have kf := (M.out.nth 0 rfl).2.2
  replace M : Hid (Own w [(p8_1, #[.float .f64 bl, .float .f64 bh]), ((w7_.heap.size + 1), #[.int .i64 0]), ((w9_.heap.size + 1), #[.float .f64 0, .float .f64 0]), (w9_.heap.size, #[.float .f64 4611686018427387904, .float .f64 4611686018427387904]), (w7_.heap.size, #[.float .f64 fl, .float .f64 fh]), ((w6_.heap.size + 1), #[.float .f64 pk, .float .f64 pk]), (w6_.heap.size, #[.float .f64 pe, .float .f64 pe]), (w2_.heap.size, #[.float .f64 pc, .float .f64 pc])] _) := Lib.hid (M.out.set2 0 rfl (.float .f64 bl) (.float .f64 bh))
  go_simp
  refine hK.out _ _ (Or.inr (M.out.nth 7 rfl).two) (fun hHeld => ?_)
  clear hK K hHeld kc kf
  refine tails_done (by kernel_rfl) ?_ _
  refine NoPanic.normal ?_
  clear hS
  replace M : Hid (Own w [((w7_.heap.size + 1), #[.int .i64 0]), (p8_1, #[.float .f64 bl, .float .f64 bh]), ((w9_.heap.size + 1), #[.float .f64 0, .float .f64 0]), (w9_.heap.size, #[.float .f64 4611686018427387904, .float .f64 4611686018427387904]), (w7_.heap.size, #[.float .f64 fl, .float .f64 fh]), ((w6_.heap.size + 1), #[.float .f64 pk, .float .f64 pk]), (w6_.heap.size, #[.float .f64 pe, .float .f64 pe]), (w2_.heap.size, #[.float .f64 pc, .float .f64 pc])] _) := Lib.hid M.out.front
  revert M
  generalize ((v.setCell ⟨p8_1, 0, none⟩ (.float .f64 bl)).setCell ⟨p8_1, 1, none⟩ (.float .f64 bh)) = W10_
  intro M
  go_upto_region 9 with fail
  replace M := Lib.hid M.out.drew
  refine wp_region_noPanic ?_
  refine tails_region (S := fun w' => (w'.cell? ⟨w6_.heap.size, 0, none⟩ = some (.float .f64 pe) ∧ w'.cell? ⟨w6_.heap.size, 1, none⟩ = some (.float .f64 pe)) ∧ (w'.cell? ⟨(w6_.heap.size + 1), 0, none⟩ = some (.float .f64 pk) ∧ w'.cell? ⟨(w6_.heap.size + 1), 1, none⟩ = some (.float .f64 pk)) ∧ (w'.cell? ⟨w9_.heap.size, 0, none⟩ = some (.float .f64 4611686018427387904) ∧ w'.cell? ⟨w9_.heap.size, 1, none⟩ = some (.float .f64 4611686018427387904))) [] (by kernel_rfl) ?_ (fun hS => ?_)
  · exact ⟨(M.out.nth 6 rfl).two, (M.out.nth 5 rfl).two, (M.out.nth 3 rfl).two⟩
  refine tk (x := ?_) 0 rfl (by kernel_rfl) ⟨by rfl, ?_⟩ (fun _ _ _ h => h) hS ?_
  rotate_left; focus (intro w hSw; (try dsimp only at hSw); go_simp; try with_reducible rfl)
  refine tk (x := ?_) 1 rfl (by kernel_rfl) ⟨by rfl, ?_⟩ (fun _ _ _ h => h) hS ?_
  rotate_left; focus (intro w hSw; (try dsimp only at hSw); go_simp; try with_reducible rfl)
  refine tk (x := ?_) 2 rfl (by kernel_rfl) ⟨by rfl, ?_⟩ (fun _ _ _ h => h) hS ?_
  rotate_left; focus (intro w hSw; (try dsimp only at hSw); go_simp; try with_reducible rfl)
  refine tk (x := ?_) 4 rfl (by kernel_rfl) ⟨by rfl, ?_⟩ (fun _ _ _ h => h) hS ?_
  rotate_left; focus (intro w hSw; (try dsimp only at hSw); go_simp; try with_reducible rfl)
  refine tk (x := ?_) 5 rfl (by kernel_rfl) ⟨by rfl, ?_⟩ (fun _ _ _ h => h) hS ?_
  rotate_left; focus (intro w hSw; (try dsimp only at hSw); go_simp; try with_reducible rfl)
  refine tk (x := ?_) 8 rfl (by kernel_rfl) ⟨by rfl, ?_⟩ (fun _ _ _ h => h) hS ?_
  rotate_left; focus (intro w hSw; (try dsimp only at hSw); go_simp; try with_reducible rfl)
  refine tk (x := ?_) 9 rfl (by kernel_rfl) ⟨by rfl, ?_⟩ (fun _ _ _ h => h) hS ?_
  rotate_left; focus (intro w hSw; (try dsimp only at hSw); go_simp; try with_reducible rfl)
  refine tk (x := ?_) 10 rfl (by kernel_rfl) ⟨by rfl, ?_⟩ (fun _ _ _ h => h) hS ?_
  rotate_left; focus (intro w hSw; (try dsimp only at hSw); go_simp; try with_reducible rfl)
  refine tk (x := ?_) 11 rfl (by kernel_rfl) ⟨by rfl, ?_⟩ (fun _ _ _ h => h) hS ?_
  rotate_left; focus (intro w hSw; (try dsimp only at hSw); go_simp; try with_reducible rfl)
  refine tk (x := ?_) 12 rfl (by kernel_rfl) ⟨by rfl, ?_⟩ (fun _ _ _ h => h) hS ?_
  rotate_left; focus (intro w hSw; (try dsimp only at hSw); go_simp; try with_reducible rfl)
  conv => arg 9; simp only [Act.put, go_sem]
  refine lpx_ccccc_2 M 3 6 7 13 14 15 16 [78, 81, 82, 88, 89, 16, 17] 2 (fcJ9 w (w7_.heap.size + 1) dl dh gl gh il ih jl jh kl kh) (by kernel_rfl) (by kernel_rfl) ?_ ?_ ?_ ?_ ?_ ?_ ?_ ?_ ?_ ?_
  · intro A hA
    obtain ⟨y1, hq1⟩ := put_ex (hA 78 (by simp))
    obtain ⟨y2, hq2⟩ := put_ex (hA 81 (by simp))
    obtain ⟨y3, hq3⟩ := put_ex (hA 82 (by simp))
    obtain ⟨y4, hq4⟩ := put_ex (hA 88 (by simp))
    obtain ⟨y5, hq5⟩ := put_ex (hA 89 (by simp))
    obtain ⟨z1, hq6⟩ := put_ex (hA 16 (by simp))
    obtain ⟨z2, hq7⟩ := put_ex (hA 17 (by simp))
    exact ⟨y1, y2, y3, y4, y5, z1, z2, by rw [hq1, hq2, hq3, hq4, hq5, hq6, hq7], by omega, by omega, by omega, by omega, by omega, by simp, by simp, OwnF.start M.out 2⟩
  · rintro k p a v ⟨y1, y2, y3, y4, y5, z1, z2, _, _, _, _, _, _, _, _, h⟩
    exact ⟨(h.own.nth 6 rfl).two, (h.own.nth 5 rfl).two, (h.own.nth 3 rfl).two⟩
  · intro p a v hJ
    refine op_step (o := _) rfl (fun K hK => ?_)
    obtain ⟨y1, y2, y3, y4, y5, z1, z2, ha, gg1, gg2, h⟩ := fcJ9_0 hJ
    have h := Lib.hid h
    clear hJ
    subst ha
    go_simp
    refine (d13.out _ _ (h.out.own.nth 0 rfl)).mono ?_
    rintro rr w5 ⟨rfl, hp⟩
    try go_wp2_with fail
    refine hK.out _ _ ⟨_, y2, y3, y4, y5, z1, z2, ?_, fun _ => rfl, by omega, by omega, by omega, by omega, gg1, gg2, h.out.putHead hp⟩
    kernel_rfl
  · intro p a v hJ
    refine op_step (o := _) rfl (fun K hK => ?_)
    obtain ⟨y2, y3, y4, y5, z1, z2, ha, gg1, gg2, h⟩ := fcJ9_1 hJ
    have h := Lib.hid h
    clear hJ
    subst ha
    go_simp
    refine (d14.out _ _ (h.out.own.nth 0 rfl)).mono ?_
    rintro rr w5 ⟨rfl, hp⟩
    try go_wp2_with fail
    refine hK.out _ _ ⟨_, _, y3, y4, y5, z1, z2, ?_, fun _ => rfl, fun _ => rfl, by omega, by omega, by omega, gg1, gg2, h.out.putHead hp⟩
    kernel_rfl
  · intro p a v hJ
    refine op_step (o := _) rfl (fun K hK => ?_)
    obtain ⟨y3, y4, y5, z1, z2, ha, gg1, gg2, h⟩ := fcJ9_2 hJ
    have h := Lib.hid h
    clear hJ
    subst ha
    go_simp
    refine (d15.out _ _ (h.out.own.nth 0 rfl)).mono ?_
    rintro rr w5 ⟨rfl, hp⟩
    try go_wp2_with fail
    refine hK.out _ _ ⟨_, _, _, y4, y5, z1, z2, ?_, fun _ => rfl, fun _ => rfl, fun _ => rfl, by omega, by omega, gg1, gg2, h.out.putHead hp⟩
    kernel_rfl
  · intro p a v hJ
    refine op_step (o := _) rfl (fun K hK => ?_)
    obtain ⟨y4, y5, z1, z2, ha, gg1, gg2, h⟩ := fcJ9_3 hJ
    have h := Lib.hid h
    clear hJ
    subst ha
    go_simp
    refine (d16.out _ _ (h.out.own.nth 0 rfl)).mono ?_
    rintro rr w5 ⟨rfl, hp⟩
    try go_wp2_with fail
    refine hK.out _ _ ⟨_, _, _, _, y5, z1, z2, ?_, fun _ => rfl, fun _ => rfl, fun _ => rfl, fun _ => rfl, by omega, gg1, gg2, h.out.putHead hp⟩
    kernel_rfl
  · intro p a v hJ
    refine op_step (o := _) rfl (fun K hK => ?_)
    obtain ⟨y5, z1, z2, ha, gg1, gg2, h⟩ := fcJ9_4 hJ
    have h := Lib.hid h
    clear hJ
    subst ha
    go_simp
    refine (d17.out _ _ (h.out.own.nth 0 rfl)).mono ?_
    rintro rr w5 ⟨rfl, hp⟩
    try go_wp2_with fail
    refine hK.out _ _ ⟨_, _, _, _, _, z1, z2, ?_, fun _ => rfl, fun _ => rfl, fun _ => rfl, fun _ => rfl, fun _ => rfl, gg1, gg2, h.out.putHead hp⟩
    kernel_rfl
  · intro k p a v hp hJ
    refine op_step (o := _) rfl (fun K hK => ?_)
    obtain ⟨y1, y2, y3, y4, y5, z1, z2, ha, ee1, ee2, ee3, ee4, ee5, gg1, gg2, h⟩ := hJ
    have h := Lib.hid h
    subst ha
    go_simp
    refine hK.out _ _ ⟨v.heap.size, y1, y2, y3, y4, y5, .pointer (some ⟨v.heap.size, 0, none⟩), z2, ?_, ee1, ee2, ee3, ee4, ee5, fun q hq => ptr_set hq, ptr_keep 1 (by decide) gg2, h.out.alloc hp rfl _⟩
    kernel_rfl
  · intro k p a v hp hJ
    refine op_step (o := _) rfl (fun K hK => ?_)
    obtain ⟨y1, y2, y3, y4, y5, z1, z2, ha, ee1, ee2, ee3, ee4, ee5, gg1, gg2, h⟩ := hJ
    have h := Lib.hid h
    subst ha
    go_simp
    refine hK.out _ _ ⟨v.heap.size, y1, y2, y3, y4, y5, z1, .pointer (some ⟨v.heap.size, 0, none⟩), ?_, ee1, ee2, ee3, ee4, ee5, ptr_keep 0 (by decide) gg1, fun q hq => ptr_set hq, h.out.alloc hp rfl _⟩
    kernel_rfl
  intro p9_1 p9_2 a v hJ
  obtain ⟨rfl, h⟩ := fcJ9_fin hJ
  clear hJ
  replace M := Lib.hid h.fin2
  clear h
  refine tails_one (T := []) (i := 17) (o := _) rfl (by kernel_rfl) (fun K hK => ?_)
  have kc := (M.out.nth 0 rfl).2.1
  have kf := (M.out.nth 0 rfl).2.2
  replace M : Hid (Own w [(p9_1, #[.float .f64 il, .float .f64 ih]), (p9_2, #[.float .f64 0, .float .f64 0]), ((w7_.heap.size + 1), #[.int .i64 0]), (p8_1, #[.float .f64 bl, .float .f64 bh]), ((w9_.heap.size + 1), #[.float .f64 0, .float .f64 0]), (w9_.heap.size, #[.float .f64 4611686018427387904, .float .f64 4611686018427387904]), (w7_.heap.size, #[.float .f64 fl, .float .f64 fh]), ((w6_.heap.size + 1), #[.float .f64 pk, .float .f64 pk]), (w6_.heap.size, #[.float .f64 pe, .float .f64 pe]), (w2_.heap.size, #[.float .f64 pc, .float .f64 pc])] _) := Lib.hid (M.out.set2 0 rfl (.float .f64 il) (.float .f64 ih))
  go_simp
  refine hK.out _ _ (Or.inr ⟨(M.out.nth 8 rfl).two, (M.out.nth 7 rfl).two, (M.out.nth 5 rfl).two⟩) (fun hHeld => ?_)
  clear hK K hHeld kc kf
  refine tails_one (T := []) (i := 18) (o := _) rfl (by kernel_rfl) (fun K hK => ?_)
  have kc := (M.out.nth 1 rfl).2.1
  have kf := (M.out.nth 1 rfl).2.2
  replace M : Hid (Own w [(p9_1, #[.float .f64 il, .float .f64 ih]), (p9_2, #[.float .f64 kl, .float .f64 kh]), ((w7_.heap.size + 1), #[.int .i64 0]), (p8_1, #[.float .f64 bl, .float .f64 bh]), ((w9_.heap.size + 1), #[.float .f64 0, .float .f64 0]), (w9_.heap.size, #[.float .f64 4611686018427387904, .float .f64 4611686018427387904]), (w7_.heap.size, #[.float .f64 fl, .float .f64 fh]), ((w6_.heap.size + 1), #[.float .f64 pk, .float .f64 pk]), (w6_.heap.size, #[.float .f64 pe, .float .f64 pe]), (w2_.heap.size, #[.float .f64 pc, .float .f64 pc])] _) := Lib.hid (M.out.set2 1 rfl (.float .f64 kl) (.float .f64 kh))
  go_simp
  refine hK.out _ _ (Or.inr ⟨(M.out.nth 8 rfl).two, (M.out.nth 7 rfl).two, (M.out.nth 5 rfl).two⟩) (fun hHeld => ?_)
  clear hK K hHeld kc kf
  refine tails_done (by kernel_rfl) ?_ _
  refine NoPanic.normal ?_
  clear hS
  replace M : Hid (Own w [((w7_.heap.size + 1), #[.int .i64 0]), (p9_1, #[.float .f64 il, .float .f64 ih]), (p9_2, #[.float .f64 kl, .float .f64 kh]), (p8_1, #[.float .f64 bl, .float .f64 bh]), ((w9_.heap.size + 1), #[.float .f64 0, .float .f64 0]), (w9_.heap.size, #[.float .f64 4611686018427387904, .float .f64 4611686018427387904]), (w7_.heap.size, #[.float .f64 fl, .float .f64 fh]), ((w6_.heap.size + 1), #[.float .f64 pk, .float .f64 pk]), (w6_.heap.size, #[.float .f64 pe, .float .f64 pe]), (w2_.heap.size, #[.float .f64 pc, .float .f64 pc])] _) := Lib.hid M.out.front2
  revert M
  generalize ((((v.setCell ⟨p9_1, 0, none⟩ (.float .f64 il)).setCell ⟨p9_1, 1, none⟩ (.float .f64 ih)).setCell ⟨p9_2, 0, none⟩ (.float .f64 kl)).setCell ⟨p9_2, 1, none⟩ (.float .f64 kh)) = W11_
  intro M
  obtain ⟨k1, k2⟩ := (M.out.nth 1 rfl).two
  obtain ⟨k3, k4⟩ := (M.out.nth 3 rfl).two
  go_wp2_with fail
  refine (d18.out _ _ (M.out.nth 0 rfl)).mono ?_
  rintro r w12_ ⟨rfl, hb⟩
  replace M : Hid (Own w [((w7_.heap.size + 1), #[.int .i64 0]), (p9_1, #[.float .f64 il, .float .f64 ih]), (p9_2, #[.float .f64 kl, .float .f64 kh]), (p8_1, #[.float .f64 bl, .float .f64 bh]), ((w9_.heap.size + 1), #[.float .f64 0, .float .f64 0]), (w9_.heap.size, #[.float .f64 4611686018427387904, .float .f64 4611686018427387904]), (w7_.heap.size, #[.float .f64 fl, .float .f64 fh]), ((w6_.heap.size + 1), #[.float .f64 pk, .float .f64 pk]), (w6_.heap.size, #[.float .f64 pe, .float .f64 pe]), (w2_.heap.size, #[.float .f64 pc, .float .f64 pc])] w12_) := Lib.hid (M.out.putAt 0 rfl hb)
  clear hb
  clear k1 k2 k3 k4
  replace M := Lib.hid (M.out.made #[.float .f64 ll, .float .f64 lh] 24).front
  go_upto_region 11 with fail
  replace M := Lib.hid M.out.drew
  refine wp_region_noPanic ?_
  refine tails_region (S := fun w' => (w'.cell? ⟨w12_.heap.size, 0, none⟩ = some (.float .f64 ll) ∧ w'.cell? ⟨w12_.heap.size, 1, none⟩ = some (.float .f64 lh)) ∧ (w'.cell? ⟨p9_2, 0, none⟩ = some (.float .f64 kl) ∧ w'.cell? ⟨p9_2, 1, none⟩ = some (.float .f64 kh))) [] (by kernel_rfl) ?_ (fun hS => ?_)
  · exact ⟨(M.out.nth 1 rfl).two, (M.out.nth 3 rfl).two⟩
  refine tk (x := ?_) 0 rfl (by kernel_rfl) ⟨by rfl, ?_⟩ (fun _ _ _ h => h) hS ?_
  rotate_left; focus (intro w hSw; (try dsimp only at hSw); go_simp; try with_reducible rfl)
  refine tk (x := ?_) 1 rfl (by kernel_rfl) ⟨by rfl, ?_⟩ (fun _ _ _ h => h) hS ?_
  rotate_left; focus (intro w hSw; (try dsimp only at hSw); go_simp; try with_reducible rfl)
  refine tk (x := ?_) 2 rfl (by kernel_rfl) ⟨by rfl, ?_⟩ (fun _ _ _ h => h) hS ?_
  rotate_left; focus (intro w hSw; (try dsimp only at hSw); go_simp; try with_reducible rfl)
  refine tk (x := ?_) 3 rfl (by kernel_rfl) ⟨by rfl, ?_⟩ (fun _ _ _ h => h) hS ?_
  rotate_left; focus (intro w hSw; (try dsimp only at hSw); go_simp; try with_reducible rfl)
  refine tk (x := ?_) 5 rfl (by kernel_rfl) ⟨by rfl, ?_⟩ (fun _ _ _ h => h) hS ?_
  rotate_left; focus (intro w hSw; (try dsimp only at hSw); go_simp; try with_reducible rfl)
  refine tk (x := ?_) 6 rfl (by kernel_rfl) ⟨by rfl, ?_⟩ (fun _ _ _ h => h) hS ?_
  rotate_left; focus (intro w hSw; (try dsimp only at hSw); go_simp; try with_reducible rfl)
  conv => arg 9; simp only [Act.put, go_sem]
  refine lpx_cccc_1 M 4 7 8 9 10 [98, 101, 102, 103, 19] 1 (fcJ11 w (w7_.heap.size + 1) ml mh nl nh ol oh ql qh) (by kernel_rfl) (by kernel_rfl) ?_ ?_ ?_ ?_ ?_ ?_ ?_ ?_
  · intro A hA
    obtain ⟨y1, hq1⟩ := put_ex (hA 98 (by simp))
    obtain ⟨y2, hq2⟩ := put_ex (hA 101 (by simp))
    obtain ⟨y3, hq3⟩ := put_ex (hA 102 (by simp))
    obtain ⟨y4, hq4⟩ := put_ex (hA 103 (by simp))
    obtain ⟨z1, hq5⟩ := put_ex (hA 19 (by simp))
    exact ⟨y1, y2, y3, y4, z1, by rw [hq1, hq2, hq3, hq4, hq5], by omega, by omega, by omega, by omega, by simp, OwnF.start M.out 1⟩
  · rintro k p a v ⟨y1, y2, y3, y4, z1, _, _, _, _, _, _, h⟩
    exact ⟨(h.own.nth 1 rfl).two, (h.own.nth 3 rfl).two⟩
  · intro p a v hJ
    refine op_step (o := _) rfl (fun K hK => ?_)
    obtain ⟨y1, y2, y3, y4, z1, ha, gg1, h⟩ := fcJ11_0 hJ
    have h := Lib.hid h
    clear hJ
    subst ha
    go_simp
    refine (d19.out _ _ (h.out.own.nth 0 rfl)).mono ?_
    rintro rr w5 ⟨rfl, hp⟩
    try go_wp2_with fail
    refine hK.out _ _ ⟨_, y2, y3, y4, z1, ?_, fun _ => rfl, by omega, by omega, by omega, gg1, h.out.putHead hp⟩
    kernel_rfl
  · intro p a v hJ
    refine op_step (o := _) rfl (fun K hK => ?_)
    obtain ⟨y2, y3, y4, z1, ha, gg1, h⟩ := fcJ11_1 hJ
    have h := Lib.hid h
    clear hJ
    subst ha
    go_simp
    refine (d20.out _ _ (h.out.own.nth 0 rfl)).mono ?_
    rintro rr w5 ⟨rfl, hp⟩
    try go_wp2_with fail
    refine hK.out _ _ ⟨_, _, y3, y4, z1, ?_, fun _ => rfl, fun _ => rfl, by omega, by omega, gg1, h.out.putHead hp⟩
    kernel_rfl
  · intro p a v hJ
    refine op_step (o := _) rfl (fun K hK => ?_)
    obtain ⟨y3, y4, z1, ha, gg1, h⟩ := fcJ11_2 hJ
    have h := Lib.hid h
    clear hJ
    subst ha
    go_simp
    refine (d21.out _ _ (h.out.own.nth 0 rfl)).mono ?_
    rintro rr w5 ⟨rfl, hp⟩
    try go_wp2_with fail
    refine hK.out _ _ ⟨_, _, _, y4, z1, ?_, fun _ => rfl, fun _ => rfl, fun _ => rfl, by omega, gg1, h.out.putHead hp⟩
    kernel_rfl
  · intro p a v hJ
    refine op_step (o := _) rfl (fun K hK => ?_)
    obtain ⟨y4, z1, ha, gg1, h⟩ := fcJ11_3 hJ
    have h := Lib.hid h
    clear hJ
    subst ha
    go_simp
    refine (d22.out _ _ (h.out.own.nth 0 rfl)).mono ?_
    rintro rr w5 ⟨rfl, hp⟩
    try go_wp2_with fail
    refine hK.out _ _ ⟨_, _, _, _, z1, ?_, fun _ => rfl, fun _ => rfl, fun _ => rfl, fun _ => rfl, gg1, h.out.putHead hp⟩
    kernel_rfl
  · intro k p a v hp hJ
    refine op_step (o := _) rfl (fun K hK => ?_)
    obtain ⟨y1, y2, y3, y4, z1, ha, ee1, ee2, ee3, ee4, gg1, h⟩ := hJ
    have h := Lib.hid h
    subst ha
    go_simp
    refine hK.out _ _ ⟨v.heap.size, y1, y2, y3, y4, .pointer (some ⟨v.heap.size, 0, none⟩), ?_, ee1, ee2, ee3, ee4, fun q hq => ptr_set hq, h.out.alloc hp rfl _⟩
    kernel_rfl
  intro p11_1 a v hJ
  obtain ⟨rfl, h⟩ := fcJ11_fin hJ
  clear hJ
  replace M := Lib.hid h.fin1
  clear h
  refine tails_one (T := []) (i := 11) (o := _) rfl (by kernel_rfl) (fun K hK => ?_)
  have kc := (M.out.nth 0 rfl).2.1
  have kf := (M.out.nth 0 rfl).2.2
  replace M : Hid (Own w [(p11_1, #[.float .f64 ql, .float .f64 qh]), ((w7_.heap.size + 1), #[.int .i64 0]), (w12_.heap.size, #[.float .f64 ll, .float .f64 lh]), (p9_1, #[.float .f64 il, .float .f64 ih]), (p9_2, #[.float .f64 kl, .float .f64 kh]), (p8_1, #[.float .f64 bl, .float .f64 bh]), ((w9_.heap.size + 1), #[.float .f64 0, .float .f64 0]), (w9_.heap.size, #[.float .f64 4611686018427387904, .float .f64 4611686018427387904]), (w7_.heap.size, #[.float .f64 fl, .float .f64 fh]), ((w6_.heap.size + 1), #[.float .f64 pk, .float .f64 pk]), (w6_.heap.size, #[.float .f64 pe, .float .f64 pe]), (w2_.heap.size, #[.float .f64 pc, .float .f64 pc])] _) := Lib.hid (M.out.set2 0 rfl (.float .f64 ql) (.float .f64 qh))
  go_simp
  refine hK.out _ _ (Or.inr ⟨(M.out.nth 2 rfl).two, (M.out.nth 4 rfl).two⟩) (fun hHeld => ?_)
  clear hK K hHeld kc kf
  refine tails_done (by kernel_rfl) ?_ _
  refine NoPanic.normal ?_
  clear hS
  replace M : Hid (Own w [((w7_.heap.size + 1), #[.int .i64 0]), (p11_1, #[.float .f64 ql, .float .f64 qh]), (w12_.heap.size, #[.float .f64 ll, .float .f64 lh]), (p9_1, #[.float .f64 il, .float .f64 ih]), (p9_2, #[.float .f64 kl, .float .f64 kh]), (p8_1, #[.float .f64 bl, .float .f64 bh]), ((w9_.heap.size + 1), #[.float .f64 0, .float .f64 0]), (w9_.heap.size, #[.float .f64 4611686018427387904, .float .f64 4611686018427387904]), (w7_.heap.size, #[.float .f64 fl, .float .f64 fh]), ((w6_.heap.size + 1), #[.float .f64 pk, .float .f64 pk]), (w6_.heap.size, #[.float .f64 pe, .float .f64 pe]), (w2_.heap.size, #[.float .f64 pc, .float .f64 pc])] _) := Lib.hid M.out.front
  revert M
  generalize ((v.setCell ⟨p11_1, 0, none⟩ (.float .f64 ql)).setCell ⟨p11_1, 1, none⟩ (.float .f64 qh)) = W13_
  intro M
  go_upto_region 12 with fail
  replace M := Lib.hid M.out.drew
  refine wp_region_noPanic ?_
  refine tails_region (S := fun w' => (w'.cell? ⟨p11_1, 0, none⟩ = some (.float .f64 ql) ∧ w'.cell? ⟨p11_1, 1, none⟩ = some (.float .f64 qh)) ∧ (w'.cell? ⟨w12_.heap.size, 0, none⟩ = some (.float .f64 ll) ∧ w'.cell? ⟨w12_.heap.size, 1, none⟩ = some (.float .f64 lh)) ∧ (w'.cell? ⟨w9_.heap.size, 0, none⟩ = some (.float .f64 4611686018427387904) ∧ w'.cell? ⟨w9_.heap.size, 1, none⟩ = some (.float .f64 4611686018427387904)) ∧ (w'.cell? ⟨(w9_.heap.size + 1), 0, none⟩ = some (.float .f64 0) ∧ w'.cell? ⟨(w9_.heap.size + 1), 1, none⟩ = some (.float .f64 0))) [] (by kernel_rfl) ?_ (fun hS => ?_)
  · exact ⟨(M.out.nth 1 rfl).two, (M.out.nth 2 rfl).two, (M.out.nth 7 rfl).two, (M.out.nth 6 rfl).two⟩
  refine tk (x := ?_) 0 rfl (by kernel_rfl) ⟨by rfl, ?_⟩ (fun _ _ _ h => h) hS ?_
  rotate_left; focus (intro w hSw; (try dsimp only at hSw); go_simp; try with_reducible rfl)
  refine tk (x := ?_) 1 rfl (by kernel_rfl) ⟨by rfl, ?_⟩ (fun _ _ _ h => h) hS ?_
  rotate_left; focus (intro w hSw; (try dsimp only at hSw); go_simp; try with_reducible rfl)
  refine tk (x := ?_) 2 rfl (by kernel_rfl) ⟨by rfl, ?_⟩ (fun _ _ _ h => h) hS ?_
  rotate_left; focus (intro w hSw; (try dsimp only at hSw); go_simp; try with_reducible rfl)
  refine tk (x := ?_) 3 rfl (by kernel_rfl) ⟨by rfl, ?_⟩ (fun _ _ _ h => h) hS ?_
  rotate_left; focus (intro w hSw; (try dsimp only at hSw); go_simp; try with_reducible rfl)
  refine tk (x := ?_) 4 rfl (by kernel_rfl) ⟨by rfl, ?_⟩ (fun _ _ _ h => h) hS ?_
  rotate_left; focus (intro w hSw; (try dsimp only at hSw); go_simp; try with_reducible rfl)
  refine tk (x := ?_) 5 rfl (by kernel_rfl) ⟨by rfl, ?_⟩ (fun _ _ _ h => h) hS ?_
  rotate_left; focus (intro w hSw; (try dsimp only at hSw); go_simp; try with_reducible rfl)
  refine tk (x := ?_) 7 rfl (by kernel_rfl) ⟨by rfl, ?_⟩ (fun _ _ _ h => h) hS ?_
  rotate_left; focus (intro w hSw; (try dsimp only at hSw); go_simp; try with_reducible rfl)
  refine tk (x := ?_) 9 rfl (by kernel_rfl) ⟨by rfl, ?_⟩ (fun _ _ _ h => h) hS ?_
  rotate_left; focus (intro w hSw; (try dsimp only at hSw); go_simp; try with_reducible rfl)
  conv => arg 9; simp only [Act.put, go_sem]
  refine lpx_cccc_1 M 6 8 10 11 12 [110, 112, 114, 115, 20] 1 (fcJ12 w (w7_.heap.size + 1) rl rh sl sh tl th ul uh) (by kernel_rfl) (by kernel_rfl) ?_ ?_ ?_ ?_ ?_ ?_ ?_ ?_
  · intro A hA
    obtain ⟨y1, hq1⟩ := put_ex (hA 110 (by simp))
    obtain ⟨y2, hq2⟩ := put_ex (hA 112 (by simp))
    obtain ⟨y3, hq3⟩ := put_ex (hA 114 (by simp))
    obtain ⟨y4, hq4⟩ := put_ex (hA 115 (by simp))
    obtain ⟨z1, hq5⟩ := put_ex (hA 20 (by simp))
    exact ⟨y1, y2, y3, y4, z1, by rw [hq1, hq2, hq3, hq4, hq5], by omega, by omega, by omega, by omega, by simp, OwnF.start M.out 1⟩
  · rintro k p a v ⟨y1, y2, y3, y4, z1, _, _, _, _, _, _, h⟩
    exact ⟨(h.own.nth 1 rfl).two, (h.own.nth 2 rfl).two, (h.own.nth 7 rfl).two, (h.own.nth 6 rfl).two⟩
  · intro p a v hJ
    refine op_step (o := _) rfl (fun K hK => ?_)
    obtain ⟨y1, y2, y3, y4, z1, ha, gg1, h⟩ := fcJ12_0 hJ
    have h := Lib.hid h
    clear hJ
    subst ha
    go_simp
    refine (d23.out _ _ (h.out.own.nth 0 rfl)).mono ?_
    rintro rr w5 ⟨rfl, hp⟩
    try go_wp2_with fail
    refine hK.out _ _ ⟨_, y2, y3, y4, z1, ?_, fun _ => rfl, by omega, by omega, by omega, gg1, h.out.putHead hp⟩
    kernel_rfl
  · intro p a v hJ
    refine op_step (o := _) rfl (fun K hK => ?_)
    obtain ⟨y2, y3, y4, z1, ha, gg1, h⟩ := fcJ12_1 hJ
    have h := Lib.hid h
    clear hJ
    subst ha
    go_simp
    refine (d24.out _ _ (h.out.own.nth 0 rfl)).mono ?_
    rintro rr w5 ⟨rfl, hp⟩
    try go_wp2_with fail
    refine hK.out _ _ ⟨_, _, y3, y4, z1, ?_, fun _ => rfl, fun _ => rfl, by omega, by omega, gg1, h.out.putHead hp⟩
    kernel_rfl
  · intro p a v hJ
    refine op_step (o := _) rfl (fun K hK => ?_)
    obtain ⟨y3, y4, z1, ha, gg1, h⟩ := fcJ12_2 hJ
    have h := Lib.hid h
    clear hJ
    subst ha
    go_simp
    refine (d25.out _ _ (h.out.own.nth 0 rfl)).mono ?_
    rintro rr w5 ⟨rfl, hp⟩
    try go_wp2_with fail
    refine hK.out _ _ ⟨_, _, _, y4, z1, ?_, fun _ => rfl, fun _ => rfl, fun _ => rfl, by omega, gg1, h.out.putHead hp⟩
    kernel_rfl
  · intro p a v hJ
    refine op_step (o := _) rfl (fun K hK => ?_)
    obtain ⟨y4, z1, ha, gg1, h⟩ := fcJ12_3 hJ
    have h := Lib.hid h
    clear hJ
    subst ha
    go_simp
    refine (d26.out _ _ (h.out.own.nth 0 rfl)).mono ?_
    rintro rr w5 ⟨rfl, hp⟩
    try go_wp2_with fail
    refine hK.out _ _ ⟨_, _, _, _, z1, ?_, fun _ => rfl, fun _ => rfl, fun _ => rfl, fun _ => rfl, gg1, h.out.putHead hp⟩
    kernel_rfl
  · intro k p a v hp hJ
    refine op_step (o := _) rfl (fun K hK => ?_)
    obtain ⟨y1, y2, y3, y4, z1, ha, ee1, ee2, ee3, ee4, gg1, h⟩ := hJ
    have h := Lib.hid h
    subst ha
    go_simp
    refine hK.out _ _ ⟨v.heap.size, y1, y2, y3, y4, .pointer (some ⟨v.heap.size, 0, none⟩), ?_, ee1, ee2, ee3, ee4, fun q hq => ptr_set hq, h.out.alloc hp rfl _⟩
    kernel_rfl
  intro p12_1 a v hJ
  obtain ⟨rfl, h⟩ := fcJ12_fin hJ
  clear hJ
  replace M := Lib.hid h.fin1
  clear h
  refine tails_one (T := []) (i := 13) (o := _) rfl (by kernel_rfl) (fun K hK => ?_)
  have kc := (M.out.nth 0 rfl).2.1
  have kf := (M.out.nth 0 rfl).2.2
  replace M : Hid (Own w [(p12_1, #[.float .f64 ul, .float .f64 uh]), ((w7_.heap.size + 1), #[.int .i64 0]), (p11_1, #[.float .f64 ql, .float .f64 qh]), (w12_.heap.size, #[.float .f64 ll, .float .f64 lh]), (p9_1, #[.float .f64 il, .float .f64 ih]), (p9_2, #[.float .f64 kl, .float .f64 kh]), (p8_1, #[.float .f64 bl, .float .f64 bh]), ((w9_.heap.size + 1), #[.float .f64 0, .float .f64 0]), (w9_.heap.size, #[.float .f64 4611686018427387904, .float .f64 4611686018427387904]), (w7_.heap.size, #[.float .f64 fl, .float .f64 fh]), ((w6_.heap.size + 1), #[.float .f64 pk, .float .f64 pk]), (w6_.heap.size, #[.float .f64 pe, .float .f64 pe]), (w2_.heap.size, #[.float .f64 pc, .float .f64 pc])] _) := Lib.hid (M.out.set2 0 rfl (.float .f64 ul) (.float .f64 uh))
  go_simp
  refine hK.out _ _ (Or.inr ⟨(M.out.nth 2 rfl).two, (M.out.nth 3 rfl).two, (M.out.nth 8 rfl).two, (M.out.nth 7 rfl).two⟩) (fun hHeld => ?_)
  clear hK K hHeld kc kf
  refine tails_done (by kernel_rfl) ?_ _
  refine NoPanic.normal ?_
  clear hS
  replace M : Hid (Own w [((w7_.heap.size + 1), #[.int .i64 0]), (p12_1, #[.float .f64 ul, .float .f64 uh]), (p11_1, #[.float .f64 ql, .float .f64 qh]), (w12_.heap.size, #[.float .f64 ll, .float .f64 lh]), (p9_1, #[.float .f64 il, .float .f64 ih]), (p9_2, #[.float .f64 kl, .float .f64 kh]), (p8_1, #[.float .f64 bl, .float .f64 bh]), ((w9_.heap.size + 1), #[.float .f64 0, .float .f64 0]), (w9_.heap.size, #[.float .f64 4611686018427387904, .float .f64 4611686018427387904]), (w7_.heap.size, #[.float .f64 fl, .float .f64 fh]), ((w6_.heap.size + 1), #[.float .f64 pk, .float .f64 pk]), (w6_.heap.size, #[.float .f64 pe, .float .f64 pe]), (w2_.heap.size, #[.float .f64 pc, .float .f64 pc])] _) := Lib.hid M.out.front
  revert M
  generalize ((v.setCell ⟨p12_1, 0, none⟩ (.float .f64 ul)).setCell ⟨p12_1, 1, none⟩ (.float .f64 uh)) = W14_
  intro M
  go_upto_region 13 with fail
  replace M := Lib.hid M.out.drew
  refine wp_region_noPanic ?_
  refine tails_region (S := fun w' => (w'.cell? ⟨p11_1, 0, none⟩ = some (.float .f64 ql) ∧ w'.cell? ⟨p11_1, 1, none⟩ = some (.float .f64 qh)) ∧ (w'.cell? ⟨w12_.heap.size, 0, none⟩ = some (.float .f64 ll) ∧ w'.cell? ⟨w12_.heap.size, 1, none⟩ = some (.float .f64 lh)) ∧ (w'.cell? ⟨w9_.heap.size, 0, none⟩ = some (.float .f64 4611686018427387904) ∧ w'.cell? ⟨w9_.heap.size, 1, none⟩ = some (.float .f64 4611686018427387904)) ∧ (w'.cell? ⟨(w9_.heap.size + 1), 0, none⟩ = some (.float .f64 0) ∧ w'.cell? ⟨(w9_.heap.size + 1), 1, none⟩ = some (.float .f64 0))) [] (by kernel_rfl) ?_ (fun hS => ?_)
  · exact ⟨(M.out.nth 2 rfl).two, (M.out.nth 3 rfl).two, (M.out.nth 8 rfl).two, (M.out.nth 7 rfl).two⟩
  refine tk (x := ?_) 0 rfl (by kernel_rfl) ⟨by rfl, ?_⟩ (fun _ _ _ h => h) hS ?_
  rotate_left; focus (intro w hSw; (try dsimp only at hSw); go_simp; try with_reducible rfl)
  refine tk (x := ?_) 1 rfl (by kernel_rfl) ⟨by rfl, ?_⟩ (fun _ _ _ h => h) hS ?_
  rotate_left; focus (intro w hSw; (try dsimp only at hSw); go_simp; try with_reducible rfl)
  refine tk (x := ?_) 2 rfl (by kernel_rfl) ⟨by rfl, ?_⟩ (fun _ _ _ h => h) hS ?_
  rotate_left; focus (intro w hSw; (try dsimp only at hSw); go_simp; try with_reducible rfl)
  refine tk (x := ?_) 3 rfl (by kernel_rfl) ⟨by rfl, ?_⟩ (fun _ _ _ h => h) hS ?_
  rotate_left; focus (intro w hSw; (try dsimp only at hSw); go_simp; try with_reducible rfl)
  refine tk (x := ?_) 4 rfl (by kernel_rfl) ⟨by rfl, ?_⟩ (fun _ _ _ h => h) hS ?_
  rotate_left; focus (intro w hSw; (try dsimp only at hSw); go_simp; try with_reducible rfl)
  refine tk (x := ?_) 5 rfl (by kernel_rfl) ⟨by rfl, ?_⟩ (fun _ _ _ h => h) hS ?_
  rotate_left; focus (intro w hSw; (try dsimp only at hSw); go_simp; try with_reducible rfl)
  refine tk (x := ?_) 7 rfl (by kernel_rfl) ⟨by rfl, ?_⟩ (fun _ _ _ h => h) hS ?_
  rotate_left; focus (intro w hSw; (try dsimp only at hSw); go_simp; try with_reducible rfl)
  refine tk (x := ?_) 9 rfl (by kernel_rfl) ⟨by rfl, ?_⟩ (fun _ _ _ h => h) hS ?_
  rotate_left; focus (intro w hSw; (try dsimp only at hSw); go_simp; try with_reducible rfl)
  conv => arg 9; simp only [Act.put, go_sem]
  refine lpx_cccc_1 M 6 8 10 11 12 [122, 124, 126, 127, 21] 1 (fcJ13 w (w7_.heap.size + 1) vl vh xl xh yl yh zl zh) (by kernel_rfl) (by kernel_rfl) ?_ ?_ ?_ ?_ ?_ ?_ ?_ ?_
  · intro A hA
    obtain ⟨y1, hq1⟩ := put_ex (hA 122 (by simp))
    obtain ⟨y2, hq2⟩ := put_ex (hA 124 (by simp))
    obtain ⟨y3, hq3⟩ := put_ex (hA 126 (by simp))
    obtain ⟨y4, hq4⟩ := put_ex (hA 127 (by simp))
    obtain ⟨z1, hq5⟩ := put_ex (hA 21 (by simp))
    exact ⟨y1, y2, y3, y4, z1, by rw [hq1, hq2, hq3, hq4, hq5], by omega, by omega, by omega, by omega, by simp, OwnF.start M.out 1⟩
  · rintro k p a v ⟨y1, y2, y3, y4, z1, _, _, _, _, _, _, h⟩
    exact ⟨(h.own.nth 2 rfl).two, (h.own.nth 3 rfl).two, (h.own.nth 8 rfl).two, (h.own.nth 7 rfl).two⟩
  · intro p a v hJ
    refine op_step (o := _) rfl (fun K hK => ?_)
    obtain ⟨y1, y2, y3, y4, z1, ha, gg1, h⟩ := fcJ13_0 hJ
    have h := Lib.hid h
    clear hJ
    subst ha
    go_simp
    refine (d27.out _ _ (h.out.own.nth 0 rfl)).mono ?_
    rintro rr w5 ⟨rfl, hp⟩
    try go_wp2_with fail
    refine hK.out _ _ ⟨_, y2, y3, y4, z1, ?_, fun _ => rfl, by omega, by omega, by omega, gg1, h.out.putHead hp⟩
    kernel_rfl
  · intro p a v hJ
    refine op_step (o := _) rfl (fun K hK => ?_)
    obtain ⟨y2, y3, y4, z1, ha, gg1, h⟩ := fcJ13_1 hJ
    have h := Lib.hid h
    clear hJ
    subst ha
    go_simp
    refine (d28.out _ _ (h.out.own.nth 0 rfl)).mono ?_
    rintro rr w5 ⟨rfl, hp⟩
    try go_wp2_with fail
    refine hK.out _ _ ⟨_, _, y3, y4, z1, ?_, fun _ => rfl, fun _ => rfl, by omega, by omega, gg1, h.out.putHead hp⟩
    kernel_rfl
  · intro p a v hJ
    refine op_step (o := _) rfl (fun K hK => ?_)
    obtain ⟨y3, y4, z1, ha, gg1, h⟩ := fcJ13_2 hJ
    have h := Lib.hid h
    clear hJ
    subst ha
    go_simp
    refine (d29.out _ _ (h.out.own.nth 0 rfl)).mono ?_
    rintro rr w5 ⟨rfl, hp⟩
    try go_wp2_with fail
    refine hK.out _ _ ⟨_, _, _, y4, z1, ?_, fun _ => rfl, fun _ => rfl, fun _ => rfl, by omega, gg1, h.out.putHead hp⟩
    kernel_rfl
  · intro p a v hJ
    refine op_step (o := _) rfl (fun K hK => ?_)
    obtain ⟨y4, z1, ha, gg1, h⟩ := fcJ13_3 hJ
    have h := Lib.hid h
    clear hJ
    subst ha
    go_simp
    refine (d30.out _ _ (h.out.own.nth 0 rfl)).mono ?_
    rintro rr w5 ⟨rfl, hp⟩
    try go_wp2_with fail
    refine hK.out _ _ ⟨_, _, _, _, z1, ?_, fun _ => rfl, fun _ => rfl, fun _ => rfl, fun _ => rfl, gg1, h.out.putHead hp⟩
    kernel_rfl
  · intro k p a v hp hJ
    refine op_step (o := _) rfl (fun K hK => ?_)
    obtain ⟨y1, y2, y3, y4, z1, ha, ee1, ee2, ee3, ee4, gg1, h⟩ := hJ
    have h := Lib.hid h
    subst ha
    go_simp
    refine hK.out _ _ ⟨v.heap.size, y1, y2, y3, y4, .pointer (some ⟨v.heap.size, 0, none⟩), ?_, ee1, ee2, ee3, ee4, fun q hq => ptr_set hq, h.out.alloc hp rfl _⟩
    kernel_rfl
  intro p13_1 a v hJ
  obtain ⟨rfl, h⟩ := fcJ13_fin hJ
  clear hJ
  replace M := Lib.hid h.fin1
  clear h
  refine tails_one (T := []) (i := 13) (o := _) rfl (by kernel_rfl) (fun K hK => ?_)
  have kc := (M.out.nth 0 rfl).2.1
  have kf := (M.out.nth 0 rfl).2.2
  replace M : Hid (Own w [(p13_1, #[.float .f64 zl, .float .f64 zh]), ((w7_.heap.size + 1), #[.int .i64 0]), (p12_1, #[.float .f64 ul, .float .f64 uh]), (p11_1, #[.float .f64 ql, .float .f64 qh]), (w12_.heap.size, #[.float .f64 ll, .float .f64 lh]), (p9_1, #[.float .f64 il, .float .f64 ih]), (p9_2, #[.float .f64 kl, .float .f64 kh]), (p8_1, #[.float .f64 bl, .float .f64 bh]), ((w9_.heap.size + 1), #[.float .f64 0, .float .f64 0]), (w9_.heap.size, #[.float .f64 4611686018427387904, .float .f64 4611686018427387904]), (w7_.heap.size, #[.float .f64 fl, .float .f64 fh]), ((w6_.heap.size + 1), #[.float .f64 pk, .float .f64 pk]), (w6_.heap.size, #[.float .f64 pe, .float .f64 pe]), (w2_.heap.size, #[.float .f64 pc, .float .f64 pc])] _) := Lib.hid (M.out.set2 0 rfl (.float .f64 zl) (.float .f64 zh))
  go_simp
  refine hK.out _ _ (Or.inr ⟨(M.out.nth 3 rfl).two, (M.out.nth 4 rfl).two, (M.out.nth 9 rfl).two, (M.out.nth 8 rfl).two⟩) (fun hHeld => ?_)
  clear hK K hHeld kc kf
  refine tails_done (by kernel_rfl) ?_ _
  refine NoPanic.normal ?_
  clear hS
  replace M : Hid (Own w [((w7_.heap.size + 1), #[.int .i64 0]), (p13_1, #[.float .f64 zl, .float .f64 zh]), (p12_1, #[.float .f64 ul, .float .f64 uh]), (p11_1, #[.float .f64 ql, .float .f64 qh]), (w12_.heap.size, #[.float .f64 ll, .float .f64 lh]), (p9_1, #[.float .f64 il, .float .f64 ih]), (p9_2, #[.float .f64 kl, .float .f64 kh]), (p8_1, #[.float .f64 bl, .float .f64 bh]), ((w9_.heap.size + 1), #[.float .f64 0, .float .f64 0]), (w9_.heap.size, #[.float .f64 4611686018427387904, .float .f64 4611686018427387904]), (w7_.heap.size, #[.float .f64 fl, .float .f64 fh]), ((w6_.heap.size + 1), #[.float .f64 pk, .float .f64 pk]), (w6_.heap.size, #[.float .f64 pe, .float .f64 pe]), (w2_.heap.size, #[.float .f64 pc, .float .f64 pc])] _) := Lib.hid M.out.front
  revert M
  generalize ((v.setCell ⟨p13_1, 0, none⟩ (.float .f64 zl)).setCell ⟨p13_1, 1, none⟩ (.float .f64 zh)) = W15_
  intro M
  go_upto_region 14 with fail
  replace M := Lib.hid M.out.drew
  refine wp_region_noPanic ?_
  refine tails_region (S := fun w' => (w'.cell? ⟨w2_.heap.size, 0, none⟩ = some (.float .f64 pc) ∧ w'.cell? ⟨w2_.heap.size, 1, none⟩ = some (.float .f64 pc)) ∧ (w'.cell? ⟨p12_1, 0, none⟩ = some (.float .f64 ul) ∧ w'.cell? ⟨p12_1, 1, none⟩ = some (.float .f64 uh)) ∧ (w'.cell? ⟨p13_1, 0, none⟩ = some (.float .f64 zl) ∧ w'.cell? ⟨p13_1, 1, none⟩ = some (.float .f64 zh))) [] (by kernel_rfl) ?_ (fun hS => ?_)
  · exact ⟨(M.out.nth 13 rfl).two, (M.out.nth 2 rfl).two, (M.out.nth 1 rfl).two⟩
  refine tk (x := ?_) 0 rfl (by kernel_rfl) ⟨by rfl, ?_⟩ (fun _ _ _ h => h) hS ?_
  rotate_left; focus (intro w hSw; (try dsimp only at hSw); go_simp; try with_reducible rfl)
  refine tk (x := ?_) 1 rfl (by kernel_rfl) ⟨by rfl, ?_⟩ (fun _ _ _ h => h) hS ?_
  rotate_left; focus (intro w hSw; (try dsimp only at hSw); go_simp; try with_reducible rfl)
  refine tk (x := ?_) 2 rfl (by kernel_rfl) ⟨by rfl, ?_⟩ (fun _ _ _ h => h) hS ?_
  rotate_left; focus (intro w hSw; (try dsimp only at hSw); go_simp; try with_reducible rfl)
  refine tk (x := ?_) 3 rfl (by kernel_rfl) ⟨by rfl, ?_⟩ (fun _ _ _ h => h) hS ?_
  rotate_left; focus (intro w hSw; (try dsimp only at hSw); go_simp; try with_reducible rfl)
  refine tk (x := ?_) 4 rfl (by kernel_rfl) ⟨by rfl, ?_⟩ (fun _ _ _ h => h) hS ?_
  rotate_left; focus (intro w hSw; (try dsimp only at hSw); go_simp; try with_reducible rfl)
  refine tk (x := ?_) 5 rfl (by kernel_rfl) ⟨by rfl, ?_⟩ (fun _ _ _ h => h) hS ?_
  rotate_left; focus (intro w hSw; (try dsimp only at hSw); go_simp; try with_reducible rfl)
  refine tk (x := ?_) 8 rfl (by kernel_rfl) ⟨by rfl, ?_⟩ (fun _ _ _ h => h) hS ?_
  rotate_left; focus (intro w hSw; (try dsimp only at hSw); go_simp; try with_reducible rfl)
  refine tk (x := ?_) 9 rfl (by kernel_rfl) ⟨by rfl, ?_⟩ (fun _ _ _ h => h) hS ?_
  rotate_left; focus (intro w hSw; (try dsimp only at hSw); go_simp; try with_reducible rfl)
  refine tk (x := ?_) 12 rfl (by kernel_rfl) ⟨by rfl, ?_⟩ (fun _ _ _ h => h) hS ?_
  rotate_left; focus (intro w hSw; (try dsimp only at hSw); go_simp; try with_reducible rfl)
  refine tk (x := ?_) 13 rfl (by kernel_rfl) ⟨by rfl, ?_⟩ (fun _ _ _ h => h) hS ?_
  rotate_left; focus (intro w hSw; (try dsimp only at hSw); go_simp; try with_reducible rfl)
  refine tk (x := ?_) 14 rfl (by kernel_rfl) ⟨by rfl, ?_⟩ (fun _ _ _ h => h) hS ?_
  rotate_left; focus (intro w hSw; (try dsimp only at hSw); go_simp; try with_reducible rfl)
  refine tk (x := ?_) 15 rfl (by kernel_rfl) ⟨by rfl, ?_⟩ (fun _ _ _ h => h) hS ?_
  rotate_left; focus (intro w hSw; (try dsimp only at hSw); go_simp; try with_reducible rfl)
  refine tk (x := ?_) 16 rfl (by kernel_rfl) ⟨by rfl, ?_⟩ (fun _ _ _ h => h) hS ?_
  rotate_left; focus (intro w hSw; (try dsimp only at hSw); go_simp; try with_reducible rfl)
  refine tk (x := ?_) 19 rfl (by kernel_rfl) ⟨by rfl, ?_⟩ (fun _ _ _ h => h) hS ?_
  rotate_left; focus (intro w hSw; (try dsimp only at hSw); go_simp; try with_reducible rfl)
  refine tk (x := ?_) 20 rfl (by kernel_rfl) ⟨by rfl, ?_⟩ (fun _ _ _ h => h) hS ?_
  rotate_left; focus (intro w hSw; (try dsimp only at hSw); go_simp; try with_reducible rfl)
  conv => arg 9; simp only [Act.put, go_sem]
  refine lpx_ccccccccc_1 M 6 7 10 11 17 18 21 22 23 24 [134, 135, 138, 139, 145, 146, 149, 150, 151, 22] 1 (fcJ14 w (w7_.heap.size + 1) cal cah cbl cbh ccl cch cdl cdh cel ceh cfl cfh cgl cgh chl chh) (by kernel_rfl) (by kernel_rfl) ?_ ?_ ?_ ?_ ?_ ?_ ?_ ?_ ?_ ?_ ?_ ?_ ?_
  · intro A hA
    obtain ⟨y1, hq1⟩ := put_ex (hA 134 (by simp))
    obtain ⟨y2, hq2⟩ := put_ex (hA 135 (by simp))
    obtain ⟨y3, hq3⟩ := put_ex (hA 138 (by simp))
    obtain ⟨y4, hq4⟩ := put_ex (hA 139 (by simp))
    obtain ⟨y5, hq5⟩ := put_ex (hA 145 (by simp))
    obtain ⟨y6, hq6⟩ := put_ex (hA 146 (by simp))
    obtain ⟨y7, hq7⟩ := put_ex (hA 149 (by simp))
    obtain ⟨y8, hq8⟩ := put_ex (hA 150 (by simp))
    obtain ⟨y9, hq9⟩ := put_ex (hA 151 (by simp))
    obtain ⟨z1, hq10⟩ := put_ex (hA 22 (by simp))
    exact ⟨y1, y2, y3, y4, y5, y6, y7, y8, y9, z1, by rw [hq1, hq2, hq3, hq4, hq5, hq6, hq7, hq8, hq9, hq10], by omega, by omega, by omega, by omega, by omega, by omega, by omega, by omega, by omega, by simp, OwnF.start M.out 1⟩
  · rintro k p a v ⟨y1, y2, y3, y4, y5, y6, y7, y8, y9, z1, _, _, _, _, _, _, _, _, _, _, _, h⟩
    exact ⟨(h.own.nth 13 rfl).two, (h.own.nth 2 rfl).two, (h.own.nth 1 rfl).two⟩
  · intro p a v hJ
    refine op_step (o := _) rfl (fun K hK => ?_)
    obtain ⟨y1, y2, y3, y4, y5, y6, y7, y8, y9, z1, ha, gg1, h⟩ := fcJ14_0 hJ
    have h := Lib.hid h
    clear hJ
    subst ha
    go_simp
    refine (d31.out _ _ (h.out.own.nth 0 rfl)).mono ?_
    rintro rr w5 ⟨rfl, hp⟩
    try go_wp2_with fail
    refine hK.out _ _ ⟨_, y2, y3, y4, y5, y6, y7, y8, y9, z1, ?_, fun _ => rfl, by omega, by omega, by omega, by omega, by omega, by omega, by omega, by omega, gg1, h.out.putHead hp⟩
    kernel_rfl
  · intro p a v hJ
    refine op_step (o := _) rfl (fun K hK => ?_)
    obtain ⟨y2, y3, y4, y5, y6, y7, y8, y9, z1, ha, gg1, h⟩ := fcJ14_1 hJ
    have h := Lib.hid h
    clear hJ
    subst ha
    go_simp
    refine (d32.out _ _ (h.out.own.nth 0 rfl)).mono ?_
    rintro rr w5 ⟨rfl, hp⟩
    try go_wp2_with fail
    refine hK.out _ _ ⟨_, _, y3, y4, y5, y6, y7, y8, y9, z1, ?_, fun _ => rfl, fun _ => rfl, by omega, by omega, by omega, by omega, by omega, by omega, by omega, gg1, h.out.putHead hp⟩
    kernel_rfl
  · intro p a v hJ
    refine op_step (o := _) rfl (fun K hK => ?_)
    obtain ⟨y3, y4, y5, y6, y7, y8, y9, z1, ha, gg1, h⟩ := fcJ14_2 hJ
    have h := Lib.hid h
    clear hJ
    subst ha
    go_simp
    refine (d33.out _ _ (h.out.own.nth 0 rfl)).mono ?_
    rintro rr w5 ⟨rfl, hp⟩
    try go_wp2_with fail
    refine hK.out _ _ ⟨_, _, _, y4, y5, y6, y7, y8, y9, z1, ?_, fun _ => rfl, fun _ => rfl, fun _ => rfl, by omega, by omega, by omega, by omega, by omega, by omega, gg1, h.out.putHead hp⟩
    kernel_rfl
  · intro p a v hJ
    refine op_step (o := _) rfl (fun K hK => ?_)
    obtain ⟨y4, y5, y6, y7, y8, y9, z1, ha, gg1, h⟩ := fcJ14_3 hJ
    have h := Lib.hid h
    clear hJ
    subst ha
    go_simp
    refine (d34.out _ _ (h.out.own.nth 0 rfl)).mono ?_
    rintro rr w5 ⟨rfl, hp⟩
    try go_wp2_with fail
    refine hK.out _ _ ⟨_, _, _, _, y5, y6, y7, y8, y9, z1, ?_, fun _ => rfl, fun _ => rfl, fun _ => rfl, fun _ => rfl, by omega, by omega, by omega, by omega, by omega, gg1, h.out.putHead hp⟩
    kernel_rfl
  · intro p a v hJ
    refine op_step (o := _) rfl (fun K hK => ?_)
    obtain ⟨y5, y6, y7, y8, y9, z1, ha, gg1, h⟩ := fcJ14_4 hJ
    have h := Lib.hid h
    clear hJ
    subst ha
    go_simp
    refine (d35.out _ _ (h.out.own.nth 0 rfl)).mono ?_
    rintro rr w5 ⟨rfl, hp⟩
    try go_wp2_with fail
    refine hK.out _ _ ⟨_, _, _, _, _, y6, y7, y8, y9, z1, ?_, fun _ => rfl, fun _ => rfl, fun _ => rfl, fun _ => rfl, fun _ => rfl, by omega, by omega, by omega, by omega, gg1, h.out.putHead hp⟩
    kernel_rfl
  · intro p a v hJ
    refine op_step (o := _) rfl (fun K hK => ?_)
    obtain ⟨y6, y7, y8, y9, z1, ha, gg1, h⟩ := fcJ14_5 hJ
    have h := Lib.hid h
    clear hJ
    subst ha
    go_simp
    refine (d36.out _ _ (h.out.own.nth 0 rfl)).mono ?_
    rintro rr w5 ⟨rfl, hp⟩
    try go_wp2_with fail
    refine hK.out _ _ ⟨_, _, _, _, _, _, y7, y8, y9, z1, ?_, fun _ => rfl, fun _ => rfl, fun _ => rfl, fun _ => rfl, fun _ => rfl, fun _ => rfl, by omega, by omega, by omega, gg1, h.out.putHead hp⟩
    kernel_rfl
  · intro p a v hJ
    refine op_step (o := _) rfl (fun K hK => ?_)
    obtain ⟨y7, y8, y9, z1, ha, gg1, h⟩ := fcJ14_6 hJ
    have h := Lib.hid h
    clear hJ
    subst ha
    go_simp
    refine (d33.out _ _ (h.out.own.nth 0 rfl)).mono ?_
    rintro rr w5 ⟨rfl, hp⟩
    try go_wp2_with fail
    refine hK.out _ _ ⟨_, _, _, _, _, _, _, y8, y9, z1, ?_, fun _ => rfl, fun _ => rfl, fun _ => rfl, fun _ => rfl, fun _ => rfl, fun _ => rfl, fun _ => rfl, by omega, by omega, gg1, h.out.putHead hp⟩
    kernel_rfl
  · intro p a v hJ
    refine op_step (o := _) rfl (fun K hK => ?_)
    obtain ⟨y8, y9, z1, ha, gg1, h⟩ := fcJ14_7 hJ
    have h := Lib.hid h
    clear hJ
    subst ha
    go_simp
    refine (d38.out _ _ (h.out.own.nth 0 rfl)).mono ?_
    rintro rr w5 ⟨rfl, hp⟩
    try go_wp2_with fail
    refine hK.out _ _ ⟨_, _, _, _, _, _, _, _, y9, z1, ?_, fun _ => rfl, fun _ => rfl, fun _ => rfl, fun _ => rfl, fun _ => rfl, fun _ => rfl, fun _ => rfl, fun _ => rfl, by omega, gg1, h.out.putHead hp⟩
    kernel_rfl
  · intro p a v hJ
    refine op_step (o := _) rfl (fun K hK => ?_)
    obtain ⟨y9, z1, ha, gg1, h⟩ := fcJ14_8 hJ
    have h := Lib.hid h
    clear hJ
    subst ha
    go_simp
    refine (d39.out _ _ (h.out.own.nth 0 rfl)).mono ?_
    rintro rr w5 ⟨rfl, hp⟩
    try go_wp2_with fail
    refine hK.out _ _ ⟨_, _, _, _, _, _, _, _, _, z1, ?_, fun _ => rfl, fun _ => rfl, fun _ => rfl, fun _ => rfl, fun _ => rfl, fun _ => rfl, fun _ => rfl, fun _ => rfl, fun _ => rfl, gg1, h.out.putHead hp⟩
    kernel_rfl
  · intro k p a v hp hJ
    refine op_step (o := _) rfl (fun K hK => ?_)
    obtain ⟨y1, y2, y3, y4, y5, y6, y7, y8, y9, z1, ha, ee1, ee2, ee3, ee4, ee5, ee6, ee7, ee8, ee9, gg1, h⟩ := hJ
    have h := Lib.hid h
    subst ha
    go_simp
    refine hK.out _ _ ⟨v.heap.size, y1, y2, y3, y4, y5, y6, y7, y8, y9, .pointer (some ⟨v.heap.size, 0, none⟩), ?_, ee1, ee2, ee3, ee4, ee5, ee6, ee7, ee8, ee9, fun q hq => ptr_set hq, h.out.alloc hp rfl _⟩
    kernel_rfl
  intro p14_1 a v hJ
  obtain ⟨rfl, h⟩ := fcJ14_fin hJ
  clear hJ
  replace M := Lib.hid h.fin1
  clear h
  refine tails_one (T := []) (i := 25) (o := _) rfl (by kernel_rfl) (fun K hK => ?_)
  have kc := (M.out.nth 0 rfl).2.1
  have kf := (M.out.nth 0 rfl).2.2
  replace M : Hid (Own w [(p14_1, #[.float .f64 chl, .float .f64 chh]), ((w7_.heap.size + 1), #[.int .i64 0]), (p13_1, #[.float .f64 zl, .float .f64 zh]), (p12_1, #[.float .f64 ul, .float .f64 uh]), (p11_1, #[.float .f64 ql, .float .f64 qh]), (w12_.heap.size, #[.float .f64 ll, .float .f64 lh]), (p9_1, #[.float .f64 il, .float .f64 ih]), (p9_2, #[.float .f64 kl, .float .f64 kh]), (p8_1, #[.float .f64 bl, .float .f64 bh]), ((w9_.heap.size + 1), #[.float .f64 0, .float .f64 0]), (w9_.heap.size, #[.float .f64 4611686018427387904, .float .f64 4611686018427387904]), (w7_.heap.size, #[.float .f64 fl, .float .f64 fh]), ((w6_.heap.size + 1), #[.float .f64 pk, .float .f64 pk]), (w6_.heap.size, #[.float .f64 pe, .float .f64 pe]), (w2_.heap.size, #[.float .f64 pc, .float .f64 pc])] _) := Lib.hid (M.out.set2 0 rfl (.float .f64 chl) (.float .f64 chh))
  go_simp
  refine hK.out _ _ (Or.inr ⟨(M.out.nth 14 rfl).two, (M.out.nth 3 rfl).two, (M.out.nth 2 rfl).two⟩) (fun hHeld => ?_)
  clear hK K hHeld kc kf
  refine tails_done (by kernel_rfl) ?_ _
  refine NoPanic.normal ?_
  clear hS
  replace M : Hid (Own w [((w7_.heap.size + 1), #[.int .i64 0]), (p14_1, #[.float .f64 chl, .float .f64 chh]), (p13_1, #[.float .f64 zl, .float .f64 zh]), (p12_1, #[.float .f64 ul, .float .f64 uh]), (p11_1, #[.float .f64 ql, .float .f64 qh]), (w12_.heap.size, #[.float .f64 ll, .float .f64 lh]), (p9_1, #[.float .f64 il, .float .f64 ih]), (p9_2, #[.float .f64 kl, .float .f64 kh]), (p8_1, #[.float .f64 bl, .float .f64 bh]), ((w9_.heap.size + 1), #[.float .f64 0, .float .f64 0]), (w9_.heap.size, #[.float .f64 4611686018427387904, .float .f64 4611686018427387904]), (w7_.heap.size, #[.float .f64 fl, .float .f64 fh]), ((w6_.heap.size + 1), #[.float .f64 pk, .float .f64 pk]), (w6_.heap.size, #[.float .f64 pe, .float .f64 pe]), (w2_.heap.size, #[.float .f64 pc, .float .f64 pc])] _) := Lib.hid M.out.front
  revert M
  generalize ((v.setCell ⟨p14_1, 0, none⟩ (.float .f64 chl)).setCell ⟨p14_1, 1, none⟩ (.float .f64 chh)) = W16_
  intro M
  go_upto_region 15 with fail
  replace M := Lib.hid M.out.drew
  refine wp_region_noPanic ?_
  refine tails_region (S := fun w' => (w'.cell? ⟨p9_1, 0, none⟩ = some (.float .f64 il) ∧ w'.cell? ⟨p9_1, 1, none⟩ = some (.float .f64 ih)) ∧ (w'.cell? ⟨w2_.heap.size, 0, none⟩ = some (.float .f64 pc) ∧ w'.cell? ⟨w2_.heap.size, 1, none⟩ = some (.float .f64 pc)) ∧ (w'.cell? ⟨p9_2, 0, none⟩ = some (.float .f64 kl) ∧ w'.cell? ⟨p9_2, 1, none⟩ = some (.float .f64 kh))) [] (by kernel_rfl) ?_ (fun hS => ?_)
  · exact ⟨(M.out.nth 6 rfl).two, (M.out.nth 14 rfl).two, (M.out.nth 7 rfl).two⟩
  refine tk (x := ?_) 0 rfl (by kernel_rfl) ⟨by rfl, ?_⟩ (fun _ _ _ h => h) hS ?_
  rotate_left; focus (intro w hSw; (try dsimp only at hSw); go_simp; try with_reducible rfl)
  refine tk (x := ?_) 1 rfl (by kernel_rfl) ⟨by rfl, ?_⟩ (fun _ _ _ h => h) hS ?_
  rotate_left; focus (intro w hSw; (try dsimp only at hSw); go_simp; try with_reducible rfl)
  refine tk (x := ?_) 2 rfl (by kernel_rfl) ⟨by rfl, ?_⟩ (fun _ _ _ h => h) hS ?_
  rotate_left; focus (intro w hSw; (try dsimp only at hSw); go_simp; try with_reducible rfl)
  refine tk (x := ?_) 4 rfl (by kernel_rfl) ⟨by rfl, ?_⟩ (fun _ _ _ h => h) hS ?_
  rotate_left; focus (intro w hSw; (try dsimp only at hSw); go_simp; try with_reducible rfl)
  refine tk (x := ?_) 5 rfl (by kernel_rfl) ⟨by rfl, ?_⟩ (fun _ _ _ h => h) hS ?_
  rotate_left; focus (intro w hSw; (try dsimp only at hSw); go_simp; try with_reducible rfl)
  refine tk (x := ?_) 6 rfl (by kernel_rfl) ⟨by rfl, ?_⟩ (fun _ _ _ h => h) hS ?_
  rotate_left; focus (intro w hSw; (try dsimp only at hSw); go_simp; try with_reducible rfl)
  conv => arg 9; simp only [Act.put, go_sem]
  refine lpx_cc_2 M 3 7 8 9 [155, 159, 23, 24] 2 (fcJ15 w (w7_.heap.size + 1) dal dah dbl dbh) (by kernel_rfl) (by kernel_rfl) ?_ ?_ ?_ ?_ ?_ ?_ ?_
  · intro A hA
    obtain ⟨y1, hq1⟩ := put_ex (hA 155 (by simp))
    obtain ⟨y2, hq2⟩ := put_ex (hA 159 (by simp))
    obtain ⟨z1, hq3⟩ := put_ex (hA 23 (by simp))
    obtain ⟨z2, hq4⟩ := put_ex (hA 24 (by simp))
    exact ⟨y1, y2, z1, z2, by rw [hq1, hq2, hq3, hq4], by omega, by omega, by simp, by simp, OwnF.start M.out 2⟩
  · rintro k p a v ⟨y1, y2, z1, z2, _, _, _, _, _, h⟩
    exact ⟨(h.own.nth 6 rfl).two, (h.own.nth 14 rfl).two, (h.own.nth 7 rfl).two⟩
  · intro p a v hJ
    refine op_step (o := _) rfl (fun K hK => ?_)
    obtain ⟨y1, y2, z1, z2, ha, gg1, gg2, h⟩ := fcJ15_0 hJ
    have h := Lib.hid h
    clear hJ
    subst ha
    go_simp
    refine (d40.out _ _ (h.out.own.nth 0 rfl)).mono ?_
    rintro rr w5 ⟨rfl, hp⟩
    try go_wp2_with fail
    refine hK.out _ _ ⟨_, y2, z1, z2, ?_, fun _ => rfl, by omega, gg1, gg2, h.out.putHead hp⟩
    kernel_rfl
  · intro p a v hJ
    refine op_step (o := _) rfl (fun K hK => ?_)
    obtain ⟨y2, z1, z2, ha, gg1, gg2, h⟩ := fcJ15_1 hJ
    have h := Lib.hid h
    clear hJ
    subst ha
    go_simp
    refine (d41.out _ _ (h.out.own.nth 0 rfl)).mono ?_
    rintro rr w5 ⟨rfl, hp⟩
    try go_wp2_with fail
    refine hK.out _ _ ⟨_, _, z1, z2, ?_, fun _ => rfl, fun _ => rfl, gg1, gg2, h.out.putHead hp⟩
    kernel_rfl
  · intro k p a v hp hJ
    refine op_step (o := _) rfl (fun K hK => ?_)
    obtain ⟨y1, y2, z1, z2, ha, ee1, ee2, gg1, gg2, h⟩ := hJ
    have h := Lib.hid h
    subst ha
    go_simp
    refine hK.out _ _ ⟨v.heap.size, y1, y2, .pointer (some ⟨v.heap.size, 0, none⟩), z2, ?_, ee1, ee2, fun q hq => ptr_set hq, ptr_keep 1 (by decide) gg2, h.out.alloc hp rfl _⟩
    kernel_rfl
  · intro k p a v hp hJ
    refine op_step (o := _) rfl (fun K hK => ?_)
    obtain ⟨y1, y2, z1, z2, ha, ee1, ee2, gg1, gg2, h⟩ := hJ
    have h := Lib.hid h
    subst ha
    go_simp
    refine hK.out _ _ ⟨v.heap.size, y1, y2, z1, .pointer (some ⟨v.heap.size, 0, none⟩), ?_, ee1, ee2, ptr_keep 0 (by decide) gg1, fun q hq => ptr_set hq, h.out.alloc hp rfl _⟩
    kernel_rfl
  intro p15_1 p15_2 a v hJ
  obtain ⟨rfl, h⟩ := fcJ15_fin hJ
  clear hJ
  replace M := Lib.hid h.fin2
  clear h
  refine tails_one (T := []) (i := 10) (o := _) rfl (by kernel_rfl) (fun K hK => ?_)
  have kc := (M.out.nth 0 rfl).2.1
  have kf := (M.out.nth 0 rfl).2.2
  replace M : Hid (Own w [(p15_1, #[.float .f64 dal, .float .f64 dah]), (p15_2, #[.float .f64 0, .float .f64 0]), ((w7_.heap.size + 1), #[.int .i64 0]), (p14_1, #[.float .f64 chl, .float .f64 chh]), (p13_1, #[.float .f64 zl, .float .f64 zh]), (p12_1, #[.float .f64 ul, .float .f64 uh]), (p11_1, #[.float .f64 ql, .float .f64 qh]), (w12_.heap.size, #[.float .f64 ll, .float .f64 lh]), (p9_1, #[.float .f64 il, .float .f64 ih]), (p9_2, #[.float .f64 kl, .float .f64 kh]), (p8_1, #[.float .f64 bl, .float .f64 bh]), ((w9_.heap.size + 1), #[.float .f64 0, .float .f64 0]), (w9_.heap.size, #[.float .f64 4611686018427387904, .float .f64 4611686018427387904]), (w7_.heap.size, #[.float .f64 fl, .float .f64 fh]), ((w6_.heap.size + 1), #[.float .f64 pk, .float .f64 pk]), (w6_.heap.size, #[.float .f64 pe, .float .f64 pe]), (w2_.heap.size, #[.float .f64 pc, .float .f64 pc])] _) := Lib.hid (M.out.set2 0 rfl (.float .f64 dal) (.float .f64 dah))
  go_simp
  refine hK.out _ _ (Or.inr ⟨(M.out.nth 8 rfl).two, (M.out.nth 16 rfl).two, (M.out.nth 9 rfl).two⟩) (fun hHeld => ?_)
  clear hK K hHeld kc kf
  refine tails_one (T := []) (i := 11) (o := _) rfl (by kernel_rfl) (fun K hK => ?_)
  have kc := (M.out.nth 1 rfl).2.1
  have kf := (M.out.nth 1 rfl).2.2
  replace M : Hid (Own w [(p15_1, #[.float .f64 dal, .float .f64 dah]), (p15_2, #[.float .f64 dbl, .float .f64 dbh]), ((w7_.heap.size + 1), #[.int .i64 0]), (p14_1, #[.float .f64 chl, .float .f64 chh]), (p13_1, #[.float .f64 zl, .float .f64 zh]), (p12_1, #[.float .f64 ul, .float .f64 uh]), (p11_1, #[.float .f64 ql, .float .f64 qh]), (w12_.heap.size, #[.float .f64 ll, .float .f64 lh]), (p9_1, #[.float .f64 il, .float .f64 ih]), (p9_2, #[.float .f64 kl, .float .f64 kh]), (p8_1, #[.float .f64 bl, .float .f64 bh]), ((w9_.heap.size + 1), #[.float .f64 0, .float .f64 0]), (w9_.heap.size, #[.float .f64 4611686018427387904, .float .f64 4611686018427387904]), (w7_.heap.size, #[.float .f64 fl, .float .f64 fh]), ((w6_.heap.size + 1), #[.float .f64 pk, .float .f64 pk]), (w6_.heap.size, #[.float .f64 pe, .float .f64 pe]), (w2_.heap.size, #[.float .f64 pc, .float .f64 pc])] _) := Lib.hid (M.out.set2 1 rfl (.float .f64 dbl) (.float .f64 dbh))
  go_simp
  refine hK.out _ _ (Or.inr ⟨(M.out.nth 8 rfl).two, (M.out.nth 16 rfl).two, (M.out.nth 9 rfl).two⟩) (fun hHeld => ?_)
  clear hK K hHeld kc kf
  refine tails_done (by kernel_rfl) ?_ _
  refine NoPanic.normal ?_
  clear hS
  replace M : Hid (Own w [((w7_.heap.size + 1), #[.int .i64 0]), (p15_1, #[.float .f64 dal, .float .f64 dah]), (p15_2, #[.float .f64 dbl, .float .f64 dbh]), (p14_1, #[.float .f64 chl, .float .f64 chh]), (p13_1, #[.float .f64 zl, .float .f64 zh]), (p12_1, #[.float .f64 ul, .float .f64 uh]), (p11_1, #[.float .f64 ql, .float .f64 qh]), (w12_.heap.size, #[.float .f64 ll, .float .f64 lh]), (p9_1, #[.float .f64 il, .float .f64 ih]), (p9_2, #[.float .f64 kl, .float .f64 kh]), (p8_1, #[.float .f64 bl, .float .f64 bh]), ((w9_.heap.size + 1), #[.float .f64 0, .float .f64 0]), (w9_.heap.size, #[.float .f64 4611686018427387904, .float .f64 4611686018427387904]), (w7_.heap.size, #[.float .f64 fl, .float .f64 fh]), ((w6_.heap.size + 1), #[.float .f64 pk, .float .f64 pk]), (w6_.heap.size, #[.float .f64 pe, .float .f64 pe]), (w2_.heap.size, #[.float .f64 pc, .float .f64 pc])] _) := Lib.hid M.out.front2
  revert M
  generalize ((((v.setCell ⟨p15_1, 0, none⟩ (.float .f64 dal)).setCell ⟨p15_1, 1, none⟩ (.float .f64 dah)).setCell ⟨p15_2, 0, none⟩ (.float .f64 dbl)).setCell ⟨p15_2, 1, none⟩ (.float .f64 dbh)) = W17_
  intro M
  go_upto_region 16 with fail
  replace M := Lib.hid M.out.drew
  refine wp_region_noPanic ?_
  refine tails_region (S := fun w' => (w'.cell? ⟨p15_1, 0, none⟩ = some (.float .f64 dal) ∧ w'.cell? ⟨p15_1, 1, none⟩ = some (.float .f64 dah)) ∧ (w'.cell? ⟨p12_1, 0, none⟩ = some (.float .f64 ul) ∧ w'.cell? ⟨p12_1, 1, none⟩ = some (.float .f64 uh)) ∧ (w'.cell? ⟨p15_2, 0, none⟩ = some (.float .f64 dbl) ∧ w'.cell? ⟨p15_2, 1, none⟩ = some (.float .f64 dbh)) ∧ (w'.cell? ⟨p13_1, 0, none⟩ = some (.float .f64 zl) ∧ w'.cell? ⟨p13_1, 1, none⟩ = some (.float .f64 zh))) [] (by kernel_rfl) ?_ (fun hS => ?_)
  · exact ⟨(M.out.nth 1 rfl).two, (M.out.nth 5 rfl).two, (M.out.nth 2 rfl).two, (M.out.nth 4 rfl).two⟩
  refine tk (x := ?_) 0 rfl (by kernel_rfl) ⟨by rfl, ?_⟩ (fun _ _ _ h => h) hS ?_
  rotate_left; focus (intro w hSw; (try dsimp only at hSw); go_simp; try with_reducible rfl)
  refine tk (x := ?_) 1 rfl (by kernel_rfl) ⟨by rfl, ?_⟩ (fun _ _ _ h => h) hS ?_
  rotate_left; focus (intro w hSw; (try dsimp only at hSw); go_simp; try with_reducible rfl)
  refine tk (x := ?_) 2 rfl (by kernel_rfl) ⟨by rfl, ?_⟩ (fun _ _ _ h => h) hS ?_
  rotate_left; focus (intro w hSw; (try dsimp only at hSw); go_simp; try with_reducible rfl)
  refine tk (x := ?_) 3 rfl (by kernel_rfl) ⟨by rfl, ?_⟩ (fun _ _ _ h => h) hS ?_
  rotate_left; focus (intro w hSw; (try dsimp only at hSw); go_simp; try with_reducible rfl)
  refine tk (x := ?_) 4 rfl (by kernel_rfl) ⟨by rfl, ?_⟩ (fun _ _ _ h => h) hS ?_
  rotate_left; focus (intro w hSw; (try dsimp only at hSw); go_simp; try with_reducible rfl)
  refine tk (x := ?_) 5 rfl (by kernel_rfl) ⟨by rfl, ?_⟩ (fun _ _ _ h => h) hS ?_
  rotate_left; focus (intro w hSw; (try dsimp only at hSw); go_simp; try with_reducible rfl)
  refine tk (x := ?_) 8 rfl (by kernel_rfl) ⟨by rfl, ?_⟩ (fun _ _ _ h => h) hS ?_
  rotate_left; focus (intro w hSw; (try dsimp only at hSw); go_simp; try with_reducible rfl)
  refine tk (x := ?_) 9 rfl (by kernel_rfl) ⟨by rfl, ?_⟩ (fun _ _ _ h => h) hS ?_
  rotate_left; focus (intro w hSw; (try dsimp only at hSw); go_simp; try with_reducible rfl)
  refine tk (x := ?_) 10 rfl (by kernel_rfl) ⟨by rfl, ?_⟩ (fun _ _ _ h => h) hS ?_
  rotate_left; focus (intro w hSw; (try dsimp only at hSw); go_simp; try with_reducible rfl)
  refine tk (x := ?_) 11 rfl (by kernel_rfl) ⟨by rfl, ?_⟩ (fun _ _ _ h => h) hS ?_
  rotate_left; focus (intro w hSw; (try dsimp only at hSw); go_simp; try with_reducible rfl)
  refine tk (x := ?_) 15 rfl (by kernel_rfl) ⟨by rfl, ?_⟩ (fun _ _ _ h => h) hS ?_
  rotate_left; focus (intro w hSw; (try dsimp only at hSw); go_simp; try with_reducible rfl)
  refine tk (x := ?_) 16 rfl (by kernel_rfl) ⟨by rfl, ?_⟩ (fun _ _ _ h => h) hS ?_
  rotate_left; focus (intro w hSw; (try dsimp only at hSw); go_simp; try with_reducible rfl)
  refine tk (x := ?_) 17 rfl (by kernel_rfl) ⟨by rfl, ?_⟩ (fun _ _ _ h => h) hS ?_
  rotate_left; focus (intro w hSw; (try dsimp only at hSw); go_simp; try with_reducible rfl)
  refine tk (x := ?_) 18 rfl (by kernel_rfl) ⟨by rfl, ?_⟩ (fun _ _ _ h => h) hS ?_
  rotate_left; focus (intro w hSw; (try dsimp only at hSw); go_simp; try with_reducible rfl)
  refine tk (x := ?_) 19 rfl (by kernel_rfl) ⟨by rfl, ?_⟩ (fun _ _ _ h => h) hS ?_
  rotate_left; focus (intro w hSw; (try dsimp only at hSw); go_simp; try with_reducible rfl)
  refine tk (x := ?_) 22 rfl (by kernel_rfl) ⟨by rfl, ?_⟩ (fun _ _ _ h => h) hS ?_
  rotate_left; focus (intro w hSw; (try dsimp only at hSw); go_simp; try with_reducible rfl)
  refine tk (x := ?_) 23 rfl (by kernel_rfl) ⟨by rfl, ?_⟩ (fun _ _ _ h => h) hS ?_
  rotate_left; focus (intro w hSw; (try dsimp only at hSw); go_simp; try with_reducible rfl)
  refine tk (x := ?_) 24 rfl (by kernel_rfl) ⟨by rfl, ?_⟩ (fun _ _ _ h => h) hS ?_
  rotate_left; focus (intro w hSw; (try dsimp only at hSw); go_simp; try with_reducible rfl)
  refine tk (x := ?_) 25 rfl (by kernel_rfl) ⟨by rfl, ?_⟩ (fun _ _ _ h => h) hS ?_
  rotate_left; focus (intro w hSw; (try dsimp only at hSw); go_simp; try with_reducible rfl)
  conv => arg 9; simp only [Act.put, go_sem]
  refine lpx_ccccccccccc_1 M 6 7 12 13 14 20 21 26 27 28 29 30 [166, 167, 172, 173, 174, 180, 181, 186, 187, 188, 189, 25] 1 (fcJ16 w (w7_.heap.size + 1) dcl dch ddl ddh del deh dfl dfh dgl dgh dhl dhh dil dih djl djh dkl dkh dll dlh dml dmh) (by kernel_rfl) (by kernel_rfl) ?_ ?_ ?_ ?_ ?_ ?_ ?_ ?_ ?_ ?_ ?_ ?_ ?_ ?_ ?_
  · intro A hA
    obtain ⟨y1, hq1⟩ := put_ex (hA 166 (by simp))
    obtain ⟨y2, hq2⟩ := put_ex (hA 167 (by simp))
    obtain ⟨y3, hq3⟩ := put_ex (hA 172 (by simp))
    obtain ⟨y4, hq4⟩ := put_ex (hA 173 (by simp))
    obtain ⟨y5, hq5⟩ := put_ex (hA 174 (by simp))
    obtain ⟨y6, hq6⟩ := put_ex (hA 180 (by simp))
    obtain ⟨y7, hq7⟩ := put_ex (hA 181 (by simp))
    obtain ⟨y8, hq8⟩ := put_ex (hA 186 (by simp))
    obtain ⟨y9, hq9⟩ := put_ex (hA 187 (by simp))
    obtain ⟨y10, hq10⟩ := put_ex (hA 188 (by simp))
    obtain ⟨y11, hq11⟩ := put_ex (hA 189 (by simp))
    obtain ⟨z1, hq12⟩ := put_ex (hA 25 (by simp))
    exact ⟨y1, y2, y3, y4, y5, y6, y7, y8, y9, y10, y11, z1, by rw [hq1, hq2, hq3, hq4, hq5, hq6, hq7, hq8, hq9, hq10, hq11, hq12], by omega, by omega, by omega, by omega, by omega, by omega, by omega, by omega, by omega, by omega, by omega, by simp, OwnF.start M.out 1⟩
  · rintro k p a v ⟨y1, y2, y3, y4, y5, y6, y7, y8, y9, y10, y11, z1, _, _, _, _, _, _, _, _, _, _, _, _, _, h⟩
    exact ⟨(h.own.nth 1 rfl).two, (h.own.nth 5 rfl).two, (h.own.nth 2 rfl).two, (h.own.nth 4 rfl).two⟩
  · intro p a v hJ
    refine op_step (o := _) rfl (fun K hK => ?_)
    obtain ⟨y1, y2, y3, y4, y5, y6, y7, y8, y9, y10, y11, z1, ha, gg1, h⟩ := fcJ16_0 hJ
    have h := Lib.hid h
    clear hJ
    subst ha
    go_simp
    refine (d42.out _ _ (h.out.own.nth 0 rfl)).mono ?_
    rintro rr w5 ⟨rfl, hp⟩
    try go_wp2_with fail
    refine hK.out _ _ ⟨_, y2, y3, y4, y5, y6, y7, y8, y9, y10, y11, z1, ?_, fun _ => rfl, by omega, by omega, by omega, by omega, by omega, by omega, by omega, by omega, by omega, by omega, gg1, h.out.putHead hp⟩
    kernel_rfl
  · intro p a v hJ
    refine op_step (o := _) rfl (fun K hK => ?_)
    obtain ⟨y2, y3, y4, y5, y6, y7, y8, y9, y10, y11, z1, ha, gg1, h⟩ := fcJ16_1 hJ
    have h := Lib.hid h
    clear hJ
    subst ha
    go_simp
    refine (d43.out _ _ (h.out.own.nth 0 rfl)).mono ?_
    rintro rr w5 ⟨rfl, hp⟩
    try go_wp2_with fail
    refine hK.out _ _ ⟨_, _, y3, y4, y5, y6, y7, y8, y9, y10, y11, z1, ?_, fun _ => rfl, fun _ => rfl, by omega, by omega, by omega, by omega, by omega, by omega, by omega, by omega, by omega, gg1, h.out.putHead hp⟩
    kernel_rfl
  · intro p a v hJ
    refine op_step (o := _) rfl (fun K hK => ?_)
    obtain ⟨y3, y4, y5, y6, y7, y8, y9, y10, y11, z1, ha, gg1, h⟩ := fcJ16_2 hJ
    have h := Lib.hid h
    clear hJ
    subst ha
    go_simp
    refine (d44.out _ _ (h.out.own.nth 0 rfl)).mono ?_
    rintro rr w5 ⟨rfl, hp⟩
    try go_wp2_with fail
    refine hK.out _ _ ⟨_, _, _, y4, y5, y6, y7, y8, y9, y10, y11, z1, ?_, fun _ => rfl, fun _ => rfl, fun _ => rfl, by omega, by omega, by omega, by omega, by omega, by omega, by omega, by omega, gg1, h.out.putHead hp⟩
    kernel_rfl
  · intro p a v hJ
    refine op_step (o := _) rfl (fun K hK => ?_)
    obtain ⟨y4, y5, y6, y7, y8, y9, y10, y11, z1, ha, gg1, h⟩ := fcJ16_3 hJ
    have h := Lib.hid h
    clear hJ
    subst ha
    go_simp
    refine (d45.out _ _ (h.out.own.nth 0 rfl)).mono ?_
    rintro rr w5 ⟨rfl, hp⟩
    try go_wp2_with fail
    refine hK.out _ _ ⟨_, _, _, _, y5, y6, y7, y8, y9, y10, y11, z1, ?_, fun _ => rfl, fun _ => rfl, fun _ => rfl, fun _ => rfl, by omega, by omega, by omega, by omega, by omega, by omega, by omega, gg1, h.out.putHead hp⟩
    kernel_rfl
  · intro p a v hJ
    refine op_step (o := _) rfl (fun K hK => ?_)
    obtain ⟨y5, y6, y7, y8, y9, y10, y11, z1, ha, gg1, h⟩ := fcJ16_4 hJ
    have h := Lib.hid h
    clear hJ
    subst ha
    go_simp
    refine (d46.out _ _ (h.out.own.nth 0 rfl)).mono ?_
    rintro rr w5 ⟨rfl, hp⟩
    try go_wp2_with fail
    refine hK.out _ _ ⟨_, _, _, _, _, y6, y7, y8, y9, y10, y11, z1, ?_, fun _ => rfl, fun _ => rfl, fun _ => rfl, fun _ => rfl, fun _ => rfl, by omega, by omega, by omega, by omega, by omega, by omega, gg1, h.out.putHead hp⟩
    kernel_rfl
  · intro p a v hJ
    refine op_step (o := _) rfl (fun K hK => ?_)
    obtain ⟨y6, y7, y8, y9, y10, y11, z1, ha, gg1, h⟩ := fcJ16_5 hJ
    have h := Lib.hid h
    clear hJ
    subst ha
    go_simp
    refine (d47.out _ _ (h.out.own.nth 0 rfl)).mono ?_
    rintro rr w5 ⟨rfl, hp⟩
    try go_wp2_with fail
    refine hK.out _ _ ⟨_, _, _, _, _, _, y7, y8, y9, y10, y11, z1, ?_, fun _ => rfl, fun _ => rfl, fun _ => rfl, fun _ => rfl, fun _ => rfl, fun _ => rfl, by omega, by omega, by omega, by omega, by omega, gg1, h.out.putHead hp⟩
    kernel_rfl
  · intro p a v hJ
    refine op_step (o := _) rfl (fun K hK => ?_)
    obtain ⟨y7, y8, y9, y10, y11, z1, ha, gg1, h⟩ := fcJ16_6 hJ
    have h := Lib.hid h
    clear hJ
    subst ha
    go_simp
    refine (d48.out _ _ (h.out.own.nth 0 rfl)).mono ?_
    rintro rr w5 ⟨rfl, hp⟩
    try go_wp2_with fail
    refine hK.out _ _ ⟨_, _, _, _, _, _, _, y8, y9, y10, y11, z1, ?_, fun _ => rfl, fun _ => rfl, fun _ => rfl, fun _ => rfl, fun _ => rfl, fun _ => rfl, fun _ => rfl, by omega, by omega, by omega, by omega, gg1, h.out.putHead hp⟩
    kernel_rfl
  · intro p a v hJ
    refine op_step (o := _) rfl (fun K hK => ?_)
    obtain ⟨y8, y9, y10, y11, z1, ha, gg1, h⟩ := fcJ16_7 hJ
    have h := Lib.hid h
    clear hJ
    subst ha
    go_simp
    refine (d49.out _ _ (h.out.own.nth 0 rfl)).mono ?_
    rintro rr w5 ⟨rfl, hp⟩
    try go_wp2_with fail
    refine hK.out _ _ ⟨_, _, _, _, _, _, _, _, y9, y10, y11, z1, ?_, fun _ => rfl, fun _ => rfl, fun _ => rfl, fun _ => rfl, fun _ => rfl, fun _ => rfl, fun _ => rfl, fun _ => rfl, by omega, by omega, by omega, gg1, h.out.putHead hp⟩
    kernel_rfl
  · intro p a v hJ
    refine op_step (o := _) rfl (fun K hK => ?_)
    obtain ⟨y9, y10, y11, z1, ha, gg1, h⟩ := fcJ16_8 hJ
    have h := Lib.hid h
    clear hJ
    subst ha
    go_simp
    refine (d50.out _ _ (h.out.own.nth 0 rfl)).mono ?_
    rintro rr w5 ⟨rfl, hp⟩
    try go_wp2_with fail
    refine hK.out _ _ ⟨_, _, _, _, _, _, _, _, _, y10, y11, z1, ?_, fun _ => rfl, fun _ => rfl, fun _ => rfl, fun _ => rfl, fun _ => rfl, fun _ => rfl, fun _ => rfl, fun _ => rfl, fun _ => rfl, by omega, by omega, gg1, h.out.putHead hp⟩
    kernel_rfl
  · intro p a v hJ
    refine op_step (o := _) rfl (fun K hK => ?_)
    obtain ⟨y10, y11, z1, ha, gg1, h⟩ := fcJ16_9 hJ
    have h := Lib.hid h
    clear hJ
    subst ha
    go_simp
    refine (d51.out _ _ (h.out.own.nth 0 rfl)).mono ?_
    rintro rr w5 ⟨rfl, hp⟩
    try go_wp2_with fail
    refine hK.out _ _ ⟨_, _, _, _, _, _, _, _, _, _, y11, z1, ?_, fun _ => rfl, fun _ => rfl, fun _ => rfl, fun _ => rfl, fun _ => rfl, fun _ => rfl, fun _ => rfl, fun _ => rfl, fun _ => rfl, fun _ => rfl, by omega, gg1, h.out.putHead hp⟩
    kernel_rfl
  · intro p a v hJ
    refine op_step (o := _) rfl (fun K hK => ?_)
    obtain ⟨y11, z1, ha, gg1, h⟩ := fcJ16_10 hJ
    have h := Lib.hid h
    clear hJ
    subst ha
    go_simp
    refine (d52.out _ _ (h.out.own.nth 0 rfl)).mono ?_
    rintro rr w5 ⟨rfl, hp⟩
    try go_wp2_with fail
    refine hK.out _ _ ⟨_, _, _, _, _, _, _, _, _, _, _, z1, ?_, fun _ => rfl, fun _ => rfl, fun _ => rfl, fun _ => rfl, fun _ => rfl, fun _ => rfl, fun _ => rfl, fun _ => rfl, fun _ => rfl, fun _ => rfl, fun _ => rfl, gg1, h.out.putHead hp⟩
    kernel_rfl
  · intro k p a v hp hJ
    refine op_step (o := _) rfl (fun K hK => ?_)
    obtain ⟨y1, y2, y3, y4, y5, y6, y7, y8, y9, y10, y11, z1, ha, ee1, ee2, ee3, ee4, ee5, ee6, ee7, ee8, ee9, ee10, ee11, gg1, h⟩ := hJ
    have h := Lib.hid h
    subst ha
    go_simp
    refine hK.out _ _ ⟨v.heap.size, y1, y2, y3, y4, y5, y6, y7, y8, y9, y10, y11, .pointer (some ⟨v.heap.size, 0, none⟩), ?_, ee1, ee2, ee3, ee4, ee5, ee6, ee7, ee8, ee9, ee10, ee11, fun q hq => ptr_set hq, h.out.alloc hp rfl _⟩
    kernel_rfl
  intro p16_1 a v hJ
  obtain ⟨rfl, h⟩ := fcJ16_fin hJ
  clear hJ
  replace M := Lib.hid h.fin1
  clear h
  refine tails_one (T := []) (i := 31) (o := _) rfl (by kernel_rfl) (fun K hK => ?_)
  have kc := (M.out.nth 0 rfl).2.1
  have kf := (M.out.nth 0 rfl).2.2
  replace M : Hid (Own w [(p16_1, #[.float .f64 dml, .float .f64 dmh]), ((w7_.heap.size + 1), #[.int .i64 0]), (p15_1, #[.float .f64 dal, .float .f64 dah]), (p15_2, #[.float .f64 dbl, .float .f64 dbh]), (p14_1, #[.float .f64 chl, .float .f64 chh]), (p13_1, #[.float .f64 zl, .float .f64 zh]), (p12_1, #[.float .f64 ul, .float .f64 uh]), (p11_1, #[.float .f64 ql, .float .f64 qh]), (w12_.heap.size, #[.float .f64 ll, .float .f64 lh]), (p9_1, #[.float .f64 il, .float .f64 ih]), (p9_2, #[.float .f64 kl, .float .f64 kh]), (p8_1, #[.float .f64 bl, .float .f64 bh]), ((w9_.heap.size + 1), #[.float .f64 0, .float .f64 0]), (w9_.heap.size, #[.float .f64 4611686018427387904, .float .f64 4611686018427387904]), (w7_.heap.size, #[.float .f64 fl, .float .f64 fh]), ((w6_.heap.size + 1), #[.float .f64 pk, .float .f64 pk]), (w6_.heap.size, #[.float .f64 pe, .float .f64 pe]), (w2_.heap.size, #[.float .f64 pc, .float .f64 pc])] _) := Lib.hid (M.out.set2 0 rfl (.float .f64 dml) (.float .f64 dmh))
  go_simp
  refine hK.out _ _ (Or.inr ⟨(M.out.nth 2 rfl).two, (M.out.nth 6 rfl).two, (M.out.nth 3 rfl).two, (M.out.nth 5 rfl).two⟩) (fun hHeld => ?_)
  clear hK K hHeld kc kf
  refine tails_done (by kernel_rfl) ?_ _
  refine NoPanic.normal ?_
  clear hS
  replace M : Hid (Own w [((w7_.heap.size + 1), #[.int .i64 0]), (p16_1, #[.float .f64 dml, .float .f64 dmh]), (p15_1, #[.float .f64 dal, .float .f64 dah]), (p15_2, #[.float .f64 dbl, .float .f64 dbh]), (p14_1, #[.float .f64 chl, .float .f64 chh]), (p13_1, #[.float .f64 zl, .float .f64 zh]), (p12_1, #[.float .f64 ul, .float .f64 uh]), (p11_1, #[.float .f64 ql, .float .f64 qh]), (w12_.heap.size, #[.float .f64 ll, .float .f64 lh]), (p9_1, #[.float .f64 il, .float .f64 ih]), (p9_2, #[.float .f64 kl, .float .f64 kh]), (p8_1, #[.float .f64 bl, .float .f64 bh]), ((w9_.heap.size + 1), #[.float .f64 0, .float .f64 0]), (w9_.heap.size, #[.float .f64 4611686018427387904, .float .f64 4611686018427387904]), (w7_.heap.size, #[.float .f64 fl, .float .f64 fh]), ((w6_.heap.size + 1), #[.float .f64 pk, .float .f64 pk]), (w6_.heap.size, #[.float .f64 pe, .float .f64 pe]), (w2_.heap.size, #[.float .f64 pc, .float .f64 pc])] _) := Lib.hid M.out.front
  revert M
  generalize ((v.setCell ⟨p16_1, 0, none⟩ (.float .f64 dml)).setCell ⟨p16_1, 1, none⟩ (.float .f64 dmh)) = W18_
  intro M
  go_upto_region 17 with fail
  replace M := Lib.hid M.out.drew
  refine wp_region_noPanic ?_
  refine tails_region (S := fun w' => (w'.cell? ⟨p14_1, 0, none⟩ = some (.float .f64 chl) ∧ w'.cell? ⟨p14_1, 1, none⟩ = some (.float .f64 chh)) ∧ (w'.cell? ⟨p16_1, 0, none⟩ = some (.float .f64 dml) ∧ w'.cell? ⟨p16_1, 1, none⟩ = some (.float .f64 dmh)) ∧ (w'.cell? ⟨w9_.heap.size, 0, none⟩ = some (.float .f64 4611686018427387904) ∧ w'.cell? ⟨w9_.heap.size, 1, none⟩ = some (.float .f64 4611686018427387904))) [] (by kernel_rfl) ?_ (fun hS => ?_)
  · exact ⟨(M.out.nth 4 rfl).two, (M.out.nth 1 rfl).two, (M.out.nth 13 rfl).two⟩
  refine tk (x := ?_) 0 rfl (by kernel_rfl) ⟨by rfl, ?_⟩ (fun _ _ _ h => h) hS ?_
  rotate_left; focus (intro w hSw; (try dsimp only at hSw); go_simp; try with_reducible rfl)
  refine tk (x := ?_) 1 rfl (by kernel_rfl) ⟨by rfl, ?_⟩ (fun _ _ _ h => h) hS ?_
  rotate_left; focus (intro w hSw; (try dsimp only at hSw); go_simp; try with_reducible rfl)
  refine tk (x := ?_) 2 rfl (by kernel_rfl) ⟨by rfl, ?_⟩ (fun _ _ _ h => h) hS ?_
  rotate_left; focus (intro w hSw; (try dsimp only at hSw); go_simp; try with_reducible rfl)
  refine tk (x := ?_) 3 rfl (by kernel_rfl) ⟨by rfl, ?_⟩ (fun _ _ _ h => h) hS ?_
  rotate_left; focus (intro w hSw; (try dsimp only at hSw); go_simp; try with_reducible rfl)
  refine tk (x := ?_) 5 rfl (by kernel_rfl) ⟨by rfl, ?_⟩ (fun _ _ _ h => h) hS ?_
  rotate_left; focus (intro w hSw; (try dsimp only at hSw); go_simp; try with_reducible rfl)
  conv => arg 9; simp only [Act.put, go_sem]
  refine lpx_cc_1 M 4 6 7 [194, 196, 26] 1 (fcJ17 w (w7_.heap.size + 1) eal eah ebl ebh) (by kernel_rfl) (by kernel_rfl) ?_ ?_ ?_ ?_ ?_ ?_
  · intro A hA
    obtain ⟨y1, hq1⟩ := put_ex (hA 194 (by simp))
    obtain ⟨y2, hq2⟩ := put_ex (hA 196 (by simp))
    obtain ⟨z1, hq3⟩ := put_ex (hA 26 (by simp))
    exact ⟨y1, y2, z1, by rw [hq1, hq2, hq3], by omega, by omega, by simp, OwnF.start M.out 1⟩
  · rintro k p a v ⟨y1, y2, z1, _, _, _, _, h⟩
    exact ⟨(h.own.nth 4 rfl).two, (h.own.nth 1 rfl).two, (h.own.nth 13 rfl).two⟩
  · intro p a v hJ
    refine op_step (o := _) rfl (fun K hK => ?_)
    obtain ⟨y1, y2, z1, ha, gg1, h⟩ := fcJ17_0 hJ
    have h := Lib.hid h
    clear hJ
    subst ha
    go_simp
    refine (d53.out _ _ (h.out.own.nth 0 rfl)).mono ?_
    rintro rr w5 ⟨rfl, hp⟩
    try go_wp2_with fail
    refine hK.out _ _ ⟨_, y2, z1, ?_, fun _ => rfl, by omega, gg1, h.out.putHead hp⟩
    kernel_rfl
  · intro p a v hJ
    refine op_step (o := _) rfl (fun K hK => ?_)
    obtain ⟨y2, z1, ha, gg1, h⟩ := fcJ17_1 hJ
    have h := Lib.hid h
    clear hJ
    subst ha
    go_simp
    refine (d54.out _ _ (h.out.own.nth 0 rfl)).mono ?_
    rintro rr w5 ⟨rfl, hp⟩
    try go_wp2_with fail
    refine hK.out _ _ ⟨_, _, z1, ?_, fun _ => rfl, fun _ => rfl, gg1, h.out.putHead hp⟩
    kernel_rfl
  · intro k p a v hp hJ
    refine op_step (o := _) rfl (fun K hK => ?_)
    obtain ⟨y1, y2, z1, ha, ee1, ee2, gg1, h⟩ := hJ
    have h := Lib.hid h
    subst ha
    go_simp
    refine hK.out _ _ ⟨v.heap.size, y1, y2, .pointer (some ⟨v.heap.size, 0, none⟩), ?_, ee1, ee2, fun q hq => ptr_set hq, h.out.alloc hp rfl _⟩
    kernel_rfl
  intro p17_1 a v hJ
  obtain ⟨rfl, h⟩ := fcJ17_fin hJ
  clear hJ
  replace M := Lib.hid h.fin1
  clear h
  refine tails_one (T := []) (i := 8) (o := _) rfl (by kernel_rfl) (fun K hK => ?_)
  have kc := (M.out.nth 0 rfl).2.1
  have kf := (M.out.nth 0 rfl).2.2
  replace M : Hid (Own w [(p17_1, #[.float .f64 ebl, .float .f64 ebh]), ((w7_.heap.size + 1), #[.int .i64 0]), (p16_1, #[.float .f64 dml, .float .f64 dmh]), (p15_1, #[.float .f64 dal, .float .f64 dah]), (p15_2, #[.float .f64 dbl, .float .f64 dbh]), (p14_1, #[.float .f64 chl, .float .f64 chh]), (p13_1, #[.float .f64 zl, .float .f64 zh]), (p12_1, #[.float .f64 ul, .float .f64 uh]), (p11_1, #[.float .f64 ql, .float .f64 qh]), (w12_.heap.size, #[.float .f64 ll, .float .f64 lh]), (p9_1, #[.float .f64 il, .float .f64 ih]), (p9_2, #[.float .f64 kl, .float .f64 kh]), (p8_1, #[.float .f64 bl, .float .f64 bh]), ((w9_.heap.size + 1), #[.float .f64 0, .float .f64 0]), (w9_.heap.size, #[.float .f64 4611686018427387904, .float .f64 4611686018427387904]), (w7_.heap.size, #[.float .f64 fl, .float .f64 fh]), ((w6_.heap.size + 1), #[.float .f64 pk, .float .f64 pk]), (w6_.heap.size, #[.float .f64 pe, .float .f64 pe]), (w2_.heap.size, #[.float .f64 pc, .float .f64 pc])] _) := Lib.hid (M.out.set2 0 rfl (.float .f64 ebl) (.float .f64 ebh))
  go_simp
  refine hK.out _ _ (Or.inr ⟨(M.out.nth 5 rfl).two, (M.out.nth 2 rfl).two, (M.out.nth 14 rfl).two⟩) (fun hHeld => ?_)
  clear hK K hHeld kc kf
  refine tails_done (by kernel_rfl) ?_ _
  refine NoPanic.normal ?_
  clear hS
  replace M : Hid (Own w [((w7_.heap.size + 1), #[.int .i64 0]), (p17_1, #[.float .f64 ebl, .float .f64 ebh]), (p16_1, #[.float .f64 dml, .float .f64 dmh]), (p15_1, #[.float .f64 dal, .float .f64 dah]), (p15_2, #[.float .f64 dbl, .float .f64 dbh]), (p14_1, #[.float .f64 chl, .float .f64 chh]), (p13_1, #[.float .f64 zl, .float .f64 zh]), (p12_1, #[.float .f64 ul, .float .f64 uh]), (p11_1, #[.float .f64 ql, .float .f64 qh]), (w12_.heap.size, #[.float .f64 ll, .float .f64 lh]), (p9_1, #[.float .f64 il, .float .f64 ih]), (p9_2, #[.float .f64 kl, .float .f64 kh]), (p8_1, #[.float .f64 bl, .float .f64 bh]), ((w9_.heap.size + 1), #[.float .f64 0, .float .f64 0]), (w9_.heap.size, #[.float .f64 4611686018427387904, .float .f64 4611686018427387904]), (w7_.heap.size, #[.float .f64 fl, .float .f64 fh]), ((w6_.heap.size + 1), #[.float .f64 pk, .float .f64 pk]), (w6_.heap.size, #[.float .f64 pe, .float .f64 pe]), (w2_.heap.size, #[.float .f64 pc, .float .f64 pc])] _) := Lib.hid M.out.front
  revert M
  generalize ((v.setCell ⟨p17_1, 0, none⟩ (.float .f64 ebl)).setCell ⟨p17_1, 1, none⟩ (.float .f64 ebh)) = W19_
  intro M
  go_wp2_with fail
  refine (err_any 0 _ 0 _ (M.out.nth 0 rfl).pc).mono ?_
  rintro r w20_ ⟨rfl, rfl⟩
  obtain ⟨k1, k2⟩ := (M.out.nth 15 rfl).two
  obtain ⟨k3, k4⟩ := (M.out.nth 1 rfl).two
  go_wp2_with fail
  refine (c56.out _).mono ?_
  rintro r w21_ ⟨rfl, hb⟩
  replace M := Lib.hid (M.out.below hb)
  clear hb
  clear k1 k2 k3 k4
  go_wp2_with fail
  refine (c57.out _).mono ?_
  rintro r w22_ ⟨rfl, hb⟩
  replace M := Lib.hid (M.out.below hb)
  clear hb
  go_wp2
  go_ret
  exact ⟨rfl, M.out.base⟩

end Go.Proofs.Ytoocmocaelcbkaa
