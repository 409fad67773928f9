
/- OrenRises holds for any eight numbers of 32 bits: the law answers true, and its argument reads as before. No conditions. -/
import Derived.Test.YtoiaefgpegiieaaQO1
import Derived.Deep.RegionHeld3
import Derived.Test.YtoiaefgpegiieaaQO4
import Derived.Test.YtoiaefgpegiieaaQOpT
import Derived.ProofKit
import Derived.Carry
namespace Go.Proofs.Ytoiaefgpegiieaa
open Go.RowKit
attribute [local go_sem] run_store_float

section
variable {P : Program} {ops : Array Oper} {Q : Exit → Act → World → Prop} {md : Region.Mode} {S : World → Prop}
theorem lp_cccc_2 {a0 : Act} {B v : World} {l : List (Nat × Array Value)} (_ : Hid (Own B l v)) {w0 : World} {L0 : Array Bool} (c1 c2 c3 c4 m1 m2 : Nat) (slots : List Nat) (N : Nat) (J : List (Nat × Array Value) → Act → Nat → List (Option Nat) → Act → World → Prop) (hok : latOkP [false, false, false, false] md ops L0 [c1, c2, c3, c4] [m1, m2] = true)
    (hsl : (slots.all fun s => decide (s < a0.tmps.size)) = true) (h0 : ∀ A : Act, (∀ s, s ∈ slots → s < A.tmps.size) → J l A 0 (List.replicate 2 none) A w0)
    (hS : ∀ k p a w, J l a0 k p a w → S w)
    (k1 : ∀ p a w, J l a0 0 p a w → wpOp P ops Q c1 (fun b v => J l a0 1 p b v) a w)
    (k2 : ∀ p a w, J l a0 1 p a w → wpOp P ops Q c2 (fun b v => J l a0 2 p b v) a w)
    (k3 : ∀ p a w, J l a0 2 p a w → wpOp P ops Q c3 (fun b v => J l a0 3 p b v) a w)
    (k4 : ∀ p a w, J l a0 3 p a w → wpOp P ops Q c4 (fun b v => J l a0 4 p b v) a w)
    (n1 : ∀ k p a w, p[0]? = some none → J l a0 k p a w → wpOp P ops Q m1 (fun b v => ∃ q, J l a0 k (p.set 0 (some q)) b v) a w)
    (n2 : ∀ k p a w, p[1]? = some none → J l a0 k p a w → wpOp P ops Q m2 (fun b v => ∃ q, J l a0 k (p.set 1 (some q)) b v) a w)
    (fin : ∀ q1 q2 a w, J l a0 4 [some q1, some q2] a w → wpAnyV P md ops Q S [] N (lstOf L0 [c1, c2, c3, c4] [m1, m2] 4 [true, true]) a w) :
    wpAnyV P md ops Q S [] (N + 6) L0 a0 w0 := by
  refine latP_from (pl := [false, false, false, false]) [c1, c2, c3, c4] [m1, m2] slots N 6 (J l) hok rfl hsl h0 hS (fun k i p a w hk hn hJ => ?_) (fun k i p a w hk hn hJ => ?_) (fun k m i p a w hm hp hJ => ?_) (fun p a w hp hall hJ => ?_)
  · rcases k with _ | _ | _ | _ | k
    · obtain rfl : c1 = i := by simpa using hk
      exact k1 p a w hJ
    · obtain rfl : c2 = i := by simpa using hk
      exact k2 p a w hJ
    · obtain rfl : c3 = i := by simpa using hk
      exact k3 p a w hJ
    · obtain rfl : c4 = i := by simpa using hk
      exact k4 p a w hJ
    · simp at hk
  · rcases k with _ | _ | _ | _ | k
    · exact absurd hn (by decide)
    · exact absurd hn (by decide)
    · exact absurd hn (by decide)
    · exact absurd hn (by decide)
    · simp at hk
  · rcases m with _ | _ | m
    · obtain rfl : m1 = i := by simpa using hm
      exact n1 k p a w hp hJ
    · obtain rfl : m2 = i := by simpa using hm
      exact n2 k p a w hp hJ
    · simp at hm
  · obtain ⟨q1, q2, rfl⟩ := fin_two hp hall
    exact fin q1 q2 a w hJ
theorem lp_ccc_3 {a0 : Act} {B v : World} {l : List (Nat × Array Value)} (_ : Hid (Own B l v)) {w0 : World} {L0 : Array Bool} (c1 c2 c3 m1 m2 m3 : Nat) (slots : List Nat) (N : Nat) (J : List (Nat × Array Value) → Act → Nat → List (Option Nat) → Act → World → Prop) (hok : latOkP [false, false, false] md ops L0 [c1, c2, c3] [m1, m2, m3] = true)
    (hsl : (slots.all fun s => decide (s < a0.tmps.size)) = true) (h0 : ∀ A : Act, (∀ s, s ∈ slots → s < A.tmps.size) → J l A 0 (List.replicate 3 none) A w0)
    (hS : ∀ k p a w, J l a0 k p a w → S w)
    (k1 : ∀ p a w, J l a0 0 p a w → wpOp P ops Q c1 (fun b v => J l a0 1 p b v) a w)
    (k2 : ∀ p a w, J l a0 1 p a w → wpOp P ops Q c2 (fun b v => J l a0 2 p b v) a w)
    (k3 : ∀ p a w, J l a0 2 p a w → wpOp P ops Q c3 (fun b v => J l a0 3 p b v) a w)
    (n1 : ∀ k p a w, p[0]? = some none → J l a0 k p a w → wpOp P ops Q m1 (fun b v => ∃ q, J l a0 k (p.set 0 (some q)) b v) a w)
    (n2 : ∀ k p a w, p[1]? = some none → J l a0 k p a w → wpOp P ops Q m2 (fun b v => ∃ q, J l a0 k (p.set 1 (some q)) b v) a w)
    (n3 : ∀ k p a w, p[2]? = some none → J l a0 k p a w → wpOp P ops Q m3 (fun b v => ∃ q, J l a0 k (p.set 2 (some q)) b v) a w)
    (fin : ∀ q1 q2 q3 a w, J l a0 3 [some q1, some q2, some q3] a w → wpAnyV P md ops Q S [] N (lstOf L0 [c1, c2, c3] [m1, m2, m3] 3 [true, true, true]) a w) :
    wpAnyV P md ops Q S [] (N + 6) L0 a0 w0 := by
  refine latP_from (pl := [false, false, false]) [c1, c2, c3] [m1, m2, m3] slots N 6 (J l) hok rfl hsl h0 hS (fun k i p a w hk hn hJ => ?_) (fun k i p a w hk hn hJ => ?_) (fun k m i p a w hm hp hJ => ?_) (fun p a w hp hall hJ => ?_)
  · rcases k with _ | _ | _ | k
    · obtain rfl : c1 = i := by simpa using hk
      exact k1 p a w hJ
    · obtain rfl : c2 = i := by simpa using hk
      exact k2 p a w hJ
    · obtain rfl : c3 = i := by simpa using hk
      exact k3 p a w hJ
    · simp at hk
  · rcases k with _ | _ | _ | k
    · exact absurd hn (by decide)
    · exact absurd hn (by decide)
    · exact absurd hn (by decide)
    · simp at hk
  · rcases m with _ | _ | _ | m
    · obtain rfl : m1 = i := by simpa using hm
      exact n1 k p a w hp hJ
    · obtain rfl : m2 = i := by simpa using hm
      exact n2 k p a w hp hJ
    · obtain rfl : m3 = i := by simpa using hm
      exact n3 k p a w hp hJ
    · simp at hm
  · obtain ⟨q1, q2, q3, rfl⟩ := fin_three hp hall
    exact fin q1 q2 q3 a w hJ
theorem lp_ccccppp_1 {a0 : Act} {B v : World} {l : List (Nat × Array Value)} (_ : Hid (Own B l v)) {w0 : World} {L0 : Array Bool} (c1 c2 c3 c4 c5 c6 c7 m1 : Nat) (slots : List Nat) (N : Nat) (J : List (Nat × Array Value) → Act → Nat → List (Option Nat) → Act → World → Prop) (hok : latOkP [false, false, false, false, true, true, true] md ops L0 [c1, c2, c3, c4, c5, c6, c7] [m1] = true)
    (hsl : (slots.all fun s => decide (s < a0.tmps.size)) = true) (h0 : ∀ A : Act, (∀ s, s ∈ slots → s < A.tmps.size) → J l A 0 (List.replicate 1 none) A w0)
    (hS : ∀ k p a w, J l a0 k p a w → S w)
    (k1 : ∀ p a w, J l a0 0 p a w → wpOp P ops Q c1 (fun b v => J l a0 1 p b v) a w)
    (k2 : ∀ p a w, J l a0 1 p a w → wpOp P ops Q c2 (fun b v => J l a0 2 p b v) a w)
    (k3 : ∀ p a w, J l a0 2 p a w → wpOp P ops Q c3 (fun b v => J l a0 3 p b v) a w)
    (k4 : ∀ p a w, J l a0 3 p a w → wpOp P ops Q c4 (fun b v => J l a0 4 p b v) a w)
    (k5 : ∀ p a w, J l a0 4 p a w → ∃ o x, ops[c5]? = some o ∧ YieldsIf P ops S o x a ∧ (∀ c a w, Q (.panic c) (a.put o.dst x) w → Q (.panic c) a w) ∧ J l a0 5 p (a.put o.dst x) w)
    (k6 : ∀ p a w, J l a0 5 p a w → ∃ o x, ops[c6]? = some o ∧ YieldsIf P ops S o x a ∧ (∀ c a w, Q (.panic c) (a.put o.dst x) w → Q (.panic c) a w) ∧ J l a0 6 p (a.put o.dst x) w)
    (k7 : ∀ p a w, J l a0 6 p a w → ∃ o x, ops[c7]? = some o ∧ YieldsIf P ops S o x a ∧ (∀ c a w, Q (.panic c) (a.put o.dst x) w → Q (.panic c) a w) ∧ J l a0 7 p (a.put o.dst x) w)
    (n1 : ∀ k p a w, p[0]? = some none → J l a0 k p a w → wpOp P ops Q m1 (fun b v => ∃ q, J l a0 k (p.set 0 (some q)) b v) a w)
    (fin : ∀ q1 a w, J l a0 7 [some q1] a w → wpAnyV P md ops Q S [] N (lstOf L0 [c1, c2, c3, c4, c5, c6, c7] [m1] 7 [true]) a w) :
    wpAnyV P md ops Q S [] (N + 8) L0 a0 w0 := by
  refine latP_from (pl := [false, false, false, false, true, true, true]) [c1, c2, c3, c4, c5, c6, c7] [m1] slots N 8 (J l) hok rfl hsl h0 hS (fun k i p a w hk hn hJ => ?_) (fun k i p a w hk hn hJ => ?_) (fun k m i p a w hm hp hJ => ?_) (fun p a w hp hall hJ => ?_)
  · rcases k with _ | _ | _ | _ | _ | _ | _ | k
    · obtain rfl : c1 = i := by simpa using hk
      exact k1 p a w hJ
    · obtain rfl : c2 = i := by simpa using hk
      exact k2 p a w hJ
    · obtain rfl : c3 = i := by simpa using hk
      exact k3 p a w hJ
    · obtain rfl : c4 = i := by simpa using hk
      exact k4 p a w hJ
    · exact absurd hn (by decide)
    · exact absurd hn (by decide)
    · exact absurd hn (by decide)
    · simp at hk
  · rcases k with _ | _ | _ | _ | _ | _ | _ | k
    · exact absurd hn (by decide)
    · exact absurd hn (by decide)
    · exact absurd hn (by decide)
    · exact absurd hn (by decide)
    · obtain rfl : c5 = i := by simpa using hk
      exact k5 p a w hJ
    · obtain rfl : c6 = i := by simpa using hk
      exact k6 p a w hJ
    · obtain rfl : c7 = i := by simpa using hk
      exact k7 p a w hJ
    · simp at hk
  · rcases m with _ | m
    · obtain rfl : m1 = i := by simpa using hm
      exact n1 k p a w hp hJ
    · simp at hm
  · obtain ⟨q1, rfl⟩ := fin_one hp hall
    exact fin q1 a w hJ
end

/-- Region 1. -/
def orJ1 (w : World) (i o : Nat) (l : RowL) (a0 : Act) (k : Nat) (p : List (Option Nat)) (a : Act) (v : World) : Prop :=
  ∃ y1 y2 y3 y4 z1 z2 : Value, a = ((((((a0.put (some 22) y1).put (some 23) y2).put (some 26) y3).put (some 27) y4).put (some 3) z1).put (some 4) z2) ∧ (0 < k → y1 = .float .f64 i) ∧ (1 < k → y2 = .agg #[.float .f64 i, .float .f64 i]) ∧ (2 < k → y3 = .float .f64 o) ∧ (3 < k → y4 = .agg #[.float .f64 o, .float .f64 o]) ∧ (∀ q, p[0]? = some (some q) → z1 = .pointer (some ⟨q, 0, none⟩)) ∧ (∀ q, p[1]? = some (some q) → z2 = .pointer (some ⟨q, 0, none⟩)) ∧ OwnF w l [#[.float .f64 0, .float .f64 0], #[.float .f64 0, .float .f64 0]] p v
section
variable {w v : World} {i o : Nat} {l : RowL} {a0 a : Act} {p : List (Option Nat)}
theorem orJ1_0 (h : orJ1 w i o l a0 0 p a v) : ∃ y1 y2 y3 y4 z1 z2 : Value, a = ((((((a0.put (some 22) y1).put (some 23) y2).put (some 26) y3).put (some 27) y4).put (some 3) z1).put (some 4) z2) ∧ (∀ q, p[0]? = some (some q) → z1 = .pointer (some ⟨q, 0, none⟩)) ∧ (∀ q, p[1]? = some (some q) → z2 = .pointer (some ⟨q, 0, none⟩)) ∧ OwnF w l [#[.float .f64 0, .float .f64 0], #[.float .f64 0, .float .f64 0]] p v := by
  obtain ⟨y1, y2, y3, y4, z1, z2, ha, E1, E2, E3, E4, G1, G2, h⟩ := h
  exact ⟨y1, y2, y3, y4, z1, z2, ha, G1, G2, h⟩
theorem orJ1_1 (h : orJ1 w i o l a0 1 p a v) : ∃ y2 y3 y4 z1 z2 : Value, a = ((((((a0.put (some 22) (.float .f64 i)).put (some 23) y2).put (some 26) y3).put (some 27) y4).put (some 3) z1).put (some 4) z2) ∧ (∀ q, p[0]? = some (some q) → z1 = .pointer (some ⟨q, 0, none⟩)) ∧ (∀ q, p[1]? = some (some q) → z2 = .pointer (some ⟨q, 0, none⟩)) ∧ OwnF w l [#[.float .f64 0, .float .f64 0], #[.float .f64 0, .float .f64 0]] p v := by
  obtain ⟨y1, y2, y3, y4, z1, z2, ha, E1, E2, E3, E4, G1, G2, h⟩ := h
  obtain rfl := E1 (by decide)
  exact ⟨y2, y3, y4, z1, z2, ha, G1, G2, h⟩
theorem orJ1_2 (h : orJ1 w i o l a0 2 p a v) : ∃ y3 y4 z1 z2 : Value, a = ((((((a0.put (some 22) (.float .f64 i)).put (some 23) (.agg #[.float .f64 i, .float .f64 i])).put (some 26) y3).put (some 27) y4).put (some 3) z1).put (some 4) z2) ∧ (∀ q, p[0]? = some (some q) → z1 = .pointer (some ⟨q, 0, none⟩)) ∧ (∀ q, p[1]? = some (some q) → z2 = .pointer (some ⟨q, 0, none⟩)) ∧ OwnF w l [#[.float .f64 0, .float .f64 0], #[.float .f64 0, .float .f64 0]] p v := by
  obtain ⟨y1, y2, y3, y4, z1, z2, ha, E1, E2, E3, E4, G1, G2, h⟩ := h
  obtain rfl := E1 (by decide)
  obtain rfl := E2 (by decide)
  exact ⟨y3, y4, z1, z2, ha, G1, G2, h⟩
theorem orJ1_3 (h : orJ1 w i o l a0 3 p a v) : ∃ y4 z1 z2 : Value, a = ((((((a0.put (some 22) (.float .f64 i)).put (some 23) (.agg #[.float .f64 i, .float .f64 i])).put (some 26) (.float .f64 o)).put (some 27) y4).put (some 3) z1).put (some 4) z2) ∧ (∀ q, p[0]? = some (some q) → z1 = .pointer (some ⟨q, 0, none⟩)) ∧ (∀ q, p[1]? = some (some q) → z2 = .pointer (some ⟨q, 0, none⟩)) ∧ OwnF w l [#[.float .f64 0, .float .f64 0], #[.float .f64 0, .float .f64 0]] p v := by
  obtain ⟨y1, y2, y3, y4, z1, z2, ha, E1, E2, E3, E4, G1, G2, h⟩ := h
  obtain rfl := E1 (by decide)
  obtain rfl := E2 (by decide)
  obtain rfl := E3 (by decide)
  exact ⟨y4, z1, z2, ha, G1, G2, h⟩
theorem orJ1_fin {q1 q2 : Nat} (h : orJ1 w i o l a0 4 [some q1, some q2] a v) : a = ((((((a0.put (some 22) (.float .f64 i)).put (some 23) (.agg #[.float .f64 i, .float .f64 i])).put (some 26) (.float .f64 o)).put (some 27) (.agg #[.float .f64 o, .float .f64 o])).put (some 3) (.pointer (some ⟨q1, 0, none⟩))).put (some 4) (.pointer (some ⟨q2, 0, none⟩))) ∧ OwnF w l [#[.float .f64 0, .float .f64 0], #[.float .f64 0, .float .f64 0]] [some q1, some q2] v := by
  obtain ⟨y1, y2, y3, y4, z1, z2, ha, E1, E2, E3, E4, G1, G2, h⟩ := h
  obtain rfl := E1 (by decide)
  obtain rfl := E2 (by decide)
  obtain rfl := E3 (by decide)
  obtain rfl := E4 (by decide)
  obtain rfl := G1 _ rfl
  obtain rfl := G2 _ rfl
  exact ⟨ha, h⟩
end

/-- Region 2. -/
def orJ2 (w : World) (dl dh sl sh rl rh : Nat) (l : RowL) (a0 : Act) (k : Nat) (p : List (Option Nat)) (a : Act) (v : World) : Prop :=
  ∃ y1 y2 y3 z1 z2 z3 : Value, a = ((((((a0.put (some 32) y1).put (some 37) y2).put (some 42) y3).put (some 5) z1).put (some 6) z2).put (some 7) z3) ∧ (0 < k → y1 = .agg #[.float .f64 dl, .float .f64 dh]) ∧ (1 < k → y2 = .agg #[.float .f64 sl, .float .f64 sh]) ∧ (2 < k → y3 = .agg #[.float .f64 rl, .float .f64 rh]) ∧ (∀ q, p[0]? = some (some q) → z1 = .pointer (some ⟨q, 0, none⟩)) ∧ (∀ q, p[1]? = some (some q) → z2 = .pointer (some ⟨q, 0, none⟩)) ∧ (∀ q, p[2]? = some (some q) → z3 = .pointer (some ⟨q, 0, none⟩)) ∧ OwnF w l [#[.float .f64 0, .float .f64 0], #[.float .f64 0, .float .f64 0], #[.float .f64 0, .float .f64 0]] p v
section
variable {w v : World} {dl dh sl sh rl rh : Nat} {l : RowL} {a0 a : Act} {p : List (Option Nat)}
theorem orJ2_0 (h : orJ2 w dl dh sl sh rl rh l a0 0 p a v) : ∃ y1 y2 y3 z1 z2 z3 : Value, a = ((((((a0.put (some 32) y1).put (some 37) y2).put (some 42) y3).put (some 5) z1).put (some 6) z2).put (some 7) z3) ∧ (∀ q, p[0]? = some (some q) → z1 = .pointer (some ⟨q, 0, none⟩)) ∧ (∀ q, p[1]? = some (some q) → z2 = .pointer (some ⟨q, 0, none⟩)) ∧ (∀ q, p[2]? = some (some q) → z3 = .pointer (some ⟨q, 0, none⟩)) ∧ OwnF w l [#[.float .f64 0, .float .f64 0], #[.float .f64 0, .float .f64 0], #[.float .f64 0, .float .f64 0]] p v := by
  obtain ⟨y1, y2, y3, z1, z2, z3, ha, E1, E2, E3, G1, G2, G3, h⟩ := h
  exact ⟨y1, y2, y3, z1, z2, z3, ha, G1, G2, G3, h⟩
theorem orJ2_1 (h : orJ2 w dl dh sl sh rl rh l a0 1 p a v) : ∃ y2 y3 z1 z2 z3 : Value, a = ((((((a0.put (some 32) (.agg #[.float .f64 dl, .float .f64 dh])).put (some 37) y2).put (some 42) y3).put (some 5) z1).put (some 6) z2).put (some 7) z3) ∧ (∀ q, p[0]? = some (some q) → z1 = .pointer (some ⟨q, 0, none⟩)) ∧ (∀ q, p[1]? = some (some q) → z2 = .pointer (some ⟨q, 0, none⟩)) ∧ (∀ q, p[2]? = some (some q) → z3 = .pointer (some ⟨q, 0, none⟩)) ∧ OwnF w l [#[.float .f64 0, .float .f64 0], #[.float .f64 0, .float .f64 0], #[.float .f64 0, .float .f64 0]] p v := by
  obtain ⟨y1, y2, y3, z1, z2, z3, ha, E1, E2, E3, G1, G2, G3, h⟩ := h
  obtain rfl := E1 (by decide)
  exact ⟨y2, y3, z1, z2, z3, ha, G1, G2, G3, h⟩
theorem orJ2_2 (h : orJ2 w dl dh sl sh rl rh l a0 2 p a v) : ∃ y3 z1 z2 z3 : Value, a = ((((((a0.put (some 32) (.agg #[.float .f64 dl, .float .f64 dh])).put (some 37) (.agg #[.float .f64 sl, .float .f64 sh])).put (some 42) y3).put (some 5) z1).put (some 6) z2).put (some 7) z3) ∧ (∀ q, p[0]? = some (some q) → z1 = .pointer (some ⟨q, 0, none⟩)) ∧ (∀ q, p[1]? = some (some q) → z2 = .pointer (some ⟨q, 0, none⟩)) ∧ (∀ q, p[2]? = some (some q) → z3 = .pointer (some ⟨q, 0, none⟩)) ∧ OwnF w l [#[.float .f64 0, .float .f64 0], #[.float .f64 0, .float .f64 0], #[.float .f64 0, .float .f64 0]] p v := by
  obtain ⟨y1, y2, y3, z1, z2, z3, ha, E1, E2, E3, G1, G2, G3, h⟩ := h
  obtain rfl := E1 (by decide)
  obtain rfl := E2 (by decide)
  exact ⟨y3, z1, z2, z3, ha, G1, G2, G3, h⟩
theorem orJ2_fin {q1 q2 q3 : Nat} (h : orJ2 w dl dh sl sh rl rh l a0 3 [some q1, some q2, some q3] a v) : a = ((((((a0.put (some 32) (.agg #[.float .f64 dl, .float .f64 dh])).put (some 37) (.agg #[.float .f64 sl, .float .f64 sh])).put (some 42) (.agg #[.float .f64 rl, .float .f64 rh])).put (some 5) (.pointer (some ⟨q1, 0, none⟩))).put (some 6) (.pointer (some ⟨q2, 0, none⟩))).put (some 7) (.pointer (some ⟨q3, 0, none⟩))) ∧ OwnF w l [#[.float .f64 0, .float .f64 0], #[.float .f64 0, .float .f64 0], #[.float .f64 0, .float .f64 0]] [some q1, some q2, some q3] v := by
  obtain ⟨y1, y2, y3, z1, z2, z3, ha, E1, E2, E3, G1, G2, G3, h⟩ := h
  obtain rfl := E1 (by decide)
  obtain rfl := E2 (by decide)
  obtain rfl := E3 (by decide)
  obtain rfl := G1 _ rfl
  obtain rfl := G2 _ rfl
  obtain rfl := G3 _ rfl
  exact ⟨ha, h⟩
end

/-- Region 3. -/
def orJ3 (w : World) (rl sl dl xl xh : Nat) (l : RowL) (a0 : Act) (k : Nat) (p : List (Option Nat)) (a : Act) (v : World) : Prop :=
  ∃ y1 y2 y3 y4 y5 y6 y7 z1 : Value, a = ((((((((a0.put (some 46) y1).put (some 49) y2).put (some 54) y3).put (some 55) y4).put (some 43) y5).put (some 56) y6).put (some 57) y7).put (some 8) z1) ∧ (0 < k → y1 = .agg #[.float .f64 rl, .float .f64 rl]) ∧ (1 < k → y2 = .agg #[.float .f64 sl, .float .f64 sl]) ∧ (2 < k → y3 = .agg #[.float .f64 dl, .float .f64 dl]) ∧ (3 < k → y4 = .tuple #[.agg #[.float .f64 xl, .float .f64 xh], .int .i64 0]) ∧ (4 < k → y5 = .tuple #[.agg #[.float .f64 xl, .float .f64 xh], .int .i64 0]) ∧ (5 < k → y6 = .agg #[.float .f64 xl, .float .f64 xh]) ∧ (6 < k → y7 = .int .i64 0) ∧ (∀ q, p[0]? = some (some q) → z1 = .pointer (some ⟨q, 0, none⟩)) ∧ OwnF w l [#[.float .f64 0, .float .f64 0]] p v
section
variable {w v : World} {rl sl dl xl xh : Nat} {l : RowL} {a0 a : Act} {p : List (Option Nat)}
theorem orJ3_0 (h : orJ3 w rl sl dl xl xh l a0 0 p a v) : ∃ y1 y2 y3 y4 y5 y6 y7 z1 : Value, a = ((((((((a0.put (some 46) y1).put (some 49) y2).put (some 54) y3).put (some 55) y4).put (some 43) y5).put (some 56) y6).put (some 57) y7).put (some 8) z1) ∧ (∀ q, p[0]? = some (some q) → z1 = .pointer (some ⟨q, 0, none⟩)) ∧ OwnF w l [#[.float .f64 0, .float .f64 0]] p v := by
  obtain ⟨y1, y2, y3, y4, y5, y6, y7, z1, ha, E1, E2, E3, E4, E5, E6, E7, G1, h⟩ := h
  exact ⟨y1, y2, y3, y4, y5, y6, y7, z1, ha, G1, h⟩
theorem orJ3_1 (h : orJ3 w rl sl dl xl xh l a0 1 p a v) : ∃ y2 y3 y4 y5 y6 y7 z1 : Value, a = ((((((((a0.put (some 46) (.agg #[.float .f64 rl, .float .f64 rl])).put (some 49) y2).put (some 54) y3).put (some 55) y4).put (some 43) y5).put (some 56) y6).put (some 57) y7).put (some 8) z1) ∧ (∀ q, p[0]? = some (some q) → z1 = .pointer (some ⟨q, 0, none⟩)) ∧ OwnF w l [#[.float .f64 0, .float .f64 0]] p v := by
  obtain ⟨y1, y2, y3, y4, y5, y6, y7, z1, ha, E1, E2, E3, E4, E5, E6, E7, G1, h⟩ := h
  obtain rfl := E1 (by decide)
  exact ⟨y2, y3, y4, y5, y6, y7, z1, ha, G1, h⟩
theorem orJ3_2 (h : orJ3 w rl sl dl xl xh l a0 2 p a v) : ∃ y3 y4 y5 y6 y7 z1 : Value, a = ((((((((a0.put (some 46) (.agg #[.float .f64 rl, .float .f64 rl])).put (some 49) (.agg #[.float .f64 sl, .float .f64 sl])).put (some 54) y3).put (some 55) y4).put (some 43) y5).put (some 56) y6).put (some 57) y7).put (some 8) z1) ∧ (∀ q, p[0]? = some (some q) → z1 = .pointer (some ⟨q, 0, none⟩)) ∧ OwnF w l [#[.float .f64 0, .float .f64 0]] p v := by
  obtain ⟨y1, y2, y3, y4, y5, y6, y7, z1, ha, E1, E2, E3, E4, E5, E6, E7, G1, h⟩ := h
  obtain rfl := E1 (by decide)
  obtain rfl := E2 (by decide)
  exact ⟨y3, y4, y5, y6, y7, z1, ha, G1, h⟩
theorem orJ3_3 (h : orJ3 w rl sl dl xl xh l a0 3 p a v) : ∃ y4 y5 y6 y7 z1 : Value, a = ((((((((a0.put (some 46) (.agg #[.float .f64 rl, .float .f64 rl])).put (some 49) (.agg #[.float .f64 sl, .float .f64 sl])).put (some 54) (.agg #[.float .f64 dl, .float .f64 dl])).put (some 55) y4).put (some 43) y5).put (some 56) y6).put (some 57) y7).put (some 8) z1) ∧ (∀ q, p[0]? = some (some q) → z1 = .pointer (some ⟨q, 0, none⟩)) ∧ OwnF w l [#[.float .f64 0, .float .f64 0]] p v := by
  obtain ⟨y1, y2, y3, y4, y5, y6, y7, z1, ha, E1, E2, E3, E4, E5, E6, E7, G1, h⟩ := h
  obtain rfl := E1 (by decide)
  obtain rfl := E2 (by decide)
  obtain rfl := E3 (by decide)
  exact ⟨y4, y5, y6, y7, z1, ha, G1, h⟩
theorem orJ3_4 (h : orJ3 w rl sl dl xl xh l a0 4 p a v) : ∃ y5 y6 y7 z1 : Value, a = ((((((((a0.put (some 46) (.agg #[.float .f64 rl, .float .f64 rl])).put (some 49) (.agg #[.float .f64 sl, .float .f64 sl])).put (some 54) (.agg #[.float .f64 dl, .float .f64 dl])).put (some 55) (.tuple #[.agg #[.float .f64 xl, .float .f64 xh], .int .i64 0])).put (some 43) y5).put (some 56) y6).put (some 57) y7).put (some 8) z1) ∧ (∀ q, p[0]? = some (some q) → z1 = .pointer (some ⟨q, 0, none⟩)) ∧ OwnF w l [#[.float .f64 0, .float .f64 0]] p v := by
  obtain ⟨y1, y2, y3, y4, y5, y6, y7, z1, ha, E1, E2, E3, E4, E5, E6, E7, G1, h⟩ := h
  obtain rfl := E1 (by decide)
  obtain rfl := E2 (by decide)
  obtain rfl := E3 (by decide)
  obtain rfl := E4 (by decide)
  exact ⟨y5, y6, y7, z1, ha, G1, h⟩
theorem orJ3_5 (h : orJ3 w rl sl dl xl xh l a0 5 p a v) : ∃ y6 y7 z1 : Value, a = ((((((((a0.put (some 46) (.agg #[.float .f64 rl, .float .f64 rl])).put (some 49) (.agg #[.float .f64 sl, .float .f64 sl])).put (some 54) (.agg #[.float .f64 dl, .float .f64 dl])).put (some 55) (.tuple #[.agg #[.float .f64 xl, .float .f64 xh], .int .i64 0])).put (some 43) (.tuple #[.agg #[.float .f64 xl, .float .f64 xh], .int .i64 0])).put (some 56) y6).put (some 57) y7).put (some 8) z1) ∧ (∀ q, p[0]? = some (some q) → z1 = .pointer (some ⟨q, 0, none⟩)) ∧ OwnF w l [#[.float .f64 0, .float .f64 0]] p v := by
  obtain ⟨y1, y2, y3, y4, y5, y6, y7, z1, ha, E1, E2, E3, E4, E5, E6, E7, G1, h⟩ := h
  obtain rfl := E1 (by decide)
  obtain rfl := E2 (by decide)
  obtain rfl := E3 (by decide)
  obtain rfl := E4 (by decide)
  obtain rfl := E5 (by decide)
  exact ⟨y6, y7, z1, ha, G1, h⟩
theorem orJ3_6 (h : orJ3 w rl sl dl xl xh l a0 6 p a v) : ∃ y7 z1 : Value, a = ((((((((a0.put (some 46) (.agg #[.float .f64 rl, .float .f64 rl])).put (some 49) (.agg #[.float .f64 sl, .float .f64 sl])).put (some 54) (.agg #[.float .f64 dl, .float .f64 dl])).put (some 55) (.tuple #[.agg #[.float .f64 xl, .float .f64 xh], .int .i64 0])).put (some 43) (.tuple #[.agg #[.float .f64 xl, .float .f64 xh], .int .i64 0])).put (some 56) (.agg #[.float .f64 xl, .float .f64 xh])).put (some 57) y7).put (some 8) z1) ∧ (∀ q, p[0]? = some (some q) → z1 = .pointer (some ⟨q, 0, none⟩)) ∧ OwnF w l [#[.float .f64 0, .float .f64 0]] p v := by
  obtain ⟨y1, y2, y3, y4, y5, y6, y7, z1, ha, E1, E2, E3, E4, E5, E6, E7, G1, h⟩ := h
  obtain rfl := E1 (by decide)
  obtain rfl := E2 (by decide)
  obtain rfl := E3 (by decide)
  obtain rfl := E4 (by decide)
  obtain rfl := E5 (by decide)
  obtain rfl := E6 (by decide)
  exact ⟨y7, z1, ha, G1, h⟩
theorem orJ3_fin {q1 : Nat} (h : orJ3 w rl sl dl xl xh l a0 7 [some q1] a v) : a = ((((((((a0.put (some 46) (.agg #[.float .f64 rl, .float .f64 rl])).put (some 49) (.agg #[.float .f64 sl, .float .f64 sl])).put (some 54) (.agg #[.float .f64 dl, .float .f64 dl])).put (some 55) (.tuple #[.agg #[.float .f64 xl, .float .f64 xh], .int .i64 0])).put (some 43) (.tuple #[.agg #[.float .f64 xl, .float .f64 xh], .int .i64 0])).put (some 56) (.agg #[.float .f64 xl, .float .f64 xh])).put (some 57) (.int .i64 0)).put (some 8) (.pointer (some ⟨q1, 0, none⟩))) ∧ OwnF w l [#[.float .f64 0, .float .f64 0]] [some q1] v := by
  obtain ⟨y1, y2, y3, y4, y5, y6, y7, z1, ha, E1, E2, E3, E4, E5, E6, E7, G1, h⟩ := h
  obtain rfl := E1 (by decide)
  obtain rfl := E2 (by decide)
  obtain rfl := E3 (by decide)
  obtain rfl := E4 (by decide)
  obtain rfl := E5 (by decide)
  obtain rfl := E6 (by decide)
  obtain rfl := E7 (by decide)
  obtain rfl := G1 _ rfl
  exact ⟨ha, h⟩
end

/-- Region 4. -/
def orJ4 (w : World) (rl sl dh yl yh : Nat) (l : RowL) (a0 : Act) (k : Nat) (p : List (Option Nat)) (a : Act) (v : World) : Prop :=
  ∃ y1 y2 y3 y4 y5 y6 y7 z1 : Value, a = ((((((((a0.put (some 61) y1).put (some 64) y2).put (some 69) y3).put (some 70) y4).put (some 58) y5).put (some 71) y6).put (some 72) y7).put (some 10) z1) ∧ (0 < k → y1 = .agg #[.float .f64 rl, .float .f64 rl]) ∧ (1 < k → y2 = .agg #[.float .f64 sl, .float .f64 sl]) ∧ (2 < k → y3 = .agg #[.float .f64 dh, .float .f64 dh]) ∧ (3 < k → y4 = .tuple #[.agg #[.float .f64 yl, .float .f64 yh], .int .i64 0]) ∧ (4 < k → y5 = .tuple #[.agg #[.float .f64 yl, .float .f64 yh], .int .i64 0]) ∧ (5 < k → y6 = .agg #[.float .f64 yl, .float .f64 yh]) ∧ (6 < k → y7 = .int .i64 0) ∧ (∀ q, p[0]? = some (some q) → z1 = .pointer (some ⟨q, 0, none⟩)) ∧ OwnF w l [#[.float .f64 0, .float .f64 0]] p v
section
variable {w v : World} {rl sl dh yl yh : Nat} {l : RowL} {a0 a : Act} {p : List (Option Nat)}
theorem orJ4_0 (h : orJ4 w rl sl dh yl yh l a0 0 p a v) : ∃ y1 y2 y3 y4 y5 y6 y7 z1 : Value, a = ((((((((a0.put (some 61) y1).put (some 64) y2).put (some 69) y3).put (some 70) y4).put (some 58) y5).put (some 71) y6).put (some 72) y7).put (some 10) z1) ∧ (∀ q, p[0]? = some (some q) → z1 = .pointer (some ⟨q, 0, none⟩)) ∧ OwnF w l [#[.float .f64 0, .float .f64 0]] p v := by
  obtain ⟨y1, y2, y3, y4, y5, y6, y7, z1, ha, E1, E2, E3, E4, E5, E6, E7, G1, h⟩ := h
  exact ⟨y1, y2, y3, y4, y5, y6, y7, z1, ha, G1, h⟩
theorem orJ4_1 (h : orJ4 w rl sl dh yl yh l a0 1 p a v) : ∃ y2 y3 y4 y5 y6 y7 z1 : Value, a = ((((((((a0.put (some 61) (.agg #[.float .f64 rl, .float .f64 rl])).put (some 64) y2).put (some 69) y3).put (some 70) y4).put (some 58) y5).put (some 71) y6).put (some 72) y7).put (some 10) z1) ∧ (∀ q, p[0]? = some (some q) → z1 = .pointer (some ⟨q, 0, none⟩)) ∧ OwnF w l [#[.float .f64 0, .float .f64 0]] p v := by
  obtain ⟨y1, y2, y3, y4, y5, y6, y7, z1, ha, E1, E2, E3, E4, E5, E6, E7, G1, h⟩ := h
  obtain rfl := E1 (by decide)
  exact ⟨y2, y3, y4, y5, y6, y7, z1, ha, G1, h⟩
theorem orJ4_2 (h : orJ4 w rl sl dh yl yh l a0 2 p a v) : ∃ y3 y4 y5 y6 y7 z1 : Value, a = ((((((((a0.put (some 61) (.agg #[.float .f64 rl, .float .f64 rl])).put (some 64) (.agg #[.float .f64 sl, .float .f64 sl])).put (some 69) y3).put (some 70) y4).put (some 58) y5).put (some 71) y6).put (some 72) y7).put (some 10) z1) ∧ (∀ q, p[0]? = some (some q) → z1 = .pointer (some ⟨q, 0, none⟩)) ∧ OwnF w l [#[.float .f64 0, .float .f64 0]] p v := by
  obtain ⟨y1, y2, y3, y4, y5, y6, y7, z1, ha, E1, E2, E3, E4, E5, E6, E7, G1, h⟩ := h
  obtain rfl := E1 (by decide)
  obtain rfl := E2 (by decide)
  exact ⟨y3, y4, y5, y6, y7, z1, ha, G1, h⟩
theorem orJ4_3 (h : orJ4 w rl sl dh yl yh l a0 3 p a v) : ∃ y4 y5 y6 y7 z1 : Value, a = ((((((((a0.put (some 61) (.agg #[.float .f64 rl, .float .f64 rl])).put (some 64) (.agg #[.float .f64 sl, .float .f64 sl])).put (some 69) (.agg #[.float .f64 dh, .float .f64 dh])).put (some 70) y4).put (some 58) y5).put (some 71) y6).put (some 72) y7).put (some 10) z1) ∧ (∀ q, p[0]? = some (some q) → z1 = .pointer (some ⟨q, 0, none⟩)) ∧ OwnF w l [#[.float .f64 0, .float .f64 0]] p v := by
  obtain ⟨y1, y2, y3, y4, y5, y6, y7, z1, ha, E1, E2, E3, E4, E5, E6, E7, G1, h⟩ := h
  obtain rfl := E1 (by decide)
  obtain rfl := E2 (by decide)
  obtain rfl := E3 (by decide)
  exact ⟨y4, y5, y6, y7, z1, ha, G1, h⟩
theorem orJ4_4 (h : orJ4 w rl sl dh yl yh l a0 4 p a v) : ∃ y5 y6 y7 z1 : Value, a = ((((((((a0.put (some 61) (.agg #[.float .f64 rl, .float .f64 rl])).put (some 64) (.agg #[.float .f64 sl, .float .f64 sl])).put (some 69) (.agg #[.float .f64 dh, .float .f64 dh])).put (some 70) (.tuple #[.agg #[.float .f64 yl, .float .f64 yh], .int .i64 0])).put (some 58) y5).put (some 71) y6).put (some 72) y7).put (some 10) z1) ∧ (∀ q, p[0]? = some (some q) → z1 = .pointer (some ⟨q, 0, none⟩)) ∧ OwnF w l [#[.float .f64 0, .float .f64 0]] p v := by
  obtain ⟨y1, y2, y3, y4, y5, y6, y7, z1, ha, E1, E2, E3, E4, E5, E6, E7, G1, h⟩ := h
  obtain rfl := E1 (by decide)
  obtain rfl := E2 (by decide)
  obtain rfl := E3 (by decide)
  obtain rfl := E4 (by decide)
  exact ⟨y5, y6, y7, z1, ha, G1, h⟩
theorem orJ4_5 (h : orJ4 w rl sl dh yl yh l a0 5 p a v) : ∃ y6 y7 z1 : Value, a = ((((((((a0.put (some 61) (.agg #[.float .f64 rl, .float .f64 rl])).put (some 64) (.agg #[.float .f64 sl, .float .f64 sl])).put (some 69) (.agg #[.float .f64 dh, .float .f64 dh])).put (some 70) (.tuple #[.agg #[.float .f64 yl, .float .f64 yh], .int .i64 0])).put (some 58) (.tuple #[.agg #[.float .f64 yl, .float .f64 yh], .int .i64 0])).put (some 71) y6).put (some 72) y7).put (some 10) z1) ∧ (∀ q, p[0]? = some (some q) → z1 = .pointer (some ⟨q, 0, none⟩)) ∧ OwnF w l [#[.float .f64 0, .float .f64 0]] p v := by
  obtain ⟨y1, y2, y3, y4, y5, y6, y7, z1, ha, E1, E2, E3, E4, E5, E6, E7, G1, h⟩ := h
  obtain rfl := E1 (by decide)
  obtain rfl := E2 (by decide)
  obtain rfl := E3 (by decide)
  obtain rfl := E4 (by decide)
  obtain rfl := E5 (by decide)
  exact ⟨y6, y7, z1, ha, G1, h⟩
theorem orJ4_6 (h : orJ4 w rl sl dh yl yh l a0 6 p a v) : ∃ y7 z1 : Value, a = ((((((((a0.put (some 61) (.agg #[.float .f64 rl, .float .f64 rl])).put (some 64) (.agg #[.float .f64 sl, .float .f64 sl])).put (some 69) (.agg #[.float .f64 dh, .float .f64 dh])).put (some 70) (.tuple #[.agg #[.float .f64 yl, .float .f64 yh], .int .i64 0])).put (some 58) (.tuple #[.agg #[.float .f64 yl, .float .f64 yh], .int .i64 0])).put (some 71) (.agg #[.float .f64 yl, .float .f64 yh])).put (some 72) y7).put (some 10) z1) ∧ (∀ q, p[0]? = some (some q) → z1 = .pointer (some ⟨q, 0, none⟩)) ∧ OwnF w l [#[.float .f64 0, .float .f64 0]] p v := by
  obtain ⟨y1, y2, y3, y4, y5, y6, y7, z1, ha, E1, E2, E3, E4, E5, E6, E7, G1, h⟩ := h
  obtain rfl := E1 (by decide)
  obtain rfl := E2 (by decide)
  obtain rfl := E3 (by decide)
  obtain rfl := E4 (by decide)
  obtain rfl := E5 (by decide)
  obtain rfl := E6 (by decide)
  exact ⟨y7, z1, ha, G1, h⟩
theorem orJ4_fin {q1 : Nat} (h : orJ4 w rl sl dh yl yh l a0 7 [some q1] a v) : a = ((((((((a0.put (some 61) (.agg #[.float .f64 rl, .float .f64 rl])).put (some 64) (.agg #[.float .f64 sl, .float .f64 sl])).put (some 69) (.agg #[.float .f64 dh, .float .f64 dh])).put (some 70) (.tuple #[.agg #[.float .f64 yl, .float .f64 yh], .int .i64 0])).put (some 58) (.tuple #[.agg #[.float .f64 yl, .float .f64 yh], .int .i64 0])).put (some 71) (.agg #[.float .f64 yl, .float .f64 yh])).put (some 72) (.int .i64 0)).put (some 10) (.pointer (some ⟨q1, 0, none⟩))) ∧ OwnF w l [#[.float .f64 0, .float .f64 0]] [some q1] v := by
  obtain ⟨y1, y2, y3, y4, y5, y6, y7, z1, ha, E1, E2, E3, E4, E5, E6, E7, G1, h⟩ := h
  obtain rfl := E1 (by decide)
  obtain rfl := E2 (by decide)
  obtain rfl := E3 (by decide)
  obtain rfl := E4 (by decide)
  obtain rfl := E5 (by decide)
  obtain rfl := E6 (by decide)
  obtain rfl := E7 (by decide)
  obtain rfl := G1 _ rfl
  exact ⟨ha, h⟩
end

/-- Region 5. -/
def orJ5 (w : World) (rh sl dl zl zh : Nat) (l : RowL) (a0 : Act) (k : Nat) (p : List (Option Nat)) (a : Act) (v : World) : Prop :=
  ∃ y1 y2 y3 y4 y5 y6 y7 z1 : Value, a = ((((((((a0.put (some 76) y1).put (some 79) y2).put (some 84) y3).put (some 85) y4).put (some 73) y5).put (some 86) y6).put (some 87) y7).put (some 12) z1) ∧ (0 < k → y1 = .agg #[.float .f64 rh, .float .f64 rh]) ∧ (1 < k → y2 = .agg #[.float .f64 sl, .float .f64 sl]) ∧ (2 < k → y3 = .agg #[.float .f64 dl, .float .f64 dl]) ∧ (3 < k → y4 = .tuple #[.agg #[.float .f64 zl, .float .f64 zh], .int .i64 0]) ∧ (4 < k → y5 = .tuple #[.agg #[.float .f64 zl, .float .f64 zh], .int .i64 0]) ∧ (5 < k → y6 = .agg #[.float .f64 zl, .float .f64 zh]) ∧ (6 < k → y7 = .int .i64 0) ∧ (∀ q, p[0]? = some (some q) → z1 = .pointer (some ⟨q, 0, none⟩)) ∧ OwnF w l [#[.float .f64 0, .float .f64 0]] p v
section
variable {w v : World} {rh sl dl zl zh : Nat} {l : RowL} {a0 a : Act} {p : List (Option Nat)}
theorem orJ5_0 (h : orJ5 w rh sl dl zl zh l a0 0 p a v) : ∃ y1 y2 y3 y4 y5 y6 y7 z1 : Value, a = ((((((((a0.put (some 76) y1).put (some 79) y2).put (some 84) y3).put (some 85) y4).put (some 73) y5).put (some 86) y6).put (some 87) y7).put (some 12) z1) ∧ (∀ q, p[0]? = some (some q) → z1 = .pointer (some ⟨q, 0, none⟩)) ∧ OwnF w l [#[.float .f64 0, .float .f64 0]] p v := by
  obtain ⟨y1, y2, y3, y4, y5, y6, y7, z1, ha, E1, E2, E3, E4, E5, E6, E7, G1, h⟩ := h
  exact ⟨y1, y2, y3, y4, y5, y6, y7, z1, ha, G1, h⟩
theorem orJ5_1 (h : orJ5 w rh sl dl zl zh l a0 1 p a v) : ∃ y2 y3 y4 y5 y6 y7 z1 : Value, a = ((((((((a0.put (some 76) (.agg #[.float .f64 rh, .float .f64 rh])).put (some 79) y2).put (some 84) y3).put (some 85) y4).put (some 73) y5).put (some 86) y6).put (some 87) y7).put (some 12) z1) ∧ (∀ q, p[0]? = some (some q) → z1 = .pointer (some ⟨q, 0, none⟩)) ∧ OwnF w l [#[.float .f64 0, .float .f64 0]] p v := by
  obtain ⟨y1, y2, y3, y4, y5, y6, y7, z1, ha, E1, E2, E3, E4, E5, E6, E7, G1, h⟩ := h
  obtain rfl := E1 (by decide)
  exact ⟨y2, y3, y4, y5, y6, y7, z1, ha, G1, h⟩
theorem orJ5_2 (h : orJ5 w rh sl dl zl zh l a0 2 p a v) : ∃ y3 y4 y5 y6 y7 z1 : Value, a = ((((((((a0.put (some 76) (.agg #[.float .f64 rh, .float .f64 rh])).put (some 79) (.agg #[.float .f64 sl, .float .f64 sl])).put (some 84) y3).put (some 85) y4).put (some 73) y5).put (some 86) y6).put (some 87) y7).put (some 12) z1) ∧ (∀ q, p[0]? = some (some q) → z1 = .pointer (some ⟨q, 0, none⟩)) ∧ OwnF w l [#[.float .f64 0, .float .f64 0]] p v := by
  obtain ⟨y1, y2, y3, y4, y5, y6, y7, z1, ha, E1, E2, E3, E4, E5, E6, E7, G1, h⟩ := h
  obtain rfl := E1 (by decide)
  obtain rfl := E2 (by decide)
  exact ⟨y3, y4, y5, y6, y7, z1, ha, G1, h⟩
theorem orJ5_3 (h : orJ5 w rh sl dl zl zh l a0 3 p a v) : ∃ y4 y5 y6 y7 z1 : Value, a = ((((((((a0.put (some 76) (.agg #[.float .f64 rh, .float .f64 rh])).put (some 79) (.agg #[.float .f64 sl, .float .f64 sl])).put (some 84) (.agg #[.float .f64 dl, .float .f64 dl])).put (some 85) y4).put (some 73) y5).put (some 86) y6).put (some 87) y7).put (some 12) z1) ∧ (∀ q, p[0]? = some (some q) → z1 = .pointer (some ⟨q, 0, none⟩)) ∧ OwnF w l [#[.float .f64 0, .float .f64 0]] p v := by
  obtain ⟨y1, y2, y3, y4, y5, y6, y7, z1, ha, E1, E2, E3, E4, E5, E6, E7, G1, h⟩ := h
  obtain rfl := E1 (by decide)
  obtain rfl := E2 (by decide)
  obtain rfl := E3 (by decide)
  exact ⟨y4, y5, y6, y7, z1, ha, G1, h⟩
theorem orJ5_4 (h : orJ5 w rh sl dl zl zh l a0 4 p a v) : ∃ y5 y6 y7 z1 : Value, a = ((((((((a0.put (some 76) (.agg #[.float .f64 rh, .float .f64 rh])).put (some 79) (.agg #[.float .f64 sl, .float .f64 sl])).put (some 84) (.agg #[.float .f64 dl, .float .f64 dl])).put (some 85) (.tuple #[.agg #[.float .f64 zl, .float .f64 zh], .int .i64 0])).put (some 73) y5).put (some 86) y6).put (some 87) y7).put (some 12) z1) ∧ (∀ q, p[0]? = some (some q) → z1 = .pointer (some ⟨q, 0, none⟩)) ∧ OwnF w l [#[.float .f64 0, .float .f64 0]] p v := by
  obtain ⟨y1, y2, y3, y4, y5, y6, y7, z1, ha, E1, E2, E3, E4, E5, E6, E7, G1, h⟩ := h
  obtain rfl := E1 (by decide)
  obtain rfl := E2 (by decide)
  obtain rfl := E3 (by decide)
  obtain rfl := E4 (by decide)
  exact ⟨y5, y6, y7, z1, ha, G1, h⟩
theorem orJ5_5 (h : orJ5 w rh sl dl zl zh l a0 5 p a v) : ∃ y6 y7 z1 : Value, a = ((((((((a0.put (some 76) (.agg #[.float .f64 rh, .float .f64 rh])).put (some 79) (.agg #[.float .f64 sl, .float .f64 sl])).put (some 84) (.agg #[.float .f64 dl, .float .f64 dl])).put (some 85) (.tuple #[.agg #[.float .f64 zl, .float .f64 zh], .int .i64 0])).put (some 73) (.tuple #[.agg #[.float .f64 zl, .float .f64 zh], .int .i64 0])).put (some 86) y6).put (some 87) y7).put (some 12) z1) ∧ (∀ q, p[0]? = some (some q) → z1 = .pointer (some ⟨q, 0, none⟩)) ∧ OwnF w l [#[.float .f64 0, .float .f64 0]] p v := by
  obtain ⟨y1, y2, y3, y4, y5, y6, y7, z1, ha, E1, E2, E3, E4, E5, E6, E7, G1, h⟩ := h
  obtain rfl := E1 (by decide)
  obtain rfl := E2 (by decide)
  obtain rfl := E3 (by decide)
  obtain rfl := E4 (by decide)
  obtain rfl := E5 (by decide)
  exact ⟨y6, y7, z1, ha, G1, h⟩
theorem orJ5_6 (h : orJ5 w rh sl dl zl zh l a0 6 p a v) : ∃ y7 z1 : Value, a = ((((((((a0.put (some 76) (.agg #[.float .f64 rh, .float .f64 rh])).put (some 79) (.agg #[.float .f64 sl, .float .f64 sl])).put (some 84) (.agg #[.float .f64 dl, .float .f64 dl])).put (some 85) (.tuple #[.agg #[.float .f64 zl, .float .f64 zh], .int .i64 0])).put (some 73) (.tuple #[.agg #[.float .f64 zl, .float .f64 zh], .int .i64 0])).put (some 86) (.agg #[.float .f64 zl, .float .f64 zh])).put (some 87) y7).put (some 12) z1) ∧ (∀ q, p[0]? = some (some q) → z1 = .pointer (some ⟨q, 0, none⟩)) ∧ OwnF w l [#[.float .f64 0, .float .f64 0]] p v := by
  obtain ⟨y1, y2, y3, y4, y5, y6, y7, z1, ha, E1, E2, E3, E4, E5, E6, E7, G1, h⟩ := h
  obtain rfl := E1 (by decide)
  obtain rfl := E2 (by decide)
  obtain rfl := E3 (by decide)
  obtain rfl := E4 (by decide)
  obtain rfl := E5 (by decide)
  obtain rfl := E6 (by decide)
  exact ⟨y7, z1, ha, G1, h⟩
theorem orJ5_fin {q1 : Nat} (h : orJ5 w rh sl dl zl zh l a0 7 [some q1] a v) : a = ((((((((a0.put (some 76) (.agg #[.float .f64 rh, .float .f64 rh])).put (some 79) (.agg #[.float .f64 sl, .float .f64 sl])).put (some 84) (.agg #[.float .f64 dl, .float .f64 dl])).put (some 85) (.tuple #[.agg #[.float .f64 zl, .float .f64 zh], .int .i64 0])).put (some 73) (.tuple #[.agg #[.float .f64 zl, .float .f64 zh], .int .i64 0])).put (some 86) (.agg #[.float .f64 zl, .float .f64 zh])).put (some 87) (.int .i64 0)).put (some 12) (.pointer (some ⟨q1, 0, none⟩))) ∧ OwnF w l [#[.float .f64 0, .float .f64 0]] [some q1] v := by
  obtain ⟨y1, y2, y3, y4, y5, y6, y7, z1, ha, E1, E2, E3, E4, E5, E6, E7, G1, h⟩ := h
  obtain rfl := E1 (by decide)
  obtain rfl := E2 (by decide)
  obtain rfl := E3 (by decide)
  obtain rfl := E4 (by decide)
  obtain rfl := E5 (by decide)
  obtain rfl := E6 (by decide)
  obtain rfl := E7 (by decide)
  obtain rfl := G1 _ rfl
  exact ⟨ha, h⟩
end

set_option maxRecDepth 100000 in
set_option maxHeartbeats 16000000 in
theorem orises_law {u0 u1 u2 u3 u4 u5 u6 u7 i o dl dh sl sh rl rh xl xh yl yh zl zh al ah bl bh cl ch gl gh df : Nat} (w : World)
    (c1 : Hid (∀ w, Calls Try.prog 44 #[.float .f64 4571153621781053440, .float .f64 4607182418800017408, .int .u32 u0] w fun r w' => r = .returned (.float .f64 i) ∧ w = w'))
    (c2 : Hid (∀ w, Calls Try.prog 35 #[.float .f64 i] w fun r w' => r = .returned (.agg #[.float .f64 i, .float .f64 i]) ∧ Below w.heap.size w w'))
    (c3 : Hid (∀ w, Calls Try.prog 44 #[.float .f64 4571153621781053440, .float .f64 4607182418800017408, .int .u32 u1] w fun r w' => r = .returned (.float .f64 o) ∧ w = w'))
    (c4 : Hid (∀ w, Calls Try.prog 35 #[.float .f64 o] w fun r w' => r = .returned (.agg #[.float .f64 o, .float .f64 o]) ∧ Below w.heap.size w w'))
    (c5 : Hid (∀ w, Calls Try.prog 40 #[.float .f64 13830554455654793216, .float .f64 4607182418800017408, .int .u32 u2, .int .u32 u3] w fun r w' => r = .returned (.agg #[.float .f64 dl, .float .f64 dh]) ∧ Below w.heap.size w w'))
    (c6 : Hid (∀ w, Calls Try.prog 40 #[.float .f64 0, .float .f64 4607182418800017408, .int .u32 u4, .int .u32 u5] w fun r w' => r = .returned (.agg #[.float .f64 sl, .float .f64 sh]) ∧ Below w.heap.size w w'))
    (c7 : Hid (∀ w, Calls Try.prog 40 #[.float .f64 0, .float .f64 4607182418800017408, .int .u32 u6, .int .u32 u7] w fun r w' => r = .returned (.agg #[.float .f64 rl, .float .f64 rh]) ∧ Below w.heap.size w w'))
    (c8 : Hid (∀ w, Calls Try.prog 35 #[.float .f64 rl] w fun r w' => r = .returned (.agg #[.float .f64 rl, .float .f64 rl]) ∧ Below w.heap.size w w'))
    (c9 : Hid (∀ w, Calls Try.prog 35 #[.float .f64 sl] w fun r w' => r = .returned (.agg #[.float .f64 sl, .float .f64 sl]) ∧ Below w.heap.size w w'))
    (c10 : Hid (∀ w, Calls Try.prog 35 #[.float .f64 dl] w fun r w' => r = .returned (.agg #[.float .f64 dl, .float .f64 dl]) ∧ Below w.heap.size w w'))
    (c11 : Hid (∀ w, Calls Try.prog 45 #[.agg #[.float .f64 rl, .float .f64 rl], .agg #[.float .f64 sl, .float .f64 sl], .agg #[.float .f64 i, .float .f64 i], .agg #[.float .f64 o, .float .f64 o], .agg #[.float .f64 dl, .float .f64 dl]] w fun r w' => r = .returned (.tuple #[.agg #[.float .f64 xl, .float .f64 xh], .int .i64 0]) ∧ Below w.heap.size w w'))
    (c14 : Hid (∀ w, Calls Try.prog 35 #[.float .f64 dh] w fun r w' => r = .returned (.agg #[.float .f64 dh, .float .f64 dh]) ∧ Below w.heap.size w w'))
    (c15 : Hid (∀ w, Calls Try.prog 45 #[.agg #[.float .f64 rl, .float .f64 rl], .agg #[.float .f64 sl, .float .f64 sl], .agg #[.float .f64 i, .float .f64 i], .agg #[.float .f64 o, .float .f64 o], .agg #[.float .f64 dh, .float .f64 dh]] w fun r w' => r = .returned (.tuple #[.agg #[.float .f64 yl, .float .f64 yh], .int .i64 0]) ∧ Below w.heap.size w w'))
    (c16 : Hid (∀ w, Calls Try.prog 35 #[.float .f64 rh] w fun r w' => r = .returned (.agg #[.float .f64 rh, .float .f64 rh]) ∧ Below w.heap.size w w'))
    (c19 : Hid (∀ w, Calls Try.prog 45 #[.agg #[.float .f64 rh, .float .f64 rh], .agg #[.float .f64 sl, .float .f64 sl], .agg #[.float .f64 i, .float .f64 i], .agg #[.float .f64 o, .float .f64 o], .agg #[.float .f64 dl, .float .f64 dl]] w fun r w' => r = .returned (.tuple #[.agg #[.float .f64 zl, .float .f64 zh], .int .i64 0]) ∧ Below w.heap.size w w'))
    (c21 : Hid (∀ w, Calls Try.prog 43 #[.agg #[.float .f64 sl, .float .f64 sl]] w fun r w' => r = .returned (.tuple #[.agg #[.float .f64 al, .float .f64 ah], .agg #[.float .f64 bl, .float .f64 bh], .int .i64 0]) ∧ Below w.heap.size w w'))
    (c22 : Hid (∀ w, Calls Try.prog 35 #[.float .f64 sh] w fun r w' => r = .returned (.agg #[.float .f64 sh, .float .f64 sh]) ∧ Below w.heap.size w w'))
    (c23 : Hid (∀ w, Calls Try.prog 43 #[.agg #[.float .f64 sh, .float .f64 sh]] w fun r w' => r = .returned (.tuple #[.agg #[.float .f64 cl, .float .f64 ch], .agg #[.float .f64 gl, .float .f64 gh], .int .i64 0]) ∧ Below w.heap.size w w'))
    (o_leqxl_yh : (((FloatKind.f64.format.order xl yh == some Ordering.lt) || (FloatKind.f64.format.order xl yh == some Ordering.eq)) = true))
    (o_leqxl_zh : (((FloatKind.f64.format.order xl zh == some Ordering.lt) || (FloatKind.f64.format.order xl zh == some Ordering.eq)) = true))
    (o_leqcl_ah : (((FloatKind.f64.format.order cl ah == some Ordering.lt) || (FloatKind.f64.format.order cl ah == some Ordering.eq)) = true))
    (o_leqbl_gh : (((FloatKind.f64.format.order bl gh == some Ordering.lt) || (FloatKind.f64.format.order bl gh == some Ordering.eq)) = true))
    (q_df : (∀ w, (binOp .sub 22 (.float .f64 xh) (.float .f64 xl)).run Try.prog w = .ok (.float .f64 df) w))
    (o_leqdf_433705197568 : (((FloatKind.f64.format.order df 4427038433705197568 == some Ordering.lt) || (FloatKind.f64.format.order df 4427038433705197568 == some Ordering.eq)) = true))
    (c24 : Hid (∀ w, Calls Try.prog 38 #[] w fun r w' => r = .returned (.bool true) ∧ Below w.heap.size w w')) :
    Calls Try.prog 8 #[.agg #[.int .u32 u0, .int .u32 u1, .int .u32 u2, .int .u32 u3, .int .u32 u4, .int .u32 u5, .int .u32 u6, .int .u32 u7]] w fun r w' => r = .returned (.bool true) ∧ Below w.heap.size w w' := by
  have M := Lib.hid ((Own.nil w).made #[.int .u32 u0, .int .u32 u1, .int .u32 u2, .int .u32 u3, .int .u32 u4, .int .u32 u5, .int .u32 u6, .int .u32 u7] 69)
  have eqF := eq_floats
  go_enter Try.func8, Try.ntmps8
  go_upto_region 1 with fail
  replace M := Lib.hid M.out.drew
  revert M
  generalize (w.alloc (.cells #[.int .u32 u0, .int .u32 u1, .int .u32 u2, .int .u32 u3, .int .u32 u4, .int .u32 u5, .int .u32 u6, .int .u32 u7] 69)) = W0_
  intro M
  refine wp_region_noPanic ?_
  refine tails_region (S := fun w' => (w'.cell? ⟨w.heap.size, 0, none⟩ = some (.int .u32 u0) ∧ w'.cell? ⟨w.heap.size, 1, none⟩ = some (.int .u32 u1) ∧ w'.cell? ⟨w.heap.size, 2, none⟩ = some (.int .u32 u2) ∧ w'.cell? ⟨w.heap.size, 3, none⟩ = some (.int .u32 u3) ∧ w'.cell? ⟨w.heap.size, 4, none⟩ = some (.int .u32 u4) ∧ w'.cell? ⟨w.heap.size, 5, none⟩ = some (.int .u32 u5) ∧ w'.cell? ⟨w.heap.size, 6, none⟩ = some (.int .u32 u6) ∧ w'.cell? ⟨w.heap.size, 7, none⟩ = some (.int .u32 u7))) [] (by kernel_rfl) ?_ (fun hS => ?_)
  · exact (M.out.nth 0 rfl).eight
  refine tk (x := ?_) 0 rfl (by kernel_rfl) ⟨by rfl, ?_⟩ (fun _ _ _ h => h) hS ?_
  rotate_left; focus (intro w hSw; (try dsimp only at hSw); go_simp; try with_reducible rfl)
  refine tk (x := ?_) 1 rfl (by kernel_rfl) ⟨by rfl, ?_⟩ (fun _ _ _ h => h) hS ?_
  rotate_left; focus (intro w hSw; (try dsimp only at hSw); go_simp; try with_reducible rfl)
  refine tk (x := ?_) 4 rfl (by kernel_rfl) ⟨by rfl, ?_⟩ (fun _ _ _ h => h) hS ?_
  rotate_left; focus (intro w hSw; (try dsimp only at hSw); go_simp; try with_reducible rfl)
  refine tk (x := ?_) 5 rfl (by kernel_rfl) ⟨by rfl, ?_⟩ (fun _ _ _ h => h) hS ?_
  rotate_left; focus (intro w hSw; (try dsimp only at hSw); go_simp; try with_reducible rfl)
  conv => arg 9; simp only [Act.put, go_sem]
  refine lp_cccc_2 M 2 3 6 7 8 9 [22, 23, 26, 27, 3, 4] 2 (orJ1 w i o) (by kernel_rfl) (by kernel_rfl) ?_ ?_ ?_ ?_ ?_ ?_ ?_ ?_ ?_
  · intro A hA
    obtain ⟨y1, hq1⟩ := put_ex (hA 22 (by simp))
    obtain ⟨y2, hq2⟩ := put_ex (hA 23 (by simp))
    obtain ⟨y3, hq3⟩ := put_ex (hA 26 (by simp))
    obtain ⟨y4, hq4⟩ := put_ex (hA 27 (by simp))
    obtain ⟨z1, hq5⟩ := put_ex (hA 3 (by simp))
    obtain ⟨z2, hq6⟩ := put_ex (hA 4 (by simp))
    exact ⟨y1, y2, y3, y4, z1, z2, by rw [hq1, hq2, hq3, hq4, hq5, hq6], by omega, by omega, by omega, by omega, by simp, by simp, OwnF.start M.out 2⟩
  · rintro k p a v ⟨y1, y2, y3, y4, z1, z2, _, _, _, _, _, _, _, h⟩
    exact (h.own.nth 0 rfl).eight
  · intro p a v hJ
    refine op_step (o := _) rfl (fun K hK => ?_)
    obtain ⟨y1, y2, y3, y4, z1, z2, ha, gg1, gg2, h⟩ := orJ1_0 hJ
    have h := Lib.hid h
    clear hJ
    subst ha
    go_simp
    refine (c1.out _).mono ?_
    rintro rr w5 ⟨rfl, rfl⟩
    try go_wp2_with fail
    refine hK.out _ _ ⟨_, y2, y3, y4, z1, z2, ?_, fun _ => rfl, by omega, by omega, by omega, gg1, gg2, h.out⟩
    kernel_rfl
  · intro p a v hJ
    refine op_step (o := _) rfl (fun K hK => ?_)
    obtain ⟨y2, y3, y4, z1, z2, ha, gg1, gg2, h⟩ := orJ1_1 hJ
    have h := Lib.hid h
    clear hJ
    subst ha
    go_simp
    refine (c2.out _).mono ?_
    rintro rr w5 ⟨rfl, hp⟩
    try go_wp2_with fail
    refine hK.out _ _ ⟨_, _, y3, y4, z1, z2, ?_, fun _ => rfl, fun _ => rfl, by omega, by omega, gg1, gg2, h.out.below hp⟩
    kernel_rfl
  · intro p a v hJ
    refine op_step (o := _) rfl (fun K hK => ?_)
    obtain ⟨y3, y4, z1, z2, ha, gg1, gg2, h⟩ := orJ1_2 hJ
    have h := Lib.hid h
    clear hJ
    subst ha
    go_simp
    refine (c3.out _).mono ?_
    rintro rr w5 ⟨rfl, rfl⟩
    try go_wp2_with fail
    refine hK.out _ _ ⟨_, _, _, y4, z1, z2, ?_, fun _ => rfl, fun _ => rfl, fun _ => rfl, by omega, gg1, gg2, h.out⟩
    kernel_rfl
  · intro p a v hJ
    refine op_step (o := _) rfl (fun K hK => ?_)
    obtain ⟨y4, z1, z2, ha, gg1, gg2, h⟩ := orJ1_3 hJ
    have h := Lib.hid h
    clear hJ
    subst ha
    go_simp
    refine (c4.out _).mono ?_
    rintro rr w5 ⟨rfl, hp⟩
    try go_wp2_with fail
    refine hK.out _ _ ⟨_, _, _, _, z1, z2, ?_, fun _ => rfl, fun _ => rfl, fun _ => rfl, fun _ => rfl, gg1, gg2, h.out.below hp⟩
    kernel_rfl
  · intro k p a v hp hJ
    refine op_step (o := _) rfl (fun K hK => ?_)
    obtain ⟨y1, y2, y3, y4, z1, z2, ha, ee1, ee2, ee3, ee4, gg1, gg2, h⟩ := hJ
    have h := Lib.hid h
    subst ha
    go_simp
    refine hK.out _ _ ⟨v.heap.size, y1, y2, y3, y4, .pointer (some ⟨v.heap.size, 0, none⟩), z2, ?_, ee1, ee2, ee3, ee4, fun q hq => ptr_set hq, ptr_keep 1 (by decide) gg2, h.out.alloc hp rfl _⟩
    kernel_rfl
  · intro k p a v hp hJ
    refine op_step (o := _) rfl (fun K hK => ?_)
    obtain ⟨y1, y2, y3, y4, z1, z2, ha, ee1, ee2, ee3, ee4, gg1, gg2, h⟩ := hJ
    have h := Lib.hid h
    subst ha
    go_simp
    refine hK.out _ _ ⟨v.heap.size, y1, y2, y3, y4, z1, .pointer (some ⟨v.heap.size, 0, none⟩), ?_, ee1, ee2, ee3, ee4, ptr_keep 0 (by decide) gg1, fun q hq => ptr_set hq, h.out.alloc hp rfl _⟩
    kernel_rfl
  intro p1_1 p1_2 a v hJ
  obtain ⟨rfl, h⟩ := orJ1_fin hJ
  clear hJ
  replace M := Lib.hid h.fin2
  clear h
  refine tails_one (T := []) (i := 10) (o := _) rfl (by kernel_rfl) (fun K hK => ?_)
  have kc := (M.out.nth 0 rfl).2.1
  have kf := (M.out.nth 0 rfl).2.2
  replace M : Hid (Own w [(p1_1, #[.float .f64 i, .float .f64 i]), (p1_2, #[.float .f64 0, .float .f64 0]), (w.heap.size, #[.int .u32 u0, .int .u32 u1, .int .u32 u2, .int .u32 u3, .int .u32 u4, .int .u32 u5, .int .u32 u6, .int .u32 u7])] _) := Lib.hid (M.out.set2 0 rfl (.float .f64 i) (.float .f64 i))
  go_simp
  refine hK.out _ _ (Or.inr (M.out.nth 2 rfl).eight) (fun hHeld => ?_)
  clear hK K hHeld kc kf
  refine tails_one (T := []) (i := 11) (o := _) rfl (by kernel_rfl) (fun K hK => ?_)
  have kc := (M.out.nth 1 rfl).2.1
  have kf := (M.out.nth 1 rfl).2.2
  replace M : Hid (Own w [(p1_1, #[.float .f64 i, .float .f64 i]), (p1_2, #[.float .f64 o, .float .f64 o]), (w.heap.size, #[.int .u32 u0, .int .u32 u1, .int .u32 u2, .int .u32 u3, .int .u32 u4, .int .u32 u5, .int .u32 u6, .int .u32 u7])] _) := Lib.hid (M.out.set2 1 rfl (.float .f64 o) (.float .f64 o))
  go_simp
  refine hK.out _ _ (Or.inr (M.out.nth 2 rfl).eight) (fun hHeld => ?_)
  clear hK K hHeld kc kf
  refine tails_done (by kernel_rfl) ?_ _
  refine NoPanic.normal ?_
  clear hS
  revert M
  generalize ((((v.setCell ⟨p1_1, 0, none⟩ (.float .f64 i)).setCell ⟨p1_1, 1, none⟩ (.float .f64 i)).setCell ⟨p1_2, 0, none⟩ (.float .f64 o)).setCell ⟨p1_2, 1, none⟩ (.float .f64 o)) = W1_
  intro M
  go_upto_region 2 with fail
  replace M := Lib.hid M.out.drew
  refine wp_region_noPanic ?_
  refine tails_region (S := fun w' => (w'.cell? ⟨w.heap.size, 0, none⟩ = some (.int .u32 u0) ∧ w'.cell? ⟨w.heap.size, 1, none⟩ = some (.int .u32 u1) ∧ w'.cell? ⟨w.heap.size, 2, none⟩ = some (.int .u32 u2) ∧ w'.cell? ⟨w.heap.size, 3, none⟩ = some (.int .u32 u3) ∧ w'.cell? ⟨w.heap.size, 4, none⟩ = some (.int .u32 u4) ∧ w'.cell? ⟨w.heap.size, 5, none⟩ = some (.int .u32 u5) ∧ w'.cell? ⟨w.heap.size, 6, none⟩ = some (.int .u32 u6) ∧ w'.cell? ⟨w.heap.size, 7, none⟩ = some (.int .u32 u7))) [] (by kernel_rfl) ?_ (fun hS => ?_)
  · exact (M.out.nth 2 rfl).eight
  refine tk (x := ?_) 0 rfl (by kernel_rfl) ⟨by rfl, ?_⟩ (fun _ _ _ h => h) hS ?_
  rotate_left; focus (intro w hSw; (try dsimp only at hSw); go_simp; try with_reducible rfl)
  refine tk (x := ?_) 1 rfl (by kernel_rfl) ⟨by rfl, ?_⟩ (fun _ _ _ h => h) hS ?_
  rotate_left; focus (intro w hSw; (try dsimp only at hSw); go_simp; try with_reducible rfl)
  refine tk (x := ?_) 2 rfl (by kernel_rfl) ⟨by rfl, ?_⟩ (fun _ _ _ h => h) hS ?_
  rotate_left; focus (intro w hSw; (try dsimp only at hSw); go_simp; try with_reducible rfl)
  refine tk (x := ?_) 3 rfl (by kernel_rfl) ⟨by rfl, ?_⟩ (fun _ _ _ h => h) hS ?_
  rotate_left; focus (intro w hSw; (try dsimp only at hSw); go_simp; try with_reducible rfl)
  refine tk (x := ?_) 5 rfl (by kernel_rfl) ⟨by rfl, ?_⟩ (fun _ _ _ h => h) hS ?_
  rotate_left; focus (intro w hSw; (try dsimp only at hSw); go_simp; try with_reducible rfl)
  refine tk (x := ?_) 6 rfl (by kernel_rfl) ⟨by rfl, ?_⟩ (fun _ _ _ h => h) hS ?_
  rotate_left; focus (intro w hSw; (try dsimp only at hSw); go_simp; try with_reducible rfl)
  refine tk (x := ?_) 7 rfl (by kernel_rfl) ⟨by rfl, ?_⟩ (fun _ _ _ h => h) hS ?_
  rotate_left; focus (intro w hSw; (try dsimp only at hSw); go_simp; try with_reducible rfl)
  refine tk (x := ?_) 8 rfl (by kernel_rfl) ⟨by rfl, ?_⟩ (fun _ _ _ h => h) hS ?_
  rotate_left; focus (intro w hSw; (try dsimp only at hSw); go_simp; try with_reducible rfl)
  refine tk (x := ?_) 10 rfl (by kernel_rfl) ⟨by rfl, ?_⟩ (fun _ _ _ h => h) hS ?_
  rotate_left; focus (intro w hSw; (try dsimp only at hSw); go_simp; try with_reducible rfl)
  refine tk (x := ?_) 11 rfl (by kernel_rfl) ⟨by rfl, ?_⟩ (fun _ _ _ h => h) hS ?_
  rotate_left; focus (intro w hSw; (try dsimp only at hSw); go_simp; try with_reducible rfl)
  refine tk (x := ?_) 12 rfl (by kernel_rfl) ⟨by rfl, ?_⟩ (fun _ _ _ h => h) hS ?_
  rotate_left; focus (intro w hSw; (try dsimp only at hSw); go_simp; try with_reducible rfl)
  refine tk (x := ?_) 13 rfl (by kernel_rfl) ⟨by rfl, ?_⟩ (fun _ _ _ h => h) hS ?_
  rotate_left; focus (intro w hSw; (try dsimp only at hSw); go_simp; try with_reducible rfl)
  conv => arg 9; simp only [Act.put, go_sem]
  refine lp_ccc_3 M 4 9 14 15 16 17 [32, 37, 42, 5, 6, 7] 3 (orJ2 w dl dh sl sh rl rh) (by kernel_rfl) (by kernel_rfl) ?_ ?_ ?_ ?_ ?_ ?_ ?_ ?_ ?_
  · intro A hA
    obtain ⟨y1, hq1⟩ := put_ex (hA 32 (by simp))
    obtain ⟨y2, hq2⟩ := put_ex (hA 37 (by simp))
    obtain ⟨y3, hq3⟩ := put_ex (hA 42 (by simp))
    obtain ⟨z1, hq4⟩ := put_ex (hA 5 (by simp))
    obtain ⟨z2, hq5⟩ := put_ex (hA 6 (by simp))
    obtain ⟨z3, hq6⟩ := put_ex (hA 7 (by simp))
    exact ⟨y1, y2, y3, z1, z2, z3, by rw [hq1, hq2, hq3, hq4, hq5, hq6], by omega, by omega, by omega, by simp, by simp, by simp, OwnF.start M.out 3⟩
  · rintro k p a v ⟨y1, y2, y3, z1, z2, z3, _, _, _, _, _, _, _, h⟩
    exact (h.own.nth 2 rfl).eight
  · intro p a v hJ
    refine op_step (o := _) rfl (fun K hK => ?_)
    obtain ⟨y1, y2, y3, z1, z2, z3, ha, gg1, gg2, gg3, h⟩ := orJ2_0 hJ
    have h := Lib.hid h
    clear hJ
    subst ha
    go_simp
    refine (c5.out _).mono ?_
    rintro rr w5 ⟨rfl, hp⟩
    try go_wp2_with fail
    refine hK.out _ _ ⟨_, y2, y3, z1, z2, z3, ?_, fun _ => rfl, by omega, by omega, gg1, gg2, gg3, h.out.below hp⟩
    kernel_rfl
  · intro p a v hJ
    refine op_step (o := _) rfl (fun K hK => ?_)
    obtain ⟨y2, y3, z1, z2, z3, ha, gg1, gg2, gg3, h⟩ := orJ2_1 hJ
    have h := Lib.hid h
    clear hJ
    subst ha
    go_simp
    refine (c6.out _).mono ?_
    rintro rr w5 ⟨rfl, hp⟩
    try go_wp2_with fail
    refine hK.out _ _ ⟨_, _, y3, z1, z2, z3, ?_, fun _ => rfl, fun _ => rfl, by omega, gg1, gg2, gg3, h.out.below hp⟩
    kernel_rfl
  · intro p a v hJ
    refine op_step (o := _) rfl (fun K hK => ?_)
    obtain ⟨y3, z1, z2, z3, ha, gg1, gg2, gg3, h⟩ := orJ2_2 hJ
    have h := Lib.hid h
    clear hJ
    subst ha
    go_simp
    refine (c7.out _).mono ?_
    rintro rr w5 ⟨rfl, hp⟩
    try go_wp2_with fail
    refine hK.out _ _ ⟨_, _, _, z1, z2, z3, ?_, fun _ => rfl, fun _ => rfl, fun _ => rfl, gg1, gg2, gg3, h.out.below hp⟩
    kernel_rfl
  · intro k p a v hp hJ
    refine op_step (o := _) rfl (fun K hK => ?_)
    obtain ⟨y1, y2, y3, z1, z2, z3, ha, ee1, ee2, ee3, gg1, gg2, gg3, h⟩ := hJ
    have h := Lib.hid h
    subst ha
    go_simp
    refine hK.out _ _ ⟨v.heap.size, y1, y2, y3, .pointer (some ⟨v.heap.size, 0, none⟩), z2, z3, ?_, ee1, ee2, ee3, fun q hq => ptr_set hq, ptr_keep 1 (by decide) gg2, ptr_keep 2 (by decide) gg3, h.out.alloc hp rfl _⟩
    kernel_rfl
  · intro k p a v hp hJ
    refine op_step (o := _) rfl (fun K hK => ?_)
    obtain ⟨y1, y2, y3, z1, z2, z3, ha, ee1, ee2, ee3, gg1, gg2, gg3, h⟩ := hJ
    have h := Lib.hid h
    subst ha
    go_simp
    refine hK.out _ _ ⟨v.heap.size, y1, y2, y3, z1, .pointer (some ⟨v.heap.size, 0, none⟩), z3, ?_, ee1, ee2, ee3, ptr_keep 0 (by decide) gg1, fun q hq => ptr_set hq, ptr_keep 2 (by decide) gg3, h.out.alloc hp rfl _⟩
    kernel_rfl
  · intro k p a v hp hJ
    refine op_step (o := _) rfl (fun K hK => ?_)
    obtain ⟨y1, y2, y3, z1, z2, z3, ha, ee1, ee2, ee3, gg1, gg2, gg3, h⟩ := hJ
    have h := Lib.hid h
    subst ha
    go_simp
    refine hK.out _ _ ⟨v.heap.size, y1, y2, y3, z1, z2, .pointer (some ⟨v.heap.size, 0, none⟩), ?_, ee1, ee2, ee3, ptr_keep 0 (by decide) gg1, ptr_keep 1 (by decide) gg2, fun q hq => ptr_set hq, h.out.alloc hp rfl _⟩
    kernel_rfl
  intro p2_1 p2_2 p2_3 a v hJ
  obtain ⟨rfl, h⟩ := orJ2_fin hJ
  clear hJ
  replace M := Lib.hid h.fin3
  clear h
  refine tails_one (T := []) (i := 18) (o := _) rfl (by kernel_rfl) (fun K hK => ?_)
  have kc := (M.out.nth 0 rfl).2.1
  have kf := (M.out.nth 0 rfl).2.2
  replace M : Hid (Own w [(p2_1, #[.float .f64 dl, .float .f64 dh]), (p2_2, #[.float .f64 0, .float .f64 0]), (p2_3, #[.float .f64 0, .float .f64 0]), (p1_1, #[.float .f64 i, .float .f64 i]), (p1_2, #[.float .f64 o, .float .f64 o]), (w.heap.size, #[.int .u32 u0, .int .u32 u1, .int .u32 u2, .int .u32 u3, .int .u32 u4, .int .u32 u5, .int .u32 u6, .int .u32 u7])] _) := Lib.hid (M.out.set2 0 rfl (.float .f64 dl) (.float .f64 dh))
  go_simp
  refine hK.out _ _ (Or.inr (M.out.nth 5 rfl).eight) (fun hHeld => ?_)
  clear hK K hHeld kc kf
  refine tails_one (T := []) (i := 19) (o := _) rfl (by kernel_rfl) (fun K hK => ?_)
  have kc := (M.out.nth 1 rfl).2.1
  have kf := (M.out.nth 1 rfl).2.2
  replace M : Hid (Own w [(p2_1, #[.float .f64 dl, .float .f64 dh]), (p2_2, #[.float .f64 sl, .float .f64 sh]), (p2_3, #[.float .f64 0, .float .f64 0]), (p1_1, #[.float .f64 i, .float .f64 i]), (p1_2, #[.float .f64 o, .float .f64 o]), (w.heap.size, #[.int .u32 u0, .int .u32 u1, .int .u32 u2, .int .u32 u3, .int .u32 u4, .int .u32 u5, .int .u32 u6, .int .u32 u7])] _) := Lib.hid (M.out.set2 1 rfl (.float .f64 sl) (.float .f64 sh))
  go_simp
  refine hK.out _ _ (Or.inr (M.out.nth 5 rfl).eight) (fun hHeld => ?_)
  clear hK K hHeld kc kf
  refine tails_one (T := []) (i := 20) (o := _) rfl (by kernel_rfl) (fun K hK => ?_)
  have kc := (M.out.nth 2 rfl).2.1
  have kf := (M.out.nth 2 rfl).2.2
  replace M : Hid (Own w [(p2_1, #[.float .f64 dl, .float .f64 dh]), (p2_2, #[.float .f64 sl, .float .f64 sh]), (p2_3, #[.float .f64 rl, .float .f64 rh]), (p1_1, #[.float .f64 i, .float .f64 i]), (p1_2, #[.float .f64 o, .float .f64 o]), (w.heap.size, #[.int .u32 u0, .int .u32 u1, .int .u32 u2, .int .u32 u3, .int .u32 u4, .int .u32 u5, .int .u32 u6, .int .u32 u7])] _) := Lib.hid (M.out.set2 2 rfl (.float .f64 rl) (.float .f64 rh))
  go_simp
  refine hK.out _ _ (Or.inr (M.out.nth 5 rfl).eight) (fun hHeld => ?_)
  clear hK K hHeld kc kf
  refine tails_done (by kernel_rfl) ?_ _
  refine NoPanic.normal ?_
  clear hS
  revert M
  generalize ((((((v.setCell ⟨p2_1, 0, none⟩ (.float .f64 dl)).setCell ⟨p2_1, 1, none⟩ (.float .f64 dh)).setCell ⟨p2_2, 0, none⟩ (.float .f64 sl)).setCell ⟨p2_2, 1, none⟩ (.float .f64 sh)).setCell ⟨p2_3, 0, none⟩ (.float .f64 rl)).setCell ⟨p2_3, 1, none⟩ (.float .f64 rh)) = W2_
  intro M
  go_upto_region 3 with fail
  replace M := Lib.hid M.out.drew
  refine wp_region_noPanic ?_
  refine tails_region (S := fun w' => (w'.cell? ⟨p2_3, 0, none⟩ = some (.float .f64 rl) ∧ w'.cell? ⟨p2_3, 1, none⟩ = some (.float .f64 rh)) ∧ (w'.cell? ⟨p2_2, 0, none⟩ = some (.float .f64 sl) ∧ w'.cell? ⟨p2_2, 1, none⟩ = some (.float .f64 sh)) ∧ (w'.cell? ⟨p1_1, 0, none⟩ = some (.float .f64 i) ∧ w'.cell? ⟨p1_1, 1, none⟩ = some (.float .f64 i)) ∧ (w'.cell? ⟨p1_2, 0, none⟩ = some (.float .f64 o) ∧ w'.cell? ⟨p1_2, 1, none⟩ = some (.float .f64 o)) ∧ (w'.cell? ⟨p2_1, 0, none⟩ = some (.float .f64 dl) ∧ w'.cell? ⟨p2_1, 1, none⟩ = some (.float .f64 dh))) [] (by kernel_rfl) ?_ (fun hS => ?_)
  · exact ⟨(M.out.nth 2 rfl).two, (M.out.nth 1 rfl).two, (M.out.nth 3 rfl).two, (M.out.nth 4 rfl).two, (M.out.nth 0 rfl).two⟩
  refine tk (x := ?_) 0 rfl (by kernel_rfl) ⟨by rfl, ?_⟩ (fun _ _ _ h => h) hS ?_
  rotate_left; focus (intro w hSw; (try dsimp only at hSw); go_simp; try with_reducible rfl)
  refine tk (x := ?_) 1 rfl (by kernel_rfl) ⟨by rfl, ?_⟩ (fun _ _ _ h => h) hS ?_
  rotate_left; focus (intro w hSw; (try dsimp only at hSw); go_simp; try with_reducible rfl)
  refine tk (x := ?_) 3 rfl (by kernel_rfl) ⟨by rfl, ?_⟩ (fun _ _ _ h => h) hS ?_
  rotate_left; focus (intro w hSw; (try dsimp only at hSw); go_simp; try with_reducible rfl)
  refine tk (x := ?_) 4 rfl (by kernel_rfl) ⟨by rfl, ?_⟩ (fun _ _ _ h => h) hS ?_
  rotate_left; focus (intro w hSw; (try dsimp only at hSw); go_simp; try with_reducible rfl)
  refine tk (x := ?_) 6 rfl (by kernel_rfl) ⟨by rfl, ?_⟩ (fun _ _ _ h => h) hS ?_
  rotate_left; focus (intro w hSw; (try dsimp only at hSw); go_simp; try with_reducible rfl)
  refine tk (x := ?_) 7 rfl (by kernel_rfl) ⟨by rfl, ?_⟩ (fun _ _ _ h => h) hS ?_
  rotate_left; focus (intro w hSw; (try dsimp only at hSw); go_simp; try with_reducible rfl)
  refine tk (x := ?_) 8 rfl (by kernel_rfl) ⟨by rfl, ?_⟩ (fun _ _ _ h => h) hS ?_
  rotate_left; focus (intro w hSw; (try dsimp only at hSw); go_simp; try with_reducible rfl)
  refine tk (x := ?_) 9 rfl (by kernel_rfl) ⟨by rfl, ?_⟩ (fun _ _ _ h => h) hS ?_
  rotate_left; focus (intro w hSw; (try dsimp only at hSw); go_simp; try with_reducible rfl)
  conv => arg 9; simp only [Act.put, go_sem]
  refine lp_ccccppp_1 M 2 5 10 11 12 13 14 15 [46, 49, 54, 55, 43, 56, 57, 8] 2 (orJ3 w rl sl dl xl xh) (by kernel_rfl) (by kernel_rfl) ?_ ?_ ?_ ?_ ?_ ?_ ?_ ?_ ?_ ?_ ?_
  · intro A hA
    obtain ⟨y1, hq1⟩ := put_ex (hA 46 (by simp))
    obtain ⟨y2, hq2⟩ := put_ex (hA 49 (by simp))
    obtain ⟨y3, hq3⟩ := put_ex (hA 54 (by simp))
    obtain ⟨y4, hq4⟩ := put_ex (hA 55 (by simp))
    obtain ⟨y5, hq5⟩ := put_ex (hA 43 (by simp))
    obtain ⟨y6, hq6⟩ := put_ex (hA 56 (by simp))
    obtain ⟨y7, hq7⟩ := put_ex (hA 57 (by simp))
    obtain ⟨z1, hq8⟩ := put_ex (hA 8 (by simp))
    exact ⟨y1, y2, y3, y4, y5, y6, y7, z1, by rw [hq1, hq2, hq3, hq4, hq5, hq6, hq7, hq8], by omega, by omega, by omega, by omega, by omega, by omega, by omega, by simp, OwnF.start M.out 1⟩
  · rintro k p a v ⟨y1, y2, y3, y4, y5, y6, y7, z1, _, _, _, _, _, _, _, _, _, h⟩
    exact ⟨(h.own.nth 2 rfl).two, (h.own.nth 1 rfl).two, (h.own.nth 3 rfl).two, (h.own.nth 4 rfl).two, (h.own.nth 0 rfl).two⟩
  · intro p a v hJ
    refine op_step (o := _) rfl (fun K hK => ?_)
    obtain ⟨y1, y2, y3, y4, y5, y6, y7, z1, ha, gg1, h⟩ := orJ3_0 hJ
    have h := Lib.hid h
    clear hJ
    subst ha
    go_simp
    refine (c8.out _).mono ?_
    rintro rr w5 ⟨rfl, hp⟩
    try go_wp2_with fail
    refine hK.out _ _ ⟨_, y2, y3, y4, y5, y6, y7, z1, ?_, fun _ => rfl, by omega, by omega, by omega, by omega, by omega, by omega, gg1, h.out.below hp⟩
    kernel_rfl
  · intro p a v hJ
    refine op_step (o := _) rfl (fun K hK => ?_)
    obtain ⟨y2, y3, y4, y5, y6, y7, z1, ha, gg1, h⟩ := orJ3_1 hJ
    have h := Lib.hid h
    clear hJ
    subst ha
    go_simp
    refine (c9.out _).mono ?_
    rintro rr w5 ⟨rfl, hp⟩
    try go_wp2_with fail
    refine hK.out _ _ ⟨_, _, y3, y4, y5, y6, y7, z1, ?_, fun _ => rfl, fun _ => rfl, by omega, by omega, by omega, by omega, by omega, gg1, h.out.below hp⟩
    kernel_rfl
  · intro p a v hJ
    refine op_step (o := _) rfl (fun K hK => ?_)
    obtain ⟨y3, y4, y5, y6, y7, z1, ha, gg1, h⟩ := orJ3_2 hJ
    have h := Lib.hid h
    clear hJ
    subst ha
    go_simp
    refine (c10.out _).mono ?_
    rintro rr w5 ⟨rfl, hp⟩
    try go_wp2_with fail
    refine hK.out _ _ ⟨_, _, _, y4, y5, y6, y7, z1, ?_, fun _ => rfl, fun _ => rfl, fun _ => rfl, by omega, by omega, by omega, by omega, gg1, h.out.below hp⟩
    kernel_rfl
  · intro p a v hJ
    refine op_step (o := _) rfl (fun K hK => ?_)
    obtain ⟨y4, y5, y6, y7, z1, ha, gg1, h⟩ := orJ3_3 hJ
    have h := Lib.hid h
    clear hJ
    subst ha
    go_simp
    refine (c11.out _).mono ?_
    rintro rr w5 ⟨rfl, hp⟩
    try go_wp2_with fail
    refine hK.out _ _ ⟨_, _, _, _, y5, y6, y7, z1, ?_, fun _ => rfl, fun _ => rfl, fun _ => rfl, fun _ => rfl, by omega, by omega, by omega, gg1, h.out.below hp⟩
    kernel_rfl
  · intro p a v hJ
    obtain ⟨y5, y6, y7, z1, ha, gg1, h⟩ := orJ3_4 hJ
    clear hJ
    subst ha
    refine ⟨_, .tuple #[.agg #[.float .f64 xl, .float .f64 xh], .int .i64 0], rfl, Or.inl ⟨by rfl, ?_⟩, (fun _ _ _ h => h), _, _, _, _, _, y6, y7, z1, ?_, fun _ => rfl, fun _ => rfl, fun _ => rfl, fun _ => rfl, fun _ => rfl, by omega, by omega, gg1, h⟩
    · intro w hSw; clear hSw h; go_simp; try with_reducible rfl
    · kernel_rfl
  · intro p a v hJ
    obtain ⟨y6, y7, z1, ha, gg1, h⟩ := orJ3_5 hJ
    clear hJ
    subst ha
    refine ⟨_, .agg #[.float .f64 xl, .float .f64 xh], rfl, Or.inl ⟨by rfl, ?_⟩, (fun _ _ _ h => h), _, _, _, _, _, _, y7, z1, ?_, fun _ => rfl, fun _ => rfl, fun _ => rfl, fun _ => rfl, fun _ => rfl, fun _ => rfl, by omega, gg1, h⟩
    · intro w hSw; clear hSw h; go_simp; try with_reducible rfl
    · kernel_rfl
  · intro p a v hJ
    obtain ⟨y7, z1, ha, gg1, h⟩ := orJ3_6 hJ
    clear hJ
    subst ha
    refine ⟨_, .int .i64 0, rfl, Or.inl ⟨by rfl, ?_⟩, (fun _ _ _ h => h), _, _, _, _, _, _, _, z1, ?_, fun _ => rfl, fun _ => rfl, fun _ => rfl, fun _ => rfl, fun _ => rfl, fun _ => rfl, fun _ => rfl, gg1, h⟩
    · intro w hSw; clear hSw h; go_simp; try with_reducible rfl
    · kernel_rfl
  · intro k p a v hp hJ
    refine op_step (o := _) rfl (fun K hK => ?_)
    obtain ⟨y1, y2, y3, y4, y5, y6, y7, z1, ha, ee1, ee2, ee3, ee4, ee5, ee6, ee7, gg1, h⟩ := hJ
    have h := Lib.hid h
    subst ha
    go_simp
    refine hK.out _ _ ⟨v.heap.size, y1, y2, y3, y4, y5, y6, y7, .pointer (some ⟨v.heap.size, 0, none⟩), ?_, ee1, ee2, ee3, ee4, ee5, ee6, ee7, fun q hq => ptr_set hq, h.out.alloc hp rfl _⟩
    kernel_rfl
  intro p3_1 a v hJ
  obtain ⟨rfl, h⟩ := orJ3_fin hJ
  clear hJ
  replace M := Lib.hid h.fin1
  clear h
  refine tails_one (T := []) (i := 16) (o := _) rfl (by kernel_rfl) (fun K hK => ?_)
  have kc := (M.out.nth 0 rfl).2.1
  have kf := (M.out.nth 0 rfl).2.2
  replace M : Hid (Own w [(p3_1, #[.float .f64 xl, .float .f64 xh]), (p2_1, #[.float .f64 dl, .float .f64 dh]), (p2_2, #[.float .f64 sl, .float .f64 sh]), (p2_3, #[.float .f64 rl, .float .f64 rh]), (p1_1, #[.float .f64 i, .float .f64 i]), (p1_2, #[.float .f64 o, .float .f64 o]), (w.heap.size, #[.int .u32 u0, .int .u32 u1, .int .u32 u2, .int .u32 u3, .int .u32 u4, .int .u32 u5, .int .u32 u6, .int .u32 u7])] _) := Lib.hid (M.out.set2 0 rfl (.float .f64 xl) (.float .f64 xh))
  go_simp
  refine hK.out _ _ (Or.inr ⟨(M.out.nth 3 rfl).two, (M.out.nth 2 rfl).two, (M.out.nth 4 rfl).two, (M.out.nth 5 rfl).two, (M.out.nth 1 rfl).two⟩) (fun hHeld => ?_)
  clear hK K hHeld kc kf
  refine tails_one (T := []) (i := 17) (o := _) rfl (by kernel_rfl) (fun K hK => ?_)
  go_simp
  refine hK.out _ _ (Or.inr ⟨(M.out.nth 3 rfl).two, (M.out.nth 2 rfl).two, (M.out.nth 4 rfl).two, (M.out.nth 5 rfl).two, (M.out.nth 1 rfl).two⟩) (fun hHeld => ?_)
  clear hK K hHeld
  refine tails_done (by kernel_rfl) ?_ _
  refine NoPanic.normal ?_
  clear hS
  revert M
  generalize ((v.setCell ⟨p3_1, 0, none⟩ (.float .f64 xl)).setCell ⟨p3_1, 1, none⟩ (.float .f64 xh)) = W3_
  intro M
  go_upto_region 4 with fail
  replace M := Lib.hid M.out.drew
  refine wp_region_noPanic ?_
  refine tails_region (S := fun w' => (w'.cell? ⟨p2_3, 0, none⟩ = some (.float .f64 rl) ∧ w'.cell? ⟨p2_3, 1, none⟩ = some (.float .f64 rh)) ∧ (w'.cell? ⟨p2_2, 0, none⟩ = some (.float .f64 sl) ∧ w'.cell? ⟨p2_2, 1, none⟩ = some (.float .f64 sh)) ∧ (w'.cell? ⟨p1_1, 0, none⟩ = some (.float .f64 i) ∧ w'.cell? ⟨p1_1, 1, none⟩ = some (.float .f64 i)) ∧ (w'.cell? ⟨p1_2, 0, none⟩ = some (.float .f64 o) ∧ w'.cell? ⟨p1_2, 1, none⟩ = some (.float .f64 o)) ∧ (w'.cell? ⟨p2_1, 0, none⟩ = some (.float .f64 dl) ∧ w'.cell? ⟨p2_1, 1, none⟩ = some (.float .f64 dh))) [] (by kernel_rfl) ?_ (fun hS => ?_)
  · exact ⟨(M.out.nth 3 rfl).two, (M.out.nth 2 rfl).two, (M.out.nth 4 rfl).two, (M.out.nth 5 rfl).two, (M.out.nth 1 rfl).two⟩
  refine tk (x := ?_) 0 rfl (by kernel_rfl) ⟨by rfl, ?_⟩ (fun _ _ _ h => h) hS ?_
  rotate_left; focus (intro w hSw; (try dsimp only at hSw); go_simp; try with_reducible rfl)
  refine tk (x := ?_) 1 rfl (by kernel_rfl) ⟨by rfl, ?_⟩ (fun _ _ _ h => h) hS ?_
  rotate_left; focus (intro w hSw; (try dsimp only at hSw); go_simp; try with_reducible rfl)
  refine tk (x := ?_) 3 rfl (by kernel_rfl) ⟨by rfl, ?_⟩ (fun _ _ _ h => h) hS ?_
  rotate_left; focus (intro w hSw; (try dsimp only at hSw); go_simp; try with_reducible rfl)
  refine tk (x := ?_) 4 rfl (by kernel_rfl) ⟨by rfl, ?_⟩ (fun _ _ _ h => h) hS ?_
  rotate_left; focus (intro w hSw; (try dsimp only at hSw); go_simp; try with_reducible rfl)
  refine tk (x := ?_) 6 rfl (by kernel_rfl) ⟨by rfl, ?_⟩ (fun _ _ _ h => h) hS ?_
  rotate_left; focus (intro w hSw; (try dsimp only at hSw); go_simp; try with_reducible rfl)
  refine tk (x := ?_) 7 rfl (by kernel_rfl) ⟨by rfl, ?_⟩ (fun _ _ _ h => h) hS ?_
  rotate_left; focus (intro w hSw; (try dsimp only at hSw); go_simp; try with_reducible rfl)
  refine tk (x := ?_) 8 rfl (by kernel_rfl) ⟨by rfl, ?_⟩ (fun _ _ _ h => h) hS ?_
  rotate_left; focus (intro w hSw; (try dsimp only at hSw); go_simp; try with_reducible rfl)
  refine tk (x := ?_) 9 rfl (by kernel_rfl) ⟨by rfl, ?_⟩ (fun _ _ _ h => h) hS ?_
  rotate_left; focus (intro w hSw; (try dsimp only at hSw); go_simp; try with_reducible rfl)
  conv => arg 9; simp only [Act.put, go_sem]
  refine lp_ccccppp_1 M 2 5 10 11 12 13 14 15 [61, 64, 69, 70, 58, 71, 72, 10] 2 (orJ4 w rl sl dh yl yh) (by kernel_rfl) (by kernel_rfl) ?_ ?_ ?_ ?_ ?_ ?_ ?_ ?_ ?_ ?_ ?_
  · intro A hA
    obtain ⟨y1, hq1⟩ := put_ex (hA 61 (by simp))
    obtain ⟨y2, hq2⟩ := put_ex (hA 64 (by simp))
    obtain ⟨y3, hq3⟩ := put_ex (hA 69 (by simp))
    obtain ⟨y4, hq4⟩ := put_ex (hA 70 (by simp))
    obtain ⟨y5, hq5⟩ := put_ex (hA 58 (by simp))
    obtain ⟨y6, hq6⟩ := put_ex (hA 71 (by simp))
    obtain ⟨y7, hq7⟩ := put_ex (hA 72 (by simp))
    obtain ⟨z1, hq8⟩ := put_ex (hA 10 (by simp))
    exact ⟨y1, y2, y3, y4, y5, y6, y7, z1, by rw [hq1, hq2, hq3, hq4, hq5, hq6, hq7, hq8], by omega, by omega, by omega, by omega, by omega, by omega, by omega, by simp, OwnF.start M.out 1⟩
  · rintro k p a v ⟨y1, y2, y3, y4, y5, y6, y7, z1, _, _, _, _, _, _, _, _, _, h⟩
    exact ⟨(h.own.nth 3 rfl).two, (h.own.nth 2 rfl).two, (h.own.nth 4 rfl).two, (h.own.nth 5 rfl).two, (h.own.nth 1 rfl).two⟩
  · intro p a v hJ
    refine op_step (o := _) rfl (fun K hK => ?_)
    obtain ⟨y1, y2, y3, y4, y5, y6, y7, z1, ha, gg1, h⟩ := orJ4_0 hJ
    have h := Lib.hid h
    clear hJ
    subst ha
    go_simp
    refine (c8.out _).mono ?_
    rintro rr w5 ⟨rfl, hp⟩
    try go_wp2_with fail
    refine hK.out _ _ ⟨_, y2, y3, y4, y5, y6, y7, z1, ?_, fun _ => rfl, by omega, by omega, by omega, by omega, by omega, by omega, gg1, h.out.below hp⟩
    kernel_rfl
  · intro p a v hJ
    refine op_step (o := _) rfl (fun K hK => ?_)
    obtain ⟨y2, y3, y4, y5, y6, y7, z1, ha, gg1, h⟩ := orJ4_1 hJ
    have h := Lib.hid h
    clear hJ
    subst ha
    go_simp
    refine (c9.out _).mono ?_
    rintro rr w5 ⟨rfl, hp⟩
    try go_wp2_with fail
    refine hK.out _ _ ⟨_, _, y3, y4, y5, y6, y7, z1, ?_, fun _ => rfl, fun _ => rfl, by omega, by omega, by omega, by omega, by omega, gg1, h.out.below hp⟩
    kernel_rfl
  · intro p a v hJ
    refine op_step (o := _) rfl (fun K hK => ?_)
    obtain ⟨y3, y4, y5, y6, y7, z1, ha, gg1, h⟩ := orJ4_2 hJ
    have h := Lib.hid h
    clear hJ
    subst ha
    go_simp
    refine (c14.out _).mono ?_
    rintro rr w5 ⟨rfl, hp⟩
    try go_wp2_with fail
    refine hK.out _ _ ⟨_, _, _, y4, y5, y6, y7, z1, ?_, fun _ => rfl, fun _ => rfl, fun _ => rfl, by omega, by omega, by omega, by omega, gg1, h.out.below hp⟩
    kernel_rfl
  · intro p a v hJ
    refine op_step (o := _) rfl (fun K hK => ?_)
    obtain ⟨y4, y5, y6, y7, z1, ha, gg1, h⟩ := orJ4_3 hJ
    have h := Lib.hid h
    clear hJ
    subst ha
    go_simp
    refine (c15.out _).mono ?_
    rintro rr w5 ⟨rfl, hp⟩
    try go_wp2_with fail
    refine hK.out _ _ ⟨_, _, _, _, y5, y6, y7, z1, ?_, fun _ => rfl, fun _ => rfl, fun _ => rfl, fun _ => rfl, by omega, by omega, by omega, gg1, h.out.below hp⟩
    kernel_rfl
  · intro p a v hJ
    obtain ⟨y5, y6, y7, z1, ha, gg1, h⟩ := orJ4_4 hJ
    clear hJ
    subst ha
    refine ⟨_, .tuple #[.agg #[.float .f64 yl, .float .f64 yh], .int .i64 0], rfl, Or.inl ⟨by rfl, ?_⟩, (fun _ _ _ h => h), _, _, _, _, _, y6, y7, z1, ?_, fun _ => rfl, fun _ => rfl, fun _ => rfl, fun _ => rfl, fun _ => rfl, by omega, by omega, gg1, h⟩
    · intro w hSw; clear hSw h; go_simp; try with_reducible rfl
    · kernel_rfl
  · intro p a v hJ
    obtain ⟨y6, y7, z1, ha, gg1, h⟩ := orJ4_5 hJ
    clear hJ
    subst ha
    refine ⟨_, .agg #[.float .f64 yl, .float .f64 yh], rfl, Or.inl ⟨by rfl, ?_⟩, (fun _ _ _ h => h), _, _, _, _, _, _, y7, z1, ?_, fun _ => rfl, fun _ => rfl, fun _ => rfl, fun _ => rfl, fun _ => rfl, fun _ => rfl, by omega, gg1, h⟩
    · intro w hSw; clear hSw h; go_simp; try with_reducible rfl
    · kernel_rfl
  · intro p a v hJ
    obtain ⟨y7, z1, ha, gg1, h⟩ := orJ4_6 hJ
    clear hJ
    subst ha
    refine ⟨_, .int .i64 0, rfl, Or.inl ⟨by rfl, ?_⟩, (fun _ _ _ h => h), _, _, _, _, _, _, _, z1, ?_, fun _ => rfl, fun _ => rfl, fun _ => rfl, fun _ => rfl, fun _ => rfl, fun _ => rfl, fun _ => rfl, gg1, h⟩
    · intro w hSw; clear hSw h; go_simp; try with_reducible rfl
    · kernel_rfl
  · intro k p a v hp hJ
    refine op_step (o := _) rfl (fun K hK => ?_)
    obtain ⟨y1, y2, y3, y4, y5, y6, y7, z1, ha, ee1, ee2, ee3, ee4, ee5, ee6, ee7, gg1, h⟩ := hJ
    have h := Lib.hid h
    subst ha
    go_simp
    refine hK.out _ _ ⟨v.heap.size, y1, y2, y3, y4, y5, y6, y7, .pointer (some ⟨v.heap.size, 0, none⟩), ?_, ee1, ee2, ee3, ee4, ee5, ee6, ee7, fun q hq => ptr_set hq, h.out.alloc hp rfl _⟩
    kernel_rfl
  intro p4_1 a v hJ
  obtain ⟨rfl, h⟩ := orJ4_fin hJ
  clear hJ
  replace M := Lib.hid h.fin1
  clear h
  refine tails_one (T := []) (i := 16) (o := _) rfl (by kernel_rfl) (fun K hK => ?_)
  have kc := (M.out.nth 0 rfl).2.1
  have kf := (M.out.nth 0 rfl).2.2
  replace M : Hid (Own w [(p4_1, #[.float .f64 yl, .float .f64 yh]), (p3_1, #[.float .f64 xl, .float .f64 xh]), (p2_1, #[.float .f64 dl, .float .f64 dh]), (p2_2, #[.float .f64 sl, .float .f64 sh]), (p2_3, #[.float .f64 rl, .float .f64 rh]), (p1_1, #[.float .f64 i, .float .f64 i]), (p1_2, #[.float .f64 o, .float .f64 o]), (w.heap.size, #[.int .u32 u0, .int .u32 u1, .int .u32 u2, .int .u32 u3, .int .u32 u4, .int .u32 u5, .int .u32 u6, .int .u32 u7])] _) := Lib.hid (M.out.set2 0 rfl (.float .f64 yl) (.float .f64 yh))
  go_simp
  refine hK.out _ _ (Or.inr ⟨(M.out.nth 4 rfl).two, (M.out.nth 3 rfl).two, (M.out.nth 5 rfl).two, (M.out.nth 6 rfl).two, (M.out.nth 2 rfl).two⟩) (fun hHeld => ?_)
  clear hK K hHeld kc kf
  refine tails_one (T := []) (i := 17) (o := _) rfl (by kernel_rfl) (fun K hK => ?_)
  go_simp
  refine hK.out _ _ (Or.inr ⟨(M.out.nth 4 rfl).two, (M.out.nth 3 rfl).two, (M.out.nth 5 rfl).two, (M.out.nth 6 rfl).two, (M.out.nth 2 rfl).two⟩) (fun hHeld => ?_)
  clear hK K hHeld
  refine tails_done (by kernel_rfl) ?_ _
  refine NoPanic.normal ?_
  clear hS
  revert M
  generalize ((v.setCell ⟨p4_1, 0, none⟩ (.float .f64 yl)).setCell ⟨p4_1, 1, none⟩ (.float .f64 yh)) = W4_
  intro M
  go_upto_region 5 with fail
  replace M := Lib.hid M.out.drew
  refine wp_region_noPanic ?_
  refine tails_region (S := fun w' => (w'.cell? ⟨p2_3, 0, none⟩ = some (.float .f64 rl) ∧ w'.cell? ⟨p2_3, 1, none⟩ = some (.float .f64 rh)) ∧ (w'.cell? ⟨p2_2, 0, none⟩ = some (.float .f64 sl) ∧ w'.cell? ⟨p2_2, 1, none⟩ = some (.float .f64 sh)) ∧ (w'.cell? ⟨p1_1, 0, none⟩ = some (.float .f64 i) ∧ w'.cell? ⟨p1_1, 1, none⟩ = some (.float .f64 i)) ∧ (w'.cell? ⟨p1_2, 0, none⟩ = some (.float .f64 o) ∧ w'.cell? ⟨p1_2, 1, none⟩ = some (.float .f64 o)) ∧ (w'.cell? ⟨p2_1, 0, none⟩ = some (.float .f64 dl) ∧ w'.cell? ⟨p2_1, 1, none⟩ = some (.float .f64 dh))) [] (by kernel_rfl) ?_ (fun hS => ?_)
  · exact ⟨(M.out.nth 4 rfl).two, (M.out.nth 3 rfl).two, (M.out.nth 5 rfl).two, (M.out.nth 6 rfl).two, (M.out.nth 2 rfl).two⟩
  refine tk (x := ?_) 0 rfl (by kernel_rfl) ⟨by rfl, ?_⟩ (fun _ _ _ h => h) hS ?_
  rotate_left; focus (intro w hSw; (try dsimp only at hSw); go_simp; try with_reducible rfl)
  refine tk (x := ?_) 1 rfl (by kernel_rfl) ⟨by rfl, ?_⟩ (fun _ _ _ h => h) hS ?_
  rotate_left; focus (intro w hSw; (try dsimp only at hSw); go_simp; try with_reducible rfl)
  refine tk (x := ?_) 3 rfl (by kernel_rfl) ⟨by rfl, ?_⟩ (fun _ _ _ h => h) hS ?_
  rotate_left; focus (intro w hSw; (try dsimp only at hSw); go_simp; try with_reducible rfl)
  refine tk (x := ?_) 4 rfl (by kernel_rfl) ⟨by rfl, ?_⟩ (fun _ _ _ h => h) hS ?_
  rotate_left; focus (intro w hSw; (try dsimp only at hSw); go_simp; try with_reducible rfl)
  refine tk (x := ?_) 6 rfl (by kernel_rfl) ⟨by rfl, ?_⟩ (fun _ _ _ h => h) hS ?_
  rotate_left; focus (intro w hSw; (try dsimp only at hSw); go_simp; try with_reducible rfl)
  refine tk (x := ?_) 7 rfl (by kernel_rfl) ⟨by rfl, ?_⟩ (fun _ _ _ h => h) hS ?_
  rotate_left; focus (intro w hSw; (try dsimp only at hSw); go_simp; try with_reducible rfl)
  refine tk (x := ?_) 8 rfl (by kernel_rfl) ⟨by rfl, ?_⟩ (fun _ _ _ h => h) hS ?_
  rotate_left; focus (intro w hSw; (try dsimp only at hSw); go_simp; try with_reducible rfl)
  refine tk (x := ?_) 9 rfl (by kernel_rfl) ⟨by rfl, ?_⟩ (fun _ _ _ h => h) hS ?_
  rotate_left; focus (intro w hSw; (try dsimp only at hSw); go_simp; try with_reducible rfl)
  conv => arg 9; simp only [Act.put, go_sem]
  refine lp_ccccppp_1 M 2 5 10 11 12 13 14 15 [76, 79, 84, 85, 73, 86, 87, 12] 2 (orJ5 w rh sl dl zl zh) (by kernel_rfl) (by kernel_rfl) ?_ ?_ ?_ ?_ ?_ ?_ ?_ ?_ ?_ ?_ ?_
  · intro A hA
    obtain ⟨y1, hq1⟩ := put_ex (hA 76 (by simp))
    obtain ⟨y2, hq2⟩ := put_ex (hA 79 (by simp))
    obtain ⟨y3, hq3⟩ := put_ex (hA 84 (by simp))
    obtain ⟨y4, hq4⟩ := put_ex (hA 85 (by simp))
    obtain ⟨y5, hq5⟩ := put_ex (hA 73 (by simp))
    obtain ⟨y6, hq6⟩ := put_ex (hA 86 (by simp))
    obtain ⟨y7, hq7⟩ := put_ex (hA 87 (by simp))
    obtain ⟨z1, hq8⟩ := put_ex (hA 12 (by simp))
    exact ⟨y1, y2, y3, y4, y5, y6, y7, z1, by rw [hq1, hq2, hq3, hq4, hq5, hq6, hq7, hq8], by omega, by omega, by omega, by omega, by omega, by omega, by omega, by simp, OwnF.start M.out 1⟩
  · rintro k p a v ⟨y1, y2, y3, y4, y5, y6, y7, z1, _, _, _, _, _, _, _, _, _, h⟩
    exact ⟨(h.own.nth 4 rfl).two, (h.own.nth 3 rfl).two, (h.own.nth 5 rfl).two, (h.own.nth 6 rfl).two, (h.own.nth 2 rfl).two⟩
  · intro p a v hJ
    refine op_step (o := _) rfl (fun K hK => ?_)
    obtain ⟨y1, y2, y3, y4, y5, y6, y7, z1, ha, gg1, h⟩ := orJ5_0 hJ
    have h := Lib.hid h
    clear hJ
    subst ha
    go_simp
    refine (c16.out _).mono ?_
    rintro rr w5 ⟨rfl, hp⟩
    try go_wp2_with fail
    refine hK.out _ _ ⟨_, y2, y3, y4, y5, y6, y7, z1, ?_, fun _ => rfl, by omega, by omega, by omega, by omega, by omega, by omega, gg1, h.out.below hp⟩
    kernel_rfl
  · intro p a v hJ
    refine op_step (o := _) rfl (fun K hK => ?_)
    obtain ⟨y2, y3, y4, y5, y6, y7, z1, ha, gg1, h⟩ := orJ5_1 hJ
    have h := Lib.hid h
    clear hJ
    subst ha
    go_simp
    refine (c9.out _).mono ?_
    rintro rr w5 ⟨rfl, hp⟩
    try go_wp2_with fail
    refine hK.out _ _ ⟨_, _, y3, y4, y5, y6, y7, z1, ?_, fun _ => rfl, fun _ => rfl, by omega, by omega, by omega, by omega, by omega, gg1, h.out.below hp⟩
    kernel_rfl
  · intro p a v hJ
    refine op_step (o := _) rfl (fun K hK => ?_)
    obtain ⟨y3, y4, y5, y6, y7, z1, ha, gg1, h⟩ := orJ5_2 hJ
    have h := Lib.hid h
    clear hJ
    subst ha
    go_simp
    refine (c10.out _).mono ?_
    rintro rr w5 ⟨rfl, hp⟩
    try go_wp2_with fail
    refine hK.out _ _ ⟨_, _, _, y4, y5, y6, y7, z1, ?_, fun _ => rfl, fun _ => rfl, fun _ => rfl, by omega, by omega, by omega, by omega, gg1, h.out.below hp⟩
    kernel_rfl
  · intro p a v hJ
    refine op_step (o := _) rfl (fun K hK => ?_)
    obtain ⟨y4, y5, y6, y7, z1, ha, gg1, h⟩ := orJ5_3 hJ
    have h := Lib.hid h
    clear hJ
    subst ha
    go_simp
    refine (c19.out _).mono ?_
    rintro rr w5 ⟨rfl, hp⟩
    try go_wp2_with fail
    refine hK.out _ _ ⟨_, _, _, _, y5, y6, y7, z1, ?_, fun _ => rfl, fun _ => rfl, fun _ => rfl, fun _ => rfl, by omega, by omega, by omega, gg1, h.out.below hp⟩
    kernel_rfl
  · intro p a v hJ
    obtain ⟨y5, y6, y7, z1, ha, gg1, h⟩ := orJ5_4 hJ
    clear hJ
    subst ha
    refine ⟨_, .tuple #[.agg #[.float .f64 zl, .float .f64 zh], .int .i64 0], rfl, Or.inl ⟨by rfl, ?_⟩, (fun _ _ _ h => h), _, _, _, _, _, y6, y7, z1, ?_, fun _ => rfl, fun _ => rfl, fun _ => rfl, fun _ => rfl, fun _ => rfl, by omega, by omega, gg1, h⟩
    · intro w hSw; clear hSw h; go_simp; try with_reducible rfl
    · kernel_rfl
  · intro p a v hJ
    obtain ⟨y6, y7, z1, ha, gg1, h⟩ := orJ5_5 hJ
    clear hJ
    subst ha
    refine ⟨_, .agg #[.float .f64 zl, .float .f64 zh], rfl, Or.inl ⟨by rfl, ?_⟩, (fun _ _ _ h => h), _, _, _, _, _, _, y7, z1, ?_, fun _ => rfl, fun _ => rfl, fun _ => rfl, fun _ => rfl, fun _ => rfl, fun _ => rfl, by omega, gg1, h⟩
    · intro w hSw; clear hSw h; go_simp; try with_reducible rfl
    · kernel_rfl
  · intro p a v hJ
    obtain ⟨y7, z1, ha, gg1, h⟩ := orJ5_6 hJ
    clear hJ
    subst ha
    refine ⟨_, .int .i64 0, rfl, Or.inl ⟨by rfl, ?_⟩, (fun _ _ _ h => h), _, _, _, _, _, _, _, z1, ?_, fun _ => rfl, fun _ => rfl, fun _ => rfl, fun _ => rfl, fun _ => rfl, fun _ => rfl, fun _ => rfl, gg1, h⟩
    · intro w hSw; clear hSw h; go_simp; try with_reducible rfl
    · kernel_rfl
  · intro k p a v hp hJ
    refine op_step (o := _) rfl (fun K hK => ?_)
    obtain ⟨y1, y2, y3, y4, y5, y6, y7, z1, ha, ee1, ee2, ee3, ee4, ee5, ee6, ee7, gg1, h⟩ := hJ
    have h := Lib.hid h
    subst ha
    go_simp
    refine hK.out _ _ ⟨v.heap.size, y1, y2, y3, y4, y5, y6, y7, .pointer (some ⟨v.heap.size, 0, none⟩), ?_, ee1, ee2, ee3, ee4, ee5, ee6, ee7, fun q hq => ptr_set hq, h.out.alloc hp rfl _⟩
    kernel_rfl
  intro p5_1 a v hJ
  obtain ⟨rfl, h⟩ := orJ5_fin hJ
  clear hJ
  replace M := Lib.hid h.fin1
  clear h
  refine tails_one (T := []) (i := 16) (o := _) rfl (by kernel_rfl) (fun K hK => ?_)
  have kc := (M.out.nth 0 rfl).2.1
  have kf := (M.out.nth 0 rfl).2.2
  replace M : Hid (Own w [(p5_1, #[.float .f64 zl, .float .f64 zh]), (p4_1, #[.float .f64 yl, .float .f64 yh]), (p3_1, #[.float .f64 xl, .float .f64 xh]), (p2_1, #[.float .f64 dl, .float .f64 dh]), (p2_2, #[.float .f64 sl, .float .f64 sh]), (p2_3, #[.float .f64 rl, .float .f64 rh]), (p1_1, #[.float .f64 i, .float .f64 i]), (p1_2, #[.float .f64 o, .float .f64 o]), (w.heap.size, #[.int .u32 u0, .int .u32 u1, .int .u32 u2, .int .u32 u3, .int .u32 u4, .int .u32 u5, .int .u32 u6, .int .u32 u7])] _) := Lib.hid (M.out.set2 0 rfl (.float .f64 zl) (.float .f64 zh))
  go_simp
  refine hK.out _ _ (Or.inr ⟨(M.out.nth 5 rfl).two, (M.out.nth 4 rfl).two, (M.out.nth 6 rfl).two, (M.out.nth 7 rfl).two, (M.out.nth 3 rfl).two⟩) (fun hHeld => ?_)
  clear hK K hHeld kc kf
  refine tails_one (T := []) (i := 17) (o := _) rfl (by kernel_rfl) (fun K hK => ?_)
  go_simp
  refine hK.out _ _ (Or.inr ⟨(M.out.nth 5 rfl).two, (M.out.nth 4 rfl).two, (M.out.nth 6 rfl).two, (M.out.nth 7 rfl).two, (M.out.nth 3 rfl).two⟩) (fun hHeld => ?_)
  clear hK K hHeld
  refine tails_done (by kernel_rfl) ?_ _
  refine NoPanic.normal ?_
  clear hS
  revert M
  generalize ((v.setCell ⟨p5_1, 0, none⟩ (.float .f64 zl)).setCell ⟨p5_1, 1, none⟩ (.float .f64 zh)) = W5_
  intro M
  obtain ⟨k1, k2⟩ := (M.out.nth 4 rfl).two
  go_wp2_with fail
  refine (c9.out _).mono ?_
  rintro r w6_ ⟨rfl, hb⟩
  replace M := Lib.hid (M.out.below hb)
  clear hb
  clear k1 k2
  go_wp2_with fail
  refine (c21.out _).mono ?_
  rintro r w7_ ⟨rfl, hb⟩
  replace M := Lib.hid (M.out.below hb)
  clear hb
  replace M := Lib.hid (M.out.made #[.float .f64 al, .float .f64 ah] 24)
  replace M := Lib.hid (M.out.made #[.float .f64 bl, .float .f64 bh] 24)
  simp only [World.size_alloc] at M
  obtain ⟨k1, k2⟩ := (M.out.nth 6 rfl).two
  go_wp2_with fail
  refine (c22.out _).mono ?_
  rintro r w8_ ⟨rfl, hb⟩
  replace M := Lib.hid (M.out.below hb)
  clear hb
  clear k1 k2
  go_wp2_with fail
  refine (c23.out _).mono ?_
  rintro r w9_ ⟨rfl, hb⟩
  replace M := Lib.hid (M.out.below hb)
  clear hb
  replace M := Lib.hid (M.out.made #[.float .f64 cl, .float .f64 ch] 24)
  replace M := Lib.hid (M.out.made #[.float .f64 gl, .float .f64 gh] 24)
  simp only [World.size_alloc] at M
  obtain ⟨k1, k2⟩ := (M.out.nth 6 rfl).two
  obtain ⟨k3, k4⟩ := (M.out.nth 5 rfl).two
  obtain ⟨k5, k6⟩ := (M.out.nth 4 rfl).two
  obtain ⟨k7, k8⟩ := (M.out.nth 3 rfl).two
  obtain ⟨k9, k10⟩ := (M.out.nth 2 rfl).two
  go_wp2_with fail
  refine (c24.out _).mono ?_
  rintro r w10_ ⟨rfl, hb⟩
  replace M := Lib.hid (M.out.below hb)
  clear hb
  clear k1 k2 k3 k4 k5 k6 k7 k8 k9 k10
  go_wp2
  go_ret
  exact ⟨rfl, M.out.base⟩

end Go.Proofs.Ytoiaefgpegiieaa

namespace Go.Proofs.Ytoiaefgpegiieaa
open Go.RowKit

theorem leq8r {x y : Nat} (lx : x < 18446744073709551616) (ly : y < 18446744073709551616) (rx : rightB x = true) (ry : rightB y = true) (h : val x ≤ val y) : ((FloatKind.f64.format.order x y == some Ordering.lt) || (FloatKind.f64.format.order x y == some Ordering.eq)) = true :=
  (order_le x y lx ly rx ry).trans (decide_eq_true h)
theorem cos8 (u : Nat) (hu : u < 4294967296) : ∃ x, In (oneR x) c8I ∧ ∀ w, Calls Try.prog 44 #[.float .f64 4571153621781053440, .float .f64 4607182418800017408, .int .u32 u] w fun r w' => r = .returned (.float .f64 x) ∧ w = w' := by
  obtain ⟨x, a, c⟩ := between8_any 4571153621781053440 4607182418800017408 u (by decide) (by decide) (by decide) (by decide) (by decide +kernel) (by decide +kernel) (by decide +kernel) hu
  exact ⟨x, ⟨one_fit a.lt a.right, a.lo, a.hi⟩, c⟩
theorem end_lo {a A : Res} (i : In a A) : In (oneR a.lo) A := ⟨one_fit i.fit.lo i.fit.rlo, i.lo, Int.le_trans i.fit.le i.hi⟩
theorem end_hi {a A : Res} (i : In a A) : In (oneR a.hi) A := ⟨one_fit i.fit.hi i.fit.rhi, Int.le_trans i.lo i.fit.le, i.hi⟩
theorem rv_range {x : Nat} (h : In (oneR x) ouI) : 0 ≤ rv x ∧ rv x ≤ 1 := by
  rw [← rv_0, ← rv_1]
  exact ⟨rv_le.2 h.lo, rv_le.2 h.hi⟩
theorem orises_any (u0 u1' u2 u3 u4 u5 u6 u7 : Nat) (w : World) (g0 : u0 < 4294967296) (g1 : u1' < 4294967296) (g2 : u2 < 4294967296) (g3 : u3 < 4294967296) (g4 : u4 < 4294967296) (g5 : u5 < 4294967296) (g6 : u6 < 4294967296) (g7 : u7 < 4294967296) :
    Calls Try.prog 8 #[.agg #[.int .u32 u0, .int .u32 u1', .int .u32 u2, .int .u32 u3, .int .u32 u4, .int .u32 u5, .int .u32 u6, .int .u32 u7]] w fun r w' => r = .returned (.bool true) ∧ Below w.heap.size w w' := by
  obtain ⟨i, ii, ci⟩ := cos8 u0 g0
  obtain ⟨o, io, co⟩ := cos8 u1' g1
  obtain ⟨d, id', cd⟩ := span_e u2 u3 g2 g3
  obtain ⟨s, is, cs⟩ := span_u u4 u5 g4 g5
  obtain ⟨r, ir, cr⟩ := span_u u6 u7 g6 g7
  have dl := end_lo id'
  have dh := end_hi id'
  have sl := end_lo is
  have sh := end_hi is
  have rl := end_lo ir
  have rh := end_hi ir
  have hl : Dirs (oneR i) (oneR o) (oneR d.lo) := ⟨c8_ou ii, c8_ou io, dl⟩
  have hh : Dirs (oneR i) (oneR o) (oneR d.hi) := ⟨c8_ou ii, c8_ou io, dh⟩
  have el := (slope_snd ii io dl).1
  have eh := (slope_snd ii io dh).1
  have tl := slope_unit hl el
  have th := slope_unit hh eh
  have ql := slope_has hl el
  have qh := slope_has hh eh
  have m0 : 0 < if rv i ≤ rv o then rv o else rv i := by
    have key : ∀ {x : Nat}, In (oneR x) c8I → 0 < rv x := fun {x} h => by
      have a : val 4571153621781053440 ≤ val x := h.lo
      have b : 0 < val 4571153621781053440 := by decide +kernel
      unfold rv
      rw [Rat.div_def]
      exact Rat.mul_pos (Rat.intCast_pos.2 (by omega)) (Rat.inv_pos.2 ssQ)
    split
    · exact key io
    · exact key ii
  have qle : slopeQ (rv i) (rv o) (rv d.lo) ≤ slopeQ (rv i) (rv o) (rv d.hi) := slopeQ_mono m0 (rv_le.2 id'.fit.le)
  obtain ⟨s0, s1⟩ := rv_range sl
  obtain ⟨r0, r1⟩ := rv_range rl
  have tu := (edgeQ_unit (if rv d.lo - rv i * rv o ≤ 0 then rv d.lo - rv i * rv o else (rv d.lo - rv i * rv o) / (if rv i ≤ rv o then rv o else rv i))).1
  have low := val_has rl sl tl (rv_has r.lo) (rv_has s.lo) ql
  have dot := val_has rl sl th (rv_has r.lo) (rv_has s.lo) qh
  have rho := val_has rh sl tl (rv_has r.hi) (rv_has s.lo) ql
  have V1 := clamp_unit (val_fits rl sl tl).l.fit
  have V2 := clamp_unit (val_fits rl sl th).l.fit
  have V3 := clamp_unit (val_fits rh sl tl).l.fit
  have le1 := has_le low dot (valQ_dot r0 s0 qle)
  have le2 := has_le low rho (valQ_rho s0 s1 tu (rv_le.2 ir.fit.le))
  obtain ⟨pa, pb⟩ := pair_has sl (rv_has s.lo)
  obtain ⟨qa, qb⟩ := pair_has sh (rv_has s.hi)
  have sle : rv s.lo ≤ rv s.hi := rv_le.2 is.fit.le
  have le3 := has_le qa pa (aQ_falls s0 sle)
  have le4 := has_le pb qb (bQ_rises s0 sle)
  have P := pair_in sl
  have Q := pair_in sh
  have nar := value_narrow rl sl ii io dl
  have f1 : Fit (Or.val (oneR r.lo) (oneR s.lo) (Or.slope (oneR i) (oneR o) (oneR d.lo))) := V1.fit
  have f2 : Fit (Or.val (oneR r.lo) (oneR s.lo) (Or.slope (oneR i) (oneR o) (oneR d.hi))) := V2.fit
  have f3 : Fit (Or.val (oneR r.hi) (oneR s.lo) (Or.slope (oneR i) (oneR o) (oneR d.lo))) := V3.fit
  obtain ⟨df, q1, q2, q3, q4, q5⟩ := sub_all f1.hi f1.lo f1.rhi f1.rlo f1.le (y0 := 4427038433705197568) (by decide) (by decide) nar
  exact orises_law (u0 := u0) (u1 := u1') (u2 := u2) (u3 := u3) (u4 := u4) (u5 := u5) (u6 := u6) (u7 := u7) (i := i) (o := o) (dl := d.lo) (dh := d.hi) (sl := s.lo) (sh := s.hi) (rl := r.lo) (rh := r.hi) w
    (c1 := Lib.hid ci) (c2 := Lib.hid fun w => p8_any i ii.fit.lo ii.fit.rlo w) (c3 := Lib.hid co) (c4 := Lib.hid fun w => p8_any o io.fit.lo io.fit.rlo w) (c5 := Lib.hid cd) (c6 := Lib.hid cs) (c7 := Lib.hid cr)
    (c8 := Lib.hid fun w => p8_any _ ir.fit.lo ir.fit.rlo w) (c9 := Lib.hid fun w => p8_any _ is.fit.lo is.fit.rlo w) (c10 := Lib.hid fun w => p8_any _ id'.fit.lo id'.fit.rlo w)
    (c11 := Lib.hid fun w => value8 rl sl hl el w) (c14 := Lib.hid fun w => p8_any _ id'.fit.hi id'.fit.rhi w) (c15 := Lib.hid fun w => value8 rl sl hh eh w) (c16 := Lib.hid fun w => p8_any _ ir.fit.hi ir.fit.rhi w) (c19 := Lib.hid fun w => value8 rh sl hl el w)
    (c21 := Lib.hid fun w => pair8 sl w) (c22 := Lib.hid fun w => p8_any _ is.fit.hi is.fit.rhi w) (c23 := Lib.hid fun w => pair8 sh w)
    (o_leqxl_yh := leq8r f1.lo f2.hi f1.rlo f2.rhi le1) (o_leqxl_zh := leq8r f1.lo f3.hi f1.rlo f3.rhi le2) (o_leqcl_ah := leq8r Q.a.fit.lo P.a.fit.hi Q.a.fit.rlo P.a.fit.rhi le3) (o_leqbl_gh := leq8r P.b.fit.lo Q.b.fit.hi P.b.fit.rlo Q.b.fit.rhi le4)
    (q_df := fun w => run_float_arith w .sub 22 .f64 _ _ _ q1) (o_leqdf_433705197568 := leq8r q2 (by decide) q3 (by decide) q5) (c24 := Lib.hid awake8_any)
end Go.Proofs.Ytoiaefgpegiieaa

namespace Go.Proofs.Ytoiaefgpegiieaa
open Go.ChangeShapes Go.WideShapes Go.ChangeAt Go.RowKit

set_option maxRecDepth 100000 in
theorem orenRises_lifted (os : Os) (started : os.Started) (H : Type) (enc : TypeId × Value → H) :
    ReturnsInHanded {} Try.checked os 8 .any (Rows.orenRisesSpec.pre6 enc Try.prog Try.f8 Rows.orenRisesRow.domain false) (Rows.orenRisesSpec.post enc Try.prog Try.f8 false true false false) := by
  refine returnsInHanded_of_change (C := Try.checked) Try.own started (by kernel_rfl) Try.func8
    (ChangeSpec.witness6 (enc := enc) (C := Try.checked) false ⟨#[], #[.agg #[.int .u32 0, .int .u32 0, .int .u32 0, .int .u32 0, .int .u32 0, .int .u32 0, .int .u32 0, .int .u32 0]], []⟩ 8 (by kernel_rfl) (by kernel_rfl) (by kernel_rfl) (by kernel_rfl)) ?_
  intro W base args ds gs before hval0 hW hcnd _
  have hval : ∀ (j : Nat) t v, Try.f8.params[j]? = some t → args[j]? = some v → Value.okWide Try.prog W .any base t v := hval0
  have hW' := hW
  obtain ⟨p, q, hA0, hV, rfl, hfz, hnd⟩ := hW
  have hA : DataW.TrodAll enc Try.prog W 0 (fun _ => true) true Try.f8.params.toList args.toList ds p := hA0
  rw [Try.params8] at hA hval
  obtain ⟨v0, d0, rfl, rfl, h0⟩ := trodAll_one hA
  obtain ⟨rfl, rfl⟩ := trodVars_none hV
  obtain ⟨y0_0, y0_1, y0_2, y0_3, y0_4, y0_5, y0_6, y0_7, rfl, rfl, rfl, z0_0, z0_1, z0_2, z0_3, z0_4, z0_5, z0_6, z0_7⟩ := open_u8 (hval 0 69 v0 rfl rfl) h0
  clear hA0 hval0
  simp only [List.append_nil] at hW'
  obtain ⟨x0_0, rfl, c0_0⟩ := u32_nat z0_0
  obtain ⟨x0_1, rfl, c0_1⟩ := u32_nat z0_1
  obtain ⟨x0_2, rfl, c0_2⟩ := u32_nat z0_2
  obtain ⟨x0_3, rfl, c0_3⟩ := u32_nat z0_3
  obtain ⟨x0_4, rfl, c0_4⟩ := u32_nat z0_4
  obtain ⟨x0_5, rfl, c0_5⟩ := u32_nat z0_5
  obtain ⟨x0_6, rfl, c0_6⟩ := u32_nat z0_6
  obtain ⟨x0_7, rfl, c0_7⟩ := u32_nat z0_7
  refine (orises_any x0_0 x0_1 x0_2 x0_3 x0_4 x0_5 x0_6 x0_7 W c0_0 c0_1 c0_2 c0_3 c0_4 c0_5 c0_6 c0_7).mono fun e W' ⟨he, hw⟩ => ?_
  subst he
  refine ⟨_, rfl, _, _, _, [], [], [], hW', trodAll_mk1 (shut_bool Try.underlying4 _), trodAll_mk1 (shut_u8 z0_0 z0_1 z0_2 z0_3 z0_4 z0_5 z0_6 z0_7), rfl, hw.frame _, fun h => by cases h⟩

theorem orenRises_holds : Rows.OrenRisesSaid :=
  OpenClaim.holds_of_wide 8 Try.f8 rfl rfl rfl rfl rfl rfl rfl ⟨rfl, rfl, rfl, rfl, rfl⟩ rfl rfl rfl rfl rfl (by kernel_rfl) Try.func8 (by kernel_rfl)
    (of_decide_eq_true (by kernel_rfl)) (by unfold Func.isWrapper; first | (rw [if_pos (by decide +kernel)]; kernel_rfl) | (rw [if_neg (by decide +kernel)]; exact ⟨rfl, rfl⟩))
    (fun os started H enc _ => orenRises_lifted os started H enc)

end Go.Proofs.Ytoiaefgpegiieaa
