
/- OrenWithin holds for any twenty numbers of 32 bits: the law answers true, and its arguments read as before. No conditions. -/
import Derived.Test.YtoiaefgpegiieaaQO1
import Derived.Deep.RegionHeld3
import Derived.Test.YtoiaefgpegiieaaQO4
import Derived.Test.YtoiaefgpegiieaaQOpT
import Derived.ProofKit
import Derived.Carry
namespace Go.Proofs.Ytoiaefgpegiieaa
open Go.RowKit
attribute [local go_sem] run_store_float

section
variable {P : Program} {ops : Array Oper} {Q : Exit → Act → World → Prop} {md : Region.Mode} {S : World → Prop}
theorem lp_cccccp_1 {a0 : Act} {B v : World} {l : List (Nat × Array Value)} (_ : Hid (Own B l v)) {w0 : World} {L0 : Array Bool} (c1 c2 c3 c4 c5 c6 m1 : Nat) (slots : List Nat) (N : Nat) (J : List (Nat × Array Value) → Act → Nat → List (Option Nat) → Act → World → Prop) (hok : latOkP [false, false, false, false, false, true] md ops L0 [c1, c2, c3, c4, c5, c6] [m1] = true)
    (hsl : (slots.all fun s => decide (s < a0.tmps.size)) = true) (h0 : ∀ A : Act, (∀ s, s ∈ slots → s < A.tmps.size) → J l A 0 (List.replicate 1 none) A w0)
    (hS : ∀ k p a w, J l a0 k p a w → S w)
    (k1 : ∀ p a w, J l a0 0 p a w → wpOp P ops Q c1 (fun b v => J l a0 1 p b v) a w)
    (k2 : ∀ p a w, J l a0 1 p a w → wpOp P ops Q c2 (fun b v => J l a0 2 p b v) a w)
    (k3 : ∀ p a w, J l a0 2 p a w → wpOp P ops Q c3 (fun b v => J l a0 3 p b v) a w)
    (k4 : ∀ p a w, J l a0 3 p a w → wpOp P ops Q c4 (fun b v => J l a0 4 p b v) a w)
    (k5 : ∀ p a w, J l a0 4 p a w → wpOp P ops Q c5 (fun b v => J l a0 5 p b v) a w)
    (k6 : ∀ p a w, J l a0 5 p a w → ∃ o x, ops[c6]? = some o ∧ YieldsIf P ops S o x a ∧ (∀ c a w, Q (.panic c) (a.put o.dst x) w → Q (.panic c) a w) ∧ J l a0 6 p (a.put o.dst x) w)
    (n1 : ∀ k p a w, p[0]? = some none → J l a0 k p a w → wpOp P ops Q m1 (fun b v => ∃ q, J l a0 k (p.set 0 (some q)) b v) a w)
    (fin : ∀ q1 a w, J l a0 6 [some q1] a w → wpAnyV P md ops Q S [] N (lstOf L0 [c1, c2, c3, c4, c5, c6] [m1] 6 [true]) a w) :
    wpAnyV P md ops Q S [] (N + 7) L0 a0 w0 := by
  refine latP_from (pl := [false, false, false, false, false, true]) [c1, c2, c3, c4, c5, c6] [m1] slots N 7 (J l) hok rfl hsl h0 hS (fun k i p a w hk hn hJ => ?_) (fun k i p a w hk hn hJ => ?_) (fun k m i p a w hm hp hJ => ?_) (fun p a w hp hall hJ => ?_)
  · rcases k with _ | _ | _ | _ | _ | _ | k
    · obtain rfl : c1 = i := by simpa using hk
      exact k1 p a w hJ
    · obtain rfl : c2 = i := by simpa using hk
      exact k2 p a w hJ
    · obtain rfl : c3 = i := by simpa using hk
      exact k3 p a w hJ
    · obtain rfl : c4 = i := by simpa using hk
      exact k4 p a w hJ
    · obtain rfl : c5 = i := by simpa using hk
      exact k5 p a w hJ
    · exact absurd hn (by decide)
    · simp at hk
  · rcases k with _ | _ | _ | _ | _ | _ | k
    · exact absurd hn (by decide)
    · exact absurd hn (by decide)
    · exact absurd hn (by decide)
    · exact absurd hn (by decide)
    · exact absurd hn (by decide)
    · obtain rfl : c6 = i := by simpa using hk
      exact k6 p a w hJ
    · simp at hk
  · rcases m with _ | m
    · obtain rfl : m1 = i := by simpa using hm
      exact n1 k p a w hp hJ
    · simp at hm
  · obtain ⟨q1, rfl⟩ := fin_one hp hall
    exact fin q1 a w hJ
end

/-- Region 3. -/
def oy0J3 (w : World) (pl ph ql qh xl xh yl yh zl zh : Nat) (l : RowL) (a0 : Act) (k : Nat) (p : List (Option Nat)) (a : Act) (v : World) : Prop :=
  ∃ y1 y2 y3 y4 y5 y6 z1 : Value, a = (((((((a0.put (some 28) y1).put (some 32) y2).put (some 36) y3).put (some 40) y4).put (some 44) y5).put (some 45) y6).put (some 7) z1) ∧ (0 < k → y1 = .agg #[.float .f64 pl, .float .f64 ph]) ∧ (1 < k → y2 = .agg #[.float .f64 ql, .float .f64 qh]) ∧ (2 < k → y3 = .agg #[.float .f64 xl, .float .f64 xh]) ∧ (3 < k → y4 = .agg #[.float .f64 yl, .float .f64 yh]) ∧ (4 < k → y5 = .agg #[.float .f64 zl, .float .f64 zh]) ∧ (5 < k → y6 = .agg #[.float .f64 pl, .float .f64 ph, .float .f64 ql, .float .f64 qh, .float .f64 xl, .float .f64 xh, .float .f64 yl, .float .f64 yh, .float .f64 zl, .float .f64 zh]) ∧ (∀ q, p[0]? = some (some q) → z1 = .pointer (some ⟨q, 0, none⟩)) ∧ OwnF w l [#[.float .f64 0, .float .f64 0, .float .f64 0, .float .f64 0, .float .f64 0, .float .f64 0, .float .f64 0, .float .f64 0, .float .f64 0, .float .f64 0]] p v
section
variable {w v : World} {pl ph ql qh xl xh yl yh zl zh : Nat} {l : RowL} {a0 a : Act} {p : List (Option Nat)}
theorem oy0J3_0 (h : oy0J3 w pl ph ql qh xl xh yl yh zl zh l a0 0 p a v) : ∃ y1 y2 y3 y4 y5 y6 z1 : Value, a = (((((((a0.put (some 28) y1).put (some 32) y2).put (some 36) y3).put (some 40) y4).put (some 44) y5).put (some 45) y6).put (some 7) z1) ∧ (∀ q, p[0]? = some (some q) → z1 = .pointer (some ⟨q, 0, none⟩)) ∧ OwnF w l [#[.float .f64 0, .float .f64 0, .float .f64 0, .float .f64 0, .float .f64 0, .float .f64 0, .float .f64 0, .float .f64 0, .float .f64 0, .float .f64 0]] p v := by
  obtain ⟨y1, y2, y3, y4, y5, y6, z1, ha, E1, E2, E3, E4, E5, E6, G1, h⟩ := h
  exact ⟨y1, y2, y3, y4, y5, y6, z1, ha, G1, h⟩
theorem oy0J3_1 (h : oy0J3 w pl ph ql qh xl xh yl yh zl zh l a0 1 p a v) : ∃ y2 y3 y4 y5 y6 z1 : Value, a = (((((((a0.put (some 28) (.agg #[.float .f64 pl, .float .f64 ph])).put (some 32) y2).put (some 36) y3).put (some 40) y4).put (some 44) y5).put (some 45) y6).put (some 7) z1) ∧ (∀ q, p[0]? = some (some q) → z1 = .pointer (some ⟨q, 0, none⟩)) ∧ OwnF w l [#[.float .f64 0, .float .f64 0, .float .f64 0, .float .f64 0, .float .f64 0, .float .f64 0, .float .f64 0, .float .f64 0, .float .f64 0, .float .f64 0]] p v := by
  obtain ⟨y1, y2, y3, y4, y5, y6, z1, ha, E1, E2, E3, E4, E5, E6, G1, h⟩ := h
  obtain rfl := E1 (by decide)
  exact ⟨y2, y3, y4, y5, y6, z1, ha, G1, h⟩
theorem oy0J3_2 (h : oy0J3 w pl ph ql qh xl xh yl yh zl zh l a0 2 p a v) : ∃ y3 y4 y5 y6 z1 : Value, a = (((((((a0.put (some 28) (.agg #[.float .f64 pl, .float .f64 ph])).put (some 32) (.agg #[.float .f64 ql, .float .f64 qh])).put (some 36) y3).put (some 40) y4).put (some 44) y5).put (some 45) y6).put (some 7) z1) ∧ (∀ q, p[0]? = some (some q) → z1 = .pointer (some ⟨q, 0, none⟩)) ∧ OwnF w l [#[.float .f64 0, .float .f64 0, .float .f64 0, .float .f64 0, .float .f64 0, .float .f64 0, .float .f64 0, .float .f64 0, .float .f64 0, .float .f64 0]] p v := by
  obtain ⟨y1, y2, y3, y4, y5, y6, z1, ha, E1, E2, E3, E4, E5, E6, G1, h⟩ := h
  obtain rfl := E1 (by decide)
  obtain rfl := E2 (by decide)
  exact ⟨y3, y4, y5, y6, z1, ha, G1, h⟩
theorem oy0J3_3 (h : oy0J3 w pl ph ql qh xl xh yl yh zl zh l a0 3 p a v) : ∃ y4 y5 y6 z1 : Value, a = (((((((a0.put (some 28) (.agg #[.float .f64 pl, .float .f64 ph])).put (some 32) (.agg #[.float .f64 ql, .float .f64 qh])).put (some 36) (.agg #[.float .f64 xl, .float .f64 xh])).put (some 40) y4).put (some 44) y5).put (some 45) y6).put (some 7) z1) ∧ (∀ q, p[0]? = some (some q) → z1 = .pointer (some ⟨q, 0, none⟩)) ∧ OwnF w l [#[.float .f64 0, .float .f64 0, .float .f64 0, .float .f64 0, .float .f64 0, .float .f64 0, .float .f64 0, .float .f64 0, .float .f64 0, .float .f64 0]] p v := by
  obtain ⟨y1, y2, y3, y4, y5, y6, z1, ha, E1, E2, E3, E4, E5, E6, G1, h⟩ := h
  obtain rfl := E1 (by decide)
  obtain rfl := E2 (by decide)
  obtain rfl := E3 (by decide)
  exact ⟨y4, y5, y6, z1, ha, G1, h⟩
theorem oy0J3_4 (h : oy0J3 w pl ph ql qh xl xh yl yh zl zh l a0 4 p a v) : ∃ y5 y6 z1 : Value, a = (((((((a0.put (some 28) (.agg #[.float .f64 pl, .float .f64 ph])).put (some 32) (.agg #[.float .f64 ql, .float .f64 qh])).put (some 36) (.agg #[.float .f64 xl, .float .f64 xh])).put (some 40) (.agg #[.float .f64 yl, .float .f64 yh])).put (some 44) y5).put (some 45) y6).put (some 7) z1) ∧ (∀ q, p[0]? = some (some q) → z1 = .pointer (some ⟨q, 0, none⟩)) ∧ OwnF w l [#[.float .f64 0, .float .f64 0, .float .f64 0, .float .f64 0, .float .f64 0, .float .f64 0, .float .f64 0, .float .f64 0, .float .f64 0, .float .f64 0]] p v := by
  obtain ⟨y1, y2, y3, y4, y5, y6, z1, ha, E1, E2, E3, E4, E5, E6, G1, h⟩ := h
  obtain rfl := E1 (by decide)
  obtain rfl := E2 (by decide)
  obtain rfl := E3 (by decide)
  obtain rfl := E4 (by decide)
  exact ⟨y5, y6, z1, ha, G1, h⟩
theorem oy0J3_5 (h : oy0J3 w pl ph ql qh xl xh yl yh zl zh l a0 5 p a v) : ∃ y6 z1 : Value, a = (((((((a0.put (some 28) (.agg #[.float .f64 pl, .float .f64 ph])).put (some 32) (.agg #[.float .f64 ql, .float .f64 qh])).put (some 36) (.agg #[.float .f64 xl, .float .f64 xh])).put (some 40) (.agg #[.float .f64 yl, .float .f64 yh])).put (some 44) (.agg #[.float .f64 zl, .float .f64 zh])).put (some 45) y6).put (some 7) z1) ∧ (∀ q, p[0]? = some (some q) → z1 = .pointer (some ⟨q, 0, none⟩)) ∧ OwnF w l [#[.float .f64 0, .float .f64 0, .float .f64 0, .float .f64 0, .float .f64 0, .float .f64 0, .float .f64 0, .float .f64 0, .float .f64 0, .float .f64 0]] p v := by
  obtain ⟨y1, y2, y3, y4, y5, y6, z1, ha, E1, E2, E3, E4, E5, E6, G1, h⟩ := h
  obtain rfl := E1 (by decide)
  obtain rfl := E2 (by decide)
  obtain rfl := E3 (by decide)
  obtain rfl := E4 (by decide)
  obtain rfl := E5 (by decide)
  exact ⟨y6, z1, ha, G1, h⟩
theorem oy0J3_fin {q1 : Nat} (h : oy0J3 w pl ph ql qh xl xh yl yh zl zh l a0 6 [some q1] a v) : a = (((((((a0.put (some 28) (.agg #[.float .f64 pl, .float .f64 ph])).put (some 32) (.agg #[.float .f64 ql, .float .f64 qh])).put (some 36) (.agg #[.float .f64 xl, .float .f64 xh])).put (some 40) (.agg #[.float .f64 yl, .float .f64 yh])).put (some 44) (.agg #[.float .f64 zl, .float .f64 zh])).put (some 45) (.agg #[.float .f64 pl, .float .f64 ph, .float .f64 ql, .float .f64 qh, .float .f64 xl, .float .f64 xh, .float .f64 yl, .float .f64 yh, .float .f64 zl, .float .f64 zh])).put (some 7) (.pointer (some ⟨q1, 0, none⟩))) ∧ OwnF w l [#[.float .f64 0, .float .f64 0, .float .f64 0, .float .f64 0, .float .f64 0, .float .f64 0, .float .f64 0, .float .f64 0, .float .f64 0, .float .f64 0]] [some q1] v := by
  obtain ⟨y1, y2, y3, y4, y5, y6, z1, ha, E1, E2, E3, E4, E5, E6, G1, h⟩ := h
  obtain rfl := E1 (by decide)
  obtain rfl := E2 (by decide)
  obtain rfl := E3 (by decide)
  obtain rfl := E4 (by decide)
  obtain rfl := E5 (by decide)
  obtain rfl := E6 (by decide)
  obtain rfl := G1 _ rfl
  exact ⟨ha, h⟩
end

set_option maxRecDepth 100000 in
set_option maxHeartbeats 16000000 in
theorem owith_ok {u0 u1 u2 u3 u4 u5 u6 u7 u8 u9 v0 v1 v2 v3 v4 v5 v6 v7 v8 v9 rl rh sl sh il ih ol oh dl dh pl ph ql qh xl xh yl yh zl zh al ah bl bh cl ch ml mh nl nh tl th jl jh kl kh : Nat} (w : World)
    (c1 : Hid (∀ w, Calls Try.prog 33 #[.agg #[.int .u32 u0, .int .u32 u1, .int .u32 u2, .int .u32 u3, .int .u32 u4, .int .u32 u5, .int .u32 u6, .int .u32 u7, .int .u32 u8, .int .u32 u9]] w fun r w' => r = .returned (.agg #[.float .f64 rl, .float .f64 rh, .float .f64 sl, .float .f64 sh, .float .f64 il, .float .f64 ih, .float .f64 ol, .float .f64 oh, .float .f64 dl, .float .f64 dh]) ∧ Below w.heap.size w w'))
    (c2 : Hid (∀ (q : Nat) (v : World), Has1 v (q, #[.int .u32 v0, .int .u32 v1, .int .u32 v2, .int .u32 v3, .int .u32 v4, .int .u32 v5, .int .u32 v6, .int .u32 v7, .int .u32 v8, .int .u32 v9]) → Calls Try.prog 39 #[.agg #[.float .f64 rl, .float .f64 rh], .int .i64 0, .pointer (some ⟨q, 0, none⟩)] v fun r w' => r = .returned (.agg #[.float .f64 pl, .float .f64 ph]) ∧ Below v.heap.size v w'))
    (c3 : Hid (∀ (q : Nat) (v : World), Has1 v (q, #[.int .u32 v0, .int .u32 v1, .int .u32 v2, .int .u32 v3, .int .u32 v4, .int .u32 v5, .int .u32 v6, .int .u32 v7, .int .u32 v8, .int .u32 v9]) → Calls Try.prog 39 #[.agg #[.float .f64 sl, .float .f64 sh], .int .i64 2, .pointer (some ⟨q, 0, none⟩)] v fun r w' => r = .returned (.agg #[.float .f64 ql, .float .f64 qh]) ∧ Below v.heap.size v w'))
    (c4 : Hid (∀ (q : Nat) (v : World), Has1 v (q, #[.int .u32 v0, .int .u32 v1, .int .u32 v2, .int .u32 v3, .int .u32 v4, .int .u32 v5, .int .u32 v6, .int .u32 v7, .int .u32 v8, .int .u32 v9]) → Calls Try.prog 39 #[.agg #[.float .f64 il, .float .f64 ih], .int .i64 4, .pointer (some ⟨q, 0, none⟩)] v fun r w' => r = .returned (.agg #[.float .f64 xl, .float .f64 xh]) ∧ Below v.heap.size v w'))
    (c5 : Hid (∀ (q : Nat) (v : World), Has1 v (q, #[.int .u32 v0, .int .u32 v1, .int .u32 v2, .int .u32 v3, .int .u32 v4, .int .u32 v5, .int .u32 v6, .int .u32 v7, .int .u32 v8, .int .u32 v9]) → Calls Try.prog 39 #[.agg #[.float .f64 ol, .float .f64 oh], .int .i64 6, .pointer (some ⟨q, 0, none⟩)] v fun r w' => r = .returned (.agg #[.float .f64 yl, .float .f64 yh]) ∧ Below v.heap.size v w'))
    (c6 : Hid (∀ (q : Nat) (v : World), Has1 v (q, #[.int .u32 v0, .int .u32 v1, .int .u32 v2, .int .u32 v3, .int .u32 v4, .int .u32 v5, .int .u32 v6, .int .u32 v7, .int .u32 v8, .int .u32 v9]) → Calls Try.prog 39 #[.agg #[.float .f64 dl, .float .f64 dh], .int .i64 8, .pointer (some ⟨q, 0, none⟩)] v fun r w' => r = .returned (.agg #[.float .f64 zl, .float .f64 zh]) ∧ Below v.heap.size v w'))
    (c7 : Hid (∀ w, Calls Try.prog 34 #[.agg #[.float .f64 rl, .float .f64 rh, .float .f64 sl, .float .f64 sh, .float .f64 il, .float .f64 ih, .float .f64 ol, .float .f64 oh, .float .f64 dl, .float .f64 dh]] w fun r w' => r = .returned (.tuple #[.agg #[.float .f64 al, .float .f64 ah], .int .i64 0]) ∧ Below w.heap.size w w'))
    (c8 : Hid (∀ w, Calls Try.prog 34 #[.agg #[.float .f64 pl, .float .f64 ph, .float .f64 ql, .float .f64 qh, .float .f64 xl, .float .f64 xh, .float .f64 yl, .float .f64 yh, .float .f64 zl, .float .f64 zh]] w fun r w' => r = .returned (.tuple #[.agg #[.float .f64 bl, .float .f64 bh], .int .i64 0]) ∧ Below w.heap.size w w'))
    (c9 : Hid (∀ w, Calls Try.prog 41 #[.agg #[.float .f64 il, .float .f64 ih], .agg #[.float .f64 ol, .float .f64 oh], .agg #[.float .f64 dl, .float .f64 dh]] w fun r w' => r = .returned (.tuple #[.agg #[.float .f64 cl, .float .f64 ch], .int .i64 0]) ∧ Below w.heap.size w w'))
    (c10 : Hid (∀ w, Calls Try.prog 41 #[.agg #[.float .f64 xl, .float .f64 xh], .agg #[.float .f64 yl, .float .f64 yh], .agg #[.float .f64 zl, .float .f64 zh]] w fun r w' => r = .returned (.tuple #[.agg #[.float .f64 ml, .float .f64 mh], .int .i64 0]) ∧ Below w.heap.size w w'))
    (c11 : Hid (∀ w, Calls Try.prog 42 #[.agg #[.float .f64 bl, .float .f64 bh], .agg #[.float .f64 al, .float .f64 ah]] w fun r w' => r = .returned (.bool true) ∧ Below w.heap.size w w'))
    (c12 : Hid (∀ w, Calls Try.prog 42 #[.agg #[.float .f64 ml, .float .f64 mh], .agg #[.float .f64 cl, .float .f64 ch]] w fun r w' => r = .returned (.bool true) ∧ Below w.heap.size w w'))
    (c13 : Hid (∀ w, Calls Try.prog 43 #[.agg #[.float .f64 sl, .float .f64 sh]] w fun r w' => r = .returned (.tuple #[.agg #[.float .f64 nl, .float .f64 nh], .agg #[.float .f64 tl, .float .f64 th], .int .i64 0]) ∧ Below w.heap.size w w'))
    (c14 : Hid (∀ w, Calls Try.prog 43 #[.agg #[.float .f64 ql, .float .f64 qh]] w fun r w' => r = .returned (.tuple #[.agg #[.float .f64 jl, .float .f64 jh], .agg #[.float .f64 kl, .float .f64 kh], .int .i64 0]) ∧ Below w.heap.size w w'))
    (c15 : Hid (∀ w, Calls Try.prog 42 #[.agg #[.float .f64 jl, .float .f64 jh], .agg #[.float .f64 nl, .float .f64 nh]] w fun r w' => r = .returned (.bool true) ∧ Below w.heap.size w w'))
    (c16 : Hid (∀ w, Calls Try.prog 42 #[.agg #[.float .f64 kl, .float .f64 kh], .agg #[.float .f64 tl, .float .f64 th]] w fun r w' => r = .returned (.bool true) ∧ Below w.heap.size w w'))
    (c17 : Hid (∀ w, Calls Try.prog 38 #[] w fun r w' => r = .returned (.bool true) ∧ Below w.heap.size w w')) :
    Calls Try.prog 7 #[.agg #[.int .u32 u0, .int .u32 u1, .int .u32 u2, .int .u32 u3, .int .u32 u4, .int .u32 u5, .int .u32 u6, .int .u32 u7, .int .u32 u8, .int .u32 u9], .agg #[.int .u32 v0, .int .u32 v1, .int .u32 v2, .int .u32 v3, .int .u32 v4, .int .u32 v5, .int .u32 v6, .int .u32 v7, .int .u32 v8, .int .u32 v9]] w fun r w' => r = .returned (.bool true) ∧ Below w.heap.size w w' := by
  have M := Lib.hid (((Own.nil w).made #[.int .u32 u0, .int .u32 u1, .int .u32 u2, .int .u32 u3, .int .u32 u4, .int .u32 u5, .int .u32 u6, .int .u32 u7, .int .u32 u8, .int .u32 u9] 57).made #[.int .u32 v0, .int .u32 v1, .int .u32 v2, .int .u32 v3, .int .u32 v4, .int .u32 v5, .int .u32 v6, .int .u32 v7, .int .u32 v8, .int .u32 v9] 57)
  simp only [World.size_alloc] at M
  have eqF := eq_floats
  go_enter Try.func7, Try.ntmps7
  obtain ⟨k1, k2, k3, k4, k5, k6, k7, k8, k9, k10⟩ := (M.out.nth 1 rfl).ten
  go_wp2_with fail
  refine (c1.out _).mono ?_
  rintro r w1_ ⟨rfl, hb⟩
  replace M := Lib.hid (M.out.below hb)
  clear hb
  clear k1 k2 k3 k4 k5 k6 k7 k8 k9 k10
  replace M := Lib.hid (M.out.made #[.float .f64 rl, .float .f64 rh, .float .f64 sl, .float .f64 sh, .float .f64 il, .float .f64 ih, .float .f64 ol, .float .f64 oh, .float .f64 dl, .float .f64 dh] 59)
  go_upto_region 3 with fail
  replace M := Lib.hid M.out.drew
  revert M
  generalize (w1_.alloc (.cells #[.float .f64 rl, .float .f64 rh, .float .f64 sl, .float .f64 sh, .float .f64 il, .float .f64 ih, .float .f64 ol, .float .f64 oh, .float .f64 dl, .float .f64 dh] 59)) = W2_
  intro M
  refine wp_region_noPanic ?_
  refine tails_region (S := fun w' => (w'.cell? ⟨w1_.heap.size, 0, none⟩ = some (.float .f64 rl) ∧ w'.cell? ⟨w1_.heap.size, 1, none⟩ = some (.float .f64 rh) ∧ w'.cell? ⟨w1_.heap.size, 2, none⟩ = some (.float .f64 sl) ∧ w'.cell? ⟨w1_.heap.size, 3, none⟩ = some (.float .f64 sh) ∧ w'.cell? ⟨w1_.heap.size, 4, none⟩ = some (.float .f64 il) ∧ w'.cell? ⟨w1_.heap.size, 5, none⟩ = some (.float .f64 ih) ∧ w'.cell? ⟨w1_.heap.size, 6, none⟩ = some (.float .f64 ol) ∧ w'.cell? ⟨w1_.heap.size, 7, none⟩ = some (.float .f64 oh) ∧ w'.cell? ⟨w1_.heap.size, 8, none⟩ = some (.float .f64 dl) ∧ w'.cell? ⟨w1_.heap.size, 9, none⟩ = some (.float .f64 dh))) [] (by kernel_rfl) ?_ (fun hS => ?_)
  · exact (M.out.nth 0 rfl).ten
  refine tk (x := ?_) 0 rfl (by kernel_rfl) ⟨by rfl, ?_⟩ (fun _ _ _ h => h) hS ?_
  rotate_left; focus (intro w hSw; (try dsimp only at hSw); go_simp; try with_reducible rfl)
  refine tk (x := ?_) 1 rfl (by kernel_rfl) ⟨by rfl, ?_⟩ (fun _ _ _ h => h) hS ?_
  rotate_left; focus (intro w hSw; (try dsimp only at hSw); go_simp; try with_reducible rfl)
  refine tk (x := ?_) 2 rfl (by kernel_rfl) ⟨by rfl, ?_⟩ (fun _ _ _ h => h) hS ?_
  rotate_left; focus (intro w hSw; (try dsimp only at hSw); go_simp; try with_reducible rfl)
  refine tk (x := ?_) 4 rfl (by kernel_rfl) ⟨by rfl, ?_⟩ (fun _ _ _ h => h) hS ?_
  rotate_left; focus (intro w hSw; (try dsimp only at hSw); go_simp; try with_reducible rfl)
  refine tk (x := ?_) 5 rfl (by kernel_rfl) ⟨by rfl, ?_⟩ (fun _ _ _ h => h) hS ?_
  rotate_left; focus (intro w hSw; (try dsimp only at hSw); go_simp; try with_reducible rfl)
  refine tk (x := ?_) 6 rfl (by kernel_rfl) ⟨by rfl, ?_⟩ (fun _ _ _ h => h) hS ?_
  rotate_left; focus (intro w hSw; (try dsimp only at hSw); go_simp; try with_reducible rfl)
  refine tk (x := ?_) 8 rfl (by kernel_rfl) ⟨by rfl, ?_⟩ (fun _ _ _ h => h) hS ?_
  rotate_left; focus (intro w hSw; (try dsimp only at hSw); go_simp; try with_reducible rfl)
  refine tk (x := ?_) 9 rfl (by kernel_rfl) ⟨by rfl, ?_⟩ (fun _ _ _ h => h) hS ?_
  rotate_left; focus (intro w hSw; (try dsimp only at hSw); go_simp; try with_reducible rfl)
  refine tk (x := ?_) 10 rfl (by kernel_rfl) ⟨by rfl, ?_⟩ (fun _ _ _ h => h) hS ?_
  rotate_left; focus (intro w hSw; (try dsimp only at hSw); go_simp; try with_reducible rfl)
  refine tk (x := ?_) 12 rfl (by kernel_rfl) ⟨by rfl, ?_⟩ (fun _ _ _ h => h) hS ?_
  rotate_left; focus (intro w hSw; (try dsimp only at hSw); go_simp; try with_reducible rfl)
  refine tk (x := ?_) 13 rfl (by kernel_rfl) ⟨by rfl, ?_⟩ (fun _ _ _ h => h) hS ?_
  rotate_left; focus (intro w hSw; (try dsimp only at hSw); go_simp; try with_reducible rfl)
  refine tk (x := ?_) 14 rfl (by kernel_rfl) ⟨by rfl, ?_⟩ (fun _ _ _ h => h) hS ?_
  rotate_left; focus (intro w hSw; (try dsimp only at hSw); go_simp; try with_reducible rfl)
  refine tk (x := ?_) 16 rfl (by kernel_rfl) ⟨by rfl, ?_⟩ (fun _ _ _ h => h) hS ?_
  rotate_left; focus (intro w hSw; (try dsimp only at hSw); go_simp; try with_reducible rfl)
  refine tk (x := ?_) 17 rfl (by kernel_rfl) ⟨by rfl, ?_⟩ (fun _ _ _ h => h) hS ?_
  rotate_left; focus (intro w hSw; (try dsimp only at hSw); go_simp; try with_reducible rfl)
  refine tk (x := ?_) 18 rfl (by kernel_rfl) ⟨by rfl, ?_⟩ (fun _ _ _ h => h) hS ?_
  rotate_left; focus (intro w hSw; (try dsimp only at hSw); go_simp; try with_reducible rfl)
  conv => arg 9; simp only [Act.put, go_sem]
  refine lp_cccccp_1 M 3 7 11 15 19 20 21 [28, 32, 36, 40, 44, 45, 7] 1 (oy0J3 w pl ph ql qh xl xh yl yh zl zh) (by kernel_rfl) (by kernel_rfl) ?_ ?_ ?_ ?_ ?_ ?_ ?_ ?_ ?_ ?_
  · intro A hA
    obtain ⟨y1, hq1⟩ := put_ex (hA 28 (by simp))
    obtain ⟨y2, hq2⟩ := put_ex (hA 32 (by simp))
    obtain ⟨y3, hq3⟩ := put_ex (hA 36 (by simp))
    obtain ⟨y4, hq4⟩ := put_ex (hA 40 (by simp))
    obtain ⟨y5, hq5⟩ := put_ex (hA 44 (by simp))
    obtain ⟨y6, hq6⟩ := put_ex (hA 45 (by simp))
    obtain ⟨z1, hq7⟩ := put_ex (hA 7 (by simp))
    exact ⟨y1, y2, y3, y4, y5, y6, z1, by rw [hq1, hq2, hq3, hq4, hq5, hq6, hq7], by omega, by omega, by omega, by omega, by omega, by omega, by simp, OwnF.start M.out 1⟩
  · rintro k p a v ⟨y1, y2, y3, y4, y5, y6, z1, _, _, _, _, _, _, _, _, h⟩
    exact (h.own.nth 0 rfl).ten
  · intro p a v hJ
    refine op_step (o := _) rfl (fun K hK => ?_)
    obtain ⟨y1, y2, y3, y4, y5, y6, z1, ha, gg1, h⟩ := oy0J3_0 hJ
    have h := Lib.hid h
    clear hJ
    subst ha
    go_simp
    refine (c2.out _ _ (h.out.own.nth 1 rfl)).mono ?_
    rintro rr w5 ⟨rfl, hp⟩
    try go_wp2_with fail
    refine hK.out _ _ ⟨_, y2, y3, y4, y5, y6, z1, ?_, fun _ => rfl, by omega, by omega, by omega, by omega, by omega, gg1, h.out.below hp⟩
    kernel_rfl
  · intro p a v hJ
    refine op_step (o := _) rfl (fun K hK => ?_)
    obtain ⟨y2, y3, y4, y5, y6, z1, ha, gg1, h⟩ := oy0J3_1 hJ
    have h := Lib.hid h
    clear hJ
    subst ha
    go_simp
    refine (c3.out _ _ (h.out.own.nth 1 rfl)).mono ?_
    rintro rr w5 ⟨rfl, hp⟩
    try go_wp2_with fail
    refine hK.out _ _ ⟨_, _, y3, y4, y5, y6, z1, ?_, fun _ => rfl, fun _ => rfl, by omega, by omega, by omega, by omega, gg1, h.out.below hp⟩
    kernel_rfl
  · intro p a v hJ
    refine op_step (o := _) rfl (fun K hK => ?_)
    obtain ⟨y3, y4, y5, y6, z1, ha, gg1, h⟩ := oy0J3_2 hJ
    have h := Lib.hid h
    clear hJ
    subst ha
    go_simp
    refine (c4.out _ _ (h.out.own.nth 1 rfl)).mono ?_
    rintro rr w5 ⟨rfl, hp⟩
    try go_wp2_with fail
    refine hK.out _ _ ⟨_, _, _, y4, y5, y6, z1, ?_, fun _ => rfl, fun _ => rfl, fun _ => rfl, by omega, by omega, by omega, gg1, h.out.below hp⟩
    kernel_rfl
  · intro p a v hJ
    refine op_step (o := _) rfl (fun K hK => ?_)
    obtain ⟨y4, y5, y6, z1, ha, gg1, h⟩ := oy0J3_3 hJ
    have h := Lib.hid h
    clear hJ
    subst ha
    go_simp
    refine (c5.out _ _ (h.out.own.nth 1 rfl)).mono ?_
    rintro rr w5 ⟨rfl, hp⟩
    try go_wp2_with fail
    refine hK.out _ _ ⟨_, _, _, _, y5, y6, z1, ?_, fun _ => rfl, fun _ => rfl, fun _ => rfl, fun _ => rfl, by omega, by omega, gg1, h.out.below hp⟩
    kernel_rfl
  · intro p a v hJ
    refine op_step (o := _) rfl (fun K hK => ?_)
    obtain ⟨y5, y6, z1, ha, gg1, h⟩ := oy0J3_4 hJ
    have h := Lib.hid h
    clear hJ
    subst ha
    go_simp
    refine (c6.out _ _ (h.out.own.nth 1 rfl)).mono ?_
    rintro rr w5 ⟨rfl, hp⟩
    try go_wp2_with fail
    refine hK.out _ _ ⟨_, _, _, _, _, y6, z1, ?_, fun _ => rfl, fun _ => rfl, fun _ => rfl, fun _ => rfl, fun _ => rfl, by omega, gg1, h.out.below hp⟩
    kernel_rfl
  · intro p a v hJ
    replace hJ := oy0J3_5 hJ
    refine Exists.elim hJ (fun y6 hJ => ?_)
    refine Exists.elim hJ (fun z1 hJ => ?_)
    have ha := hJ.1
    have gg1 := hJ.2.1
    have h := hJ.2.2
    clear hJ
    subst ha
    refine ⟨_, .agg #[.float .f64 pl, .float .f64 ph, .float .f64 ql, .float .f64 qh, .float .f64 xl, .float .f64 xh, .float .f64 yl, .float .f64 yh, .float .f64 zl, .float .f64 zh], rfl, Or.inl ⟨by rfl, ?_⟩, (fun _ _ _ h => h), _, _, _, _, _, _, z1, ?_, fun _ => rfl, fun _ => rfl, fun _ => rfl, fun _ => rfl, fun _ => rfl, fun _ => rfl, gg1, h⟩
    · intro w hSw; clear hSw h; go_simp; try with_reducible rfl
    · kernel_rfl
  · intro k p a v hp hJ
    refine op_step (o := _) rfl (fun K hK => ?_)
    obtain ⟨y1, y2, y3, y4, y5, y6, z1, ha, ee1, ee2, ee3, ee4, ee5, ee6, gg1, h⟩ := hJ
    have h := Lib.hid h
    subst ha
    go_simp
    refine hK.out _ _ ⟨v.heap.size, y1, y2, y3, y4, y5, y6, .pointer (some ⟨v.heap.size, 0, none⟩), ?_, ee1, ee2, ee3, ee4, ee5, ee6, fun q hq => ptr_set hq, h.out.alloc hp rfl _⟩
    kernel_rfl
  intro p3_1 a v hJ
  obtain ⟨rfl, h⟩ := oy0J3_fin hJ
  clear hJ
  replace M := Lib.hid h.fin1
  clear h
  refine tails_one (T := []) (i := 22) (o := _) rfl (by kernel_rfl) (fun K hK => ?_)
  have kc := (M.out.nth 0 rfl).2.1
  have kf := (M.out.nth 0 rfl).2.2
  replace M : Hid (Own w [(p3_1, #[.float .f64 pl, .float .f64 0, .float .f64 0, .float .f64 0, .float .f64 0, .float .f64 0, .float .f64 0, .float .f64 0, .float .f64 0, .float .f64 0]), (w1_.heap.size, #[.float .f64 rl, .float .f64 rh, .float .f64 sl, .float .f64 sh, .float .f64 il, .float .f64 ih, .float .f64 ol, .float .f64 oh, .float .f64 dl, .float .f64 dh]), ((w.heap.size + 1), #[.int .u32 v0, .int .u32 v1, .int .u32 v2, .int .u32 v3, .int .u32 v4, .int .u32 v5, .int .u32 v6, .int .u32 v7, .int .u32 v8, .int .u32 v9]), (w.heap.size, #[.int .u32 u0, .int .u32 u1, .int .u32 u2, .int .u32 u3, .int .u32 u4, .int .u32 u5, .int .u32 u6, .int .u32 u7, .int .u32 u8, .int .u32 u9])] _) := Lib.hid ((M.out.setIn 0 rfl 0 (.float .f64 pl)).to (by rfl))
  replace M : Hid (Own w [(p3_1, #[.float .f64 pl, .float .f64 ph, .float .f64 0, .float .f64 0, .float .f64 0, .float .f64 0, .float .f64 0, .float .f64 0, .float .f64 0, .float .f64 0]), (w1_.heap.size, #[.float .f64 rl, .float .f64 rh, .float .f64 sl, .float .f64 sh, .float .f64 il, .float .f64 ih, .float .f64 ol, .float .f64 oh, .float .f64 dl, .float .f64 dh]), ((w.heap.size + 1), #[.int .u32 v0, .int .u32 v1, .int .u32 v2, .int .u32 v3, .int .u32 v4, .int .u32 v5, .int .u32 v6, .int .u32 v7, .int .u32 v8, .int .u32 v9]), (w.heap.size, #[.int .u32 u0, .int .u32 u1, .int .u32 u2, .int .u32 u3, .int .u32 u4, .int .u32 u5, .int .u32 u6, .int .u32 u7, .int .u32 u8, .int .u32 u9])] _) := Lib.hid ((M.out.setIn 0 rfl 1 (.float .f64 ph)).to (by rfl))
  replace M : Hid (Own w [(p3_1, #[.float .f64 pl, .float .f64 ph, .float .f64 ql, .float .f64 0, .float .f64 0, .float .f64 0, .float .f64 0, .float .f64 0, .float .f64 0, .float .f64 0]), (w1_.heap.size, #[.float .f64 rl, .float .f64 rh, .float .f64 sl, .float .f64 sh, .float .f64 il, .float .f64 ih, .float .f64 ol, .float .f64 oh, .float .f64 dl, .float .f64 dh]), ((w.heap.size + 1), #[.int .u32 v0, .int .u32 v1, .int .u32 v2, .int .u32 v3, .int .u32 v4, .int .u32 v5, .int .u32 v6, .int .u32 v7, .int .u32 v8, .int .u32 v9]), (w.heap.size, #[.int .u32 u0, .int .u32 u1, .int .u32 u2, .int .u32 u3, .int .u32 u4, .int .u32 u5, .int .u32 u6, .int .u32 u7, .int .u32 u8, .int .u32 u9])] _) := Lib.hid ((M.out.setIn 0 rfl 2 (.float .f64 ql)).to (by rfl))
  replace M : Hid (Own w [(p3_1, #[.float .f64 pl, .float .f64 ph, .float .f64 ql, .float .f64 qh, .float .f64 0, .float .f64 0, .float .f64 0, .float .f64 0, .float .f64 0, .float .f64 0]), (w1_.heap.size, #[.float .f64 rl, .float .f64 rh, .float .f64 sl, .float .f64 sh, .float .f64 il, .float .f64 ih, .float .f64 ol, .float .f64 oh, .float .f64 dl, .float .f64 dh]), ((w.heap.size + 1), #[.int .u32 v0, .int .u32 v1, .int .u32 v2, .int .u32 v3, .int .u32 v4, .int .u32 v5, .int .u32 v6, .int .u32 v7, .int .u32 v8, .int .u32 v9]), (w.heap.size, #[.int .u32 u0, .int .u32 u1, .int .u32 u2, .int .u32 u3, .int .u32 u4, .int .u32 u5, .int .u32 u6, .int .u32 u7, .int .u32 u8, .int .u32 u9])] _) := Lib.hid ((M.out.setIn 0 rfl 3 (.float .f64 qh)).to (by rfl))
  replace M : Hid (Own w [(p3_1, #[.float .f64 pl, .float .f64 ph, .float .f64 ql, .float .f64 qh, .float .f64 xl, .float .f64 0, .float .f64 0, .float .f64 0, .float .f64 0, .float .f64 0]), (w1_.heap.size, #[.float .f64 rl, .float .f64 rh, .float .f64 sl, .float .f64 sh, .float .f64 il, .float .f64 ih, .float .f64 ol, .float .f64 oh, .float .f64 dl, .float .f64 dh]), ((w.heap.size + 1), #[.int .u32 v0, .int .u32 v1, .int .u32 v2, .int .u32 v3, .int .u32 v4, .int .u32 v5, .int .u32 v6, .int .u32 v7, .int .u32 v8, .int .u32 v9]), (w.heap.size, #[.int .u32 u0, .int .u32 u1, .int .u32 u2, .int .u32 u3, .int .u32 u4, .int .u32 u5, .int .u32 u6, .int .u32 u7, .int .u32 u8, .int .u32 u9])] _) := Lib.hid ((M.out.setIn 0 rfl 4 (.float .f64 xl)).to (by rfl))
  replace M : Hid (Own w [(p3_1, #[.float .f64 pl, .float .f64 ph, .float .f64 ql, .float .f64 qh, .float .f64 xl, .float .f64 xh, .float .f64 0, .float .f64 0, .float .f64 0, .float .f64 0]), (w1_.heap.size, #[.float .f64 rl, .float .f64 rh, .float .f64 sl, .float .f64 sh, .float .f64 il, .float .f64 ih, .float .f64 ol, .float .f64 oh, .float .f64 dl, .float .f64 dh]), ((w.heap.size + 1), #[.int .u32 v0, .int .u32 v1, .int .u32 v2, .int .u32 v3, .int .u32 v4, .int .u32 v5, .int .u32 v6, .int .u32 v7, .int .u32 v8, .int .u32 v9]), (w.heap.size, #[.int .u32 u0, .int .u32 u1, .int .u32 u2, .int .u32 u3, .int .u32 u4, .int .u32 u5, .int .u32 u6, .int .u32 u7, .int .u32 u8, .int .u32 u9])] _) := Lib.hid ((M.out.setIn 0 rfl 5 (.float .f64 xh)).to (by rfl))
  replace M : Hid (Own w [(p3_1, #[.float .f64 pl, .float .f64 ph, .float .f64 ql, .float .f64 qh, .float .f64 xl, .float .f64 xh, .float .f64 yl, .float .f64 0, .float .f64 0, .float .f64 0]), (w1_.heap.size, #[.float .f64 rl, .float .f64 rh, .float .f64 sl, .float .f64 sh, .float .f64 il, .float .f64 ih, .float .f64 ol, .float .f64 oh, .float .f64 dl, .float .f64 dh]), ((w.heap.size + 1), #[.int .u32 v0, .int .u32 v1, .int .u32 v2, .int .u32 v3, .int .u32 v4, .int .u32 v5, .int .u32 v6, .int .u32 v7, .int .u32 v8, .int .u32 v9]), (w.heap.size, #[.int .u32 u0, .int .u32 u1, .int .u32 u2, .int .u32 u3, .int .u32 u4, .int .u32 u5, .int .u32 u6, .int .u32 u7, .int .u32 u8, .int .u32 u9])] _) := Lib.hid ((M.out.setIn 0 rfl 6 (.float .f64 yl)).to (by rfl))
  replace M : Hid (Own w [(p3_1, #[.float .f64 pl, .float .f64 ph, .float .f64 ql, .float .f64 qh, .float .f64 xl, .float .f64 xh, .float .f64 yl, .float .f64 yh, .float .f64 0, .float .f64 0]), (w1_.heap.size, #[.float .f64 rl, .float .f64 rh, .float .f64 sl, .float .f64 sh, .float .f64 il, .float .f64 ih, .float .f64 ol, .float .f64 oh, .float .f64 dl, .float .f64 dh]), ((w.heap.size + 1), #[.int .u32 v0, .int .u32 v1, .int .u32 v2, .int .u32 v3, .int .u32 v4, .int .u32 v5, .int .u32 v6, .int .u32 v7, .int .u32 v8, .int .u32 v9]), (w.heap.size, #[.int .u32 u0, .int .u32 u1, .int .u32 u2, .int .u32 u3, .int .u32 u4, .int .u32 u5, .int .u32 u6, .int .u32 u7, .int .u32 u8, .int .u32 u9])] _) := Lib.hid ((M.out.setIn 0 rfl 7 (.float .f64 yh)).to (by rfl))
  replace M : Hid (Own w [(p3_1, #[.float .f64 pl, .float .f64 ph, .float .f64 ql, .float .f64 qh, .float .f64 xl, .float .f64 xh, .float .f64 yl, .float .f64 yh, .float .f64 zl, .float .f64 0]), (w1_.heap.size, #[.float .f64 rl, .float .f64 rh, .float .f64 sl, .float .f64 sh, .float .f64 il, .float .f64 ih, .float .f64 ol, .float .f64 oh, .float .f64 dl, .float .f64 dh]), ((w.heap.size + 1), #[.int .u32 v0, .int .u32 v1, .int .u32 v2, .int .u32 v3, .int .u32 v4, .int .u32 v5, .int .u32 v6, .int .u32 v7, .int .u32 v8, .int .u32 v9]), (w.heap.size, #[.int .u32 u0, .int .u32 u1, .int .u32 u2, .int .u32 u3, .int .u32 u4, .int .u32 u5, .int .u32 u6, .int .u32 u7, .int .u32 u8, .int .u32 u9])] _) := Lib.hid ((M.out.setIn 0 rfl 8 (.float .f64 zl)).to (by rfl))
  replace M : Hid (Own w [(p3_1, #[.float .f64 pl, .float .f64 ph, .float .f64 ql, .float .f64 qh, .float .f64 xl, .float .f64 xh, .float .f64 yl, .float .f64 yh, .float .f64 zl, .float .f64 zh]), (w1_.heap.size, #[.float .f64 rl, .float .f64 rh, .float .f64 sl, .float .f64 sh, .float .f64 il, .float .f64 ih, .float .f64 ol, .float .f64 oh, .float .f64 dl, .float .f64 dh]), ((w.heap.size + 1), #[.int .u32 v0, .int .u32 v1, .int .u32 v2, .int .u32 v3, .int .u32 v4, .int .u32 v5, .int .u32 v6, .int .u32 v7, .int .u32 v8, .int .u32 v9]), (w.heap.size, #[.int .u32 u0, .int .u32 u1, .int .u32 u2, .int .u32 u3, .int .u32 u4, .int .u32 u5, .int .u32 u6, .int .u32 u7, .int .u32 u8, .int .u32 u9])] _) := Lib.hid ((M.out.setIn 0 rfl 9 (.float .f64 zh)).to (by rfl))
  go_simp
  refine hK.out _ _ (Or.inr (M.out.nth 1 rfl).ten) (fun hHeld => ?_)
  clear hK K hHeld kc kf
  refine tails_done (by kernel_rfl) ?_ _
  refine NoPanic.normal ?_
  clear hS
  revert M
  generalize ((((((((((v.setCell ⟨p3_1, 0, none⟩ (.float .f64 pl)).setCell ⟨p3_1, 1, none⟩ (.float .f64 ph)).setCell ⟨p3_1, 2, none⟩ (.float .f64 ql)).setCell ⟨p3_1, 3, none⟩ (.float .f64 qh)).setCell ⟨p3_1, 4, none⟩ (.float .f64 xl)).setCell ⟨p3_1, 5, none⟩ (.float .f64 xh)).setCell ⟨p3_1, 6, none⟩ (.float .f64 yl)).setCell ⟨p3_1, 7, none⟩ (.float .f64 yh)).setCell ⟨p3_1, 8, none⟩ (.float .f64 zl)).setCell ⟨p3_1, 9, none⟩ (.float .f64 zh)) = W3_
  intro M
  obtain ⟨k1, k2, k3, k4, k5, k6, k7, k8, k9, k10⟩ := (M.out.nth 1 rfl).ten
  go_wp2_with fail
  refine (c7.out _).mono ?_
  rintro r w4_ ⟨rfl, hb⟩
  replace M := Lib.hid (M.out.below hb)
  clear hb
  clear k1 k2 k3 k4 k5 k6 k7 k8 k9 k10
  replace M := Lib.hid (M.out.made #[.float .f64 al, .float .f64 ah] 24)
  obtain ⟨k1, k2, k3, k4, k5, k6, k7, k8, k9, k10⟩ := (M.out.nth 1 rfl).ten
  go_wp2_with fail
  refine (c8.out _).mono ?_
  rintro r w5_ ⟨rfl, hb⟩
  replace M := Lib.hid (M.out.below hb)
  clear hb
  clear k1 k2 k3 k4 k5 k6 k7 k8 k9 k10
  replace M := Lib.hid (M.out.made #[.float .f64 bl, .float .f64 bh] 24)
  obtain ⟨k1, k2, k3, k4, k5, k6, k7, k8, k9, k10⟩ := (M.out.nth 3 rfl).ten
  go_wp2_with fail
  refine (c9.out _).mono ?_
  rintro r w6_ ⟨rfl, hb⟩
  replace M := Lib.hid (M.out.below hb)
  clear hb
  clear k1 k2 k3 k4 k5 k6 k7 k8 k9 k10
  replace M := Lib.hid (M.out.made #[.float .f64 cl, .float .f64 ch] 24)
  obtain ⟨k1, k2, k3, k4, k5, k6, k7, k8, k9, k10⟩ := (M.out.nth 3 rfl).ten
  go_wp2_with fail
  refine (c10.out _).mono ?_
  rintro r w7_ ⟨rfl, hb⟩
  replace M := Lib.hid (M.out.below hb)
  clear hb
  clear k1 k2 k3 k4 k5 k6 k7 k8 k9 k10
  replace M := Lib.hid (M.out.made #[.float .f64 ml, .float .f64 mh] 24)
  obtain ⟨k1, k2⟩ := (M.out.nth 2 rfl).two
  obtain ⟨k3, k4⟩ := (M.out.nth 3 rfl).two
  go_wp2_with fail
  refine (c11.out _).mono ?_
  rintro r w8_ ⟨rfl, hb⟩
  replace M := Lib.hid (M.out.below hb)
  clear hb
  clear k1 k2 k3 k4
  obtain ⟨k1, k2⟩ := (M.out.nth 0 rfl).two
  obtain ⟨k3, k4⟩ := (M.out.nth 1 rfl).two
  go_wp2_with fail
  refine (c12.out _).mono ?_
  rintro r w9_ ⟨rfl, hb⟩
  replace M := Lib.hid (M.out.below hb)
  clear hb
  clear k1 k2 k3 k4
  obtain ⟨k1, k2, k3, k4, k5, k6, k7, k8, k9, k10⟩ := (M.out.nth 5 rfl).ten
  go_wp2_with fail
  refine (c13.out _).mono ?_
  rintro r w10_ ⟨rfl, hb⟩
  replace M := Lib.hid (M.out.below hb)
  clear hb
  clear k1 k2 k3 k4 k5 k6 k7 k8 k9 k10
  replace M := Lib.hid (M.out.made #[.float .f64 nl, .float .f64 nh] 24)
  replace M := Lib.hid (M.out.made #[.float .f64 tl, .float .f64 th] 24)
  simp only [World.size_alloc] at M
  obtain ⟨k1, k2, k3, k4, k5, k6, k7, k8, k9, k10⟩ := (M.out.nth 6 rfl).ten
  go_wp2_with fail
  refine (c14.out _).mono ?_
  rintro r w11_ ⟨rfl, hb⟩
  replace M := Lib.hid (M.out.below hb)
  clear hb
  clear k1 k2 k3 k4 k5 k6 k7 k8 k9 k10
  replace M := Lib.hid (M.out.made #[.float .f64 jl, .float .f64 jh] 24)
  replace M := Lib.hid (M.out.made #[.float .f64 kl, .float .f64 kh] 24)
  simp only [World.size_alloc] at M
  obtain ⟨k1, k2⟩ := (M.out.nth 3 rfl).two
  go_wp2_with fail
  refine (c15.out _).mono ?_
  rintro r w12_ ⟨rfl, hb⟩
  replace M := Lib.hid (M.out.below hb)
  clear hb
  clear k1 k2
  obtain ⟨k1, k2⟩ := (M.out.nth 0 rfl).two
  obtain ⟨k3, k4⟩ := (M.out.nth 2 rfl).two
  go_wp2_with fail
  refine (c16.out _).mono ?_
  rintro r w13_ ⟨rfl, hb⟩
  replace M := Lib.hid (M.out.below hb)
  clear hb
  clear k1 k2 k3 k4
  go_wp2_with fail
  refine (c17.out _).mono ?_
  rintro r w14_ ⟨rfl, hb⟩
  replace M := Lib.hid (M.out.below hb)
  clear hb
  go_wp2
  go_ret
  exact ⟨rfl, M.out.base⟩

/-- Region 3. -/
def oy1J3 (w : World) (pl ph ql qh xl xh yl yh zl zh : Nat) (l : RowL) (a0 : Act) (k : Nat) (p : List (Option Nat)) (a : Act) (v : World) : Prop :=
  ∃ y1 y2 y3 y4 y5 y6 z1 : Value, a = (((((((a0.put (some 28) y1).put (some 32) y2).put (some 36) y3).put (some 40) y4).put (some 44) y5).put (some 45) y6).put (some 7) z1) ∧ (0 < k → y1 = .agg #[.float .f64 pl, .float .f64 ph]) ∧ (1 < k → y2 = .agg #[.float .f64 ql, .float .f64 qh]) ∧ (2 < k → y3 = .agg #[.float .f64 xl, .float .f64 xh]) ∧ (3 < k → y4 = .agg #[.float .f64 yl, .float .f64 yh]) ∧ (4 < k → y5 = .agg #[.float .f64 zl, .float .f64 zh]) ∧ (5 < k → y6 = .agg #[.float .f64 pl, .float .f64 ph, .float .f64 ql, .float .f64 qh, .float .f64 xl, .float .f64 xh, .float .f64 yl, .float .f64 yh, .float .f64 zl, .float .f64 zh]) ∧ (∀ q, p[0]? = some (some q) → z1 = .pointer (some ⟨q, 0, none⟩)) ∧ OwnF w l [#[.float .f64 0, .float .f64 0, .float .f64 0, .float .f64 0, .float .f64 0, .float .f64 0, .float .f64 0, .float .f64 0, .float .f64 0, .float .f64 0]] p v
section
variable {w v : World} {pl ph ql qh xl xh yl yh zl zh : Nat} {l : RowL} {a0 a : Act} {p : List (Option Nat)}
theorem oy1J3_0 (h : oy1J3 w pl ph ql qh xl xh yl yh zl zh l a0 0 p a v) : ∃ y1 y2 y3 y4 y5 y6 z1 : Value, a = (((((((a0.put (some 28) y1).put (some 32) y2).put (some 36) y3).put (some 40) y4).put (some 44) y5).put (some 45) y6).put (some 7) z1) ∧ (∀ q, p[0]? = some (some q) → z1 = .pointer (some ⟨q, 0, none⟩)) ∧ OwnF w l [#[.float .f64 0, .float .f64 0, .float .f64 0, .float .f64 0, .float .f64 0, .float .f64 0, .float .f64 0, .float .f64 0, .float .f64 0, .float .f64 0]] p v := by
  obtain ⟨y1, y2, y3, y4, y5, y6, z1, ha, E1, E2, E3, E4, E5, E6, G1, h⟩ := h
  exact ⟨y1, y2, y3, y4, y5, y6, z1, ha, G1, h⟩
theorem oy1J3_1 (h : oy1J3 w pl ph ql qh xl xh yl yh zl zh l a0 1 p a v) : ∃ y2 y3 y4 y5 y6 z1 : Value, a = (((((((a0.put (some 28) (.agg #[.float .f64 pl, .float .f64 ph])).put (some 32) y2).put (some 36) y3).put (some 40) y4).put (some 44) y5).put (some 45) y6).put (some 7) z1) ∧ (∀ q, p[0]? = some (some q) → z1 = .pointer (some ⟨q, 0, none⟩)) ∧ OwnF w l [#[.float .f64 0, .float .f64 0, .float .f64 0, .float .f64 0, .float .f64 0, .float .f64 0, .float .f64 0, .float .f64 0, .float .f64 0, .float .f64 0]] p v := by
  obtain ⟨y1, y2, y3, y4, y5, y6, z1, ha, E1, E2, E3, E4, E5, E6, G1, h⟩ := h
  obtain rfl := E1 (by decide)
  exact ⟨y2, y3, y4, y5, y6, z1, ha, G1, h⟩
theorem oy1J3_2 (h : oy1J3 w pl ph ql qh xl xh yl yh zl zh l a0 2 p a v) : ∃ y3 y4 y5 y6 z1 : Value, a = (((((((a0.put (some 28) (.agg #[.float .f64 pl, .float .f64 ph])).put (some 32) (.agg #[.float .f64 ql, .float .f64 qh])).put (some 36) y3).put (some 40) y4).put (some 44) y5).put (some 45) y6).put (some 7) z1) ∧ (∀ q, p[0]? = some (some q) → z1 = .pointer (some ⟨q, 0, none⟩)) ∧ OwnF w l [#[.float .f64 0, .float .f64 0, .float .f64 0, .float .f64 0, .float .f64 0, .float .f64 0, .float .f64 0, .float .f64 0, .float .f64 0, .float .f64 0]] p v := by
  obtain ⟨y1, y2, y3, y4, y5, y6, z1, ha, E1, E2, E3, E4, E5, E6, G1, h⟩ := h
  obtain rfl := E1 (by decide)
  obtain rfl := E2 (by decide)
  exact ⟨y3, y4, y5, y6, z1, ha, G1, h⟩
theorem oy1J3_3 (h : oy1J3 w pl ph ql qh xl xh yl yh zl zh l a0 3 p a v) : ∃ y4 y5 y6 z1 : Value, a = (((((((a0.put (some 28) (.agg #[.float .f64 pl, .float .f64 ph])).put (some 32) (.agg #[.float .f64 ql, .float .f64 qh])).put (some 36) (.agg #[.float .f64 xl, .float .f64 xh])).put (some 40) y4).put (some 44) y5).put (some 45) y6).put (some 7) z1) ∧ (∀ q, p[0]? = some (some q) → z1 = .pointer (some ⟨q, 0, none⟩)) ∧ OwnF w l [#[.float .f64 0, .float .f64 0, .float .f64 0, .float .f64 0, .float .f64 0, .float .f64 0, .float .f64 0, .float .f64 0, .float .f64 0, .float .f64 0]] p v := by
  obtain ⟨y1, y2, y3, y4, y5, y6, z1, ha, E1, E2, E3, E4, E5, E6, G1, h⟩ := h
  obtain rfl := E1 (by decide)
  obtain rfl := E2 (by decide)
  obtain rfl := E3 (by decide)
  exact ⟨y4, y5, y6, z1, ha, G1, h⟩
theorem oy1J3_4 (h : oy1J3 w pl ph ql qh xl xh yl yh zl zh l a0 4 p a v) : ∃ y5 y6 z1 : Value, a = (((((((a0.put (some 28) (.agg #[.float .f64 pl, .float .f64 ph])).put (some 32) (.agg #[.float .f64 ql, .float .f64 qh])).put (some 36) (.agg #[.float .f64 xl, .float .f64 xh])).put (some 40) (.agg #[.float .f64 yl, .float .f64 yh])).put (some 44) y5).put (some 45) y6).put (some 7) z1) ∧ (∀ q, p[0]? = some (some q) → z1 = .pointer (some ⟨q, 0, none⟩)) ∧ OwnF w l [#[.float .f64 0, .float .f64 0, .float .f64 0, .float .f64 0, .float .f64 0, .float .f64 0, .float .f64 0, .float .f64 0, .float .f64 0, .float .f64 0]] p v := by
  obtain ⟨y1, y2, y3, y4, y5, y6, z1, ha, E1, E2, E3, E4, E5, E6, G1, h⟩ := h
  obtain rfl := E1 (by decide)
  obtain rfl := E2 (by decide)
  obtain rfl := E3 (by decide)
  obtain rfl := E4 (by decide)
  exact ⟨y5, y6, z1, ha, G1, h⟩
theorem oy1J3_5 (h : oy1J3 w pl ph ql qh xl xh yl yh zl zh l a0 5 p a v) : ∃ y6 z1 : Value, a = (((((((a0.put (some 28) (.agg #[.float .f64 pl, .float .f64 ph])).put (some 32) (.agg #[.float .f64 ql, .float .f64 qh])).put (some 36) (.agg #[.float .f64 xl, .float .f64 xh])).put (some 40) (.agg #[.float .f64 yl, .float .f64 yh])).put (some 44) (.agg #[.float .f64 zl, .float .f64 zh])).put (some 45) y6).put (some 7) z1) ∧ (∀ q, p[0]? = some (some q) → z1 = .pointer (some ⟨q, 0, none⟩)) ∧ OwnF w l [#[.float .f64 0, .float .f64 0, .float .f64 0, .float .f64 0, .float .f64 0, .float .f64 0, .float .f64 0, .float .f64 0, .float .f64 0, .float .f64 0]] p v := by
  obtain ⟨y1, y2, y3, y4, y5, y6, z1, ha, E1, E2, E3, E4, E5, E6, G1, h⟩ := h
  obtain rfl := E1 (by decide)
  obtain rfl := E2 (by decide)
  obtain rfl := E3 (by decide)
  obtain rfl := E4 (by decide)
  obtain rfl := E5 (by decide)
  exact ⟨y6, z1, ha, G1, h⟩
theorem oy1J3_fin {q1 : Nat} (h : oy1J3 w pl ph ql qh xl xh yl yh zl zh l a0 6 [some q1] a v) : a = (((((((a0.put (some 28) (.agg #[.float .f64 pl, .float .f64 ph])).put (some 32) (.agg #[.float .f64 ql, .float .f64 qh])).put (some 36) (.agg #[.float .f64 xl, .float .f64 xh])).put (some 40) (.agg #[.float .f64 yl, .float .f64 yh])).put (some 44) (.agg #[.float .f64 zl, .float .f64 zh])).put (some 45) (.agg #[.float .f64 pl, .float .f64 ph, .float .f64 ql, .float .f64 qh, .float .f64 xl, .float .f64 xh, .float .f64 yl, .float .f64 yh, .float .f64 zl, .float .f64 zh])).put (some 7) (.pointer (some ⟨q1, 0, none⟩))) ∧ OwnF w l [#[.float .f64 0, .float .f64 0, .float .f64 0, .float .f64 0, .float .f64 0, .float .f64 0, .float .f64 0, .float .f64 0, .float .f64 0, .float .f64 0]] [some q1] v := by
  obtain ⟨y1, y2, y3, y4, y5, y6, z1, ha, E1, E2, E3, E4, E5, E6, G1, h⟩ := h
  obtain rfl := E1 (by decide)
  obtain rfl := E2 (by decide)
  obtain rfl := E3 (by decide)
  obtain rfl := E4 (by decide)
  obtain rfl := E5 (by decide)
  obtain rfl := E6 (by decide)
  obtain rfl := G1 _ rfl
  exact ⟨ha, h⟩
end

set_option maxRecDepth 100000 in
set_option maxHeartbeats 16000000 in
theorem owith_err {u0 u1 u2 u3 u4 u5 u6 u7 u8 u9 v0 v1 v2 v3 v4 v5 v6 v7 v8 v9 rl rh sl sh il ih ol oh dl dh pl ph ql qh xl xh yl yh zl zh al ah bl bh cl ch ml mh nl nh tl th jl jh kl kh : Nat} {e f g : Int} (w : World)
    (c1 : Hid (∀ w, Calls Try.prog 33 #[.agg #[.int .u32 u0, .int .u32 u1, .int .u32 u2, .int .u32 u3, .int .u32 u4, .int .u32 u5, .int .u32 u6, .int .u32 u7, .int .u32 u8, .int .u32 u9]] w fun r w' => r = .returned (.agg #[.float .f64 rl, .float .f64 rh, .float .f64 sl, .float .f64 sh, .float .f64 il, .float .f64 ih, .float .f64 ol, .float .f64 oh, .float .f64 dl, .float .f64 dh]) ∧ Below w.heap.size w w'))
    (c2 : Hid (∀ (q : Nat) (v : World), Has1 v (q, #[.int .u32 v0, .int .u32 v1, .int .u32 v2, .int .u32 v3, .int .u32 v4, .int .u32 v5, .int .u32 v6, .int .u32 v7, .int .u32 v8, .int .u32 v9]) → Calls Try.prog 39 #[.agg #[.float .f64 rl, .float .f64 rh], .int .i64 0, .pointer (some ⟨q, 0, none⟩)] v fun r w' => r = .returned (.agg #[.float .f64 pl, .float .f64 ph]) ∧ Below v.heap.size v w'))
    (c3 : Hid (∀ (q : Nat) (v : World), Has1 v (q, #[.int .u32 v0, .int .u32 v1, .int .u32 v2, .int .u32 v3, .int .u32 v4, .int .u32 v5, .int .u32 v6, .int .u32 v7, .int .u32 v8, .int .u32 v9]) → Calls Try.prog 39 #[.agg #[.float .f64 sl, .float .f64 sh], .int .i64 2, .pointer (some ⟨q, 0, none⟩)] v fun r w' => r = .returned (.agg #[.float .f64 ql, .float .f64 qh]) ∧ Below v.heap.size v w'))
    (c4 : Hid (∀ (q : Nat) (v : World), Has1 v (q, #[.int .u32 v0, .int .u32 v1, .int .u32 v2, .int .u32 v3, .int .u32 v4, .int .u32 v5, .int .u32 v6, .int .u32 v7, .int .u32 v8, .int .u32 v9]) → Calls Try.prog 39 #[.agg #[.float .f64 il, .float .f64 ih], .int .i64 4, .pointer (some ⟨q, 0, none⟩)] v fun r w' => r = .returned (.agg #[.float .f64 xl, .float .f64 xh]) ∧ Below v.heap.size v w'))
    (c5 : Hid (∀ (q : Nat) (v : World), Has1 v (q, #[.int .u32 v0, .int .u32 v1, .int .u32 v2, .int .u32 v3, .int .u32 v4, .int .u32 v5, .int .u32 v6, .int .u32 v7, .int .u32 v8, .int .u32 v9]) → Calls Try.prog 39 #[.agg #[.float .f64 ol, .float .f64 oh], .int .i64 6, .pointer (some ⟨q, 0, none⟩)] v fun r w' => r = .returned (.agg #[.float .f64 yl, .float .f64 yh]) ∧ Below v.heap.size v w'))
    (c6 : Hid (∀ (q : Nat) (v : World), Has1 v (q, #[.int .u32 v0, .int .u32 v1, .int .u32 v2, .int .u32 v3, .int .u32 v4, .int .u32 v5, .int .u32 v6, .int .u32 v7, .int .u32 v8, .int .u32 v9]) → Calls Try.prog 39 #[.agg #[.float .f64 dl, .float .f64 dh], .int .i64 8, .pointer (some ⟨q, 0, none⟩)] v fun r w' => r = .returned (.agg #[.float .f64 zl, .float .f64 zh]) ∧ Below v.heap.size v w'))
    (c7 : Hid (∀ w, Calls Try.prog 34 #[.agg #[.float .f64 rl, .float .f64 rh, .float .f64 sl, .float .f64 sh, .float .f64 il, .float .f64 ih, .float .f64 ol, .float .f64 oh, .float .f64 dl, .float .f64 dh]] w fun r w' => r = .returned (.tuple #[.agg #[.float .f64 al, .float .f64 ah], .int .i64 e]) ∧ Below w.heap.size w w'))
    (c8 : Hid (∀ w, Calls Try.prog 34 #[.agg #[.float .f64 pl, .float .f64 ph, .float .f64 ql, .float .f64 qh, .float .f64 xl, .float .f64 xh, .float .f64 yl, .float .f64 yh, .float .f64 zl, .float .f64 zh]] w fun r w' => r = .returned (.tuple #[.agg #[.float .f64 bl, .float .f64 bh], .int .i64 f]) ∧ Below w.heap.size w w'))
    (c9 : Hid (∀ w, Calls Try.prog 41 #[.agg #[.float .f64 il, .float .f64 ih], .agg #[.float .f64 ol, .float .f64 oh], .agg #[.float .f64 dl, .float .f64 dh]] w fun r w' => r = .returned (.tuple #[.agg #[.float .f64 cl, .float .f64 ch], .int .i64 e]) ∧ Below w.heap.size w w'))
    (c10 : Hid (∀ w, Calls Try.prog 41 #[.agg #[.float .f64 xl, .float .f64 xh], .agg #[.float .f64 yl, .float .f64 yh], .agg #[.float .f64 zl, .float .f64 zh]] w fun r w' => r = .returned (.tuple #[.agg #[.float .f64 ml, .float .f64 mh], .int .i64 g]) ∧ Below w.heap.size w w'))
    (c11 : Hid (∀ w, Calls Try.prog 43 #[.agg #[.float .f64 sl, .float .f64 sh]] w fun r w' => r = .returned (.tuple #[.agg #[.float .f64 nl, .float .f64 nh], .agg #[.float .f64 tl, .float .f64 th], .int .i64 0]) ∧ Below w.heap.size w w'))
    (c12 : Hid (∀ w, Calls Try.prog 43 #[.agg #[.float .f64 ql, .float .f64 qh]] w fun r w' => r = .returned (.tuple #[.agg #[.float .f64 jl, .float .f64 jh], .agg #[.float .f64 kl, .float .f64 kh], .int .i64 0]) ∧ Below w.heap.size w w'))
    (c13 : Hid (∀ w, Calls Try.prog 42 #[.agg #[.float .f64 jl, .float .f64 jh], .agg #[.float .f64 nl, .float .f64 nh]] w fun r w' => r = .returned (.bool true) ∧ Below w.heap.size w w'))
    (c14 : Hid (∀ w, Calls Try.prog 42 #[.agg #[.float .f64 kl, .float .f64 kh], .agg #[.float .f64 tl, .float .f64 th]] w fun r w' => r = .returned (.bool true) ∧ Below w.heap.size w w'))
    (c15 : Hid (∀ w, Calls Try.prog 38 #[] w fun r w' => r = .returned (.bool true) ∧ Below w.heap.size w w'))
    (ne3 : (e == 0) = false) :
    Calls Try.prog 7 #[.agg #[.int .u32 u0, .int .u32 u1, .int .u32 u2, .int .u32 u3, .int .u32 u4, .int .u32 u5, .int .u32 u6, .int .u32 u7, .int .u32 u8, .int .u32 u9], .agg #[.int .u32 v0, .int .u32 v1, .int .u32 v2, .int .u32 v3, .int .u32 v4, .int .u32 v5, .int .u32 v6, .int .u32 v7, .int .u32 v8, .int .u32 v9]] w fun r w' => r = .returned (.bool true) ∧ Below w.heap.size w w' := by
  have M := Lib.hid (((Own.nil w).made #[.int .u32 u0, .int .u32 u1, .int .u32 u2, .int .u32 u3, .int .u32 u4, .int .u32 u5, .int .u32 u6, .int .u32 u7, .int .u32 u8, .int .u32 u9] 57).made #[.int .u32 v0, .int .u32 v1, .int .u32 v2, .int .u32 v3, .int .u32 v4, .int .u32 v5, .int .u32 v6, .int .u32 v7, .int .u32 v8, .int .u32 v9] 57)
  simp only [World.size_alloc] at M
  have eqF := eq_floats
  go_enter Try.func7, Try.ntmps7
  obtain ⟨k1, k2, k3, k4, k5, k6, k7, k8, k9, k10⟩ := (M.out.nth 1 rfl).ten
  go_wp2_with fail
  refine (c1.out _).mono ?_
  rintro r w1_ ⟨rfl, hb⟩
  replace M := Lib.hid (M.out.below hb)
  clear hb
  clear k1 k2 k3 k4 k5 k6 k7 k8 k9 k10
  replace M := Lib.hid (M.out.made #[.float .f64 rl, .float .f64 rh, .float .f64 sl, .float .f64 sh, .float .f64 il, .float .f64 ih, .float .f64 ol, .float .f64 oh, .float .f64 dl, .float .f64 dh] 59)
  go_upto_region 3 with fail
  replace M := Lib.hid M.out.drew
  revert M
  generalize (w1_.alloc (.cells #[.float .f64 rl, .float .f64 rh, .float .f64 sl, .float .f64 sh, .float .f64 il, .float .f64 ih, .float .f64 ol, .float .f64 oh, .float .f64 dl, .float .f64 dh] 59)) = W2_
  intro M
  refine wp_region_noPanic ?_
  refine tails_region (S := fun w' => (w'.cell? ⟨w1_.heap.size, 0, none⟩ = some (.float .f64 rl) ∧ w'.cell? ⟨w1_.heap.size, 1, none⟩ = some (.float .f64 rh) ∧ w'.cell? ⟨w1_.heap.size, 2, none⟩ = some (.float .f64 sl) ∧ w'.cell? ⟨w1_.heap.size, 3, none⟩ = some (.float .f64 sh) ∧ w'.cell? ⟨w1_.heap.size, 4, none⟩ = some (.float .f64 il) ∧ w'.cell? ⟨w1_.heap.size, 5, none⟩ = some (.float .f64 ih) ∧ w'.cell? ⟨w1_.heap.size, 6, none⟩ = some (.float .f64 ol) ∧ w'.cell? ⟨w1_.heap.size, 7, none⟩ = some (.float .f64 oh) ∧ w'.cell? ⟨w1_.heap.size, 8, none⟩ = some (.float .f64 dl) ∧ w'.cell? ⟨w1_.heap.size, 9, none⟩ = some (.float .f64 dh))) [] (by kernel_rfl) ?_ (fun hS => ?_)
  · exact (M.out.nth 0 rfl).ten
  refine tk (x := ?_) 0 rfl (by kernel_rfl) ⟨by rfl, ?_⟩ (fun _ _ _ h => h) hS ?_
  rotate_left; focus (intro w hSw; (try dsimp only at hSw); go_simp; try with_reducible rfl)
  refine tk (x := ?_) 1 rfl (by kernel_rfl) ⟨by rfl, ?_⟩ (fun _ _ _ h => h) hS ?_
  rotate_left; focus (intro w hSw; (try dsimp only at hSw); go_simp; try with_reducible rfl)
  refine tk (x := ?_) 2 rfl (by kernel_rfl) ⟨by rfl, ?_⟩ (fun _ _ _ h => h) hS ?_
  rotate_left; focus (intro w hSw; (try dsimp only at hSw); go_simp; try with_reducible rfl)
  refine tk (x := ?_) 4 rfl (by kernel_rfl) ⟨by rfl, ?_⟩ (fun _ _ _ h => h) hS ?_
  rotate_left; focus (intro w hSw; (try dsimp only at hSw); go_simp; try with_reducible rfl)
  refine tk (x := ?_) 5 rfl (by kernel_rfl) ⟨by rfl, ?_⟩ (fun _ _ _ h => h) hS ?_
  rotate_left; focus (intro w hSw; (try dsimp only at hSw); go_simp; try with_reducible rfl)
  refine tk (x := ?_) 6 rfl (by kernel_rfl) ⟨by rfl, ?_⟩ (fun _ _ _ h => h) hS ?_
  rotate_left; focus (intro w hSw; (try dsimp only at hSw); go_simp; try with_reducible rfl)
  refine tk (x := ?_) 8 rfl (by kernel_rfl) ⟨by rfl, ?_⟩ (fun _ _ _ h => h) hS ?_
  rotate_left; focus (intro w hSw; (try dsimp only at hSw); go_simp; try with_reducible rfl)
  refine tk (x := ?_) 9 rfl (by kernel_rfl) ⟨by rfl, ?_⟩ (fun _ _ _ h => h) hS ?_
  rotate_left; focus (intro w hSw; (try dsimp only at hSw); go_simp; try with_reducible rfl)
  refine tk (x := ?_) 10 rfl (by kernel_rfl) ⟨by rfl, ?_⟩ (fun _ _ _ h => h) hS ?_
  rotate_left; focus (intro w hSw; (try dsimp only at hSw); go_simp; try with_reducible rfl)
  refine tk (x := ?_) 12 rfl (by kernel_rfl) ⟨by rfl, ?_⟩ (fun _ _ _ h => h) hS ?_
  rotate_left; focus (intro w hSw; (try dsimp only at hSw); go_simp; try with_reducible rfl)
  refine tk (x := ?_) 13 rfl (by kernel_rfl) ⟨by rfl, ?_⟩ (fun _ _ _ h => h) hS ?_
  rotate_left; focus (intro w hSw; (try dsimp only at hSw); go_simp; try with_reducible rfl)
  refine tk (x := ?_) 14 rfl (by kernel_rfl) ⟨by rfl, ?_⟩ (fun _ _ _ h => h) hS ?_
  rotate_left; focus (intro w hSw; (try dsimp only at hSw); go_simp; try with_reducible rfl)
  refine tk (x := ?_) 16 rfl (by kernel_rfl) ⟨by rfl, ?_⟩ (fun _ _ _ h => h) hS ?_
  rotate_left; focus (intro w hSw; (try dsimp only at hSw); go_simp; try with_reducible rfl)
  refine tk (x := ?_) 17 rfl (by kernel_rfl) ⟨by rfl, ?_⟩ (fun _ _ _ h => h) hS ?_
  rotate_left; focus (intro w hSw; (try dsimp only at hSw); go_simp; try with_reducible rfl)
  refine tk (x := ?_) 18 rfl (by kernel_rfl) ⟨by rfl, ?_⟩ (fun _ _ _ h => h) hS ?_
  rotate_left; focus (intro w hSw; (try dsimp only at hSw); go_simp; try with_reducible rfl)
  conv => arg 9; simp only [Act.put, go_sem]
  refine lp_cccccp_1 M 3 7 11 15 19 20 21 [28, 32, 36, 40, 44, 45, 7] 1 (oy1J3 w pl ph ql qh xl xh yl yh zl zh) (by kernel_rfl) (by kernel_rfl) ?_ ?_ ?_ ?_ ?_ ?_ ?_ ?_ ?_ ?_
  · intro A hA
    obtain ⟨y1, hq1⟩ := put_ex (hA 28 (by simp))
    obtain ⟨y2, hq2⟩ := put_ex (hA 32 (by simp))
    obtain ⟨y3, hq3⟩ := put_ex (hA 36 (by simp))
    obtain ⟨y4, hq4⟩ := put_ex (hA 40 (by simp))
    obtain ⟨y5, hq5⟩ := put_ex (hA 44 (by simp))
    obtain ⟨y6, hq6⟩ := put_ex (hA 45 (by simp))
    obtain ⟨z1, hq7⟩ := put_ex (hA 7 (by simp))
    exact ⟨y1, y2, y3, y4, y5, y6, z1, by rw [hq1, hq2, hq3, hq4, hq5, hq6, hq7], by omega, by omega, by omega, by omega, by omega, by omega, by simp, OwnF.start M.out 1⟩
  · rintro k p a v ⟨y1, y2, y3, y4, y5, y6, z1, _, _, _, _, _, _, _, _, h⟩
    exact (h.own.nth 0 rfl).ten
  · intro p a v hJ
    refine op_step (o := _) rfl (fun K hK => ?_)
    obtain ⟨y1, y2, y3, y4, y5, y6, z1, ha, gg1, h⟩ := oy1J3_0 hJ
    have h := Lib.hid h
    clear hJ
    subst ha
    go_simp
    refine (c2.out _ _ (h.out.own.nth 1 rfl)).mono ?_
    rintro rr w5 ⟨rfl, hp⟩
    try go_wp2_with fail
    refine hK.out _ _ ⟨_, y2, y3, y4, y5, y6, z1, ?_, fun _ => rfl, by omega, by omega, by omega, by omega, by omega, gg1, h.out.below hp⟩
    kernel_rfl
  · intro p a v hJ
    refine op_step (o := _) rfl (fun K hK => ?_)
    obtain ⟨y2, y3, y4, y5, y6, z1, ha, gg1, h⟩ := oy1J3_1 hJ
    have h := Lib.hid h
    clear hJ
    subst ha
    go_simp
    refine (c3.out _ _ (h.out.own.nth 1 rfl)).mono ?_
    rintro rr w5 ⟨rfl, hp⟩
    try go_wp2_with fail
    refine hK.out _ _ ⟨_, _, y3, y4, y5, y6, z1, ?_, fun _ => rfl, fun _ => rfl, by omega, by omega, by omega, by omega, gg1, h.out.below hp⟩
    kernel_rfl
  · intro p a v hJ
    refine op_step (o := _) rfl (fun K hK => ?_)
    obtain ⟨y3, y4, y5, y6, z1, ha, gg1, h⟩ := oy1J3_2 hJ
    have h := Lib.hid h
    clear hJ
    subst ha
    go_simp
    refine (c4.out _ _ (h.out.own.nth 1 rfl)).mono ?_
    rintro rr w5 ⟨rfl, hp⟩
    try go_wp2_with fail
    refine hK.out _ _ ⟨_, _, _, y4, y5, y6, z1, ?_, fun _ => rfl, fun _ => rfl, fun _ => rfl, by omega, by omega, by omega, gg1, h.out.below hp⟩
    kernel_rfl
  · intro p a v hJ
    refine op_step (o := _) rfl (fun K hK => ?_)
    obtain ⟨y4, y5, y6, z1, ha, gg1, h⟩ := oy1J3_3 hJ
    have h := Lib.hid h
    clear hJ
    subst ha
    go_simp
    refine (c5.out _ _ (h.out.own.nth 1 rfl)).mono ?_
    rintro rr w5 ⟨rfl, hp⟩
    try go_wp2_with fail
    refine hK.out _ _ ⟨_, _, _, _, y5, y6, z1, ?_, fun _ => rfl, fun _ => rfl, fun _ => rfl, fun _ => rfl, by omega, by omega, gg1, h.out.below hp⟩
    kernel_rfl
  · intro p a v hJ
    refine op_step (o := _) rfl (fun K hK => ?_)
    obtain ⟨y5, y6, z1, ha, gg1, h⟩ := oy1J3_4 hJ
    have h := Lib.hid h
    clear hJ
    subst ha
    go_simp
    refine (c6.out _ _ (h.out.own.nth 1 rfl)).mono ?_
    rintro rr w5 ⟨rfl, hp⟩
    try go_wp2_with fail
    refine hK.out _ _ ⟨_, _, _, _, _, y6, z1, ?_, fun _ => rfl, fun _ => rfl, fun _ => rfl, fun _ => rfl, fun _ => rfl, by omega, gg1, h.out.below hp⟩
    kernel_rfl
  · intro p a v hJ
    replace hJ := oy1J3_5 hJ
    refine Exists.elim hJ (fun y6 hJ => ?_)
    refine Exists.elim hJ (fun z1 hJ => ?_)
    have ha := hJ.1
    have gg1 := hJ.2.1
    have h := hJ.2.2
    clear hJ
    subst ha
    refine ⟨_, .agg #[.float .f64 pl, .float .f64 ph, .float .f64 ql, .float .f64 qh, .float .f64 xl, .float .f64 xh, .float .f64 yl, .float .f64 yh, .float .f64 zl, .float .f64 zh], rfl, Or.inl ⟨by rfl, ?_⟩, (fun _ _ _ h => h), _, _, _, _, _, _, z1, ?_, fun _ => rfl, fun _ => rfl, fun _ => rfl, fun _ => rfl, fun _ => rfl, fun _ => rfl, gg1, h⟩
    · intro w hSw; clear hSw h; go_simp; try with_reducible rfl
    · kernel_rfl
  · intro k p a v hp hJ
    refine op_step (o := _) rfl (fun K hK => ?_)
    obtain ⟨y1, y2, y3, y4, y5, y6, z1, ha, ee1, ee2, ee3, ee4, ee5, ee6, gg1, h⟩ := hJ
    have h := Lib.hid h
    subst ha
    go_simp
    refine hK.out _ _ ⟨v.heap.size, y1, y2, y3, y4, y5, y6, .pointer (some ⟨v.heap.size, 0, none⟩), ?_, ee1, ee2, ee3, ee4, ee5, ee6, fun q hq => ptr_set hq, h.out.alloc hp rfl _⟩
    kernel_rfl
  intro p3_1 a v hJ
  obtain ⟨rfl, h⟩ := oy1J3_fin hJ
  clear hJ
  replace M := Lib.hid h.fin1
  clear h
  refine tails_one (T := []) (i := 22) (o := _) rfl (by kernel_rfl) (fun K hK => ?_)
  have kc := (M.out.nth 0 rfl).2.1
  have kf := (M.out.nth 0 rfl).2.2
  replace M : Hid (Own w [(p3_1, #[.float .f64 pl, .float .f64 0, .float .f64 0, .float .f64 0, .float .f64 0, .float .f64 0, .float .f64 0, .float .f64 0, .float .f64 0, .float .f64 0]), (w1_.heap.size, #[.float .f64 rl, .float .f64 rh, .float .f64 sl, .float .f64 sh, .float .f64 il, .float .f64 ih, .float .f64 ol, .float .f64 oh, .float .f64 dl, .float .f64 dh]), ((w.heap.size + 1), #[.int .u32 v0, .int .u32 v1, .int .u32 v2, .int .u32 v3, .int .u32 v4, .int .u32 v5, .int .u32 v6, .int .u32 v7, .int .u32 v8, .int .u32 v9]), (w.heap.size, #[.int .u32 u0, .int .u32 u1, .int .u32 u2, .int .u32 u3, .int .u32 u4, .int .u32 u5, .int .u32 u6, .int .u32 u7, .int .u32 u8, .int .u32 u9])] _) := Lib.hid ((M.out.setIn 0 rfl 0 (.float .f64 pl)).to (by rfl))
  replace M : Hid (Own w [(p3_1, #[.float .f64 pl, .float .f64 ph, .float .f64 0, .float .f64 0, .float .f64 0, .float .f64 0, .float .f64 0, .float .f64 0, .float .f64 0, .float .f64 0]), (w1_.heap.size, #[.float .f64 rl, .float .f64 rh, .float .f64 sl, .float .f64 sh, .float .f64 il, .float .f64 ih, .float .f64 ol, .float .f64 oh, .float .f64 dl, .float .f64 dh]), ((w.heap.size + 1), #[.int .u32 v0, .int .u32 v1, .int .u32 v2, .int .u32 v3, .int .u32 v4, .int .u32 v5, .int .u32 v6, .int .u32 v7, .int .u32 v8, .int .u32 v9]), (w.heap.size, #[.int .u32 u0, .int .u32 u1, .int .u32 u2, .int .u32 u3, .int .u32 u4, .int .u32 u5, .int .u32 u6, .int .u32 u7, .int .u32 u8, .int .u32 u9])] _) := Lib.hid ((M.out.setIn 0 rfl 1 (.float .f64 ph)).to (by rfl))
  replace M : Hid (Own w [(p3_1, #[.float .f64 pl, .float .f64 ph, .float .f64 ql, .float .f64 0, .float .f64 0, .float .f64 0, .float .f64 0, .float .f64 0, .float .f64 0, .float .f64 0]), (w1_.heap.size, #[.float .f64 rl, .float .f64 rh, .float .f64 sl, .float .f64 sh, .float .f64 il, .float .f64 ih, .float .f64 ol, .float .f64 oh, .float .f64 dl, .float .f64 dh]), ((w.heap.size + 1), #[.int .u32 v0, .int .u32 v1, .int .u32 v2, .int .u32 v3, .int .u32 v4, .int .u32 v5, .int .u32 v6, .int .u32 v7, .int .u32 v8, .int .u32 v9]), (w.heap.size, #[.int .u32 u0, .int .u32 u1, .int .u32 u2, .int .u32 u3, .int .u32 u4, .int .u32 u5, .int .u32 u6, .int .u32 u7, .int .u32 u8, .int .u32 u9])] _) := Lib.hid ((M.out.setIn 0 rfl 2 (.float .f64 ql)).to (by rfl))
  replace M : Hid (Own w [(p3_1, #[.float .f64 pl, .float .f64 ph, .float .f64 ql, .float .f64 qh, .float .f64 0, .float .f64 0, .float .f64 0, .float .f64 0, .float .f64 0, .float .f64 0]), (w1_.heap.size, #[.float .f64 rl, .float .f64 rh, .float .f64 sl, .float .f64 sh, .float .f64 il, .float .f64 ih, .float .f64 ol, .float .f64 oh, .float .f64 dl, .float .f64 dh]), ((w.heap.size + 1), #[.int .u32 v0, .int .u32 v1, .int .u32 v2, .int .u32 v3, .int .u32 v4, .int .u32 v5, .int .u32 v6, .int .u32 v7, .int .u32 v8, .int .u32 v9]), (w.heap.size, #[.int .u32 u0, .int .u32 u1, .int .u32 u2, .int .u32 u3, .int .u32 u4, .int .u32 u5, .int .u32 u6, .int .u32 u7, .int .u32 u8, .int .u32 u9])] _) := Lib.hid ((M.out.setIn 0 rfl 3 (.float .f64 qh)).to (by rfl))
  replace M : Hid (Own w [(p3_1, #[.float .f64 pl, .float .f64 ph, .float .f64 ql, .float .f64 qh, .float .f64 xl, .float .f64 0, .float .f64 0, .float .f64 0, .float .f64 0, .float .f64 0]), (w1_.heap.size, #[.float .f64 rl, .float .f64 rh, .float .f64 sl, .float .f64 sh, .float .f64 il, .float .f64 ih, .float .f64 ol, .float .f64 oh, .float .f64 dl, .float .f64 dh]), ((w.heap.size + 1), #[.int .u32 v0, .int .u32 v1, .int .u32 v2, .int .u32 v3, .int .u32 v4, .int .u32 v5, .int .u32 v6, .int .u32 v7, .int .u32 v8, .int .u32 v9]), (w.heap.size, #[.int .u32 u0, .int .u32 u1, .int .u32 u2, .int .u32 u3, .int .u32 u4, .int .u32 u5, .int .u32 u6, .int .u32 u7, .int .u32 u8, .int .u32 u9])] _) := Lib.hid ((M.out.setIn 0 rfl 4 (.float .f64 xl)).to (by rfl))
  replace M : Hid (Own w [(p3_1, #[.float .f64 pl, .float .f64 ph, .float .f64 ql, .float .f64 qh, .float .f64 xl, .float .f64 xh, .float .f64 0, .float .f64 0, .float .f64 0, .float .f64 0]), (w1_.heap.size, #[.float .f64 rl, .float .f64 rh, .float .f64 sl, .float .f64 sh, .float .f64 il, .float .f64 ih, .float .f64 ol, .float .f64 oh, .float .f64 dl, .float .f64 dh]), ((w.heap.size + 1), #[.int .u32 v0, .int .u32 v1, .int .u32 v2, .int .u32 v3, .int .u32 v4, .int .u32 v5, .int .u32 v6, .int .u32 v7, .int .u32 v8, .int .u32 v9]), (w.heap.size, #[.int .u32 u0, .int .u32 u1, .int .u32 u2, .int .u32 u3, .int .u32 u4, .int .u32 u5, .int .u32 u6, .int .u32 u7, .int .u32 u8, .int .u32 u9])] _) := Lib.hid ((M.out.setIn 0 rfl 5 (.float .f64 xh)).to (by rfl))
  replace M : Hid (Own w [(p3_1, #[.float .f64 pl, .float .f64 ph, .float .f64 ql, .float .f64 qh, .float .f64 xl, .float .f64 xh, .float .f64 yl, .float .f64 0, .float .f64 0, .float .f64 0]), (w1_.heap.size, #[.float .f64 rl, .float .f64 rh, .float .f64 sl, .float .f64 sh, .float .f64 il, .float .f64 ih, .float .f64 ol, .float .f64 oh, .float .f64 dl, .float .f64 dh]), ((w.heap.size + 1), #[.int .u32 v0, .int .u32 v1, .int .u32 v2, .int .u32 v3, .int .u32 v4, .int .u32 v5, .int .u32 v6, .int .u32 v7, .int .u32 v8, .int .u32 v9]), (w.heap.size, #[.int .u32 u0, .int .u32 u1, .int .u32 u2, .int .u32 u3, .int .u32 u4, .int .u32 u5, .int .u32 u6, .int .u32 u7, .int .u32 u8, .int .u32 u9])] _) := Lib.hid ((M.out.setIn 0 rfl 6 (.float .f64 yl)).to (by rfl))
  replace M : Hid (Own w [(p3_1, #[.float .f64 pl, .float .f64 ph, .float .f64 ql, .float .f64 qh, .float .f64 xl, .float .f64 xh, .float .f64 yl, .float .f64 yh, .float .f64 0, .float .f64 0]), (w1_.heap.size, #[.float .f64 rl, .float .f64 rh, .float .f64 sl, .float .f64 sh, .float .f64 il, .float .f64 ih, .float .f64 ol, .float .f64 oh, .float .f64 dl, .float .f64 dh]), ((w.heap.size + 1), #[.int .u32 v0, .int .u32 v1, .int .u32 v2, .int .u32 v3, .int .u32 v4, .int .u32 v5, .int .u32 v6, .int .u32 v7, .int .u32 v8, .int .u32 v9]), (w.heap.size, #[.int .u32 u0, .int .u32 u1, .int .u32 u2, .int .u32 u3, .int .u32 u4, .int .u32 u5, .int .u32 u6, .int .u32 u7, .int .u32 u8, .int .u32 u9])] _) := Lib.hid ((M.out.setIn 0 rfl 7 (.float .f64 yh)).to (by rfl))
  replace M : Hid (Own w [(p3_1, #[.float .f64 pl, .float .f64 ph, .float .f64 ql, .float .f64 qh, .float .f64 xl, .float .f64 xh, .float .f64 yl, .float .f64 yh, .float .f64 zl, .float .f64 0]), (w1_.heap.size, #[.float .f64 rl, .float .f64 rh, .float .f64 sl, .float .f64 sh, .float .f64 il, .float .f64 ih, .float .f64 ol, .float .f64 oh, .float .f64 dl, .float .f64 dh]), ((w.heap.size + 1), #[.int .u32 v0, .int .u32 v1, .int .u32 v2, .int .u32 v3, .int .u32 v4, .int .u32 v5, .int .u32 v6, .int .u32 v7, .int .u32 v8, .int .u32 v9]), (w.heap.size, #[.int .u32 u0, .int .u32 u1, .int .u32 u2, .int .u32 u3, .int .u32 u4, .int .u32 u5, .int .u32 u6, .int .u32 u7, .int .u32 u8, .int .u32 u9])] _) := Lib.hid ((M.out.setIn 0 rfl 8 (.float .f64 zl)).to (by rfl))
  replace M : Hid (Own w [(p3_1, #[.float .f64 pl, .float .f64 ph, .float .f64 ql, .float .f64 qh, .float .f64 xl, .float .f64 xh, .float .f64 yl, .float .f64 yh, .float .f64 zl, .float .f64 zh]), (w1_.heap.size, #[.float .f64 rl, .float .f64 rh, .float .f64 sl, .float .f64 sh, .float .f64 il, .float .f64 ih, .float .f64 ol, .float .f64 oh, .float .f64 dl, .float .f64 dh]), ((w.heap.size + 1), #[.int .u32 v0, .int .u32 v1, .int .u32 v2, .int .u32 v3, .int .u32 v4, .int .u32 v5, .int .u32 v6, .int .u32 v7, .int .u32 v8, .int .u32 v9]), (w.heap.size, #[.int .u32 u0, .int .u32 u1, .int .u32 u2, .int .u32 u3, .int .u32 u4, .int .u32 u5, .int .u32 u6, .int .u32 u7, .int .u32 u8, .int .u32 u9])] _) := Lib.hid ((M.out.setIn 0 rfl 9 (.float .f64 zh)).to (by rfl))
  go_simp
  refine hK.out _ _ (Or.inr (M.out.nth 1 rfl).ten) (fun hHeld => ?_)
  clear hK K hHeld kc kf
  refine tails_done (by kernel_rfl) ?_ _
  refine NoPanic.normal ?_
  clear hS
  revert M
  generalize ((((((((((v.setCell ⟨p3_1, 0, none⟩ (.float .f64 pl)).setCell ⟨p3_1, 1, none⟩ (.float .f64 ph)).setCell ⟨p3_1, 2, none⟩ (.float .f64 ql)).setCell ⟨p3_1, 3, none⟩ (.float .f64 qh)).setCell ⟨p3_1, 4, none⟩ (.float .f64 xl)).setCell ⟨p3_1, 5, none⟩ (.float .f64 xh)).setCell ⟨p3_1, 6, none⟩ (.float .f64 yl)).setCell ⟨p3_1, 7, none⟩ (.float .f64 yh)).setCell ⟨p3_1, 8, none⟩ (.float .f64 zl)).setCell ⟨p3_1, 9, none⟩ (.float .f64 zh)) = W3_
  intro M
  obtain ⟨k1, k2, k3, k4, k5, k6, k7, k8, k9, k10⟩ := (M.out.nth 1 rfl).ten
  go_wp2_with fail
  refine (c7.out _).mono ?_
  rintro r w4_ ⟨rfl, hb⟩
  replace M := Lib.hid (M.out.below hb)
  clear hb
  clear k1 k2 k3 k4 k5 k6 k7 k8 k9 k10
  replace M := Lib.hid (M.out.made #[.float .f64 al, .float .f64 ah] 24)
  obtain ⟨k1, k2, k3, k4, k5, k6, k7, k8, k9, k10⟩ := (M.out.nth 1 rfl).ten
  go_wp2_with fail
  refine (c8.out _).mono ?_
  rintro r w5_ ⟨rfl, hb⟩
  replace M := Lib.hid (M.out.below hb)
  clear hb
  clear k1 k2 k3 k4 k5 k6 k7 k8 k9 k10
  replace M := Lib.hid (M.out.made #[.float .f64 bl, .float .f64 bh] 24)
  obtain ⟨k1, k2, k3, k4, k5, k6, k7, k8, k9, k10⟩ := (M.out.nth 3 rfl).ten
  go_wp2_with fail
  refine (c9.out _).mono ?_
  rintro r w6_ ⟨rfl, hb⟩
  replace M := Lib.hid (M.out.below hb)
  clear hb
  clear k1 k2 k3 k4 k5 k6 k7 k8 k9 k10
  replace M := Lib.hid (M.out.made #[.float .f64 cl, .float .f64 ch] 24)
  obtain ⟨k1, k2, k3, k4, k5, k6, k7, k8, k9, k10⟩ := (M.out.nth 3 rfl).ten
  go_wp2_with fail
  refine (c10.out _).mono ?_
  rintro r w7_ ⟨rfl, hb⟩
  replace M := Lib.hid (M.out.below hb)
  clear hb
  clear k1 k2 k3 k4 k5 k6 k7 k8 k9 k10
  replace M := Lib.hid (M.out.made #[.float .f64 ml, .float .f64 mh] 24)
  obtain ⟨k1, k2, k3, k4, k5, k6, k7, k8, k9, k10⟩ := (M.out.nth 5 rfl).ten
  go_wp2_with fail
  refine (c11.out _).mono ?_
  rintro r w8_ ⟨rfl, hb⟩
  replace M := Lib.hid (M.out.below hb)
  clear hb
  clear k1 k2 k3 k4 k5 k6 k7 k8 k9 k10
  replace M := Lib.hid (M.out.made #[.float .f64 nl, .float .f64 nh] 24)
  replace M := Lib.hid (M.out.made #[.float .f64 tl, .float .f64 th] 24)
  simp only [World.size_alloc] at M
  obtain ⟨k1, k2, k3, k4, k5, k6, k7, k8, k9, k10⟩ := (M.out.nth 6 rfl).ten
  go_wp2_with fail
  refine (c12.out _).mono ?_
  rintro r w9_ ⟨rfl, hb⟩
  replace M := Lib.hid (M.out.below hb)
  clear hb
  clear k1 k2 k3 k4 k5 k6 k7 k8 k9 k10
  replace M := Lib.hid (M.out.made #[.float .f64 jl, .float .f64 jh] 24)
  replace M := Lib.hid (M.out.made #[.float .f64 kl, .float .f64 kh] 24)
  simp only [World.size_alloc] at M
  obtain ⟨k1, k2⟩ := (M.out.nth 3 rfl).two
  go_wp2_with fail
  refine (c13.out _).mono ?_
  rintro r w10_ ⟨rfl, hb⟩
  replace M := Lib.hid (M.out.below hb)
  clear hb
  clear k1 k2
  obtain ⟨k1, k2⟩ := (M.out.nth 0 rfl).two
  obtain ⟨k3, k4⟩ := (M.out.nth 2 rfl).two
  go_wp2_with fail
  refine (c14.out _).mono ?_
  rintro r w11_ ⟨rfl, hb⟩
  replace M := Lib.hid (M.out.below hb)
  clear hb
  clear k1 k2 k3 k4
  go_wp2_with fail
  refine (c15.out _).mono ?_
  rintro r w12_ ⟨rfl, hb⟩
  replace M := Lib.hid (M.out.below hb)
  clear hb
  go_wp2
  go_ret
  exact ⟨rfl, M.out.base⟩

end Go.Proofs.Ytoiaefgpegiieaa

namespace Go.Proofs.Ytoiaefgpegiieaa
open Go.RowKit

theorem value_some {r s i o d : Res} (hr : In r ouI) (hs : In s ouI) (h : Dirs i o d) : ∃ l hh : Nat, ∀ w, Calls Try.prog 34 #[.agg #[.float .f64 r.lo, .float .f64 r.hi, .float .f64 s.lo, .float .f64 s.hi, .float .f64 i.lo, .float .f64 i.hi, .float .f64 o.lo, .float .f64 o.hi, .float .f64 d.lo, .float .f64 d.hi]] w fun x w' =>
    x = .returned (.tuple #[.agg #[.float .f64 l, .float .f64 hh], .int .i64 (Or.st i o d).e]) ∧ Below w.heap.size w w' := by
  by_cases he : (Or.st i o d).e = 0
  · refine ⟨(Or.val r s (Or.slope i o d)).lo, (Or.val r s (Or.slope i o d)).hi, fun w => ?_⟩
    rw [he]
    exact ask_walk w (Lib.hid fun w => value8 hr hs h he w)
  · exact ⟨0, 0, fun w => ask_walk w (Lib.hid fun w => value8_bad hr hs h he w)⟩
theorem owith_any (u0 u1' u2 u3 u4 u5 u6 u7 u8 u9 v0 v1 v2 v3 v4 v5 v6 v7 v8 v9 : Nat) (w : World) (g0 : u0 < 4294967296) (g1 : u1' < 4294967296) (g2 : u2 < 4294967296) (g3 : u3 < 4294967296) (g4 : u4 < 4294967296) (g5 : u5 < 4294967296) (g6 : u6 < 4294967296) (g7 : u7 < 4294967296) (g8 : u8 < 4294967296) (g9 : u9 < 4294967296)
    (h0 : v0 < 4294967296) (h1 : v1 < 4294967296) (h2 : v2 < 4294967296) (h3 : v3 < 4294967296) (h4 : v4 < 4294967296) (h5 : v5 < 4294967296) (h6 : v6 < 4294967296) (h7 : v7 < 4294967296) (h8 : v8 < 4294967296) (h9 : v9 < 4294967296) :
    Calls Try.prog 7 #[.agg #[.int .u32 u0, .int .u32 u1', .int .u32 u2, .int .u32 u3, .int .u32 u4, .int .u32 u5, .int .u32 u6, .int .u32 u7, .int .u32 u8, .int .u32 u9], .agg #[.int .u32 v0, .int .u32 v1, .int .u32 v2, .int .u32 v3, .int .u32 v4, .int .u32 v5, .int .u32 v6, .int .u32 v7, .int .u32 v8, .int .u32 v9]] w fun r w' => r = .returned (.bool true) ∧ Below w.heap.size w w' := by
  obtain ⟨r, s, i, o, d, hr, hs, h, ca⟩ := asks8 u0 u1' u2 u3 u4 u5 u6 u7 u8 u9 g0 g1 g2 g3 g4 g5 g6 g7 g8 g9
  have m0 : val m1 ≤ val 0 := by decide +kernel
  have un : ∀ {a : Res}, In a ouI → val m1 ≤ val a.lo ∧ val a.hi ≤ val u1 := fun {a} k => ⟨Int.le_trans m0 k.lo, k.hi⟩
  obtain ⟨r', jr, cr⟩ := span_in hr.fit (un hr).1 (un hr).2 v0 v1 h0 h1
  obtain ⟨s', js, cs⟩ := span_in hs.fit (un hs).1 (un hs).2 v2 v3 h2 h3
  obtain ⟨i', ji, ci⟩ := span_in h.i.fit (un h.i).1 (un h.i).2 v4 v5 h4 h5
  obtain ⟨o', jo, co⟩ := span_in h.o.fit (un h.o).1 (un h.o).2 v6 v7 h6 h7
  obtain ⟨d', jd, cd⟩ := span_in h.d.fit h.d.lo h.d.hi v8 v9 h8 h9
  have hr' : In r' ouI := ⟨jr.fit, Int.le_trans hr.lo jr.lo, Int.le_trans jr.hi hr.hi⟩
  have hs' : In s' ouI := ⟨js.fit, Int.le_trans hs.lo js.lo, Int.le_trans js.hi hs.hi⟩
  have h' := h.part ji jo jd
  have P := pair_in hs
  have p := pair_part js P hs.fit
  have ca2 := fun q v hv => oin0_walk q r.lo r.hi v0 v1 v2 v3 v4 v5 v6 v7 v8 v9 r'.lo r'.hi v hv (Lib.hid cr)
  have cb2 := fun q v hv => oin2_walk q s.lo s.hi v0 v1 v2 v3 v4 v5 v6 v7 v8 v9 s'.lo s'.hi v hv (Lib.hid cs)
  have cc2 := fun q v hv => oin4_walk q i.lo i.hi v0 v1 v2 v3 v4 v5 v6 v7 v8 v9 i'.lo i'.hi v hv (Lib.hid ci)
  have cd2 := fun q v hv => oin6_walk q o.lo o.hi v0 v1 v2 v3 v4 v5 v6 v7 v8 v9 o'.lo o'.hi v hv (Lib.hid co)
  have ce2 := fun q v hv => oin8_walk q d.lo d.hi v0 v1 v2 v3 v4 v5 v6 v7 v8 v9 d'.lo d'.hi v hv (Lib.hid cd)
  by_cases he : (Or.st i o d).e = 0
  · obtain ⟨he', st⟩ := st_in h ji jo jd he
    have F := st_fit h he
    have t := slope_unit h he
    have sl : In (Or.slope i' o' d') (Or.slope i o d) := edge_in st F
    have V := val_fits hr hs t
    have W := clamp_in (val_parts hr hs t jr js sl).l V.l.fit
    have fV : Fit (Or.val r s (Or.slope i o d)) := clamp_fit V.l.fit
    have s9 := fun w => slope8 h w
    have s10 := fun w => slope8 h' w
    rw [he] at s9
    rw [he'] at s10
    exact owith_ok (u0 := u0) (u1 := u1') (u2 := u2) (u3 := u3) (u4 := u4) (u5 := u5) (u6 := u6) (u7 := u7) (u8 := u8) (u9 := u9) (v0 := v0) (v1 := v1) (v2 := v2) (v3 := v3) (v4 := v4) (v5 := v5) (v6 := v6) (v7 := v7) (v8 := v8) (v9 := v9) w
      (c1 := Lib.hid ca) (c2 := Lib.hid ca2) (c3 := Lib.hid cb2) (c4 := Lib.hid cc2) (c5 := Lib.hid cd2) (c6 := Lib.hid ce2)
      (c7 := Lib.hid fun w => ask_walk w (Lib.hid fun w => value8 hr hs h he w)) (c8 := Lib.hid fun w => ask_walk w (Lib.hid fun w => value8 hr' hs' h' he' w)) (c9 := Lib.hid s9) (c10 := Lib.hid s10)
      (c11 := Lib.hid fun w => in8 W fV w) (c12 := Lib.hid fun w => in8 sl t.fit w) (c13 := Lib.hid fun w => pair8 hs w) (c14 := Lib.hid fun w => pair8 hs' w) (c15 := Lib.hid fun w => in8 p.a P.a.fit w) (c16 := Lib.hid fun w => in8 p.b P.b.fit w) (c17 := Lib.hid awake8_any)
  · obtain ⟨l, hh, cv⟩ := value_some hr' hs' h'
    exact owith_err (u0 := u0) (u1 := u1') (u2 := u2) (u3 := u3) (u4 := u4) (u5 := u5) (u6 := u6) (u7 := u7) (u8 := u8) (u9 := u9) (v0 := v0) (v1 := v1) (v2 := v2) (v3 := v3) (v4 := v4) (v5 := v5) (v6 := v6) (v7 := v7) (v8 := v8) (v9 := v9) w
      (c1 := Lib.hid ca) (c2 := Lib.hid ca2) (c3 := Lib.hid cb2) (c4 := Lib.hid cc2) (c5 := Lib.hid cd2) (c6 := Lib.hid ce2)
      (c7 := Lib.hid fun w => ask_walk w (Lib.hid fun w => value8_bad hr hs h he w)) (c8 := Lib.hid cv) (c9 := Lib.hid fun w => slope8 h w) (c10 := Lib.hid fun w => slope8 h' w)
      (c11 := Lib.hid fun w => pair8 hs w) (c12 := Lib.hid fun w => pair8 hs' w) (c13 := Lib.hid fun w => in8 p.a P.a.fit w) (c14 := Lib.hid fun w => in8 p.b P.b.fit w) (c15 := Lib.hid awake8_any) (ne3 := by simpa using he)
end Go.Proofs.Ytoiaefgpegiieaa

namespace Go.Proofs.Ytoiaefgpegiieaa
open Go.ChangeShapes Go.WideShapes Go.ChangeAt Go.RowKit

set_option maxRecDepth 100000 in
theorem orenWithin_lifted (os : Os) (started : os.Started) (H : Type) (enc : TypeId × Value → H) :
    ReturnsInHanded {} Try.checked os 7 .any (Rows.orenWithinSpec.pre6 enc Try.prog Try.f7 Rows.orenWithinRow.domain false) (Rows.orenWithinSpec.post enc Try.prog Try.f7 false true false false) := by
  refine returnsInHanded_of_change (C := Try.checked) Try.own started (by kernel_rfl) Try.func7
    (ChangeSpec.witness6 (enc := enc) (C := Try.checked) false ⟨#[], #[.agg #[.int .u32 0, .int .u32 0, .int .u32 0, .int .u32 0, .int .u32 0, .int .u32 0, .int .u32 0, .int .u32 0, .int .u32 0, .int .u32 0], .agg #[.int .u32 0, .int .u32 0, .int .u32 0, .int .u32 0, .int .u32 0, .int .u32 0, .int .u32 0, .int .u32 0, .int .u32 0, .int .u32 0]], []⟩ 8 (by kernel_rfl) (by kernel_rfl) (by kernel_rfl) (by kernel_rfl)) ?_
  intro W base args ds gs before hval0 hW hcnd _
  have hval : ∀ (j : Nat) t v, Try.f7.params[j]? = some t → args[j]? = some v → Value.okWide Try.prog W .any base t v := hval0
  have hW' := hW
  obtain ⟨p, q, hA0, hV, rfl, hfz, hnd⟩ := hW
  have hA : DataW.TrodAll enc Try.prog W 0 (fun _ => true) true Try.f7.params.toList args.toList ds p := hA0
  rw [Try.params7] at hA hval
  obtain ⟨v0, v1, d0, d1, p0, p1, rfl, rfl, rfl, h0, h1⟩ := trodAll_two hA
  obtain ⟨rfl, rfl⟩ := trodVars_none hV
  obtain ⟨y0_0, y0_1, y0_2, y0_3, y0_4, y0_5, y0_6, y0_7, y0_8, y0_9, rfl, rfl, rfl, z0_0, z0_1, z0_2, z0_3, z0_4, z0_5, z0_6, z0_7, z0_8, z0_9⟩ := open_u10 (hval 0 57 v0 rfl rfl) h0
  obtain ⟨y1_0, y1_1, y1_2, y1_3, y1_4, y1_5, y1_6, y1_7, y1_8, y1_9, rfl, rfl, rfl, z1_0, z1_1, z1_2, z1_3, z1_4, z1_5, z1_6, z1_7, z1_8, z1_9⟩ := open_u10 (hval 1 57 v1 rfl rfl) h1
  clear hA0 hval0
  simp only [List.append_nil] at hW'
  obtain ⟨x0_0, rfl, c0_0⟩ := u32_nat z0_0
  obtain ⟨x0_1, rfl, c0_1⟩ := u32_nat z0_1
  obtain ⟨x0_2, rfl, c0_2⟩ := u32_nat z0_2
  obtain ⟨x0_3, rfl, c0_3⟩ := u32_nat z0_3
  obtain ⟨x0_4, rfl, c0_4⟩ := u32_nat z0_4
  obtain ⟨x0_5, rfl, c0_5⟩ := u32_nat z0_5
  obtain ⟨x0_6, rfl, c0_6⟩ := u32_nat z0_6
  obtain ⟨x0_7, rfl, c0_7⟩ := u32_nat z0_7
  obtain ⟨x0_8, rfl, c0_8⟩ := u32_nat z0_8
  obtain ⟨x0_9, rfl, c0_9⟩ := u32_nat z0_9
  obtain ⟨x1_0, rfl, c1_0⟩ := u32_nat z1_0
  obtain ⟨x1_1, rfl, c1_1⟩ := u32_nat z1_1
  obtain ⟨x1_2, rfl, c1_2⟩ := u32_nat z1_2
  obtain ⟨x1_3, rfl, c1_3⟩ := u32_nat z1_3
  obtain ⟨x1_4, rfl, c1_4⟩ := u32_nat z1_4
  obtain ⟨x1_5, rfl, c1_5⟩ := u32_nat z1_5
  obtain ⟨x1_6, rfl, c1_6⟩ := u32_nat z1_6
  obtain ⟨x1_7, rfl, c1_7⟩ := u32_nat z1_7
  obtain ⟨x1_8, rfl, c1_8⟩ := u32_nat z1_8
  obtain ⟨x1_9, rfl, c1_9⟩ := u32_nat z1_9
  refine (owith_any x0_0 x0_1 x0_2 x0_3 x0_4 x0_5 x0_6 x0_7 x0_8 x0_9 x1_0 x1_1 x1_2 x1_3 x1_4 x1_5 x1_6 x1_7 x1_8 x1_9 W c0_0 c0_1 c0_2 c0_3 c0_4 c0_5 c0_6 c0_7 c0_8 c0_9 c1_0 c1_1 c1_2 c1_3 c1_4 c1_5 c1_6 c1_7 c1_8 c1_9).mono fun e W' ⟨he, hw⟩ => ?_
  subst he
  refine ⟨_, rfl, _, _, _, [], [], [], hW', trodAll_mk1 (shut_bool Try.underlying4 _), trodAll_mk2 (shut_u10 z0_0 z0_1 z0_2 z0_3 z0_4 z0_5 z0_6 z0_7 z0_8 z0_9) (shut_u10 z1_0 z1_1 z1_2 z1_3 z1_4 z1_5 z1_6 z1_7 z1_8 z1_9), rfl, hw.frame _, fun h => by cases h⟩

theorem orenWithin_holds : Rows.OrenWithinSaid :=
  OpenClaim.holds_of_wide 7 Try.f7 rfl rfl rfl rfl rfl rfl rfl ⟨rfl, rfl, rfl, rfl, rfl⟩ rfl rfl rfl rfl rfl (by kernel_rfl) Try.func7 (by kernel_rfl)
    (of_decide_eq_true (by kernel_rfl)) (by unfold Func.isWrapper; first | (rw [if_pos (by decide +kernel)]; kernel_rfl) | (rw [if_neg (by decide +kernel)]; exact ⟨rfl, rfl⟩))
    (fun os started H enc _ => orenWithin_lifted os started H enc)

end Go.Proofs.Ytoiaefgpegiieaa
