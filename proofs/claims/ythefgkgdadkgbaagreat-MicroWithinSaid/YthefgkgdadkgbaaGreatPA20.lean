/- What the claim stands on, part 21: GgH, MiM, MiN, MiO, MiQ, MiW, MiL. -/
import Derived.Test.YthefgkgdadkgbaaGreatPA19
import Derived.Test.YthefgkgdadkgbaaGreatPA14
import Derived.Test.YthefgkgdadkgbaaGreatPA13
import Derived.Deep.RegionHeld3
namespace Go.Proofs.YthefgkgdadkgbaaGreat
open Go.RowKit

theorem w_boxes : Fit (Gx.q2 cI8 cI8 aI) ∧ Fit (Gx.w cI8 cI8 aI) := ⟨.of (by decide +kernel), .of (by decide +kernel)⟩
section
variable {i o a : Res} (hi : In i cI8) (ho : In o cI8) (ha : In a aI)
include hi ho ha
theorem q2_in : In (Gx.q2 i o a) (Gx.q2 cI8 cI8 aI) := add_in (l8_in hi ha).q lf_box.q (l8_in ho ha).l lf_box.l w_boxes.1.e
theorem w_in : In (Gx.w i o a) (Gx.w cI8 cI8 aI) := div_in (.refl u1_fit) u1_fit (q2_in hi ho ha) w_boxes.1 w_boxes.2.e
end
def lq (c a : Res) : Rat := ((val (Gx.l c a).lo : Int) : Rat) / ((SS : Int) : Rat)
section
variable {i o a : Res} (hi : In i cI8) (ha : In a aI)
include hi ha
end
def wc (i : Nat) : Nat := 4571153621781053440 + i * 4503599627370496
def cb (i : Nat) : Res := ⟨0, wc i, wc (i + 1)⟩
namespace Gw
def one : BW := BW.one u1
def half : BW := BW.one uh
def a2 : BW := BW.sqr ⟨aI, 0⟩
def c2 (H : Res) : BW := BW.sqr ⟨H, 0⟩
def n (H : Res) : BW := one.sub (c2 H)
def t (H : Res) : BW := (n H).div (c2 H)
def m (H : Res) : BW := a2.mul (t H)
def p (H : Res) : BW := one.add (m H)
def r (H : Res) : BW := (p H).sqrt
def d (H : Res) : BW := (r H).sub one
def h (H : Res) : BW := half.mul (d H)
def L : BW := ⟨Gx.l cI8 aI, val 4454060031469420544⟩
def q : BW := one.add L
def q2 : BW := q.add L
def w : BW := one.div q2
end Gw
end Go.Proofs.YthefgkgdadkgbaaGreat

namespace Go.Proofs.YthefgkgdadkgbaaGreat
open Go.RowKit

def Mi.sx (A B : V3) : Res := addR A.x B.x
def Mi.sy (A B : V3) : Res := addR A.y B.y
def Mi.sz (A B : V3) : Res := addR A.z B.z
def Mi.n1 (A B : V3) : Res := sqrR (Mi.sx A B)
def Mi.n2 (A B : V3) : Res := sqrR (Mi.sy A B)
def Mi.n3 (A B : V3) : Res := addR (Mi.n1 A B) (Mi.n2 A B)
def Mi.n4 (A B : V3) : Res := sqrR (Mi.sz A B)
def Mi.n5 (A B : V3) : Res := addR (Mi.n3 A B) (Mi.n4 A B)
def Mi.n (A B : V3) : Res := sqrtR (Mi.n5 A B)
def Mi.h (A B : V3) : Res := mulR (oneR uh) (Mi.n A B)
def Mi.half (A B : V3) : Res := clampR (Mi.h A B)
def Mi.l (A B : V3) : Res := divR (Mi.sz A B) (Mi.n A B)
def Mi.lean (A B : V3) : Res := clampR (Mi.l A B)
structure MF (A B : V3) : Prop where
  sx : Fit (Mi.sx A B)
  sy : Fit (Mi.sy A B)
  sz : Fit (Mi.sz A B)
  n1 : Fit (Mi.n1 A B)
  n2 : Fit (Mi.n2 A B)
  n3 : Fit (Mi.n3 A B)
  n4 : Fit (Mi.n4 A B)
  n5 : Fit (Mi.n5 A B)
  n : Fit (Mi.n A B)
  h : Fit (Mi.h A B)
  l : Fit (Mi.l A B)
structure MI (a b A B : V3) : Prop where
  sx : In (Mi.sx a b) (Mi.sx A B)
  sy : In (Mi.sy a b) (Mi.sy A B)
  sz : In (Mi.sz a b) (Mi.sz A B)
  n1 : In (Mi.n1 a b) (Mi.n1 A B)
  n2 : In (Mi.n2 a b) (Mi.n2 A B)
  n3 : In (Mi.n3 a b) (Mi.n3 A B)
  n4 : In (Mi.n4 a b) (Mi.n4 A B)
  n5 : In (Mi.n5 a b) (Mi.n5 A B)
  n : In (Mi.n a b) (Mi.n A B)
  h : In (Mi.h a b) (Mi.h A B)
  l : In (Mi.l a b) (Mi.l A B)
theorem MI.fits {a b A B : V3} (h : MI a b A B) : MF a b := ⟨h.sx.fit, h.sy.fit, h.sz.fit, h.n1.fit, h.n2.fit, h.n3.fit, h.n4.fit, h.n5.fit, h.n.fit, h.h.fit, h.l.fit⟩
theorem mi_of {a b A B : V3} (K : MF A B) (fA : FitV A) (fB : FitV B) (ia : InV a A) (ib : InV b B) : MI a b A B := by
  have sx : In (Mi.sx a b) (Mi.sx A B) := add_in ia.x fA.x ib.x fB.x K.sx.e
  have sy : In (Mi.sy a b) (Mi.sy A B) := add_in ia.y fA.y ib.y fB.y K.sy.e
  have sz : In (Mi.sz a b) (Mi.sz A B) := add_in ia.z fA.z ib.z fB.z K.sz.e
  have n1 : In (Mi.n1 a b) (Mi.n1 A B) := sqr_in sx K.sx K.n1.e
  have n2 : In (Mi.n2 a b) (Mi.n2 A B) := sqr_in sy K.sy K.n2.e
  have n3 : In (Mi.n3 a b) (Mi.n3 A B) := add_in n1 K.n1 n2 K.n2 K.n3.e
  have n4 : In (Mi.n4 a b) (Mi.n4 A B) := sqr_in sz K.sz K.n4.e
  have n5 : In (Mi.n5 a b) (Mi.n5 A B) := add_in n3 K.n3 n4 K.n4 K.n5.e
  have n : In (Mi.n a b) (Mi.n A B) := root_in n5 K.n5 K.n.e
  exact ⟨sx, sy, sz, n1, n2, n3, n4, n5, n, mul_in (.refl uh_fit) uh_fit n K.n K.h.e, div_in sz K.sz n K.n K.l.e⟩
def okM (A B : V3) : Bool := fitB (Mi.sx A B) && fitB (Mi.sy A B) && fitB (Mi.sz A B) && fitB (Mi.n1 A B) && fitB (Mi.n2 A B) && fitB (Mi.n3 A B) && fitB (Mi.n4 A B) && fitB (Mi.n5 A B) && fitB (Mi.n A B) && fitB (Mi.h A B) && fitB (Mi.l A B)
theorem mf_of {A B : V3} (h : okM A B = true) : MF A B := by
  unfold okM at h
  simp only [Bool.and_eq_true] at h
  obtain ⟨⟨⟨⟨⟨⟨⟨⟨⟨⟨h1, h2⟩, h3⟩, h4⟩, h5⟩, h6⟩, h7⟩, h8⟩, h9⟩, h10⟩, h11⟩ := h
  exact ⟨.of h1, .of h2, .of h3, .of h4, .of h5, .of h6, .of h7, .of h8, .of h9, .of h10, .of h11⟩
def zI7 : Res := ⟨0, 4575657221408423936, u1⟩
def dB : V3 := ⟨⟨0, m1, u1⟩, ⟨0, m1, u1⟩, zI7⟩
theorem dB_fit : FitV dB := ⟨.of (by decide +kernel), .of (by decide +kernel), .of (by decide +kernel)⟩
theorem mf_box : MF dB dB := mf_of (by decide +kernel)
theorem mi_lows : 0 < val (Mi.n dB dB).lo ∧ val cI8.lo ≤ val (Mi.lean dB dB).lo ∧ val (Mi.lean dB dB).hi ≤ val cI8.hi ∧ val cI8.lo ≤ val zI7.lo := by decide +kernel
section
variable {A B : V3} (iA : InV A dB) (iB : InV B dB)
include iA iB
theorem md_in : MI A B dB dB := mi_of mf_box dB_fit dB_fit iA iB
theorem lean_c8 : In (Mi.lean A B) cI8 := by
  have h := clamp_in (md_in iA iB).l mf_box.l
  obtain ⟨_, h1, h2, _⟩ := mi_lows
  exact ⟨h.fit, Int.le_trans h1 h.lo, Int.le_trans h.hi h2⟩
end

def Cap0 (f : Nat → Rat) : Prop := ∀ e : Rat, 0 < e → ∃ M : Nat, ∀ m, M ≤ m → -e ≤ f m ∧ f m ≤ 1 + e
def keepQ (x : Rat) : Rat := if x ≤ 0 then 0 else if 1 ≤ x then 1 else x
theorem keepQ_near {x y e : Rat} (h1 : -e ≤ x - y) (h2 : x - y ≤ e) (h3 : -e ≤ y) (h4 : y ≤ 1 + e) (he : 0 ≤ e) : -(2 * e) ≤ keepQ x - y ∧ keepQ x - y ≤ 2 * e := by
  unfold keepQ
  split
  · constructor <;> grind
  · split <;> constructor <;> grind
theorem HasQ.keep {r : Res} {x : Rat} (fr : Fit r) (h : HasQ r x) : HasQ (clampR r) (keepQ x) := by
  obtain ⟨_, _, x3⟩ := clamp_facts fr.lo fr.rlo
  obtain ⟨_, _, y3⟩ := clamp_facts fr.hi fr.rhi
  have e1 : (clampR r).lo = clampW r.lo := rfl
  have e2 : (clampR r).hi = clampW r.hi := rfl
  have us : val u1 = SS := by decide +kernel
  have S := ssQ
  have s0 := SS0
  rw [us] at x3 y3
  have hl := h.low
  have hh := h.high
  unfold keepQ
  by_cases g : x ≤ 0
  · rw [if_pos g]
    have t := Rat.mul_le_mul_of_nonneg_right g (Rat.le_of_lt S)
    rw [Rat.zero_mul] at t
    have l0 : val r.lo ≤ 0 := Rat.intCast_le_intCast.1 (by exact Rat.le_trans hl t)
    refine ⟨?_, ?_⟩
    · rw [e1, x3, Rat.zero_mul]; exact Rat.intCast_le_intCast.2 (by omega : min (max (val r.lo) 0) SS ≤ 0)
    · rw [e2, y3, Rat.zero_mul]; exact Rat.intCast_le_intCast.2 (by omega : 0 ≤ min (max (val r.hi) 0) SS)
  · rw [if_neg g]
    by_cases k : 1 ≤ x
    · rw [if_pos k]
      have t := Rat.mul_le_mul_of_nonneg_right k (Rat.le_of_lt S)
      rw [Rat.one_mul] at t
      have l0 : SS ≤ val r.hi := Rat.intCast_le_intCast.1 (by exact Rat.le_trans t hh)
      refine ⟨?_, ?_⟩
      · rw [e1, x3, Rat.one_mul]; exact Rat.intCast_le_intCast.2 (by omega : min (max (val r.lo) 0) SS ≤ SS)
      · rw [e2, y3, Rat.one_mul]; exact Rat.intCast_le_intCast.2 (by omega : SS ≤ min (max (val r.hi) 0) SS)
    · rw [if_neg k]
      have g0 : 0 ≤ x := by grind
      have t0 := Rat.mul_nonneg g0 (Rat.le_of_lt S)
      have t1 := Rat.mul_le_mul_of_nonneg_right (by grind : x ≤ 1) (Rat.le_of_lt S)
      rw [Rat.one_mul] at t1
      refine ⟨?_, ?_⟩
      · rw [e1, x3]
        rcases Int.le_total (val r.lo) 0 with c | c
        · rw [show min (max (val r.lo) 0) SS = 0 by omega]; exact t0
        · refine Rat.le_trans (Rat.intCast_le_intCast.2 (by omega : min (max (val r.lo) 0) SS ≤ val r.lo)) hl
      · rw [e2, y3]
        rcases Int.le_total SS (val r.hi) with c | c
        · rw [show min (max (val r.hi) 0) SS = SS by omega]; exact t1
        · refine Rat.le_trans hh (Rat.intCast_le_intCast.2 (by omega : val r.hi ≤ min (max (val r.hi) 0) SS))
theorem HasS.keep {r : Res} {f : Nat → Rat} (fr : Fit r) (h : HasS r f) (c : Cap0 f) : HasS (clampR r) f := by
  obtain ⟨f', a, k⟩ := h
  refine ⟨fun m => keepQ (f' m), fun m => (a m).keep fr, fun e he => ?_⟩
  obtain ⟨M, hM⟩ := k (e / 2) (by grind)
  obtain ⟨N, hN⟩ := c (e / 2) (by grind)
  refine ⟨M + N, fun m hm => ?_⟩
  have h1 := hM m (by omega)
  have h2 := hN m (by omega)
  have := keepQ_near (e := e / 2) h1.1 h1.2 h2.1 h2.2 (by grind)
  grind

section
variable {A B : V3} {f g h f' g' h' : Nat → Rat} (K : MF A B) (FA : FitV A) (FB : FitV B) (n0 : 0 < val (Mi.n A B).lo)
  (a1 : HasS A.x f) (a2 : HasS A.y g) (a3 : HasS A.z h) (b1 : HasS B.x f') (b2 : HasS B.y g') (b3 : HasS B.z h')
  (uA : Eqv (fun m => f m * f m + (g m * g m + h m * h m)) fun _ => 1) (uB : Eqv (fun m => f' m * f' m + (g' m * g' m + h' m * h' m)) fun _ => 1) (pA : ∀ m, 0 ≤ h m) (pB : ∀ m, 0 ≤ h' m)
include K FA FB n0 a1 a2 a3 b1 b2 b3 uA uB pA pB
end
end Go.Proofs.YthefgkgdadkgbaaGreat

namespace Go.Proofs.YthefgkgdadkgbaaGreat
open Go.RowKit

def w4 : Nat := 4616189618054758400
theorem w4_fit : Fit (oneR w4) := one_fit (by decide) (by decide)
theorem w24_val : val w2 = 2 * SS ∧ val w4 = 4 * SS := by decide +kernel
def Mi.t (A B : V3) : Res := mulR (oneR w2) (Mi.half A B)
def Mi.u (A B : V3) : Res := mulR (Mi.t A B) (Mi.lean A B)
def Mi.d1 (A B : V3) : Res := mulR A.x B.x
def Mi.d2 (A B : V3) : Res := mulR A.y B.y
def Mi.d3 (A B : V3) : Res := addR (Mi.d1 A B) (Mi.d2 A B)
def Mi.d4 (A B : V3) : Res := mulR A.z B.z
def Mi.d5 (A B : V3) : Res := addR (Mi.d3 A B) (Mi.d4 A B)
def Mi.q (A B : V3) : Res := addR (oneR u1) (Mi.d5 A B)
def Mi.r (A B : V3) : Res := divR (Mi.q A B) (oneR w2)
def Mi.w (A B : V3) : Res := sqrR (Mi.half A B)
structure NI (a b A B : V3) : Prop where
  t : In (Mi.t a b) (Mi.t A B)
  u : In (Mi.u a b) (Mi.u A B)
  d1 : In (Mi.d1 a b) (Mi.d1 A B)
  d2 : In (Mi.d2 a b) (Mi.d2 A B)
  d3 : In (Mi.d3 a b) (Mi.d3 A B)
  d4 : In (Mi.d4 a b) (Mi.d4 A B)
  d5 : In (Mi.d5 a b) (Mi.d5 A B)
  q : In (Mi.q a b) (Mi.q A B)
  r : In (Mi.r a b) (Mi.r A B)
  w : In (Mi.w a b) (Mi.w A B)
section
variable {A B : V3} (iA : InV A dB) (iB : InV B dB)
include iA iB
end

def Mi.v1 (l i o a : Res) : Res := mulR (Gx.D l a) (Gx.w i o a)
def Mi.v2 (i : Res) : Res := mulR (oneR w4) i
def Mi.v3 (i o : Res) : Res := mulR (Mi.v2 i) o
def Mi.val (l i o a : Res) : Res := divR (Mi.v1 l i o a) (Mi.v3 i o)
def Mi.p1 (l o a : Res) : Res := mulR (Gx.v o a) (Gx.D l a)
def Mi.den (l o a : Res) : Res := divR (Mi.p1 l o a) (Mi.v2 o)
def Mi.s1 (l i o a : Res) : Res := mulR (Mi.val l i o a) i
def Mi.s2 (l i o a : Res) : Res := mulR (Mi.s1 l i o a) (Gx.v o a)
def Mi.s3 (l i o a : Res) : Res := mulR (Mi.den l o a) (Gx.w i o a)
structure VI (l i o a L I O A : Res) : Prop where
  v1 : In (Mi.v1 l i o a) (Mi.v1 L I O A)
  v2 : In (Mi.v2 i) (Mi.v2 I)
  v2' : In (Mi.v2 o) (Mi.v2 O)
  v3 : In (Mi.v3 i o) (Mi.v3 I O)
  val : In (Mi.val l i o a) (Mi.val L I O A)
  p1 : In (Mi.p1 l o a) (Mi.p1 L O A)
  den : In (Mi.den l o a) (Mi.den L O A)
  s1 : In (Mi.s1 l i o a) (Mi.s1 L I O A)
  s2 : In (Mi.s2 l i o a) (Mi.s2 L I O A)
  s3 : In (Mi.s3 l i o a) (Mi.s3 L I O A)
theorem v_boxes : (fitB (Mi.v1 cI8 cI8 cI8 aI) && fitB (Mi.v2 cI8) && fitB (Mi.v3 cI8 cI8) && fitB (Mi.val cI8 cI8 cI8 aI) && fitB (Mi.p1 cI8 cI8 aI) && fitB (Mi.den cI8 cI8 aI) && fitB (Mi.s1 cI8 cI8 cI8 aI) && fitB (Mi.s2 cI8 cI8 cI8 aI) && fitB (Mi.s3 cI8 cI8 cI8 aI)) = true := by decide +kernel
section
variable {l i o a : Res} (hl : In l cI8) (hi : In i cI8) (ho : In o cI8) (ha : In a aI)
include hl hi ho ha
theorem vd_in : VI l i o a cI8 cI8 cI8 aI := by
  have h := v_boxes
  simp only [Bool.and_eq_true] at h
  obtain ⟨⟨⟨⟨⟨⟨⟨⟨h1, h2⟩, h3⟩, h4⟩, h5⟩, h6⟩, h7⟩, h8⟩, h9⟩ := h
  have D := (g8_in hl ha).D
  have W := w_in hi ho ha
  have V := (l8_in ho ha).v
  have v1 : In (Mi.v1 l i o a) (Mi.v1 cI8 cI8 cI8 aI) := mul_in D gf_box8.D W w_boxes.2 (Fit.of h1).e
  have v2 : In (Mi.v2 i) (Mi.v2 cI8) := mul_in (.refl w4_fit) w4_fit hi cI8_fit (Fit.of h2).e
  have v2' : In (Mi.v2 o) (Mi.v2 cI8) := mul_in (.refl w4_fit) w4_fit ho cI8_fit (Fit.of h2).e
  have v3 : In (Mi.v3 i o) (Mi.v3 cI8 cI8) := mul_in v2 (.of h2) ho cI8_fit (Fit.of h3).e
  have vl : In (Mi.val l i o a) (Mi.val cI8 cI8 cI8 aI) := div_in v1 (.of h1) v3 (.of h3) (Fit.of h4).e
  have p1 : In (Mi.p1 l o a) (Mi.p1 cI8 cI8 aI) := mul_in V lf_box.v D gf_box8.D (Fit.of h5).e
  have dn : In (Mi.den l o a) (Mi.den cI8 cI8 aI) := div_in p1 (.of h5) v2' (.of h2) (Fit.of h6).e
  have s1 : In (Mi.s1 l i o a) (Mi.s1 cI8 cI8 cI8 aI) := mul_in vl (.of h4) hi cI8_fit (Fit.of h7).e
  exact ⟨v1, v2, v2', v3, vl, p1, dn, s1, mul_in s1 (.of h7) V lf_box.v (Fit.of h8).e, mul_in dn (.of h6) W w_boxes.2 (Fit.of h9).e⟩
end
end Go.Proofs.YthefgkgdadkgbaaGreat

namespace Go.Proofs.YthefgkgdadkgbaaGreat
open Go.RowKit

section
variable {A B : V3} (iA : InV A dB) (iB : InV B dB)
include iA iB
end

theorem z_ends : val zI7.lo = 35184372088832 * DD ∧ val 4580160821035794432 = 70368744177664 * DD ∧ val u1 = 4503599627370496 * DD ∧ val m1 = -(4503599627370496 * DD) := by decide +kernel
section
variable {x y z : Nat} (lx : x < 18446744073709551616) (ly : y < 18446744073709551616) (lz : z < 18446744073709551616) (rx : rightB x = true) (ry : rightB y = true) (rz : rightB z = true)
  (x1 : val m1 ≤ val x) (x2 : val x ≤ val u1) (y1 : val m1 ≤ val y) (y2 : val y ≤ val u1) (z1 : val 4580160821035794432 ≤ val z) (z2 : val z ≤ val u1)
include rx ry rz x1 x2 y1 y2 z1 z2
theorem dir_has : hasU x y z = true := by
  obtain ⟨_, e2, e3, e4⟩ := z_ends
  have d0 := dd_pos
  have p1 : val 4318952042648305664 ≤ val 4580160821035794432 ∧ val u1 ≤ val 4895412794951729152 := by decide +kernel
  obtain ⟨a1, a2⟩ := val_side rx
  obtain ⟨b1, b2⟩ := val_side ry
  obtain ⟨c1, c2⟩ := val_side rz
  obtain ⟨_, _, mv⟩ := most_val rx ry rz
  unfold hasU leB
  simp only [Bool.and_eq_true, decide_eq_true_eq]
  rw [mv]
  exact ⟨⟨⟨rx, ry⟩, rz⟩, by omega, by omega⟩
include lx ly lz
theorem dir_in : InV (unitV x y z) dB ∧ ∃ f g h : Nat → Rat, HasS (unitV x y z).x f ∧ HasS (unitV x y z).y g ∧ HasS (unitV x y z).z h ∧ Eqv (fun m => f m * f m + (g m * g m + h m * h m)) (fun _ => 1) ∧ ∀ m, 0 ≤ h m := by
  have hU := dir_has rx ry rz x1 x2 y1 y2 z1 z2
  obtain ⟨e1, e2, e3, e4⟩ := z_ends
  have d0 := dd_pos
  have hS := ss_dd
  obtain ⟨F, _, _, _, ⟨mx, Mx, px⟩, ⟨my, My, py⟩, ⟨m, M, pz⟩⟩ := unit_all x y z lx ly lz hU
  obtain ⟨n0, n1, n2, _⟩ := unit_norm x y z lx ly lz hU
  have ix := one_part px F.x
  have iy := one_part py F.y
  have iz := one_part pz F.z
  have z0 : 0 ≤ val z := by omega
  obtain ⟨f, g, h, s1, s2, s3, us, nn⟩ := unit_seq lx ly lz hU
  refine ⟨⟨ix, iy, ?_⟩, f, g, h, s1, s2, s3, us, nn z0⟩
  have q : ∀ v : Int, -(4503599627370496 * DD) ≤ v → v ≤ 4503599627370496 * DD → v * v ≤ 4503599627370496 * DD * (4503599627370496 * DD) := fun v h1 h2 => by
    rcases Int.le_total 0 v with t | t
    · exact mul_self_le t h2
    · rw [← Int.neg_mul_neg]; exact mul_self_le (by omega) (by omega)
  have kx := q (val x) (by omega) (by omega)
  have ky := q (val y) (by omega) (by omega)
  have kz := q (val z) (by omega) (by omega)
  -- the length is below 7 by 4
  have nl : 4 * val (unitN x y z).lo ≤ 7 * (4503599627370496 * DD) := by
    refine le_of_self (by omega) ?_
    have t1 : 4 * val (unitN x y z).lo * (4 * val (unitN x y z).lo) = 16 * (val (unitN x y z).lo * val (unitN x y z).lo) := by grind
    have t2 : 7 * (4503599627370496 * DD) * (7 * (4503599627370496 * DD)) = 49 * (4503599627370496 * DD * (4503599627370496 * DD)) := by grind
    have t3 := self_nonneg (4503599627370496 * DD)
    rw [t1, t2]; omega
  have low : 35184372088832 * DD ≤ m := by
    have w := pz.wide
    obtain ⟨a, a1, a0, _, a3⟩ := pz.under
    rcases a3 with t | t
    · rw [hS] at t; omega
    · have l := pz.low
      have le := pz.le
      have ea : 70368744177664 * DD ≤ a := by omega
      -- a SS by n.lo is no more than M
      have t1 : 4 * (a * SS) ≤ 7 * M * SS := by
        have u1 : 4 * (M * val (unitN x y z).lo) ≤ M * (7 * (4503599627370496 * DD)) := by
          have := Int.mul_le_mul_of_nonneg_left nl (show 0 ≤ M by omega)
          have e : M * (4 * val (unitN x y z).lo) = 4 * (M * val (unitN x y z).lo) := by grind
          omega
        rw [← hS] at u1
        have e : M * (7 * SS) = 7 * M * SS := by grind
        omega
      have t2 : 4 * a ≤ 7 * M := by
        refine Int.le_of_mul_le_mul_right (a := SS) ?_ (by rw [hS]; omega)
        have e : 4 * a * SS = 4 * (a * SS) := by grind
        omega
      omega
  have s := pz.side
  refine ⟨F.z, ?_, iz.hi⟩
  show val zI7.lo ≤ _
  rw [e1]
  have zp : 0 < val z := by omega
  rcases s with ⟨_, t, _⟩ | ⟨t, _, _⟩
  · rw [t]; exact low
  · omega
end
end Go.Proofs.YthefgkgdadkgbaaGreat

namespace Go.Proofs.YthefgkgdadkgbaaGreat
open Go.RowKit

section
variable {V : V3} {f g h : Nat → Rat} (iV : InV V dB) (a1 : HasS V.x f) (a2 : HasS V.y g) (a3 : HasS V.z h)
  (us : Eqv (fun m => f m * f m + (g m * g m + h m * h m)) fun _ => 1) (nn : ∀ m, 0 ≤ h m)
include iV a1 a2 a3 us nn
end
def Ms.x : BW := ⟨⟨0, m1, u1⟩, 16 * DD⟩
def Ms.z : BW := ⟨zI7, 16 * DD⟩
def Ms.xx : BW := (Ms.x.add Ms.x).sqr
def Ms.zz : BW := (Ms.z.add Ms.z).sqr
def Ms.n3 : BW := Ms.xx.add Ms.xx
def Ms.n5 : BW := Ms.n3.add Ms.zz
theorem part_width {x : Nat} {n p : Res} {m M : Int} (h : PartOf x n p m M) : val p.hi - val p.lo ≤ 16 * DD := by
  have w := h.wide
  rcases h.side with ⟨_, a, b⟩ | ⟨_, a, b⟩ <;> rw [a, b] <;> omega
end Go.Proofs.YthefgkgdadkgbaaGreat

namespace Go.Proofs.YthefgkgdadkgbaaGreat
open Go.RowKit

def w256 : Nat := 4643211215818981376
def byW (n : Nat) : Nat := (floatBits .quo .f64 (floatOfInt .f64 (n : Int)) w256).getD 0
def byOk (n : Nat) : Bool := (floatBits .quo .f64 (floatOfInt .f64 (n : Int)) w256 == some (byW n)) && decide (byW n < 18446744073709551616) && rightB (byW n) && leB 0 (byW n) && leB (byW n) u1
theorem by_all : ∀ n, n < 256 → byOk n = true := by decide +kernel
theorem by_word {n : Nat} (hn : n < 256) : floatBits .quo .f64 (floatOfInt .f64 (n : Int)) w256 = some (byW n) ∧ byW n < 18446744073709551616 ∧ rightB (byW n) = true ∧ val 0 ≤ val (byW n) ∧ val (byW n) ≤ val u1 := by
  have h := by_all n hn
  unfold byOk leB at h
  simp only [Bool.and_eq_true, decide_eq_true_eq, beq_iff_eq] at h
  exact ⟨h.1.1.1.1, h.1.1.1.2, h.1.1.2, h.1.2, h.2⟩

theorem sub_below {a f : Nat} (la : a < 18446744073709551616) (lf : f < 18446744073709551616) (ra : rightB a = true) (rf : rightB f = true) (f0 : 0 ≤ val f) (f1 : val f ≤ SS) (h1 : -SS ≤ val a) :
    ∃ r, floatBits .sub .f64 a f = some r ∧ r < 18446744073709551616 ∧ rightB r = true ∧ val r ≤ val a := by
  rcases Int.lt_or_le (val a) (val f) with g | g
  · have e1 : val 9223372036854775809 = -1 := by decide +kernel
    have e2 : val 13835058055282163712 = -(2 * SS) := by decide +kernel
    obtain ⟨r, k1, k2⟩ := sub_beside a f la lf ra rf
    obtain ⟨n1, n2, _, n4⟩ := near_between (x0 := 13835058055282163712) (y0 := 9223372036854775809) (by decide) (sub_down a f ra rf) (sub_up a f ra rf) k2 (by decide) (by decide) (by rw [e2]; omega) (by decide) (by decide) (by rw [e1]; omega)
    obtain ⟨_, _, _, m4⟩ := near_between (x0 := 13835058055282163712) (y0 := a) (by decide) (sub_down a f ra rf) (sub_up a f ra rf) k2 (by decide) (by decide) (by rw [e2]; omega) la ra (by omega)
    exact ⟨r, k1, n1, word_neg (by rw [e1] at n4; omega) n2, m4⟩
  · obtain ⟨r, k1, k2, k3, _, k5⟩ := sub_all la lf ra rf g (y0 := a) la ra (by omega)
    exact ⟨r, k1, k2, k3, k5⟩
theorem widen_words {a : Res} {L f : Nat} (fa : Fit a) (lL : L < 18446744073709551616) (rL : rightB L = true) (m : -SS ≤ val L) (h1 : val L ≤ val a.lo) (h2 : val a.hi ≤ val u1) (lf : f < 18446744073709551616) (rf : rightB f = true) (f0 : 0 ≤ val f) (f1 : val f ≤ SS) :
    ∃ r s : Nat, floatBits .sub .f64 a.lo f = some r ∧ floatBits .add .f64 a.hi f = some s ∧ r < 18446744073709551616 ∧ s < 18446744073709551616 ∧ rightB r = true ∧ rightB s = true ∧
      In ⟨0, if (FloatKind.f64.format.order r L == some Ordering.lt) = true then L else r, if (FloatKind.f64.format.order s u1 == some Ordering.gt) = true then u1 else s⟩ ⟨0, L, u1⟩ ∧
      In a ⟨0, if (FloatKind.f64.format.order r L == some Ordering.lt) = true then L else r, if (FloatKind.f64.format.order s u1 == some Ordering.gt) = true then u1 else s⟩ := by
  have us : val u1 = SS := by decide +kernel
  have u2 : val w2 = 2 * SS := w24_val.1
  have le := fa.le
  obtain ⟨r, r1, r2, r3, r4⟩ := sub_below fa.lo lf fa.rlo rf f0 f1 (by omega)
  obtain ⟨s, s1, s2, s3, s4, s5⟩ := add_all fa.hi lf fa.rhi rf f0 (y0 := w2) (by decide) (by decide) (by rw [u2]; omega)
  refine ⟨r, s, r1, s1, r2, s2, r3, s3, ?_⟩
  obtain ⟨x, hx, x1, x2, x3, x4⟩ : ∃ x, x = (if (FloatKind.f64.format.order r L == some Ordering.lt) = true then L else r) ∧ x < 18446744073709551616 ∧ rightB x = true ∧ val L ≤ val x ∧ val x ≤ val a.lo := by
    refine ⟨_, rfl, ?_⟩
    rw [order_lt r L r2 lL r3 rL]
    by_cases g : val r < val L
    · rw [decide_eq_true g, if_pos rfl]; exact ⟨lL, rL, Int.le_refl _, h1⟩
    · rw [decide_eq_false g, if_neg Bool.false_ne_true]; exact ⟨r2, r3, by omega, r4⟩
  obtain ⟨y, hy, y1, y2, y3, y4⟩ : ∃ y, y = (if (FloatKind.f64.format.order s u1 == some Ordering.gt) = true then u1 else s) ∧ y < 18446744073709551616 ∧ rightB y = true ∧ val a.hi ≤ val y ∧ val y ≤ val u1 := by
    refine ⟨_, rfl, ?_⟩
    rw [order_gt s u1 s2 (by decide) s3 (by decide)]
    by_cases g : val u1 < val s
    · rw [decide_eq_true g, if_pos rfl]; exact ⟨by decide, by decide, h2, Int.le_refl _⟩
    · rw [decide_eq_false g, if_neg Bool.false_ne_true]; exact ⟨s2, s3, s4, by omega⟩
  rw [← hx, ← hy]
  have F : Fit ⟨0, x, y⟩ := ⟨rfl, x1, y1, by show ivR x y = true; unfold ivR leB; rw [x2, y2, decide_eq_true (by omega)]; rfl⟩
  exact ⟨⟨F, x3, y4⟩, ⟨fa, x4, y3⟩⟩

theorem mf_steps {A B : V3} (fA : FitV A) (fB : FitV B) (e1 : (Mi.sx A B).e = 0) (e2 : (Mi.sy A B).e = 0) (e3 : (Mi.sz A B).e = 0) (e4 : (Mi.n1 A B).e = 0) (e5 : (Mi.n2 A B).e = 0) (e6 : (Mi.n3 A B).e = 0) (e7 : (Mi.n4 A B).e = 0) (e8 : (Mi.n5 A B).e = 0) (e9 : (Mi.n A B).e = 0) (e10 : (Mi.h A B).e = 0) (e11 : (Mi.l A B).e = 0) : MF A B := by
  have sx : Fit (Mi.sx A B) := add_fit fA.x fB.x e1
  have sy : Fit (Mi.sy A B) := add_fit fA.y fB.y e2
  have sz : Fit (Mi.sz A B) := add_fit fA.z fB.z e3
  have n1 : Fit (Mi.n1 A B) := sqr_fit sx e4
  have n2 : Fit (Mi.n2 A B) := sqr_fit sy e5
  have n3 : Fit (Mi.n3 A B) := add_fit n1 n2 e6
  have n4 : Fit (Mi.n4 A B) := sqr_fit sz e7
  have n5 : Fit (Mi.n5 A B) := add_fit n3 n4 e8
  have n : Fit (Mi.n A B) := HasQ.root_fit n5 e9
  exact ⟨sx, sy, sz, n1, n2, n3, n4, n5, n, (mul_in (.refl uh_fit) uh_fit (.refl n) n e10).fit, (div_in (.refl sz) sz (.refl n) n e11).fit⟩
theorem lean_in {a b A B : V3} (K : MF A B) (fA : FitV A) (fB : FitV B) (ia : InV a A) (ib : InV b B) : In (Mi.lean a b) (Mi.lean A B) ∧ In (Mi.half a b) (Mi.half A B) := by
  have I := mi_of K fA fB ia ib
  exact ⟨clamp_in I.l K.l, clamp_in I.h K.h⟩
theorem lean_u {A B : V3} (K : MF A B) : In (Mi.lean A B) ouI ∧ In (Mi.half A B) ouI := by
  have z0 : val 0 = 0 := by decide +kernel
  have us : val u1 = SS := by decide +kernel
  have o1 : val ouI.lo = 0 ∧ val ouI.hi = val u1 := by decide +kernel
  have s0 := SS0
  have key : ∀ r : Res, Fit r → In (clampR r) ouI := fun r f => by
    obtain ⟨_, _, c3⟩ := clamp_facts f.lo f.rlo
    obtain ⟨_, _, d3⟩ := clamp_facts f.hi f.rhi
    refine ⟨clamp_fit f, ?_, ?_⟩
    · rw [o1.1, show (clampR r).lo = clampW r.lo by simp only [clampR]]; omega
    · rw [o1.2, show (clampR r).hi = clampW r.hi by simp only [clampR]]; omega
  exact ⟨key _ K.l, key _ K.h⟩
structure VF (l i o a : Res) : Prop where
  D : Fit (Gx.D l a)
  w : Fit (Gx.w i o a)
  v : Fit (Gx.v o a)
  v1 : Fit (Mi.v1 l i o a)
  v2 : Fit (Mi.v2 i)
  v2' : Fit (Mi.v2 o)
  v3 : Fit (Mi.v3 i o)
  val : Fit (Mi.val l i o a)
  p1 : Fit (Mi.p1 l o a)
  den : Fit (Mi.den l o a)
theorem vf_steps {l i o a : Res} (fi : Fit i) (fo : Fit o) (D : Fit (Gx.D l a)) (w : Fit (Gx.w i o a)) (v : Fit (Gx.v o a)) (e1 : (Mi.v1 l i o a).e = 0) (e2 : (Mi.v2 i).e = 0) (e2' : (Mi.v2 o).e = 0) (e3 : (Mi.v3 i o).e = 0) (e4 : (Mi.val l i o a).e = 0) (e5 : (Mi.p1 l o a).e = 0) (e6 : (Mi.den l o a).e = 0) : VF l i o a := by
  have v1 : Fit (Mi.v1 l i o a) := (mul_in (.refl D) D (.refl w) w e1).fit
  have v2 : Fit (Mi.v2 i) := (mul_in (.refl w4_fit) w4_fit (.refl fi) fi e2).fit
  have v2' : Fit (Mi.v2 o) := (mul_in (.refl w4_fit) w4_fit (.refl fo) fo e2').fit
  have v3 : Fit (Mi.v3 i o) := (mul_in (.refl v2) v2 (.refl fo) fo e3).fit
  have p1 : Fit (Mi.p1 l o a) := (mul_in (.refl v) v (.refl D) D e5).fit
  exact ⟨D, w, v, v1, v2, v2', v3, (div_in (.refl v1) v1 (.refl v3) v3 e4).fit, p1, (div_in (.refl p1) p1 (.refl v2') v2' e6).fit⟩
theorem look_in {l i o a L I O A : Res} (K : VF L I O A) (fI : Fit I) (fO : Fit O) (hi : In i I) (ho : In o O) (dD : In (Gx.D l a) (Gx.D L A)) (dw : In (Gx.w i o a) (Gx.w I O A)) (dv : In (Gx.v o a) (Gx.v O A)) :
    VF l i o a ∧ In (Mi.val l i o a) (Mi.val L I O A) ∧ In (Mi.den l o a) (Mi.den L O A) := by
  have v1 : In (Mi.v1 l i o a) (Mi.v1 L I O A) := mul_in dD K.D dw K.w K.v1.e
  have v2 : In (Mi.v2 i) (Mi.v2 I) := mul_in (.refl w4_fit) w4_fit hi fI K.v2.e
  have v2' : In (Mi.v2 o) (Mi.v2 O) := mul_in (.refl w4_fit) w4_fit ho fO K.v2'.e
  have v3 : In (Mi.v3 i o) (Mi.v3 I O) := mul_in v2 K.v2 ho fO K.v3.e
  have vl : In (Mi.val l i o a) (Mi.val L I O A) := div_in v1 K.v1 v3 K.v3 K.val.e
  have p1 : In (Mi.p1 l o a) (Mi.p1 L O A) := mul_in dv K.v dD K.D K.p1.e
  have dn : In (Mi.den l o a) (Mi.den L O A) := div_in p1 K.p1 v2' K.v2' K.den.e
  exact ⟨⟨dD.fit, dw.fit, dv.fit, v1.fit, v2.fit, v2'.fit, v3.fit, vl.fit, p1.fit, dn.fit⟩, vl, dn⟩
end Go.Proofs.YthefgkgdadkgbaaGreat

namespace Go.Proofs.YthefgkgdadkgbaaGreat
open Go.RowKit
attribute [local go_sem] run_store_float


set_option maxRecDepth 100000 in
set_option maxHeartbeats 16000000 in
theorem near10_walk {xl xh ls gs : Nat} (w : World)
    (o_geqxl_ls : (((FloatKind.f64.format.order xl ls == some Ordering.gt) || (FloatKind.f64.format.order xl ls == some Ordering.eq)) = true))
    (o_leqxh_gs : (((FloatKind.f64.format.order xh gs == some Ordering.lt) || (FloatKind.f64.format.order xh gs == some Ordering.eq)) = true))
    (o_leqxl_xh : (((FloatKind.f64.format.order xl xh == some Ordering.lt) || (FloatKind.f64.format.order xl xh == some Ordering.eq)) = true)) :
    Calls Tryz.prog 28 #[.agg #[.float .f64 xl, .float .f64 xh], .float .f64 ls, .float .f64 gs] w fun r w' => r = .returned (.bool true) ∧ Below w.heap.size w w' := by
  have M := Lib.hid ((Own.nil w).made #[.float .f64 xl, .float .f64 xh] 27)
  have eqF := eq_floats
  go_enter Tryz.func28, Tryz.ntmps28
  obtain ⟨k1, k2⟩ := (M.out.nth 0 rfl).two
  go_wp2
  go_ret
  exact ⟨rfl, M.out.base⟩

set_option maxRecDepth 100000 in
set_option maxHeartbeats 16000000 in
theorem up10_walk (w : World)
    (c1 : Hid (∀ w, Calls Tryz.prog 27 #[.float .f64 4607182418800017408] w fun r w' => r = .returned (.agg #[.float .f64 4607182418800017408, .float .f64 4607182418800017408]) ∧ Below w.heap.size w w')) :
    Calls Tryz.prog 26 #[] w fun r w' => r = .returned (.agg #[.float .f64 0, .float .f64 0, .float .f64 0, .float .f64 0, .float .f64 4607182418800017408, .float .f64 4607182418800017408]) ∧ Below w.heap.size w w' := by
  have M := Lib.hid ((Own.nil w).made #[.float .f64 0, .float .f64 0, .float .f64 0, .float .f64 0, .float .f64 0, .float .f64 0] 29)
  have eqF := eq_floats
  go_enter Tryz.func26, Tryz.ntmps26
  go_wp2_with fail
  refine (c1.out _).mono ?_
  rintro r w1_ ⟨rfl, hb⟩
  replace M := Lib.hid (M.out.below hb)
  clear hb
  have kc := (M.out.nth 0 rfl).2.1
  have kf := (M.out.nth 0 rfl).2.2
  replace M : Hid (Own w [(w.heap.size, #[.float .f64 0, .float .f64 0, .float .f64 0, .float .f64 0, .float .f64 4607182418800017408, .float .f64 4607182418800017408])] _) := Lib.hid (M.out.set6 0 rfl (.float .f64 0) (.float .f64 0) (.float .f64 0) (.float .f64 0) (.float .f64 4607182418800017408) (.float .f64 4607182418800017408))
  go_wp2
  obtain ⟨f1, f2, f3, f4, f5, f6⟩ := (M.out.nth 0 rfl).six
  exact bodyPost_ret (v := .agg #[.float .f64 0, .float .f64 0, .float .f64 0, .float .f64 0, .float .f64 4607182418800017408, .float .f64 4607182418800017408]) (by simp [results, Tryz.results26, go_sem, f1, f2, f3, f4, f5, f6]) rfl ⟨rfl, M.out.base⟩

set_option maxRecDepth 100000 in
set_option maxHeartbeats 16000000 in
theorem dir_walk {u0 u1 u2 x y z : Nat} (w : World)
    (c1 : Hid (∀ w, Calls Tryz.prog 14 #[.float .f64 13830554455654793216, .float .f64 4607182418800017408, .int .u32 u0] w fun r w' => r = .returned (.float .f64 x) ∧ w = w'))
    (c2 : Hid (∀ w, Calls Tryz.prog 14 #[.float .f64 13830554455654793216, .float .f64 4607182418800017408, .int .u32 u1] w fun r w' => r = .returned (.float .f64 y) ∧ w = w'))
    (c3 : Hid (∀ w, Calls Tryz.prog 14 #[.float .f64 4580160821035794432, .float .f64 4607182418800017408, .int .u32 u2] w fun r w' => r = .returned (.float .f64 z) ∧ w = w')) :
    Calls Tryz.prog 12 #[.int .u32 u0, .int .u32 u1, .int .u32 u2] w fun r w' => r = .returned (.agg #[.float .f64 x, .float .f64 y, .float .f64 z]) ∧ Below w.heap.size w w' := by
  have M := Lib.hid ((Own.nil w).made #[.float .f64 x, .float .f64 y, .float .f64 z] 46)
  have eqF := eq_floats
  go_enter Tryz.func12, Tryz.ntmps12
  go_wp2_with fail
  refine (c1.out _).mono ?_
  rintro r w1_ ⟨rfl, rfl⟩
  go_wp2_with fail
  refine (c2.out _).mono ?_
  rintro r w2_ ⟨rfl, rfl⟩
  go_wp2_with fail
  refine (c3.out _).mono ?_
  rintro r w3_ ⟨rfl, rfl⟩
  go_wp2
  exact bodyPost_ret (v := .agg #[.float .f64 x, .float .f64 y, .float .f64 z]) (by simp [results, Tryz.results12, go_sem]) rfl ⟨rfl, M.out.base⟩

set_option maxRecDepth 100000 in
set_option maxHeartbeats 16000000 in
theorem two10_walk {u0 u1 u2 u3 u4 u5 x y z a0 a1 a2 a3 a4 a5 p q s b0 b1 b2 b3 b4 b5 : Nat} (w : World)
    (c1 : Hid (∀ w, Calls Tryz.prog 12 #[.int .u32 u0, .int .u32 u1, .int .u32 u2] w fun r w' => r = .returned (.agg #[.float .f64 x, .float .f64 y, .float .f64 z]) ∧ Below w.heap.size w w'))
    (c2 : Hid (∀ w, Calls Tryz.prog 11 #[.agg #[.float .f64 x, .float .f64 y, .float .f64 z]] w fun r w' => r = .returned (.tuple #[.agg #[.float .f64 a0, .float .f64 a1, .float .f64 a2, .float .f64 a3, .float .f64 a4, .float .f64 a5], .int .i64 0]) ∧ Below w.heap.size w w'))
    (c3 : Hid (∀ w, Calls Tryz.prog 12 #[.int .u32 u3, .int .u32 u4, .int .u32 u5] w fun r w' => r = .returned (.agg #[.float .f64 p, .float .f64 q, .float .f64 s]) ∧ Below w.heap.size w w'))
    (c4 : Hid (∀ w, Calls Tryz.prog 11 #[.agg #[.float .f64 p, .float .f64 q, .float .f64 s]] w fun r w' => r = .returned (.tuple #[.agg #[.float .f64 b0, .float .f64 b1, .float .f64 b2, .float .f64 b3, .float .f64 b4, .float .f64 b5], .int .i64 0]) ∧ Below w.heap.size w w'))
    (o_gtra4_0 : ((FloatKind.f64.format.order a4 0 == some Ordering.gt) = true))
    (o_gtrb4_0 : ((FloatKind.f64.format.order b4 0 == some Ordering.gt) = true)) :
    Calls Tryz.prog 4 #[.agg #[.int .u32 u0, .int .u32 u1, .int .u32 u2, .int .u32 u3, .int .u32 u4, .int .u32 u5]] w fun r w' => r = .returned (.tuple #[.agg #[.float .f64 a0, .float .f64 a1, .float .f64 a2, .float .f64 a3, .float .f64 a4, .float .f64 a5], .agg #[.float .f64 b0, .float .f64 b1, .float .f64 b2, .float .f64 b3, .float .f64 b4, .float .f64 b5], .bool true]) ∧ Below w.heap.size w w' := by
  have M := Lib.hid ((((Own.nil w).made #[.int .u32 u0, .int .u32 u1, .int .u32 u2, .int .u32 u3, .int .u32 u4, .int .u32 u5] 23).made #[.float .f64 0, .float .f64 0, .float .f64 0, .float .f64 0, .float .f64 0, .float .f64 0] 29).made #[.float .f64 0, .float .f64 0, .float .f64 0, .float .f64 0, .float .f64 0, .float .f64 0] 29)
  simp only [World.size_alloc] at M
  have eqF := eq_floats
  go_enter Tryz.func4, Tryz.ntmps4
  obtain ⟨k1, k2, k3, k4, k5, k6⟩ := (M.out.nth 2 rfl).six
  go_wp2_with fail
  refine (c1.out _).mono ?_
  rintro r w1_ ⟨rfl, hb⟩
  replace M := Lib.hid (M.out.below hb)
  clear hb
  clear k1 k2 k3 k4 k5 k6
  go_wp2_with fail
  refine (c2.out _).mono ?_
  rintro r w2_ ⟨rfl, hb⟩
  replace M := Lib.hid (M.out.below hb)
  clear hb
  replace M := Lib.hid (M.out.made #[.float .f64 a0, .float .f64 a1, .float .f64 a2, .float .f64 a3, .float .f64 a4, .float .f64 a5] 29)
  obtain ⟨k1, k2, k3, k4, k5, k6⟩ := (M.out.nth 3 rfl).six
  go_wp2_with fail
  refine (c3.out _).mono ?_
  rintro r w3_ ⟨rfl, hb⟩
  replace M := Lib.hid (M.out.below hb)
  clear hb
  clear k1 k2 k3 k4 k5 k6
  go_wp2_with fail
  refine (c4.out _).mono ?_
  rintro r w4_ ⟨rfl, hb⟩
  replace M := Lib.hid (M.out.below hb)
  clear hb
  replace M := Lib.hid (M.out.made #[.float .f64 b0, .float .f64 b1, .float .f64 b2, .float .f64 b3, .float .f64 b4, .float .f64 b5] 29)
  go_upto_region 3 with fail
  replace M := Lib.hid M.out.drew
  revert M
  generalize (w4_.alloc (.cells #[.float .f64 b0, .float .f64 b1, .float .f64 b2, .float .f64 b3, .float .f64 b4, .float .f64 b5] 29)) = W5_
  intro M
  refine wp_region_noPanic ?_
  refine tails_region (S := fun w' => (w'.cell? ⟨w2_.heap.size, 0, none⟩ = some (.float .f64 a0) ∧ w'.cell? ⟨w2_.heap.size, 1, none⟩ = some (.float .f64 a1) ∧ w'.cell? ⟨w2_.heap.size, 2, none⟩ = some (.float .f64 a2) ∧ w'.cell? ⟨w2_.heap.size, 3, none⟩ = some (.float .f64 a3) ∧ w'.cell? ⟨w2_.heap.size, 4, none⟩ = some (.float .f64 a4) ∧ w'.cell? ⟨w2_.heap.size, 5, none⟩ = some (.float .f64 a5)) ∧ (w'.cell? ⟨w4_.heap.size, 0, none⟩ = some (.float .f64 b0) ∧ w'.cell? ⟨w4_.heap.size, 1, none⟩ = some (.float .f64 b1) ∧ w'.cell? ⟨w4_.heap.size, 2, none⟩ = some (.float .f64 b2) ∧ w'.cell? ⟨w4_.heap.size, 3, none⟩ = some (.float .f64 b3) ∧ w'.cell? ⟨w4_.heap.size, 4, none⟩ = some (.float .f64 b4) ∧ w'.cell? ⟨w4_.heap.size, 5, none⟩ = some (.float .f64 b5))) [] (by kernel_rfl) ?_ (fun hS => ?_)
  · exact ⟨(M.out.nth 1 rfl).six, (M.out.nth 0 rfl).six⟩
  revert hS M
  generalize W5_.drew = V_
  intro M hS
  refine tk (x := ?_) 0 rfl (by kernel_rfl) ⟨by kernel_rfl, ?_⟩ (fun _ _ _ h => h) hS ?_
  rotate_left; focus (intro w hSw; (try dsimp only at hSw); go_simp; try with_reducible rfl)
  refine tk (x := ?_) 1 rfl (by kernel_rfl) ⟨by kernel_rfl, ?_⟩ (fun _ _ _ h => h) hS ?_
  rotate_left; focus (intro w hSw; (try dsimp only at hSw); go_simp; try with_reducible rfl)
  conv => arg 9; simp only [Act.put, go_sem]
  refine tk (x := ?_) 2 rfl (by kernel_rfl) ⟨by kernel_rfl, ?_⟩ (fun _ _ _ h => h) hS ?_
  rotate_left; focus (intro w hSw; (try dsimp only at hSw); go_simp; try with_reducible rfl)
  refine tk (x := ?_) 3 rfl (by kernel_rfl) ⟨by kernel_rfl, ?_⟩ (fun _ _ _ h => h) hS ?_
  rotate_left; focus (intro w hSw; (try dsimp only at hSw); go_simp; try with_reducible rfl)
  conv => arg 9; simp only [Act.put, go_sem]
  refine tk (x := ?_) 4 rfl (by kernel_rfl) ⟨by kernel_rfl, ?_⟩ (fun _ _ _ h => h) hS ?_
  rotate_left; focus (intro w hSw; (try dsimp only at hSw); go_simp; try with_reducible rfl)
  refine tk (x := ?_) 5 rfl (by kernel_rfl) ⟨by kernel_rfl, ?_⟩ (fun _ _ _ h => h) hS ?_
  rotate_left; focus (intro w hSw; (try dsimp only at hSw); go_simp; try with_reducible rfl)
  conv => arg 9; simp only [Act.put, go_sem]
  refine tk (x := ?_) 6 rfl (by kernel_rfl) ⟨by kernel_rfl, ?_⟩ (fun _ _ _ h => h) hS ?_
  rotate_left; focus (intro w hSw; (try dsimp only at hSw); go_simp; try with_reducible rfl)
  refine tk (x := ?_) 7 rfl (by kernel_rfl) ⟨by kernel_rfl, ?_⟩ (fun _ _ _ h => h) hS ?_
  rotate_left; focus (intro w hSw; (try dsimp only at hSw); go_simp; try with_reducible rfl)
  conv => arg 9; simp only [Act.put, go_sem]
  refine tk (x := ?_) 8 rfl (by kernel_rfl) ⟨by kernel_rfl, ?_⟩ (fun _ _ _ h => h) hS ?_
  rotate_left; focus (intro w hSw; (try dsimp only at hSw); go_simp; try with_reducible rfl)
  refine tk (x := ?_) 9 rfl (by kernel_rfl) ⟨by kernel_rfl, ?_⟩ (fun _ _ _ h => h) hS ?_
  rotate_left; focus (intro w hSw; (try dsimp only at hSw); go_simp; try with_reducible rfl)
  conv => arg 9; simp only [Act.put, go_sem]
  refine tk (x := ?_) 10 rfl (by kernel_rfl) ⟨by kernel_rfl, ?_⟩ (fun _ _ _ h => h) hS ?_
  rotate_left; focus (intro w hSw; (try dsimp only at hSw); go_simp; try with_reducible rfl)
  refine tk (x := ?_) 11 rfl (by kernel_rfl) ⟨by kernel_rfl, ?_⟩ (fun _ _ _ h => h) hS ?_
  rotate_left; focus (intro w hSw; (try dsimp only at hSw); go_simp; try with_reducible rfl)
  conv => arg 9; simp only [Act.put, go_sem]
  refine tk (x := ?_) 12 rfl (by kernel_rfl) ⟨by kernel_rfl, ?_⟩ (fun _ _ _ h => h) hS ?_
  rotate_left; focus (intro w hSw; (try dsimp only at hSw); go_simp; try with_reducible rfl)
  refine tk (x := ?_) 13 rfl (by kernel_rfl) ⟨by kernel_rfl, ?_⟩ (fun _ _ _ h => h) hS ?_
  rotate_left; focus (intro w hSw; (try dsimp only at hSw); go_simp; try with_reducible rfl)
  conv => arg 9; simp only [Act.put, go_sem]
  refine tk (x := ?_) 14 rfl (by kernel_rfl) ⟨by kernel_rfl, ?_⟩ (fun _ _ _ h => h) hS ?_
  rotate_left; focus (intro w hSw; (try dsimp only at hSw); go_simp; try with_reducible rfl)
  refine tk (x := ?_) 15 rfl (by kernel_rfl) ⟨by kernel_rfl, ?_⟩ (fun _ _ _ h => h) hS ?_
  rotate_left; focus (intro w hSw; (try dsimp only at hSw); go_simp; try with_reducible rfl)
  conv => arg 9; simp only [Act.put, go_sem]
  refine tk (x := ?_) 16 rfl (by kernel_rfl) ⟨by kernel_rfl, ?_⟩ (fun _ _ _ h => h) hS ?_
  rotate_left; focus (intro w hSw; (try dsimp only at hSw); go_simp; try with_reducible rfl)
  refine tk (x := ?_) 17 rfl (by kernel_rfl) ⟨by kernel_rfl, ?_⟩ (fun _ _ _ h => h) hS ?_
  rotate_left; focus (intro w hSw; (try dsimp only at hSw); go_simp; try with_reducible rfl)
  conv => arg 9; simp only [Act.put, go_sem]
  refine tk (x := ?_) 18 rfl (by kernel_rfl) ⟨by kernel_rfl, ?_⟩ (fun _ _ _ h => h) hS ?_
  rotate_left; focus (intro w hSw; (try dsimp only at hSw); go_simp; try with_reducible rfl)
  refine tk (x := ?_) 19 rfl (by kernel_rfl) ⟨by kernel_rfl, ?_⟩ (fun _ _ _ h => h) hS ?_
  rotate_left; focus (intro w hSw; (try dsimp only at hSw); go_simp; try with_reducible rfl)
  conv => arg 9; simp only [Act.put, go_sem]
  refine tails_one (T := []) (i := 20) (o := _) rfl (by kernel_rfl) (fun K hK => ?_)
  have kc := (M.out.nth 3 rfl).2.1
  have kf := (M.out.nth 3 rfl).2.2
  replace M : Hid (Own w [(w4_.heap.size, #[.float .f64 b0, .float .f64 b1, .float .f64 b2, .float .f64 b3, .float .f64 b4, .float .f64 b5]), (w2_.heap.size, #[.float .f64 a0, .float .f64 a1, .float .f64 a2, .float .f64 a3, .float .f64 a4, .float .f64 a5]), ((w.heap.size + 1 + 1), #[.float .f64 0, .float .f64 0, .float .f64 0, .float .f64 0, .float .f64 0, .float .f64 0]), ((w.heap.size + 1), #[.float .f64 a0, .float .f64 a1, .float .f64 a2, .float .f64 a3, .float .f64 a4, .float .f64 a5]), (w.heap.size, #[.int .u32 u0, .int .u32 u1, .int .u32 u2, .int .u32 u3, .int .u32 u4, .int .u32 u5])] _) := Lib.hid (M.out.set6 3 rfl (.float .f64 a0) (.float .f64 a1) (.float .f64 a2) (.float .f64 a3) (.float .f64 a4) (.float .f64 a5))
  go_simp
  refine hK.out _ _ (Or.inr ⟨(M.out.nth 1 rfl).six, (M.out.nth 0 rfl).six⟩) (fun hHeld => ?_)
  clear hK K hHeld kc kf
  refine tails_one (T := []) (i := 21) (o := _) rfl (by kernel_rfl) (fun K hK => ?_)
  have kc := (M.out.nth 2 rfl).2.1
  have kf := (M.out.nth 2 rfl).2.2
  replace M : Hid (Own w [(w4_.heap.size, #[.float .f64 b0, .float .f64 b1, .float .f64 b2, .float .f64 b3, .float .f64 b4, .float .f64 b5]), (w2_.heap.size, #[.float .f64 a0, .float .f64 a1, .float .f64 a2, .float .f64 a3, .float .f64 a4, .float .f64 a5]), ((w.heap.size + 1 + 1), #[.float .f64 b0, .float .f64 b1, .float .f64 b2, .float .f64 b3, .float .f64 b4, .float .f64 b5]), ((w.heap.size + 1), #[.float .f64 a0, .float .f64 a1, .float .f64 a2, .float .f64 a3, .float .f64 a4, .float .f64 a5]), (w.heap.size, #[.int .u32 u0, .int .u32 u1, .int .u32 u2, .int .u32 u3, .int .u32 u4, .int .u32 u5])] _) := Lib.hid (M.out.set6 2 rfl (.float .f64 b0) (.float .f64 b1) (.float .f64 b2) (.float .f64 b3) (.float .f64 b4) (.float .f64 b5))
  go_simp
  refine hK.out _ _ (Or.inr ⟨(M.out.nth 1 rfl).six, (M.out.nth 0 rfl).six⟩) (fun hHeld => ?_)
  clear hK K hHeld kc kf
  refine tails_one (T := []) (i := 22) (o := _) rfl (by kernel_rfl) (fun K hK => ?_)
  go_simp
  refine hK.out _ _ (Or.inr ⟨(M.out.nth 1 rfl).six, (M.out.nth 0 rfl).six⟩) (fun hHeld => ?_)
  clear hK K hHeld
  refine tails_done (by kernel_rfl) ?_ _
  refine NoPanic.normal ?_
  clear hS
  revert M
  generalize ((((((((((((V_.setCell ⟨(w.heap.size + 1), 0, none⟩ (.float .f64 a0)).setCell ⟨(w.heap.size + 1), 1, none⟩ (.float .f64 a1)).setCell ⟨(w.heap.size + 1), 2, none⟩ (.float .f64 a2)).setCell ⟨(w.heap.size + 1), 3, none⟩ (.float .f64 a3)).setCell ⟨(w.heap.size + 1), 4, none⟩ (.float .f64 a4)).setCell ⟨(w.heap.size + 1), 5, none⟩ (.float .f64 a5)).setCell ⟨(w.heap.size + 1 + 1), 0, none⟩ (.float .f64 b0)).setCell ⟨(w.heap.size + 1 + 1), 1, none⟩ (.float .f64 b1)).setCell ⟨(w.heap.size + 1 + 1), 2, none⟩ (.float .f64 b2)).setCell ⟨(w.heap.size + 1 + 1), 3, none⟩ (.float .f64 b3)).setCell ⟨(w.heap.size + 1 + 1), 4, none⟩ (.float .f64 b4)).setCell ⟨(w.heap.size + 1 + 1), 5, none⟩ (.float .f64 b5)) = W6_
  intro M
  go_wp2
  obtain ⟨f1, f2, f3, f4, f5, f6⟩ := (M.out.nth 3 rfl).six
  obtain ⟨f7, f8, f9, f10, f11, f12⟩ := (M.out.nth 2 rfl).six
  exact bodyPost_ret (v := .tuple #[.agg #[.float .f64 a0, .float .f64 a1, .float .f64 a2, .float .f64 a3, .float .f64 a4, .float .f64 a5], .agg #[.float .f64 b0, .float .f64 b1, .float .f64 b2, .float .f64 b3, .float .f64 b4, .float .f64 b5], .bool true]) (by simp [results, Tryz.results4, go_sem, f1, f2, f3, f4, f5, f6, f7, f8, f9, f10, f11, f12]) rfl ⟨rfl, M.out.base⟩

set_option maxRecDepth 100000 in
set_option maxHeartbeats 16000000 in
theorem awake10_walk {g0 g1 g2 g3 : Nat} (w : World)
    (c1 : Hid (∀ w, Calls Tryz.prog 26 #[] w fun r w' => r = .returned (.agg #[.float .f64 0, .float .f64 0, .float .f64 0, .float .f64 0, .float .f64 4607182418800017408, .float .f64 4607182418800017408]) ∧ Below w.heap.size w w'))
    (c3 : Hid (∀ w, Calls Tryz.prog 27 #[.float .f64 4602678819172646912] w fun r w' => r = .returned (.agg #[.float .f64 4602678819172646912, .float .f64 4602678819172646912]) ∧ Below w.heap.size w w'))
    (c4 : Hid (∀ w, Calls Tryz.prog 7 #[.agg #[.float .f64 0, .float .f64 0, .float .f64 0, .float .f64 0, .float .f64 4607182418800017408, .float .f64 4607182418800017408], .agg #[.float .f64 0, .float .f64 0, .float .f64 0, .float .f64 0, .float .f64 4607182418800017408, .float .f64 4607182418800017408], .agg #[.float .f64 4602678819172646912, .float .f64 4602678819172646912]] w fun r w' => r = .returned (.tuple #[.agg #[.float .f64 4607182418800017408, .float .f64 4607182418800017408, .float .f64 4607182418800017408, .float .f64 4607182418800017408, .float .f64 g0, .float .f64 g1, .float .f64 g2, .float .f64 g3], .int .i64 0]) ∧ Below w.heap.size w w'))
    (c5 : Hid (∀ w, Calls Tryz.prog 27 #[.float .f64 4607182418800017408] w fun r w' => r = .returned (.agg #[.float .f64 4607182418800017408, .float .f64 4607182418800017408]) ∧ Below w.heap.size w w'))
    (c6 : Hid (∀ w, Calls Tryz.prog 27 #[.float .f64 13830554455654793216] w fun r w' => r = .returned (.agg #[.float .f64 13830554455654793216, .float .f64 13830554455654793216]) ∧ Below w.heap.size w w'))
    (c7 : Hid (∀ w, Calls Tryz.prog 17 #[.agg #[.float .f64 4607182418800017408, .float .f64 4607182418800017408, .float .f64 0, .float .f64 0, .float .f64 0, .float .f64 0], .agg #[.float .f64 13830554455654793216, .float .f64 13830554455654793216, .float .f64 0, .float .f64 0, .float .f64 0, .float .f64 0]] w fun r w' => r = .returned (.tuple #[.agg #[.float .f64 0, .float .f64 0], .agg #[.float .f64 0, .float .f64 0], .int .i64 11]) ∧ Below w.heap.size w w'))
    (c10 : Hid (∀ w, Calls Tryz.prog 27 #[.float .f64 4611686018427387904] w fun r w' => r = .returned (.agg #[.float .f64 4611686018427387904, .float .f64 4611686018427387904]) ∧ Below w.heap.size w w'))
    (c11 : Hid (∀ w, Calls Tryz.prog 7 #[.agg #[.float .f64 0, .float .f64 0, .float .f64 0, .float .f64 0, .float .f64 4607182418800017408, .float .f64 4607182418800017408], .agg #[.float .f64 0, .float .f64 0, .float .f64 0, .float .f64 0, .float .f64 4607182418800017408, .float .f64 4607182418800017408], .agg #[.float .f64 4611686018427387904, .float .f64 4611686018427387904]] w fun r w' => r = .returned (.tuple #[.agg #[.float .f64 0, .float .f64 0, .float .f64 0, .float .f64 0, .float .f64 0, .float .f64 0, .float .f64 0, .float .f64 0], .int .i64 2]) ∧ Below w.heap.size w w'))
    (e_418800017408_418800017408 : (Op.floatEq .f64 4607182418800017408 4607182418800017408 = true))
    (c14 : Hid (∀ w, Calls Tryz.prog 28 #[.agg #[.float .f64 g0, .float .f64 g1], .float .f64 4599405781053817700, .float .f64 4599405781071832099] w fun r w' => r = .returned (.bool true) ∧ Below w.heap.size w w'))
    (c15 : Hid (∀ w, Calls Tryz.prog 28 #[.agg #[.float .f64 g2, .float .f64 g3], .float .f64 4599405781053817700, .float .f64 4599405781071832099] w fun r w' => r = .returned (.bool true) ∧ Below w.heap.size w w')) :
    Calls Tryz.prog 9 #[] w fun r w' => r = .returned (.bool true) ∧ Below w.heap.size w w' := by
  have M := Lib.hid (Own.nil w)
  have eqF := eq_floats
  go_enter Tryz.func9, Tryz.ntmps9
  go_wp2_with fail
  refine (c1.out _).mono ?_
  rintro r w1_ ⟨rfl, hb⟩
  replace M := Lib.hid (M.out.below hb)
  clear hb
  go_wp2_with fail
  refine (c1.out _).mono ?_
  rintro r w2_ ⟨rfl, hb⟩
  replace M := Lib.hid (M.out.below hb)
  clear hb
  go_wp2_with fail
  refine (c3.out _).mono ?_
  rintro r w3_ ⟨rfl, hb⟩
  replace M := Lib.hid (M.out.below hb)
  clear hb
  go_wp2_with fail
  refine (c4.out _).mono ?_
  rintro r w4_ ⟨rfl, hb⟩
  replace M := Lib.hid (M.out.below hb)
  clear hb
  replace M := Lib.hid (M.out.made #[.float .f64 4607182418800017408, .float .f64 4607182418800017408, .float .f64 4607182418800017408, .float .f64 4607182418800017408, .float .f64 g0, .float .f64 g1, .float .f64 g2, .float .f64 g3] 35)
  go_wp2_with fail
  refine (c5.out _).mono ?_
  rintro r w5_ ⟨rfl, hb⟩
  replace M := Lib.hid (M.out.below hb)
  clear hb
  go_wp2_with fail
  refine (c6.out _).mono ?_
  rintro r w6_ ⟨rfl, hb⟩
  replace M := Lib.hid (M.out.below hb)
  clear hb
  go_wp2_with fail
  refine (c7.out _).mono ?_
  rintro r w7_ ⟨rfl, hb⟩
  replace M := Lib.hid (M.out.below hb)
  clear hb
  replace M := Lib.hid (M.out.made #[.float .f64 0, .float .f64 0] 27)
  replace M := Lib.hid (M.out.made #[.float .f64 0, .float .f64 0] 27)
  simp only [World.size_alloc] at M
  go_wp2_with fail
  refine (c1.out _).mono ?_
  rintro r w8_ ⟨rfl, hb⟩
  replace M := Lib.hid (M.out.below hb)
  clear hb
  go_wp2_with fail
  refine (c1.out _).mono ?_
  rintro r w9_ ⟨rfl, hb⟩
  replace M := Lib.hid (M.out.below hb)
  clear hb
  go_wp2_with fail
  refine (c10.out _).mono ?_
  rintro r w10_ ⟨rfl, hb⟩
  replace M := Lib.hid (M.out.below hb)
  clear hb
  go_wp2_with fail
  refine (c11.out _).mono ?_
  rintro r w11_ ⟨rfl, hb⟩
  replace M := Lib.hid (M.out.below hb)
  clear hb
  replace M := Lib.hid (M.out.made #[.float .f64 0, .float .f64 0, .float .f64 0, .float .f64 0, .float .f64 0, .float .f64 0, .float .f64 0, .float .f64 0] 35)
  go_upto_region 4 with fail
  replace M := Lib.hid M.out.drew
  obtain ⟨k1, k2, k3, k4, k5, k6, k7, k8⟩ := (M.out.nth 3 rfl).eight
  go_region_held3 (fun w' => (w'.cell? ⟨w4_.heap.size, 0, none⟩ = some (.float .f64 4607182418800017408) ∧ w'.cell? ⟨w4_.heap.size, 1, none⟩ = some (.float .f64 4607182418800017408) ∧ w'.cell? ⟨w4_.heap.size, 2, none⟩ = some (.float .f64 4607182418800017408) ∧ w'.cell? ⟨w4_.heap.size, 3, none⟩ = some (.float .f64 4607182418800017408) ∧ w'.cell? ⟨w4_.heap.size, 4, none⟩ = some (.float .f64 g0) ∧ w'.cell? ⟨w4_.heap.size, 5, none⟩ = some (.float .f64 g1) ∧ w'.cell? ⟨w4_.heap.size, 6, none⟩ = some (.float .f64 g2) ∧ w'.cell? ⟨w4_.heap.size, 7, none⟩ = some (.float .f64 g3))) (((try dsimp only); (repeat' apply And.intro); all_goals (repeat (first | (with_reducible assumption) | ((with_reducible refine keep_undrew ?_); (with_reducible assumption)) | (with_reducible refine keep_drew ?_) | (with_reducible refine keep_alloc _ ?_) | (with_reducible refine keep_set _ (by first | (with_reducible assumption) | omega) ?_)))))
    (first
      | (go_at_call 27; (with_reducible refine (c5.out _).mono ?_); rintro rr w5 ⟨rfl, hb⟩; replace M := Lib.hid (M.out.below hb); clear hb; clear k1 k2 k3 k4 k5 k6 k7 k8; obtain ⟨k1, k2, k3, k4, k5, k6, k7, k8⟩ := (M.out.nth 3 rfl).eight)
      | (go_at_call 28; (with_reducible refine (c14.out _).mono ?_); rintro rr w5 ⟨rfl, hb⟩; replace M := Lib.hid (M.out.below hb); clear hb; clear k1 k2 k3 k4 k5 k6 k7 k8; obtain ⟨k1, k2, k3, k4, k5, k6, k7, k8⟩ := (M.out.nth 3 rfl).eight)
      | (go_at_call 28; (with_reducible refine (c15.out _).mono ?_); rintro rr w5 ⟨rfl, hb⟩; replace M := Lib.hid (M.out.below hb); clear hb; clear k1 k2 k3 k4 k5 k6 k7 k8; obtain ⟨k1, k2, k3, k4, k5, k6, k7, k8⟩ := (M.out.nth 3 rfl).eight))
  clear k1 k2 k3 k4 k5 k6 k7 k8
  go_wp2
  go_ret
  exact ⟨rfl, M.out.base⟩

end Go.Proofs.YthefgkgdadkgbaaGreat
