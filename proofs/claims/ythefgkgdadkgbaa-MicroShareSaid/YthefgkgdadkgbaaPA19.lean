/- What the claim stands on, part 20: MiM, MiN, MiO, MiQ, MiW, MiHL. -/
import Derived.Test.YthefgkgdadkgbaaPA18
import Derived.Test.YthefgkgdadkgbaaPA14
import Derived.Test.YthefgkgdadkgbaaPA13
import Derived.Deep.RegionHeld3
namespace Go.Proofs.Ythefgkgdadkgbaa
open Go.RowKit

def Mi.sx (A B : V3) : Res := addR A.x B.x
def Mi.sy (A B : V3) : Res := addR A.y B.y
def Mi.sz (A B : V3) : Res := addR A.z B.z
def Mi.n1 (A B : V3) : Res := sqrR (Mi.sx A B)
def Mi.n2 (A B : V3) : Res := sqrR (Mi.sy A B)
def Mi.n3 (A B : V3) : Res := addR (Mi.n1 A B) (Mi.n2 A B)
def Mi.n4 (A B : V3) : Res := sqrR (Mi.sz A B)
def Mi.n5 (A B : V3) : Res := addR (Mi.n3 A B) (Mi.n4 A B)
def Mi.n (A B : V3) : Res := sqrtR (Mi.n5 A B)
def Mi.h (A B : V3) : Res := mulR (oneR uh) (Mi.n A B)
def Mi.half (A B : V3) : Res := clampR (Mi.h A B)
def Mi.l (A B : V3) : Res := divR (Mi.sz A B) (Mi.n A B)
def Mi.lean (A B : V3) : Res := clampR (Mi.l A B)
structure MF (A B : V3) : Prop where
  sx : Fit (Mi.sx A B)
  sy : Fit (Mi.sy A B)
  sz : Fit (Mi.sz A B)
  n1 : Fit (Mi.n1 A B)
  n2 : Fit (Mi.n2 A B)
  n3 : Fit (Mi.n3 A B)
  n4 : Fit (Mi.n4 A B)
  n5 : Fit (Mi.n5 A B)
  n : Fit (Mi.n A B)
  h : Fit (Mi.h A B)
  l : Fit (Mi.l A B)
structure MI (a b A B : V3) : Prop where
  sx : In (Mi.sx a b) (Mi.sx A B)
  sy : In (Mi.sy a b) (Mi.sy A B)
  sz : In (Mi.sz a b) (Mi.sz A B)
  n1 : In (Mi.n1 a b) (Mi.n1 A B)
  n2 : In (Mi.n2 a b) (Mi.n2 A B)
  n3 : In (Mi.n3 a b) (Mi.n3 A B)
  n4 : In (Mi.n4 a b) (Mi.n4 A B)
  n5 : In (Mi.n5 a b) (Mi.n5 A B)
  n : In (Mi.n a b) (Mi.n A B)
  h : In (Mi.h a b) (Mi.h A B)
  l : In (Mi.l a b) (Mi.l A B)
theorem MI.fits {a b A B : V3} (h : MI a b A B) : MF a b := ⟨h.sx.fit, h.sy.fit, h.sz.fit, h.n1.fit, h.n2.fit, h.n3.fit, h.n4.fit, h.n5.fit, h.n.fit, h.h.fit, h.l.fit⟩
theorem mi_of {a b A B : V3} (K : MF A B) (fA : FitV A) (fB : FitV B) (ia : InV a A) (ib : InV b B) : MI a b A B := by
  have sx : In (Mi.sx a b) (Mi.sx A B) := add_in ia.x fA.x ib.x fB.x K.sx.e
  have sy : In (Mi.sy a b) (Mi.sy A B) := add_in ia.y fA.y ib.y fB.y K.sy.e
  have sz : In (Mi.sz a b) (Mi.sz A B) := add_in ia.z fA.z ib.z fB.z K.sz.e
  have n1 : In (Mi.n1 a b) (Mi.n1 A B) := sqr_in sx K.sx K.n1.e
  have n2 : In (Mi.n2 a b) (Mi.n2 A B) := sqr_in sy K.sy K.n2.e
  have n3 : In (Mi.n3 a b) (Mi.n3 A B) := add_in n1 K.n1 n2 K.n2 K.n3.e
  have n4 : In (Mi.n4 a b) (Mi.n4 A B) := sqr_in sz K.sz K.n4.e
  have n5 : In (Mi.n5 a b) (Mi.n5 A B) := add_in n3 K.n3 n4 K.n4 K.n5.e
  have n : In (Mi.n a b) (Mi.n A B) := root_in n5 K.n5 K.n.e
  exact ⟨sx, sy, sz, n1, n2, n3, n4, n5, n, mul_in (.refl uh_fit) uh_fit n K.n K.h.e, div_in sz K.sz n K.n K.l.e⟩
def okM (A B : V3) : Bool := fitB (Mi.sx A B) && fitB (Mi.sy A B) && fitB (Mi.sz A B) && fitB (Mi.n1 A B) && fitB (Mi.n2 A B) && fitB (Mi.n3 A B) && fitB (Mi.n4 A B) && fitB (Mi.n5 A B) && fitB (Mi.n A B) && fitB (Mi.h A B) && fitB (Mi.l A B)
theorem mf_of {A B : V3} (h : okM A B = true) : MF A B := by
  unfold okM at h
  simp only [Bool.and_eq_true] at h
  obtain ⟨⟨⟨⟨⟨⟨⟨⟨⟨⟨h1, h2⟩, h3⟩, h4⟩, h5⟩, h6⟩, h7⟩, h8⟩, h9⟩, h10⟩, h11⟩ := h
  exact ⟨.of h1, .of h2, .of h3, .of h4, .of h5, .of h6, .of h7, .of h8, .of h9, .of h10, .of h11⟩
def zI7 : Res := ⟨0, 4575657221408423936, u1⟩
def dB : V3 := ⟨⟨0, m1, u1⟩, ⟨0, m1, u1⟩, zI7⟩
theorem dB_fit : FitV dB := ⟨.of (by decide +kernel), .of (by decide +kernel), .of (by decide +kernel)⟩
theorem mf_box : MF dB dB := mf_of (by decide +kernel)
theorem mi_lows : 0 < val (Mi.n dB dB).lo ∧ val cI8.lo ≤ val (Mi.lean dB dB).lo ∧ val (Mi.lean dB dB).hi ≤ val cI8.hi ∧ val cI8.lo ≤ val zI7.lo := by decide +kernel
section
variable {A B : V3} (iA : InV A dB) (iB : InV B dB)
include iA iB
theorem md_in : MI A B dB dB := mi_of mf_box dB_fit dB_fit iA iB
theorem md_n0 : 0 < val (Mi.n A B).lo := by
  have := (md_in iA iB).n.lo
  have := mi_lows.1
  omega
theorem lean_c8 : In (Mi.lean A B) cI8 := by
  have h := clamp_in (md_in iA iB).l mf_box.l
  obtain ⟨_, h1, h2, _⟩ := mi_lows
  exact ⟨h.fit, Int.le_trans h1 h.lo, Int.le_trans h.hi h2⟩
end

def Cap0 (f : Nat → Rat) : Prop := ∀ e : Rat, 0 < e → ∃ M : Nat, ∀ m, M ≤ m → -e ≤ f m ∧ f m ≤ 1 + e
def keepQ (x : Rat) : Rat := if x ≤ 0 then 0 else if 1 ≤ x then 1 else x
theorem keepQ_near {x y e : Rat} (h1 : -e ≤ x - y) (h2 : x - y ≤ e) (h3 : -e ≤ y) (h4 : y ≤ 1 + e) (he : 0 ≤ e) : -(2 * e) ≤ keepQ x - y ∧ keepQ x - y ≤ 2 * e := by
  unfold keepQ
  split
  · constructor <;> grind
  · split <;> constructor <;> grind
theorem HasQ.keep {r : Res} {x : Rat} (fr : Fit r) (h : HasQ r x) : HasQ (clampR r) (keepQ x) := by
  obtain ⟨_, _, x3⟩ := clamp_facts fr.lo fr.rlo
  obtain ⟨_, _, y3⟩ := clamp_facts fr.hi fr.rhi
  have e1 : (clampR r).lo = clampW r.lo := rfl
  have e2 : (clampR r).hi = clampW r.hi := rfl
  have us : val u1 = SS := by decide +kernel
  have S := ssQ
  have s0 := SS0
  rw [us] at x3 y3
  have hl := h.low
  have hh := h.high
  unfold keepQ
  by_cases g : x ≤ 0
  · rw [if_pos g]
    have t := Rat.mul_le_mul_of_nonneg_right g (Rat.le_of_lt S)
    rw [Rat.zero_mul] at t
    have l0 : val r.lo ≤ 0 := Rat.intCast_le_intCast.1 (by exact Rat.le_trans hl t)
    refine ⟨?_, ?_⟩
    · rw [e1, x3, Rat.zero_mul]; exact Rat.intCast_le_intCast.2 (by omega : min (max (val r.lo) 0) SS ≤ 0)
    · rw [e2, y3, Rat.zero_mul]; exact Rat.intCast_le_intCast.2 (by omega : 0 ≤ min (max (val r.hi) 0) SS)
  · rw [if_neg g]
    by_cases k : 1 ≤ x
    · rw [if_pos k]
      have t := Rat.mul_le_mul_of_nonneg_right k (Rat.le_of_lt S)
      rw [Rat.one_mul] at t
      have l0 : SS ≤ val r.hi := Rat.intCast_le_intCast.1 (by exact Rat.le_trans t hh)
      refine ⟨?_, ?_⟩
      · rw [e1, x3, Rat.one_mul]; exact Rat.intCast_le_intCast.2 (by omega : min (max (val r.lo) 0) SS ≤ SS)
      · rw [e2, y3, Rat.one_mul]; exact Rat.intCast_le_intCast.2 (by omega : SS ≤ min (max (val r.hi) 0) SS)
    · rw [if_neg k]
      have g0 : 0 ≤ x := by grind
      have t0 := Rat.mul_nonneg g0 (Rat.le_of_lt S)
      have t1 := Rat.mul_le_mul_of_nonneg_right (by grind : x ≤ 1) (Rat.le_of_lt S)
      rw [Rat.one_mul] at t1
      refine ⟨?_, ?_⟩
      · rw [e1, x3]
        rcases Int.le_total (val r.lo) 0 with c | c
        · rw [show min (max (val r.lo) 0) SS = 0 by omega]; exact t0
        · refine Rat.le_trans (Rat.intCast_le_intCast.2 (by omega : min (max (val r.lo) 0) SS ≤ val r.lo)) hl
      · rw [e2, y3]
        rcases Int.le_total SS (val r.hi) with c | c
        · rw [show min (max (val r.hi) 0) SS = SS by omega]; exact t1
        · refine Rat.le_trans hh (Rat.intCast_le_intCast.2 (by omega : val r.hi ≤ min (max (val r.hi) 0) SS))
theorem HasS.keep {r : Res} {f : Nat → Rat} (fr : Fit r) (h : HasS r f) (c : Cap0 f) : HasS (clampR r) f := by
  obtain ⟨f', a, k⟩ := h
  refine ⟨fun m => keepQ (f' m), fun m => (a m).keep fr, fun e he => ?_⟩
  obtain ⟨M, hM⟩ := k (e / 2) (by grind)
  obtain ⟨N, hN⟩ := c (e / 2) (by grind)
  refine ⟨M + N, fun m hm => ?_⟩
  have h1 := hM m (by omega)
  have h2 := hN m (by omega)
  have := keepQ_near (e := e / 2) h1.1 h1.2 h2.1 h2.2 (by grind)
  grind

def sumQ (f g h f' g' h' : Rat) : Rat := (f + f') * (f + f') + (g + g') * (g + g') + (h + h') * (h + h')
theorem sumQ_le (f g h f' g' h' : Rat) : sumQ f g h f' g' h' ≤ 2 * (f * f + (g * g + h * h)) + 2 * (f' * f' + (g' * g' + h' * h')) := by
  unfold sumQ
  have a := sq_nn (f - f')
  have b := sq_nn (g - g')
  have c := sq_nn (h - h')
  grind
theorem sumQ_ge (f g h f' g' h' : Rat) : (h + h') * (h + h') ≤ sumQ f g h f' g' h' := by
  unfold sumQ
  have a := sq_nn (f + f')
  have b := sq_nn (g + g')
  grind
section
variable {A B : V3} {f g h f' g' h' : Nat → Rat} (K : MF A B) (FA : FitV A) (FB : FitV B) (n0 : 0 < val (Mi.n A B).lo)
  (a1 : HasS A.x f) (a2 : HasS A.y g) (a3 : HasS A.z h) (b1 : HasS B.x f') (b2 : HasS B.y g') (b3 : HasS B.z h')
  (uA : Eqv (fun m => f m * f m + (g m * g m + h m * h m)) fun _ => 1) (uB : Eqv (fun m => f' m * f' m + (g' m * g' m + h' m * h' m)) fun _ => 1) (pA : ∀ m, 0 ≤ h m) (pB : ∀ m, 0 ≤ h' m)
include K FA FB n0 a1 a2 a3 b1 b2 b3 uA uB pA pB
theorem half_seq : ∃ (y : Nat → Rat) (d : Rat), HasS (Mi.n A B) y ∧ 0 < d ∧ Abv d y ∧ Eqv (fun m => y m * y m) (fun m => sumQ (f m) (g m) (h m) (f' m) (g' m) (h' m)) ∧
    HasS (Mi.sz A B) (fun m => h m + h' m) ∧ HasS (Mi.half A B) (fun m => y m / 2) ∧ HasS (Mi.lean A B) (fun m => (h m + h' m) / y m) := by
  have sx := HasS.add FA.x FB.x a1 b1 K.sx.e
  have sy := HasS.add FA.y FB.y a2 b2 K.sy.e
  have sz := HasS.add FA.z FB.z a3 b3 K.sz.e
  have n1 := HasS.sqr K.sx sx K.n1.e
  have n2 := HasS.sqr K.sy sy K.n2.e
  have n3 := HasS.add K.n1 K.n2 n1 n2 K.n3.e
  have n4 := HasS.sqr K.sz sz K.n4.e
  have n5 := HasS.add K.n3 K.n4 n3 n4 K.n5.e
  obtain ⟨y, hy, y0, ye⟩ := HasS.sqrt K.n5 n5 K.n.e
  have hy : HasS (Mi.n A B) y := hy
  obtain ⟨d, d0, ad⟩ := hy.abv n0
  have hh := HasS.mul uh_fit K.n (HasS.const half_has) hy K.h.e
  have hl := HasS.div K.sz K.n sz hy n0 K.l.e
  have cH : Cap0 fun m => 1 / 2 * y m := fun e he => by
    obtain ⟨M1, k1⟩ := ye e he
    obtain ⟨M2, k2⟩ := uA e he
    obtain ⟨M3, k3⟩ := uB e he
    refine ⟨M1 + M2 + M3, fun m hm => ?_⟩
    have q1 := (k1 m (by omega)).2
    have q2 := (k2 m (by omega)).2
    have q3 := (k3 m (by omega)).2
    have q4 := sumQ_le (f m) (g m) (h m) (f' m) (g' m) (h' m)
    have q5 := y0 m
    unfold sumQ at q4
    simp only at q1 q2 q3
    constructor
    · show -e ≤ 1 / 2 * y m
      grind
    · show 1 / 2 * y m ≤ 1 + e
      rcases Rat.le_total (a := 1 / 2 * y m) (b := 1 + e) with q | q
      · exact q
      · have t1 := Rat.mul_nonneg (by grind : 0 ≤ y m - 2 * (1 + e)) (by grind : 0 ≤ y m + 2 * (1 + e))
        have t2 := Rat.mul_nonneg (by grind : 0 ≤ e) (by grind : 0 ≤ e)
        grind
  have cL : Cap0 fun m => (h m + h' m) / y m := fun e he => by
    have dd := Rat.mul_pos d0 d0
    obtain ⟨M1, k1⟩ := ye (e * (d * d)) (Rat.mul_pos he dd)
    obtain ⟨M2, k2⟩ := ad
    refine ⟨M1 + M2, fun m hm => ?_⟩
    have q1 := (k1 m (by omega)).1
    have q2 := k2 m (by omega)
    have q4 := sumQ_ge (f m) (g m) (h m) (f' m) (g' m) (h' m)
    have q5 : 0 < y m := by grind
    have q6 := pA m
    have q7 := pB m
    unfold sumQ at q4
    simp only at q1
    have i : (h m + h' m) / y m * y m = h m + h' m := by grind
    constructor
    · show -e ≤ (h m + h' m) / y m
      have : 0 ≤ (h m + h' m) / y m := by
        rw [Rat.div_def]
        exact Rat.mul_nonneg (by grind) (Rat.le_of_lt (Rat.inv_pos.2 q5))
      grind
    · show (h m + h' m) / y m ≤ 1 + e
      refine Rat.le_of_mul_le_mul_right (c := y m) ?_ q5
      rw [i]
      rcases Rat.le_total (a := h m + h' m) (b := (1 + e) * y m) with q | q
      · exact q
      · have t0 := Rat.mul_nonneg (by grind : 0 ≤ 1 + e) (Rat.le_of_lt q5)
        have t1 := Rat.mul_nonneg (by grind : 0 ≤ h m + h' m - (1 + e) * y m) (by grind : 0 ≤ h m + h' m + (1 + e) * y m)
        have t2 := Rat.mul_nonneg (by grind : 0 ≤ y m - d) (by grind : 0 ≤ y m + d)
        have t3 := Rat.mul_nonneg (Rat.le_of_lt he) t2
        have t4 := Rat.mul_pos he dd
        have t5 := Rat.mul_nonneg (Rat.mul_nonneg (Rat.le_of_lt he) (Rat.le_of_lt he)) (Rat.mul_nonneg (Rat.le_of_lt q5) (Rat.le_of_lt q5))
        grind
  exact ⟨y, d, hy, d0, ad, ye, sz, (HasS.keep K.h hh cH).turn (Eqv.of fun m => by grind), HasS.keep K.l hl cL⟩
end
end Go.Proofs.Ythefgkgdadkgbaa

namespace Go.Proofs.Ythefgkgdadkgbaa
open Go.RowKit

def w4 : Nat := 4616189618054758400
theorem w4_fit : Fit (oneR w4) := one_fit (by decide) (by decide)
theorem w24_val : val w2 = 2 * SS ∧ val w4 = 4 * SS := by decide +kernel
theorem two_has : HasQ (oneR w2) 2 := HasQ.lit w24_val.1 rfl
theorem four_has : HasQ (oneR w4) 4 := HasQ.lit w24_val.2 rfl

def Mi.t (A B : V3) : Res := mulR (oneR w2) (Mi.half A B)
def Mi.u (A B : V3) : Res := mulR (Mi.t A B) (Mi.lean A B)
def Mi.d1 (A B : V3) : Res := mulR A.x B.x
def Mi.d2 (A B : V3) : Res := mulR A.y B.y
def Mi.d3 (A B : V3) : Res := addR (Mi.d1 A B) (Mi.d2 A B)
def Mi.d4 (A B : V3) : Res := mulR A.z B.z
def Mi.d5 (A B : V3) : Res := addR (Mi.d3 A B) (Mi.d4 A B)
def Mi.q (A B : V3) : Res := addR (oneR u1) (Mi.d5 A B)
def Mi.r (A B : V3) : Res := divR (Mi.q A B) (oneR w2)
def Mi.w (A B : V3) : Res := sqrR (Mi.half A B)
structure NI (a b A B : V3) : Prop where
  t : In (Mi.t a b) (Mi.t A B)
  u : In (Mi.u a b) (Mi.u A B)
  d1 : In (Mi.d1 a b) (Mi.d1 A B)
  d2 : In (Mi.d2 a b) (Mi.d2 A B)
  d3 : In (Mi.d3 a b) (Mi.d3 A B)
  d4 : In (Mi.d4 a b) (Mi.d4 A B)
  d5 : In (Mi.d5 a b) (Mi.d5 A B)
  q : In (Mi.q a b) (Mi.q A B)
  r : In (Mi.r a b) (Mi.r A B)
  w : In (Mi.w a b) (Mi.w A B)
theorem n_boxes : (fitB (Mi.t dB dB) && fitB (Mi.u dB dB) && fitB (Mi.d1 dB dB) && fitB (Mi.d2 dB dB) && fitB (Mi.d3 dB dB) && fitB (Mi.d4 dB dB) && fitB (Mi.d5 dB dB) && fitB (Mi.q dB dB) && fitB (Mi.r dB dB) && fitB (Mi.w dB dB)) = true ∧ 0 < val (oneR w2).lo := by decide +kernel
section
variable {A B : V3} (iA : InV A dB) (iB : InV B dB)
include iA iB
theorem nd_in : NI A B dB dB := by
  have h := n_boxes.1
  simp only [Bool.and_eq_true] at h
  obtain ⟨⟨⟨⟨⟨⟨⟨⟨⟨h1, h2⟩, h3⟩, h4⟩, h5⟩, h6⟩, h7⟩, h8⟩, h9⟩, h10⟩ := h
  have M := md_in iA iB
  have ih := clamp_in M.h mf_box.h
  have fh := clamp_fit mf_box.h
  have il := clamp_in M.l mf_box.l
  have fl := clamp_fit mf_box.l
  have t : In (Mi.t A B) (Mi.t dB dB) := mul_in (.refl w2_fit) w2_fit ih fh (Fit.of h1).e
  have d1 : In (Mi.d1 A B) (Mi.d1 dB dB) := mul_in iA.x dB_fit.x iB.x dB_fit.x (Fit.of h3).e
  have d2 : In (Mi.d2 A B) (Mi.d2 dB dB) := mul_in iA.y dB_fit.y iB.y dB_fit.y (Fit.of h4).e
  have d3 : In (Mi.d3 A B) (Mi.d3 dB dB) := add_in d1 (.of h3) d2 (.of h4) (Fit.of h5).e
  have d4 : In (Mi.d4 A B) (Mi.d4 dB dB) := mul_in iA.z dB_fit.z iB.z dB_fit.z (Fit.of h6).e
  have d5 : In (Mi.d5 A B) (Mi.d5 dB dB) := add_in d3 (.of h5) d4 (.of h6) (Fit.of h7).e
  have q : In (Mi.q A B) (Mi.q dB dB) := add_in (.refl u1_fit) u1_fit d5 (.of h7) (Fit.of h8).e
  exact ⟨t, mul_in t (.of h1) il fl (Fit.of h2).e, d1, d2, d3, d4, d5, q, div_in q (.of h8) (.refl w2_fit) w2_fit (Fit.of h9).e, sqr_in ih fh (Fit.of h10).e⟩
end

theorem half_meets {A B : V3} {f g h f' g' h' : Nat → Rat} (iA : InV A dB) (iB : InV B dB)
    (a1 : HasS A.x f) (a2 : HasS A.y g) (a3 : HasS A.z h) (b1 : HasS B.x f') (b2 : HasS B.y g') (b3 : HasS B.z h')
    (uA : Eqv (fun m => f m * f m + (g m * g m + h m * h m)) fun _ => 1) (uB : Eqv (fun m => f' m * f' m + (g' m * g' m + h' m * h' m)) fun _ => 1) (pA : ∀ m, 0 ≤ h m) (pB : ∀ m, 0 ≤ h' m) :
    (val (Mi.sz A B).lo ≤ val (Mi.u A B).hi ∧ val (Mi.u A B).lo ≤ val (Mi.sz A B).hi) ∧ (val (Mi.w A B).lo ≤ val (Mi.r A B).hi ∧ val (Mi.r A B).lo ≤ val (Mi.w A B).hi) := by
  have M := md_in iA iB
  have N := nd_in iA iB
  have K := M.fits
  have FA : FitV A := ⟨iA.x.fit, iA.y.fit, iA.z.fit⟩
  have FB : FitV B := ⟨iB.x.fit, iB.y.fit, iB.z.fit⟩
  obtain ⟨y, d, hy, d0, ad, ye, sz, hh, hl⟩ := half_seq K FA FB (md_n0 iA iB) a1 a2 a3 b1 b2 b3 uA uB pA pB
  have fh := clamp_fit K.h
  have fl := clamp_fit K.l
  have t := HasS.mul w2_fit fh (HasS.const two_has) hh N.t.fit.e
  have u := HasS.mul N.t.fit fl t hl N.u.fit.e
  have w := HasS.sqr fh hh N.w.fit.e
  have d1 := HasS.mul FA.x FB.x a1 b1 N.d1.fit.e
  have d2 := HasS.mul FA.y FB.y a2 b2 N.d2.fit.e
  have d3 := HasS.add N.d1.fit N.d2.fit d1 d2 N.d3.fit.e
  have d4 := HasS.mul FA.z FB.z a3 b3 N.d4.fit.e
  have d5 := HasS.add N.d3.fit N.d4.fit d3 d4 N.d5.fit.e
  have q := HasS.add u1_fit N.d5.fit (HasS.const one_has) d5 N.q.fit.e
  have r := HasS.div N.q.fit w2_fit q (HasS.const two_has) n_boxes.2 N.r.fit.e
  refine ⟨HasS.meet sz (u.turn ?_), HasS.meet w (r.turn ?_)⟩
  · intro e he
    obtain ⟨M1, k1⟩ := ad
    refine ⟨M1, fun m hm => ?_⟩
    have q1 := k1 m hm
    have i : 2 * (y m / 2) * ((h m + h' m) / y m) - (h m + h' m) = 0 := by
      have : y m ≠ 0 := by grind
      grind
    show -e ≤ 2 * (y m / 2) * ((h m + h' m) / y m) - (h m + h' m) ∧ 2 * (y m / 2) * ((h m + h' m) / y m) - (h m + h' m) ≤ e
    rw [i]
    constructor <;> grind
  · intro e he
    obtain ⟨M1, k1⟩ := ye e he
    obtain ⟨M2, k2⟩ := uA e he
    obtain ⟨M3, k3⟩ := uB e he
    refine ⟨M1 + M2 + M3, fun m hm => ?_⟩
    have q1 := k1 m (by omega)
    have q2 := k2 m (by omega)
    have q3 := k3 m (by omega)
    unfold sumQ at q1
    simp only at q1 q2 q3 ⊢
    constructor <;> grind

def Mi.v1 (l i o a : Res) : Res := mulR (Gx.D l a) (Gx.w i o a)
def Mi.v2 (i : Res) : Res := mulR (oneR w4) i
def Mi.v3 (i o : Res) : Res := mulR (Mi.v2 i) o
def Mi.val (l i o a : Res) : Res := divR (Mi.v1 l i o a) (Mi.v3 i o)
def Mi.p1 (l o a : Res) : Res := mulR (Gx.v o a) (Gx.D l a)
def Mi.den (l o a : Res) : Res := divR (Mi.p1 l o a) (Mi.v2 o)
def Mi.s1 (l i o a : Res) : Res := mulR (Mi.val l i o a) i
def Mi.s2 (l i o a : Res) : Res := mulR (Mi.s1 l i o a) (Gx.v o a)
def Mi.s3 (l i o a : Res) : Res := mulR (Mi.den l o a) (Gx.w i o a)
structure VI (l i o a L I O A : Res) : Prop where
  v1 : In (Mi.v1 l i o a) (Mi.v1 L I O A)
  v2 : In (Mi.v2 i) (Mi.v2 I)
  v2' : In (Mi.v2 o) (Mi.v2 O)
  v3 : In (Mi.v3 i o) (Mi.v3 I O)
  val : In (Mi.val l i o a) (Mi.val L I O A)
  p1 : In (Mi.p1 l o a) (Mi.p1 L O A)
  den : In (Mi.den l o a) (Mi.den L O A)
  s1 : In (Mi.s1 l i o a) (Mi.s1 L I O A)
  s2 : In (Mi.s2 l i o a) (Mi.s2 L I O A)
  s3 : In (Mi.s3 l i o a) (Mi.s3 L I O A)
theorem v_boxes : (fitB (Mi.v1 cI8 cI8 cI8 aI) && fitB (Mi.v2 cI8) && fitB (Mi.v3 cI8 cI8) && fitB (Mi.val cI8 cI8 cI8 aI) && fitB (Mi.p1 cI8 cI8 aI) && fitB (Mi.den cI8 cI8 aI) && fitB (Mi.s1 cI8 cI8 cI8 aI) && fitB (Mi.s2 cI8 cI8 cI8 aI) && fitB (Mi.s3 cI8 cI8 cI8 aI)) = true := by decide +kernel
theorem v_lows : 0 < val (Mi.v2 cI8).lo ∧ 0 < val (Mi.v3 cI8 cI8).lo ∧ 0 ≤ val (Mi.val cI8 cI8 cI8 aI).lo ∧ 0 ≤ val (Mi.den cI8 cI8 aI).lo ∧ 0 < val cI8.lo := by decide +kernel
theorem fst_pos {c : Res} (hc : In c cI8) : ∃ x : Rat, HasQ c x ∧ x ≠ 0 := by
  refine ⟨_, HasQ.fst hc.fit, ?_⟩
  have h := hc.lo
  have p := v_lows.2.2.2.2
  have n : (0 : Rat) < ((val c.lo : Int) : Rat) := Rat.intCast_pos.2 (by omega)
  have := Rat.mul_pos n (Rat.inv_pos.2 ssQ)
  rw [Rat.div_def]
  grind
section
variable {l i o a : Res} (hl : In l cI8) (hi : In i cI8) (ho : In o cI8) (ha : In a aI)
include hl hi ho ha
theorem vd_in : VI l i o a cI8 cI8 cI8 aI := by
  have h := v_boxes
  simp only [Bool.and_eq_true] at h
  obtain ⟨⟨⟨⟨⟨⟨⟨⟨h1, h2⟩, h3⟩, h4⟩, h5⟩, h6⟩, h7⟩, h8⟩, h9⟩ := h
  have D := (g8_in hl ha).D
  have W := w_in hi ho ha
  have V := (l8_in ho ha).v
  have v1 : In (Mi.v1 l i o a) (Mi.v1 cI8 cI8 cI8 aI) := mul_in D gf_box8.D W w_boxes.2 (Fit.of h1).e
  have v2 : In (Mi.v2 i) (Mi.v2 cI8) := mul_in (.refl w4_fit) w4_fit hi cI8_fit (Fit.of h2).e
  have v2' : In (Mi.v2 o) (Mi.v2 cI8) := mul_in (.refl w4_fit) w4_fit ho cI8_fit (Fit.of h2).e
  have v3 : In (Mi.v3 i o) (Mi.v3 cI8 cI8) := mul_in v2 (.of h2) ho cI8_fit (Fit.of h3).e
  have vl : In (Mi.val l i o a) (Mi.val cI8 cI8 cI8 aI) := div_in v1 (.of h1) v3 (.of h3) (Fit.of h4).e
  have p1 : In (Mi.p1 l o a) (Mi.p1 cI8 cI8 aI) := mul_in V lf_box.v D gf_box8.D (Fit.of h5).e
  have dn : In (Mi.den l o a) (Mi.den cI8 cI8 aI) := div_in p1 (.of h5) v2' (.of h2) (Fit.of h6).e
  have s1 : In (Mi.s1 l i o a) (Mi.s1 cI8 cI8 cI8 aI) := mul_in vl (.of h4) hi cI8_fit (Fit.of h7).e
  exact ⟨v1, v2, v2', v3, vl, p1, dn, s1, mul_in s1 (.of h7) V lf_box.v (Fit.of h8).e, mul_in dn (.of h6) W w_boxes.2 (Fit.of h9).e⟩
theorem value_has {x y d : Rat} (hx : HasQ i x) (hy : HasQ o y) (hd : HasQ (Gx.D l a) d) : HasQ (Mi.val l i o a) (d * (1 / (1 + lq i a + lq o a)) / (4 * x * y)) ∧ HasQ (Mi.den l o a) (1 / (1 + lq o a) * d / (4 * y)) := by
  have V := vd_in hl hi ho ha
  have D := (g8_in hl ha).D.fit
  have W := (w_in hi ho ha).fit
  obtain ⟨p1, p2, _⟩ := v_lows
  have v1 := HasQ.mul D W hd (w_has hi ha ho) V.v1.fit.e
  have v2 := HasQ.mul w4_fit hi.fit four_has hx V.v2.fit.e
  have v2' := HasQ.mul w4_fit ho.fit four_has hy V.v2'.fit.e
  have v3 := HasQ.mul V.v2.fit ho.fit v2 hy V.v3.fit.e
  have q1 := HasQ.mul (l8_in ho ha).v.fit D (v_has ho ha) hd V.p1.fit.e
  exact ⟨HasQ.div V.v1.fit V.v3.fit v1 v3 (by have := V.v3.lo; omega) V.val.fit.e, HasQ.div V.p1.fit V.v2'.fit q1 v2' (by have := V.v2'.lo; omega) V.den.fit.e⟩
theorem back_meets : val (Mi.val l i o a).lo ≤ val (Mi.val l o i a).hi ∧ val (Mi.val l o i a).lo ≤ val (Mi.val l i o a).hi := by
  obtain ⟨x, hx, _⟩ := fst_pos hi
  obtain ⟨y, hy, _⟩ := fst_pos ho
  have hd := HasQ.fst (g8_in hl ha).D.fit
  have k1 := (value_has hl hi ho ha hx hy hd).1
  have k2 := (value_has hl ho hi ha hy hx hd).1
  rw [show 1 + lq o a + lq i a = 1 + lq i a + lq o a by grind, show 4 * y * x = 4 * x * y by grind] at k2
  exact ⟨has_le k1 k2 Rat.le_refl, has_le k2 k1 Rat.le_refl⟩
theorem share_meets : val (Mi.s2 l i o a).lo ≤ val (Mi.s3 l i o a).hi ∧ val (Mi.s3 l i o a).lo ≤ val (Mi.s2 l i o a).hi := by
  obtain ⟨x, hx, x0⟩ := fst_pos hi
  obtain ⟨y, hy, y0⟩ := fst_pos ho
  have hd := HasQ.fst (g8_in hl ha).D.fit
  obtain ⟨k1, k2⟩ := value_has hl hi ho ha hx hy hd
  have V := vd_in hl hi ho ha
  have s1 := HasQ.mul V.val.fit hi.fit k1 hx V.s1.fit.e
  have s2 := HasQ.mul V.s1.fit (l8_in ho ha).v.fit s1 (v_has ho ha) V.s2.fit.e
  have s3 := HasQ.mul V.den.fit (w_in hi ho ha).fit k2 (w_has hi ha ho) V.s3.fit.e
  have e : ∀ d g k : Rat, d * g / (4 * x * y) * x * k = k * d / (4 * y) * g := fun d g k => by grind
  rw [e] at s2
  exact ⟨has_le s2 s3 Rat.le_refl, has_le s3 s2 Rat.le_refl⟩
end
end Go.Proofs.Ythefgkgdadkgbaa

namespace Go.Proofs.Ythefgkgdadkgbaa
open Go.RowKit

theorem down_one {s : Nat} {T : Int} {c c' : Nat} (h : Down s T c 0) (h' : Down s T c' 0) : c = c' := by
  obtain ⟨c1, c2, c3, c4⟩ := h.ok
  obtain ⟨d1, d2, d3, d4⟩ := h'.ok
  exact val_inj c1 d1 c2 d2 (Int.le_antisymm (d4 c c1 c2 c3) (c4 c' d1 d2 d3))
theorem up_one {s : Nat} {T : Int} {c c' : Nat} (h : Up s T c 0) (h' : Up s T c' 0) : c = c' := by
  obtain ⟨c1, c2, c3, c4⟩ := h.ok
  obtain ⟨d1, d2, d3, d4⟩ := h'.ok
  exact val_inj c1 d1 c2 d2 (Int.le_antisymm (c4 c' d1 d2 d3) (d4 c c1 c2 c3))
theorem res_one {r s : Res} (h : r.e = s.e) (h1 : r.lo = s.lo) (h2 : r.hi = s.hi) : r = s := by
  obtain ⟨e, lo, hi⟩ := r
  obtain ⟨e', lo', hi'⟩ := s
  simp only at h h1 h2
  rw [h, h1, h2]
theorem add_swap {a b : Res} (fa : Fit a) (fb : Fit b) (h : (addR a b).e = 0) (h' : (addR b a).e = 0) : addR b a = addR a b := by
  obtain ⟨d, u⟩ := add_parts fa fb h
  obtain ⟨d', u'⟩ := add_parts fb fa h'
  rw [Int.add_comm] at d' u'
  exact res_one (by rw [h, h']) (down_one d' d) (up_one u' u)
section
variable {A B : V3} (iA : InV A dB) (iB : InV B dB)
include iA iB
theorem half_swap : Mi.half B A = Mi.half A B ∧ Mi.lean B A = Mi.lean A B := by
  have K := (md_in iA iB).fits
  have K' := (md_in iB iA).fits
  have e1 : Mi.sx B A = Mi.sx A B := add_swap iA.x.fit iB.x.fit K.sx.e K'.sx.e
  have e2 : Mi.sy B A = Mi.sy A B := add_swap iA.y.fit iB.y.fit K.sy.e K'.sy.e
  have e3 : Mi.sz B A = Mi.sz A B := add_swap iA.z.fit iB.z.fit K.sz.e K'.sz.e
  have e4 : Mi.n B A = Mi.n A B := by
    unfold Mi.n Mi.n5 Mi.n4 Mi.n3 Mi.n2 Mi.n1
    rw [e1, e2, e3]
  constructor
  · unfold Mi.half Mi.h; rw [e4]
  · unfold Mi.lean Mi.l; rw [e3, e4]
end

theorem z_ends : val zI7.lo = 35184372088832 * DD ∧ val 4580160821035794432 = 70368744177664 * DD ∧ val u1 = 4503599627370496 * DD ∧ val m1 = -(4503599627370496 * DD) := by decide +kernel
section
variable {x y z : Nat} (lx : x < 18446744073709551616) (ly : y < 18446744073709551616) (lz : z < 18446744073709551616) (rx : rightB x = true) (ry : rightB y = true) (rz : rightB z = true)
  (x1 : val m1 ≤ val x) (x2 : val x ≤ val u1) (y1 : val m1 ≤ val y) (y2 : val y ≤ val u1) (z1 : val 4580160821035794432 ≤ val z) (z2 : val z ≤ val u1)
include rx ry rz x1 x2 y1 y2 z1 z2
theorem dir_has : hasU x y z = true := by
  obtain ⟨_, e2, e3, e4⟩ := z_ends
  have d0 := dd_pos
  have p1 : val 4318952042648305664 ≤ val 4580160821035794432 ∧ val u1 ≤ val 4895412794951729152 := by decide +kernel
  obtain ⟨a1, a2⟩ := val_side rx
  obtain ⟨b1, b2⟩ := val_side ry
  obtain ⟨c1, c2⟩ := val_side rz
  obtain ⟨_, _, mv⟩ := most_val rx ry rz
  unfold hasU leB
  simp only [Bool.and_eq_true, decide_eq_true_eq]
  rw [mv]
  exact ⟨⟨⟨rx, ry⟩, rz⟩, by omega, by omega⟩
include lx ly lz
theorem dir_in : InV (unitV x y z) dB ∧ ∃ f g h : Nat → Rat, HasS (unitV x y z).x f ∧ HasS (unitV x y z).y g ∧ HasS (unitV x y z).z h ∧ Eqv (fun m => f m * f m + (g m * g m + h m * h m)) (fun _ => 1) ∧ ∀ m, 0 ≤ h m := by
  have hU := dir_has rx ry rz x1 x2 y1 y2 z1 z2
  obtain ⟨e1, e2, e3, e4⟩ := z_ends
  have d0 := dd_pos
  have hS := ss_dd
  obtain ⟨F, _, _, _, ⟨mx, Mx, px⟩, ⟨my, My, py⟩, ⟨m, M, pz⟩⟩ := unit_all x y z lx ly lz hU
  obtain ⟨n0, n1, n2, _⟩ := unit_norm x y z lx ly lz hU
  have ix := one_part px F.x
  have iy := one_part py F.y
  have iz := one_part pz F.z
  have z0 : 0 ≤ val z := by omega
  obtain ⟨f, g, h, s1, s2, s3, us, nn⟩ := unit_seq lx ly lz hU
  refine ⟨⟨ix, iy, ?_⟩, f, g, h, s1, s2, s3, us, nn z0⟩
  have q : ∀ v : Int, -(4503599627370496 * DD) ≤ v → v ≤ 4503599627370496 * DD → v * v ≤ 4503599627370496 * DD * (4503599627370496 * DD) := fun v h1 h2 => by
    rcases Int.le_total 0 v with t | t
    · exact mul_self_le t h2
    · rw [← Int.neg_mul_neg]; exact mul_self_le (by omega) (by omega)
  have kx := q (val x) (by omega) (by omega)
  have ky := q (val y) (by omega) (by omega)
  have kz := q (val z) (by omega) (by omega)
  -- the length is below 7 by 4
  have nl : 4 * val (unitN x y z).lo ≤ 7 * (4503599627370496 * DD) := by
    refine le_of_self (by omega) ?_
    have t1 : 4 * val (unitN x y z).lo * (4 * val (unitN x y z).lo) = 16 * (val (unitN x y z).lo * val (unitN x y z).lo) := by grind
    have t2 : 7 * (4503599627370496 * DD) * (7 * (4503599627370496 * DD)) = 49 * (4503599627370496 * DD * (4503599627370496 * DD)) := by grind
    have t3 := self_nonneg (4503599627370496 * DD)
    rw [t1, t2]; omega
  have low : 35184372088832 * DD ≤ m := by
    have w := pz.wide
    obtain ⟨a, a1, a0, _, a3⟩ := pz.under
    rcases a3 with t | t
    · rw [hS] at t; omega
    · have l := pz.low
      have le := pz.le
      have ea : 70368744177664 * DD ≤ a := by omega
      -- a SS by n.lo is no more than M
      have t1 : 4 * (a * SS) ≤ 7 * M * SS := by
        have u1 : 4 * (M * val (unitN x y z).lo) ≤ M * (7 * (4503599627370496 * DD)) := by
          have := Int.mul_le_mul_of_nonneg_left nl (show 0 ≤ M by omega)
          have e : M * (4 * val (unitN x y z).lo) = 4 * (M * val (unitN x y z).lo) := by grind
          omega
        rw [← hS] at u1
        have e : M * (7 * SS) = 7 * M * SS := by grind
        omega
      have t2 : 4 * a ≤ 7 * M := by
        refine Int.le_of_mul_le_mul_right (a := SS) ?_ (by rw [hS]; omega)
        have e : 4 * a * SS = 4 * (a * SS) := by grind
        omega
      omega
  have s := pz.side
  refine ⟨F.z, ?_, iz.hi⟩
  show val zI7.lo ≤ _
  rw [e1]
  have zp : 0 < val z := by omega
  rcases s with ⟨_, t, _⟩ | ⟨t, _, _⟩
  · rw [t]; exact low
  · omega
end
end Go.Proofs.Ythefgkgdadkgbaa

namespace Go.Proofs.Ythefgkgdadkgbaa
open Go.RowKit

theorem self_sum (f g h : Rat) : sumQ f g h f g h - 4 = 4 * (f * f + (g * g + h * h) - 1) := by unfold sumQ; grind
section
variable {V : V3} {f g h : Nat → Rat} (iV : InV V dB) (a1 : HasS V.x f) (a2 : HasS V.y g) (a3 : HasS V.z h)
  (us : Eqv (fun m => f m * f m + (g m * g m + h m * h m)) fun _ => 1) (nn : ∀ m, 0 ≤ h m)
include iV a1 a2 a3 us nn
theorem self_half : (val (Mi.lean V V).lo ≤ val V.z.hi ∧ val V.z.lo ≤ val (Mi.lean V V).hi) ∧ (Mi.half V V).hi = u1 ∧ 4 * SS ≤ val (Mi.n5 V V).hi := by
  have M := md_in iV iV
  have K := M.fits
  have F : FitV V := ⟨iV.x.fit, iV.y.fit, iV.z.fit⟩
  obtain ⟨y, d, hy, d0, ad, ye, sz, hh, hl⟩ := half_seq K F F (md_n0 iV iV) a1 a2 a3 a1 a2 a3 us us nn nn
  have y4 : Eqv (fun m => y m * y m) fun _ => 2 * 2 := ye.trans (Nul.of (Nul.mul (Bd.const 4) us) fun m => by
    have := self_sum (f m) (g m) (h m)
    grind)
  have l2 : Abv 2 fun m => y m + (fun _ => (2 : Rat)) m := by
    obtain ⟨M1, k1⟩ := ad
    exact ⟨M1, fun m hm => by have := k1 m hm; show 2 ≤ y m + 2; grind⟩
  have y2 : Eqv y fun _ => 2 := root_same (by decide) l2 y4
  -- the half
  have h1 : HasS (Mi.half V V) fun _ => 1 := hh.turn (by
    intro e he
    obtain ⟨M1, k1⟩ := y2 e he
    refine ⟨M1, fun m hm => ?_⟩
    have := k1 m hm
    simp only at this ⊢
    constructor <;> grind)
  obtain ⟨_, t2⟩ := HasS.meet h1 (HasS.const one_has)
  have fh := clamp_fit K.h
  obtain ⟨c1, c2, c3⟩ := clamp_facts K.h.hi K.h.rhi
  have t2 : val u1 ≤ val (Mi.half V V).hi := t2
  rw [← show (Mi.half V V).hi = clampW (Mi.h V V).hi by simp only [Mi.half, clampR]] at c3
  have t3 : val (Mi.half V V).hi ≤ val u1 := by omega
  refine ⟨?_, val_inj fh.hi (by decide) fh.rhi (by decide) (by show val (Mi.half V V).hi = val u1; omega), ?_⟩
  · refine HasS.meet (hl.turn ?_) a3
    have b := a3.bd.mul (ad.inv d0)
    have k := Nul.mul b y2
    obtain ⟨M1, k1⟩ := ad
    intro e he
    obtain ⟨M2, k2⟩ := k e he
    refine ⟨M1 + M2, fun m hm => ?_⟩
    have q1 := k1 m (by omega)
    have q2 := k2 m (by omega)
    have n : y m ≠ 0 := by grind
    have i : (h m + h m) / y m - h m = -(h m * (y m)⁻¹ * (y m - 2)) := by
      have i : y m * (y m)⁻¹ = 1 := Rat.mul_inv_cancel _ n
      rw [Rat.div_def]
      grind
    show -e ≤ (h m + h m) / y m - h m ∧ (h m + h m) / y m - h m ≤ e
    rw [i]
    simp only at q2
    constructor <;> grind
  · have sx := HasS.add F.x F.x a1 a1 K.sx.e
    have sy := HasS.add F.y F.y a2 a2 K.sy.e
    have n1 := HasS.sqr K.sx sx K.n1.e
    have n2 := HasS.sqr K.sy sy K.n2.e
    have n3 := HasS.add K.n1 K.n2 n1 n2 K.n3.e
    have n4 := HasS.sqr K.sz sz K.n4.e
    have n5 := HasS.add K.n3 K.n4 n3 n4 K.n5.e
    have n5 : HasS (Mi.n5 V V) fun _ => 4 := HasS.turn n5 (Nul.of (Nul.mul (Bd.const 4) us) fun m => by
      have := self_sum (f m) (g m) (h m)
      unfold sumQ at this
      grind)
    obtain ⟨_, t⟩ := HasS.meet n5 (HasS.const four_has)
    have t : val w4 ≤ val (Mi.n5 V V).hi := t
    rw [w24_val.2] at t
    exact t
end
def Ms.x : BW := ⟨⟨0, m1, u1⟩, 16 * DD⟩
def Ms.z : BW := ⟨zI7, 16 * DD⟩
def Ms.xx : BW := (Ms.x.add Ms.x).sqr
def Ms.zz : BW := (Ms.z.add Ms.z).sqr
def Ms.n3 : BW := Ms.xx.add Ms.xx
def Ms.n5 : BW := Ms.n3.add Ms.zz
def nearTwo : Nat := 4611686018427387392
def nearOne : Nat := 4607182418800009216
theorem ms_ok : (bok (Ms.x.add Ms.x) && bok Ms.xx && bok (Ms.z.add Ms.z) && bok Ms.zz && bok Ms.n3 && bok Ms.n5 && decide (Ms.n5.w ≤ val 4418031234232909824)) = true := by decide +kernel
theorem ms_ends : val nearTwo * val nearTwo ≤ (4 * SS - val 4418031234232909824) * SS ∧ val (Mi.n dB dB).hi ≤ val w4 ∧ val nearOne ≤ val (mulR (oneR uh) ⟨0, nearTwo, w4⟩).lo ∧ val nearOne ≤ val u1 ∧ 0 ≤ val nearOne ∧ 0 ≤ val nearTwo := by decide +kernel
theorem ms_fits : Fit ⟨0, nearTwo, w4⟩ ∧ Fit (mulR (oneR uh) ⟨0, nearTwo, w4⟩) := ⟨.of (by decide +kernel), .of (by decide +kernel)⟩
theorem self_near {V : V3} (iV : InV V dB) (wx : val V.x.hi - val V.x.lo ≤ 16 * DD) (wy : val V.y.hi - val V.y.lo ≤ 16 * DD) (wz : val V.z.hi - val V.z.lo ≤ 16 * DD) (h4 : 4 * SS ≤ val (Mi.n5 V V).hi) : val nearOne ≤ val (Mi.half V V).lo := by
  have M := md_in iV iV
  have K := M.fits
  have ok := ms_ok
  simp only [Bool.and_eq_true, decide_eq_true_eq] at ok
  obtain ⟨⟨⟨⟨⟨⟨o1, o2⟩, o3⟩, o4⟩, o5⟩, o6⟩, fin⟩ := ok
  have X : Snd V.x Ms.x := ⟨⟨iV.x, wx⟩, dB_fit.x⟩
  have Y : Snd V.y Ms.x := ⟨⟨iV.y, wy⟩, dB_fit.y⟩
  have Z : Snd V.z Ms.z := ⟨⟨iV.z, wz⟩, dB_fit.z⟩
  have n1 : Snd (Mi.n1 V V) Ms.xx := (X.add X o1).sqr o2
  have n2 : Snd (Mi.n2 V V) Ms.xx := (Y.add Y o1).sqr o2
  have n4 : Snd (Mi.n4 V V) Ms.zz := (Z.add Z o3).sqr o4
  have n5 : Snd (Mi.n5 V V) Ms.n5 := (n1.add n2 o5).add n4 o6
  have w := Int.le_trans n5.wid.wide fin
  obtain ⟨e1, e2, e3, e4, e5, e6⟩ := ms_ends
  obtain ⟨_, ⟨_, _, p⟩, _⟩ := sqrt_parts K.n5 K.n.e
  have k1 : val nearTwo ≤ val (Mi.n V V).lo := p nearTwo (by decide) (by decide) e6 (by
    refine Int.le_trans e1 (Int.mul_le_mul_of_nonneg_right (by omega) (Int.le_of_lt SS0)))
  have i : In (Mi.n V V) ⟨0, nearTwo, w4⟩ := ⟨K.n, k1, Int.le_trans M.n.hi e2⟩
  have q := (mul_in (.refl uh_fit) uh_fit i ms_fits.1 ms_fits.2.e).lo
  obtain ⟨c1, c2, c3⟩ := clamp_facts K.h.lo K.h.rlo
  rw [← show (Mi.half V V).lo = clampW (Mi.h V V).lo by simp only [Mi.half, clampR]] at c3
  have q : val (mulR (oneR uh) ⟨0, nearTwo, w4⟩).lo ≤ val (Mi.h V V).lo := q
  omega
theorem part_width {x : Nat} {n p : Res} {m M : Int} (h : PartOf x n p m M) : val p.hi - val p.lo ≤ 16 * DD := by
  have w := h.wide
  rcases h.side with ⟨_, a, b⟩ | ⟨_, a, b⟩ <;> rw [a, b] <;> omega
end Go.Proofs.Ythefgkgdadkgbaa

namespace Go.Proofs.Ythefgkgdadkgbaa
open Go.RowKit

theorem lean_u {A B : V3} (K : MF A B) : In (Mi.lean A B) ouI ∧ In (Mi.half A B) ouI := by
  have z0 : val 0 = 0 := by decide +kernel
  have us : val u1 = SS := by decide +kernel
  have o1 : val ouI.lo = 0 ∧ val ouI.hi = val u1 := by decide +kernel
  have s0 := SS0
  have key : ∀ r : Res, Fit r → In (clampR r) ouI := fun r f => by
    obtain ⟨_, _, c3⟩ := clamp_facts f.lo f.rlo
    obtain ⟨_, _, d3⟩ := clamp_facts f.hi f.rhi
    refine ⟨clamp_fit f, ?_, ?_⟩
    · rw [o1.1, show (clampR r).lo = clampW r.lo by simp only [clampR]]; omega
    · rw [o1.2, show (clampR r).hi = clampW r.hi by simp only [clampR]]; omega
  exact ⟨key _ K.l, key _ K.h⟩
structure VF (l i o a : Res) : Prop where
  D : Fit (Gx.D l a)
  w : Fit (Gx.w i o a)
  v : Fit (Gx.v o a)
  v1 : Fit (Mi.v1 l i o a)
  v2 : Fit (Mi.v2 i)
  v2' : Fit (Mi.v2 o)
  v3 : Fit (Mi.v3 i o)
  val : Fit (Mi.val l i o a)
  p1 : Fit (Mi.p1 l o a)
  den : Fit (Mi.den l o a)
end Go.Proofs.Ythefgkgdadkgbaa

namespace Go.Proofs.Ythefgkgdadkgbaa
open Go.RowKit
attribute [local go_sem] run_store_float

section
variable {P : Program} {ops : Array Oper} {Q : Exit → Act → World → Prop} {md : Region.Mode} {S : World → Prop}
theorem lpx_ccc_1 {a0 : Act} {B v : World} {l : List (Nat × Array Value)} {x : Nat × Array Value} (_ : Hid (Own B (x :: l) v)) {w0 : World} {L0 : Array Bool} (c1 c2 c3 m1 : Nat) (slots : List Nat) (N : Nat) (J : List (Nat × Array Value) → Act → Nat → List (Option Nat) → Act → World → Prop) (hok : latOkP [false, false, false] md ops L0 [c1, c2, c3] [m1] = true)
    (hsl : (slots.all fun s => decide (s < a0.tmps.size)) = true) (h0 : ∀ A : Act, (∀ s, s ∈ slots → s < A.tmps.size) → J l A 0 (List.replicate 1 none) A w0)
    (hS : ∀ k p a w, J l a0 k p a w → S w)
    (k1 : ∀ p a w, J l a0 0 p a w → wpOp P ops Q c1 (fun b v => J l a0 1 p b v) a w)
    (k2 : ∀ p a w, J l a0 1 p a w → wpOp P ops Q c2 (fun b v => J l a0 2 p b v) a w)
    (k3 : ∀ p a w, J l a0 2 p a w → wpOp P ops Q c3 (fun b v => J l a0 3 p b v) a w)
    (n1 : ∀ k p a w, p[0]? = some none → J l a0 k p a w → wpOp P ops Q m1 (fun b v => ∃ q, J l a0 k (p.set 0 (some q)) b v) a w)
    (fin : ∀ q1 a w, J l a0 3 [some q1] a w → wpAnyV P md ops Q S [] N (lstOf L0 [c1, c2, c3] [m1] 3 [true]) a w) :
    wpAnyV P md ops Q S [] (N + 4) L0 a0 w0 := by
  refine latP_from (pl := [false, false, false]) [c1, c2, c3] [m1] slots N 4 (J l) hok rfl hsl h0 hS (fun k i p a w hk hn hJ => ?_) (fun k i p a w hk hn hJ => ?_) (fun k m i p a w hm hp hJ => ?_) (fun p a w hp hall hJ => ?_)
  · rcases k with _ | _ | _ | k
    · obtain rfl : c1 = i := by simpa using hk
      exact k1 p a w hJ
    · obtain rfl : c2 = i := by simpa using hk
      exact k2 p a w hJ
    · obtain rfl : c3 = i := by simpa using hk
      exact k3 p a w hJ
    · simp at hk
  · rcases k with _ | _ | _ | k
    · exact absurd hn (by decide)
    · exact absurd hn (by decide)
    · exact absurd hn (by decide)
    · simp at hk
  · rcases m with _ | m
    · obtain rfl : m1 = i := by simpa using hm
      exact n1 k p a w hp hJ
    · simp at hm
  · obtain ⟨q1, rfl⟩ := fin_one hp hall
    exact fin q1 a w hJ
theorem lpx_ccccc_1 {a0 : Act} {B v : World} {l : List (Nat × Array Value)} {x : Nat × Array Value} (_ : Hid (Own B (x :: l) v)) {w0 : World} {L0 : Array Bool} (c1 c2 c3 c4 c5 m1 : Nat) (slots : List Nat) (N : Nat) (J : List (Nat × Array Value) → Act → Nat → List (Option Nat) → Act → World → Prop) (hok : latOkP [false, false, false, false, false] md ops L0 [c1, c2, c3, c4, c5] [m1] = true)
    (hsl : (slots.all fun s => decide (s < a0.tmps.size)) = true) (h0 : ∀ A : Act, (∀ s, s ∈ slots → s < A.tmps.size) → J l A 0 (List.replicate 1 none) A w0)
    (hS : ∀ k p a w, J l a0 k p a w → S w)
    (k1 : ∀ p a w, J l a0 0 p a w → wpOp P ops Q c1 (fun b v => J l a0 1 p b v) a w)
    (k2 : ∀ p a w, J l a0 1 p a w → wpOp P ops Q c2 (fun b v => J l a0 2 p b v) a w)
    (k3 : ∀ p a w, J l a0 2 p a w → wpOp P ops Q c3 (fun b v => J l a0 3 p b v) a w)
    (k4 : ∀ p a w, J l a0 3 p a w → wpOp P ops Q c4 (fun b v => J l a0 4 p b v) a w)
    (k5 : ∀ p a w, J l a0 4 p a w → wpOp P ops Q c5 (fun b v => J l a0 5 p b v) a w)
    (n1 : ∀ k p a w, p[0]? = some none → J l a0 k p a w → wpOp P ops Q m1 (fun b v => ∃ q, J l a0 k (p.set 0 (some q)) b v) a w)
    (fin : ∀ q1 a w, J l a0 5 [some q1] a w → wpAnyV P md ops Q S [] N (lstOf L0 [c1, c2, c3, c4, c5] [m1] 5 [true]) a w) :
    wpAnyV P md ops Q S [] (N + 6) L0 a0 w0 := by
  refine latP_from (pl := [false, false, false, false, false]) [c1, c2, c3, c4, c5] [m1] slots N 6 (J l) hok rfl hsl h0 hS (fun k i p a w hk hn hJ => ?_) (fun k i p a w hk hn hJ => ?_) (fun k m i p a w hm hp hJ => ?_) (fun p a w hp hall hJ => ?_)
  · rcases k with _ | _ | _ | _ | _ | k
    · obtain rfl : c1 = i := by simpa using hk
      exact k1 p a w hJ
    · obtain rfl : c2 = i := by simpa using hk
      exact k2 p a w hJ
    · obtain rfl : c3 = i := by simpa using hk
      exact k3 p a w hJ
    · obtain rfl : c4 = i := by simpa using hk
      exact k4 p a w hJ
    · obtain rfl : c5 = i := by simpa using hk
      exact k5 p a w hJ
    · simp at hk
  · rcases k with _ | _ | _ | _ | _ | k
    · exact absurd hn (by decide)
    · exact absurd hn (by decide)
    · exact absurd hn (by decide)
    · exact absurd hn (by decide)
    · exact absurd hn (by decide)
    · simp at hk
  · rcases m with _ | m
    · obtain rfl : m1 = i := by simpa using hm
      exact n1 k p a w hp hJ
    · simp at hm
  · obtain ⟨q1, rfl⟩ := fin_one hp hall
    exact fin q1 a w hJ
end

def mhJ7 (w : World) (pb : Nat) (tl th xl xh : Nat) (l : RowL) (a0 : Act) (k : Nat) (p : List (Option Nat)) (a : Act) (v : World) : Prop :=
  ∃ y1 y2 y3 z1 : Value, a = ((((a0.put (some 39) y1).put (some 41) y2).put (some 43) y3).put (some 11) z1) ∧ (0 < k → y1 = .agg #[.float .f64 4611686018427387904, .float .f64 4611686018427387904]) ∧ (1 < k → y2 = .agg #[.float .f64 tl, .float .f64 th]) ∧ (2 < k → y3 = .agg #[.float .f64 xl, .float .f64 xh]) ∧ (∀ q, p[0]? = some (some q) → z1 = .pointer (some ⟨q, 0, none⟩)) ∧ OwnF w ((pb, #[.int .i64 0]) :: l) [#[.float .f64 0, .float .f64 0]] p v
section
variable {w v : World} {pb : Nat} {tl th xl xh : Nat} {l : RowL} {a0 a : Act} {p : List (Option Nat)}
theorem mhJ7_0 (h : mhJ7 w pb tl th xl xh l a0 0 p a v) : ∃ y1 y2 y3 z1 : Value, a = ((((a0.put (some 39) y1).put (some 41) y2).put (some 43) y3).put (some 11) z1) ∧ (∀ q, p[0]? = some (some q) → z1 = .pointer (some ⟨q, 0, none⟩)) ∧ OwnF w ((pb, #[.int .i64 0]) :: l) [#[.float .f64 0, .float .f64 0]] p v := by
  obtain ⟨y1, y2, y3, z1, ha, E1, E2, E3, G1, h⟩ := h
  exact ⟨y1, y2, y3, z1, ha, G1, h⟩
theorem mhJ7_1 (h : mhJ7 w pb tl th xl xh l a0 1 p a v) : ∃ y2 y3 z1 : Value, a = ((((a0.put (some 39) (.agg #[.float .f64 4611686018427387904, .float .f64 4611686018427387904])).put (some 41) y2).put (some 43) y3).put (some 11) z1) ∧ (∀ q, p[0]? = some (some q) → z1 = .pointer (some ⟨q, 0, none⟩)) ∧ OwnF w ((pb, #[.int .i64 0]) :: l) [#[.float .f64 0, .float .f64 0]] p v := by
  obtain ⟨y1, y2, y3, z1, ha, E1, E2, E3, G1, h⟩ := h
  obtain rfl := E1 (by decide)
  exact ⟨y2, y3, z1, ha, G1, h⟩
theorem mhJ7_2 (h : mhJ7 w pb tl th xl xh l a0 2 p a v) : ∃ y3 z1 : Value, a = ((((a0.put (some 39) (.agg #[.float .f64 4611686018427387904, .float .f64 4611686018427387904])).put (some 41) (.agg #[.float .f64 tl, .float .f64 th])).put (some 43) y3).put (some 11) z1) ∧ (∀ q, p[0]? = some (some q) → z1 = .pointer (some ⟨q, 0, none⟩)) ∧ OwnF w ((pb, #[.int .i64 0]) :: l) [#[.float .f64 0, .float .f64 0]] p v := by
  obtain ⟨y1, y2, y3, z1, ha, E1, E2, E3, G1, h⟩ := h
  obtain rfl := E1 (by decide)
  obtain rfl := E2 (by decide)
  exact ⟨y3, z1, ha, G1, h⟩
theorem mhJ7_fin {q1 : Nat} (h : mhJ7 w pb tl th xl xh l a0 3 [some q1] a v) : a = ((((a0.put (some 39) (.agg #[.float .f64 4611686018427387904, .float .f64 4611686018427387904])).put (some 41) (.agg #[.float .f64 tl, .float .f64 th])).put (some 43) (.agg #[.float .f64 xl, .float .f64 xh])).put (some 11) (.pointer (some ⟨q1, 0, none⟩))) ∧ OwnF w ((pb, #[.int .i64 0]) :: l) [#[.float .f64 0, .float .f64 0]] [some q1] v := by
  obtain ⟨y1, y2, y3, z1, ha, E1, E2, E3, G1, h⟩ := h
  obtain rfl := E1 (by decide)
  obtain rfl := E2 (by decide)
  obtain rfl := E3 (by decide)
  obtain rfl := G1 _ rfl
  exact ⟨ha, h⟩
end

def mhJ8 (w : World) (pb : Nat) (dl dh yl yh zl zh : Nat) (l : RowL) (a0 : Act) (k : Nat) (p : List (Option Nat)) (a : Act) (v : World) : Prop :=
  ∃ y1 y2 y3 y4 y5 z1 : Value, a = ((((((a0.put (some 47) y1).put (some 51) y2).put (some 52) y3).put (some 54) y4).put (some 55) y5).put (some 12) z1) ∧ (0 < k → y1 = .agg #[.float .f64 4607182418800017408, .float .f64 4607182418800017408]) ∧ (1 < k → y2 = .agg #[.float .f64 dl, .float .f64 dh]) ∧ (2 < k → y3 = .agg #[.float .f64 yl, .float .f64 yh]) ∧ (3 < k → y4 = .agg #[.float .f64 4611686018427387904, .float .f64 4611686018427387904]) ∧ (4 < k → y5 = .agg #[.float .f64 zl, .float .f64 zh]) ∧ (∀ q, p[0]? = some (some q) → z1 = .pointer (some ⟨q, 0, none⟩)) ∧ OwnF w ((pb, #[.int .i64 0]) :: l) [#[.float .f64 0, .float .f64 0]] p v
section
variable {w v : World} {pb : Nat} {dl dh yl yh zl zh : Nat} {l : RowL} {a0 a : Act} {p : List (Option Nat)}
theorem mhJ8_0 (h : mhJ8 w pb dl dh yl yh zl zh l a0 0 p a v) : ∃ y1 y2 y3 y4 y5 z1 : Value, a = ((((((a0.put (some 47) y1).put (some 51) y2).put (some 52) y3).put (some 54) y4).put (some 55) y5).put (some 12) z1) ∧ (∀ q, p[0]? = some (some q) → z1 = .pointer (some ⟨q, 0, none⟩)) ∧ OwnF w ((pb, #[.int .i64 0]) :: l) [#[.float .f64 0, .float .f64 0]] p v := by
  obtain ⟨y1, y2, y3, y4, y5, z1, ha, E1, E2, E3, E4, E5, G1, h⟩ := h
  exact ⟨y1, y2, y3, y4, y5, z1, ha, G1, h⟩
theorem mhJ8_1 (h : mhJ8 w pb dl dh yl yh zl zh l a0 1 p a v) : ∃ y2 y3 y4 y5 z1 : Value, a = ((((((a0.put (some 47) (.agg #[.float .f64 4607182418800017408, .float .f64 4607182418800017408])).put (some 51) y2).put (some 52) y3).put (some 54) y4).put (some 55) y5).put (some 12) z1) ∧ (∀ q, p[0]? = some (some q) → z1 = .pointer (some ⟨q, 0, none⟩)) ∧ OwnF w ((pb, #[.int .i64 0]) :: l) [#[.float .f64 0, .float .f64 0]] p v := by
  obtain ⟨y1, y2, y3, y4, y5, z1, ha, E1, E2, E3, E4, E5, G1, h⟩ := h
  obtain rfl := E1 (by decide)
  exact ⟨y2, y3, y4, y5, z1, ha, G1, h⟩
theorem mhJ8_2 (h : mhJ8 w pb dl dh yl yh zl zh l a0 2 p a v) : ∃ y3 y4 y5 z1 : Value, a = ((((((a0.put (some 47) (.agg #[.float .f64 4607182418800017408, .float .f64 4607182418800017408])).put (some 51) (.agg #[.float .f64 dl, .float .f64 dh])).put (some 52) y3).put (some 54) y4).put (some 55) y5).put (some 12) z1) ∧ (∀ q, p[0]? = some (some q) → z1 = .pointer (some ⟨q, 0, none⟩)) ∧ OwnF w ((pb, #[.int .i64 0]) :: l) [#[.float .f64 0, .float .f64 0]] p v := by
  obtain ⟨y1, y2, y3, y4, y5, z1, ha, E1, E2, E3, E4, E5, G1, h⟩ := h
  obtain rfl := E1 (by decide)
  obtain rfl := E2 (by decide)
  exact ⟨y3, y4, y5, z1, ha, G1, h⟩
theorem mhJ8_3 (h : mhJ8 w pb dl dh yl yh zl zh l a0 3 p a v) : ∃ y4 y5 z1 : Value, a = ((((((a0.put (some 47) (.agg #[.float .f64 4607182418800017408, .float .f64 4607182418800017408])).put (some 51) (.agg #[.float .f64 dl, .float .f64 dh])).put (some 52) (.agg #[.float .f64 yl, .float .f64 yh])).put (some 54) y4).put (some 55) y5).put (some 12) z1) ∧ (∀ q, p[0]? = some (some q) → z1 = .pointer (some ⟨q, 0, none⟩)) ∧ OwnF w ((pb, #[.int .i64 0]) :: l) [#[.float .f64 0, .float .f64 0]] p v := by
  obtain ⟨y1, y2, y3, y4, y5, z1, ha, E1, E2, E3, E4, E5, G1, h⟩ := h
  obtain rfl := E1 (by decide)
  obtain rfl := E2 (by decide)
  obtain rfl := E3 (by decide)
  exact ⟨y4, y5, z1, ha, G1, h⟩
theorem mhJ8_4 (h : mhJ8 w pb dl dh yl yh zl zh l a0 4 p a v) : ∃ y5 z1 : Value, a = ((((((a0.put (some 47) (.agg #[.float .f64 4607182418800017408, .float .f64 4607182418800017408])).put (some 51) (.agg #[.float .f64 dl, .float .f64 dh])).put (some 52) (.agg #[.float .f64 yl, .float .f64 yh])).put (some 54) (.agg #[.float .f64 4611686018427387904, .float .f64 4611686018427387904])).put (some 55) y5).put (some 12) z1) ∧ (∀ q, p[0]? = some (some q) → z1 = .pointer (some ⟨q, 0, none⟩)) ∧ OwnF w ((pb, #[.int .i64 0]) :: l) [#[.float .f64 0, .float .f64 0]] p v := by
  obtain ⟨y1, y2, y3, y4, y5, z1, ha, E1, E2, E3, E4, E5, G1, h⟩ := h
  obtain rfl := E1 (by decide)
  obtain rfl := E2 (by decide)
  obtain rfl := E3 (by decide)
  obtain rfl := E4 (by decide)
  exact ⟨y5, z1, ha, G1, h⟩
theorem mhJ8_fin {q1 : Nat} (h : mhJ8 w pb dl dh yl yh zl zh l a0 5 [some q1] a v) : a = ((((((a0.put (some 47) (.agg #[.float .f64 4607182418800017408, .float .f64 4607182418800017408])).put (some 51) (.agg #[.float .f64 dl, .float .f64 dh])).put (some 52) (.agg #[.float .f64 yl, .float .f64 yh])).put (some 54) (.agg #[.float .f64 4611686018427387904, .float .f64 4611686018427387904])).put (some 55) (.agg #[.float .f64 zl, .float .f64 zh])).put (some 12) (.pointer (some ⟨q1, 0, none⟩))) ∧ OwnF w ((pb, #[.int .i64 0]) :: l) [#[.float .f64 0, .float .f64 0]] [some q1] v := by
  obtain ⟨y1, y2, y3, y4, y5, z1, ha, E1, E2, E3, E4, E5, G1, h⟩ := h
  obtain rfl := E1 (by decide)
  obtain rfl := E2 (by decide)
  obtain rfl := E3 (by decide)
  obtain rfl := E4 (by decide)
  obtain rfl := E5 (by decide)
  obtain rfl := G1 _ rfl
  exact ⟨ha, h⟩
end

set_option maxRecDepth 100000 in
set_option maxHeartbeats 16000000 in
theorem mhalf_law {u0 u1 u2 u3 u4 u5 a0 a1 a2 a3 a4 a5 b0 b1 b2 b3 b4 b5 pl ph ql qh sl sh tl th xl xh dl dh yl yh zl zh gl gh : Nat} (w : World)
    (c1 : Hid (∀ w, Calls Try.prog 6 #[.agg #[.int .u32 u0, .int .u32 u1, .int .u32 u2, .int .u32 u3, .int .u32 u4, .int .u32 u5]] w fun r w' => r = .returned (.tuple #[.agg #[.float .f64 a0, .float .f64 a1, .float .f64 a2, .float .f64 a3, .float .f64 a4, .float .f64 a5], .agg #[.float .f64 b0, .float .f64 b1, .float .f64 b2, .float .f64 b3, .float .f64 b4, .float .f64 b5], .bool true]) ∧ Below w.heap.size w w'))
    (c2 : Hid (∀ w, Calls Try.prog 12 #[.agg #[.float .f64 a0, .float .f64 a1, .float .f64 a2, .float .f64 a3, .float .f64 a4, .float .f64 a5], .agg #[.float .f64 b0, .float .f64 b1, .float .f64 b2, .float .f64 b3, .float .f64 b4, .float .f64 b5]] w fun r w' => r = .returned (.tuple #[.agg #[.float .f64 pl, .float .f64 ph], .agg #[.float .f64 ql, .float .f64 qh], .int .i64 0]) ∧ Below w.heap.size w w'))
    (d3 : Hid (K2 13 0 0 a4 a5 b4 b5 sl sh))
    (d4 : Hid (KN 15 0 0 4611686018427387904 4611686018427387904 4611686018427387904))
    (d5 : Hid (K2 14 0 0 4611686018427387904 4611686018427387904 ql qh tl th))
    (d6 : Hid (K2 14 0 0 tl th pl ph xl xh))
    (d7 : Hid (KN 15 0 0 4607182418800017408 4607182418800017408 4607182418800017408))
    (d8 : Hid (∀ pb v, Has1 v (pb, #[.int .i64 0]) → Calls Try.prog 17 #[.pointer (some ⟨pb, 0, none⟩), .agg #[.float .f64 a0, .float .f64 a1, .float .f64 a2, .float .f64 a3, .float .f64 a4, .float .f64 a5], .agg #[.float .f64 b0, .float .f64 b1, .float .f64 b2, .float .f64 b3, .float .f64 b4, .float .f64 b5]] v fun r w' => r = .returned (.agg #[.float .f64 dl, .float .f64 dh]) ∧ Put ⟨pb, 0, none⟩ (.int .i64 0) v w'))
    (d9 : Hid (K2 13 0 0 4607182418800017408 4607182418800017408 dl dh yl yh))
    (d11 : Hid (K2 16 0 0 yl yh 4611686018427387904 4611686018427387904 zl zh))
    (c13 : Hid (∀ w, Calls Try.prog 10 #[.agg #[.float .f64 sl, .float .f64 sh], .agg #[.float .f64 xl, .float .f64 xh]] w fun r w' => r = .returned (.bool true) ∧ Below w.heap.size w w'))
    (d14 : Hid (K1 19 0 0 ql qh gl gh))
    (c15 : Hid (∀ w, Calls Try.prog 10 #[.agg #[.float .f64 gl, .float .f64 gh], .agg #[.float .f64 zl, .float .f64 zh]] w fun r w' => r = .returned (.bool true) ∧ Below w.heap.size w w'))
    (o_geqpl_0 : (((FloatKind.f64.format.order pl 0 == some Ordering.gt) || (FloatKind.f64.format.order pl 0 == some Ordering.eq)) = true))
    (o_leqph_418800017408 : (((FloatKind.f64.format.order ph 4607182418800017408 == some Ordering.lt) || (FloatKind.f64.format.order ph 4607182418800017408 == some Ordering.eq)) = true))
    (o_leqqh_418800017408 : (((FloatKind.f64.format.order qh 4607182418800017408 == some Ordering.lt) || (FloatKind.f64.format.order qh 4607182418800017408 == some Ordering.eq)) = true))
    (c16 : Hid (∀ w, Calls Try.prog 11 #[] w fun r w' => r = .returned (.bool true) ∧ Below w.heap.size w w')) :
    Calls Try.prog 4 #[.agg #[.int .u32 u0, .int .u32 u1, .int .u32 u2, .int .u32 u3, .int .u32 u4, .int .u32 u5]] w fun r w' => r = .returned (.bool true) ∧ Below w.heap.size w w' := by
  have M := Lib.hid ((Own.nil w).made #[.int .u32 u0, .int .u32 u1, .int .u32 u2, .int .u32 u3, .int .u32 u4, .int .u32 u5] 23)
  have eqF := eq_floats
  go_enter Try.func4, Try.ntmps4
  obtain ⟨k1, k2, k3, k4, k5, k6⟩ := (M.out.nth 0 rfl).six
  go_wp2_with fail
  refine (c1.out _).mono ?_
  rintro r w1_ ⟨rfl, hb⟩
  replace M := Lib.hid (M.out.below hb)
  clear hb
  clear k1 k2 k3 k4 k5 k6
  replace M := Lib.hid (M.out.made #[.float .f64 a0, .float .f64 a1, .float .f64 a2, .float .f64 a3, .float .f64 a4, .float .f64 a5] 28)
  replace M := Lib.hid (M.out.made #[.float .f64 b0, .float .f64 b1, .float .f64 b2, .float .f64 b3, .float .f64 b4, .float .f64 b5] 28)
  simp only [World.size_alloc] at M
  go_wp2_with fail
  refine (c2.out _).mono ?_
  rintro r w2_ ⟨rfl, hb⟩
  replace M := Lib.hid (M.out.below hb)
  clear hb
  replace M := Lib.hid (M.out.made #[.float .f64 pl, .float .f64 ph] 26)
  replace M := Lib.hid (M.out.made #[.float .f64 ql, .float .f64 qh] 26)
  replace M := Lib.hid (M.out.made #[.int .i64 0] 45)
  simp only [World.size_alloc] at M
  obtain ⟨k1, k2, k3, k4, k5, k6⟩ := (M.out.nth 4 rfl).six
  obtain ⟨k7, k8, k9, k10, k11, k12⟩ := (M.out.nth 3 rfl).six
  go_wp2_with fail
  refine (d3.out _ _ (M.out.nth 0 rfl)).mono ?_
  rintro r w3_ ⟨rfl, hb⟩
  replace M : Hid (Own w [((w2_.heap.size + 2), #[.int .i64 0]), ((w2_.heap.size + 1), #[.float .f64 ql, .float .f64 qh]), (w2_.heap.size, #[.float .f64 pl, .float .f64 ph]), ((w1_.heap.size + 1), #[.float .f64 b0, .float .f64 b1, .float .f64 b2, .float .f64 b3, .float .f64 b4, .float .f64 b5]), (w1_.heap.size, #[.float .f64 a0, .float .f64 a1, .float .f64 a2, .float .f64 a3, .float .f64 a4, .float .f64 a5]), (w.heap.size, #[.int .u32 u0, .int .u32 u1, .int .u32 u2, .int .u32 u3, .int .u32 u4, .int .u32 u5])] w3_) := Lib.hid (M.out.putAt 0 rfl hb)
  clear hb
  clear k1 k2 k3 k4 k5 k6 k7 k8 k9 k10 k11 k12
  replace M := Lib.hid (M.out.made #[.float .f64 sl, .float .f64 sh] 26).front
  go_upto_region 7 with fail
  replace M := Lib.hid M.out.drew
  revert M
  generalize (w3_.alloc (.cells #[.float .f64 sl, .float .f64 sh] 26)) = W4_
  intro M
  refine wp_region_noPanic ?_
  refine tails_region (S := fun w' => (w'.cell? ⟨(w2_.heap.size + 1), 0, none⟩ = some (.float .f64 ql) ∧ w'.cell? ⟨(w2_.heap.size + 1), 1, none⟩ = some (.float .f64 qh)) ∧ (w'.cell? ⟨w2_.heap.size, 0, none⟩ = some (.float .f64 pl) ∧ w'.cell? ⟨w2_.heap.size, 1, none⟩ = some (.float .f64 ph))) [] (by kernel_rfl) ?_ (fun hS => ?_)
  · exact ⟨(M.out.nth 2 rfl).two, (M.out.nth 3 rfl).two⟩
  refine tk (x := ?_) 0 rfl (by kernel_rfl) ⟨by kernel_rfl, ?_⟩ (fun _ _ _ h => h) hS ?_
  rotate_left; focus (intro w hSw; (try dsimp only at hSw); go_simp; try with_reducible rfl)
  refine tk (x := ?_) 1 rfl (by kernel_rfl) ⟨by kernel_rfl, ?_⟩ (fun _ _ _ h => h) hS ?_
  rotate_left; focus (intro w hSw; (try dsimp only at hSw); go_simp; try with_reducible rfl)
  refine tk (x := ?_) 2 rfl (by kernel_rfl) ⟨by kernel_rfl, ?_⟩ (fun _ _ _ h => h) hS ?_
  rotate_left; focus (intro w hSw; (try dsimp only at hSw); go_simp; try with_reducible rfl)
  refine tk (x := ?_) 4 rfl (by kernel_rfl) ⟨by kernel_rfl, ?_⟩ (fun _ _ _ h => h) hS ?_
  rotate_left; focus (intro w hSw; (try dsimp only at hSw); go_simp; try with_reducible rfl)
  refine tk (x := ?_) 6 rfl (by kernel_rfl) ⟨by kernel_rfl, ?_⟩ (fun _ _ _ h => h) hS ?_
  rotate_left; focus (intro w hSw; (try dsimp only at hSw); go_simp; try with_reducible rfl)
  conv => arg 9; simp only [Act.put, go_sem]
  refine lpx_ccc_1 M 3 5 7 8 [39, 41, 43, 11] 1 (mhJ7 w (w2_.heap.size + 2) tl th xl xh) (by kernel_rfl) (by kernel_rfl) ?_ ?_ ?_ ?_ ?_ ?_ ?_
  · intro A hA
    obtain ⟨y1, hq1⟩ := put_ex (hA 39 (by simp))
    obtain ⟨y2, hq2⟩ := put_ex (hA 41 (by simp))
    obtain ⟨y3, hq3⟩ := put_ex (hA 43 (by simp))
    obtain ⟨z1, hq4⟩ := put_ex (hA 11 (by simp))
    exact ⟨y1, y2, y3, z1, by rw [hq1, hq2, hq3, hq4], by omega, by omega, by omega, by simp, OwnF.start M.out 1⟩
  · rintro k p a v ⟨y1, y2, y3, z1, _, _, _, _, _, h⟩
    exact ⟨(h.own.nth 2 rfl).two, (h.own.nth 3 rfl).two⟩
  · intro p a v hJ
    refine op_step (o := _) rfl (fun K hK => ?_)
    obtain ⟨y1, y2, y3, z1, ha, gg1, h⟩ := mhJ7_0 hJ
    have h := Lib.hid h
    clear hJ
    subst ha
    go_simp
    refine (d4.out _ _ (h.out.own.nth 0 rfl)).mono ?_
    rintro rr w5 ⟨rfl, hp⟩
    try go_wp2_with fail
    refine hK.out _ _ ⟨_, y2, y3, z1, ?_, fun _ => rfl, by omega, by omega, gg1, h.out.putHead hp⟩
    kernel_rfl
  · intro p a v hJ
    refine op_step (o := _) rfl (fun K hK => ?_)
    obtain ⟨y2, y3, z1, ha, gg1, h⟩ := mhJ7_1 hJ
    have h := Lib.hid h
    clear hJ
    subst ha
    go_simp
    refine (d5.out _ _ (h.out.own.nth 0 rfl)).mono ?_
    rintro rr w5 ⟨rfl, hp⟩
    try go_wp2_with fail
    refine hK.out _ _ ⟨_, _, y3, z1, ?_, fun _ => rfl, fun _ => rfl, by omega, gg1, h.out.putHead hp⟩
    kernel_rfl
  · intro p a v hJ
    refine op_step (o := _) rfl (fun K hK => ?_)
    obtain ⟨y3, z1, ha, gg1, h⟩ := mhJ7_2 hJ
    have h := Lib.hid h
    clear hJ
    subst ha
    go_simp
    refine (d6.out _ _ (h.out.own.nth 0 rfl)).mono ?_
    rintro rr w5 ⟨rfl, hp⟩
    try go_wp2_with fail
    refine hK.out _ _ ⟨_, _, _, z1, ?_, fun _ => rfl, fun _ => rfl, fun _ => rfl, gg1, h.out.putHead hp⟩
    kernel_rfl
  · intro k p a v hp hJ
    refine op_step (o := _) rfl (fun K hK => ?_)
    obtain ⟨y1, y2, y3, z1, ha, ee1, ee2, ee3, gg1, h⟩ := hJ
    have h := Lib.hid h
    subst ha
    go_simp
    refine hK.out _ _ ⟨v.heap.size, y1, y2, y3, .pointer (some ⟨v.heap.size, 0, none⟩), ?_, ee1, ee2, ee3, fun q hq => ptr_set hq, h.out.alloc hp rfl _⟩
    kernel_rfl
  intro p7_1 a v hJ
  obtain ⟨rfl, h⟩ := mhJ7_fin hJ
  clear hJ
  replace M := Lib.hid h.fin1
  clear h
  refine tails_one (T := []) (i := 9) (o := _) rfl (by kernel_rfl) (fun K hK => ?_)
  have kc := (M.out.nth 0 rfl).2.1
  have kf := (M.out.nth 0 rfl).2.2
  replace M : Hid (Own w [(p7_1, #[.float .f64 xl, .float .f64 xh]), ((w2_.heap.size + 2), #[.int .i64 0]), (w3_.heap.size, #[.float .f64 sl, .float .f64 sh]), ((w2_.heap.size + 1), #[.float .f64 ql, .float .f64 qh]), (w2_.heap.size, #[.float .f64 pl, .float .f64 ph]), ((w1_.heap.size + 1), #[.float .f64 b0, .float .f64 b1, .float .f64 b2, .float .f64 b3, .float .f64 b4, .float .f64 b5]), (w1_.heap.size, #[.float .f64 a0, .float .f64 a1, .float .f64 a2, .float .f64 a3, .float .f64 a4, .float .f64 a5]), (w.heap.size, #[.int .u32 u0, .int .u32 u1, .int .u32 u2, .int .u32 u3, .int .u32 u4, .int .u32 u5])] _) := Lib.hid (M.out.set2 0 rfl (.float .f64 xl) (.float .f64 xh))
  go_simp
  refine hK.out _ _ (Or.inr ⟨(M.out.nth 3 rfl).two, (M.out.nth 4 rfl).two⟩) (fun hHeld => ?_)
  clear hK K hHeld kc kf
  refine tails_done (by kernel_rfl) ?_ _
  refine NoPanic.normal ?_
  clear hS
  replace M : Hid (Own w [((w2_.heap.size + 2), #[.int .i64 0]), (p7_1, #[.float .f64 xl, .float .f64 xh]), (w3_.heap.size, #[.float .f64 sl, .float .f64 sh]), ((w2_.heap.size + 1), #[.float .f64 ql, .float .f64 qh]), (w2_.heap.size, #[.float .f64 pl, .float .f64 ph]), ((w1_.heap.size + 1), #[.float .f64 b0, .float .f64 b1, .float .f64 b2, .float .f64 b3, .float .f64 b4, .float .f64 b5]), (w1_.heap.size, #[.float .f64 a0, .float .f64 a1, .float .f64 a2, .float .f64 a3, .float .f64 a4, .float .f64 a5]), (w.heap.size, #[.int .u32 u0, .int .u32 u1, .int .u32 u2, .int .u32 u3, .int .u32 u4, .int .u32 u5])] _) := Lib.hid M.out.front
  revert M
  generalize ((v.setCell ⟨p7_1, 0, none⟩ (.float .f64 xl)).setCell ⟨p7_1, 1, none⟩ (.float .f64 xh)) = W5_
  intro M
  go_upto_region 8 with fail
  replace M := Lib.hid M.out.drew
  refine wp_region_noPanic ?_
  refine tails_region (S := fun w' => (w'.cell? ⟨w1_.heap.size, 0, none⟩ = some (.float .f64 a0) ∧ w'.cell? ⟨w1_.heap.size, 1, none⟩ = some (.float .f64 a1) ∧ w'.cell? ⟨w1_.heap.size, 2, none⟩ = some (.float .f64 a2) ∧ w'.cell? ⟨w1_.heap.size, 3, none⟩ = some (.float .f64 a3) ∧ w'.cell? ⟨w1_.heap.size, 4, none⟩ = some (.float .f64 a4) ∧ w'.cell? ⟨w1_.heap.size, 5, none⟩ = some (.float .f64 a5)) ∧ (w'.cell? ⟨(w1_.heap.size + 1), 0, none⟩ = some (.float .f64 b0) ∧ w'.cell? ⟨(w1_.heap.size + 1), 1, none⟩ = some (.float .f64 b1) ∧ w'.cell? ⟨(w1_.heap.size + 1), 2, none⟩ = some (.float .f64 b2) ∧ w'.cell? ⟨(w1_.heap.size + 1), 3, none⟩ = some (.float .f64 b3) ∧ w'.cell? ⟨(w1_.heap.size + 1), 4, none⟩ = some (.float .f64 b4) ∧ w'.cell? ⟨(w1_.heap.size + 1), 5, none⟩ = some (.float .f64 b5))) [] (by kernel_rfl) ?_ (fun hS => ?_)
  · exact ⟨(M.out.nth 6 rfl).six, (M.out.nth 5 rfl).six⟩
  refine tk (x := ?_) 0 rfl (by kernel_rfl) ⟨by kernel_rfl, ?_⟩ (fun _ _ _ h => h) hS ?_
  rotate_left; focus (intro w hSw; (try dsimp only at hSw); go_simp; try with_reducible rfl)
  refine tk (x := ?_) 1 rfl (by kernel_rfl) ⟨by kernel_rfl, ?_⟩ (fun _ _ _ h => h) hS ?_
  rotate_left; focus (intro w hSw; (try dsimp only at hSw); go_simp; try with_reducible rfl)
  refine tk (x := ?_) 2 rfl (by kernel_rfl) ⟨by kernel_rfl, ?_⟩ (fun _ _ _ h => h) hS ?_
  rotate_left; focus (intro w hSw; (try dsimp only at hSw); go_simp; try with_reducible rfl)
  refine tk (x := ?_) 4 rfl (by kernel_rfl) ⟨by kernel_rfl, ?_⟩ (fun _ _ _ h => h) hS ?_
  rotate_left; focus (intro w hSw; (try dsimp only at hSw); go_simp; try with_reducible rfl)
  refine tk (x := ?_) 5 rfl (by kernel_rfl) ⟨by kernel_rfl, ?_⟩ (fun _ _ _ h => h) hS ?_
  rotate_left; focus (intro w hSw; (try dsimp only at hSw); go_simp; try with_reducible rfl)
  refine tk (x := ?_) 6 rfl (by kernel_rfl) ⟨by kernel_rfl, ?_⟩ (fun _ _ _ h => h) hS ?_
  rotate_left; focus (intro w hSw; (try dsimp only at hSw); go_simp; try with_reducible rfl)
  refine tk (x := ?_) 9 rfl (by kernel_rfl) ⟨by kernel_rfl, ?_⟩ (fun _ _ _ h => h) hS ?_
  rotate_left; focus (intro w hSw; (try dsimp only at hSw); go_simp; try with_reducible rfl)
  conv => arg 9; simp only [Act.put, go_sem]
  refine lpx_ccccc_1 M 3 7 8 10 11 12 [47, 51, 52, 54, 55, 12] 1 (mhJ8 w (w2_.heap.size + 2) dl dh yl yh zl zh) (by kernel_rfl) (by kernel_rfl) ?_ ?_ ?_ ?_ ?_ ?_ ?_ ?_ ?_
  · intro A hA
    obtain ⟨y1, hq1⟩ := put_ex (hA 47 (by simp))
    obtain ⟨y2, hq2⟩ := put_ex (hA 51 (by simp))
    obtain ⟨y3, hq3⟩ := put_ex (hA 52 (by simp))
    obtain ⟨y4, hq4⟩ := put_ex (hA 54 (by simp))
    obtain ⟨y5, hq5⟩ := put_ex (hA 55 (by simp))
    obtain ⟨z1, hq6⟩ := put_ex (hA 12 (by simp))
    exact ⟨y1, y2, y3, y4, y5, z1, by rw [hq1, hq2, hq3, hq4, hq5, hq6], by omega, by omega, by omega, by omega, by omega, by simp, OwnF.start M.out 1⟩
  · rintro k p a v ⟨y1, y2, y3, y4, y5, z1, _, _, _, _, _, _, _, h⟩
    exact ⟨(h.own.nth 6 rfl).six, (h.own.nth 5 rfl).six⟩
  · intro p a v hJ
    refine op_step (o := _) rfl (fun K hK => ?_)
    obtain ⟨y1, y2, y3, y4, y5, z1, ha, gg1, h⟩ := mhJ8_0 hJ
    have h := Lib.hid h
    clear hJ
    subst ha
    go_simp
    refine (d7.out _ _ (h.out.own.nth 0 rfl)).mono ?_
    rintro rr w5 ⟨rfl, hp⟩
    try go_wp2_with fail
    refine hK.out _ _ ⟨_, y2, y3, y4, y5, z1, ?_, fun _ => rfl, by omega, by omega, by omega, by omega, gg1, h.out.putHead hp⟩
    kernel_rfl
  · intro p a v hJ
    refine op_step (o := _) rfl (fun K hK => ?_)
    obtain ⟨y2, y3, y4, y5, z1, ha, gg1, h⟩ := mhJ8_1 hJ
    have h := Lib.hid h
    clear hJ
    subst ha
    go_simp
    refine (d8.out _ _ (h.out.own.nth 0 rfl)).mono ?_
    rintro rr w5 ⟨rfl, hp⟩
    try go_wp2_with fail
    refine hK.out _ _ ⟨_, _, y3, y4, y5, z1, ?_, fun _ => rfl, fun _ => rfl, by omega, by omega, by omega, gg1, h.out.putHead hp⟩
    kernel_rfl
  · intro p a v hJ
    refine op_step (o := _) rfl (fun K hK => ?_)
    obtain ⟨y3, y4, y5, z1, ha, gg1, h⟩ := mhJ8_2 hJ
    have h := Lib.hid h
    clear hJ
    subst ha
    go_simp
    refine (d9.out _ _ (h.out.own.nth 0 rfl)).mono ?_
    rintro rr w5 ⟨rfl, hp⟩
    try go_wp2_with fail
    refine hK.out _ _ ⟨_, _, _, y4, y5, z1, ?_, fun _ => rfl, fun _ => rfl, fun _ => rfl, by omega, by omega, gg1, h.out.putHead hp⟩
    kernel_rfl
  · intro p a v hJ
    refine op_step (o := _) rfl (fun K hK => ?_)
    obtain ⟨y4, y5, z1, ha, gg1, h⟩ := mhJ8_3 hJ
    have h := Lib.hid h
    clear hJ
    subst ha
    go_simp
    refine (d4.out _ _ (h.out.own.nth 0 rfl)).mono ?_
    rintro rr w5 ⟨rfl, hp⟩
    try go_wp2_with fail
    refine hK.out _ _ ⟨_, _, _, _, y5, z1, ?_, fun _ => rfl, fun _ => rfl, fun _ => rfl, fun _ => rfl, by omega, gg1, h.out.putHead hp⟩
    kernel_rfl
  · intro p a v hJ
    refine op_step (o := _) rfl (fun K hK => ?_)
    obtain ⟨y5, z1, ha, gg1, h⟩ := mhJ8_4 hJ
    have h := Lib.hid h
    clear hJ
    subst ha
    go_simp
    refine (d11.out _ _ (h.out.own.nth 0 rfl)).mono ?_
    rintro rr w5 ⟨rfl, hp⟩
    try go_wp2_with fail
    refine hK.out _ _ ⟨_, _, _, _, _, z1, ?_, fun _ => rfl, fun _ => rfl, fun _ => rfl, fun _ => rfl, fun _ => rfl, gg1, h.out.putHead hp⟩
    kernel_rfl
  · intro k p a v hp hJ
    refine op_step (o := _) rfl (fun K hK => ?_)
    obtain ⟨y1, y2, y3, y4, y5, z1, ha, ee1, ee2, ee3, ee4, ee5, gg1, h⟩ := hJ
    have h := Lib.hid h
    subst ha
    go_simp
    refine hK.out _ _ ⟨v.heap.size, y1, y2, y3, y4, y5, .pointer (some ⟨v.heap.size, 0, none⟩), ?_, ee1, ee2, ee3, ee4, ee5, fun q hq => ptr_set hq, h.out.alloc hp rfl _⟩
    kernel_rfl
  intro p8_1 a v hJ
  obtain ⟨rfl, h⟩ := mhJ8_fin hJ
  clear hJ
  replace M := Lib.hid h.fin1
  clear h
  refine tails_one (T := []) (i := 13) (o := _) rfl (by kernel_rfl) (fun K hK => ?_)
  have kc := (M.out.nth 0 rfl).2.1
  have kf := (M.out.nth 0 rfl).2.2
  replace M : Hid (Own w [(p8_1, #[.float .f64 zl, .float .f64 zh]), ((w2_.heap.size + 2), #[.int .i64 0]), (p7_1, #[.float .f64 xl, .float .f64 xh]), (w3_.heap.size, #[.float .f64 sl, .float .f64 sh]), ((w2_.heap.size + 1), #[.float .f64 ql, .float .f64 qh]), (w2_.heap.size, #[.float .f64 pl, .float .f64 ph]), ((w1_.heap.size + 1), #[.float .f64 b0, .float .f64 b1, .float .f64 b2, .float .f64 b3, .float .f64 b4, .float .f64 b5]), (w1_.heap.size, #[.float .f64 a0, .float .f64 a1, .float .f64 a2, .float .f64 a3, .float .f64 a4, .float .f64 a5]), (w.heap.size, #[.int .u32 u0, .int .u32 u1, .int .u32 u2, .int .u32 u3, .int .u32 u4, .int .u32 u5])] _) := Lib.hid (M.out.set2 0 rfl (.float .f64 zl) (.float .f64 zh))
  go_simp
  refine hK.out _ _ (Or.inr ⟨(M.out.nth 7 rfl).six, (M.out.nth 6 rfl).six⟩) (fun hHeld => ?_)
  clear hK K hHeld kc kf
  refine tails_done (by kernel_rfl) ?_ _
  refine NoPanic.normal ?_
  clear hS
  replace M : Hid (Own w [((w2_.heap.size + 2), #[.int .i64 0]), (p8_1, #[.float .f64 zl, .float .f64 zh]), (p7_1, #[.float .f64 xl, .float .f64 xh]), (w3_.heap.size, #[.float .f64 sl, .float .f64 sh]), ((w2_.heap.size + 1), #[.float .f64 ql, .float .f64 qh]), (w2_.heap.size, #[.float .f64 pl, .float .f64 ph]), ((w1_.heap.size + 1), #[.float .f64 b0, .float .f64 b1, .float .f64 b2, .float .f64 b3, .float .f64 b4, .float .f64 b5]), (w1_.heap.size, #[.float .f64 a0, .float .f64 a1, .float .f64 a2, .float .f64 a3, .float .f64 a4, .float .f64 a5]), (w.heap.size, #[.int .u32 u0, .int .u32 u1, .int .u32 u2, .int .u32 u3, .int .u32 u4, .int .u32 u5])] _) := Lib.hid M.out.front
  revert M
  generalize ((v.setCell ⟨p8_1, 0, none⟩ (.float .f64 zl)).setCell ⟨p8_1, 1, none⟩ (.float .f64 zh)) = W6_
  intro M
  go_upto_region 9 with fail
  replace M := Lib.hid M.out.drew
  obtain ⟨k1, k2⟩ := (M.out.nth 3 rfl).two
  obtain ⟨k3, k4⟩ := (M.out.nth 2 rfl).two
  obtain ⟨k5, k6⟩ := (M.out.nth 4 rfl).two
  obtain ⟨k7, k8⟩ := (M.out.nth 1 rfl).two
  obtain ⟨k9, k10⟩ := (M.out.nth 5 rfl).two
  go_region_held3 (fun w' => (w'.cell? ⟨w3_.heap.size, 0, none⟩ = some (.float .f64 sl) ∧ w'.cell? ⟨w3_.heap.size, 1, none⟩ = some (.float .f64 sh)) ∧ (w'.cell? ⟨p7_1, 0, none⟩ = some (.float .f64 xl) ∧ w'.cell? ⟨p7_1, 1, none⟩ = some (.float .f64 xh)) ∧ (w'.cell? ⟨(w2_.heap.size + 1), 0, none⟩ = some (.float .f64 ql) ∧ w'.cell? ⟨(w2_.heap.size + 1), 1, none⟩ = some (.float .f64 qh)) ∧ (w'.cell? ⟨p8_1, 0, none⟩ = some (.float .f64 zl) ∧ w'.cell? ⟨p8_1, 1, none⟩ = some (.float .f64 zh)) ∧ (w'.cell? ⟨w2_.heap.size, 0, none⟩ = some (.float .f64 pl) ∧ w'.cell? ⟨w2_.heap.size, 1, none⟩ = some (.float .f64 ph))) (((try dsimp only); (repeat' apply And.intro); all_goals (repeat (first | (with_reducible assumption) | ((with_reducible refine keep_undrew ?_); (with_reducible assumption)) | (with_reducible refine keep_drew ?_) | (with_reducible refine keep_alloc _ ?_) | (with_reducible refine keep_set _ (by first | (with_reducible assumption) | omega) ?_)))))
    (first
      | (go_at_call 18; (with_reducible refine (err_any 0 _ 0 _ (M.out.nth 0 rfl).pc).mono ?_); rintro rr w5 ⟨rfl, rfl⟩; clear k1 k2 k3 k4 k5 k6 k7 k8 k9 k10; obtain ⟨k1, k2⟩ := (M.out.nth 3 rfl).two; obtain ⟨k3, k4⟩ := (M.out.nth 2 rfl).two; obtain ⟨k5, k6⟩ := (M.out.nth 4 rfl).two; obtain ⟨k7, k8⟩ := (M.out.nth 1 rfl).two; obtain ⟨k9, k10⟩ := (M.out.nth 5 rfl).two)
      | (go_at_call 10; (with_reducible refine (c13.out _).mono ?_); rintro rr w5 ⟨rfl, hb⟩; replace M := Lib.hid (M.out.below hb); clear hb; clear k1 k2 k3 k4 k5 k6 k7 k8 k9 k10; obtain ⟨k1, k2⟩ := (M.out.nth 3 rfl).two; obtain ⟨k3, k4⟩ := (M.out.nth 2 rfl).two; obtain ⟨k5, k6⟩ := (M.out.nth 4 rfl).two; obtain ⟨k7, k8⟩ := (M.out.nth 1 rfl).two; obtain ⟨k9, k10⟩ := (M.out.nth 5 rfl).two)
      | (go_at_call 19; (with_reducible refine (d14.out _ _ (M.out.nth 0 rfl)).mono ?_); rintro rr w5 ⟨rfl, hb⟩; replace M : Hid (Own w [((w2_.heap.size + 2), #[.int .i64 0]), (p8_1, #[.float .f64 zl, .float .f64 zh]), (p7_1, #[.float .f64 xl, .float .f64 xh]), (w3_.heap.size, #[.float .f64 sl, .float .f64 sh]), ((w2_.heap.size + 1), #[.float .f64 ql, .float .f64 qh]), (w2_.heap.size, #[.float .f64 pl, .float .f64 ph]), ((w1_.heap.size + 1), #[.float .f64 b0, .float .f64 b1, .float .f64 b2, .float .f64 b3, .float .f64 b4, .float .f64 b5]), (w1_.heap.size, #[.float .f64 a0, .float .f64 a1, .float .f64 a2, .float .f64 a3, .float .f64 a4, .float .f64 a5]), (w.heap.size, #[.int .u32 u0, .int .u32 u1, .int .u32 u2, .int .u32 u3, .int .u32 u4, .int .u32 u5])] w5) := Lib.hid (M.out.putAt 0 rfl hb); clear hb; clear k1 k2 k3 k4 k5 k6 k7 k8 k9 k10; obtain ⟨k1, k2⟩ := (M.out.nth 3 rfl).two; obtain ⟨k3, k4⟩ := (M.out.nth 2 rfl).two; obtain ⟨k5, k6⟩ := (M.out.nth 4 rfl).two; obtain ⟨k7, k8⟩ := (M.out.nth 1 rfl).two; obtain ⟨k9, k10⟩ := (M.out.nth 5 rfl).two)
      | (go_at_call 10; (with_reducible refine (c15.out _).mono ?_); rintro rr w5 ⟨rfl, hb⟩; replace M := Lib.hid (M.out.below hb); clear hb; clear k1 k2 k3 k4 k5 k6 k7 k8 k9 k10; obtain ⟨k1, k2⟩ := (M.out.nth 3 rfl).two; obtain ⟨k3, k4⟩ := (M.out.nth 2 rfl).two; obtain ⟨k5, k6⟩ := (M.out.nth 4 rfl).two; obtain ⟨k7, k8⟩ := (M.out.nth 1 rfl).two; obtain ⟨k9, k10⟩ := (M.out.nth 5 rfl).two)
      | (go_at_call 11; (with_reducible refine (c16.out _).mono ?_); rintro rr w5 ⟨rfl, hb⟩; replace M := Lib.hid (M.out.below hb); clear hb; clear k1 k2 k3 k4 k5 k6 k7 k8 k9 k10; obtain ⟨k1, k2⟩ := (M.out.nth 3 rfl).two; obtain ⟨k3, k4⟩ := (M.out.nth 2 rfl).two; obtain ⟨k5, k6⟩ := (M.out.nth 4 rfl).two; obtain ⟨k7, k8⟩ := (M.out.nth 1 rfl).two; obtain ⟨k9, k10⟩ := (M.out.nth 5 rfl).two))
  clear k1 k2 k3 k4 k5 k6 k7 k8 k9 k10
  go_wp2
  go_ret
  exact ⟨rfl, M.out.base⟩

end Go.Proofs.Ythefgkgdadkgbaa
