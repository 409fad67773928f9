/- What the claim stands on, part 17: CsN, CsO, CsP, CsQ, TpN, CsR, CsT, QO2, MiS, CapM, CsU, Btw. -/
import Derived.Test.YtnaomilkgfkegaaPA15
import Derived.Test.YtnaomilkgfkegaaPA14
import Derived.Test.YtnaomilkgfkegaaPA12
import Derived.Deep.RegionHeld3
set_option maxRecDepth 100000
namespace Go.Proofs.Ytnaomilkgfkegaa
section
open Go.RowKit

def cuI : Res := ⟨0, 0, u1⟩
theorem cu_fit : Fit cuI := .of (by decide +kernel)
theorem cu_ends : val cuI.lo = 0 ∧ val cuI.hi = SS := by decide +kernel
theorem cn0_fit : Fit (oneR 0) := one_fit (by decide) (by decide)
theorem cv0 : val 0 = 0 := by decide +kernel

def cirH : List Rat := padd (0 :: pmul Hs Hs) (pmul Hc Hc)
theorem cirH_near : cirH.head? = some 1 ∧ pabs cirH.tail ≤ 1 / 1208925819614629174706176 := by decide +kernel
theorem cirH_is {t : Rat} (h1 : t * t ≤ 1) : -(1 / 1208925819614629174706176) ≤ hS t * hS t + hC t * hC t - 1 ∧ hS t * hS t + hC t * hC t - 1 ≤ 1 / 1208925819614629174706176 := by
  have h0 : 0 ≤ t * t := by
    rcases Rat.le_total (a := 0) (b := t) with g | g
    · exact Rat.mul_nonneg g g
    · have := Rat.mul_nonneg (by grind : 0 ≤ -t) (by grind : 0 ≤ -t)
      grind
  have e : ev cirH (t * t) = hS t * hS t + hC t * hC t := by
    show ev (padd (0 :: pmul Hs Hs) (pmul Hc Hc)) (t * t) = _
    rw [ev_add, ev_mul]
    show 0 + t * t * ev (pmul Hs Hs) (t * t) + _ = _
    rw [ev_mul]
    unfold hS hC
    generalize ev Hs (t * t) = a
    generalize ev Hc (t * t) = b
    grind
  rw [← e]
  obtain ⟨n1, n2⟩ := cirH_near
  generalize cirH = p at *
  cases p with
  | nil => simp at n1
  | cons a p =>
    have ha : a = 1 := by simpa using n1
    subst ha
    replace n2 : pabs p ≤ 1 / 1208925819614629174706176 := n2
    obtain ⟨i1, i2, i3⟩ := ev_abs h0 h1 p
    show -(1 / 1208925819614629174706176) ≤ 1 + t * t * ev p (t * t) - 1 ∧ 1 + t * t * ev p (t * t) - 1 ≤ 1 / 1208925819614629174706176
    generalize t * t = y at *
    generalize ev p y = v at *
    generalize pabs p = P at *
    generalize (1 : Rat) / 1208925819614629174706176 = E at *
    have k1 := Rat.mul_nonneg h0 (by grind : 0 ≤ P - v)
    have k2 := Rat.mul_nonneg h0 (by grind : 0 ≤ P + v)
    have k3 := Rat.mul_nonneg i3 (by grind : 0 ≤ 1 - y)
    constructor <;> grind
theorem sc_squares (s c : Rat) : ∀ k : Nat, sQ s c k * sQ s c k + cQ s c k * cQ s c k = s * s + c * c
  | 0 => by unfold sQ cQ; grind
  | 1 => by unfold sQ cQ; grind
  | 2 => by unfold sQ cQ; grind
  | 3 => by unfold sQ cQ; grind
  | _ + 4 => by unfold sQ cQ; grind
structure Pt (S C : Res) (s c : Rat) : Prop where
  hs : HasQ S s
  hc : HasQ C c
  l : -(1 / 1208925819614629174706176) ≤ s * s + c * c - 1
  g : s * s + c * c - 1 ≤ 1 / 1208925819614629174706176
theorem turn_pt {al ah : Nat} (t1 : Turn al) (t2 : Turn ah) : ∃ s c, Pt (sinU al ah) (cosU al ah) s c := by
  obtain ⟨⟨a, b⟩, h, k⟩ := turn_has t1
  obtain ⟨h', k'⟩ := sinU_has t1 t2 h k
  refine ⟨_, _, h', k', ?_, ?_⟩
  · rw [sc_squares]; exact (cirH_is (by have := Rat.mul_nonneg (by grind : 0 ≤ 1 - hT al (qN al)) (by grind : 0 ≤ 1 + hT al (qN al)); grind)).1
  · rw [sc_squares]; exact (cirH_is (by have := Rat.mul_nonneg (by grind : 0 ≤ 1 - hT al (qN al)) (by grind : 0 ≤ 1 + hT al (qN al)); grind)).2
theorem HasQ.le1 {r : Res} {x : Rat} (h : HasQ r x) (g : val r.hi ≤ SS) : x ≤ 1 := by
  have s := ssQ
  refine Rat.le_of_mul_le_mul_right (c := ((SS : Int) : Rat)) ?_ s
  rw [Rat.one_mul]
  exact Rat.le_trans h.high (Rat.intCast_le_intCast.2 g)
theorem HasQ.ge1 {r : Res} {x : Rat} (h : HasQ r x) (g : -SS ≤ val r.lo) : -1 ≤ x := by
  have s := ssQ
  refine Rat.le_of_mul_le_mul_right (c := ((SS : Int) : Rat)) ?_ s
  have := Rat.le_trans (Rat.intCast_le_intCast.2 g) h.low
  rw [Rat.intCast_neg] at this
  grind
theorem HasQ.ge0 {r : Res} {x : Rat} (h : HasQ r x) (g : 0 ≤ val r.lo) : 0 ≤ x := by
  have s := ssQ
  refine Rat.le_of_mul_le_mul_right (c := ((SS : Int) : Rat)) ?_ s
  rw [Rat.zero_mul]
  exact Rat.le_trans (Rat.intCast_nonneg.2 g) h.low

def Cn.r (a : Res) : Res := sqrtR a
def Cn.p (a c : Res) : Res := mulR (Cn.r a) c
def Cn.x (a c : Res) : Res := boundR (Cn.p a c)
def Cn.q (a c : Res) : Res := sqrR (Cn.x a c)
def Cn.flat (a C S : Res) : Res := addR (Cn.q a C) (Cn.q a S)
theorem cn_boxes : Fit (Cn.r cuI) ∧ Fit (Cn.p cuI wideR) ∧ Fit (Cn.x cuI wideR) ∧ Fit (Cn.q cuI wideR) ∧ Fit (Cn.flat cuI wideR wideR) ∧ val (Cn.r cuI).hi = SS ∧ val (Cn.r cuI).lo = 0 := ⟨.of (by decide +kernel), .of (by decide +kernel), .of (by decide +kernel), .of (by decide +kernel), .of (by decide +kernel), by decide +kernel, by decide +kernel⟩
theorem wide1_fit : Fit wideR := wide_fits.1
section
variable {a c : Res} (ha : In a cuI) (hc : In c wideR)
include ha
theorem cn_r : In (Cn.r a) (Cn.r cuI) := sqrt_in' ha
where sqrt_in' (h : In a cuI) : In (Cn.r a) (Cn.r cuI) := ask_in a cuI a cuI 7 (by decide) h cu_fit h cu_fit cn_boxes.1.e
include hc
theorem cn_p : In (Cn.p a c) (Cn.p cuI wideR) := mul_in (cn_r ha) cn_boxes.1 hc wide1_fit cn_boxes.2.1.e
theorem cn_xf : Fit (Cn.x a c) ∧ val m1 ≤ val (Cn.x a c).lo ∧ val (Cn.x a c).hi ≤ val u1 := bound_facts (cn_p ha hc).fit
theorem cn_xw : In (Cn.x a c) wideR := ⟨(cn_xf ha hc).1, (cn_xf ha hc).2.1, (cn_xf ha hc).2.2⟩
theorem cn_q : Fit (Cn.q a c) ∧ In (Cn.q a c) (sqrR wideR) := by
  have i := sqr_in (cn_xw ha hc) wide1_fit wide_fits.2.1.e
  exact ⟨i.fit, i⟩
theorem way_has {p v : Rat} (hp : HasQ (Cn.r a) p) (hv : HasQ c v) : HasQ (Cn.x a c) (p * v) := by
  have h := HasQ.mul (cn_r ha).fit hc.fit hp hv (cn_p ha hc).fit.e
  have P := cn_r ha
  obtain ⟨_, _, _, _, _, e1, e2⟩ := cn_boxes
  have l := P.lo
  have g := P.hi
  have p0 := hp.ge0 (by omega)
  have p1 := hp.le1 (by omega)
  have w1 : val wideR.lo = -SS ∧ val wideR.hi = SS := by decide +kernel
  have l2 := hc.lo
  have g2 := hc.hi
  have v0 := hv.ge1 (by omega)
  have v1 := hv.le1 (by omega)
  have k1 := Rat.mul_nonneg p0 (by grind : 0 ≤ 1 - v)
  have k2 := Rat.mul_nonneg p0 (by grind : 0 ≤ 1 + v)
  exact h.bound (cn_p ha hc).fit (by grind) (by grind)
end
section
variable {a S C : Res} (ha : In a cuI) (hS : In S wideR) (hC : In C wideR)
include ha hS hC
theorem flat_fit : Fit (Cn.flat a C S) ∧ In (Cn.flat a C S) (addR (sqrR wideR) (sqrR wideR)) := by
  have i := add_in (cn_q ha hC).2 wide_fits.2.1 (cn_q ha hS).2 wide_fits.2.1 wide_fits.2.2.e
  exact ⟨i.fit, i⟩
theorem flat_has {p s c : Rat} (hp : HasQ (Cn.r a) p) (hs : HasQ S s) (hc : HasQ C c) : HasQ (Cn.flat a C S) (p * c * (p * c) + p * s * (p * s)) :=
  HasQ.add (cn_q ha hC).1 (cn_q ha hS).1 (HasQ.sqr (cn_xw ha hC).fit (way_has ha hC hp hc) (cn_q ha hC).1.e) (HasQ.sqr (cn_xw ha hS).fit (way_has ha hS hp hs) (cn_q ha hS).1.e) (flat_fit ha hS hC).1.e
theorem angle_meets : (Fit (mulR (Cn.x a C) S) ∧ Fit (mulR (Cn.x a S) C)) ∧ ∀ {s c : Rat}, HasQ S s → HasQ C c → val (mulR (Cn.x a C) S).lo ≤ val (mulR (Cn.x a S) C).hi ∧ val (mulR (Cn.x a S) C).lo ≤ val (mulR (Cn.x a C) S).hi := by
  have b : Fit (mulR wideR wideR) := .of (by decide +kernel)
  have i1 := mul_in (cn_xw ha hC) wide1_fit hS wide1_fit b.e
  have i2 := mul_in (cn_xw ha hS) wide1_fit hC wide1_fit b.e
  refine ⟨⟨i1.fit, i2.fit⟩, fun {s c} hs hc => ?_⟩
  have hp := HasQ.end (cn_r ha).fit
  generalize ((val (Cn.r a).lo : Int) : Rat) / ((SS : Int) : Rat) = p at hp
  have k1 := HasQ.mul (cn_xw ha hC).fit hS.fit (way_has ha hC hp hc) hs i1.fit.e
  have k2 := HasQ.mul (cn_xw ha hS).fit hC.fit (way_has ha hS hp hs) hc i2.fit.e
  rw [show p * c * s = p * s * c by grind] at k1
  exact ⟨Rat.intCast_le_intCast.1 (Rat.le_trans k1.low k2.high), Rat.intCast_le_intCast.1 (Rat.le_trans k2.low k1.high)⟩
end
theorem flat_falls {a b S C : Res} (ha : In a cuI) (hb : In b cuI) (hS : In S wideR) (hC : In C wideR) {s c : Rat} (hs : HasQ S s) (hc : HasQ C c) (h : val a.lo ≤ val b.hi) : val (Cn.flat a C S).lo ≤ val (Cn.flat b C S).hi := by
  have A := cn_r ha
  have B := cn_r hb
  obtain ⟨p0, ⟨p1, p2, _⟩, q1, q2, _⟩ := sqrt_parts ha.fit A.fit.e
  obtain ⟨p0', ⟨p1', p2', _⟩, q1', q2', _⟩ := sqrt_parts hb.fit B.fit.e
  have P := ssQ
  have s0 := SS0
  have le : val (Cn.r a).lo ≤ val (Cn.r b).hi := by
    have k : val (sqrtR a).lo * val (sqrtR a).lo ≤ val (sqrtR b).hi * val (sqrtR b).hi := by
      have := Int.mul_le_mul_of_nonneg_right h (show 0 ≤ SS by omega)
      omega
    rcases Int.le_total (val (sqrtR a).lo) (val (sqrtR b).hi) with t | t
    · exact t
    · rcases Int.lt_or_le (val (sqrtR b).hi) (val (sqrtR a).lo) with u | u
      · have k1 := Int.mul_lt_mul_of_pos_left u (show 0 < val (sqrtR a).lo by omega)
        have k2 := Int.mul_le_mul_of_nonneg_right t q1'
        omega
      · exact u
  have hp := HasQ.end A.fit
  have hq : HasQ (Cn.r b) (((val (Cn.r b).hi : Int) : Rat) / ((SS : Int) : Rat)) := ⟨by rw [Rat.div_mul_cancel (by grind)]; exact Rat.intCast_le_intCast.2 B.fit.le, by rw [Rat.div_mul_cancel (by grind)]; exact Rat.le_refl⟩
  have e : ((val (Cn.r a).lo : Int) : Rat) / ((SS : Int) : Rat) ≤ ((val (Cn.r b).hi : Int) : Rat) / ((SS : Int) : Rat) := by
    refine Rat.le_of_mul_le_mul_right (c := ((SS : Int) : Rat)) ?_ P
    rw [Rat.div_mul_cancel (by grind), Rat.div_mul_cancel (by grind)]
    exact Rat.intCast_le_intCast.2 le
  have z0 : 0 ≤ ((val (Cn.r a).lo : Int) : Rat) / ((SS : Int) : Rat) := hp.ge0 p1
  have k1 := flat_has ha hS hC hp hs hc
  have k2 := flat_has hb hS hC hq hs hc
  generalize ((val (Cn.r a).lo : Int) : Rat) / ((SS : Int) : Rat) = p at *
  generalize ((val (Cn.r b).hi : Int) : Rat) / ((SS : Int) : Rat) = q at *
  have m : p * c * (p * c) + p * s * (p * s) ≤ q * c * (q * c) + q * s * (q * s) := by
    have t1 : p * p ≤ q * q := by
      have u1' := Rat.mul_le_mul_of_nonneg_left e z0
      have u2' := Rat.mul_le_mul_of_nonneg_right e (by grind : 0 ≤ q)
      grind
    have t2 : 0 ≤ c * c + s * s := by
      have sq : ∀ x : Rat, 0 ≤ x * x := fun x => by
        rcases Rat.le_total (a := 0) (b := x) with g | g
        · exact Rat.mul_nonneg g g
        · have := Rat.mul_nonneg (by grind : 0 ≤ -x) (by grind : 0 ≤ -x)
          grind
      have := sq c
      have := sq s
      grind
    have := Rat.mul_le_mul_of_nonneg_right t1 t2
    grind
  have k3 := Rat.mul_le_mul_of_nonneg_right m (Rat.le_of_lt P)
  exact Rat.intCast_le_intCast.1 (Rat.le_trans k1.low (Rat.le_trans k3 k2.high))
end
section
open Go.RowKit

def Cn.d (a : Res) : Res := subR (oneR u1) a
def Cn.m (a : Res) : Res := maxR (Cn.d a) (oneR 0)
def Cn.s (a : Res) : Res := sqrtR (Cn.m a)
def Cn.z (a : Res) : Res := clampR (Cn.s a)
def Cn.h (a : Res) : Res := sqrR (Cn.z a)
theorem ch_boxes : Fit (Cn.d cuI) ∧ Fit (Cn.m cuI) ∧ Fit (Cn.s cuI) ∧ Fit (sqrR unitR) ∧ val (Cn.d cuI).hi ≤ SS ∧ 0 ≤ val (Cn.d cuI).lo := ⟨.of (by decide +kernel), .of (by decide +kernel), .of (by decide +kernel), .of (by decide +kernel), by decide +kernel, by decide +kernel⟩
structure ChI (a A : Res) : Prop where
  d : In (Cn.d a) (Cn.d A)
  m : In (Cn.m a) (Cn.m A)
  s : In (Cn.s a) (Cn.s A)
theorem ch_in {a : Res} (h : In a cuI) : ChI a cuI := by
  obtain ⟨b1, b2, b3, _⟩ := ch_boxes
  have d : In (Cn.d a) (Cn.d cuI) := sub_in (.refl u1_fit) u1_fit h cu_fit b1.e
  have m : In (Cn.m a) (Cn.m cuI) := max_in d b1 (.refl cn0_fit) cn0_fit b2.e
  exact ⟨d, m, ask_in (Cn.m a) (Cn.m cuI) (Cn.m a) (Cn.m cuI) 7 (by decide) m b2 m b2 b3.e⟩
theorem max_ends0 {r : Res} (f : Fit r) : val (maxR r (oneR 0)).lo = max (val r.lo) 0 ∧ val (maxR r (oneR 0)).hi = max (val r.hi) 0 := by
  have v0 := cv0
  have h1 := (max_facts r.lo 0 f.lo (by decide) f.rlo (by decide)).2.2
  have h2 := (max_facts r.hi 0 f.hi (by decide) f.rhi (by decide)).2.2
  rw [v0] at h1 h2
  exact ⟨h1, h2⟩
theorem clamp_ends0 {r : Res} (f : Fit r) : val (clampR r).lo = min (max (val r.lo) 0) SS ∧ val (clampR r).hi = min (max (val r.hi) 0) SS := by
  have us : val u1 = SS := by decide +kernel
  have h1 := (clamp_facts f.lo f.rlo).2.2
  have h2 := (clamp_facts f.hi f.rhi).2.2
  rw [us] at h1 h2
  refine ⟨?_, ?_⟩
  · rw [show (clampR r).lo = clampW r.lo by simp only [clampR]]; exact h1
  · rw [show (clampR r).hi = clampW r.hi by simp only [clampR]]; exact h2
section
variable {a : Res} (ha : In a cuI)
include ha
theorem up_ends : (0 ≤ val (Cn.d a).lo ∧ val (Cn.m a).lo = val (Cn.d a).lo ∧ val (Cn.m a).hi = val (Cn.d a).hi) ∧ (0 ≤ val (Cn.s a).lo ∧ val (Cn.s a).hi ≤ SS) ∧ (val (Cn.z a).lo = val (Cn.s a).lo ∧ val (Cn.z a).hi = val (Cn.s a).hi) ∧ In (Cn.z a) unitR := by
  have I := ch_in ha
  obtain ⟨_, _, _, _, b5, b6⟩ := ch_boxes
  have d1 := I.d.lo
  have d2 := I.d.hi
  have dl := I.d.fit.le
  obtain ⟨m1', m2'⟩ := max_ends0 I.d.fit
  obtain ⟨z1, z2⟩ := clamp_ends0 I.s.fit
  obtain ⟨_, ⟨s0, _, _⟩, t0, _, t2⟩ := sqrt_parts I.m.fit I.s.fit.e
  have us : val u1 = SS := by decide +kernel
  have s0' := SS0
  have e1 : val (Cn.m a).lo = val (Cn.d a).lo := by show val (maxR (Cn.d a) (oneR 0)).lo = _; omega
  have e2 : val (Cn.m a).hi = val (Cn.d a).hi := by show val (maxR (Cn.d a) (oneR 0)).hi = _; omega
  have g : val (Cn.s a).hi ≤ SS := by
    have k := t2 u1 (by decide) (by decide) (by omega) (by rw [us]; exact Int.mul_le_mul_of_nonneg_right (by omega) (by omega))
    rw [us] at k; exact k
  have l : 0 ≤ val (Cn.s a).lo := s0
  have sl := I.s.fit.le
  refine ⟨⟨by omega, e1, e2⟩, ⟨l, g⟩, ⟨?_, ?_⟩, clamp_unit I.s.fit⟩
  · show val (clampR (Cn.s a)).lo = _; omega
  · show val (clampR (Cn.s a)).hi = _; omega
theorem high_fit : Fit (Cn.h a) ∧ In (Cn.h a) (sqrR unitR) := by
  have i := sqr_in (up_ends ha).2.2.2 unit_fit ch_boxes.2.2.2.1.e
  exact ⟨i.fit, i⟩
theorem z_has {x : Rat} (h : HasQ (Cn.s a) x) : HasQ (Cn.z a) x := by
  obtain ⟨_, _, ⟨e1, e2⟩, _⟩ := up_ends ha
  exact ⟨by rw [e1]; exact h.low, by rw [e2]; exact h.high⟩
theorem m_has {x : Rat} (h : HasQ (Cn.d a) x) : HasQ (Cn.m a) x := by
  obtain ⟨⟨_, e1, e2⟩, _⟩ := up_ends ha
  exact ⟨by rw [e1]; exact h.low, by rw [e2]; exact h.high⟩
theorem high_meets : val (Cn.h a).lo ≤ val (Cn.d a).hi ∧ val (Cn.d a).lo ≤ val (Cn.h a).hi := by
  have I := ch_in ha
  obtain ⟨⟨d0, e1, e2⟩, ⟨s0, s1⟩, ⟨z1, z2⟩, iz⟩ := up_ends ha
  obtain ⟨_, ⟨_, p2, _⟩, _, q2, _⟩ := sqrt_parts I.m.fit I.s.fit.e
  have P := ssQ
  have dl := I.d.fit.le
  have k1 := HasQ.sqr iz.fit (HasQ.end iz.fit) (high_fit ha).1.e
  have hq : HasQ (Cn.z a) (((val (Cn.z a).hi : Int) : Rat) / ((SS : Int) : Rat)) := ⟨by rw [Rat.div_mul_cancel (by grind)]; exact Rat.intCast_le_intCast.2 iz.fit.le, by rw [Rat.div_mul_cancel (by grind)]; exact Rat.le_refl⟩
  have k2 := HasQ.sqr iz.fit hq (high_fit ha).1.e
  have key : ∀ v : Int, ((v : Int) : Rat) / ((SS : Int) : Rat) * (((v : Int) : Rat) / ((SS : Int) : Rat)) * ((SS : Int) : Rat) * ((SS : Int) : Rat) = ((v * v : Int) : Rat) := fun v => by
    have i : ((v : Int) : Rat) / ((SS : Int) : Rat) * ((SS : Int) : Rat) = ((v : Int) : Rat) := Rat.div_mul_cancel (by grind)
    rw [Rat.intCast_mul]
    grind
  constructor
  · have l := k1.low
    have t := Rat.mul_le_mul_of_nonneg_right l (Rat.le_of_lt P)
    rw [key, ← Rat.intCast_mul] at t
    have t := Rat.intCast_le_intCast.1 t
    rw [z1] at t
    have p2 : val (Cn.s a).lo * val (Cn.s a).lo ≤ val (Cn.m a).lo * SS := p2
    rw [e1] at p2
    have u : val (Cn.h a).lo * SS ≤ val (Cn.d a).lo * SS := by
      have t : val (Cn.h a).lo * SS ≤ val (Cn.s a).lo * val (Cn.s a).lo := t
      omega
    have := Int.le_of_mul_le_mul_right u SS0
    omega
  · have l := k2.high
    have t := Rat.mul_le_mul_of_nonneg_right l (Rat.le_of_lt P)
    rw [key, ← Rat.intCast_mul] at t
    have t := Rat.intCast_le_intCast.1 t
    rw [z2] at t
    have q2 : val (Cn.m a).hi * SS ≤ val (Cn.s a).hi * val (Cn.s a).hi := q2
    rw [e2] at q2
    have u : val (Cn.d a).hi * SS ≤ val (Cn.h a).hi * SS := by
      have t : val (Cn.s a).hi * val (Cn.s a).hi ≤ val (Cn.h a).hi * SS := t
      omega
    have := Int.le_of_mul_le_mul_right u SS0
    omega
theorem root_pt {q e : Rat} (h : HasQ a q) (q0 : 0 ≤ q) (he : 0 < e) : ∃ p, HasQ (Cn.r a) p ∧ 0 ≤ p ∧ -(e * q) ≤ p * p - q ∧ p * p - q ≤ e * q := by
  have A := cn_r ha
  rcases (by grind : q = 0 ∨ 0 < q) with z | g
  · subst z
    obtain ⟨p0, ⟨p1, p2, _⟩, q1, q2, _⟩ := sqrt_parts ha.fit A.fit.e
    refine ⟨0, ⟨?_, ?_⟩, Rat.le_refl, by grind, by grind⟩
    · have l := h.low
      rw [Rat.zero_mul] at l ⊢
      have l : val a.lo ≤ 0 := Rat.intCast_le_intCast.1 l
      have l0 : val a.lo = 0 := by omega
      rw [l0, Int.zero_mul] at p2
      have : val (sqrtR a).lo = 0 := by
        rcases Int.lt_or_le 0 (val (sqrtR a).lo) with c | c
        · have := Int.mul_pos c c; omega
        · omega
      show ((val (sqrtR a).lo : Int) : Rat) ≤ 0
      rw [this]; exact Rat.le_refl
    · rw [Rat.zero_mul]; exact Rat.intCast_nonneg.2 q1
  · have eq : 0 < e * q := Rat.mul_pos he g
    exact rootQ_in ha.fit h A.fit.e eq
end
section
variable {a S C : Res} (ha : In a cuI) (hS : In S wideR) (hC : In C wideR) {s c : Rat} (P : Pt S C s c)
include ha hS hC P
theorem flat_meets9 : val a.lo ≤ val (Cn.flat a C S).hi ∧ val (Cn.flat a C S).lo ≤ val a.hi := by
  have hq := HasQ.end ha.fit
  have q0 : (0 : Rat) ≤ ((val a.lo : Int) : Rat) / ((SS : Int) : Rat) := hq.ge0 (by have := ha.lo; have := cu_ends.1; omega)
  generalize ((val a.lo : Int) : Rat) / ((SS : Int) : Rat) = q at *
  obtain ⟨p, hp, p0, l1, l2⟩ := root_pt ha hq q0 (e := 1 / 1152921504606846976) (by decide +kernel)
  have f := flat_has ha hS hC hp P.hs P.hc
  have g1 := P.l
  have g2 := P.g
  have e : p * c * (p * c) + p * s * (p * s) = p * p * (s * s + c * c) := by grind
  rw [e] at f
  generalize s * s + c * c = σ at *
  generalize p * p = r at *
  have n : Nigh q (r * σ) := by
    have r0 : 0 ≤ r := by grind
    have r1 : r ≤ 2 * q := by grind
    have t1 := Rat.mul_le_mul_of_nonneg_left g2 r0
    have t2 := Rat.mul_le_mul_of_nonneg_left g1 r0
    refine Nigh.of (w := q) (e := q / 36028797018963968) (.inl Rat.le_refl) ?_ ?_ ?_
    · grind
    · grind
    · grind
  exact nigh_meet ha.fit (flat_fit ha hS hC).1 hq f n
theorem all_meets : Fit (addR (Cn.flat a C S) (Cn.h a)) ∧ val (addR (Cn.flat a C S) (Cn.h a)).lo ≤ SS ∧ SS ≤ val (addR (Cn.flat a C S) (Cn.h a)).hi := by
  have b : Fit (addR (addR (sqrR wideR) (sqrR wideR)) (sqrR unitR)) := .of (by decide +kernel)
  have i := add_in (flat_fit ha hS hC).2 wide_fits.2.2 (high_fit ha).2 ch_boxes.2.2.2.1 b.e
  have I := ch_in ha
  have hq := HasQ.end ha.fit
  have q0 : (0 : Rat) ≤ ((val a.lo : Int) : Rat) / ((SS : Int) : Rat) := hq.ge0 (by have := ha.lo; have := cu_ends.1; omega)
  have q1 : ((val a.lo : Int) : Rat) / ((SS : Int) : Rat) ≤ 1 := hq.le1 (by have := ha.hi; have := cu_ends.2; omega)
  generalize ((val a.lo : Int) : Rat) / ((SS : Int) : Rat) = q at *
  obtain ⟨p, hp, p0, l1, l2⟩ := root_pt ha hq q0 (e := 1 / 1152921504606846976) (by decide +kernel)
  have f := flat_has ha hS hC hp P.hs P.hc
  have d := m_has ha (HasQ.sub u1_fit ha.fit hasQ_one hq I.d.fit.e)
  obtain ⟨z, hz, z0, y1, y2⟩ := rootQ_in I.m.fit d I.s.fit.e (show (0 : Rat) < 1 / 1152921504606846976 by decide +kernel)
  have h := HasQ.sqr (up_ends ha).2.2.2.fit (z_has ha hz) (high_fit ha).1.e
  have t := HasQ.add (flat_fit ha hS hC).1 (high_fit ha).1 f h i.fit.e
  have g1 := P.l
  have g2 := P.g
  have e : p * c * (p * c) + p * s * (p * s) + z * z = p * p * (s * s + c * c) + z * z := by grind
  rw [e] at t
  have PS := Rat.le_of_lt ssQ
  have near : (p * p * (s * s + c * c) + z * z) * 18014398509481984 ≤ 18014398509481985 ∧ 18014398509481983 ≤ (p * p * (s * s + c * c) + z * z) * 18014398509481984 := by
    generalize s * s + c * c = σ at *
    generalize p * p = r at *
    generalize z * z = v at *
    have r0 : 0 ≤ r := by grind
    have r1 : r ≤ 2 := by grind
    have t1 := Rat.mul_le_mul_of_nonneg_left g2 r0
    have t2 := Rat.mul_le_mul_of_nonneg_left g1 r0
    constructor <;> grind
  generalize p * p * (s * s + c * c) + z * z = v at *
  have l := t.low
  have u := t.high
  have k1 := Rat.mul_le_mul_of_nonneg_right near.1 PS
  have k2 := Rat.mul_le_mul_of_nonneg_right near.2 PS
  refine ⟨i.fit, up_one i.fit.lo i.fit.rlo (Rat.intCast_le_intCast.1 ?_), down_one i.fit.hi i.fit.rhi (Rat.intCast_le_intCast.1 ?_)⟩
  · rw [Rat.intCast_mul, Rat.intCast_mul, show ((18014398509481984 : Int) : Rat) = 18014398509481984 from rfl, show ((18014398509481985 : Int) : Rat) = 18014398509481985 from rfl]
    grind
  · rw [Rat.intCast_mul, Rat.intCast_mul, show ((18014398509481984 : Int) : Rat) = 18014398509481984 from rfl, show ((18014398509481983 : Int) : Rat) = 18014398509481983 from rfl]
    grind
end
end
section
open Go.RowKit

theorem down_mono {s : Nat} {T T' : Int} {c c' : Nat} (h : Down s T c 0) (h' : Down s T' c' 0) (l : T ≤ T') : val c ≤ val c' := by
  obtain ⟨c1, c2, c3, _⟩ := h.ok
  obtain ⟨_, _, _, d4⟩ := h'.ok
  exact d4 c c1 c2 (Int.le_trans c3 l)
theorem up_mono {s : Nat} {T T' : Int} {c c' : Nat} (h : Up s T c 0) (h' : Up s T' c' 0) (l : T ≤ T') : val c ≤ val c' := by
  obtain ⟨_, _, _, c4⟩ := h.ok
  obtain ⟨d1, d2, d3, _⟩ := h'.ok
  exact c4 c' d1 d2 (Int.le_trans l d3)
theorem of_mono {u v : Nat} (hu : u < 18446744073709551616) (hv : v < 18446744073709551616) (l : u ≤ v) : val (ofLo u) ≤ val (ofLo v) ∧ val (ofHi u) ≤ val (ofHi v) := by
  obtain ⟨a1, a2, _⟩ := of_tight u hu
  obtain ⟨b1, b2, _⟩ := of_tight v hv
  have t : ((u * 2 ^ dr : Nat) : Int) ≤ ((v * 2 ^ dr : Nat) : Int) := Int.ofNat_le.2 (Nat.mul_le_mul_right _ l)
  exact ⟨down_mono a1 b1 t, up_mono a2 b2 t⟩
theorem z_falls {a b : Res} (ha : In a cuI) (hb : In b cuI) (h1 : val a.lo ≤ val b.lo) (h2 : val a.hi ≤ val b.hi) : val (Cn.z b).lo ≤ val (Cn.z a).lo ∧ val (Cn.z b).hi ≤ val (Cn.z a).hi := by
  have I := ch_in ha
  have J := ch_in hb
  obtain ⟨⟨a0, e1, e2⟩, _, ⟨z1, z2⟩, _⟩ := up_ends ha
  obtain ⟨⟨b0, f1, f2⟩, _, ⟨y1, y2⟩, _⟩ := up_ends hb
  obtain ⟨d1, d2⟩ := sub_parts u1_fit ha.fit I.d.fit.e
  obtain ⟨g1, g2⟩ := sub_parts u1_fit hb.fit J.d.fit.e
  have k1 : val (Cn.d b).lo ≤ val (Cn.d a).lo := down_mono g1 d1 (by omega)
  have k2 : val (Cn.d b).hi ≤ val (Cn.d a).hi := up_mono g2 d2 (by omega)
  obtain ⟨_, ⟨_, _, p3⟩, r1, r2, _⟩ := sqrt_parts I.m.fit I.s.fit.e
  obtain ⟨_, ⟨q1, q2, _⟩, _, _, t3⟩ := sqrt_parts J.m.fit J.s.fit.e
  have s0 := SS0
  have m1' : val (Cn.m b).lo * SS ≤ val (Cn.m a).lo * SS := Int.mul_le_mul_of_nonneg_right (by omega) (by omega)
  have m2' : val (Cn.m b).hi * SS ≤ val (Cn.m a).hi * SS := Int.mul_le_mul_of_nonneg_right (by omega) (by omega)
  have s1 : val (Cn.s b).lo ≤ val (Cn.s a).lo := p3 (Cn.s b).lo J.s.fit.lo J.s.fit.rlo q1 (Int.le_trans q2 m1')
  have s2 : val (Cn.s b).hi ≤ val (Cn.s a).hi := t3 (Cn.s a).hi I.s.fit.hi I.s.fit.rhi r1 (Int.le_trans m2' r2)
  omega
theorem mid_in {lo hi w h m : Nat} (l1 : lo < 18446744073709551616) (r1 : rightB lo = true) (le : val lo ≤ val hi) (hw : Down 1 (val hi - val lo) w 0) (hh : Down (2 ^ sq) (val 4602678819172646912 * val w) h 0) (hm : Down 1 (val lo + val h) m 0) :
    val lo ≤ val m ∧ val m ≤ val hi ∧ (val lo = val hi → val m = val lo) := by
  have v0 := cv0
  have e : 2 * val 4602678819172646912 = SS := by decide +kernel
  have es : ((2 ^ sq : Nat) : Int) = SS := rfl
  have s0 := SS0
  obtain ⟨_, _, w3, w4⟩ := hw.ok
  obtain ⟨_, _, h3, h4⟩ := hh.ok
  obtain ⟨_, _, m3, m4⟩ := hm.ok
  rw [es] at h3 h4
  have w0 : 0 ≤ val w := by have := w4 0 (by decide) (by decide) (by rw [v0]; omega); omega
  have h0 : 0 ≤ val h := by
    have := h4 0 (by decide) (by decide) (by rw [v0, Int.zero_mul]; exact Int.mul_nonneg (by omega) w0)
    omega
  have h5 : 2 * val h ≤ val w := by
    refine Int.le_of_mul_le_mul_right (a := SS) ?_ s0
    have k : 2 * (val 4602678819172646912 * val w) = val w * SS := by rw [← e]; grind
    have k2 : 2 * val h * SS = 2 * (val h * SS) := by grind
    omega
  have m5 := m4 lo l1 r1 (by omega)
  refine ⟨m5, by omega, fun q => by omega⟩
end
section
open Go.RowKit

def EE : Int := ((2 ^ 1021 : Nat) : Int)
theorem ee_pos : 0 < EE := Int.natCast_pos.2 (Nat.two_pow_pos 1021)
theorem pw_ee {k j : Nat} (h : j + 1021 = k) : ((2 ^ k : Nat) : Int) = ((2 ^ j : Nat) : Int) * EE := by
  unfold EE
  rw [← h, Nat.pow_add, Int.natCast_mul]
theorem ss_ee : SS = 9007199254740992 * EE := pw_ee (k := sq) (j := 53) (by rw [sq_eq])
theorem of_near {u : Nat} (hu : u < 18446744073709551616) (h1 : val (ofHi u) ≤ SS) (h2 : val (ofLo u) < SS) (h0 : 0 ≤ val (ofLo u)) (h3 : 0 ≤ val (ofHi u)) : val (ofHi u) - val (ofLo u) < 2 * EE := by
  obtain ⟨d, g, _⟩ := of_tight u hu
  have p := ee_pos
  have e := ss_ee
  have k1 := down_gap (k := 1021) (by decide) (by decide) (by decide) d (by show -9007199254740992 * EE ≤ _; omega) (by show _ < 9007199254740992 * EE; omega)
  have k2 := up_gap (k := 1021) (by decide) (by decide) (by decide) g (by show -9007199254740992 * EE < _; omega) (by show _ ≤ 9007199254740992 * EE; omega)
  have k1 : ((u * 2 ^ dr : Nat) : Int) < (val (ofLo u) + EE) * 1 := k1
  have k2 : (val (ofHi u) - EE) * 1 < ((u * 2 ^ dr : Nat) : Int) := k2
  omega
theorem sq_mono {x y : Int} (h0 : 0 ≤ x) (h : x ≤ y) : x * x ≤ y * y := Int.mul_le_mul h h h0 (Int.le_trans h0 h)
theorem z_wide {a : Res} (ha : In a cuI) (w : val a.hi - val a.lo ≤ 2 * EE) : val (Cn.z a).hi - val (Cn.z a).lo ≤ 268435456 * EE := by
  have I := ch_in ha
  obtain ⟨⟨d0, e1, e2⟩, ⟨s0, s1⟩, ⟨z1, z2⟩, _⟩ := up_ends ha
  obtain ⟨d, g⟩ := sub_parts u1_fit ha.fit I.d.fit.e
  have p := ee_pos
  have e := ss_ee
  have us : val u1 = SS := by decide +kernel
  have b5 := ch_boxes.2.2.2.2.1
  have dg := I.d.hi
  have dl := I.d.fit.le
  -- the difference
  have wd : val (Cn.d a).hi - val (Cn.d a).lo ≤ 4 * EE := by
    rcases Int.lt_or_le (val (Cn.d a).lo) SS with c | c
    · have k1 := down_gap (k := 1021) (by decide) (by decide) (by decide) d (by show -9007199254740992 * EE ≤ val (Cn.d a).lo; omega) (by show val (Cn.d a).lo < 9007199254740992 * EE; omega)
      have k2 := up_gap (k := 1021) (by decide) (by decide) (by decide) g (by show -9007199254740992 * EE < val (Cn.d a).hi; omega) (by show val (Cn.d a).hi ≤ 9007199254740992 * EE; omega)
      have k1 : val u1 - val a.hi < (val (Cn.d a).lo + EE) * 1 := k1
      have k2 : (val (Cn.d a).hi - EE) * 1 < val u1 - val a.lo := k2
      omega
    · omega
  rw [z1, z2]
  rcases Int.lt_or_le (val (Cn.s a).hi) (2 * EE) with c | c
  · omega
  · obtain ⟨r1, r2⟩ := root_gaps I.m.fit I.s.fit.e (k := 1022) (by decide) (by decide) (G := 2 * EE) (pw_ee (k := 1022) (j := 1) rfl).symm (by exact c) (by show val (Cn.s a).hi < _; omega) (by show val (Cn.s a).lo < _; have := I.s.fit.le; omega)
    have r1 : (val (Cn.s a).hi - 2 * EE) * (val (Cn.s a).hi - 2 * EE) < val (Cn.m a).hi * SS := r1
    have r2 : val (Cn.m a).lo * SS < (val (Cn.s a).lo + 2 * EE) * (val (Cn.s a).lo + 2 * EE) := r2
    rw [e2] at r1
    rw [e1] at r2
    obtain ⟨x, hx⟩ : ∃ x, x = val (Cn.s a).hi - 2 * EE := ⟨_, rfl⟩
    obtain ⟨y, hy⟩ : ∃ y, y = val (Cn.s a).lo + 2 * EE := ⟨_, rfl⟩
    rw [← hx] at r1
    rw [← hy] at r2
    rcases Int.le_total x y with t | t
    · omega
    · -- (x - y)^2 is no more than x^2 - y^2
      have y0 : 0 ≤ y := by omega
      have k : (x - y) * (x - y) < 4 * EE * SS := by
        have q1 : (x - y) * (x - y) ≤ x * x - y * y := by
          have := Int.mul_nonneg y0 (show 0 ≤ x - y by omega)
          grind
        have q2 : (val (Cn.d a).hi - val (Cn.d a).lo) * SS ≤ 4 * EE * SS := Int.mul_le_mul_of_nonneg_right wd (by omega)
        rw [Int.sub_mul] at q2
        omega
      have u : x - y ≤ 201326592 * EE := by
        rcases Int.le_total (x - y) (201326592 * EE) with c1 | c1
        · exact c1
        · have m := sq_mono (show 0 ≤ 201326592 * EE by omega) c1
          have f : 201326592 * EE * (201326592 * EE) = 40532396646334464 * (EE * EE) := by grind
          have f2 : 4 * EE * SS = 36028797018963968 * (EE * EE) := by rw [e]; grind
          have := Int.mul_pos p p
          omega
      omega
theorem z_bound : 268435456 * EE = val 4494592428115755008 := by
  have h : val 4494592428115755008 = ((2 ^ 1049 : Nat) : Int) := by decide +kernel
  exact (h.trans (pw_ee (k := 1049) (j := 28) rfl)).symm
end
section
open Go.RowKit


def dabs : List Rat → Rat
  | [] => 0
  | _ :: p => dabs p + pabs p
theorem ev_lip {a b : Rat} (a0 : -1 ≤ a) (b1 : b ≤ 1) (ab : a ≤ b) : ∀ p : List Rat, -((b - a) * dabs p) ≤ ev p b - ev p a ∧ ev p b - ev p a ≤ (b - a) * dabs p ∧ 0 ≤ dabs p
  | [] => by show -((b - a) * 0) ≤ (0 : Rat) - 0 ∧ (0 : Rat) - 0 ≤ (b - a) * 0 ∧ (0 : Rat) ≤ 0; refine ⟨?_, ?_, ?_⟩ <;> grind
  | c :: p => by
    obtain ⟨i1, i2, i3⟩ := ev_lip a0 b1 ab p
    obtain ⟨p1, p2, p3⟩ := ev_absT a0 (by grind : a ≤ 1) p
    show -((b - a) * (dabs p + pabs p)) ≤ (c + b * ev p b) - (c + a * ev p a) ∧ (c + b * ev p b) - (c + a * ev p a) ≤ (b - a) * (dabs p + pabs p) ∧ 0 ≤ dabs p + pabs p
    have d0 := Rat.mul_nonneg (by grind : 0 ≤ b - a) i3
    have k1 := Rat.mul_nonneg (by grind : 0 ≤ b - a) (by grind : 0 ≤ pabs p - ev p a)
    have k2 := Rat.mul_nonneg (by grind : 0 ≤ b - a) (by grind : 0 ≤ pabs p + ev p a)
    have key : -((b - a) * dabs p) ≤ b * (ev p b - ev p a) ∧ b * (ev p b - ev p a) ≤ (b - a) * dabs p := by
      generalize (b - a) * dabs p = U at *
      generalize ev p b - ev p a = D at *
      rcases Rat.le_total (a := 0) (b := b) with g | g
      · have q1 := Rat.mul_nonneg g (by grind : 0 ≤ U - D)
        have q2 := Rat.mul_nonneg g (by grind : 0 ≤ U + D)
        have q3 := Rat.mul_nonneg (by grind : 0 ≤ 1 - b) d0
        constructor <;> grind
      · have q1 := Rat.mul_nonneg (by grind : 0 ≤ -b) (by grind : 0 ≤ U - D)
        have q2 := Rat.mul_nonneg (by grind : 0 ≤ -b) (by grind : 0 ≤ U + D)
        have q3 := Rat.mul_nonneg (by grind : 0 ≤ 1 + b) d0
        constructor <;> grind
    refine ⟨?_, ?_, ?_⟩ <;> grind
def Sr : List Rat := padd (0 :: spr Hs) [0, -1]
def Cr : List Rat := padd Hc [0, 1 / 2]
theorem Sr_ok : dabs Sr ≤ 3 / 5 := by decide +kernel
theorem Cr_ok : dabs Cr ≤ 1 / 4 := by decide +kernel
theorem Sr_is (t : Rat) : ev Sr t = hS t - t := by
  unfold Sr hS
  rw [ev_add]
  show 0 + t * ev (spr Hs) t + (0 + t * (-1 + t * 0)) = _
  rw [ev_spr]; grind
theorem Cr_is (y : Rat) : ev Cr y = ev Hc y + y / 2 := by
  unfold Cr
  rw [ev_add]
  show _ + (0 + y * (1 / 2 + y * 0)) = _
  grind
def hh : Rat := hq / 4
def hEp : Rat := 1 / 1267650600228229401496703205376
theorem hh_facts : 0 ≤ hh ∧ hh ≤ 1 ∧ hS hh ≤ hC hh + hEp ∧ hC hh ≤ hS hh + hEp ∧ 1 / 2 ≤ hC hh ∧ 1 / 2 ≤ hS hh ∧ 0 ≤ hEp ∧ hEp * 36028797018963968 ≤ 1 / 8 := by decide +kernel
def Ls (m a b : Rat) : Prop := a ≤ b ∨ (a ≤ b + hEp ∧ (m ≤ b ∨ b ≤ -m))
theorem Ls.weak {a b : Rat} (h : Ls (1 / 2) a b) : Ls (1 / 4) a b := by
  rcases h with h | ⟨h, g⟩
  · exact Or.inl h
  · refine Or.inr ⟨h, ?_⟩
    rcases g with g | g
    · exact Or.inl (by grind)
    · exact Or.inr (by grind)
theorem Ls.neg {a b : Rat} (h : Ls (1 / 2) a b) : Ls (1 / 4) (-b) (-a) := by
  have e := hh_facts.2.2.2.2.2.2
  rcases Rat.le_total (a := a) (b := b) with k | k
  · exact Or.inl (by grind)
  rcases h with h | ⟨h, g⟩
  · exact Or.inl (by grind)
  · refine Or.inr ⟨by grind, ?_⟩
    rcases g with g | g
    · exact Or.inr (by grind)
    · exact Or.inl (by grind)
def hP (t : Rat) : Nat → Rat
  | 0 => hC t
  | 1 => -hS t
  | _ => -hC t
structure Vh (k : Nat) (t : Rat) : Prop where
  lo : -hh ≤ t
  hi : t ≤ hh
  pos : k = 0 → 0 ≤ t
  neg : k = 2 → t ≤ 0
def sv (x : Nat) : Rat := sQ (hS (hT x (qN x))) (hC (hT x (qN x))) (qN x)
def cv (x : Nat) : Rat := cQ (hS (hT x (qN x))) (hC (hT x (qN x))) (qN x)
theorem sv_has {x : Nat} (h : Turn x) : HasQ (sinR x) (sv x) ∧ HasQ (cosR x) (cv x) := (turn_has h).2
structure Ph (x j : Nat) (t : Rat) : Prop where
  ej : qN x = j
  et : hT x j = t
  le : j ≤ 4
  lo : -hh ≤ t
  hi : t ≤ hh
  pos : (j : Int) * SS ≤ 4 * val x → 0 ≤ t
  neg : 4 * val x ≤ (j : Int) * SS → t ≤ 0
  a : (2 * (j : Int) - 1) * SS ≤ 8 * val x
  b : 8 * val x < (2 * (j : Int) + 1) * SS
theorem qN_ends {x : Nat} (h : Turn x) : (2 * ((qN x : Nat) : Int) - 1) * SS ≤ 8 * val x ∧ 8 * val x < (2 * ((qN x : Nat) : Int) + 1) * SS := by
  obtain ⟨a0, a1, a2, a3⟩ := eighth_val
  have l := h.lo
  have u := h.hi
  rw [u1_val] at u
  have s0 := SS0
  unfold qN
  generalize SS = s at *
  split
  · show (2 * ((0 : Nat) : Int) - 1) * s ≤ _ ∧ _ < (2 * ((0 : Nat) : Int) + 1) * s; omega
  split
  · show (2 * ((1 : Nat) : Int) - 1) * s ≤ _ ∧ _ < (2 * ((1 : Nat) : Int) + 1) * s; omega
  split
  · show (2 * ((2 : Nat) : Int) - 1) * s ≤ _ ∧ _ < (2 * ((2 : Nat) : Int) + 1) * s; omega
  split
  · show (2 * ((3 : Nat) : Int) - 1) * s ≤ _ ∧ _ < (2 * ((3 : Nat) : Int) + 1) * s; omega
  · show (2 * ((4 : Nat) : Int) - 1) * s ≤ _ ∧ _ < (2 * ((4 : Nat) : Int) + 1) * s; omega
theorem hX_is (x : Nat) : hX x * ((SS : Int) : Rat) = ((val x : Int) : Rat) := by
  have S := ssQ
  unfold hX; grind
theorem le_hX {x : Nat} {m n : Int} (h : m * SS ≤ n * val x) : (m : Rat) ≤ (n : Rat) * hX x := by
  have S := ssQ
  have c := Rat.intCast_le_intCast.2 h
  rw [Rat.intCast_mul, Rat.intCast_mul, ← hX_is] at c
  exact Rat.le_of_mul_le_mul_right (c := ((SS : Int) : Rat)) (by grind) S
theorem hX_le {x : Nat} {m n : Int} (h : n * val x ≤ m * SS) : (n : Rat) * hX x ≤ (m : Rat) := by
  have S := ssQ
  have c := Rat.intCast_le_intCast.2 h
  rw [Rat.intCast_mul, Rat.intCast_mul, ← hX_is] at c
  exact Rat.le_of_mul_le_mul_right (c := ((SS : Int) : Rat)) (by grind) S
theorem phase {x : Nat} (h : Turn x) : Ph x (qN x) (hT x (qN x)) := by
  obtain ⟨a, b⟩ := qN_ends h
  have q := hq_big
  have c1 := le_hX a
  have c2 := hX_le (Int.le_of_lt b)
  have e8 : ((8 : Int) : Rat) = 8 := rfl
  have e4 : ((4 : Int) : Rat) = 4 := rfl
  have e2 : ((2 : Int) : Rat) = 2 := rfl
  have e1 : ((1 : Int) : Rat) = 1 := rfl
  rw [Rat.intCast_sub, Rat.intCast_mul, e8, e2, e1] at c1
  rw [Rat.intCast_add, Rat.intCast_mul, e8, e2, e1] at c2
  refine ⟨rfl, rfl, qN_le x, ?_, ?_, fun g => ?_, fun g => ?_, a, b⟩
  · have k := Rat.mul_nonneg (by grind : 0 ≤ hq) (by grind : 0 ≤ 8 * hX x - (2 * ((qN x : Int) : Rat) - 1))
    unfold hT hh
    grind
  · have k := Rat.mul_nonneg (by grind : 0 ≤ hq) (by grind : 0 ≤ (2 * ((qN x : Int) : Rat) + 1) - 8 * hX x)
    unfold hT hh
    grind
  · have c := le_hX (n := 4) g
    rw [e4] at c
    have k := Rat.mul_nonneg (by grind : 0 ≤ hq) (by grind : 0 ≤ 4 * hX x - ((qN x : Int) : Rat))
    unfold hT
    grind
  · have c := hX_le (n := 4) g
    rw [e4] at c
    have k := Rat.mul_nonneg (by grind : 0 ≤ hq) (by grind : 0 ≤ ((qN x : Int) : Rat) - 4 * hX x)
    unfold hT
    grind
theorem ph_order {x y j j' : Nat} {t t' : Rat} (p : Ph x j t) (p' : Ph y j' t') (h : val x ≤ val y) : j < j' ∨ (j = j' ∧ t ≤ t') := by
  rcases Nat.lt_trichotomy j j' with g | g | g
  · exact Or.inl g
  · refine Or.inr ⟨g, ?_⟩
    subst g
    have q := hq_big
    have S := ssQ
    have c := Rat.intCast_le_intCast.2 h
    rw [← hX_is, ← hX_is] at c
    have c' := Rat.le_of_mul_le_mul_right c S
    have k := Rat.mul_nonneg (by grind : 0 ≤ hq) (by grind : 0 ≤ hX y - hX x)
    have e1 := p.et
    have e2 := p'.et
    unfold hT at e1 e2
    grind
  · exfalso
    have k := Int.mul_le_mul_of_nonneg_right (by omega : 2 * (j' : Int) + 1 ≤ 2 * (j : Int) - 1) (Int.le_of_lt SS0)
    have a := p.a
    have b := p'.b
    omega
theorem sv_is {x j : Nat} {t : Rat} (p : Ph x j t) : sv x = sQ (hS t) (hC t) j ∧ cv x = cQ (hS t) (hC t) j := by
  unfold sv cv
  rw [p.ej, p.et]; exact ⟨rfl, rfl⟩
section
variable {s c : Rat}
end
section
variable {x y : Nat}
end
theorem has_iff {a b q : Nat} (ta : Turn a) (tb : Turn b) (h : val a ≤ val b) (lq : q < 18446744073709551616) (rq : rightB q = true) : (hasB a b q = true → val a ≤ val q ∧ val q ≤ val b) ∧ (hasB a b q = false → val q < val a ∨ val b < val q) := by
  have e1 : rawLe a q = leB a q := order_le a q ta.lt lq ta.right rq
  have e2 : rawLe q b = leB q b := order_le q b lq tb.lt rq tb.right
  have e3 : ivR a b = true := by unfold ivR leB; rw [ta.right, tb.right, decide_eq_true h]; rfl
  unfold hasB
  rw [e1, e2, e3]
  unfold leB
  constructor
  · intro g
    simp only [Bool.true_and, Bool.and_eq_true, decide_eq_true_eq] at g
    exact g
  · intro g
    by_cases c : val a ≤ val q
    · rw [decide_eq_true c] at g
      simp only [Bool.true_and, decide_eq_false_iff_not] at g
      exact Or.inr (by omega)
    · exact Or.inl (by omega)
section
variable {a b x : Nat}
end

theorem hull_ends {r s : Res} (fr : Fit r) (fs : Fit s) : val (hullR r s).lo = min (val r.lo) (val s.lo) ∧ val (hullR r s).hi = max (val r.hi) (val s.hi) := by
  obtain ⟨_, _, l⟩ := min_facts r.lo s.lo fr.lo fs.lo fr.rlo fs.rlo
  obtain ⟨_, _, u⟩ := max_facts r.hi s.hi fr.hi fs.hi fr.rhi fs.rhi
  exact ⟨l, u⟩
structure Ends (a b : Nat) : Prop where
  slo : val (sinU a b).lo = if hasB a b 4604930618986332160 = true then -SS else min (val (sinR a).lo) (val (sinR b).lo)
  shi : val (sinU a b).hi = if hasB a b 4598175219545276416 = true then SS else max (val (sinR a).hi) (val (sinR b).hi)
  olo : val (cosU a b).lo = if hasB a b 4602678819172646912 = true then -SS else min (val (cosR a).lo) (val (cosR b).lo)
  ohi : val (cosU a b).hi = max (val (cosR a).hi) (val (cosR b).hi)
theorem ends_of {a b : Nat} (ta : Turn a) (tb : Turn b) : Ends a b := by
  obtain ⟨f2, f3, fU, g2, gU⟩ := sin_fits' ta tb
  obtain ⟨fa, la, ua⟩ := sinR_facts ta
  obtain ⟨fb, lb, ub⟩ := sinR_facts tb
  obtain ⟨ga, la', ua'⟩ := cosR_facts ta
  obtain ⟨gb, lb', ub'⟩ := cosR_facts tb
  rw [m1_val] at la lb la' lb'
  rw [u1_val] at ua ub ua' ub'
  have ea := fa.le
  have eb := fb.le
  have ea' := ga.le
  have eb' := gb.le
  obtain ⟨s1, s2⟩ := hull_ends fa fb
  obtain ⟨c1, c2⟩ := hull_ends ga gb
  have s0 := SS0
  have k1 : val (sin3 a b).lo = min (val (sinR a).lo) (val (sinR b).lo) ∧ val (sin3 a b).hi = if hasB a b 4598175219545276416 = true then SS else max (val (sinR a).hi) (val (sinR b).hi) := by
    unfold sin3 at f3 ⊢
    cases h : hasB a b 4598175219545276416
    · rw [if_neg Bool.false_ne_true, if_neg Bool.false_ne_true]; exact ⟨s1, s2⟩
    · obtain ⟨x1, x2⟩ := hull_ends f2 u1_fit
      have v : val (oneR u1).lo = SS ∧ val (oneR u1).hi = SS := ⟨u1_val, u1_val⟩
      rw [if_pos rfl, if_pos rfl, x1, x2, v.1, v.2]
      unfold sin2
      rw [s1, s2]; omega
  refine ⟨?_, ?_, ?_, ?_⟩
  · unfold sinU
    cases h : hasB a b 4604930618986332160
    · rw [if_neg Bool.false_ne_true, if_neg Bool.false_ne_true]; exact k1.1
    · obtain ⟨x1, _⟩ := hull_ends f3 m1_fit
      have v : val (oneR m1).lo = -SS := m1_val
      rw [if_pos rfl, if_pos rfl, x1, v, k1.1]; omega
  · unfold sinU
    cases h : hasB a b 4604930618986332160
    · rw [if_neg Bool.false_ne_true]; exact k1.2
    · obtain ⟨_, x2⟩ := hull_ends f3 m1_fit
      have v : val (oneR m1).hi = -SS := m1_val
      rw [if_pos rfl, x2, v, k1.2]
      split <;> omega
  · unfold cosU
    cases h : hasB a b 4602678819172646912
    · rw [if_neg Bool.false_ne_true, if_neg Bool.false_ne_true]; exact c1
    · obtain ⟨x1, _⟩ := hull_ends g2 m1_fit
      have v : val (oneR m1).lo = -SS := m1_val
      rw [if_pos rfl, if_pos rfl, x1, v]
      unfold cos2
      rw [c1]; omega
  · unfold cosU
    cases h : hasB a b 4602678819172646912
    · rw [if_neg Bool.false_ne_true]; exact c2
    · obtain ⟨_, x2⟩ := hull_ends g2 m1_fit
      have v : val (oneR m1).hi = -SS := m1_val
      rw [if_pos rfl, x2, v]
      unfold cos2
      rw [c2]; omega
end
section
open Go.RowKit

theorem Hc_lip {u v : Rat} (u0 : 0 ≤ u) (v1 : v ≤ 1) (uv : u ≤ v) : 0 ≤ ev Hc u - ev Hc v ∧ ev Hc u - ev Hc v ≤ v - u := by
  obtain ⟨i1, i2, _⟩ := ev_lip (by grind : -1 ≤ u) v1 uv Cr
  rw [Cr_is, Cr_is] at i1 i2
  have o := Cr_ok
  have k := Rat.mul_nonneg (by grind : 0 ≤ v - u) (by grind : 0 ≤ 1 / 4 - dabs Cr)
  generalize dabs Cr = K at *
  constructor <;> grind
theorem hC_lip {a b : Rat} (a0 : -1 ≤ a) (b1 : b ≤ 1) (ab : a ≤ b) : -(2 * (b - a)) ≤ hC b - hC a ∧ hC b - hC a ≤ 2 * (b - a) := by
  have a1 : a * a ≤ 1 := by
    have := Rat.mul_nonneg (by grind : 0 ≤ 1 - a) (by grind : 0 ≤ 1 + a)
    grind
  have b1' : b * b ≤ 1 := by
    have := Rat.mul_nonneg (by grind : 0 ≤ 1 - b) (by grind : 0 ≤ 1 + b)
    grind
  have sq : ∀ x : Rat, 0 ≤ x * x := fun x => by
    rcases Rat.le_total (a := 0) (b := x) with g | g
    · exact Rat.mul_nonneg g g
    · have := Rat.mul_nonneg (by grind : 0 ≤ -x) (by grind : 0 ≤ -x)
      grind
  have k1 := Rat.mul_nonneg (by grind : 0 ≤ b - a) (by grind : 0 ≤ 2 - (a + b))
  have k2 := Rat.mul_nonneg (by grind : 0 ≤ b - a) (by grind : 0 ≤ 2 + (a + b))
  have sa := sq a
  have sb := sq b
  unfold hC
  rcases Rat.le_total (a := a * a) (b := b * b) with g | g
  · obtain ⟨l, u⟩ := Hc_lip sa b1' g
    constructor <;> grind
  · obtain ⟨l, u⟩ := Hc_lip sb a1 g
    constructor <;> grind
theorem hS_lip {a b : Rat} (a0 : -1 ≤ a) (b1 : b ≤ 1) (ab : a ≤ b) : -(2 * (b - a)) ≤ hS b - hS a ∧ hS b - hS a ≤ 2 * (b - a) := by
  obtain ⟨i1, i2, _⟩ := ev_lip a0 b1 ab Sr
  rw [Sr_is, Sr_is] at i1 i2
  have o := Sr_ok
  have k := Rat.mul_nonneg (by grind : 0 ≤ b - a) (by grind : 0 ≤ 3 / 5 - dabs Sr)
  generalize dabs Sr = K at *
  constructor <;> grind
def nE : Rat := 1 / 140737488355328
theorem hq_small : hq ≤ 4 := by decide +kernel
theorem ee_Q : (0 : Rat) < ((EE : Int) : Rat) ∧ ((SS : Int) : Rat) = 9007199254740992 * ((EE : Int) : Rat) := by
  refine ⟨Rat.intCast_pos.2 ee_pos, ?_⟩
  rw [ss_ee, Rat.intCast_mul]; rfl
theorem nE_is : nE * ((SS : Int) : Rat) = 64 * ((EE : Int) : Rat) := by
  rw [ee_Q.2]; unfold nE; grind
theorem cv_near {x y : Nat} (hx : Turn x) (hy : Turn y) (h : val x ≤ val y) (g : val y - val x ≤ 2 * EE) : -nE ≤ cv y - cv x ∧ cv y - cv x ≤ nE := by
  have p := phase hx
  have p' := phase hy
  obtain ⟨E0, Es⟩ := ee_Q
  have d : 0 ≤ hX y - hX x ∧ 32 * (hX y - hX x) ≤ nE := by
    have c1 := Rat.intCast_le_intCast.2 h
    have c2 := Rat.intCast_le_intCast.2 g
    rw [Rat.intCast_sub, Rat.intCast_mul, show ((2 : Int) : Rat) = 2 from rfl] at c2
    rw [← hX_is, ← hX_is] at c1 c2
    have S := ssQ
    constructor
    · have := Rat.le_of_mul_le_mul_right c1 S
      grind
    · refine Rat.le_of_mul_le_mul_right (c := ((SS : Int) : Rat)) ?_ S
      rw [nE_is]
      grind
  have q1 := hq_small
  have q2 := hq_big
  have δ0 := Rat.mul_nonneg (by grind : 0 ≤ hq) d.1
  have δ1 : 4 * (2 * hq * (hX y - hX x)) ≤ nE := by
    have := Rat.mul_nonneg (by grind : 0 ≤ 4 - hq) d.1
    grind
  have hE : 4 * hEp ≤ nE ∧ 0 ≤ hEp := by decide +kernel
  obtain ⟨h0, h1, e1, e2, _, _, _, _⟩ := hh_facts
  have et := p.et
  have et' := p'.et
  have lo := p.lo
  have hi := p.hi
  have lo' := p'.lo
  have hi' := p'.hi
  rw [(sv_is p).2, (sv_is p').2]
  have jl := p'.le
  rcases ph_order p p' h with o | ⟨o, ot⟩
  · have nx : qN y = qN x + 1 := by
      have a := p'.a
      have b := p.b
      have e0 := ee_pos
      rcases Nat.lt_or_ge (qN x + 1) (qN y) with c | c
      · exfalso
        have k := Int.mul_le_mul_of_nonneg_right (by omega : 2 * (qN x : Int) + 3 ≤ 2 * (qN y : Int) - 1) (Int.le_of_lt SS0)
        have es := ss_ee
        have f : (2 * (qN x : Int) + 3) * SS = (2 * (qN x : Int) + 1) * SS + 2 * SS := by grind
        omega
      · omega
    have w : 4 * ((hh - hT x (qN x)) + (hT y (qN y) + hh)) ≤ nE := by
      rw [nx]
      unfold hT hh
      have : (((qN x + 1 : Nat) : Int) : Rat) = ((qN x : Int) : Rat) + 1 := by
        rw [Int.natCast_add, Rat.intCast_add]; rfl
      rw [this]
      grind
    have c1 := hC_lip (a := hT x (qN x)) (b := hh) (by grind) h1 hi
    have s1 := hS_lip (a := hT x (qN x)) (b := hh) (by grind) h1 hi
    have c2 := hC_lip (a := -hh) (b := hT y (qN y)) (by grind) (by grind) lo'
    have s2 := hS_lip (a := -hh) (b := hT y (qN y)) (by grind) (by grind) lo'
    rw [hC_even] at c2
    rw [hS_odd] at s2
    rw [nx] at c2 s2 w jl ⊢
    clear et et' δ0 δ1 q1 q2 d p p' E0 Es
    generalize hT x (qN x) = t at *
    generalize hT y (qN x + 1) = t' at *
    generalize hC t = ct at *
    generalize hS t = st at *
    generalize hC t' = ct' at *
    generalize hS t' = st' at *
    generalize hC hh = ch at *
    generalize hS hh = sh at *
    rcases (by omega : qN x = 0 ∨ qN x = 1 ∨ qN x = 2 ∨ qN x = 3) with z | z | z | z <;> rw [z]
    · show -nE ≤ -st' - ct ∧ -st' - ct ≤ nE
      constructor <;> grind
    · show -nE ≤ -ct' - -st ∧ -ct' - -st ≤ nE
      constructor <;> grind
    · show -nE ≤ st' - -ct ∧ st' - -ct ≤ nE
      constructor <;> grind
    · show -nE ≤ ct' - st ∧ ct' - st ≤ nE
      constructor <;> grind
  · have w : 4 * (hT y (qN y) - hT x (qN x)) ≤ nE := by
      rw [← o]
      unfold hT
      grind
    have c1 := hC_lip (a := hT x (qN x)) (b := hT y (qN y)) (by grind) (by grind) ot
    have s1 := hS_lip (a := hT x (qN x)) (b := hT y (qN y)) (by grind) (by grind) ot
    rw [← o] at c1 s1 w ot ⊢
    clear et et' δ0 δ1 q1 q2 d p p' E0 Es
    generalize hT x (qN x) = t at *
    generalize hT y (qN x) = t' at *
    generalize hC t = ct at *
    generalize hS t = st at *
    generalize hC t' = ct' at *
    generalize hS t' = st' at *
    rcases (by omega : qN x = 0 ∨ qN x = 1 ∨ qN x = 2 ∨ qN x = 3 ∨ qN x = 4) with z | z | z | z | z <;> rw [z]
    · show -nE ≤ ct' - ct ∧ ct' - ct ≤ nE
      constructor <;> grind
    · show -nE ≤ -st' - -st ∧ -st' - -st ≤ nE
      constructor <;> grind
    · show -nE ≤ -ct' - -ct ∧ -ct' - -ct ≤ nE
      constructor <;> grind
    · show -nE ≤ st' - st ∧ st' - st ≤ nE
      constructor <;> grind
    · show -nE ≤ ct' - ct ∧ ct' - ct ≤ nE
      constructor <;> grind
theorem cv_half : cv 4602678819172646912 = -1 := by decide +kernel
theorem half_turn : Turn 4602678819172646912 := ⟨by decide, by decide, by decide +kernel, by decide +kernel⟩
theorem near_int {r s : Res} {x y : Rat} (h : HasQ r x) (k : HasQ s y) (l : x ≤ y + nE) : val r.lo ≤ val s.hi + 64 * EE := by
  have a := h.low
  have b := k.high
  have c := Rat.mul_le_mul_of_nonneg_right l (Rat.le_of_lt ssQ)
  have n := nE_is
  refine Rat.intCast_le_intCast.1 ?_
  rw [Rat.intCast_add, Rat.intCast_mul, show ((64 : Int) : Rat) = 64 from rfl]
  grind
theorem n48 : val 4391009636686233600 = 32 * EE := by
  have h : val 4391009636686233600 = ((2 ^ 1026 : Nat) : Int) := by decide +kernel
  exact h.trans (pw_ee (k := 1026) (j := 5) rfl)
theorem n45 : val 4404520435568345088 = 256 * EE := by
  have h : val 4404520435568345088 = ((2 ^ 1029 : Nat) : Int) := by decide +kernel
  exact h.trans (pw_ee (k := 1029) (j := 8) rfl)
theorem cos_wide {al ah : Nat} (ta : Turn al) (tb : Turn ah) (h : val al ≤ val ah) (g : val ah - val al ≤ 2 * EE) : val (cosU al ah).hi - val (cosU al ah).lo ≤ val 4404520435568345088 := by
  have E := ends_of ta tb
  rw [E.olo, E.ohi, n45]
  have ca := (sv_has ta).2
  have cb := (sv_has tb).2
  have wa := (turn_narrow ta).2
  have wb := (turn_narrow tb).2
  rw [n48] at wa wb
  obtain ⟨ga, la, ua⟩ := cosR_facts ta
  obtain ⟨gb, lb, ub⟩ := cosR_facts tb
  have ea := ga.le
  have eb := gb.le
  have e0 := ee_pos
  split
  · rename_i hb
    obtain ⟨m1', m2'⟩ := (has_iff ta tb h (by decide) (by decide)).1 hb
    have n1 := cv_near ta half_turn m1' (by omega)
    have n2 := cv_near half_turn tb m2' (by omega)
    rw [cv_half] at n1 n2
    have hm : HasQ (oneR m1) (-1) := by
      have s := ssQ
      have v : val (oneR m1).lo = -SS ∧ val (oneR m1).hi = -SS := ⟨m1_val, m1_val⟩
      refine ⟨?_, ?_⟩
      · rw [v.1, Rat.intCast_neg]; grind
      · rw [v.2, Rat.intCast_neg]; grind
    have k1 := near_int ca hm (by grind)
    have k2 := near_int cb hm (by grind)
    have v : val (oneR m1).hi = -SS := m1_val
    omega
  · have n := cv_near ta tb h g
    have k1 := near_int ca cb (by grind)
    have k2 := near_int cb ca (by grind)
    omega
theorem lo_big {u : Nat} (hu : u < 18446744073709551616) (h : 9007199254740992 ≤ u) : 4398046511104 * EE ≤ val (ofLo u) := by
  obtain ⟨d, _, _⟩ := of_tight u hu
  have v : val 4557642822898941952 = 4398046511104 * EE := by
    have h : val 4557642822898941952 = ((2 ^ 1063 : Nat) : Int) := by decide +kernel
    exact h.trans (pw_ee (k := 1063) (j := 42) rfl)
  have t : val 4557642822898941952 * ((1 : Nat) : Int) ≤ ((u * 2 ^ dr : Nat) : Int) := by
    have e : val 4557642822898941952 = ((9007199254740992 * 2 ^ dr : Nat) : Int) := by decide +kernel
    rw [e, show ((1 : Nat) : Int) = 1 from rfl, Int.mul_one]
    exact Int.ofNat_le.2 (Nat.mul_le_mul_right _ h)
  rw [← v]
  rcases d with ⟨_, _, _, _, c⟩ | ⟨c, _, _⟩
  · exact c _ (by decide) (by decide) t
  · exact absurd c (by decide)
theorem of_exact {u : Nat} (hu : u < 18446744073709551616) (h : u < 9007199254740992) : val (ofHi u) ≤ val (ofLo u) := by
  obtain ⟨d, g, _⟩ := of_tight u hu
  obtain ⟨r, hr, st⟩ := num_at u dr h (by decide) (by decide)
  obtain ⟨r1, r2, _, _, rv⟩ := pos_facts r hr
  have e : val r = ((u * 2 ^ dr : Nat) : Int) := by rw [rv, st]
  have o : ((1 : Nat) : Int) = 1 := rfl
  have a : val r ≤ val (ofLo u) := by
    rcases d with ⟨_, _, _, _, c⟩ | ⟨c, _, _⟩
    · exact c r r1 r2 (by rw [e, o, Int.mul_one]; exact Int.le_refl _)
    · exact absurd c (by decide)
  have b : val (ofHi u) ≤ val r := by
    rcases g with ⟨_, _, _, _, c⟩ | ⟨c, _, _⟩
    · exact c r r1 r2 (by rw [e, o, Int.mul_one]; exact Int.le_refl _)
    · exact absurd c (by decide)
  exact Int.le_trans b a
theorem lo_less {u : Nat} (hu : u < 18446744073709551616) : val (ofLo u) < SS := by
  obtain ⟨d, _, _⟩ := of_tight u hu
  have e : SS = ((18446744073709551616 * 2 ^ dr : Nat) : Int) := by decide +kernel
  have k : ((u * 2 ^ dr : Nat) : Int) < ((18446744073709551616 * 2 ^ dr : Nat) : Int) := Int.ofNat_lt.2 (Nat.mul_lt_mul_of_pos_right hu (Nat.two_pow_pos dr))
  rcases d with ⟨_, _, _, c, _⟩ | ⟨c, _, _⟩
  · rw [e]
    rw [show ((1 : Nat) : Int) = 1 from rfl, Int.mul_one] at c
    exact Int.lt_of_le_of_lt c k
  · exact absurd c (by decide)
theorem r_wide {u : Nat} (hu : u < 18446744073709551616) (ha : In ⟨0, ofLo u, ofHi u⟩ cuI) : val (Cn.r ⟨0, ofLo u, ofHi u⟩).hi - val (Cn.r ⟨0, ofLo u, ofHi u⟩).lo ≤ val 4404520435568345088 := by
  rw [n45]
  have A := cn_r ha
  have p := ee_pos
  have e := ss_ee
  have ah := A.hi
  rw [cn_boxes.2.2.2.2.2.1] at ah
  have al := A.fit.le
  have hl : 0 ≤ val (ofLo u) := by have := ha.lo; rw [cu_ends.1] at this; exact this
  have hh' : val (ofHi u) ≤ SS := by have := ha.hi; rw [cu_ends.2] at this; exact this
  rcases Int.lt_or_le (val (Cn.r ⟨0, ofLo u, ofHi u⟩).hi) (2 * EE) with c | c
  · obtain ⟨_, ⟨s0, _, _⟩, _⟩ := sqrt_parts ha.fit A.fit.e
    have s0 : 0 ≤ val (Cn.r ⟨0, ofLo u, ofHi u⟩).lo := s0
    omega
  obtain ⟨r1, r2⟩ := root_gaps ha.fit A.fit.e (k := 1022) (by decide) (by decide) (G := 2 * EE) (pw_ee (k := 1022) (j := 1) rfl).symm (by exact c) (by show val (Cn.r ⟨0, ofLo u, ofHi u⟩).hi < _; omega) (by show val (Cn.r ⟨0, ofLo u, ofHi u⟩).lo < _; omega)
  have r1 : (val (Cn.r ⟨0, ofLo u, ofHi u⟩).hi - 2 * EE) * (val (Cn.r ⟨0, ofLo u, ofHi u⟩).hi - 2 * EE) < val (ofHi u) * SS := r1
  have r2 : val (ofLo u) * SS < (val (Cn.r ⟨0, ofLo u, ofHi u⟩).lo + 2 * EE) * (val (Cn.r ⟨0, ofLo u, ofHi u⟩).lo + 2 * EE) := r2
  obtain ⟨_, ⟨s0, _, _⟩, _⟩ := sqrt_parts ha.fit A.fit.e
  have s0 : 0 ≤ val (Cn.r ⟨0, ofLo u, ofHi u⟩).lo := s0
  obtain ⟨x, hx⟩ : ∃ x, x = val (Cn.r ⟨0, ofLo u, ofHi u⟩).hi - 2 * EE := ⟨_, rfl⟩
  obtain ⟨y, hy⟩ : ∃ y, y = val (Cn.r ⟨0, ofLo u, ofHi u⟩).lo + 2 * EE := ⟨_, rfl⟩
  rw [← hx] at r1
  rw [← hy] at r2
  have y0 : 0 ≤ y := by omega
  rcases Int.le_total x y with t | t
  · omega
  have q1 : y * y ≤ x * x := sq_mono y0 t
  rcases Nat.lt_or_ge u 9007199254740992 with n | n
  · have k := Int.mul_le_mul_of_nonneg_right (of_exact hu n) (show 0 ≤ SS by omega)
    omega
  · have w := of_near hu hh' (lo_less hu) hl (Int.le_trans hl ha.fit.le)
    have b := lo_big hu n
    have yb : 140737488355328 * EE ≤ y := by
      rcases Int.le_total (140737488355328 * EE) y with c1 | c1
      · exact c1
      · exfalso
        have m := sq_mono y0 c1
        have f : 140737488355328 * EE * (140737488355328 * EE) = 19807040628566084398385987584 * (EE * EE) := by grind
        have b' := Int.mul_le_mul_of_nonneg_right b (show 0 ≤ SS by omega)
        have f2 : 4398046511104 * EE * SS = 39614081257132168796771975168 * (EE * EE) := by rw [e]; grind
        have := Int.mul_pos p p
        omega
    have fin : x - y ≤ 128 * EE := by
      rcases Int.le_total (x - y) (128 * EE) with c1 | c1
      · exact c1
      · exfalso
        have m : 128 * EE * (281474976710656 * EE) ≤ (x - y) * (x + y) := Int.mul_le_mul c1 (by omega) (by omega) (by omega)
        have f : 128 * EE * (281474976710656 * EE) = 36028797018963968 * (EE * EE) := by grind
        have f2 : (x - y) * (x + y) = x * x - y * y := by grind
        have k := Int.mul_le_mul_of_nonneg_right (show val (ofHi u) - val (ofLo u) ≤ 2 * EE by omega) (show 0 ≤ SS by omega)
        have f3 : 2 * EE * SS = 18014398509481984 * (EE * EE) := by rw [e]; grind
        rw [Int.sub_mul] at k
        have := Int.mul_pos p p
        omega
    omega
theorem snd_of {r R : Res} {w : Int} (i : In r R) (h : val r.hi - val r.lo ≤ w) (f : Fit R) : Snd r ⟨R, w⟩ := ⟨⟨i, h⟩, f⟩
def wayW : Int := val 4404520435568345088
theorem way_box : bok ((⟨Cn.r cuI, wayW⟩ : BW).mul ⟨wideR, wayW⟩) = true ∧ ((⟨Cn.r cuI, wayW⟩ : BW).mul ⟨wideR, wayW⟩).w ≤ val 4427038433705197568 := by decide +kernel
theorem way_w : val 4404520435568345088 ≤ wayW := Int.le_refl _
theorem x_wide {u al ah : Nat} (hu : u < 18446744073709551616) (ha : In ⟨0, ofLo u, ofHi u⟩ cuI) (ta : Turn al) (tb : Turn ah) (h : val al ≤ val ah) (g : val ah - val al ≤ 2 * EE) : val (Cn.x ⟨0, ofLo u, ofHi u⟩ (cosU al ah)).hi - val (Cn.x ⟨0, ofLo u, ofHi u⟩ (cosU al ah)).lo ≤ val 4427038433705197568 := by
  have s := snd_of (cn_r ha) (Int.le_trans (r_wide hu ha) way_w) cn_boxes.1
  have k := snd_of (sinU_wide ta tb).2 (Int.le_trans (cos_wide ta tb h g) way_w) wide1_fit
  have m := s.mul k way_box.1
  exact bound_wide m.wid.has.fit (Int.le_trans m.wid.wide way_box.2)
end
section
open Go.RowKit

theorem cap_box : Fit (sqrR cuI) ∧ Fit (subR (oneR u1) (sqrR cuI)) ∧ Fit (capR (oneR u1) cuI) := ⟨.of (by decide +kernel), .of (by decide +kernel), .of (by decide +kernel)⟩
theorem cap_has8 {t : Nat} (ht : In (oneR t) cuI) : HasQ (capR (oneR u1) (oneR t)) (1 * (1 - hX t * hX t)) ∧ Fit (capR (oneR u1) (oneR t)) := by
  obtain ⟨b1, b2, b3⟩ := cap_box
  have q : In (sqrR (oneR t)) (sqrR cuI) := sqr_in ht cu_fit b1.e
  have s : In (subR (oneR u1) (sqrR (oneR t))) (subR (oneR u1) (sqrR cuI)) := sub_in (.refl u1_fit) u1_fit q b1 b2.e
  have c : In (capR (oneR u1) (oneR t)) (capR (oneR u1) cuI) := mul_in (.refl u1_fit) u1_fit s b2 b3.e
  have k1 := HasQ.sqr ht.fit (HasQ.one t) q.fit.e
  have k2 := HasQ.sub u1_fit q.fit hasQ_one k1 s.fit.e
  exact ⟨HasQ.mul u1_fit s.fit hasQ_one k2 c.fit.e, c.fit⟩
theorem x_eq (t : Nat) : hX t * ((SS : Int) : Rat) = ((val t : Int) : Rat) := by
  have s := ssQ
  unfold hX
  exact Rat.div_mul_cancel (by grind)
theorem mul_self_lt {x y : Int} (hy : 0 ≤ y) (h : x * x < y * y) : x < y := by
  rcases Int.lt_or_le x y with c | c
  · exact c
  · have := Int.mul_self_le_mul_self hy c
    omega
theorem often {a : Res} {t : Nat} (ha : In a cuI) (ht : In (oneR t) cuI) :
    (val (capR (oneR u1) (oneR t)).lo ≤ val a.hi ∨ val t ≤ val (Cn.z a).hi) ∧ (val a.lo ≤ val (capR (oneR u1) (oneR t)).hi ∨ val (Cn.z a).lo ≤ val t) := by
  have I := ch_in ha
  obtain ⟨hc, _⟩ := cap_has8 ht
  obtain ⟨m1', m2'⟩ := max_ends0 I.d.fit
  obtain ⟨z1, z2⟩ := clamp_ends0 I.s.fit
  obtain ⟨_, ⟨s0, s1, _⟩, t0, t1, _⟩ := sqrt_parts I.m.fit I.s.fit.e
  have s := ssQ
  have s0' := SS0
  have v0 := cv0
  have us : val u1 = SS := by decide +kernel
  have l0 : 0 ≤ val t := by have := ht.lo; have e : val cuI.lo = 0 := by decide +kernel
                            have l : val cuI.lo ≤ val t := this
                            omega
  have l1 : val t ≤ SS := by have := ht.hi; have e : val cuI.hi = SS := by decide +kernel
                             have l : val t ≤ val cuI.hi := this
                             omega
  have hq := hc.low
  have hr := hc.high
  have e : (1 * (1 - hX t * hX t)) * ((SS : Int) : Rat) * ((SS : Int) : Rat) = ((SS : Int) : Rat) * ((SS : Int) : Rat) - ((val t : Int) : Rat) * ((val t : Int) : Rat) := by
    rw [← x_eq t]; grind
  -- the difference' ends
  have dh := HasQ.sub u1_fit ha.fit hasQ_one (HasQ.end ha.fit) I.d.fit.e
  refine ⟨?_, ?_⟩
  · by_cases g : val (capR (oneR u1) (oneR t)).lo ≤ val a.hi
    · exact .inl g
    · refine .inr ?_
      have d := HasQ.sub u1_fit ha.fit hasQ_one (show HasQ a (((val a.hi : Int) : Rat) / ((SS : Int) : Rat)) from ⟨by rw [Rat.div_mul_cancel (by grind)]; exact Rat.intCast_le_intCast.2 ha.fit.le, by rw [Rat.div_mul_cancel (by grind)]; exact Rat.le_refl⟩) I.d.fit.e
      have d2 := d.high
      have e2 : (1 - ((val a.hi : Int) : Rat) / ((SS : Int) : Rat)) * ((SS : Int) : Rat) = ((SS - val a.hi : Int) : Rat) := by
        have i : ((val a.hi : Int) : Rat) / ((SS : Int) : Rat) * ((SS : Int) : Rat) = ((val a.hi : Int) : Rat) := Rat.div_mul_cancel (by grind)
        rw [Rat.intCast_sub]
        grind
      rw [e2] at d2
      have d3 : SS - val a.hi ≤ val (Cn.d a).hi := Rat.intCast_le_intCast.1 d2
      -- t t < (SS - a.hi) SS
      have k : val t * val t < (SS - val a.hi) * SS := by
        have q1 : ((val (capR (oneR u1) (oneR t)).lo * SS : Int) : Rat) ≤ ((SS * SS - val t * val t : Int) : Rat) := by
          rw [Rat.intCast_mul, Rat.intCast_sub, Rat.intCast_mul, Rat.intCast_mul, ← e]
          exact Rat.mul_le_mul_of_nonneg_right hq (Rat.le_of_lt s)
        have q2 := Rat.intCast_le_intCast.1 q1
        have q3 := Int.mul_lt_mul_of_pos_right (show val a.hi < val (capR (oneR u1) (oneR t)).lo by omega) s0'
        rw [Int.sub_mul]; omega
      have k2 : (SS - val a.hi) * SS ≤ val (Cn.m a).hi * SS := Int.mul_le_mul_of_nonneg_right (by show SS - val a.hi ≤ val (maxR (Cn.d a) (oneR 0)).hi; omega) (by omega)
      have k3 : val t < val (Cn.s a).hi := mul_self_lt t0 (by show _ < val (sqrtR (Cn.m a)).hi * val (sqrtR (Cn.m a)).hi; omega)
      show val t ≤ val (clampR (Cn.s a)).hi
      omega
  · by_cases g : val a.lo ≤ val (capR (oneR u1) (oneR t)).hi
    · exact .inl g
    · refine .inr ?_
      have d2 := dh.low
      have e2 : (1 - ((val a.lo : Int) : Rat) / ((SS : Int) : Rat)) * ((SS : Int) : Rat) = ((SS - val a.lo : Int) : Rat) := by
        have i : ((val a.lo : Int) : Rat) / ((SS : Int) : Rat) * ((SS : Int) : Rat) = ((val a.lo : Int) : Rat) := Rat.div_mul_cancel (by grind)
        rw [Rat.intCast_sub]
        grind
      rw [e2] at d2
      have d3 : val (Cn.d a).lo ≤ SS - val a.lo := Rat.intCast_le_intCast.1 d2
      have k : (SS - val a.lo) * SS < val t * val t := by
        have q1 : ((SS * SS - val t * val t : Int) : Rat) ≤ ((val (capR (oneR u1) (oneR t)).hi * SS : Int) : Rat) := by
          rw [Rat.intCast_mul, Rat.intCast_sub, Rat.intCast_mul, Rat.intCast_mul, ← e]
          exact Rat.mul_le_mul_of_nonneg_right hr (Rat.le_of_lt s)
        have q2 := Rat.intCast_le_intCast.1 q1
        have q3 := Int.mul_lt_mul_of_pos_right (show val (capR (oneR u1) (oneR t)).hi < val a.lo by omega) s0'
        rw [Int.sub_mul]; omega
      have k3 : val (Cn.s a).lo ≤ val t := by
        rcases Int.le_total (val (Cn.d a).lo) 0 with c | c
        · have : val (Cn.m a).lo = 0 := by show val (maxR (Cn.d a) (oneR 0)).lo = 0; omega
          rw [this, Int.zero_mul] at s1
          rcases Int.le_total (val (Cn.s a).lo) 0 with c2 | c2
          · omega
          · have s1 : val (Cn.s a).lo * val (Cn.s a).lo ≤ 0 := s1
            rcases Int.lt_or_le 0 (val (Cn.s a).lo) with c3 | c3
            · have := Int.mul_pos c3 c3; omega
            · omega
        · have : val (Cn.m a).lo = val (Cn.d a).lo := by show val (maxR (Cn.d a) (oneR 0)).lo = _; omega
          rw [this] at s1
          have k4 := Int.mul_le_mul_of_nonneg_right d3 (show 0 ≤ SS by omega)
          have s1 : val (Cn.s a).lo * val (Cn.s a).lo ≤ val (Cn.d a).lo * SS := s1
          have := mul_self_lt l0 (show val (Cn.s a).lo * val (Cn.s a).lo < val t * val t by omega)
          omega
      show val (clampR (Cn.s a)).lo ≤ val t
      omega
end
section
open Go.RowKit

end
section
open Go.RowKit

section
variable {r s : Res} {x y : BW} (h : Snd r x) (g : Snd s y)
include h
include g
end
end
section
open Go.RowKit

section
variable {f g f' g' : Nat → Rat}
end

section
variable {r s : Res} {x y : Rat}
end
section
variable {r s : Res} {f g : Nat → Rat}
end

end
section
open Go.RowKit

def Sn.a (c : Res) : Res := sqrR c
def Sn.b (c : Res) : Res := subR (oneR 4607182418800017408) (Sn.a c)
def Sn.d (n : Res) : Res := sqrR n
def Sn.g (c n : Res) : Res := divR (Sn.b c) (Sn.d n)
def Sn.i (c n : Res) : Res := subR (oneR 4607182418800017408) (Sn.g c n)
def Sn.s (c n : Res) : Res := sqrtR (Sn.i c n)
def Sn.j (c n : Res) : Res := mulR n (Sn.s c n)
def Sn.k (c n : Res) : Res := subR c (Sn.j c n)
def Sn.l (c n : Res) : Res := addR c (Sn.j c n)
def Sn.m (c n : Res) : Res := divR (Sn.k c n) (Sn.l c n)
def Sn.o (c n : Res) : Res := sqrR (Sn.m c n)
def Sn.q (c n : Res) : Res := mulR n c
def Sn.r (c n : Res) : Res := subR (Sn.q c n) (Sn.s c n)
def Sn.t (c n : Res) : Res := addR (Sn.q c n) (Sn.s c n)
def Sn.u (c n : Res) : Res := divR (Sn.r c n) (Sn.t c n)
def Sn.v (c n : Res) : Res := sqrR (Sn.u c n)
def Sn.x (c n : Res) : Res := addR (Sn.o c n) (Sn.v c n)
def Sn.y (c n : Res) : Res := mulR (oneR 4602678819172646912) (Sn.x c n)
structure Sn.Ins (c n C N : Res) : Prop where
  a' : In (Sn.a c) (Sn.a C)
  b' : In (Sn.b c) (Sn.b C)
  d' : In (Sn.d n) (Sn.d N)
  g' : In (Sn.g c n) (Sn.g C N)
  i' : In (Sn.i c n) (Sn.i C N)
  s' : In (Sn.s c n) (Sn.s C N)
  j' : In (Sn.j c n) (Sn.j C N)
  k' : In (Sn.k c n) (Sn.k C N)
  l' : In (Sn.l c n) (Sn.l C N)
  m' : In (Sn.m c n) (Sn.m C N)
  o' : In (Sn.o c n) (Sn.o C N)
  q' : In (Sn.q c n) (Sn.q C N)
  r' : In (Sn.r c n) (Sn.r C N)
  t' : In (Sn.t c n) (Sn.t C N)
  u' : In (Sn.u c n) (Sn.u C N)
  v' : In (Sn.v c n) (Sn.v C N)
  x' : In (Sn.x c n) (Sn.x C N)
  y' : In (Sn.y c n) (Sn.y C N)
def Sn.ok (C N : Res) : Bool := fitB (Sn.a C) && fitB (Sn.b C) && fitB (Sn.d N) && fitB (Sn.g C N) && fitB (Sn.i C N) && fitB (Sn.s C N) && fitB (Sn.j C N) && fitB (Sn.k C N) && fitB (Sn.l C N) && fitB (Sn.m C N) && fitB (Sn.o C N) && fitB (Sn.q C N) && fitB (Sn.r C N) && fitB (Sn.t C N) && fitB (Sn.u C N) && fitB (Sn.v C N) && fitB (Sn.x C N) && fitB (Sn.y C N)
theorem Bd.of {f g : Nat → Rat} (h : Bd f) (e : ∀ m, f m = g m) : Bd g := by
  have : f = g := funext e
  rw [← this]; exact h
end
section
open Go.RowKit

def w2 : Nat := 4611686018427387904
def w3 : Nat := 4613937818241073152
theorem Or.v0 : val 0 = 0 := by decide +kernel
def Or.x : Res := divR piR (oneR w2)
def Or.t : Res := divR (oneR w2) (oneR w3)
def Or.g : Res := subR Or.x Or.t
def Or.m (s : Res) : Res := mulR Or.g s
def Or.q (s : Res) : Res := addR piR (Or.m s)
def Or.a (s : Res) : Res := divR (oneR u1) (Or.q s)
def Or.b (s : Res) : Res := mulR s (Or.a s)
def ouI : Res := ⟨0, 0, u1⟩
def oeI : Res := ⟨0, m1, u1⟩
structure PairIn (s S : Res) : Prop where
  m : In (Or.m s) (Or.m S)
  q : In (Or.q s) (Or.q S)
  a : In (Or.a s) (Or.a S)
  b : In (Or.b s) (Or.b S)
def Or.p (i o : Res) : Res := mulR i o
def Or.s (i o d : Res) : Res := subR d (Or.p i o)
def Or.top (i o : Res) : Res := maxR i o
def posR (r : Res) : Res := ⟨0, maxW r.lo 0, r.hi⟩
def Or.r (i o d : Res) : Res := divR (posR (Or.s i o d)) (Or.top i o)
def midR (s r : Res) : Res := ⟨0, minW s.lo r.lo, maxW 0 r.hi⟩
def Or.st (i o d : Res) : Res :=
  if 0 < val (Or.s i o d).hi then (if (Or.r i o d).e = 0 then (if 0 ≤ val (Or.s i o d).lo then Or.r i o d else midR (Or.s i o d) (Or.r i o d)) else Or.r i o d) else Or.s i o d
def edgeW (x : Nat) : Nat := minW (maxW x m1) u1
def edgeR (r : Res) : Res := ⟨r.e, edgeW r.lo, edgeW r.hi⟩
theorem edgeR_lo (r : Res) : (edgeR r).lo = edgeW r.lo := by rw [edgeR]
theorem edgeR_hi (r : Res) : (edgeR r).hi = edgeW r.hi := by rw [edgeR]
theorem edgeR_e (r : Res) : (edgeR r).e = r.e := by rw [edgeR]
theorem edge_facts {x : Nat} (lx : x < 18446744073709551616) (rx : rightB x = true) : edgeW x < 18446744073709551616 ∧ rightB (edgeW x) = true ∧ val (edgeW x) = min (max (val x) (-SS)) SS := by
  obtain ⟨p1, p2, p3⟩ := max_facts x m1 lx (by decide) rx (by decide)
  obtain ⟨n1, n2, n3⟩ := min_facts (maxW x m1) u1 p1 (by decide) p2 (by decide)
  refine ⟨n1, n2, ?_⟩
  have e1 : val m1 = -SS := by decide +kernel
  have e2 : val u1 = SS := by decide +kernel
  show val (minW (maxW x m1) u1) = _
  rw [n3, p3, e1, e2]
theorem edge_fit {a : Res} (h : Fit a) : Fit (edgeR a) := by
  obtain ⟨l1, l2, l3⟩ := edge_facts h.lo h.rlo
  obtain ⟨k1, k2, k3⟩ := edge_facts h.hi h.rhi
  have hle := h.le
  refine ⟨by rw [edgeR_e]; exact h.e, by rw [edgeR_lo]; exact l1, by rw [edgeR_hi]; exact k1, ?_⟩
  rw [edgeR_lo, edgeR_hi]
  unfold ivR leB
  rw [l2, k2, decide_eq_true (show val (edgeW a.lo) ≤ val (edgeW a.hi) by rw [l3, k3]; omega)]; rfl
structure Dirs (i o d : Res) : Prop where
  i : In i ouI
  o : In o ouI
  d : In d oeI
structure SlopeIn (i o d I O D : Res) : Prop where
  p : In (Or.p i o) (Or.p I O)
  s : In (Or.s i o d) (Or.s I O D)
  top : In (Or.top i o) (Or.top I O)
theorem Dirs.part {i o d I O D : Res} (h : Dirs I O D) (hi : In i I) (ho : In o O) (hd : In d D) : Dirs i o d :=
  ⟨⟨hi.fit, Int.le_trans h.i.lo hi.lo, Int.le_trans hi.hi h.i.hi⟩, ⟨ho.fit, Int.le_trans h.o.lo ho.lo, Int.le_trans ho.hi h.o.hi⟩, ⟨hd.fit, Int.le_trans h.d.lo hd.lo, Int.le_trans hd.hi h.d.hi⟩⟩
def Or.n (s t : Res) : Res := mulR (Or.b s) t
def Or.k (s t : Res) : Res := addR (Or.a s) (Or.n s t)
def Or.l (r s t : Res) : Res := mulR r (Or.k s t)
def Or.val (r s t : Res) : Res := clampR (Or.l r s t)
structure ValIn (r s t R S T : Res) : Prop where
  n : In (Or.n s t) (Or.n S T)
  k : In (Or.k s t) (Or.k S T)
  l : In (Or.l r s t) (Or.l R S T)
end
section
open Go.RowKit

def rv (x : Nat) : Rat := ((val x : Int) : Rat) / ((SS : Int) : Rat)
def Qp : Rat := rv piR.lo
theorem qp_3 : 3 ≤ Qp := by
  have S := ssQ
  have e : 3 * SS ≤ val piR.lo := by decide +kernel
  have k : (((3 * SS : Int)) : Rat) ≤ ((val piR.lo : Int) : Rat) := Rat.intCast_le_intCast.2 e
  rw [Rat.intCast_mul] at k
  refine Rat.le_of_mul_le_mul_right (c := ((SS : Int) : Rat)) ?_ S
  have e2 : Qp * ((SS : Int) : Rat) = ((val piR.lo : Int) : Rat) := by unfold Qp rv; grind
  rw [e2]; exact k
def gQ : Rat := Qp / 2 - 2 / 3
theorem g_pos : 0 < gQ := by have := qp_3; unfold gQ; grind
theorem den_pos {s : Rat} (h : 0 ≤ s) : 0 < Qp + gQ * s := by
  have := qp_3
  have := Rat.mul_nonneg (Rat.le_of_lt g_pos) h
  grind
def BW.self (r : Res) : BW := ⟨r, val r.hi - val r.lo⟩
theorem Snd.self {r : Res} (f : Fit r) : Snd r (BW.self r) := ⟨⟨.refl f, Int.le_refl _⟩, f⟩
def Ow.m : BW := (BW.self Or.g).mul ⟨ouI, 0⟩
def Ow.q : BW := (BW.self piR).add Ow.m
def Ow.a : BW := (BW.one u1).div Ow.q
def Ow.b : BW := (BW.mk ouI 0).mul Ow.a
def Ow.one : BW := ((BW.self piR).mul Ow.a).add ((BW.self Or.g).mul Ow.b)
def c8I : Res := ⟨0, 4571153621781053440, u1⟩
def Ow.p : BW := (BW.mk c8I 0).mul ⟨c8I, 0⟩
def Ow.s : BW := (BW.mk oeI 0).sub Ow.p
def Ow.pos : BW := ⟨⟨0, 0, Ow.s.R.hi⟩, Ow.s.w⟩
def half (k : Nat) : Nat := 4607182418800017408 - k * 4503599627370496
def Ow.r (k : Nat) : BW := Ow.pos.div ⟨⟨0, half (k + 1), half k⟩, 0⟩
def Ow.t (k : Nat) : BW := ⟨oeI, (Ow.r k).w + Ow.s.w⟩
def Ow.n (k : Nat) : BW := Ow.b.mul (Ow.t k)
def Ow.k (k : Nat) : BW := Ow.a.add (Ow.n k)
def Ow.l (k : Nat) : BW := (BW.mk ouI 0).mul (Ow.k k)
def Ow.ok (k : Nat) : Bool := fitB ⟨0, half (k + 1), half k⟩ && bok (Ow.r k) && bok (Ow.n k) && bok (Ow.k k) && bok (Ow.l k) && decide (0 ≤ (Ow.r k).w) && decide (0 ≤ val (Ow.r k).R.lo) && decide ((Ow.l k).w ≤ val 4427038433705197568) && decide (0 < val (half (k + 1)))
end
section
open Go.RowKit

def capQ (x : Rat) : Rat := if x ≤ -1 then -1 else if 1 ≤ x then 1 else x
theorem capQ_near {x y e : Rat} (h1 : -e ≤ x - y) (h2 : x - y ≤ e) (h3 : -1 - e ≤ y) (h4 : y ≤ 1 + e) (he : 0 ≤ e) : -(2 * e) ≤ capQ x - y ∧ capQ x - y ≤ 2 * e := by
  unfold capQ
  split
  · constructor <;> grind
  · split <;> constructor <;> grind
theorem int_max (a b : Int) : ((max a b : Int) : Rat) = (a : Rat) ∧ b ≤ a ∨ ((max a b : Int) : Rat) = (b : Rat) ∧ a ≤ b := by
  rcases Int.le_total a b with h | h
  · exact Or.inr ⟨by rw [Int.max_eq_right h], h⟩
  · exact Or.inl ⟨by rw [Int.max_eq_left h], h⟩
theorem int_min (a b : Int) : ((min a b : Int) : Rat) = (a : Rat) ∧ a ≤ b ∨ ((min a b : Int) : Rat) = (b : Rat) ∧ b ≤ a := by
  rcases Int.le_total a b with h | h
  · exact Or.inl ⟨by rw [Int.min_eq_left h], h⟩
  · exact Or.inr ⟨by rw [Int.min_eq_right h], h⟩
theorem HasQ.boundW {r : Res} {x : Rat} (f : Fit r) (h : HasQ r x) (l : val r.lo ≤ SS) (g : -SS ≤ val r.hi) : HasQ (boundR r) (capQ x) := by
  obtain ⟨b1, b2⟩ := bound_ends f l g
  have S := ssQ
  have h1 := h.low
  have h2 := h.high
  have l' : ((val r.lo : Int) : Rat) ≤ ((SS : Int) : Rat) := Rat.intCast_le_intCast.2 l
  have g' : -((SS : Int) : Rat) ≤ ((val r.hi : Int) : Rat) := by rw [← Rat.intCast_neg]; exact Rat.intCast_le_intCast.2 g
  have n : ((-SS : Int) : Rat) = -((SS : Int) : Rat) := Rat.intCast_neg _
  have m1 := int_max (val r.lo) (-SS)
  have m2 := int_min (val r.hi) SS
  rw [← b1] at m1
  rw [← b2] at m2
  generalize ((SS : Int) : Rat) = s at *
  generalize ((val r.lo : Int) : Rat) = a at *
  generalize ((val r.hi : Int) : Rat) = b at *
  have k1 : x ≤ -1 → x * s ≤ -s := fun q => by have := Rat.mul_nonneg (by grind : 0 ≤ -1 - x) (by grind : 0 ≤ s); grind
  have k2 : 1 ≤ x → s ≤ x * s := fun q => by have := Rat.mul_nonneg (by grind : 0 ≤ x - 1) (by grind : 0 ≤ s); grind
  have k3 : -1 ≤ x → -s ≤ x * s := fun q => by have := Rat.mul_nonneg (by grind : 0 ≤ x + 1) (by grind : 0 ≤ s); grind
  have k4 : x ≤ 1 → x * s ≤ s := fun q => by have := Rat.mul_nonneg (by grind : 0 ≤ 1 - x) (by grind : 0 ≤ s); grind
  have c : capQ x = -1 ∧ x ≤ -1 ∨ capQ x = 1 ∧ 1 ≤ x ∨ capQ x = x ∧ -1 ≤ x ∧ x ≤ 1 := by
    unfold capQ
    split
    · grind
    · split <;> grind
  constructor
  · rcases c with ⟨e, q⟩ | ⟨e, q⟩ | ⟨e, q, q'⟩ <;> rw [e] <;> rcases m1 with ⟨m, _⟩ | ⟨m, _⟩ <;> rw [m] <;> grind
  · rcases c with ⟨e, q⟩ | ⟨e, q⟩ | ⟨e, q, q'⟩ <;> rw [e] <;> rcases m2 with ⟨m, _⟩ | ⟨m, _⟩ <;> rw [m] <;> grind
def Cap1 (f : Nat → Rat) : Prop := ∀ e : Rat, 0 < e → ∃ M : Nat, ∀ m, M ≤ m → -1 - e ≤ f m ∧ f m ≤ 1 + e
theorem HasS.bound {r : Res} {f : Nat → Rat} (fr : Fit r) (h : HasS r f) (l : val r.lo ≤ SS) (g : -SS ≤ val r.hi) (b : Cap1 f) : HasS (boundR r) f := by
  obtain ⟨f', a, k⟩ := h
  refine ⟨fun m => capQ (f' m), fun m => (a m).boundW fr l g, fun e he => ?_⟩
  obtain ⟨M, hM⟩ := k (e / 2) (by grind)
  obtain ⟨N, hN⟩ := b (e / 2) (by grind)
  refine ⟨M + N, fun m hm => ?_⟩
  have h1 := hM m (by omega)
  have h2 := hN m (by omega)
  have := capQ_near (e := e / 2) h1.1 h1.2 h2.1 h2.2 (by grind)
  grind
end
section
open Go.RowKit

theorem res_of {r s : Res} (f : Fit r) (g : Fit s) (h : r.lo = s.lo ∧ r.hi = s.hi) : r = s := by
  obtain ⟨e, l, u⟩ := r
  obtain ⟨e', l', u'⟩ := s
  have a : e = 0 := f.e
  have b : e' = 0 := g.e
  obtain ⟨h1, h2⟩ := h
  simp only at h1 h2
  rw [a, b, h1, h2]
theorem edge_bound {r : Res} (f : Fit r) (l : val r.lo ≤ SS) (g : -SS ≤ val r.hi) : edgeR r = boundR r := by
  obtain ⟨e1, e2⟩ := bound_ends f l g
  obtain ⟨a1, a2, a3⟩ := edge_facts f.lo f.rlo
  obtain ⟨b1, b2, b3⟩ := edge_facts f.hi f.rhi
  have s0 := SS0
  have k := (bound_facts f).1
  refine res_of (edge_fit f) k ⟨?_, ?_⟩
  · rw [edgeR_lo]; exact val_inj a1 k.lo a2 k.rlo (by rw [a3, e1]; omega)
  · rw [edgeR_hi]; exact val_inj b1 k.hi b2 k.rhi (by rw [b3, e2]; omega)
end
section
open Go.RowKit

theorem cp_ends : val (Cn.p cuI wideR).hi ≤ SS ∧ -SS ≤ val (Cn.p cuI wideR).lo := by decide +kernel
theorem x_edge {a c : Res} (ha : In a cuI) (hc : In c wideR) : edgeR (Cn.p a c) = Cn.x a c := by
  have i := cn_p ha hc
  obtain ⟨e1, e2⟩ := cp_ends
  have l := i.lo
  have u := i.hi
  have le := i.fit.le
  exact edge_bound i.fit (by omega) (by omega)
theorem draw_in {u : Nat} (hu : u < 18446744073709551616) (f : Fit ⟨0, ofLo u, ofHi u⟩) (l : 0 ≤ val (ofLo u)) (h : val (ofHi u) ≤ SS) : In ⟨0, ofLo u, ofHi u⟩ cuI ∧ Turn (ofLo u) ∧ Turn (ofHi u) ∧ val (ofLo u) ≤ val (ofHi u) ∧ val (ofHi u) - val (ofLo u) ≤ 2 * EE := by
  have us : val u1 = SS := by decide +kernel
  have le : val (ofLo u) ≤ val (ofHi u) := f.le
  refine ⟨⟨f, by rw [cu_ends.1]; exact l, by rw [cu_ends.2]; exact h⟩, ⟨f.lo, f.rlo, l, by rw [us]; omega⟩, ⟨f.hi, f.rhi, by omega, by rw [us]; exact h⟩, le, ?_⟩
  have := of_near hu h (lo_less hu) l (by omega)
  omega
theorem cosine_round {u v : Nat} (hu : u < 18446744073709551616) (hv : v < 18446744073709551616) (fu : Fit ⟨0, ofLo u, ofHi u⟩) (fv : Fit ⟨0, ofLo v, ofHi v⟩) (lu : 0 ≤ val (ofLo u)) (lv : 0 ≤ val (ofLo v)) (gu : val (ofHi u) ≤ SS) (gv : val (ofHi v) ≤ SS) {a S C : Res} (ea : a = ⟨0, ofLo u, ofHi u⟩) (eS : S = sinU (ofLo v) (ofHi v)) (eC : C = cosU (ofLo v) (ofHi v)) :
    (val (Cn.flat a C S).lo ≤ val a.hi ∧ val a.lo ≤ val (Cn.flat a C S).hi) ∧ (val (Cn.h a).lo ≤ val (Cn.d a).hi ∧ val (Cn.d a).lo ≤ val (Cn.h a).hi) ∧
    (val (addR (Cn.flat a C S) (Cn.h a)).lo ≤ SS ∧ SS ≤ val (addR (Cn.flat a C S) (Cn.h a)).hi) ∧
    (val (mulR (Cn.x a C) S).lo ≤ val (mulR (Cn.x a S) C).hi ∧ val (mulR (Cn.x a S) C).lo ≤ val (mulR (Cn.x a C) S).hi) ∧
    In (Cn.z a) unitR ∧ val (Cn.x a C).hi - val (Cn.x a C).lo ≤ val 4427038433705197568 ∧ val (Cn.z a).hi - val (Cn.z a).lo ≤ val 4494592428115755008 := by
  obtain ⟨ia, _, _, _, wa⟩ := draw_in hu fu lu gu
  obtain ⟨iv, ta, tb, le, w⟩ := draw_in hv fv lv gv
  obtain ⟨s, c, P⟩ := turn_pt ta tb
  obtain ⟨iS, iC⟩ := sinU_wide ta tb
  have xw := x_wide hu ia ta tb le w
  have zw := z_wide ia wa
  rw [z_bound] at zw
  rw [← ea] at ia xw zw
  rw [← eS] at P iS
  rw [← eC] at P iC xw
  obtain ⟨f1, f2⟩ := flat_meets9 ia iS iC P
  exact ⟨⟨f2, f1⟩, high_meets ia, (all_meets ia iS iC P).2, (angle_meets ia iS iC).2 P.hs P.hc, (up_ends ia).2.2.2, xw, zw⟩
end
section
open Go.RowKit

end
section
open Go.RowKit
attribute [local go_sem] run_store_float

end
section
open Go.RowKit
attribute [local go_sem] run_store_float

theorem lMeets6_any (al ah bl bh : Nat) (w : World) (o1 : ((FloatKind.f64.format.order al bh == some Ordering.lt) || (FloatKind.f64.format.order al bh == some Ordering.eq)) = true) (o2 : ((FloatKind.f64.format.order bl ah == some Ordering.lt) || (FloatKind.f64.format.order bl ah == some Ordering.eq)) = true) :
    Calls Try.prog 18 #[.agg #[.float .f64 al, .float .f64 ah], .agg #[.float .f64 bl, .float .f64 bh]] w fun r w' => r = .returned (.bool true) ∧ Below w.heap.size w w' := by
  have M := Lib.hid (((Own.nil w).made #[.float .f64 al, .float .f64 ah] 26).made #[.float .f64 bl, .float .f64 bh] 26)
  simp only [World.size_alloc] at M
  obtain ⟨k1, k2⟩ := (M.out.nth 1 rfl).two
  obtain ⟨k3, k4⟩ := (M.out.nth 0 rfl).two
  go_enter Try.func18, Try.ntmps18
  go_wp2
  go_ret
  exact ⟨by rw [← o2]; rfl, M.out.base⟩
theorem meets6_any {a b : Res} (fa : Fit a) (fb : Fit b) (h : val a.lo ≤ val b.hi ∧ val b.lo ≤ val a.hi) (w : World) : Calls Try.prog 18 #[.agg #[.float .f64 a.lo, .float .f64 a.hi], .agg #[.float .f64 b.lo, .float .f64 b.hi]] w fun r w' => r = .returned (.bool true) ∧ Below w.heap.size w w' :=
  lMeets6_any a.lo a.hi b.lo b.hi w ((order_le _ _ fa.lo fb.hi fa.rlo fb.rhi).trans (decide_eq_true h.1)) ((order_le _ _ fb.lo fa.hi fb.rlo fa.rhi).trans (decide_eq_true h.2))
end
section
open Go.RowKit
attribute [local go_sem] run_store_float

theorem word_neg {r : Nat} (h : val r ≠ 0) (hr : rung r < 9218868437227405312) : rightB r = true := by
  have hn : r ≠ 9223372036854775808 := by
    intro e
    subst e
    exact h (by decide +kernel)
  unfold rightB
  unfold rung at hr
  rw [decide_eq_true hr, decide_eq_false hn]; rfl
theorem sub_all {a b y0 : Nat} (ha : a < 18446744073709551616) (hb : b < 18446744073709551616) (ra : rightB a = true) (rb : rightB b = true) (hab : val b ≤ val a) (ly : y0 < 18446744073709551616) (ry : rightB y0 = true) (hy : val a - val b ≤ val y0) :
    ∃ r, floatBits .sub .f64 a b = some r ∧ r < 18446744073709551616 ∧ rightB r = true ∧ 0 ≤ val r ∧ val r ≤ val y0 := by
  have hst : (sgnB a && !sgnB b) = false := by
    cases sa : sgnB a
    · rfl
    · have n := (val_neg a ha ra).2 sa
      have m := (val_neg b hb rb).1 (by omega)
      rw [m]; rfl
  obtain ⟨r, h1, h2⟩ := sub_beside a b ha hb ra rb
  obtain ⟨n1, n2, n3, n4⟩ := near_between (x0 := 0) (y0 := y0) (by decide) (sub_down a b ra rb) (sub_up a b ra rb) h2 (by decide) (by decide) (by rw [show val 0 = 0 from by decide +kernel]; omega) ly ry (by omega)
  rw [show val 0 = 0 from by decide +kernel] at n3
  have h3 : ((Ieee.double.read a).sum (Ieee.double.read b).opposite).map Ieee.double.write = some r := h1
  rw [read_num a ha (right_rung a ra), read_num b hb (right_rung b rb)] at h3
  exact ⟨r, h1, n1, word_right (sum_plain (sgnB a) (!sgnB b) a b (expo_in a ra).1 (expo_in b rb).1 hst (by rw [neg_sg, ← val_sg, ← val_sg]; omega) r h3) n2, n3, n4⟩
theorem add_all {a b y0 : Nat} (ha : a < 18446744073709551616) (hb : b < 18446744073709551616) (ra : rightB a = true) (rb : rightB b = true) (pb : 0 ≤ val b) (ly : y0 < 18446744073709551616) (ry : rightB y0 = true) (hy : val a + val b ≤ val y0) :
    ∃ r, floatBits .add .f64 a b = some r ∧ r < 18446744073709551616 ∧ rightB r = true ∧ val a ≤ val r ∧ val r ≤ val y0 := by
  have sb := plain_sgn hb rb pb
  obtain ⟨r, h1, h2⟩ := add_beside a b ha hb ra rb
  obtain ⟨n1, n2, n3, n4⟩ := near_between (x0 := a) (y0 := y0) (by decide) (add_down a b ra rb) (add_up a b ra rb) h2 ha ra (by omega) ly ry (by omega)
  by_cases g : 0 ≤ val a + val b
  · have h3 : ((Ieee.double.read a).sum (Ieee.double.read b)).map Ieee.double.write = some r := h1
    rw [read_num a ha (right_rung a ra), read_num b hb (right_rung b rb)] at h3
    exact ⟨r, h1, n1, word_right (sum_plain _ _ a b (expo_in a ra).1 (expo_in b rb).1 (by rw [sb, Bool.and_false]) (by rw [← val_sg, ← val_sg]; omega) r h3) n2, n3, n4⟩
  · have e1 : val 9223372036854775809 = -1 := by decide +kernel
    obtain ⟨_, _, _, k4⟩ := near_between (x0 := a) (y0 := 9223372036854775809) (by decide) (add_down a b ra rb) (add_up a b ra rb) h2 ha ra (by omega) (by decide) (by decide) (by rw [e1]; omega)
    exact ⟨r, h1, n1, word_neg (by rw [e1] at k4; omega) n2, n3, n4⟩
theorem add_self0 {x : Nat} (lx : x < 18446744073709551616) (rx : rightB x = true) : floatBits .add .f64 x 0 = some x := by
  have z0 : val 0 = 0 := by decide +kernel
  obtain ⟨r, h1, h2, h3, h4, h5⟩ := add_all lx (by decide : (0 : Nat) < 18446744073709551616) rx (by decide) (by rw [z0]; exact Int.le_refl _) (y0 := x) lx rx (by rw [z0]; omega)
  rw [h1, val_inj h2 lx h3 rx (Int.le_antisymm h5 h4)]

theorem lIn8_any (al ah bl bh : Nat) (w : World) (o1 : ((FloatKind.f64.format.order bl al == some Ordering.lt) || (FloatKind.f64.format.order bl al == some Ordering.eq)) = true) (o2 : ((FloatKind.f64.format.order ah bh == some Ordering.lt) || (FloatKind.f64.format.order ah bh == some Ordering.eq)) = true) :
    Calls Try.prog 31 #[.agg #[.float .f64 al, .float .f64 ah], .agg #[.float .f64 bl, .float .f64 bh]] w fun r w' => r = .returned (.bool true) ∧ Below w.heap.size w w' := by
  have M := Lib.hid (((Own.nil w).made #[.float .f64 al, .float .f64 ah] 26).made #[.float .f64 bl, .float .f64 bh] 26)
  simp only [World.size_alloc] at M
  obtain ⟨k1, k2⟩ := (M.out.nth 1 rfl).two
  obtain ⟨k3, k4⟩ := (M.out.nth 0 rfl).two
  go_enter Try.func31, Try.ntmps31
  go_wp2
  go_ret
  exact ⟨by rw [← o2]; rfl, M.out.base⟩
theorem meets8 {a b : Res} (fa : Fit a) (fb : Fit b) (h : val a.lo ≤ val b.hi ∧ val b.lo ≤ val a.hi) (w : World) : Calls Try.prog 18 #[.agg #[.float .f64 a.lo, .float .f64 a.hi], .agg #[.float .f64 b.lo, .float .f64 b.hi]] w fun r w' => r = .returned (.bool true) ∧ Below w.heap.size w w' := meets6_any fa fb h w
end
end Go.Proofs.Ytnaomilkgfkegaa
