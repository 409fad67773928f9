
/- Package lambert: the mathematics of values and caps: no step has an error, what is within, ends, doubles. No program is named here. -/
import Derived.Test.YtdppppaoflhgdaaQM
import Derived.Test.YtdppppaoflhgdaaQFD
namespace Go.Proofs.Ytdppppaoflhgdaa
open Go.RowKit

/-- All from 0 to 1. -/
def unI : Res := ⟨0, 0, u1⟩
def valueR (a : Res) : Res := divR a piR
def capR (a c : Res) : Res := mulR a (subR (oneR u1) (sqrR c))
theorem un_fit : Fit unI := .of (by decide +kernel)
theorem un_value : Fit (valueR unI) := .of (by decide +kernel)
theorem un_sqr : Fit (sqrR unI) := .of (by decide +kernel)
theorem un_left : Fit (subR (oneR u1) (sqrR unI)) := .of (by decide +kernel)
theorem un_cap : Fit (capR unI unI) := .of (by decide +kernel)
theorem In.trans {a b c : Res} (h : In a b) (k : In b c) : In a c := ⟨h.fit, Int.le_trans k.lo h.lo, Int.le_trans h.hi k.hi⟩
theorem v00 : val 0 = 0 := by decide +kernel

section
variable {a A c C : Res}
theorem value_fit (ha : In a unI) : Fit (valueR a) := (div_in ha un_fit (.refl big_fit.1) big_fit.1 un_value.e).fit
theorem value_in (ha : In a A) (hA : In A unI) : In (valueR a) (valueR A) := div_in ha hA.fit (.refl big_fit.1) big_fit.1 (value_fit hA).e
theorem sqr_fit1 (hc : In c unI) : Fit (sqrR c) := (sqr_in hc un_fit un_sqr.e).fit
theorem left_fit (hc : In c unI) : Fit (subR (oneR u1) (sqrR c)) := (sub_in (.refl u1_fit) u1_fit (sqr_in hc un_fit un_sqr.e) un_sqr un_left.e).fit
theorem left_in (hc : In c C) (hC : In C unI) : In (subR (oneR u1) (sqrR c)) (subR (oneR u1) (sqrR C)) :=
  sub_in (.refl u1_fit) u1_fit (sqr_in hc hC.fit (sqr_fit1 hC).e) (sqr_fit1 hC) (left_fit hC).e
theorem cap_fit (ha : In a unI) (hc : In c unI) : Fit (capR a c) := (mul_in ha un_fit (left_in hc (.refl un_fit)) un_left un_cap.e).fit
theorem cap_in (ha : In a A) (hc : In c C) (hA : In A unI) (hC : In C unI) : In (capR a c) (capR A C) :=
  mul_in ha hA.fit (left_in hc hC) (left_fit hC) (cap_fit hA hC).e
theorem In.nonneg (ha : In a unI) : 0 ≤ val a.lo := by have h : val 0 ≤ val a.lo := ha.lo; rw [v00] at h; exact h
theorem In.nonneg' (ha : In a unI) : 0 ≤ val a.hi := Int.le_trans ha.nonneg ha.fit.le
theorem In.low1 (ha : In a unI) : In (oneR a.lo) a := ⟨one_fit ha.fit.lo ha.fit.rlo, Int.le_refl _, ha.fit.le⟩
theorem In.high1 (ha : In a unI) : In (oneR a.hi) a := ⟨one_fit ha.fit.hi ha.fit.rhi, ha.fit.le, Int.le_refl _⟩
end

theorem one_lo (x : Nat) : (oneR x).lo = x := rfl
theorem one_hi (x : Nat) : (oneR x).hi = x := rfl
theorem tight_ends {lo hi : Nat} {e f : Int} (h : (tightR lo e hi f).e = 0) : (tightR lo e hi f).lo = lo ∧ (tightR lo e hi f).hi = hi := by
  obtain ⟨_, _, c⟩ := tight_e h
  rw [c]; exact ⟨rfl, rfl⟩
theorem lt_nil {a : Nat} (h : 0 ≤ val a) : ltB a 0 = false := decide_eq_false (by rw [v00]; omega)
theorem le_nil {a : Nat} (h : 0 ≤ val a) : leB 0 a = true := decide_eq_true (by rw [v00]; exact h)
theorem mul_ends {a b : Res} (ha : 0 ≤ val a.lo) (ha' : 0 ≤ val a.hi) (hb : 0 ≤ val b.lo) (he : (mulR a b).e = 0) : (mulR a b).lo = mulW a.lo b.lo false ∧ (mulR a b).hi = mulW a.hi b.hi true := by
  have c : crossB b.lo b.hi = false := by unfold crossB; rw [lt_nil hb]; rfl
  have e : mulR a b = tightR (mulW a.lo b.lo false) (mulE a.lo b.lo false) (mulW a.hi b.hi true) (mulE a.hi b.hi true) := by
    unfold mulR mulI mulJ
    rw [c, Bool.and_false, if_neg Bool.false_ne_true, if_neg Bool.false_ne_true]
    unfold mul1 lowOf highOf endW
    rw [lt_nil hb, if_neg Bool.false_ne_true, if_neg Bool.false_ne_true, lt_nil ha, le_nil ha', if_neg Bool.false_ne_true, if_pos rfl]
  rw [e] at he ⊢
  exact tight_ends he
theorem sqr_ends {a : Res} (ha : 0 ≤ val a.lo) (he : (sqrR a).e = 0) : (sqrR a).lo = mulW a.lo a.lo false ∧ (sqrR a).hi = mulW a.hi a.hi true := by
  have e : sqrR a = tightR (mulW a.lo a.lo false) (mulE a.lo a.lo false) (mulW a.hi a.hi true) (mulE a.hi a.hi true) := by
    unfold sqrR sqrI absLo absHi
    rw [le_nil ha, if_pos rfl, if_pos rfl]
  rw [e] at he ⊢
  exact tight_ends he
theorem sub_ends {a b : Res} (he : (subR a b).e = 0) : (subR a b).lo = subW a.lo b.hi false ∧ (subR a b).hi = subW a.hi b.lo true := tight_ends he
theorem pi_not : hasB piR.lo piR.hi 0 = false := by decide +kernel
theorem pi_pos : 0 ≤ val piR.lo := by decide +kernel
theorem value_ends {a : Res} (ha : 0 ≤ val a.lo) (ha' : 0 ≤ val a.hi) (he : (valueR a).e = 0) : (valueR a).lo = divW a.lo piR.hi false ∧ (valueR a).hi = divW a.hi piR.lo true := by
  have e : valueR a = tightR (divW a.lo piR.hi false) (divE a.lo piR.hi false) (divW a.hi piR.lo true) (divE a.hi piR.lo true) := by
    unfold valueR divR divI
    rw [pi_not, if_neg Bool.false_ne_true]
    unfold div1 lowOf highOf endW
    rw [lt_nil pi_pos, if_neg Bool.false_ne_true, if_neg Bool.false_ne_true, le_nil ha, lt_nil ha', if_neg Bool.false_ne_true, if_pos rfl]
  rw [e] at he ⊢
  exact tight_ends he

section
variable {a c : Res}
theorem left_pos (hc : In c unI) : 0 ≤ val (subR (oneR u1) (sqrR c)).lo := by
  have h := (left_in hc (.refl un_fit)).lo
  have e : val (subR (oneR u1) (sqrR unI)).lo = 0 := by decide +kernel
  omega
/-- A cap's ends hang on two ends each. -/
theorem cap_ends (ha : In a unI) (hc : In c unI) :
    (capR a c).lo = (capR (oneR a.lo) (oneR c.hi)).lo ∧ (capR a c).hi = (capR (oneR a.hi) (oneR c.lo)).hi := by
  have al := ha.low1.trans ha
  have ah := ha.high1.trans ha
  have cl := hc.low1.trans hc
  have ch := hc.high1.trans hc
  obtain ⟨p1, p2⟩ := mul_ends ha.nonneg ha.nonneg' (left_pos hc) (cap_fit ha hc).e
  obtain ⟨q1, q2⟩ := mul_ends al.nonneg al.nonneg' (left_pos ch) (cap_fit al ch).e
  obtain ⟨r1, r2⟩ := mul_ends ah.nonneg ah.nonneg' (left_pos cl) (cap_fit ah cl).e
  obtain ⟨s1, s2⟩ := sub_ends (left_fit hc).e
  obtain ⟨t1, t2⟩ := sub_ends (left_fit cl).e
  obtain ⟨u1', u2'⟩ := sub_ends (left_fit ch).e
  obtain ⟨x1, x2⟩ := sqr_ends hc.nonneg (sqr_fit1 hc).e
  obtain ⟨y1, y2⟩ := sqr_ends cl.nonneg (sqr_fit1 cl).e
  obtain ⟨z1, z2⟩ := sqr_ends ch.nonneg (sqr_fit1 ch).e
  refine ⟨?_, ?_⟩
  · show (mulR a _).lo = (mulR _ _).lo
    simp only [p1, q1, s1, u1', x2, z2, one_lo, one_hi]
  · show (mulR a _).hi = (mulR _ _).hi
    simp only [p2, r2, s2, t2, x1, y1, one_lo, one_hi]
theorem mul_nil (x : Nat) (up : Bool) : mulW x 0 up = 0 := by
  have e : mant 0 = 0 := by decide +kernel
  unfold mulW roundW
  rw [e, Nat.mul_zero, if_pos rfl]
  split <;> rfl
theorem top_left : (subR (oneR u1) (sqrR (oneR u1))).lo = 0 ∧ (subR (oneR u1) (sqrR (oneR u1))).hi = 0 := by decide +kernel
/-- At the normal nothing. -/
theorem cap_top (ha : In a unI) : (capR a (oneR u1)).lo = 0 ∧ (capR a (oneR u1)).hi = 0 := by
  have hc : In (oneR u1) unI := ⟨u1_fit, by decide +kernel, Int.le_refl _⟩
  obtain ⟨p1, p2⟩ := mul_ends ha.nonneg ha.nonneg' (left_pos hc) (cap_fit ha hc).e
  rw [top_left.1] at p1
  rw [top_left.2] at p2
  exact ⟨p1.trans (mul_nil _ _), p2.trans (mul_nil _ _)⟩
/-- No more than the albedo. -/
theorem cap_below (ha : In a unI) (hc : In c unI) : val (capR a c).hi ≤ val a.hi := by
  obtain ⟨p1, p2⟩ := mul_ends ha.nonneg ha.nonneg' (left_pos hc) (cap_fit ha hc).e
  have hl := (left_in hc (.refl un_fit)).hi
  have e : val (subR (oneR u1) (sqrR unI)).hi = val u1 := by decide +kernel
  rw [e] at hl
  have e' : val u1 = ((2 ^ sq : Nat) : Int) := by decide +kernel
  have hu := (mul_dir a.hi (subR (oneR u1) (sqrR c)).hi ha.fit.rhi (left_fit hc).rhi true).2 rfl
  have k : (capR a c).hi = mulW a.hi (subR (oneR u1) (sqrR c)).hi true := p2
  rw [k]
  have hle : val a.hi * val (subR (oneR u1) (sqrR c)).hi ≤ val a.hi * ((2 ^ sq : Nat) : Int) := by rw [← e']; exact Int.mul_le_mul_of_nonneg_left hl ha.nonneg'
  rcases hu with ⟨_, _, _, _, h⟩ | ⟨_, h0, h⟩
  · exact h _ ha.fit.hi ha.fit.rhi hle
  · rw [h0, v00]; exact ha.nonneg'
end
end Go.Proofs.Ytdppppaoflhgdaa
