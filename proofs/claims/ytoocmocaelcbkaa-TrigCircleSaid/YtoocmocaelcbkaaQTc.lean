
/- TrigCircle: the mathematics, and the law for every interval that comes in. -/
import Derived.Test.YtoocmocaelcbkaaRs
import Derived.Test.YtoocmocaelcbkaaQBW
import Derived.Test.YtoocmocaelcbkaaTcL
import Derived.Test.YtoocmocaelcbkaaQTcX
import Derived.Test.YtoocmocaelcbkaaLdexp
namespace Go.Proofs.Ytoocmocaelcbkaa
open Go.RowKit

/-- A polynomial's value; the list holds its coefficients, the constant one first. -/
def ev : List Rat → Rat → Rat
  | [], _ => 0
  | a :: p, y => a + y * ev p y
def padd : List Rat → List Rat → List Rat
  | [], q => q
  | p, [] => p
  | a :: p, b :: q => (a + b) :: padd p q
def pscale (c : Rat) : List Rat → List Rat
  | [] => []
  | a :: p => (c * a) :: pscale c p
def pmul : List Rat → List Rat → List Rat
  | [], _ => []
  | a :: p, q => padd (pscale a q) (0 :: pmul p q)
def pabs : List Rat → Rat
  | [] => 0
  | a :: p => (if a ≤ 0 then -a else a) + pabs p
theorem ev_add (y : Rat) : ∀ p q : List Rat, ev (padd p q) y = ev p y + ev q y
  | [], q => by unfold padd; show ev q y = 0 + ev q y; grind
  | a :: p, [] => by unfold padd; show ev (a :: p) y = ev (a :: p) y + 0; grind
  | a :: p, b :: q => by
    have ih := ev_add y p q
    show (a + b) + y * ev (padd p q) y = (a + y * ev p y) + (b + y * ev q y)
    rw [ih]; grind
theorem ev_scale (c y : Rat) : ∀ p : List Rat, ev (pscale c p) y = c * ev p y
  | [] => by show (0 : Rat) = c * 0; grind
  | a :: p => by
    have ih := ev_scale c y p
    show c * a + y * ev (pscale c p) y = c * (a + y * ev p y)
    rw [ih]; grind
theorem ev_mul (y : Rat) : ∀ p q : List Rat, ev (pmul p q) y = ev p y * ev q y
  | [], q => by show (0 : Rat) = 0 * ev q y; grind
  | a :: p, q => by
    have ih := ev_mul y p q
    show ev (padd (pscale a q) (0 :: pmul p q)) y = (a + y * ev p y) * ev q y
    rw [ev_add, ev_scale]
    show a * ev q y + (0 + y * ev (pmul p q) y) = _
    rw [ih]; grind
theorem ev_abs {y : Rat} (h0 : 0 ≤ y) (h1 : y ≤ 1) : ∀ p : List Rat, -(pabs p) ≤ ev p y ∧ ev p y ≤ pabs p ∧ 0 ≤ pabs p
  | [] => by show -(0 : Rat) ≤ 0 ∧ (0 : Rat) ≤ 0 ∧ (0 : Rat) ≤ 0; refine ⟨?_, ?_, ?_⟩ <;> grind
  | a :: p => by
    obtain ⟨i1, i2, i3⟩ := ev_abs h0 h1 p
    have k1 := Rat.mul_nonneg h0 (by grind : 0 ≤ pabs p - ev p y)
    have k2 := Rat.mul_nonneg h0 (by grind : 0 ≤ pabs p + ev p y)
    have k3 := Rat.mul_nonneg (by grind : 0 ≤ 1 - y) i3
    show -((if a ≤ 0 then -a else a) + pabs p) ≤ a + y * ev p y ∧ a + y * ev p y ≤ (if a ≤ 0 then -a else a) + pabs p ∧ 0 ≤ (if a ≤ 0 then -a else a) + pabs p
    split
    · refine ⟨?_, ?_, ?_⟩ <;> grind
    · refine ⟨?_, ?_, ?_⟩ <;> grind

/-- k times the next one. -/
def kk (k : Nat) : Rat := ((((k : Int) * ((k : Int) + 1)) : Int) : Rat)
/-- The series without its start, of so many terms, as a polynomial of the square. -/
def serL (m : Nat) : Nat → List Rat
  | 0 => [1]
  | i + 1 => 1 :: pscale (-(kk (m - 2 - 2 * i))⁻¹) (serL m i)
theorem serL_ev (m i : Nat) (y : Rat) : ev (serL m (i + 1)) y = 1 - y / kk (m - 2 - 2 * i) * ev (serL m i) y := by
  show 1 + y * ev (pscale (-(kk (m - 2 - 2 * i))⁻¹) (serL m i)) y = _
  rw [ev_scale, Rat.div_def]; grind
theorem kk_one {k : Nat} (h : 1 ≤ k) : 1 ≤ kk k := by
  have : (1 : Int) ≤ (k : Int) * ((k : Int) + 1) := by
    have := Int.mul_le_mul (by omega : (1 : Int) ≤ (k : Int)) (by omega : (1 : Int) ≤ (k : Int) + 1) (by omega) (by omega)
    omega
  have h' := Rat.intCast_le_intCast.2 this
  exact h'
theorem serL_unit {m : Nat} {y : Rat} (hm : 19 ≤ m) (h0 : 0 ≤ y) (h1 : y ≤ 1) : ∀ i, i ≤ 9 → 0 ≤ ev (serL m i) y ∧ ev (serL m i) y ≤ 1
  | 0, _ => by
    have e : ev (serL m 0) y = 1 := by show 1 + y * 0 = 1; grind
    rw [e]; constructor <;> grind
  | i + 1, hi => by
    obtain ⟨a, b⟩ := serL_unit hm h0 h1 i (by omega)
    have k := kk_one (by omega : 1 ≤ m - 2 - 2 * i)
    rw [serL_ev]
    have q := Rat.inv_pos.2 (by grind : 0 < kk (m - 2 - 2 * i))
    have q1 : (kk (m - 2 - 2 * i))⁻¹ ≤ 1 := by
      refine Rat.le_of_mul_le_mul_right (c := kk (m - 2 - 2 * i)) ?_ (by grind)
      have e : (kk (m - 2 - 2 * i))⁻¹ * kk (m - 2 - 2 * i) = 1 := by grind
      rw [e, Rat.one_mul]; exact k
    rw [Rat.div_def]
    generalize (kk (m - 2 - 2 * i))⁻¹ = c at *
    generalize ev (serL m i) y = s at *
    have yc := Rat.mul_nonneg h0 (Rat.le_of_lt q)
    have yc1 : y * c ≤ 1 := by
      have := Rat.mul_nonneg h0 (by grind : 0 ≤ 1 - c)
      grind
    generalize y * c = z at *
    have z1 := Rat.mul_nonneg yc a
    have z2 := Rat.mul_nonneg yc (by grind : 0 ≤ 1 - s)
    constructor <;> grind

/-- The two squares together, as a polynomial. -/
def circleL : List Rat := padd (0 :: pmul (serL 20 9) (serL 20 9)) (pmul (serL 19 9) (serL 19 9))
theorem circle_near : circleL.head? = some 1 ∧ pabs circleL.tail ≤ 1 / 18014398509481984 := by decide +kernel
theorem circle {t : Rat} (h1 : t * t ≤ 1) : -(1 / 18014398509481984) ≤ t * ev (serL 20 9) (t * t) * (t * ev (serL 20 9) (t * t)) + ev (serL 19 9) (t * t) * ev (serL 19 9) (t * t) - 1 ∧
    t * ev (serL 20 9) (t * t) * (t * ev (serL 20 9) (t * t)) + ev (serL 19 9) (t * t) * ev (serL 19 9) (t * t) - 1 ≤ 1 / 18014398509481984 := by
  have h0 : 0 ≤ t * t := by
    rcases Rat.le_total (a := 0) (b := t) with g | g
    · exact Rat.mul_nonneg g g
    · have := Rat.mul_nonneg (by grind : 0 ≤ -t) (by grind : 0 ≤ -t)
      grind
  have e : ev circleL (t * t) = t * ev (serL 20 9) (t * t) * (t * ev (serL 20 9) (t * t)) + ev (serL 19 9) (t * t) * ev (serL 19 9) (t * t) := by
    show ev (padd (0 :: pmul (serL 20 9) (serL 20 9)) (pmul (serL 19 9) (serL 19 9))) (t * t) = _
    rw [ev_add, ev_mul]
    show 0 + t * t * ev (pmul (serL 20 9) (serL 20 9)) (t * t) + _ = _
    rw [ev_mul]
    generalize ev (serL 20 9) (t * t) = a
    generalize ev (serL 19 9) (t * t) = b
    grind
  rw [← e]
  obtain ⟨n1, n2⟩ := circle_near
  generalize circleL = p at *
  cases p with
  | nil => simp at n1
  | cons a p =>
    have ha : a = 1 := by simpa using n1
    subst ha
    replace n2 : pabs p ≤ 1 / 18014398509481984 := n2
    obtain ⟨i1, i2, i3⟩ := ev_abs h0 h1 p
    show -(1 / 18014398509481984) ≤ 1 + t * t * ev p (t * t) - 1 ∧ 1 + t * t * ev p (t * t) - 1 ≤ 1 / 18014398509481984
    generalize t * t = y at *
    generalize ev p y = v at *
    generalize pabs p = P at *
    generalize (1 : Rat) / 18014398509481984 = E at *
    have k1 := Rat.mul_nonneg h0 (by grind : 0 ≤ P - v)
    have k2 := Rat.mul_nonneg h0 (by grind : 0 ≤ P + v)
    have k3 := Rat.mul_nonneg (by grind : 0 ≤ 1 - y) i3
    constructor <;> grind
end Go.Proofs.Ytoocmocaelcbkaa

namespace Go.Proofs.Ytoocmocaelcbkaa
open Go.RowKit

theorem nW_val : ∀ k, k < 21 → val (nW k) = ((k : Int) * ((k : Int) + 1)) * SS := by decide +kernel
theorem nW_has {k : Nat} (h : k < 21) : HasQ (oneR (nW k)) (kk k) := HasQ.lit (nW_val k h) rfl
theorem hasQ_one : HasQ (oneR u1) 1 := HasQ.lit (k := 1) (by decide +kernel) rfl
theorem ser_has {y : Res} {m : Nat} {Y : Rat} (hm : m = 19 ∨ m = 20) (h0 : bigOk0 m = true) (hk : ∀ i, i < 9 → bigOk m i = true) (hy : In y bigY) (q : HasQ y Y) (Y0 : 0 ≤ Y) :
    ∀ i, i ≤ 9 → HasQ (serN y m i) (ev (serL m i) Y) := by
  have pos : ∀ k, k < 21 → 1 ≤ k → 0 < val (oneR (nW k)).lo := fun k h1 h2 => by
    have e : val (oneR (nW k)).lo = ((k : Int) * ((k : Int) + 1)) * SS := nW_val k h1
    rw [e]
    exact Int.mul_pos (Int.mul_pos (by omega) (by omega)) SS0
  intro i
  induction i with
  | zero =>
    intro _
    obtain ⟨s1, s2, s3⟩ := start_in h0 hy
    have b0 := h0
    unfold bigOk0 at b0
    simp only [Bool.and_eq_true, decide_eq_true_eq] at b0
    obtain ⟨⟨⟨a, b⟩, c⟩, d⟩ := b0
    have t := HasQ.div hy.fit (.of a) q (nW_has (k := m) (by omega)) (pos m (by omega) (by omega)) s2.fit.e
    have u := HasQ.sub u1_fit s2.fit hasQ_one t s3.fit.e
    have e1 : ev (serL m 0) Y = 1 := by show 1 + Y * 0 = 1; grind
    have S := ssQ
    have k1 := kk_one (by omega : 1 ≤ m)
    have l := u.low
    have h := hasQ_one.high
    refine ⟨?_, ?_⟩
    · show ((val (subR (oneR u1) (termR y m)).lo : Int) : Rat) ≤ _
      rw [e1]
      refine Rat.le_trans l (Rat.mul_le_mul_of_nonneg_right ?_ (Rat.le_of_lt S))
      have : 0 ≤ Y / kk m := by rw [Rat.div_def]; exact Rat.mul_nonneg Y0 (Rat.le_of_lt (Rat.inv_pos.2 (by grind)))
      grind
    · rw [e1]; exact h
  | succ i ih =>
    intro hi
    obtain ⟨f1, f2, f3, f4⟩ := serRound_in h0 hk hy i (by omega)
    obtain ⟨g1, _⟩ := big_parts (hk i (by omega))
    have t := HasQ.div hy.fit g1 q (nW_has (k := m - 2 - 2 * i) (by omega)) (pos _ (by omega) (by omega)) f1.e
    have u := HasQ.mul f1 f3 t (ih (by omega)) f2.e
    have v := HasQ.sub u1_fit f2 hasQ_one u f4.e
    exact v.turn (serL_ev m i Y).symm

theorem up_one {c : Nat} (lc : c < 18446744073709551616) (rc : rightB c = true) (h : val c * 18014398509481984 ≤ 18014398509481985 * SS) : val c ≤ SS := by
  have e1 : SS = ((steps 4607182418800017408 : Nat) : Int) := by decide +kernel
  have e2 : 18014398509481985 * SS < ((steps 4607182418800017409 : Nat) : Int) * 18014398509481984 := by decide +kernel
  have s0 := SS0
  rcases Int.lt_or_le SS (val c) with g | g
  · exfalso
    have sg : sgnB c = false := by
      cases k : sgnB c
      · rfl
      · have := (val_neg c lc rc).2 k; omega
    rw [val_pos sg] at h g
    rcases Nat.lt_or_ge 4607182418800017408 (rung c) with k | k
    · have := steps_le (by omega : 4607182418800017409 ≤ rung c)
      omega
    · have := steps_le k
      omega
  · exact g
theorem down_one {c : Nat} (lc : c < 18446744073709551616) (rc : rightB c = true) (h : 18014398509481983 * SS ≤ val c * 18014398509481984) : SS ≤ val c := by
  have e1 : SS = ((steps 4607182418800017408 : Nat) : Int) := by decide +kernel
  have e2 : ((steps 4607182418800017407 : Nat) : Int) * 18014398509481984 < 18014398509481983 * SS := by decide +kernel
  have s0 := SS0
  rcases Int.lt_or_le (val c) SS with g | g
  · exfalso
    have sg : sgnB c = false := by
      cases k : sgnB c
      · rfl
      · have := (val_neg c lc rc).2 k; omega
    rw [val_pos sg] at h g
    rcases Nat.lt_or_ge (rung c) 4607182418800017408 with k | k
    · have := steps_le (by omega : rung c ≤ 4607182418800017407)
      omega
    · have := steps_le k
      omega
  · exact g

theorem HasQ.neg {r : Res} {x : Rat} (fr : Fit r) (h : HasQ r x) : HasQ (negR r) (-x) := by
  obtain ⟨_, _, l⟩ := turn_facts r.lo fr.lo fr.rlo
  obtain ⟨_, _, u⟩ := turn_facts r.hi fr.hi fr.rhi
  have e1 : (negR r).lo = turnW r.hi := rfl
  have e2 : (negR r).hi = turnW r.lo := rfl
  have a := h.low
  have b := h.high
  refine ⟨?_, ?_⟩
  · rw [e1, u, Rat.intCast_neg]; grind
  · rw [e2, l, Rat.intCast_neg]; grind
theorem HasQ.hull {a b : Res} {x : Rat} (fa : Fit a) (fb : Fit b) (h : HasQ a x) : HasQ (hullR a b) x := by
  obtain ⟨_, _, l⟩ := min_facts a.lo b.lo fa.lo fb.lo fa.rlo fb.rlo
  obtain ⟨_, _, u⟩ := max_facts a.hi b.hi fa.hi fb.hi fa.rhi fb.rhi
  have e1 : (hullR a b).lo = minW a.lo b.lo := rfl
  have e2 : (hullR a b).hi = maxW a.hi b.hi := rfl
  refine ⟨Rat.le_trans (Rat.intCast_le_intCast.2 ?_) h.low, Rat.le_trans h.high (Rat.intCast_le_intCast.2 ?_)⟩
  · rw [e1, l]; omega
  · rw [e2, u]; omega
theorem m1_val : val m1 = -SS := by decide +kernel
theorem u1_val : val u1 = SS := by decide +kernel
theorem HasQ.bound {r : Res} {x : Rat} (fr : Fit r) (h : HasQ r x) (h1 : -1 ≤ x) (h2 : x ≤ 1) : HasQ (boundR r) x := by
  obtain ⟨_, _, l⟩ := max_facts r.lo m1 fr.lo (by decide) fr.rlo (by decide)
  obtain ⟨_, _, u⟩ := min_facts r.hi u1 fr.hi (by decide) fr.rhi (by decide)
  have S := Rat.le_of_lt ssQ
  have a := h.low
  have b := h.high
  have k1 := Rat.mul_le_mul_of_nonneg_right h1 S
  have k2 := Rat.mul_le_mul_of_nonneg_right h2 S
  rw [Rat.one_mul] at k2
  have k1' : (((-SS : Int)) : Rat) ≤ x * ((SS : Int) : Rat) := by rw [Rat.intCast_neg]; grind
  have x1 : val r.lo ≤ SS := Rat.intCast_le_intCast.1 (Rat.le_trans a k2)
  have x2 : -SS ≤ val r.hi := Rat.intCast_le_intCast.1 (Rat.le_trans k1' b)
  have fl := fr.le
  have s0 := SS0
  have hb : bothB r.lo r.hi m1 u1 = true := by
    show leB (maxW r.lo m1) (minW r.hi u1) = true
    unfold leB
    rw [l, u, m1_val, u1_val]
    exact decide_eq_true (by omega)
  have e1 : (boundR r).lo = if bothB r.lo r.hi m1 u1 then maxW r.lo m1 else 0 := rfl
  have e2 : (boundR r).hi = if bothB r.lo r.hi m1 u1 then minW r.hi u1 else 0 := rfl
  rw [hb, if_pos rfl] at e1 e2
  refine ⟨?_, ?_⟩
  · rw [e1, l, m1_val]
    rcases Int.le_total (val r.lo) (-SS) with g | g
    · rw [Int.max_eq_right g]; exact k1'
    · rw [Int.max_eq_left g]; exact a
  · rw [e2, u, u1_val]
    rcases Int.le_total (val r.hi) SS with g | g
    · rw [Int.min_eq_left g]; exact b
    · rw [Int.min_eq_right g]; exact k2

theorem bigT_unit : -SS ≤ val bigT.lo ∧ val bigT.hi ≤ SS := by decide +kernel
theorem HasQ.end {r : Res} (fr : Fit r) : HasQ r (((val r.lo : Int) : Rat) / ((SS : Int) : Rat)) := by
  have S := ssQ
  have e : ((val r.lo : Int) : Rat) / ((SS : Int) : Rat) * ((SS : Int) : Rat) = ((val r.lo : Int) : Rat) := by grind
  exact ⟨by rw [e]; exact Rat.le_refl, by rw [e]; exact Rat.intCast_le_intCast.2 fr.le⟩
/-- Sine and cosine of a number have two whose squares are 1, but for 2^-54. -/
theorem turn_circle {x : Nat} (h : Turn x) : ∃ s c : Rat, HasQ (sinR x) s ∧ HasQ (cosR x) c ∧ -(1 / 18014398509481984) ≤ s * s + c * c - 1 ∧ s * s + c * c - 1 ≤ 1 / 18014398509481984 := by
  have ia := angle_in h
  have iy := square_in h
  have S := ssQ
  obtain ⟨t, ht⟩ : ∃ t : Rat, t = ((val (angleR x (qN x)).lo : Int) : Rat) / ((SS : Int) : Rat) := ⟨_, rfl⟩
  have q : HasQ (angleR x (qN x)) t := by rw [ht]; exact HasQ.end ia.fit
  have e : t * ((SS : Int) : Rat) = ((val (angleR x (qN x)).lo : Int) : Rat) := by rw [ht]; grind
  have t1 : -1 ≤ t ∧ t ≤ 1 := by
    have l := ia.lo
    have u := ia.hi
    have w := ia.fit.le
    obtain ⟨b1, b2⟩ := bigT_unit
    have c1 : ((-SS : Int) : Rat) ≤ t * ((SS : Int) : Rat) := by rw [e]; exact Rat.intCast_le_intCast.2 (by omega)
    have c2 : t * ((SS : Int) : Rat) ≤ ((SS : Int) : Rat) := by rw [e]; exact Rat.intCast_le_intCast.2 (by omega)
    rw [Rat.intCast_neg] at c1
    refine ⟨Rat.le_of_mul_le_mul_right (c := ((SS : Int) : Rat)) (by grind) S, Rat.le_of_mul_le_mul_right (c := ((SS : Int) : Rat)) (by rw [Rat.one_mul]; exact c2) S⟩
  have y0 : 0 ≤ t * t := by
    rcases Rat.le_total (a := 0) (b := t) with g | g
    · exact Rat.mul_nonneg g g
    · have := Rat.mul_nonneg (by grind : 0 ≤ -t) (by grind : 0 ≤ -t)
      grind
  have y1 : t * t ≤ 1 := by
    have := Rat.mul_nonneg (by grind : 0 ≤ 1 - t) (by grind : 0 ≤ 1 + t)
    grind
  have qy := HasQ.sqr ia.fit q iy.fit.e
  have a := ser_has (Or.inr rfl) ok20.1 ok20.2 iy qy y0 9 (by decide)
  have b := ser_has (Or.inl rfl) ok19.1 ok19.2 iy qy y0 9 (by decide)
  have sa := HasQ.mul ia.fit (ser_in ok20.1 ok20.2 iy 9 (by decide)).fit q a (sinS_in h).fit.e
  obtain ⟨r1, r2⟩ := circle y1
  obtain ⟨u1', u2'⟩ := serL_unit (m := 20) (by decide) y0 y1 9 (by decide)
  obtain ⟨v1', v2'⟩ := serL_unit (m := 19) (by decide) y0 y1 9 (by decide)
  have fs : Fit (sinS (angleR x (qN x))) := (sinS_in h).fit
  have fc : Fit (cosS (angleR x (qN x))) := (cosS_in h).fit
  have sb : HasQ (cosS (angleR x (qN x))) (ev (serL 19 9) (t * t)) := b
  replace sa : HasQ (sinS (angleR x (qN x))) (t * ev (serL 20 9) (t * t)) := sa
  have w1 : -1 ≤ t * ev (serL 20 9) (t * t) := by
    have := Rat.mul_nonneg (by grind : 0 ≤ 1 + t) u1'
    grind
  have w2 : t * ev (serL 20 9) (t * t) ≤ 1 := by
    have := Rat.mul_nonneg (by grind : 0 ≤ 1 - t) u1'
    grind
  generalize t * ev (serL 20 9) (t * t) = s at *
  generalize ev (serL 19 9) (t * t) = c at *
  have es : sinR x = boundR (sinT (sinS (angleR x (qN x))) (cosS (angleR x (qN x))) (qN x)) := rfl
  have ec : cosR x = boundR (cosT (sinS (angleR x (qN x))) (cosS (angleR x (qN x))) (qN x)) := rfl
  rw [es, ec]
  generalize sinS (angleR x (qN x)) = A at *
  generalize cosS (angleR x (qN x)) = B at *
  have base : HasQ (boundR A) s := sa.bound fs w1 w2
  have basc : HasQ (boundR B) c := sb.bound fc (by grind) (by grind)
  have nega : HasQ (boundR (negR A)) (-s) := (sa.neg fs).bound (neg_fit fs) (by grind) (by grind)
  have negc : HasQ (boundR (negR B)) (-c) := (sb.neg fc).bound (neg_fit fc) (by grind) (by grind)
  generalize qN x = j
  match j with
  | 0 => exact ⟨s, c, base, basc, r1, r2⟩
  | 1 => exact ⟨c, -s, basc, nega, by grind, by grind⟩
  | 2 => exact ⟨-s, -c, nega, negc, by grind, by grind⟩
  | 3 => exact ⟨-c, s, negc, base, by grind, by grind⟩
  | _ + 4 => exact ⟨s, c, base, basc, r1, r2⟩

theorem sin_fits' {al ah : Nat} (t1 : Turn al) (t2 : Turn ah) : Fit (sin2 al ah) ∧ Fit (sin3 al ah) ∧ Fit (sinU al ah) ∧ Fit (cos2 al ah) ∧ Fit (cosU al ah) := by
  have f2 := hull_fit (sinR_facts t1).1 (sinR_facts t2).1
  have g2 := hull_fit (cosR_facts t1).1 (cosR_facts t2).1
  have f3 : Fit (sin3 al ah) := by
    unfold sin3
    cases hasB al ah 4598175219545276416
    · exact f2
    · exact hull_fit f2 u1_fit
  refine ⟨f2, f3, ?_, g2, ?_⟩
  · unfold sinU
    cases hasB al ah 4604930618986332160
    · exact f3
    · exact hull_fit f3 m1_fit
  · unfold cosU
    cases hasB al ah 4602678819172646912
    · exact g2
    · exact hull_fit g2 m1_fit
/-- All of an interval has what its lower end has. -/
theorem sinU_has {al ah : Nat} (t1 : Turn al) (t2 : Turn ah) {s c : Rat} (h : HasQ (sinR al) s) (k : HasQ (cosR al) c) : HasQ (sinU al ah) s ∧ HasQ (cosU al ah) c := by
  obtain ⟨f2, f3, _, g2, _⟩ := sin_fits' t1 t2
  have h2 : HasQ (sin2 al ah) s := h.hull (sinR_facts t1).1 (sinR_facts t2).1
  have k2 : HasQ (cos2 al ah) c := k.hull (cosR_facts t1).1 (cosR_facts t2).1
  have h3 : HasQ (sin3 al ah) s := by
    unfold sin3
    cases hasB al ah 4598175219545276416
    · exact h2
    · exact h2.hull f2 u1_fit
  refine ⟨?_, ?_⟩
  · unfold sinU
    cases hasB al ah 4604930618986332160
    · exact h3
    · exact h3.hull f3 m1_fit
  · unfold cosU
    cases hasB al ah 4602678819172646912
    · exact k2
    · exact k2.hull g2 m1_fit
def wideR : Res := ⟨0, m1, u1⟩
theorem wide_fits : Fit wideR ∧ Fit (sqrR wideR) ∧ Fit (addR (sqrR wideR) (sqrR wideR)) := ⟨.of (by decide +kernel), .of (by decide +kernel), .of (by decide +kernel)⟩
/-- Both squared, together, have 1. -/
theorem squares_one {S C : Res} (iS : In S wideR) (iC : In C wideR) {s c : Rat} (h : HasQ S s) (k : HasQ C c) (e1 : -(1 / 18014398509481984) ≤ s * s + c * c - 1) (e2 : s * s + c * c - 1 ≤ 1 / 18014398509481984) :
    Fit (sqrR S) ∧ Fit (sqrR C) ∧ Fit (addR (sqrR S) (sqrR C)) ∧ val (addR (sqrR S) (sqrR C)).lo ≤ SS ∧ SS ≤ val (addR (sqrR S) (sqrR C)).hi := by
  obtain ⟨f1, f2, f3⟩ := wide_fits
  have a := sqr_in iS f1 f2.e
  have b := sqr_in iC f1 f2.e
  have o := add_in a f2 b f2 f3.e
  have q := HasQ.add a.fit b.fit (HasQ.sqr iS.fit h a.fit.e) (HasQ.sqr iC.fit k b.fit.e) o.fit.e
  have P := Rat.le_of_lt ssQ
  generalize s * s + c * c = v at *
  have l := q.low
  have u := q.high
  have k1 := Rat.mul_le_mul_of_nonneg_right (by grind : v * 18014398509481984 ≤ 18014398509481985) P
  have k2 := Rat.mul_le_mul_of_nonneg_right (by grind : 18014398509481983 ≤ v * 18014398509481984) P
  refine ⟨a.fit, b.fit, o.fit, up_one o.fit.lo o.fit.rlo (Rat.intCast_le_intCast.1 ?_), down_one o.fit.hi o.fit.rhi (Rat.intCast_le_intCast.1 ?_)⟩
  · rw [Rat.intCast_mul, Rat.intCast_mul, show ((18014398509481984 : Int) : Rat) = 18014398509481984 from rfl, show ((18014398509481985 : Int) : Rat) = 18014398509481985 from rfl]
    grind
  · rw [Rat.intCast_mul, Rat.intCast_mul, show ((18014398509481984 : Int) : Rat) = 18014398509481984 from rfl, show ((18014398509481983 : Int) : Rat) = 18014398509481983 from rfl]
    grind
end Go.Proofs.Ytoocmocaelcbkaa

namespace Go.Proofs.Ytoocmocaelcbkaa
open Go.RowKit

theorem Snd.weak {r : Res} {x y : BW} (h : Snd r x) (i : In x.R y.R) (fy : Fit y.R) (w : x.w ≤ y.w) : Snd r y :=
  ⟨⟨⟨h.wid.has.fit, Int.le_trans i.lo h.wid.has.lo, Int.le_trans h.wid.has.hi i.hi⟩, Int.le_trans h.wid.wide w⟩, fy⟩
namespace Tw
def p : BW := ⟨piR, val piR.hi - val piR.lo⟩
def p2 : BW := p.add p
def b (j : Nat) : BW := (⟨qEnds j, 0⟩ : BW).sub (BW.one (quartW j))
def wb : Int := val 4363988038922010624
def t : BW := p2.mul ⟨bigB, wb⟩
def y : BW := t.sqr
def q (k : Nat) : BW := y.div (BW.one (nW k))
def s (m : Nat) : Nat → BW
  | 0 => ⟨serStart bigY m, SS - val (serStart bigY m).lo⟩
  | i + 1 => (BW.one u1).sub ((q (m - 2 - 2 * i)).mul (s m i))
end Tw
theorem tw_ok : (bok Tw.p2 && bok Tw.t && bok Tw.y && bok (Tw.t.mul (Tw.s 20 9)) && decide ((Tw.t.mul (Tw.s 20 9)).w ≤ val 4391009636686233600) && decide ((Tw.s 19 9).w ≤ val 4391009636686233600)) = true := by decide +kernel
theorem tw_b : ∀ j, j ≤ 4 → (bok (Tw.b j) && leB bigB.lo (Tw.b j).R.lo && leB (Tw.b j).R.hi bigB.hi && decide ((Tw.b j).w ≤ Tw.wb)) = true := by decide +kernel
theorem tw_s : ∀ i, i < 9 → (bok (Tw.q (19 - 2 - 2 * i)) && bok ((Tw.q (19 - 2 - 2 * i)).mul (Tw.s 19 i)) && bok (Tw.s 19 (i + 1))) = true ∧ (bok (Tw.q (20 - 2 - 2 * i)) && bok ((Tw.q (20 - 2 - 2 * i)).mul (Tw.s 20 i)) && bok (Tw.s 20 (i + 1))) = true := by decide +kernel
theorem angle_snd {x : Nat} (h : Turn x) : Snd (angleR x (qN x)) Tw.t := by
  have k := tw_b (qN x) (qN_le x)
  simp only [Bool.and_eq_true, decide_eq_true_eq] at k
  obtain ⟨⟨⟨k1, k2⟩, k3⟩, k4⟩ := k
  unfold leB at k2 k3
  have o := tw_ok
  simp only [Bool.and_eq_true, decide_eq_true_eq] at o
  obtain ⟨⟨⟨⟨⟨o1, o2⟩, o3⟩, _⟩, _⟩, _⟩ := o
  have e := ends_ok4 (qN x) (qN_le x)
  simp only [Bool.and_eq_true] at e
  obtain ⟨⟨⟨⟨e1, e2⟩, _⟩, _⟩, _⟩ := e
  have ix := turn_in h
  have sx : Snd (oneR x) ⟨qEnds (qN x), 0⟩ := ⟨.one ix, .of e1⟩
  have sq : Snd (oneR (quartW (qN x))) (BW.one (quartW (qN x))) := ⟨.one (.refl (.of e2)), .of e2⟩
  have sb : Snd (beyondR x (qN x)) (Tw.b (qN x)) := sx.sub sq k1
  have fb := (bok_parts k1).1
  have sb' : Snd (beyondR x (qN x)) ⟨bigB, Tw.wb⟩ := sb.weak ⟨fb, of_decide_eq_true k2, of_decide_eq_true k3⟩ big_fit.2.2.1 k4
  have sp : Snd piR Tw.p := ⟨⟨.refl big_fit.1, Int.le_refl _⟩, big_fit.1⟩
  exact (sp.add sp o1).mul sb' o2
theorem series_snd {m : Nat} {t : Res} (hm : m = 19 ∨ m = 20) (h0 : bigOk0 m = true) (ht : Snd (sqrR t) Tw.y) (hy : In (sqrR t) bigY) : ∀ i, i ≤ 9 → Snd (serN (sqrR t) m i) (Tw.s m i) := by
  intro i
  induction i with
  | zero =>
    intro _
    have s := (start_in h0 hy).1
    have fb : Fit (serStart bigY m) := by
      rcases hm with rfl | rfl
      · exact .of (by decide +kernel)
      · exact .of (by decide +kernel)
    refine ⟨⟨s, ?_⟩, fb⟩
    have l := s.lo
    have u : val (serStart (sqrR t) m).hi = SS := u1_val
    show val (serStart (sqrR t) m).hi - val (serStart (sqrR t) m).lo ≤ SS - val (serStart bigY m).lo
    omega
  | succ i ih =>
    intro hi
    have k : (bok (Tw.q (m - 2 - 2 * i)) && bok ((Tw.q (m - 2 - 2 * i)).mul (Tw.s m i)) && bok (Tw.s m (i + 1))) = true := by
      rcases hm with rfl | rfl
      · exact (tw_s i (by omega)).1
      · exact (tw_s i (by omega)).2
    simp only [Bool.and_eq_true] at k
    obtain ⟨⟨k1, k2⟩, k3⟩ := k
    have fk : Fit (oneR (nW (m - 2 - 2 * i))) := by
      have b : bigOk m i = true := by
        rcases hm with rfl | rfl
        · exact ok19.2 i (by omega)
        · exact ok20.2 i (by omega)
      exact (big_parts b).1
    have sn : Snd (oneR (nW (m - 2 - 2 * i))) (BW.one (nW (m - 2 - 2 * i))) := ⟨.one (.refl fk), fk⟩
    have pos : 0 < val (BW.one (nW (m - 2 - 2 * i))).R.lo := by
      have e : val (BW.one (nW (m - 2 - 2 * i))).R.lo = (((m - 2 - 2 * i : Nat) : Int) * (((m - 2 - 2 * i : Nat) : Int) + 1)) * SS := nW_val _ (by omega)
      rw [e]
      exact Int.mul_pos (Int.mul_pos (by omega) (by omega)) SS0
    have su : Snd (oneR u1) (BW.one u1) := Snd.one (by decide) (by decide)
    exact su.sub ((ht.div sn k1 pos).mul (ih (by omega)) k2) k3
theorem neg_wide {r : Res} (f : Fit r) : val (negR r).hi - val (negR r).lo = val r.hi - val r.lo := by
  obtain ⟨_, _, l⟩ := turn_facts r.lo f.lo f.rlo
  obtain ⟨_, _, u⟩ := turn_facts r.hi f.hi f.rhi
  have e1 : (negR r).lo = turnW r.hi := rfl
  have e2 : (negR r).hi = turnW r.lo := rfl
  rw [e1, e2, l, u]; omega
theorem bound_wide {r : Res} (f : Fit r) {w : Int} (h : val r.hi - val r.lo ≤ w) : val (boundR r).hi - val (boundR r).lo ≤ w := by
  obtain ⟨_, _, l⟩ := max_facts r.lo m1 f.lo (by decide) f.rlo (by decide)
  obtain ⟨_, _, u⟩ := min_facts r.hi u1 f.hi (by decide) f.rhi (by decide)
  have e1 : (boundR r).lo = if bothB r.lo r.hi m1 u1 then maxW r.lo m1 else 0 := rfl
  have e2 : (boundR r).hi = if bothB r.lo r.hi m1 u1 then minW r.hi u1 else 0 := rfl
  have le := f.le
  cases hb : bothB r.lo r.hi m1 u1
  · rw [hb, if_neg Bool.false_ne_true] at e1 e2
    rw [e1, e2]; omega
  · rw [hb, if_pos rfl] at e1 e2
    rw [e1, e2, l, u]; omega
/-- Sine and cosine of a number are no wider than 2^-48. -/
theorem turn_narrow {x : Nat} (h : Turn x) : val (sinR x).hi - val (sinR x).lo ≤ val 4391009636686233600 ∧ val (cosR x).hi - val (cosR x).lo ≤ val 4391009636686233600 := by
  have st := angle_snd h
  have iy := square_in h
  have o := tw_ok
  simp only [Bool.and_eq_true, decide_eq_true_eq] at o
  obtain ⟨⟨⟨⟨⟨o1, o2⟩, o3⟩, o4⟩, o5⟩, o6⟩ := o
  have sy : Snd (sqrR (angleR x (qN x))) Tw.y := st.sqr o3
  have a := series_snd (Or.inr rfl) ok20.1 sy iy 9 (by decide)
  have b := series_snd (Or.inl rfl) ok19.1 sy iy 9 (by decide)
  have s : Snd (sinS (angleR x (qN x))) (Tw.t.mul (Tw.s 20 9)) := st.mul a o4
  have ws : val (sinS (angleR x (qN x))).hi - val (sinS (angleR x (qN x))).lo ≤ val 4391009636686233600 := Int.le_trans s.wid.wide o5
  have wc : val (cosS (angleR x (qN x))).hi - val (cosS (angleR x (qN x))).lo ≤ val 4391009636686233600 := Int.le_trans b.wid.wide o6
  have fs : Fit (sinS (angleR x (qN x))) := (sinS_in h).fit
  have fc : Fit (cosS (angleR x (qN x))) := (cosS_in h).fit
  have es : sinR x = boundR (sinT (sinS (angleR x (qN x))) (cosS (angleR x (qN x))) (qN x)) := rfl
  have ec : cosR x = boundR (cosT (sinS (angleR x (qN x))) (cosS (angleR x (qN x))) (qN x)) := rfl
  rw [es, ec]
  clear es ec a b s sy st iy o1 o2 o3 o4 o5 o6
  generalize sinS (angleR x (qN x)) = A at *
  generalize cosS (angleR x (qN x)) = B at *
  have w1 := bound_wide fs ws
  have w2 := bound_wide fc wc
  have w3 := bound_wide (neg_fit fs) (by rw [neg_wide fs]; exact ws)
  have w4 := bound_wide (neg_fit fc) (by rw [neg_wide fc]; exact wc)
  generalize qN x = j
  match j with
  | 0 => exact ⟨w1, w2⟩
  | 1 => exact ⟨w2, w3⟩
  | 2 => exact ⟨w3, w4⟩
  | 3 => exact ⟨w4, w1⟩
  | _ + 4 => exact ⟨w1, w2⟩
/-- What Width answers for an interval that is so narrow. -/
theorem width_small {r : Res} (f : Fit r) (h : val r.hi - val r.lo ≤ val 4391009636686233600) :
    widthE r.lo r.hi = 0 ∧ widthW r.lo r.hi < 18446744073709551616 ∧ rightB (widthW r.lo r.hi) = true ∧ val (widthW r.lo r.hi) ≤ val 4391009636686233600 := by
  have u := sub_up r.hi r.lo f.rhi f.rlo
  have e1 : widthW r.lo r.hi = subW r.hi r.lo true := if_pos f.iv
  have e2 : widthE r.lo r.hi = subE r.hi r.lo true := if_pos f.iv
  rw [← e1, ← e2] at u
  rcases u with ⟨a1, a2, a3, _, a5⟩ | ⟨_, _, a3⟩
  · exact ⟨a1, a2, a3, a5 4391009636686233600 (by decide) (by decide) (by omega)⟩
  · have := a3 4391009636686233600 (by decide) (by decide)
    omega
theorem hull_wide {a b : Res} (ha : In a wideR) (hb : In b wideR) : In (hullR a b) wideR := by
  obtain ⟨_, _, l⟩ := min_facts a.lo b.lo ha.fit.lo hb.fit.lo ha.fit.rlo hb.fit.rlo
  obtain ⟨_, _, u⟩ := max_facts a.hi b.hi ha.fit.hi hb.fit.hi ha.fit.rhi hb.fit.rhi
  have e1 : (hullR a b).lo = minW a.lo b.lo := rfl
  have e2 : (hullR a b).hi = maxW a.hi b.hi := rfl
  have a1 := ha.lo
  have a2 := ha.hi
  have b1 := hb.lo
  have b2 := hb.hi
  exact ⟨hull_fit ha.fit hb.fit, by rw [e1, l]; omega, by rw [e2, u]; omega⟩
theorem sinU_wide {al ah : Nat} (t1 : Turn al) (t2 : Turn ah) : In (sinU al ah) wideR ∧ In (cosU al ah) wideR := by
  have s : ∀ {x : Nat}, Turn x → In (sinR x) wideR := fun h => ⟨(sinR_facts h).1, (sinR_facts h).2.1, (sinR_facts h).2.2⟩
  have c : ∀ {x : Nat}, Turn x → In (cosR x) wideR := fun h => ⟨(cosR_facts h).1, (cosR_facts h).2.1, (cosR_facts h).2.2⟩
  have i1 : In (oneR u1) wideR := ⟨u1_fit, by decide +kernel, by decide +kernel⟩
  have i2 : In (oneR m1) wideR := ⟨m1_fit, by decide +kernel, by decide +kernel⟩
  have s2 : In (sin2 al ah) wideR := hull_wide (s t1) (s t2)
  have c2 : In (cos2 al ah) wideR := hull_wide (c t1) (c t2)
  have s3 : In (sin3 al ah) wideR := by
    unfold sin3
    cases hasB al ah 4598175219545276416
    · exact s2
    · exact hull_wide s2 i1
  refine ⟨?_, ?_⟩
  · unfold sinU
    cases hasB al ah 4604930618986332160
    · exact s3
    · exact hull_wide s3 i2
  · unfold cosU
    cases hasB al ah 4602678819172646912
    · exact c2
    · exact hull_wide c2 i2
/-- All that the law wants of an interval within 0 and 1. -/
theorem circle_one {al ah : Nat} (t1 : Turn al) (t2 : Turn ah) :
    Fit (sqrR (sinU al ah)) ∧ Fit (sqrR (cosU al ah)) ∧ Fit (addR (sqrR (sinU al ah)) (sqrR (cosU al ah))) ∧ val (addR (sqrR (sinU al ah)) (sqrR (cosU al ah))).lo ≤ SS ∧ SS ≤ val (addR (sqrR (sinU al ah)) (sqrR (cosU al ah))).hi := by
  obtain ⟨s, c, h1, h2, e1, e2⟩ := turn_circle t1
  obtain ⟨k1, k2⟩ := sinU_has t1 t2 h1 h2
  obtain ⟨w1, w2⟩ := sinU_wide t1 t2
  exact squares_one w1 w2 k1 k2 e1 e2
end Go.Proofs.Ytoocmocaelcbkaa

namespace Go.Proofs.Ytoocmocaelcbkaa
open Go.RowKit

theorem tiny_48 (w : World) : Calls Try.prog 24 #[.float .f64 4607182418800017408, .int .i64 (-48)] w fun r w' => r = .returned (.float .f64 4391009636686233600) ∧ w = w' :=
  ldexp_at 4607182418800017408 0 4391009636686233600 4391009636686233600 4391009636686233600 (-48) 1023 (-48) w (by decide +kernel) (by decide +kernel) (by decide +kernel) (by decide +kernel) (by decide +kernel) (by decide) (by omega) (by omega) (by decide +kernel) (by omega) (by omega) (by omega) (by omega) (by omega) (by decide +kernel) (by decide +kernel) (by decide +kernel) (by decide +kernel)
theorem has_one {r : Res} (f : Fit r) (l : val r.lo ≤ SS) (h : SS ≤ val r.hi) : hasB r.lo r.hi 4607182418800017408 = true := by
  have e : val 4607182418800017408 = SS := u1_val
  unfold hasB
  have e1 : rawLe r.lo 4607182418800017408 = leB r.lo 4607182418800017408 := order_le r.lo 4607182418800017408 f.lo (by decide) f.rlo (by decide)
  have e2 : rawLe 4607182418800017408 r.hi = leB 4607182418800017408 r.hi := order_le 4607182418800017408 r.hi (by decide) f.hi (by decide) f.rhi
  rw [f.iv, e1, e2]
  unfold leB
  rw [e, decide_eq_true l, decide_eq_true h]; rfl
theorem leq_of {x y : Nat} (lx : x < 18446744073709551616) (ly : y < 18446744073709551616) (rx : rightB x = true) (ry : rightB y = true) (h : val x ≤ val y) :
    ((FloatKind.f64.format.order x y == some Ordering.lt) || (FloatKind.f64.format.order x y == some Ordering.eq)) = true := by
  rw [order_lt x y lx ly rx ry, order_eq x y lx ly rx ry]
  by_cases g : val x < val y
  · rw [decide_eq_true g]; rfl
  · rw [decide_eq_true (by omega : val x = val y), Bool.or_true]
theorem has_same {al x : Nat} (t : Turn al) (lx : x < 18446744073709551616) (rx : rightB x = true) (h : hasB al al x = true) : al = x := by
  unfold hasB at h
  simp only [Bool.and_eq_true] at h
  obtain ⟨⟨_, h1⟩, h2⟩ := h
  have e1 : rawLe al x = leB al x := order_le al x t.lt lx t.right rx
  have e2 : rawLe x al = leB x al := order_le x al lx t.lt rx t.right
  rw [e1] at h1
  rw [e2] at h2
  unfold leB at h1 h2
  have a := of_decide_eq_true h1
  have b := of_decide_eq_true h2
  exact val_inj t.lt lx t.right rx (by omega)
theorem quarters_narrow : val (sinU 4598175219545276416 4598175219545276416).hi - val (sinU 4598175219545276416 4598175219545276416).lo ≤ val 4391009636686233600 ∧ val (sinU 4604930618986332160 4604930618986332160).hi - val (sinU 4604930618986332160 4604930618986332160).lo ≤ val 4391009636686233600 ∧
    val (cosU 4602678819172646912 4602678819172646912).hi - val (cosU 4602678819172646912 4602678819172646912).lo ≤ val 4391009636686233600 := by decide +kernel
theorem hull_self {r : Res} (f : Fit r) : val (hullR r r).hi - val (hullR r r).lo = val r.hi - val r.lo := by
  obtain ⟨_, _, l⟩ := min_facts r.lo r.lo f.lo f.lo f.rlo f.rlo
  obtain ⟨_, _, u⟩ := max_facts r.hi r.hi f.hi f.hi f.rhi f.rhi
  have e1 : (hullR r r).lo = minW r.lo r.lo := rfl
  have e2 : (hullR r r).hi = maxW r.hi r.hi := rfl
  rw [e1, e2, l, u]; omega
theorem single_narrow {al : Nat} (t : Turn al) : val (sinU al al).hi - val (sinU al al).lo ≤ val 4391009636686233600 ∧ val (cosU al al).hi - val (cosU al al).lo ≤ val 4391009636686233600 := by
  obtain ⟨n1, n2⟩ := turn_narrow t
  obtain ⟨q1, q2, q3⟩ := quarters_narrow
  refine ⟨?_, ?_⟩
  · cases h1 : hasB al al 4604930618986332160
    · cases h2 : hasB al al 4598175219545276416
      · have e : sinU al al = hullR (sinR al) (sinR al) := by unfold sinU sin3 sin2; rw [h1, h2]; rfl
        rw [e, hull_self (sinR_facts t).1]; exact n1
      · have e := has_same t (by decide) (by decide) h2
        rw [e]; exact q1
    · have e := has_same t (by decide) (by decide) h1
      rw [e]; exact q2
  · cases h1 : hasB al al 4602678819172646912
    · have e : cosU al al = hullR (cosR al) (cosR al) := by unfold cosU cos2; rw [h1]; rfl
      rw [e, hull_self (cosR_facts t).1]; exact n2
    · have e := has_same t (by decide) (by decide) h1
      rw [e]; exact q3
theorem circle_any (al ah : Nat) (w : World) (la : al < 18446744073709551616) (ha : ah < 18446744073709551616) :
    Calls Try.prog 3 #[.agg #[.float .f64 al, .float .f64 ah]] w fun r w' => r = .returned (.bool true) ∧ Below w.heap.size w w' := by
  have cF := fun w => fine_any al ah w la ha
  cases hf : fineB al ah
  · rw [hf] at cF
    exact circle_bad (ul := al) (uh := ah) w (c1 := Lib.hid fun w => sin_bad al ah w la ha hf) (c2 := Lib.hid cF) (c3 := Lib.hid fun w => l_same 0 0 w) (c5 := Lib.hid awake4_any)
  · rw [hf] at cF
    obtain ⟨t1, t2, hr, hle⟩ := fine_turn la ha hf
    have h1 : fineB al al = true := by
      unfold fineB leB ivR leB
      rw [t1.right, val_nil, decide_eq_true t1.lo, decide_eq_true t1.hi, decide_eq_true (Int.le_refl _)]; rfl
    obtain ⟨f1, f2, f3, o1, o2⟩ := circle_one t1 t2
    obtain ⟨w1, w2⟩ := sinU_wide t1 t2
    obtain ⟨n1, n2⟩ := single_narrow t1
    obtain ⟨v1, v2⟩ := sinU_wide t1 t1
    obtain ⟨a1, a2, a3, a4⟩ := width_small v1.fit n1
    obtain ⟨b1, b2, b3, b4⟩ := width_small v2.fit n2
    have fW : Fit wideR := wide_fits.1
    have cH := fun w => has_any (addR (sqrR (sinU al ah)) (sqrR (cosU al ah))).lo (addR (sqrR (sinU al ah)) (sqrR (cosU al ah))).hi 4607182418800017408 w f3.lo f3.hi
    rw [has_one f3 o1 o2] at cH
    have c7 := fun w => ivRight_any (sinU al ah).lo (sinU al ah).hi w w1.fit.lo w1.fit.hi
    have c8 := fun w => ivRight_any (cosU al ah).lo (cosU al ah).hi w w2.fit.lo w2.fit.hi
    rw [w1.fit.iv] at c7
    rw [w2.fit.iv] at c8
    have cp := fun w => width_any (sinU al al).lo (sinU al al).hi w v1.fit.lo v1.fit.hi
    have cq := fun w => width_any (cosU al al).lo (cosU al al).hi w v2.fit.lo v2.fit.hi
    rw [a1] at cp
    rw [b1] at cq
    have e1 : val m1 ≤ val (sinU al ah).lo ∧ val (sinU al ah).hi ≤ val u1 := ⟨w1.lo, w1.hi⟩
    have e2 : val m1 ≤ val (cosU al ah).lo ∧ val (cosU al ah).hi ≤ val u1 := ⟨w2.lo, w2.hi⟩
    exact circle_law (ul := al) (uh := ah) w (c1 := Lib.hid fun w => sin_any al ah w la ha hf) (c2 := Lib.hid cF)
      (d3 := Lib.hid fun pb => calc_sqr w1.fit f1 pb) (d4 := Lib.hid fun pb => calc_sqr w2.fit f2 pb) (d5 := Lib.hid fun pb => calc_add f1 f2 f3 pb)
      (c7 := Lib.hid c7) (c8 := Lib.hid c8)
      (o_lsssl_455654793216 := (order_lt _ _ w1.fit.lo (by decide) w1.fit.rlo (by decide)).trans (decide_eq_false (by show ¬ val (sinU al ah).lo < val m1; omega)))
      (o_gtrsh_418800017408 := (order_gt _ _ w1.fit.hi (by decide) w1.fit.rhi (by decide)).trans (decide_eq_false (by show ¬ val u1 < val (sinU al ah).hi; omega)))
      (o_lssol_455654793216 := (order_lt _ _ w2.fit.lo (by decide) w2.fit.rlo (by decide)).trans (decide_eq_false (by show ¬ val (cosU al ah).lo < val m1; omega)))
      (o_gtroh_418800017408 := (order_gt _ _ w2.fit.hi (by decide) w2.fit.rhi (by decide)).trans (decide_eq_false (by show ¬ val u1 < val (cosU al ah).hi; omega)))
      (c9 := Lib.hid cH) (c10 := Lib.hid fun w => iv4_any al al w) (c11 := Lib.hid fun w => sin_any al al w la la h1) (c12 := Lib.hid cp) (c13 := Lib.hid cq) (c14 := Lib.hid tiny_48)
      (o_leqdm_636686233600 := leq_of a2 (by decide) a3 (by decide) a4) (o_leqdn_636686233600 := leq_of b2 (by decide) b3 (by decide) b4)
      (c15 := Lib.hid awake4_any)
end Go.Proofs.Ytoocmocaelcbkaa
