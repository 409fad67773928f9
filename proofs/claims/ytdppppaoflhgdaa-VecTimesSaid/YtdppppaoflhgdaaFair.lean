
/- Plain mathematics of layer 1: the two sides of an operation, and its nearest number. -/
import Derived.Test.YtdppppaoflhgdaaNearR
import Derived.Test.YtdppppaoflhgdaaNext
namespace Go.Proofs.Ytdppppaoflhgdaa
open Go.RowKit

theorem order_same (a b : Nat) (ha : a < 18446744073709551616) (hb : b < 18446744073709551616) (ra : rung a < 9218868437227405312) (rb : rung b < 9218868437227405312) (h : val a = val b) : (FloatKind.f64.format.order a b == some Ordering.eq) = true := by
  rw [order_val a b ha hb ra rb, Int.compare_eq_eq.2 h]; rfl

/-- The same number of the other sign; 0 stays. -/
def turnW (d : Nat) : Nat := if d = 0 then 0 else if d < 9223372036854775808 then d + 9223372036854775808 else d - 9223372036854775808

theorem turn_facts (d : Nat) (hd : d < 18446744073709551616) (rd : rightB d = true) : turnW d < 18446744073709551616 ∧ rightB (turnW d) = true ∧ val (turnW d) = -val d := by
  unfold turnW
  by_cases h0 : d = 0
  · subst h0; rw [if_pos rfl]; decide
  · rw [if_neg h0]
    have hr := right_rung d rd
    have hn : d ≠ 9223372036854775808 := fun h => by subst h; exact absurd rd (by decide)
    by_cases h1 : d < 9223372036854775808
    · rw [if_pos h1]
      have e1 : rung (d + 9223372036854775808) = rung d := by unfold rung; omega
      have e2 : sgnB (d + 9223372036854775808) = true := by unfold sgnB; exact decide_eq_true (by omega)
      have e3 : sgnB d = false := by unfold sgnB; exact decide_eq_false (by omega)
      refine ⟨by omega, ?_, ?_⟩
      · unfold rung at hr
        unfold rightB
        rw [decide_eq_true (by omega), decide_eq_false (by omega)]; rfl
      · rw [val_negs e2, val_pos e3, e1]
    · rw [if_neg h1]
      have e1 : rung (d - 9223372036854775808) = rung d := by unfold rung; omega
      have e2 : sgnB (d - 9223372036854775808) = false := by unfold sgnB; exact decide_eq_false (by omega)
      have e3 : sgnB d = true := by unfold sgnB; exact decide_eq_true (by omega)
      refine ⟨by omega, ?_, ?_⟩
      · unfold rung at hr
        unfold rightB
        rw [decide_eq_true (by omega), decide_eq_false (by omega)]; rfl
      · rw [val_pos e2, val_negs e3, e1, Int.neg_neg]

theorem turn_turn (d : Nat) (hd : d < 18446744073709551616) (rd : rightB d = true) : turnW (turnW d) = d := by
  obtain ⟨a1, a2, a3⟩ := turn_facts d hd rd
  obtain ⟨b1, b2, b3⟩ := turn_facts _ a1 a2
  exact val_inj b1 hd b2 rd (by rw [b3, a3, Int.neg_neg])

theorem right_min : rightB 18442240474082181119 = true := by decide
theorem turn_max : turnW 9218868437227405311 = 18442240474082181119 := by decide
theorem val_min (d : Nat) (hd : d < 18446744073709551616) (rd : rightB d = true) : val 18442240474082181119 ≤ val d := by
  obtain ⟨_, a2, a3⟩ := turn_facts d hd rd
  have h1 := val_max _ a2
  obtain ⟨_, _, b3⟩ := turn_facts 9218868437227405311 (by decide) right_max
  rw [turn_max] at b3
  omega

/-- Both sides are right: what the law asks of them. -/
structure Fair (x y r : Nat) : Prop where
  lx : x < 18446744073709551616
  ly : y < 18446744073709551616
  rx : rightB x = true
  ry : rightB y = true
  gt : (FloatKind.f64.format.order x y == some Ordering.gt) = false
  step : (FloatKind.f64.format.order x y == some Ordering.eq) = true ∨ (FloatKind.f64.format.order x y == some Ordering.eq) = false ∧ (FloatKind.f64.format.order (addW x 1 true) y == some Ordering.eq) = true
  near : (FloatKind.f64.format.order r x == some Ordering.eq) = true ∨ (FloatKind.f64.format.order r y == some Ordering.eq) = true

theorem fair_core (x y r : Nat) (lx : x < 18446744073709551616) (ly : y < 18446744073709551616) (rx : rightB x = true) (ry : rightB y = true) (hle : val x ≤ val y)
    (hgap : ∀ d, d < 18446744073709551616 → rightB d = true → val d ≤ val x ∨ val y ≤ val d) (lr : r < 18446744073709551616) (rr : rung r < 9218868437227405312) (hv : val r = val x ∨ val r = val y) : Fair x y r where
  lx := lx
  ly := ly
  rx := rx
  ry := ry
  gt := by rw [order_gt x y lx ly rx ry]; exact decide_eq_false (by omega)
  step := by
    by_cases h : val x = val y
    · left; rw [order_eq x y lx ly rx ry]; exact decide_eq_true h
    · right
      refine ⟨by rw [order_eq x y lx ly rx ry]; exact decide_eq_false h, ?_⟩
      rcases next_up x rx with ⟨_, n2, n3, n4, n5⟩ | ⟨_, n⟩
      · have h1 := n5 y ly ry (by omega)
        have h2 := hgap _ n2 n3
        rw [order_eq _ y n2 ly n3 ry]
        exact decide_eq_true (by omega)
      · have := n y ly ry
        omega
  near := by
    rcases hv with h | h
    · left; exact order_same r x lr lx rr (right_rung x rx) h
    · right; exact order_same r y lr ly rr (right_rung y ry) h

/-- The two sides of an operation, errors and all. -/
def Sides (x : Nat) (e : Int) (y : Nat) (f : Int) (r : Nat) : Prop :=
  (e = 0 ∧ f = 0 ∧ Fair x y r) ∨ (e = 10 ∧ f = 0 ∧ (FloatKind.f64.format.order y 18442240474082181119 == some Ordering.eq) = true) ∨ (e = 0 ∧ f = 10 ∧ (FloatKind.f64.format.order x 9218868437227405311 == some Ordering.eq) = true)

theorem sides_of (s : Nat) (T : Int) (x y r : Nat) (e f : Int) (hs : 0 < s) (hd : Down s T x e) (hu : Up s T y f) (hb : Beside s T r) : Sides x e y f r := by
  have hs' : (0 : Int) < (s : Int) := by omega
  rcases hd.err with he | he
  · subst he
    obtain ⟨x1, x2, x3, x4⟩ := hd.ok
    rcases hu.err with hf | hf
    · subst hf
      obtain ⟨y1, y2, y3, y4⟩ := hu.ok
      obtain ⟨r1, r2, r3⟩ := hb x y hd hu
      refine Or.inl ⟨rfl, rfl, fair_core x y r x1 y1 x2 y2 ?_ (fun d hd rd => ?_) r1 r2 r3⟩
      · exact Int.le_of_mul_le_mul_right (Int.le_trans x3 y3) hs'
      · rcases Int.le_total (val d * (s : Int)) T with g | g
        · exact Or.inl (x4 d hd rd g)
        · exact Or.inr (y4 d hd rd g)
    · subst hf
      refine Or.inr (Or.inr ⟨rfl, rfl, ?_⟩)
      rcases hu with ⟨h, _⟩ | ⟨_, _, h⟩
      · exact absurd h (by decide)
      · have h1 := x4 _ (by decide) right_max (Int.le_of_lt (h _ (by decide) right_max))
        have h2 := val_max x x2
        rw [order_eq x _ x1 (by decide) x2 right_max]
        exact decide_eq_true (by omega)
  · subst he
    rcases hd with ⟨h, _⟩ | ⟨_, _, h⟩
    · exact absurd h (by decide)
    · rcases hu.err with hf | hf
      · subst hf
        obtain ⟨y1, y2, y3, y4⟩ := hu.ok
        refine Or.inr (Or.inl ⟨rfl, rfl, ?_⟩)
        have h1 := y4 _ (by decide) right_min (Int.le_of_lt (h _ (by decide) right_min))
        have h2 := val_min y y1 y2
        rw [order_eq y _ y1 (by decide) y2 right_min]
        exact decide_eq_true (by omega)
      · subst hf
        rcases hu with ⟨g, _⟩ | ⟨_, _, g⟩
        · exact absurd g (by decide)
        · have h1 := h 0 (by decide) right_0
          have h2 := g 0 (by decide) right_0
          omega

theorem add_sides (a b : Nat) (ha : a < 18446744073709551616) (hb : b < 18446744073709551616) (ra : rightB a = true) (rb : rightB b = true) :
    ∃ r, floatBits .add .f64 a b = some r ∧ Sides (addW a b false) (addE a b false) (addW a b true) (addE a b true) r := by
  obtain ⟨r, h1, h2⟩ := add_beside a b ha hb ra rb
  exact ⟨r, h1, sides_of 1 _ _ _ _ _ _ (by decide) (add_down a b ra rb) (add_up a b ra rb) h2⟩
theorem sub_sides (a b : Nat) (ha : a < 18446744073709551616) (hb : b < 18446744073709551616) (ra : rightB a = true) (rb : rightB b = true) :
    ∃ r, floatBits .sub .f64 a b = some r ∧ Sides (subW a b false) (subE a b false) (subW a b true) (subE a b true) r := by
  obtain ⟨r, h1, h2⟩ := sub_beside a b ha hb ra rb
  exact ⟨r, h1, sides_of 1 _ _ _ _ _ _ (by decide) (sub_down a b ra rb) (sub_up a b ra rb) h2⟩
theorem mul_sides (a b : Nat) (ha : a < 18446744073709551616) (hb : b < 18446744073709551616) (ra : rightB a = true) (rb : rightB b = true) :
    ∃ r, floatBits .mul .f64 a b = some r ∧ Sides (mulW a b false) (mulE a b false) (mulW a b true) (mulE a b true) r := by
  obtain ⟨r, h1, h2⟩ := mul_beside a b ha hb ra rb
  exact ⟨r, h1, sides_of (2 ^ sq) _ _ _ _ _ _ (Nat.two_pow_pos _) ((mul_dir a b ra rb false).1 rfl) ((mul_dir a b ra rb true).2 rfl) h2⟩
theorem div_sides (a b : Nat) (ha : a < 18446744073709551616) (hb : b < 18446744073709551616) (ra : rightB a = true) (rb : rightB b = true) (hb0 : b ≠ 0) :
    ∃ r, floatBits .quo .f64 a b = some r ∧ Sides (divW a b false) (divE a b false) (divW a b true) (divE a b true) r := by
  obtain ⟨r, h1, h2⟩ := div_beside a b ha hb ra rb hb0
  have hB : 0 < steps (rung b) := by
    rcases Nat.eq_zero_or_pos (steps (rung b)) with h | h
    · have := (steps_zero _).1 h
      have := right_ne b rb
      unfold rung at *
      omega
    · exact h
  exact ⟨r, h1, sides_of _ _ _ _ _ _ _ hB ((div_dir a b ra rb hb hb0 false).1 rfl) ((div_dir a b ra rb hb hb0 true).2 rfl) h2⟩
theorem sqrt_sides (a : Nat) (ha : a < 18446744073709551616) (ra : rightB a = true) (sa : sgnB a = false) :
    ∃ r, FloatKind.f64.format.sqrt a = some r ∧ Sides (sqrtW a false) (sqrtE a false) (sqrtW a true) (sqrtE a true) r := by
  obtain ⟨r, h1, r1, r2, r3⟩ := sqrt_beside a ha ra sa
  obtain ⟨d1, d2, d3, _⟩ := sqrt_rungs a ra sa false
  obtain ⟨u1, u2, _, u4⟩ := sqrt_rungs a ra sa true
  have d3' := d3 rfl
  have u4' := u4 rfl
  obtain ⟨f1, f2, f3⟩ := sw_facts false _ d2
  obtain ⟨g1, g2, g3⟩ := sw_facts false _ u2
  rw [sw_false] at f1 f2 f3 g1 g2 g3
  have f3' : val (sqrtW a false) = (steps (sqrtW a false) : Int) := f3
  have g3' : val (sqrtW a true) = (steps (sqrtW a true) : Int) := g3
  refine ⟨r, h1, Or.inl ⟨d1, u1, fair_core _ _ r f1 g1 f2 g2 ?_ (fun d hd rd => ?_) r1 (right_rung r r2) r3⟩⟩
  · have h2 := (d3' _).2 (Nat.le_refl _)
    have h3 := (u4' _).2 (Nat.le_refl _)
    have := Nat.mul_self_le_mul_self_iff.1 (Nat.le_trans h2 h3)
    rw [f3', g3']
    omega
  · cases sd : sgnB d
    · rw [val_pos sd, f3', g3']
      rcases Nat.le_total (steps (rung d) * steps (rung d)) (steps (rung a) * 2 ^ sq) with g | g
      · left; have := steps_le ((d3' _).1 g); omega
      · right; have := steps_le ((u4' _).1 g); omega
    · left; rw [val_negs sd, f3']; omega

/-- The mirror: what is rounded down of a number is what is rounded up of its mirror, turned. -/
theorem mirror (s : Nat) (T : Int) (m o : Nat) (e f : Int) (hd : Down s T m e) (hu : Up s (-T) o f) : (e = 0 ∧ f = 0 ∧ o < 18446744073709551616 ∧ rightB o = true ∧ m = turnW o) ∨ (e = 10 ∧ f = 10) := by
  have flip : ∀ d, val (turnW d) = -val d → val (turnW d) * (s : Int) = -(val d * (s : Int)) := fun d h => by rw [h, Int.neg_mul]
  rcases hd with ⟨he, m1, m2, m3, m4⟩ | ⟨he, _, h⟩
  · rcases hu with ⟨hf, o1, o2, o3, o4⟩ | ⟨_, _, g⟩
    · obtain ⟨a1, a2, a3⟩ := turn_facts m m1 m2
      obtain ⟨b1, b2, b3⟩ := turn_facts o o1 o2
      have h1 := m4 _ b1 b2 (by rw [flip o b3]; omega)
      have h2 := o4 _ a1 a2 (by rw [flip m a3]; omega)
      exact Or.inl ⟨he, hf, o1, o2, val_inj m1 b1 m2 b2 (by omega)⟩
    · obtain ⟨a1, a2, a3⟩ := turn_facts m m1 m2
      have := g _ a1 a2
      rw [flip m a3] at this
      omega
  · rcases hu with ⟨hf, o1, o2, o3, o4⟩ | ⟨hf, _, _⟩
    · obtain ⟨b1, b2, b3⟩ := turn_facts o o1 o2
      have := h _ b1 b2
      rw [flip o b3] at this
      omega
    · exact Or.inr ⟨he, hf⟩

theorem mul_mirror (a b : Nat) (ha : a < 18446744073709551616) (ra : rightB a = true) (rb : rightB b = true) :
    (mulE a b false = 0 ∧ mulE (turnW a) b true = 0 ∧ mulW (turnW a) b true < 18446744073709551616 ∧ rightB (mulW (turnW a) b true) = true ∧ mulW a b false = turnW (mulW (turnW a) b true)) ∨ (mulE a b false = 10 ∧ mulE (turnW a) b true = 10) := by
  obtain ⟨t1, t2, t3⟩ := turn_facts a ha ra
  have hu := (mul_dir (turnW a) b t2 rb true).2 rfl
  rw [t3, Int.neg_mul] at hu
  exact mirror _ _ _ _ _ _ ((mul_dir a b ra rb false).1 rfl) hu

theorem add_mirror (a b : Nat) (ha : a < 18446744073709551616) (hb : b < 18446744073709551616) (ra : rightB a = true) (rb : rightB b = true) :
    (addE a b true = 0 ∧ addE (turnW a) (turnW b) false = 0 ∧ addW (turnW a) (turnW b) false < 18446744073709551616 ∧ rightB (addW (turnW a) (turnW b) false) = true ∧ addW a b true = turnW (addW (turnW a) (turnW b) false)) ∨ (addE a b true = 10 ∧ addE (turnW a) (turnW b) false = 10) := by
  obtain ⟨t1, t2, t3⟩ := turn_facts a ha ra
  obtain ⟨v1, v2, v3⟩ := turn_facts b hb rb
  have hd := add_down (turnW a) (turnW b) t2 v2
  have hu := add_up a b ra rb
  rw [t3, v3, show -val a + -val b = -(val a + val b) by omega] at hd
  rw [show val a + val b = -(-(val a + val b)) by omega] at hu
  rcases mirror _ _ _ _ _ _ hd hu with ⟨h1, h2, h3, h4, h5⟩ | ⟨h1, h2⟩
  · obtain ⟨q1, q2, q3⟩ := turn_facts _ h3 h4
    rw [← h5] at q1 q2
    exact Or.inl ⟨h2, h1, q1, q2, by rw [h5, turn_turn _ h3 h4]⟩
  · exact Or.inr ⟨h2, h1⟩

end Go.Proofs.Ytdppppaoflhgdaa
