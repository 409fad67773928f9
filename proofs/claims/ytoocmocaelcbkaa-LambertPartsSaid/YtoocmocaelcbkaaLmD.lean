
/- LambertParts: halves and doubles of numbers, a sum's value; for all that it is given. -/
import Derived.Test.YtoocmocaelcbkaaLmP
import Derived.Test.YtoocmocaelcbkaaLmB
namespace Go.Proofs.Ytoocmocaelcbkaa
open Go.RowKit

theorem steps_twice {c : Nat} (h : 4503599627370496 ≤ c) : steps (c + 4503599627370496) = 2 * steps c := by
  unfold steps
  obtain ⟨k, hk⟩ : ∃ k, c / 4503599627370496 = k + 1 := ⟨c / 4503599627370496 - 1, by omega⟩
  have e1 : (c + 4503599627370496) / 4503599627370496 = k + 1 + 1 := by omega
  have e2 : (c + 4503599627370496) % 4503599627370496 = c % 4503599627370496 := by omega
  rw [e1, e2, hk, if_neg (by omega), if_neg (by omega)]
  show _ * 2 ^ (k + 1) = 2 * (_ * 2 ^ k)
  rw [Nat.pow_succ, ← Nat.mul_assoc, Nat.mul_comm _ 2]
theorem word_pos {d : Nat} (ld : d < 18446744073709551616) (rd : rightB d = true) (h : 0 ≤ val d) : d < 9218868437227405312 ∧ val d = (steps d : Int) := by
  have s := sgn_lt (plain_sgn ld rd h)
  have r := right_rung d rd
  have e : rung d = d := by unfold rung; omega
  rw [e] at r
  exact ⟨r, (pos_facts d r).2.2.2.2⟩

/-- The double of a normal word. -/
theorem twice_facts {c : Nat} (h1 : 4503599627370496 ≤ c) (h2 : c < 9214364837600034816) : c + 4503599627370496 < 18446744073709551616 ∧ rightB (c + 4503599627370496) = true ∧ val (c + 4503599627370496) = 2 * val c := by
  obtain ⟨p1, p2, _, _, p5⟩ := pos_facts (c + 4503599627370496) (by omega)
  have q5 := (pos_facts c (by omega)).2.2.2.2
  exact ⟨p1, p2, by rw [p5, q5, steps_twice h1]; exact Int.natCast_mul 2 _⟩
/-- A word of no less than so much is a double. -/
theorem twice_of {d : Nat} (h1 : 9007199254740992 ≤ d) (h2 : d < 9218868437227405312) : ∃ x, x < 18446744073709551616 ∧ rightB x = true ∧ val d = 2 * val x := by
  obtain ⟨x, rfl⟩ : ∃ x, d = x + 4503599627370496 := ⟨d - 4503599627370496, by omega⟩
  obtain ⟨t1, t2, t3⟩ := twice_facts (c := x) (by omega) (by omega)
  obtain ⟨y1, y2, _, _, y5⟩ := pos_facts x (by omega)
  exact ⟨x, y1, y2, t3⟩
theorem great_d {d : Nat} (ld : d < 18446744073709551616) (rd : rightB d = true) (h : 9007199254740992 ≤ val d) : 9007199254740992 ≤ d ∧ d < 9218868437227405312 := by
  obtain ⟨w1, w2⟩ := word_pos ld rd (by omega)
  refine ⟨?_, w1⟩
  rcases Nat.lt_or_ge d 9007199254740992 with k | k
  · have hk : steps d ≤ steps 9007199254740991 := steps_le (by omega)
    have e1 : steps 9007199254740991 = 9007199254740991 := by decide +kernel
    rw [e1] at hk
    omega
  · exact k
theorem half_le {x T s : Int} (h : 2 * x * s ≤ 2 * T) : x * s ≤ T := by
  rw [Int.mul_assoc] at h; omega
theorem half_ge {x T s : Int} (h : 2 * T ≤ 2 * x * s) : T ≤ x * s := by
  rw [Int.mul_assoc] at h; omega
theorem great_c {c : Nat} (h1 : 9007199254740992 ≤ c) (h2 : c < 9214364837600034816) : 9007199254740992 ≤ val c := by
  have q5 := (pos_facts c (by omega)).2.2.2.2
  have k : steps 9007199254740992 ≤ steps c := steps_le h1
  have e : steps 9007199254740992 = 9007199254740992 := by decide +kernel
  rw [e] at k
  omega
section
variable {s : Nat} {T : Int} {c : Nat}
theorem down_double (h : Down s T c 0) (h1 : 9007199254740992 ≤ c) (h2 : c < 9214364837600034816) : Down s (2 * T) (c + 4503599627370496) 0 := by
  have hc := great_c h1 h2
  obtain ⟨t1, t2, t3⟩ := twice_facts (c := c) (by omega) h2
  unfold Down at h ⊢
  rcases h with ⟨_, d1, d2, d3, d4⟩ | ⟨h0, _⟩
  · refine Or.inl ⟨rfl, t1, t2, ?_, fun d ld rd hd => ?_⟩
    · rw [t3, Int.mul_assoc]; omega
    · rw [t3]
      by_cases g : val d ≤ 2 * val c
      · exact g
      · exfalso
        obtain ⟨g1, g2⟩ := great_d ld rd (by omega)
        obtain ⟨x, y1, y2, y3⟩ := twice_of g1 g2
        rw [y3] at hd g
        have := d4 x y1 y2 (half_le hd)
        omega
  · exact absurd h0 (by decide)
theorem up_double (h : Up s T c 0) (h1 : 9007199254740992 ≤ c) (h2 : c < 9214364837600034816) : Up s (2 * T) (c + 4503599627370496) 0 := by
  have hc := great_c h1 h2
  obtain ⟨t1, t2, t3⟩ := twice_facts (c := c) (by omega) h2
  have s0 : (0 : Int) ≤ (s : Int) := Int.natCast_nonneg s
  unfold Up at h ⊢
  rcases h with ⟨_, d1, d2, d3, d4⟩ | ⟨h0, _⟩
  · refine Or.inl ⟨rfl, t1, t2, ?_, fun d ld rd hd => ?_⟩
    · rw [t3, Int.mul_assoc]; omega
    · rw [t3]
      by_cases k : 9007199254740992 ≤ val d
      · obtain ⟨g1, g2⟩ := great_d ld rd k
        obtain ⟨x, y1, y2, y3⟩ := twice_of g1 g2
        rw [y3] at hd ⊢
        have := d4 x y1 y2 (half_ge hd)
        omega
      · exfalso
        have e2 : val 4503599627370496 = 4503599627370496 := by decide +kernel
        have m := Int.mul_le_mul_of_nonneg_right (by omega : val d ≤ 2 * 4503599627370496) s0
        have hT : T ≤ 4503599627370496 * (s : Int) := half_ge (Int.le_trans hd m)
        have := d4 4503599627370496 (by decide) (by decide) (by rw [e2]; exact hT)
        rw [e2] at this
        omega
  · exact absurd h0 (by decide)
theorem down_val {c c' : Nat} {e : Int} (h : Down s T c 0) (k : Down s T c' e) (he : e = 0) : val c = val c' := by
  subst he
  rcases h with ⟨_, d1, d2, d3, d4⟩ | ⟨h0, _⟩
  · rcases k with ⟨_, g1, g2, g3, g4⟩ | ⟨h0, _⟩
    · exact Int.le_antisymm (g4 _ d1 d2 d3) (d4 _ g1 g2 g3)
    · exact absurd h0 (by decide)
  · exact absurd h0 (by decide)
theorem up_val {c c' : Nat} {e : Int} (h : Up s T c 0) (k : Up s T c' e) (he : e = 0) : val c = val c' := by
  subst he
  rcases h with ⟨_, d1, d2, d3, d4⟩ | ⟨h0, _⟩
  · rcases k with ⟨_, g1, g2, g3, g4⟩ | ⟨h0, _⟩
    · exact Int.le_antisymm (d4 _ g1 g2 g3) (g4 _ d1 d2 d3)
    · exact absurd h0 (by decide)
  · exact absurd h0 (by decide)
end

/-- The least that is drawn, but for 0, by 2. -/
def leastA : Res := ⟨0, 4454060031469420544, u1⟩
theorem least_ok : (fitB leastA && leB 0 leastA.lo && leB leastA.hi u1 && decide (9007199254740992 ≤ (valueR leastA).lo) && decide ((valueR leastA).hi < 9214364837600034816) && fitB (valueR leastA)) = true := by decide +kernel
theorem value_word {a : Nat} (h : In (oneR a) leastA) : (9007199254740992 ≤ (valueR (oneR a)).lo ∧ (valueR (oneR a)).lo < 9214364837600034816) ∧ 9007199254740992 ≤ (valueR (oneR a)).hi ∧ (valueR (oneR a)).hi < 9214364837600034816 := by
  have k := least_ok
  simp only [Bool.and_eq_true, decide_eq_true_eq] at k
  obtain ⟨⟨⟨⟨⟨k1, k2⟩, k3⟩, k4⟩, k5⟩, k6⟩ := k
  have hL : In leastA unI := ⟨.of k1, of_decide_eq_true k2, of_decide_eq_true k3⟩
  have i := value_in h hL
  have fL := value_fit hL
  have n0 := i.fit.le
  have n1 := i.lo
  have n2 := i.hi
  have n3 : 0 ≤ val (valueR leastA).lo := by decide +kernel
  obtain ⟨a1, a2⟩ := word_pos i.fit.lo i.fit.rlo (by omega)
  obtain ⟨b1, b2⟩ := word_pos i.fit.hi i.fit.rhi (by omega)
  obtain ⟨c1, c2⟩ := word_pos fL.lo fL.rlo (by omega)
  obtain ⟨d1, d2⟩ := word_pos fL.hi fL.rhi (by omega)
  have key : ∀ {x y : Nat}, steps x ≤ steps y → x ≤ y := fun h => (steps_le_iff _ _).1 h
  have t1 := key (by omega : steps (valueR leastA).lo ≤ steps (valueR (oneR a)).lo)
  have t2 := key (by omega : steps (valueR (oneR a)).lo ≤ steps (valueR leastA).hi)
  have t3 := key (by omega : steps (valueR leastA).lo ≤ steps (valueR (oneR a)).hi)
  have t4 := key (by omega : steps (valueR (oneR a)).hi ≤ steps (valueR leastA).hi)
  exact ⟨⟨by omega, by omega⟩, by omega, by omega⟩
theorem two_val : val 4611686018427387904 = 2 * ((2 ^ sq : Nat) : Int) := by decide +kernel
theorem mul_two {x : Nat} (h1 : 4503599627370496 ≤ x) (h2 : x < 9214364837600034816) : floatBits .mul .f64 x 4611686018427387904 = some (x + 4503599627370496) := by
  obtain ⟨p1, p2, _, _, p5⟩ := pos_facts x (by omega)
  obtain ⟨q1, q2, _, _, q5⟩ := pos_facts (x + 4503599627370496) (by omega)
  refine mul_exact x 4611686018427387904 (x + 4503599627370496) p1 (by decide) p2 (by decide) (by omega) (by omega) ?_
  have e : val (x + 4503599627370496) = 2 * val x := by rw [q5, p5, steps_twice h1]; omega
  rw [two_val, e, Int.mul_comm 2 (val x), Int.mul_assoc]
theorem eq_of_val {x y : Nat} (lx : x < 18446744073709551616) (ly : y < 18446744073709551616) (rx : rightB x = true) (ry : rightB y = true) (h : val x = val y) : Op.floatEq .f64 x y = true :=
  (order_eq x y lx ly rx ry).trans (decide_eq_true h)

/-- What is drawn, its half, and the double of that. -/
structure Halves (f a c : Nat) : Prop where
  half : floatBits .quo .f64 f 4611686018427387904 = some a
  twice : floatBits .mul .f64 a 4611686018427387904 = some c
  ia : In (oneR a) unI
  small : val a + val a ≤ val u1
  ic : In (oneR c) unI
  dbl : ∃ ml mh, floatBits .mul .f64 (valueR (oneR a)).lo 4611686018427387904 = some ml ∧ floatBits .mul .f64 (valueR (oneR a)).hi 4611686018427387904 = some mh ∧ Op.floatEq .f64 (valueR (oneR c)).lo ml = true ∧ Op.floatEq .f64 (valueR (oneR c)).hi mh = true
theorem halves_nil : Halves 0 0 0 := ⟨by decide +kernel, by decide +kernel, un_nil, by decide +kernel, un_nil, 0, 0, by decide +kernel, by decide +kernel, by decide +kernel, by decide +kernel⟩

theorem frac_low (n : Nat) (hn : n < 4294967296) (h0 : n ≠ 0) (f : Nat) (hf : floatBits .quo .f64 (floatOfInt .f64 (n : Int)) 4751297606873776128 = some f) : val 4458563631096791040 ≤ val f := by
  obtain ⟨f1, f2⟩ := from_int n (by omega)
  obtain ⟨a1, a2, a3, a4, a5⟩ := pos_facts _ f1
  obtain ⟨r, hr, hB⟩ := div_beside (FloatKind.f64.nearest (n : Int)) 4751297606873776128 a1 (by decide) a2 (by decide) (by decide)
  have hb : steps (rung 4751297606873776128) = 4294967295 * 2 ^ sq := by decide +kernel
  have hs : (sgnB 4751297606873776128) = false := by decide
  have dd := div_dir (FloatKind.f64.nearest (n : Int)) 4751297606873776128 a2 (by decide) (by decide) (by decide)
  have d1 := (dd false).1 rfl
  have d2 := (dd true).2 rfl
  rw [hb, hs, a3, a4, f2] at hB d1 d2
  have hT : sg (!(false == false)) (n * 2 ^ sq * 2 ^ sq) = ((n * 2 ^ sq * 2 ^ sq : Nat) : Int) := rfl
  rw [hT] at hB d1 d2
  have eL : val 4458563631096791040 * (4294967295 : Int) ≤ ((2 ^ sq : Nat) : Int) ∧ 0 < val 4458563631096791040 := by decide +kernel
  have eU : val u1 = ((2 ^ sq : Nat) : Int) := by decide +kernel
  have hp : 0 < 2 ^ sq := Nat.two_pow_pos _
  have hrf : r = f := by
    have : some r = some f := hr.symm.trans hf
    simpa using this
  subst hrf
  clear hf
  generalize 2 ^ sq = P at *
  obtain ⟨n1, n2, n3, n4⟩ := near_between (x0 := 4458563631096791040) (y0 := u1) (by omega) d1 d2 hB (by decide) (by decide) (by
      have e1 : val 4458563631096791040 * ((4294967295 * P : Nat) : Int) = (val 4458563631096791040 * 4294967295) * (P : Int) := by rw [Int.natCast_mul, ← Int.mul_assoc]; rfl
      have e2 : ((n * P * P : Nat) : Int) = ((n * P : Nat) : Int) * (P : Int) := Int.natCast_mul _ _
      rw [e1, e2]
      refine Int.mul_le_mul_of_nonneg_right ?_ (by omega)
      have : (P : Int) ≤ ((n * P : Nat) : Int) := by
        have : 1 * P ≤ n * P := Nat.mul_le_mul_right _ (by omega)
        omega
      omega) (by decide) (by decide) (by
      rw [eU, ← Int.natCast_mul]
      have : n * P * P ≤ P * (4294967295 * P) := by
        rw [← Nat.mul_assoc, Nat.mul_comm P 4294967295]
        exact Nat.mul_le_mul_right _ (Nat.mul_le_mul_right _ (by omega))
      omega)
  exact n3

/-- Half of a normal number. -/
theorem quo_two {x : Nat} (h1 : 4503599627370496 ≤ x) (h2 : x < 9214364837600034816) : floatBits .quo .f64 (x + 4503599627370496) 4611686018427387904 = some x := by
  obtain ⟨p1, p2, p3, p4, p5⟩ := pos_facts x (by omega)
  obtain ⟨q1, q2, q3, q4, q5⟩ := pos_facts (x + 4503599627370496) (by omega)
  obtain ⟨r, hr, hB⟩ := div_beside (x + 4503599627370496) 4611686018427387904 q1 (by decide) q2 (by decide) (by decide)
  have hb : steps (rung 4611686018427387904) = 2 * 2 ^ sq := by decide +kernel
  have hs : (sgnB 4611686018427387904) = false := by decide
  have dd := div_dir (x + 4503599627370496) 4611686018427387904 q2 (by decide) (by decide) (by decide)
  have d1 := (dd false).1 rfl
  have d2 := (dd true).2 rfl
  rw [hb, hs, q3, q4, steps_twice h1] at hB d1 d2
  have hT : sg (!(false == false)) (2 * steps x * 2 ^ sq) = ((2 * steps x * 2 ^ sq : Nat) : Int) := rfl
  rw [hT] at hB d1 d2
  have hp : 0 < 2 ^ sq := Nat.two_pow_pos _
  have hx : 0 < steps x := Nat.lt_of_lt_of_le (by decide +kernel : 0 < steps 4503599627370496) (steps_le h1)
  generalize 2 ^ sq = P at *
  have e : val x * ((2 * P : Nat) : Int) = ((2 * steps x * P : Nat) : Int) := by
    rw [p5, ← Int.natCast_mul, Nat.mul_left_comm, Nat.mul_assoc]
  obtain ⟨n1, n2, n3, n4⟩ := near_between (x0 := x) (y0 := x) (by omega) d1 d2 hB p1 p2 (Int.le_of_eq e) p1 p2 (Int.le_of_eq e.symm)
  have hne : 0 < val r := by omega
  have lt : r < 9223372036854775808 := sgn_lt (by
    cases hs : sgnB r
    · rfl
    · have e := val_negs hs; omega)
  rw [hr, val_inj n1 p1 (word_right lt n2) p2 (Int.le_antisymm n4 n3)]

theorem halves_of {f : Nat} (lf : f < 18446744073709551616) (rf : rightB f = true) (h1 : val 4458563631096791040 ≤ val f) (h2 : val f ≤ val u1) : ∃ a c, Halves f a c := by
  have z0 : 0 ≤ val 4458563631096791040 := by decide +kernel
  obtain ⟨w1, w2⟩ := word_pos lf rf (by omega)
  have b1 := (pos_facts 4458563631096791040 (by decide)).2.2.2.2
  have b2 := (pos_facts u1 (by decide)).2.2.2.2
  have t1 : 4458563631096791040 ≤ f := (steps_le_iff _ _).1 (by omega)
  have t2 : f ≤ u1 := (steps_le_iff _ _).1 (by omega)
  have hu : u1 = 4607182418800017408 := rfl
  obtain ⟨a, rfl⟩ : ∃ a, f = a + 4503599627370496 := ⟨f - 4503599627370496, by omega⟩
  obtain ⟨p1, p2, p3, p4, p5⟩ := pos_facts a (by omega)
  have ef : val (a + 4503599627370496) = 2 * val a := by rw [w2, p5, steps_twice (by omega)]; omega
  have cL := (pos_facts 4454060031469420544 (by decide)).2.2.2.2
  have ta : steps 4454060031469420544 ≤ steps a := steps_le (by omega)
  have ha : In (oneR a) leastA := ⟨one_fit p1 p2, by show val 4454060031469420544 ≤ val a; omega, by show val a ≤ val u1; omega⟩
  have pa : 0 ≤ val a := by omega
  have ia : In (oneR a) unI := ⟨one_fit p1 p2, by show val 0 ≤ val a; rw [v00]; exact pa, by show val a ≤ val u1; omega⟩
  have ic : In (oneR (a + 4503599627370496)) unI := ⟨one_fit lf rf, by show val 0 ≤ val (a + 4503599627370496); rw [v00]; omega, h2⟩
  obtain ⟨⟨m1, m2⟩, m3, m4⟩ := value_word ha
  refine ⟨a, a + 4503599627370496, quo_two (by omega) (by omega), mul_two (by omega) (by omega), ia, by omega, ic, _, _, mul_two (by omega) m2, mul_two (by omega) m4, ?_, ?_⟩
  · obtain ⟨x1, _⟩ := value_ends ia.nonneg ia.nonneg' (value_fit ia).e
    obtain ⟨y1, _⟩ := value_ends ic.nonneg ic.nonneg' (value_fit ic).e
    obtain ⟨g1, g2, _, _, _⟩ := pos_facts ((valueR (oneR a)).lo + 4503599627370496) (by omega)
    refine eq_of_val (value_fit ic).lo g1 (value_fit ic).rlo g2 ?_
    have D := (div_dir a piR.hi p2 big_fit.1.rhi big_fit.1.hi (by decide) false).1 rfl
    have E := (div_dir (a + 4503599627370496) piR.hi rf big_fit.1.rhi big_fit.1.hi (by decide) false).1 rfl
    have q3 := plain_sgn lf rf (by omega)
    have q4 := (pos_facts (a + 4503599627370496) (by omega)).2.2.2.1
    have sp : sgnB piR.hi = false := by decide
    rw [p3, p4, sp] at D
    rw [q3, q4, sp, steps_twice (by omega)] at E
    have x1' : (valueR (oneR a)).lo = divW a piR.hi false := x1
    have y1' : (valueR (oneR (a + 4503599627370496))).lo = divW (a + 4503599627370496) piR.hi false := y1
    rw [← x1'] at D
    rw [← y1'] at E
    have hT : sg (!(false == false)) (2 * steps a * 2 ^ sq) = 2 * sg (!(false == false)) (steps a * 2 ^ sq) := by
      show ((2 * steps a * 2 ^ sq : Nat) : Int) = 2 * ((steps a * 2 ^ sq : Nat) : Int)
      rw [Nat.mul_assoc]; exact Int.natCast_mul _ _
    rw [hT] at E
    rcases D with D | ⟨_, hz, _⟩
    · have D' := down_double (Or.inl ⟨rfl, D.2⟩) m1 m2
      rcases E with E | ⟨_, hz, _⟩
      · exact (down_val D' (Or.inl E) E.1).symm
      · exfalso
        have tt := steps_le m1
        have hpos : 0 < steps (valueR (oneR a)).lo := Nat.lt_of_lt_of_le (by decide +kernel : 0 < steps 9007199254740992) tt
        have hI := (value_in (a := oneR a) (A := oneR a) (.refl ia.fit) ia)
        have hc := value_word (a := a) ha
        have : (valueR (oneR (a + 4503599627370496))).lo = 0 := hz
        have hq : In (oneR (a + 4503599627370496)) leastA := ⟨one_fit lf rf, by show val 4454060031469420544 ≤ val (a + 4503599627370496); omega, by show val (a + 4503599627370496) ≤ val u1; omega⟩
        have hw := (value_word hq).1.1
        omega
    · omega
  · obtain ⟨_, x1⟩ := value_ends ia.nonneg ia.nonneg' (value_fit ia).e
    obtain ⟨_, y1⟩ := value_ends ic.nonneg ic.nonneg' (value_fit ic).e
    obtain ⟨g1, g2, _, _, _⟩ := pos_facts ((valueR (oneR a)).hi + 4503599627370496) (by omega)
    refine eq_of_val (value_fit ic).hi g1 (value_fit ic).rhi g2 ?_
    have D := (div_dir a piR.lo p2 big_fit.1.rlo big_fit.1.lo (by decide) true).2 rfl
    have E := (div_dir (a + 4503599627370496) piR.lo rf big_fit.1.rlo big_fit.1.lo (by decide) true).2 rfl
    have q3 := plain_sgn lf rf (by omega)
    have q4 := (pos_facts (a + 4503599627370496) (by omega)).2.2.2.1
    have sp : sgnB piR.lo = false := by decide
    rw [p3, p4, sp] at D
    rw [q3, q4, sp, steps_twice (by omega)] at E
    have x1' : (valueR (oneR a)).hi = divW a piR.lo true := x1
    have y1' : (valueR (oneR (a + 4503599627370496))).hi = divW (a + 4503599627370496) piR.lo true := y1
    rw [← x1'] at D
    rw [← y1'] at E
    have hT : sg (!(false == false)) (2 * steps a * 2 ^ sq) = 2 * sg (!(false == false)) (steps a * 2 ^ sq) := by
      show ((2 * steps a * 2 ^ sq : Nat) : Int) = 2 * ((steps a * 2 ^ sq : Nat) : Int)
      rw [Nat.mul_assoc]; exact Int.natCast_mul _ _
    rw [hT] at E
    rcases D with D | ⟨_, hz, _⟩
    · have D' := up_double (Or.inl ⟨rfl, D.2⟩) m3 m4
      rcases E with E | ⟨_, hz, _⟩
      · exact (up_val D' (Or.inl E) E.1).symm
      · exfalso
        have hq : In (oneR (a + 4503599627370496)) leastA := ⟨one_fit lf rf, by show val 4454060031469420544 ≤ val (a + 4503599627370496); omega, by show val (a + 4503599627370496) ≤ val u1; omega⟩
        have hw := (value_word hq).2.1
        have : (valueR (oneR (a + 4503599627370496))).hi = 0 := hz
        omega
    · omega

theorem halves_any (n : Nat) (hn : n < 4294967296) : ∃ f a c, Halves f a c ∧ ∀ w, Calls Try.prog 47 #[.int .u32 n] w fun r w' => r = .returned (.float .f64 f) ∧ w = w' := by
  obtain ⟨f, f1, f2, f3, f4, f5⟩ := frac_word n hn
  have cw := fun w => frac_walk n f w (fun w => run_float_arith w .quo 22 .f64 _ _ _ f1)
  by_cases h0 : n = 0
  · subst h0
    have e : floatBits .quo .f64 (floatOfInt .f64 ((0 : Nat) : Int)) 4751297606873776128 = some 0 := by decide +kernel
    obtain rfl : f = 0 := by
      have : some f = some 0 := f1.symm.trans e
      simpa using this
    exact ⟨0, 0, 0, halves_nil, cw⟩
  · obtain ⟨a, c, h⟩ := halves_of f2 f3 (frac_low n hn h0 f f1) f5
    exact ⟨f, a, c, h, cw⟩

set_option maxRecDepth 100000 in
theorem lMeets_any (al ah bl bh : Nat) (w : World) (o1 : ((FloatKind.f64.format.order al bh == some Ordering.lt) || (FloatKind.f64.format.order al bh == some Ordering.eq)) = true) (o2 : ((FloatKind.f64.format.order bl ah == some Ordering.lt) || (FloatKind.f64.format.order bl ah == some Ordering.eq)) = true) :
    Calls Try.prog 43 #[.agg #[.float .f64 al, .float .f64 ah], .agg #[.float .f64 bl, .float .f64 bh]] w fun r w' => r = .returned (.bool true) ∧ Below w.heap.size w w' := by
  have M := Lib.hid (((Own.nil w).made #[.float .f64 al, .float .f64 ah] 24).made #[.float .f64 bl, .float .f64 bh] 24)
  simp only [World.size_alloc] at M
  obtain ⟨k1, k2⟩ := (M.out.nth 1 rfl).two
  obtain ⟨k3, k4⟩ := (M.out.nth 0 rfl).two
  go_enter Try.func43, Try.ntmps43
  go_wp2
  go_ret
  exact ⟨by rw [← o2]; rfl, M.out.base⟩
theorem meets_any {a b : Res} (fa : Fit a) (fb : Fit b) (h : val a.lo ≤ val b.hi ∧ val b.lo ≤ val a.hi) (w : World) : Calls Try.prog 43 #[.agg #[.float .f64 a.lo, .float .f64 a.hi], .agg #[.float .f64 b.lo, .float .f64 b.hi]] w fun r w' => r = .returned (.bool true) ∧ Below w.heap.size w w' :=
  lMeets_any a.lo a.hi b.lo b.hi w ((order_le _ _ fa.lo fb.hi fa.rlo fb.rhi).trans (decide_eq_true h.1)) ((order_le _ _ fb.lo fa.hi fb.rlo fa.rhi).trans (decide_eq_true h.2))

theorem unit_sum : Fit (addR unI unI) := .of (by decide +kernel)
theorem unit_values : Fit (addR (valueR unI) (valueR unI)) := .of (by decide +kernel)
theorem parts_any (u v : Nat) (w : World) (hu : u < 4294967296) (hv : v < 4294967296) :
    Calls Try.prog 12 #[.int .u32 u, .int .u32 v] w fun r w' => r = .returned (.bool true) ∧ Below w.heap.size w w' := by
  obtain ⟨f, a, c, H, cf⟩ := halves_any u hu
  obtain ⟨g, b, _, K, cg⟩ := halves_any v hv
  obtain ⟨ml, mh, m1, m2, m3, m4⟩ := H.dbl
  have ia := H.ia
  have ib := K.ia
  have ic := H.ic
  have S := add_in (ia) un_fit ib un_fit unit_sum.e
  have sp := add_parts ia.fit ib.fit S.fit.e
  have ss : In (addR (oneR a) (oneR b)) unI := by
    refine ⟨S.fit, ?_, ?_⟩
    · have := S.lo
      have e : val (addR unI unI).lo = 0 := by decide +kernel
      show val 0 ≤ _
      rw [v00]; omega
    · rcases sp.2 with ⟨_, _, _, _, q⟩ | ⟨q, _⟩
      · refine q u1 (by decide) (by decide) ?_
        have h1 := H.small
        have h2 := K.small
        show val a + val b ≤ val u1 * 1
        omega
      · exact absurd q (by decide)
  have V := add_in (value_in ia (.refl un_fit)) un_value (value_in ib (.refl un_fit)) un_value unit_values.e
  have hp : HasV piR SS (val piR.lo) := ⟨SS0, Int.le_refl _, Int.mul_le_mul_of_nonneg_right big_fit.1.le (Int.le_of_lt SS0)⟩
  have pp : 0 < val piR.lo := by decide +kernel
  have P1 := HasV.add ia.fit ib.fit (HasV.one a) (HasV.one b) S.fit.e
  obtain ⟨_, Z⟩ := HasV.div ss.fit big_fit.1 P1 hp pp (value_fit ss).e
  obtain ⟨_, X⟩ := HasV.div ia.fit big_fit.1 (HasV.one a) hp pp (value_fit ia).e
  obtain ⟨_, Y⟩ := HasV.div ib.fit big_fit.1 (HasV.one b) hp pp (value_fit ib).e
  have Q := HasV.add (value_fit ia) (value_fit ib) X Y V.fit.e
  have meet := HasV.meet Z Q (by grind)
  have fx := value_fit ia
  exact parts_law (u0 := u) (v0 := v) (fu := f) (al := a) (fv := g) (bl := b) (cl := c) (ml := ml) (mh := mh) w
    (c1 := Lib.hid cf) (q_al := fun w => run_float_arith w .quo 22 .f64 _ _ _ H.half) (c2 := Lib.hid fun w => p7_any ia.fit.lo ia.fit.rlo ia.nonneg w)
    (c3 := Lib.hid cg) (q_bl := fun w => run_float_arith w .quo 22 .f64 _ _ _ K.half) (c4 := Lib.hid fun w => p7_any ib.fit.lo ib.fit.rlo ib.nonneg w)
    (c5 := Lib.hid fun w => value_any ia w) (c6 := Lib.hid fun w => value_any ib w) (c7 := Lib.hid fun w => density_any ia w)
    (q_cl := fun w => run_float_arith w .mul 22 .f64 _ _ _ H.twice) (c8 := Lib.hid fun w => p7_any ic.fit.lo ic.fit.rlo ic.nonneg w) (c9 := Lib.hid fun w => value_any ic w)
    (d10 := Lib.hid fun pb => calc_add ia.fit ib.fit S.fit pb) (c11 := Lib.hid fun w => value_any ss w)
    (o_gtrsh_418800017408 := (order_gt _ _ ss.fit.hi (by decide) ss.fit.rhi (by decide)).trans (decide_eq_false (by have h : val _ ≤ val u1 := ss.hi; show ¬ val u1 < _; omega)))
    (d12 := Lib.hid fun pb => calc_add (value_fit ia) (value_fit ib) V.fit pb) (c14 := Lib.hid fun w => meets_any (value_fit ss) V.fit meet w)
    (e_xl_xl := eq_of_val fx.lo fx.lo fx.rlo fx.rlo rfl) (e_xh_xh := eq_of_val fx.hi fx.hi fx.rhi fx.rhi rfl)
    (q_ml := fun w => run_float_arith w .mul 22 .f64 _ _ _ m1) (q_mh := fun w => run_float_arith w .mul 22 .f64 _ _ _ m2) (e_tl_ml := m3) (e_th_mh := m4) (c15 := Lib.hid awake7_any)

end Go.Proofs.Ytoocmocaelcbkaa
