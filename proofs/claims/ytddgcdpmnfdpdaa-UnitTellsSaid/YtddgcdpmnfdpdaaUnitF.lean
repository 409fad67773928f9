
/- Plain mathematics of layer 3: what the law UnitOf asks of a draw's two ends. -/
import Derived.Test.YtddgcdpmnfdpdaaUnitD
import Derived.Test.YtddgcdpmnfdpdaaGrows
namespace Go.Proofs.Ytddgcdpmnfdpdaa
open Go.RowKit

theorem val_tiny (c : Nat) (h : 2 ^ dr ≤ steps c) : 4503599627370496 ≤ c := by
  rcases Nat.lt_or_ge c 4503599627370496 with g | g
  · exfalso
    have h1 := steps_le (Nat.le_of_lt g)
    have e : steps 4503599627370496 = 2 ^ 52 := by decide
    have h2 : (2 : Nat) ^ 52 < 2 ^ dr := Nat.pow_lt_pow_right (by decide) (by rw [dr_eq]; decide)
    omega
  · exact g

theorem steps_one : steps 4607182418800017408 = 2 ^ sq := by decide +kernel

/-- What is no less than 2^53 of a draw's steps is a whole number of them. -/
theorem whole_of (c : Nat) (h : 9007199254740992 * 2 ^ dr ≤ steps c) : ∃ m, steps c = m * 2 ^ dr := by
  obtain ⟨m, k, hk, hm⟩ := steps_form c
  have hkd : dr ≤ k := by
    rcases Nat.lt_or_ge k dr with g | g
    · exfalso
      have h1 : 2 ^ k ≤ 2 ^ dr := Nat.pow_le_pow_right (by decide) (Nat.le_of_lt g)
      have h2 : m * 2 ^ k ≤ m * 2 ^ dr := Nat.mul_le_mul_left _ h1
      have h3 : m * 2 ^ dr < 9007199254740992 * 2 ^ dr := Nat.mul_lt_mul_of_pos_right hm (Nat.two_pow_pos _)
      omega
    · exact g
  exact ⟨m * 2 ^ (k - dr), by rw [hk, Nat.mul_assoc, ← Nat.pow_add, Nat.sub_add_cancel hkd]⟩

structure OfFacts (u : Nat) : Prop where
  lo : ofLo u < 9218868437227405312
  hi : ofHi u < 9218868437227405312
  below : steps (ofLo u) ≤ u * 2 ^ dr
  above : u * 2 ^ dr ≤ steps (ofHi u)
  one : steps (ofHi u) ≤ 2 ^ sq
  less : steps (ofLo u) < 2 ^ sq
  lonorm : ofLo u = 0 ∨ 4503599627370496 ≤ ofLo u
  hinorm : ofHi u = 0 ∨ 4503599627370496 ≤ ofHi u
  ne : ofLo u ≠ ofHi u → steps (ofLo u) < u * 2 ^ dr ∧ u < bnd (ofHi u)
  next : addE (ofLo u) 1 true = 0 ∧ addW (ofLo u) 1 true < 18446744073709551616 ∧ rightB (addW (ofLo u) 1 true) = true ∧ (ofLo u ≠ ofHi u → ofHi u = addW (ofLo u) 1 true)

theorem of_facts (u : Nat) (hu : u < 18446744073709551616) : OfFacts u := by
  obtain ⟨hd, hup, _, _⟩ := of_tight u hu
  obtain ⟨a1, a2, a3, a4⟩ := hd.ok
  obtain ⟨b1, b2, b3, b4⟩ := hup.ok
  rw [show ((1 : Nat) : Int) = 1 from rfl, Int.mul_one] at a3 b3
  have z := a4 0 (by decide) right_0 (by rw [val_0]; omega)
  rw [val_0] at z
  have lo := pos_word _ a1 a2 z
  have hpos : 0 ≤ val (ofHi u) := by omega
  have hi := pos_word _ b1 b2 hpos
  obtain ⟨_, _, _, _, lv⟩ := pos_facts _ lo
  obtain ⟨_, _, _, _, hv⟩ := pos_facts _ hi
  rw [lv] at a3
  rw [hv] at b3
  have below : steps (ofLo u) ≤ u * 2 ^ dr := Int.ofNat_le.1 a3
  have above : u * 2 ^ dr ≤ steps (ofHi u) := Int.ofNat_le.1 b3
  have hlt : u * 2 ^ dr < 2 ^ sq := by rw [one_dr]; exact Nat.mul_lt_mul_of_pos_right hu (Nat.two_pow_pos _)
  have one : steps (ofHi u) ≤ 2 ^ sq := by
    have := b4 4607182418800017408 (by decide) right_one (by rw [val_one]; omega)
    rw [hv, val_one] at this
    exact Int.ofNat_le.1 this
  -- a number that is just the draw
  have exact_of : ∀ c, c < 9218868437227405312 → steps c = u * 2 ^ dr → ofLo u = c ∧ ofHi u = c := by
    intro c hc hs
    obtain ⟨c1, c2, _, _, c5⟩ := pos_facts c hc
    have e : val c = ((u * 2 ^ dr : Nat) : Int) := by rw [c5, hs]
    have h1 := a4 c c1 c2 (by rw [e]; omega)
    have h2 := b4 c c1 c2 (by rw [e]; omega)
    exact ⟨val_inj a1 c1 a2 c2 (by omega), val_inj b1 c1 b2 c2 (by omega)⟩
  have lonorm : ofLo u = 0 ∨ 4503599627370496 ≤ ofLo u := by
    by_cases h0 : u = 0
    · left; exact (exact_of 0 (by decide) (by rw [h0, Nat.zero_mul]; rfl)).1
    · right
      obtain ⟨c, hc, hs⟩ := num_at 1 dr (by decide) (by rw [dr_eq]; decide) (by rw [dr_eq]; decide)
      obtain ⟨c1, c2, _, _, c5⟩ := pos_facts c hc
      rw [Nat.one_mul] at hs
      have h1 : 1 * 2 ^ dr ≤ u * 2 ^ dr := Nat.mul_le_mul_right _ (by omega)
      have h2 := a4 c c1 c2 (by rw [c5, hs]; omega)
      rw [c5, hs, lv] at h2
      exact val_tiny _ (Int.ofNat_le.1 h2)
  have big : ofLo u ≠ ofHi u → 9007199254740992 ≤ u := by
    intro hne
    rcases Nat.lt_or_ge u 9007199254740992 with g | g
    · exfalso
      obtain ⟨c, hc, hs⟩ := num_at u dr g (by rw [dr_eq]; decide) (by rw [dr_eq]; decide)
      obtain ⟨e1, e2⟩ := exact_of c hc hs
      exact hne (e1.trans e2.symm)
    · exact g
  have ne : ofLo u ≠ ofHi u → steps (ofLo u) < u * 2 ^ dr ∧ u * 2 ^ dr < steps (ofHi u) := by
    intro hne
    refine ⟨?_, ?_⟩
    · rcases Nat.eq_or_lt_of_le below with h | h
      · exact absurd (exact_of _ lo h).2.symm hne
      · exact h
    · rcases Nat.eq_or_lt_of_le above with h | h
      · exact absurd (exact_of _ hi h.symm).1 hne
      · exact h
  refine ⟨lo, hi, below, above, one, by omega, lonorm, ?_, ?_, ?_⟩
  · by_cases h0 : u = 0
    · left; exact (exact_of 0 (by decide) (by rw [h0, Nat.zero_mul]; rfl)).2
    · right
      have h1 : 1 * 2 ^ dr ≤ u * 2 ^ dr := Nat.mul_le_mul_right _ (by omega)
      exact val_tiny _ (by omega)
  · intro hne
    obtain ⟨n1, n2⟩ := ne hne
    refine ⟨n1, ?_⟩
    have hb := big hne
    have h1 : 9007199254740992 * 2 ^ dr ≤ u * 2 ^ dr := Nat.mul_le_mul_right _ hb
    obtain ⟨m, hm⟩ := whole_of (ofHi u) (by omega)
    unfold bnd
    rw [hm, Nat.mul_div_cancel _ (Nat.two_pow_pos _)]
    rw [hm] at n2
    exact Nat.lt_of_mul_lt_mul_right n2
  · rcases next_up (ofLo u) a2 with ⟨n1, n2, n3, n4, n5⟩ | ⟨_, n2⟩
    · refine ⟨n1, n2, n3, fun hne => ?_⟩
      obtain ⟨m1, m2⟩ := ne hne
      have h1 : ((u * 2 ^ dr : Nat) : Int) < val (addW (ofLo u) 1 true) := by
        rcases Int.lt_or_le ((u * 2 ^ dr : Nat) : Int) (val (addW (ofLo u) 1 true)) with g | g
        · exact g
        · have := a4 _ n2 n3 (by omega); omega
      have h2 := b4 _ n2 n3 (by omega)
      have h3 := n5 (ofHi u) b1 b2 (by rw [lv, hv]; omega)
      exact val_inj b1 n2 b2 n3 (by omega)
    · exfalso
      have := n2 4607182418800017408 (by decide) right_one
      rw [val_one, lv] at this
      omega

/-- 2^64 times a draw's end. -/
theorem ldexp_end (F : Nat) (h : F = 0 ∨ 4503599627370496 ≤ F) (h1 : F < 9218868437227405312) (h2 : steps F ≤ 2 ^ sq) :
    ∃ L, (∀ w, Calls Try.prog 52 #[.float .f64 F, .int .i64 64] w fun r w' => r = .returned (.float .f64 L) ∧ w = w') ∧ L < 9218868437227405312 ∧ steps L = steps F * 18446744073709551616 := by
  rcases h with rfl | h
  · exact ⟨0, fun w => ldexp_zero 64 w, by decide, by decide⟩
  · have h3 : F ≤ 4607182418800017408 := (steps_le_iff _ _).1 (by rw [steps_one]; exact h2)
    exact ⟨F + 288230376151711744, fun w => ldexp_64 F w h h3, by omega, steps_up F h⟩

theorem cut_end (F L : Nat) (hL : L < 9218868437227405312) (h : steps L = steps F * 18446744073709551616) (h2 : steps F < 2 ^ sq) : floatToIntVal .f64 L .u64 = some ((bnd F : Nat) : Int) := by
  have hc := to_u64 L hL (by rw [h, Nat.mul_comm]; exact Nat.mul_lt_mul_of_pos_left h2 (by decide))
  rw [h, bnd_cut] at hc
  exact hc

end Go.Proofs.Ytddgcdpmnfdpdaa
