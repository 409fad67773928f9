
/- math.Ldexp of any weight by 64; what the law UnitSides asks of a weight and a draw. -/
import Derived.Test.YtddgcdpmnfdpdaaUnitG
namespace Go.Proofs.Ytddgcdpmnfdpdaa
open Go.RowKit

set_option maxRecDepth 100000 in
set_option maxHeartbeats 1000000 in
theorem ldexp_small (F G A S X R : Nat) (e E x : Int) (w : World) (b0 : bits .andNot .u64 (F : Int) 9223372036854775808 = F)
    (o1 : (FloatKind.f64.format.order F 0 == some Ordering.eq) = false) (o2 : (FloatKind.f64.format.order F 9218868437227405311 == some Ordering.gt) = false)
    (o3 : (FloatKind.f64.format.order F F != some Ordering.eq) = false) (o4 : (FloatKind.f64.format.order F 4503599627370496 == some Ordering.lt) = true)
    (hn : floatBits .mul .f64 F 4841369599423283200 = some G)
    (s1 : (G : Int) / 4503599627370496 = E) (e0 : 0 ≤ E) (e1 : E ≤ 2047) (a1 : bits .and .i64 E 2047 = E) (f0 : -3000 ≤ e) (f1 : e ≤ 3000) (r1 : e + -52 + (E - 1023) = x) (r2 : -1022 ≤ x) (r3 : x ≤ 1023)
    (a2 : bits .andNot .u64 (G : Int) 9218868437227405312 = A) (sh : IntKind.u64.wrap ((x + 1023) * 4503599627370496) = S) (o5 : bits .or .u64 (A : Int) (S : Int) = X)
    (hm : floatBits .mul .f64 4607182418800017408 X = some R) :
    Calls Try.prog 52 #[.float .f64 F, .int .i64 e] w fun r w' => r = .returned (.float .f64 R) ∧ w = w' := by
  have h1 := run_bits
  have h2 := run_frombits
  have h3 := fun w => run_float_arith (P := Try.prog) w .mul 22 .f64 4607182418800017408 X R hm
  have h4 := fun w => run_float_arith (P := Try.prog) w .mul 22 .f64 F 4841369599423283200 G hn
  go_enter Try.func52, Try.ntmps52
  go_wp2
  go_ret
  exact ⟨rfl, rfl⟩

theorem steps_shift (F k K : Nat) (hK : K = k * 4503599627370496) (h : 4503599627370496 ≤ F) : steps (F + K) = steps F * 2 ^ k := by
  subst hK
  unfold steps
  rw [if_neg (by omega), if_neg (by omega), show (F + k * 4503599627370496) / 4503599627370496 - 1 = F / 4503599627370496 - 1 + k by omega, show (F + k * 4503599627370496) % 4503599627370496 = F % 4503599627370496 by omega, Nat.pow_add, ← Nat.mul_assoc]

/-- A subnormal number, 52 powers of two up. -/
theorem num_52 (m : Nat) (hm : m < 9007199254740992) (h0 : m ≠ 0) : ∃ r, r < 9218868437227405312 ∧ steps r = m * 2 ^ 52 := by
  have l1 : 2 ^ m.log2 ≤ m := Nat.log2_self_le h0
  have l2 : m < 2 ^ (m.log2 + 1) := Nat.lt_log2_self
  have e53 : (9007199254740992 : Nat) = 2 ^ 53 := by decide
  have e52 : (4503599627370496 : Nat) = 2 ^ 52 := by decide
  have hl : m.log2 < 53 := (Nat.pow_lt_pow_iff_right (by decide : 1 < 2)).1 (by omega)
  obtain ⟨j, hj⟩ : ∃ j, j = 52 - m.log2 := ⟨_, rfl⟩
  have b1 : m * 2 ^ j < 9007199254740992 := by
    have h := Nat.mul_lt_mul_of_pos_right l2 (Nat.two_pow_pos j)
    rw [← Nat.pow_add, show m.log2 + 1 + j = 53 by omega] at h
    omega
  have b2 : 4503599627370496 ≤ m * 2 ^ j := by
    have h := Nat.mul_le_mul_right (2 ^ j) l1
    rw [← Nat.pow_add, show m.log2 + j = 52 by omega] at h
    omega
  refine ⟨(52 - j) * 4503599627370496 + m * 2 ^ j, by omega, ?_⟩
  rw [steps_km _ _ (by omega) (Or.inr b2), Nat.mul_assoc, ← Nat.pow_add]
  congr 2; omega

/-- A subnormal number. -/
theorem ldexp_sub (F : Nat) (h0 : F ≠ 0) (h1 : F < 4503599627370496) :
    ∃ L, (∀ w, Calls Try.prog 52 #[.float .f64 F, .int .i64 64] w fun r w' => r = .returned (.float .f64 L) ∧ w = w') ∧ L < 9218868437227405312 ∧ steps L = steps F * 18446744073709551616 := by
  have hF : steps F = F := by unfold steps; rw [if_pos (by omega)]
  obtain ⟨G, hG, hs⟩ := num_52 F (by omega) h0
  obtain ⟨f1, f2, f3, f4, f5⟩ := pos_facts F (by omega)
  obtain ⟨g1, g2, g3, g4, g5⟩ := pos_facts G hG
  have hG0 : 4503599627370496 ≤ G := by
    rcases Nat.lt_or_ge G 4503599627370496 with g | g
    · exfalso
      have h2 : steps G = G := by unfold steps; rw [if_pos (by omega)]
      rw [h2] at hs
      have h3 : 1 * 2 ^ 52 ≤ F * 2 ^ 52 := Nat.mul_le_mul_right _ (by omega)
      have e52 : (2 : Nat) ^ 52 = 4503599627370496 := by decide
      omega
    · exact g
  have hG1 : G < 477381560501272576 := by
    rcases Nat.lt_or_ge G 477381560501272576 with g | g
    · exact g
    · exfalso
      have h2 := steps_le g
      have e : steps 477381560501272576 = 2 ^ 157 := by decide
      have e52 : (4503599627370496 : Nat) = 2 ^ 52 := by decide
      have h3 : F * 2 ^ 52 < 2 ^ 52 * 2 ^ 52 := Nat.mul_lt_mul_of_pos_right (by omega) (Nat.two_pow_pos _)
      have h4 : (2 : Nat) ^ 52 * 2 ^ 52 ≤ 2 ^ 157 := by decide
      omega
  obtain ⟨x1, x2, _, _, x5⟩ := pos_facts (G + 54043195528445952) (by omega)
  have v52 : val 4841369599423283200 = ((2 ^ (sq + 52) : Nat) : Int) := by decide +kernel
  have hm := mul_exact F 4841369599423283200 G f1 (by decide) f2 (by decide) hG (by omega) (by
    rw [g5, hs, f5, hF, v52, ← Int.natCast_mul, ← Int.natCast_mul, Nat.mul_assoc, ← Nat.pow_add, Nat.add_comm 52 sq])
  obtain ⟨E, hE⟩ : ∃ E, E = G / 4503599627370496 := ⟨_, rfl⟩
  obtain ⟨M, hM⟩ : ∃ M, M = G % 4503599627370496 := ⟨_, rfl⟩
  have hX : (E + 12) * 4503599627370496 + M = G + 54043195528445952 := by omega
  refine ⟨G + 54043195528445952, fun w => ?_, by omega, ?_⟩
  · refine ldexp_small F G M ((E + 12) * 4503599627370496) (G + 54043195528445952) (G + 54043195528445952) 64 E (12 + ((E : Int) - 1023)) w (by rw [andNot_sign F f1, f4]) ?_ ?_ ?_ ?_ hm (by rw [hE]; exact (Int.natCast_ediv _ _).symm) (by omega) (by omega) (and_2047 E (by omega)) (by decide) (by decide) (by omega) (by omega) (by omega)
      (by rw [andNot_field G (by omega), hM]) ?_ ?_ ?_
    · rw [order_eq F 0 f1 (by decide) f2 right_0, val_0]; exact decide_eq_false (by omega)
    · rw [order_gt F _ f1 (by decide) f2 right_max]
      refine decide_eq_false ?_
      have := val_max F f2
      omega
    · have := order_eq F F f1 f1 f2 f2
      rw [decide_eq_true rfl] at this
      rw [bne, this]; rfl
    · rw [order_lt F _ f1 (by decide) f2 (by decide), val_least_normal]; exact decide_eq_true (by omega)
    · rw [IntKind.wrap_u64]; omega
    · rw [or_field M (E + 12) (by omega) (by omega), hX]
    · exact mul_exact _ _ _ (by decide) x1 right_one x2 (by omega) (by omega) (by rw [val_one, Int.mul_comm])
  · rw [steps_shift G 12 _ (by decide) hG0, hs, hF, Nat.mul_assoc]

theorem ldexp_wt (F : Nat) (h1 : F < 9218868437227405312) (h2 : steps F ≤ 2 ^ sq) :
    ∃ L, (∀ w, Calls Try.prog 52 #[.float .f64 F, .int .i64 64] w fun r w' => r = .returned (.float .f64 L) ∧ w = w') ∧ L < 9218868437227405312 ∧ steps L = steps F * 18446744073709551616 := by
  by_cases h0 : F = 0
  · exact ldexp_end F (Or.inl h0) h1 h2
  · rcases Nat.lt_or_ge F 4503599627370496 with g | g
    · exact ldexp_sub F h0 g
    · exact ldexp_end F (Or.inr g) h1 h2

/-- What lies within 1 of another one: the difference by the model's floats is below 2. -/
theorem sub_near (L K : Nat) (hL : L < 9218868437227405312) (hK : K < 9218868437227405312) (h0 : steps K ≤ steps L) (h1 : steps L ≤ steps K + 2 ^ sq) :
    ∃ D, floatBits .sub .f64 L K = some D ∧ (FloatKind.f64.format.order D 4611686018427387904 == some Ordering.gt) = false ∧ (FloatKind.f64.format.order D 4611686018427387904 == some Ordering.eq) = false := by
  obtain ⟨l1, l2, _, _, l5⟩ := pos_facts L hL
  obtain ⟨k1, k2, _, _, k5⟩ := pos_facts K hK
  obtain ⟨D, hD, hB⟩ := sub_beside L K l1 k1 l2 k2
  have hd := sub_down L K l2 k2
  have hu := sub_up L K l2 k2
  have e1 : subE L K false = 0 := by
    rcases hd with ⟨h, _⟩ | ⟨_, _, g⟩
    · exact h
    · have := g 0 (by decide) right_0
      rw [val_0] at this; omega
  have e2 : subE L K true = 0 := by
    rcases hu with ⟨h, _⟩ | ⟨_, _, g⟩
    · exact h
    · have := g 4607182418800017408 (by decide) right_one
      rw [val_one] at this; omega
  rw [e1] at hd
  rw [e2] at hu
  obtain ⟨r1, r2, r3⟩ := hB _ _ hd hu
  obtain ⟨d1, d2, d3, d4⟩ := hd.ok
  obtain ⟨u1, u2, u3, u4⟩ := hu.ok
  have hone := u4 4607182418800017408 (by decide) right_one (by rw [val_one]; omega)
  rw [val_one] at hone
  have v2 : val 4611686018427387904 = ((2 * 2 ^ sq : Nat) : Int) := by decide +kernel
  have hp := Nat.two_pow_pos sq
  have hlt : val D < val 4611686018427387904 := by
    rw [v2]
    rcases r3 with h | h <;> omega
  refine ⟨D, hD, ?_, ?_⟩
  · rw [order_val D _ r1 (by decide) r2 (by decide), Int.compare_eq_lt.2 hlt]; rfl
  · rw [order_val D _ r1 (by decide) r2 (by decide), Int.compare_eq_lt.2 hlt]; rfl

end Go.Proofs.Ytddgcdpmnfdpdaa
