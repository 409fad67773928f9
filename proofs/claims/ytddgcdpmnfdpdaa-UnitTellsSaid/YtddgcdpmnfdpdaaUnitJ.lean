
/- The law UnitSides answers true, for every float64 and every draw. -/
import Derived.Test.YtddgcdpmnfdpdaaUnitI
namespace Go.Proofs.Ytddgcdpmnfdpdaa
open Go.RowKit

theorem left_bound (B : Nat) : leftN B B = 0 := by
  unfold leftN
  rw [if_neg (by omega), Nat.sub_self, Nat.zero_mul, Nat.zero_div]
theorem left_first (B : Nat) (h : 0 < B) : leftN 0 B = 0 := by
  unfold leftN
  rw [if_pos h, Nat.zero_mul, Nat.zero_div]
theorem left_last (B : Nat) (h : 1 < B) (h2 : B < 18446744073709551616) : 0 < leftN (B - 1) B := by
  unfold leftN
  rw [if_pos (by omega)]
  exact Nat.div_pos (by omega) (by omega)
theorem left_one (u : Nat) (h : u < 18446744073709551616) : leftN u 18446744073709551616 = u := by
  unfold leftN
  rw [if_pos h, Nat.mul_div_cancel _ (by decide)]
theorem left_zero (u : Nat) : leftN u 0 = u := by
  unfold leftN
  rw [if_neg (by omega), Nat.sub_zero, Nat.sub_zero, Nat.mul_div_cancel _ (by decide)]

theorem usplit_at (u v : Nat) (l : Nat) (b : Bool) (U Z : Int) (w : World) (hu : u < 18446744073709551616) (hv : v < 18446744073709551616) (hw : wtB v = true) (hU : (u : Int) = U) (hZ : (l : Int) = Z) (h1 : decide (u < bnd v) = b) (h2 : leftN u (bnd v) = l) :
    Calls Try.prog 47 #[.int .u64 U, .float .f64 v] w fun r w' => r = .returned (.tuple #[.bool b, .int .u64 Z, .int .i64 0]) ∧ Below w.heap.size w w' := by
  rw [← hU, ← hZ, ← h1, ← h2]; exact usplit_any u v w hu hv hw

theorem beq_self_int (u : Int) : (u == u) = true := by rw [beq_iff_eq]

theorem sideslaw_any (v u : Nat) (w : World) (hv : v < 18446744073709551616) (hu : u < 18446744073709551616) :
    Calls Try.prog 10 #[.float .f64 v, .int .u64 u] w fun r w' => r = .returned (.bool true) ∧ Below w.heap.size w w' := by
  cases hw : wtB v
  · have cS := Lib.hid (fun w => usplit_none u v w hv hw)
    cases hr : rightB v
    · exact sides_none v u false _ _ w (Lib.hid (fun w => right_at v false w hv hr)) rfl rfl (Lib.hid (Or.inl rfl)) cS
    · refine sides_none v u true _ _ w (Lib.hid (fun w => right_at v true w hv hr)) (order_lt v 0 hv (by decide) hr right_0) (order_gt v _ hv (by decide) hr right_one) (Lib.hid (Or.inr ?_)) cS
      rw [val_0, val_one, decide_eq_true_eq, decide_eq_true_eq]
      unfold wtB at hw
      rw [hr, Bool.true_and] at hw
      by_cases h0 : 0 ≤ val v
      · rw [decide_eq_true h0, Bool.true_and, decide_eq_false_iff_not] at hw
        exact Or.inr (by omega)
      · exact Or.inl (by omega)
  · obtain ⟨r1, r2, r3⟩ := wt_facts v hw
    obtain ⟨v1, v2⟩ := one_word v hv r1 r2 r3
    obtain ⟨_, _, _, _, v5⟩ := pos_facts v v1
    have o1 : (FloatKind.f64.format.order v 0 == some Ordering.lt) = false := by rw [order_lt v 0 hv (by decide) r1 right_0, val_0]; exact decide_eq_false (by omega)
    have o2 : (FloatKind.f64.format.order v 4607182418800017408 == some Ordering.gt) = false := by rw [order_gt v _ hv (by decide) r1 right_one, val_one]; exact decide_eq_false (by omega)
    have F := of_facts u hu
    obtain ⟨a1, a2, _, _, a5⟩ := pos_facts _ F.lo
    obtain ⟨b1, b2, _, _, b5⟩ := pos_facts _ F.hi
    have cR := Lib.hid (fun w => right_at v true w hv r1)
    have cO := Lib.hid (fun w => of_any u w hu)
    have oH := order_lt (ofHi u) v b1 hv b2 r1
    have oL := order_lt (ofLo u) v a1 hv a2 r1
    have oG1 := order_gt (ofLo u) v a1 hv a2 r1
    have oG2 := order_eq (ofLo u) v a1 hv a2 r1
    have oE := order_eq v 4607182418800017408 hv (by decide) r1 right_one
    rw [b5, v5] at oH
    rw [a5, v5] at oL oG1 oG2
    rw [v5, val_one] at oE
    have hT := Nat.two_pow_pos dr
    have hbelow := F.below
    have habove := F.above
    have hless := F.less
    by_cases h1 : steps v = 2 ^ sq
    · have hB := bnd_one v h1
      have cS := fun w => usplit_any u v w hu hv hw
      rw [hB, decide_eq_true (by omega : u < 18446744073709551616), left_one u hu] at cS
      rw [decide_eq_true (by omega)] at oL oE
      rw [decide_eq_false (by omega)] at oG1 oG2
      exact sides_t1 v u _ _ u _ w cR o1 o2 (Lib.hid cS) cO oH oL oG1 oG2 oE (beq_self_int _)
    · rw [decide_eq_false (by omega)] at oE
      have hlt : steps v < 2 ^ sq := by omega
      have hB := bnd_lt v hlt
      obtain ⟨L, l1, l2, l3⟩ := ldexp_wt v v1 v2
      obtain ⟨x1, x2, _, _, x5⟩ := pos_facts L l2
      have kB := cut_end v L l2 l3 hlt
      have kB' := fun w => run_convert_float_int (P := Try.prog) w 22 58 _ _ _ _ (by rw [Try.underlying22]; rfl) Try.underlying58 kB
      have oS := order_lt L 4607182418800017408 x1 (by decide) x2 right_one
      rw [x5, val_one, l3] at oS
      have hdm : bnd v * 2 ^ dr ≤ steps v := Nat.div_mul_le_self _ _
      have hdn : steps v < (bnd v + 1) * 2 ^ dr := by
        have := Nat.lt_mul_div_succ (steps v) hT
        rw [Nat.mul_comm] at this
        exact this
      have hsm : steps v * 18446744073709551616 < 2 ^ sq ↔ bnd v = 0 := by
        rw [one_dr, Nat.mul_comm 18446744073709551616]
        constructor
        · intro h
          have : steps v < 2 ^ dr := Nat.lt_of_mul_lt_mul_right h
          exact Nat.div_eq_of_lt this
        · intro h
          rw [h, Nat.zero_add, Nat.one_mul] at hdn
          exact Nat.mul_lt_mul_of_pos_right hdn (by decide)
      -- what the tail asks where the bound is above 0
      have tail : 0 < bnd v → IntKind.u64.wrap ((bnd v : Int) - 1) = ((bnd v - 1 : Nat) : Int) ∧ (((bnd v : Int) == 1) = false → decide (0 < leftN (bnd v - 1) (bnd v)) = true) := by
        intro h
        refine ⟨by rw [IntKind.wrap_u64]; omega, fun h' => decide_eq_true (left_last _ ?_ hB)⟩
        rw [beq_eq_false_iff_ne] at h'
        omega
      have c1 := fun (h : 0 < bnd v) w => usplit_at (bnd v - 1) v _ true _ _ w (by omega) hv hw rfl rfl (decide_eq_true (by omega)) rfl
      have c2 := fun (h : 0 < bnd v) w => usplit_at (bnd v) v 0 false _ 0 w hB hv hw rfl rfl (decide_eq_false (by omega)) (left_bound _)
      have c3 := fun (h : 0 < bnd v) w => usplit_at 0 v 0 true 0 0 w (by decide) hv hw rfl rfl (decide_eq_true h) (left_first _ h)
      have cS := fun w => usplit_any u v w hu hv hw
      by_cases hs : u < bnd v
      · rw [decide_eq_true hs] at cS
        have h0 : 0 < bnd v := by omega
        have hmul : u * 2 ^ dr < bnd v * 2 ^ dr := Nat.mul_lt_mul_of_pos_right hs hT
        rw [decide_eq_true (by omega)] at oL
        rw [decide_eq_false (by omega)] at oG1 oG2
        rw [decide_eq_false (by intro h; have := hsm.1 (Int.ofNat_lt.1 h); omega)] at oS
        exact sides_t0 v u _ _ _ L (bnd v) (bnd v - 1) _ _ _ w cR o1 o2 (Lib.hid cS) cO oH oL oG1 oG2 oE (Lib.hid l1) oS kB' (tail h0).1 (Lib.hid (c1 h0)) (Lib.hid (c2 h0)) (Lib.hid (c3 h0)) rfl (Lib.hid (tail h0).2)
      · rw [decide_eq_false hs] at cS
        by_cases hH : steps (ofHi u) < steps v
        · -- the draw is the bound's, and the weight has a part of a step more
          rw [decide_eq_true (by omega)] at oH
          have hub : u = bnd v := by
            have h2 : u * 2 ^ dr < (bnd v + 1) * 2 ^ dr := by omega
            have := Nat.lt_of_mul_lt_mul_right h2
            omega
          have hsame : ofLo u = ofHi u := by
            by_cases h : ofLo u = ofHi u
            · exact h
            · exfalso
              have h2 := (F.ne h).2
              have h3 : bnd (ofHi u) ≤ bnd v := Nat.div_le_div_right (Nat.le_of_lt hH)
              omega
          have hlo : steps (ofLo u) = u * 2 ^ dr := by rw [← hsame] at habove; omega
          obtain ⟨K, k1, k2, k3⟩ := ldexp_end (ofLo u) F.lonorm F.lo (by omega)
          have hadd : (bnd v + 1) * 2 ^ dr = u * 2 ^ dr + 2 ^ dr := by rw [hub, Nat.add_mul, Nat.one_mul]
          obtain ⟨D, d1, d2, d3⟩ := sub_near L K l2 k2 (by rw [k3, l3]; exact Nat.mul_le_mul_right _ (by omega)) (by
            rw [k3, l3, one_dr, Nat.mul_comm 18446744073709551616, ← Nat.add_mul]
            exact Nat.mul_le_mul_right _ (by omega))
          have kD := fun w => run_float_arith (P := Try.prog) w .sub 22 .f64 L K D d1
          rw [decide_eq_false (by rw [← hsame] at hH; omega)] at oG1 oG2
          by_cases h0 : bnd v = 0
          · have oS' := oS
            rw [decide_eq_true (Int.ofNat_lt.2 (hsm.2 h0))] at oS'
            rw [h0, left_zero] at cS
            exact sides_f_small_diff v u _ _ u L K D w cR o1 o2 (Lib.hid cS) cO oH oG1 oG2 oE (Lib.hid l1) oS' (beq_self_int _) (Lib.hid k1) kD d2 d3
          · have hp : 0 < bnd v := by omega
            rw [decide_eq_false (by intro h; have := hsm.1 (Int.ofNat_lt.1 h); omega)] at oS
            exact sides_f_more_diff v u _ _ _ L (bnd v) (bnd v - 1) _ K D _ w cR o1 o2 (Lib.hid cS) cO oH oG1 oG2 oE (Lib.hid l1) oS kB' (tail hp).1 (Lib.hid (c1 hp)) (Lib.hid (c2 hp)) (Lib.hid (c3 hp)) rfl (Lib.hid (tail hp).2) (Lib.hid k1) kD d2 d3
        · rw [decide_eq_false (by omega)] at oH
          by_cases hL : steps (ofLo u) < steps v
          · rw [decide_eq_true (by omega)] at oL
            rw [decide_eq_false (by omega)] at oG1 oG2
            by_cases h0 : bnd v = 0
            · have oS' := oS
              rw [decide_eq_true (Int.ofNat_lt.2 (hsm.2 h0))] at oS'
              rw [h0, left_zero] at cS
              exact sides_f_small_true v u _ _ u L w cR o1 o2 (Lib.hid cS) cO oH oL oG1 oG2 oE (Lib.hid l1) oS' (beq_self_int _)
            · have hp : 0 < bnd v := by omega
              rw [decide_eq_false (by intro h; have := hsm.1 (Int.ofNat_lt.1 h); omega)] at oS
              exact sides_f_more_true v u _ _ _ L (bnd v) (bnd v - 1) _ _ w cR o1 o2 (Lib.hid cS) cO oH oL oG1 oG2 oE (Lib.hid l1) oS kB' (tail hp).1 (Lib.hid (c1 hp)) (Lib.hid (c2 hp)) (Lib.hid (c3 hp)) rfl (Lib.hid (tail hp).2)
          · rw [decide_eq_false (by omega)] at oL
            by_cases h0 : bnd v = 0
            · have oS' := oS
              rw [decide_eq_true (Int.ofNat_lt.2 (hsm.2 h0))] at oS'
              rw [h0, left_zero] at cS
              exact sides_f_small_false v u _ _ u L _ _ w cR o1 o2 (Lib.hid cS) cO oH oL oG1 oG2 oE (Lib.hid l1) oS' (beq_self_int _)
            · have hp : 0 < bnd v := by omega
              rw [decide_eq_false (by intro h; have := hsm.1 (Int.ofNat_lt.1 h); omega)] at oS
              exact sides_f_more_false v u _ _ _ L (bnd v) (bnd v - 1) _ _ _ _ w cR o1 o2 (Lib.hid cS) cO oH oL oG1 oG2 oE (Lib.hid l1) oS kB' (tail hp).1 (Lib.hid (c1 hp)) (Lib.hid (c2 hp)) (Lib.hid (c3 hp)) rfl (Lib.hid (tail hp).2)

end Go.Proofs.Ytddgcdpmnfdpdaa
