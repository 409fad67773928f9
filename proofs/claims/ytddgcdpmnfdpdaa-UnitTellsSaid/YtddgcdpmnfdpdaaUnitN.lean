
/- The document's answer for layer 3: Of, Half, Split are the program's. -/
import Derived.Test.YtddgcdpmnfdpdaaUnitL
import Derived.Test.YtddgcdpmnfdpdaaUnitH
namespace Go.Proofs.Ytddgcdpmnfdpdaa
open Go.RowKit
attribute [local go_sem] run_store_float

theorem top_unique {u B B' j j' : Nat} (h : TopAt u B j) (hq : u / B < 9007199254740992) (h' : TopAt u B' j') (hq' : u / B' < 9007199254740992) : B' = B := by
  obtain ⟨a1, _, a3⟩ := h
  obtain ⟨b1, _, b3⟩ := h'
  have key : ∀ i k, i < k → (k = 0 ∨ 9007199254740992 ≤ u / 2 ^ (k - 1)) → u / 2 ^ i < 9007199254740992 → False := by
    intro i k hik h1 h2
    rcases h1 with h1 | h1
    · omega
    · have h3 : 2 ^ i ≤ 2 ^ (k - 1) := Nat.pow_le_pow_right (by decide) (by omega)
      have h4 := Nat.div_le_div_left (a := u) h3 (Nat.two_pow_pos i)
      omega
  rcases Nat.lt_trichotomy j j' with g | g | g
  · exact (key j j' g b3 (by rw [← a1]; exact hq)).elim
  · rw [a1, b1, g]
  · exact (key j' j g a3 (by rw [← b1]; exact hq')).elim

theorem top_exists (u : Nat) (hu : u < 18446744073709551616) : ∃ j B, TopAt u B j ∧ u / B < 9007199254740992 := by
  have h : ∀ n, (∃ j B, TopAt u B j ∧ u / B < 9007199254740992) ∨ TopAt u (2 ^ n) n := by
    intro n
    induction n with
    | zero => exact Or.inr ⟨rfl, by omega, Or.inl rfl⟩
    | succ n ih =>
      rcases ih with h | h
      · exact Or.inl h
      · by_cases hq : u / 2 ^ n < 9007199254740992
        · exact Or.inl ⟨n, _, h, hq⟩
        · have := h.next hu (by omega)
          rw [Nat.pow_succ, Nat.mul_comm]
          exact Or.inr this
  rcases h 12 with h | h
  · exact h
  · exact absurd h.2.1 (by decide)

/-- A number from 1 on, 64 powers of two down. -/
theorem ldexp_m64 (F : Nat) (w : World) (h1 : 4607182418800017408 ≤ F) (h2 : F < 9218868437227405312) :
    Calls Try.prog 52 #[.float .f64 F, .int .i64 (-64)] w fun r w' => r = .returned (.float .f64 (F - 288230376151711744)) ∧ w = w' := by
  obtain ⟨f1, f2, f3, f4, f5⟩ := pos_facts F (by omega)
  obtain ⟨g1, g2, g3, g4, g5⟩ := pos_facts (F - 288230376151711744) (by omega)
  have hge : 4503599627370496 ≤ steps F := by
    have := steps_le (show 4503599627370496 ≤ F by omega)
    have e : steps 4503599627370496 = 4503599627370496 := by decide
    omega
  obtain ⟨E, hE⟩ : ∃ E, E = F / 4503599627370496 := ⟨_, rfl⟩
  obtain ⟨M, hM⟩ : ∃ M, M = F % 4503599627370496 := ⟨_, rfl⟩
  have hX : (E - 64) * 4503599627370496 + M = F - 288230376151711744 := by omega
  refine ldexp_at F M ((E - 64) * 4503599627370496) (F - 288230376151711744) (F - 288230376151711744) (-64) E (-64 + ((E : Int) - 1023)) w (by rw [andNot_sign F f1, f4]) ?_ ?_ ?_ ?_ (by rw [hE]; exact (Int.natCast_ediv _ _).symm) (by omega) (by omega) (and_2047 E (by omega)) (by decide) (by decide) rfl (by omega) (by omega)
    (by rw [andNot_field F (by omega), hM]) ?_ ?_ ?_
  · rw [order_eq F 0 f1 (by decide) f2 right_0, val_0]; exact decide_eq_false (by omega)
  · rw [order_gt F _ f1 (by decide) f2 right_max]
    refine decide_eq_false ?_
    have := val_max F f2
    omega
  · have := order_eq F F f1 f1 f2 f2
    rw [decide_eq_true rfl] at this
    rw [bne, this]; rfl
  · rw [order_lt F _ f1 (by decide) f2 (by decide), val_least_normal]; exact decide_eq_false (by omega)
  · rw [IntKind.wrap_u64]; omega
  · rw [or_field M (E - 64) (by omega) (by omega), hX]
  · exact mul_exact _ _ _ (by decide) g1 right_one g2 (by omega) (by omega) (by rw [val_one, Int.mul_comm])

theorem ldexp_down (q : Nat) (X : Nat) (hX : X < 9218868437227405312) (hs : steps X = q * 2 ^ sq) :
    ∃ L, (∀ w, Calls Try.prog 52 #[.float .f64 X, .int .i64 (-64)] w fun r w' => r = .returned (.float .f64 L) ∧ w = w') ∧ L < 9218868437227405312 ∧ steps L = q * 2 ^ dr := by
  by_cases h0 : q = 0
  · have hz : X = 0 := (steps_zero X).1 (by rw [hs, h0, Nat.zero_mul])
    subst hz
    exact ⟨0, fun w => ldexp_zero (-64) w, by decide, by rw [h0, Nat.zero_mul]; rfl⟩
  · have h1 : 4607182418800017408 ≤ X := by
      refine (steps_le_iff _ _).1 ?_
      rw [steps_one, hs]
      have : 1 * 2 ^ sq ≤ q * 2 ^ sq := Nat.mul_le_mul_right _ (by omega)
      omega
    have hup := steps_shift (X - 288230376151711744) 64 288230376151711744 (by decide) (by omega)
    rw [Nat.sub_add_cancel (by omega), hs, one_dr] at hup
    refine ⟨X - 288230376151711744, fun w => ldexp_m64 X w h1 hX, by omega, ?_⟩
    rw [show (2 : Nat) ^ 64 = 18446744073709551616 by decide, Nat.mul_comm (steps _), Nat.mul_left_comm] at hup
    exact (Nat.eq_of_mul_eq_mul_left (by decide) hup).symm

/-- The product of the upper bits and what was divided by. -/
theorem top_word (q B j : Nat) (hq : q < 9007199254740992) (hB : B = 2 ^ j) (hj : j ≤ 11) :
    ∃ X, floatBits .mul .f64 (floatOfInt .f64 (q : Int)) (floatOfInt .f64 (B : Int)) = some X ∧ X < 9218868437227405312 ∧ steps X = q * B * 2 ^ sq := by
  have h3 : 2 ^ j ≤ 2 ^ 11 := Nat.pow_le_pow_right (by decide) hj
  have hB2 : B < 9007199254740992 := by rw [hB]; omega
  obtain ⟨f1, f2⟩ := from_int q hq
  obtain ⟨g1, g2⟩ := from_int B hB2
  obtain ⟨a1, a2, _, _, a5⟩ := pos_facts _ f1
  obtain ⟨b1, b2, _, _, b5⟩ := pos_facts _ g1
  have hsq := sq_eq
  obtain ⟨c, hc, hcv⟩ := num_at q (j + sq) hq (by omega) (by omega)
  have hcv' : steps c = q * B * 2 ^ sq := by rw [hcv, Nat.pow_add, ← Nat.mul_assoc, ← hB]
  by_cases h0 : q = 0
  · subst h0
    have e : FloatKind.f64.nearest ((0 : Nat) : Int) = 0 := by decide +kernel
    obtain ⟨r, hr, hbe⟩ := mul_beside 0 (FloatKind.f64.nearest (B : Int)) (by decide) b1 (by decide) b2
    refine ⟨0, ?_, by decide, by rw [Nat.zero_mul, Nat.zero_mul]; rfl⟩
    unfold floatOfInt
    rw [e]
    show (((Ieee.double.read 0).product (Ieee.double.read (FloatKind.f64.nearest (B : Int)))).map Ieee.double.write) = some 0
    rw [read_num 0 (by decide) (by decide), read_num _ b1 (right_rung _ b2)]
    have m0 : mant 0 = 0 := by decide
    have s0 : sgnB 0 = false := by decide
    have sB : sgnB (FloatKind.f64.nearest (B : Int)) = false := (pos_facts _ g1).2.2.1
    unfold Ieee.Datum.product
    rw [m0, s0, sB]
    dsimp only
    rw [Nat.zero_mul]
    rfl
  · obtain ⟨_, _, _, _, c5⟩ := pos_facts c hc
    have hne : c ≠ 0 := by
      intro h
      subst h
      have h5 : q * 2 ^ (j + sq) = 0 := hcv.symm
      rcases Nat.mul_eq_zero.1 h5 with h | h
      · omega
      · have := Nat.two_pow_pos (j + sq); omega
    refine ⟨c, ?_, hc, hcv'⟩
    unfold floatOfInt
    refine mul_exact _ _ c a1 b1 a2 b2 hc hne ?_
    rw [a5, b5, c5, f2, g2, hcv', ← Int.natCast_mul, ← Int.natCast_mul, Nat.mul_mul_mul_comm, Nat.mul_assoc]

/-- The upper bits of a draw are its interval's lower end. -/
theorem top_lo (u j B L : Nat) (hu : u < 18446744073709551616) (hT : TopAt u B j) (hq : u / B < 9007199254740992) (hL : L < 9218868437227405312) (hs : steps L = u / B * B * 2 ^ dr) : L = ofLo u := by
  have F := of_facts u hu
  obtain ⟨hd, hup, _, _⟩ := of_tight u hu
  obtain ⟨a1, a2, a3, a4⟩ := hd.ok
  obtain ⟨l1, l2, _, _, l5⟩ := pos_facts L hL
  obtain ⟨_, _, _, _, o5⟩ := pos_facts _ F.lo
  obtain ⟨t1, t2, t3⟩ := hT
  have hp := Nat.two_pow_pos dr
  have hle : u / B * B ≤ u := Nat.div_mul_le_self _ _
  have h1 : steps L ≤ u * 2 ^ dr := by rw [hs]; exact Nat.mul_le_mul_right _ hle
  have h2 := a4 L l1 l2 (by rw [l5, show ((1 : Nat) : Int) = 1 from rfl, Int.mul_one]; exact Int.ofNat_le.2 h1)
  rw [l5, o5] at h2
  have h3 : L ≤ ofLo u := (steps_le_iff _ _).1 (Int.ofNat_le.1 h2)
  have hbel := F.below
  rcases t3 with h0 | h0
  · have hB : B = 1 := by rw [t1, h0]
    rw [hB, Nat.div_one, Nat.mul_one] at hs
    have : steps (ofLo u) ≤ steps L := by omega
    have := (steps_le_iff _ _).1 this
    omega
  · have hjp : j ≠ 0 := by
      intro h
      rw [h] at h0 t1
      rw [t1] at hq
      simp at h0 hq
      omega
    have hq2 : 4503599627370496 ≤ u / B := by
      have e : B = 2 ^ (j - 1) * 2 := by rw [t1, ← Nat.pow_succ]; congr 1; omega
      rw [e, ← Nat.div_div_eq_div_mul]
      omega
    have hK : steps L = steps ((j + dr) * 4503599627370496 + u / B) := by
      rw [steps_km _ _ (by omega) (Or.inr hq2), hs, t1, Nat.pow_add, Nat.mul_assoc]
    have hLe : L = (j + dr) * 4503599627370496 + u / B := steps_inj hK
    have hN : steps (L + 1) = (u / B + 1) * B * 2 ^ dr := by
      rw [hLe, Nat.add_assoc, steps_km _ _ (by omega) (Or.inr (by omega)), t1, Nat.pow_add, Nat.mul_assoc]
    have hBp : 0 < B := by rw [t1]; exact Nat.two_pow_pos _
    have h5 : u < (u / B + 1) * B := by
      have := Nat.lt_mul_div_succ u hBp
      rw [Nat.mul_comm] at this
      exact this
    have h6 : u * 2 ^ dr < steps (L + 1) := by rw [hN]; exact Nat.mul_lt_mul_of_pos_right h5 hp
    have h7 : ¬ L + 1 ≤ ofLo u := fun h => by have := steps_le h; omega
    omega

set_option maxRecDepth 100000 in
theorem refOf_walk (u X lo hi : Nat) (rest : Bool) (w : World) (cT : Hid (∀ w, Calls Try.prog 98 #[.int .u64 u] w fun e w' => e = .returned (.tuple #[.float .f64 X, .bool rest]) ∧ Below w.heap.size w w'))
    (cL : Hid (∀ w, Calls Try.prog 52 #[.float .f64 X, .int .i64 (-64)] w fun r w' => r = .returned (.float .f64 lo) ∧ w = w'))
    (cN : Hid (rest = true → ∀ w, Calls Try.prog 24 #[.float .f64 lo, .bool true] w fun r w' => r = .returned (.tuple #[.float .f64 hi, .int .i64 0]) ∧ w = w')) (h : Hid (rest = false → hi = lo)) :
    Calls Try.prog 50 #[.int .u64 u] w fun r w' => r = .returned (.agg #[.float .f64 lo, .float .f64 hi]) ∧ Below w.heap.size w w' := by
  go_enter Try.func50, Try.ntmps50
  go_wp2_with fail
  refine (cT.out _).mono ?_
  rintro r w1 ⟨rfl, hb⟩
  obtain ⟨z1, c1, f1, b1⟩ := after1 hb
  have B1 := Lib.hid b1
  clear b1 hb
  go_wp2_with fail
  refine (cL.out _).mono ?_
  rintro r ww ⟨rfl, rfl⟩
  cases rest
  · have hh : hi = lo := h.out (by simp)
    subst hh
    go_wp2
    refine bodyPost_ret (v := .agg #[.float .f64 hi, .float .f64 hi]) (by simp [results, Try.results50, go_sem, c1]) rfl ⟨rfl, ?_⟩
    exact (B1.out.setCell (by show w.heap.size ≤ w.heap.size; omega) _).setCell (by show w.heap.size ≤ w.heap.size; omega) _
  · go_wp2_with fail
    refine (cN.out (by simp) _).mono ?_
    rintro r ww ⟨rfl, rfl⟩
    go_wp2
    refine bodyPost_ret (v := .agg #[.float .f64 lo, .float .f64 hi]) (by simp [results, Try.results50, go_sem, c1]) rfl ⟨rfl, ?_⟩
    exact (B1.out.setCell (by show w.heap.size ≤ w.heap.size; omega) _).setCell (by show w.heap.size ≤ w.heap.size; omega) _

theorem refOf_any (u : Nat) (w : World) (hu : u < 18446744073709551616) :
    Calls Try.prog 50 #[.int .u64 u] w fun r w' => r = .returned (.agg #[.float .f64 (ofLo u), .float .f64 (ofHi u)]) ∧ Below w.heap.size w w' := by
  obtain ⟨j, B, hT, hq⟩ := top_exists u hu
  obtain ⟨X, x1, x2, x3⟩ := top_word (u / B) B j hq hT.1 hT.2.1
  obtain ⟨L, l1, l2, l3⟩ := ldexp_down (u / B * B) X x2 x3
  have hL := top_lo u j B L hu hT hq l2 l3
  subst hL
  have F := of_facts u hu
  obtain ⟨a1, a2, _, _, a5⟩ := pos_facts _ F.lo
  obtain ⟨n1, n2, n3, n4⟩ := F.next
  have hp := Nat.two_pow_pos dr
  have hdm := Nat.div_add_mod u B
  rw [Nat.mul_comm] at hdm
  have cN := fun w => refNext_any (ofLo u) true w a1
  rw [show tinyW true = 1 from rfl, n1] at cN
  refine refOf_walk u X _ _ (((u % B : Nat) : Int) != 0) w (Lib.hid fun w => top_walk u B (u / B) (u % B) X _ w hu (Lib.hid fun j' B' h' hq' => top_unique hT hq h' hq') (Lib.hid rfl) (Lib.hid rfl) (fun w => run_float_arith w .mul 22 .f64 _ _ _ x1) rfl) (Lib.hid l1) (Lib.hid ?_) (Lib.hid ?_)
  · intro hr w
    rw [bne_iff_ne] at hr
    have hne : ofLo u ≠ ofHi u := by
      intro he
      have h1 := F.above
      rw [← he, l3] at h1
      have h2 : u ≤ u / B * B := Nat.le_of_mul_le_mul_right h1 hp
      omega
    rw [n4 hne]
    exact cN w
  · intro hr
    rw [bne_eq_false_iff_eq] at hr
    by_cases he : ofLo u = ofHi u
    · exact he.symm
    · exfalso
      have h1 := (F.ne he).1
      rw [l3] at h1
      have h2 := Nat.lt_of_mul_lt_mul_right h1
      omega

end Go.Proofs.Ytddgcdpmnfdpdaa
