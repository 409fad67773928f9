/- Law file 6: its function awake answers true. -/
import Derived.Test.YtoiaefgpegiieaaGreatKQFA

namespace Go.Proofs.YtoiaefgpegiieaaGreat
open Go.RowKit


theorem calc_max {a b : Res} (fa : Fit a) (fb : Fit b) (fr : Fit (maxR a b)) (pb : Nat) : Calc2 48 pb a.lo a.hi b.lo b.hi (maxR a b).lo (maxR a b).hi := fun v h => by
  have c := cMax_any 0 a.lo a.hi b.lo b.hi pb 0 v fa.lo fa.hi fb.lo fb.hi h.pc h.pf
  rw [step_two fa fb] at c
  exact told_none fr.e c
theorem div_told {a b : Res} (fa : Fit a) (fb : Fit b) (pb : Nat) : CD2 35 pb 0 (divR a b).e a.lo a.hi b.lo b.hi (divR a b).lo (divR a b).hi := fun v h => by
  have c := cDiv_any 0 a.lo a.hi b.lo b.hi pb 0 v fa.lo fa.hi fb.lo fb.hi h.pc h.pf
  rw [step_two fa fb] at c
  exact c.mono fun _ _ ⟨h1, h2⟩ => ⟨h1, h2⟩
theorem lt_in {a A : Res} (i : In a A) (fA : Fit A) : (FloatKind.f64.format.order a.lo A.lo == some Ordering.lt) = false := by
  rw [order_lt a.lo A.lo i.fit.lo fA.lo i.fit.rlo fA.rlo]; have := i.lo; exact decide_eq_false (by omega)
theorem gt_in {a A : Res} (i : In a A) (fA : Fit A) : (FloatKind.f64.format.order a.hi A.hi == some Ordering.gt) = false := by
  rw [order_gt a.hi A.hi i.fit.hi fA.hi i.fit.rhi fA.rhi]; have := i.hi; exact decide_eq_false (by omega)
theorem right_in {a : Res} (f : Fit a) (w : World) : Calls Tryz.prog 31 #[.agg #[.float .f64 a.lo, .float .f64 a.hi]] w fun r w' => r = .returned (.bool true) ∧ Below w.heap.size w w' := by
  have h := ivRight_any a.lo a.hi w f.lo f.hi
  rw [f.iv] at h
  exact h
end Go.Proofs.YtoiaefgpegiieaaGreat

namespace Go.Proofs.YtoiaefgpegiieaaGreat
open Go.RowKit
attribute [local go_sem] run_store_float

theorem near_between {s : Nat} {T : Int} {c c' r : Nat} {e e' : Int} (hs : 0 < s) (hD : Down s T c e) (hU : Up s T c' e') (hB : Beside s T r) {x0 y0 : Nat} (lx : x0 < 18446744073709551616) (rx : rightB x0 = true) (hx : val x0 * (s : Int) ≤ T) (ly : y0 < 18446744073709551616) (ry : rightB y0 = true) (hy : T ≤ val y0 * (s : Int)) :
    r < 18446744073709551616 ∧ rung r < 9218868437227405312 ∧ val x0 ≤ val r ∧ val r ≤ val y0 := by
  have hs' : (0 : Int) < (s : Int) := by omega
  rcases hD with ⟨d0, d1, d2, d3, d4⟩ | ⟨_, _, d3⟩
  · rcases hU with ⟨u0, u1, u2, u3, u4⟩ | ⟨_, _, u3⟩
    · obtain ⟨b1, b2, b3⟩ := hB c c' (Or.inl ⟨rfl, d1, d2, d3, d4⟩) (Or.inl ⟨rfl, u1, u2, u3, u4⟩)
      have h1 := d4 x0 lx rx hx
      have h2 := u4 y0 ly ry hy
      have h3 : val c ≤ val y0 := Int.le_of_mul_le_mul_right (Int.le_trans d3 hy) hs'
      have h4 : val x0 ≤ val c' := Int.le_of_mul_le_mul_right (Int.le_trans hx u3) hs'
      rcases b3 with g | g
      · exact ⟨b1, b2, by omega, by omega⟩
      · exact ⟨b1, b2, by omega, by omega⟩
    · have := u3 y0 ly ry; omega
  · have := d3 x0 lx rx; omega

theorem word_right {r : Nat} (h : r < 9223372036854775808) (hr : rung r < 9218868437227405312) : rightB r = true := by
  unfold rightB
  unfold rung at hr
  rw [decide_eq_true hr, decide_eq_false (by omega : ¬ r = 9223372036854775808)]; rfl
theorem plain_sgn {x : Nat} (lx : x < 18446744073709551616) (rx : rightB x = true) (h : 0 ≤ val x) : sgnB x = false := by
  cases hs : sgnB x
  · rfl
  · have p := neg_rung lx rx hs
    have e := val_negs hs
    omega
theorem sgn_lt {x : Nat} (h : sgnB x = false) : x < 9223372036854775808 := by
  unfold sgnB at h
  have := of_decide_eq_false h
  omega
theorem near_pos (mag : Nat) (place : Int) (hp : -6000 ≤ place) : Ieee.double.nearest false mag place < 9223372036854775808 := by
  have key : ∀ R, Ieee.double.word false (min R 9218868437227405312) < 9223372036854775808 := fun R => by
    unfold Ieee.Format.word
    simp only [Bool.false_eq_true, if_false]
    omega
  by_cases h0 : mag = 0
  · subst h0
    have e : Ieee.double.nearest false 0 place = Ieee.double.word false (min 0 9218868437227405312) := by
      unfold Ieee.Format.nearest; rw [if_pos rfl]; rfl
    rw [e]; exact key 0
  · obtain ⟨R, e, _, _⟩ := near_rung false mag place h0 hp
    rw [e]; exact key R

theorem mul_near {a b y0 : Nat} (ha : a < 18446744073709551616) (hb : b < 18446744073709551616) (ra : rightB a = true) (rb : rightB b = true) (pa : 0 ≤ val a) (pb : 0 ≤ val b) (ly : y0 < 18446744073709551616) (ry : rightB y0 = true) (hy : val a * val b ≤ val y0 * ((2 ^ sq : Nat) : Int)) :
    ∃ r, floatBits .mul .f64 a b = some r ∧ r < 18446744073709551616 ∧ rightB r = true ∧ 0 ≤ val r ∧ val r ≤ val y0 := by
  have xa := expo_in a ra
  have xb := expo_in b rb
  have sa := plain_sgn ha ra pa
  have sb := plain_sgn hb rb pb
  obtain ⟨r, h1, h2⟩ := mul_beside a b ha hb ra rb
  have e : r = Ieee.double.nearest false (mant a * mant b) (expo a + expo b) := by
    have k : floatBits .mul .f64 a b = some (Ieee.double.nearest (sgnB a ^^ sgnB b) (mant a * mant b) (expo a + expo b)) := by
      show (((Ieee.double.read a).product (Ieee.double.read b)).map Ieee.double.write) = _
      rw [read_num a ha (right_rung a ra), read_num b hb (right_rung b rb)]
      rfl
    rw [k, sa, sb] at h1
    exact (Option.some.inj h1).symm
  obtain ⟨n1, n2, n3, n4⟩ := near_between (x0 := 0) (Nat.two_pow_pos _) ((mul_dir a b ra rb false).1 rfl) ((mul_dir a b ra rb true).2 rfl) h2 (by decide) (by decide) (by rw [show val 0 = 0 from by decide +kernel, Int.zero_mul]; exact Int.mul_nonneg pa pb) ly ry hy
  rw [show val 0 = 0 from by decide +kernel] at n3
  exact ⟨r, h1, n1, word_right (by rw [e]; exact near_pos _ _ (by omega)) n2, n3, n4⟩

theorem sum_plain (s t : Bool) (a b : Nat) (xa : -1074 ≤ expo a) (xb : -1074 ≤ expo b) (hst : (s && t) = false) (hT : 0 ≤ sg s (steps (rung a)) + sg t (steps (rung b))) (r : Nat)
    (h : ((Ieee.Datum.number s (mant a) (expo a)).sum (.number t (mant b) (expo b))).map Ieee.double.write = some r) : r < 9223372036854775808 := by
  obtain ⟨base, hbase⟩ : ∃ base : Int, base = min (expo a) (expo b) := ⟨_, rfl⟩
  obtain ⟨total, htot⟩ : ∃ total : Int, total = Ieee.signed s (mant a) (expo a - base).toNat + Ieee.signed t (mant b) (expo b - base).toNat := ⟨_, rfl⟩
  have e1 : sg s (steps (rung a)) = Ieee.signed s (mant a) (expo a - base).toNat * ((2 ^ (base + 1074).toNat : Nat) : Int) := by
    rw [← signed_mul, show (expo a - base).toNat + (base + 1074).toNat = (expo a + 1074).toNat by omega]
    unfold Ieee.signed sg; rw [steps_parts, Nat.shiftLeft_eq]
  have e2 : sg t (steps (rung b)) = Ieee.signed t (mant b) (expo b - base).toNat * ((2 ^ (base + 1074).toNat : Nat) : Int) := by
    rw [← signed_mul, show (expo b - base).toNat + (base + 1074).toNat = (expo b + 1074).toNat by omega]
    unfold Ieee.signed sg; rw [steps_parts, Nat.shiftLeft_eq]
  have eT : sg s (steps (rung a)) + sg t (steps (rung b)) = total * ((2 ^ (base + 1074).toNat : Nat) : Int) := by
    rw [e1, e2, htot, Int.add_mul]
  have hp : (0 : Int) < ((2 ^ (base + 1074).toNat : Nat) : Int) := Int.natCast_pos.2 (Nat.two_pow_pos _)
  have h0 : 0 ≤ total := by
    rw [eT] at hT
    exact Int.le_of_mul_le_mul_right (by rw [Int.zero_mul]; exact hT) hp
  have k : ((Ieee.Datum.number s (mant a) (expo a)).sum (.number t (mant b) (expo b))).map Ieee.double.write = some (Ieee.double.nearest (if total = 0 then s && t else decide (total < 0)) total.natAbs base) := by
    unfold Ieee.Datum.sum
    simp only [← hbase, ← htot]
    rfl
  rw [k] at h
  have e : (if total = 0 then s && t else decide (total < 0)) = false := by
    by_cases z : total = 0
    · rw [if_pos z]; exact hst
    · rw [if_neg z]; exact decide_eq_false (by omega)
  rw [e] at h
  rw [← Option.some.inj h]
  exact near_pos _ _ (by omega)

theorem frac_word (n : Nat) (hn : n < 4294967296) : ∃ f, floatBits .quo .f64 (floatOfInt .f64 (n : Int)) 4751297606873776128 = some f ∧ f < 18446744073709551616 ∧ rightB f = true ∧ 0 ≤ val f ∧ val f ≤ val u1 := by
  by_cases h0 : n = 0
  · subst h0
    exact ⟨0, by decide +kernel, by decide, by decide, by decide +kernel, by decide +kernel⟩
  obtain ⟨f1, f2⟩ := from_int n (by omega)
  obtain ⟨a1, a2, a3, a4, a5⟩ := pos_facts _ f1
  obtain ⟨r, hr, hB⟩ := div_beside (FloatKind.f64.nearest (n : Int)) 4751297606873776128 a1 (by decide) a2 (by decide) (by decide)
  have hb : steps (rung 4751297606873776128) = 4294967295 * 2 ^ sq := by decide +kernel
  have hs : (sgnB 4751297606873776128) = false := by decide
  have dd := div_dir (FloatKind.f64.nearest (n : Int)) 4751297606873776128 a2 (by decide) (by decide) (by decide)
  have d1 := (dd false).1 rfl
  have d2 := (dd true).2 rfl
  rw [hb, hs, a3, a4, f2] at hB d1 d2
  have hT : sg (!(false == false)) (n * 2 ^ sq * 2 ^ sq) = ((n * 2 ^ sq * 2 ^ sq : Nat) : Int) := rfl
  rw [hT] at hB d1 d2
  have eL : val 4458563631096791040 * (4294967295 : Int) ≤ ((2 ^ sq : Nat) : Int) ∧ 0 < val 4458563631096791040 := by decide +kernel
  have eU : val u1 = ((2 ^ sq : Nat) : Int) := by decide +kernel
  have hp : 0 < 2 ^ sq := Nat.two_pow_pos _
  generalize 2 ^ sq = P at *
  obtain ⟨n1, n2, n3, n4⟩ := near_between (x0 := 4458563631096791040) (y0 := u1) (by omega) d1 d2 hB (by decide) (by decide) (by
      have e1 : val 4458563631096791040 * ((4294967295 * P : Nat) : Int) = (val 4458563631096791040 * 4294967295) * (P : Int) := by rw [Int.natCast_mul, ← Int.mul_assoc]; rfl
      have e2 : ((n * P * P : Nat) : Int) = ((n * P : Nat) : Int) * (P : Int) := Int.natCast_mul _ _
      rw [e1, e2]
      refine Int.mul_le_mul_of_nonneg_right ?_ (by omega)
      have : (P : Int) ≤ ((n * P : Nat) : Int) := by
        have : 1 * P ≤ n * P := Nat.mul_le_mul_right _ (by omega)
        omega
      omega) (by decide) (by decide) (by
      rw [eU, ← Int.natCast_mul]
      have : n * P * P ≤ P * (4294967295 * P) := by
        rw [← Nat.mul_assoc, Nat.mul_comm P 4294967295]
        exact Nat.mul_le_mul_right _ (Nat.mul_le_mul_right _ (by omega))
      omega)
  have hne : 0 < val r := by omega
  have lt : r < 9223372036854775808 := sgn_lt (by
    cases hs : sgnB r
    · rfl
    · have e := val_negs hs; omega)
  exact ⟨r, hr, n1, word_right lt n2, by omega, n4⟩

set_option maxRecDepth 100000 in
theorem frac_walk (n f : Nat) (w : World) (hq : ∀ w, (binOp .quo 22 (.float .f64 (floatOfInt .f64 (n : Int))) (.float .f64 4751297606873776128)).run Tryz.prog w = .ok (.float .f64 f) w) :
    Calls Tryz.prog 54 #[.int .u32 n] w fun r w' => r = .returned (.float .f64 f) ∧ w = w' := by
  go_enter Tryz.func54, Tryz.ntmps54
  go_wp2
  go_ret
  exact ⟨rfl, rfl⟩

set_option maxRecDepth 100000 in
theorem between6_walk (lo hi n f d m x : Nat) (g : Bool) (w : World) (cF : Hid (∀ w, Calls Tryz.prog 54 #[.int .u32 n] w fun r w' => r = .returned (.float .f64 f) ∧ w = w'))
    (h1 : ∀ w, (binOp .sub 22 (.float .f64 hi) (.float .f64 lo)).run Tryz.prog w = .ok (.float .f64 d) w)
    (h2 : ∀ w, (binOp .mul 22 (.float .f64 d) (.float .f64 f)).run Tryz.prog w = .ok (.float .f64 m) w)
    (h3 : ∀ w, (binOp .add 22 (.float .f64 lo) (.float .f64 m)).run Tryz.prog w = .ok (.float .f64 x) w)
    (o1 : (FloatKind.f64.format.order x lo == some Ordering.lt) = false) (o2 : (FloatKind.f64.format.order x hi == some Ordering.gt) = g) :
    Calls Tryz.prog 30 #[.float .f64 lo, .float .f64 hi, .int .u32 n] w fun r w' => r = .returned (.float .f64 (if g = true then hi else x)) ∧ w = w' := by
  go_enter Tryz.func30, Tryz.ntmps30
  go_wp2_with fail
  refine (cF.out _).mono ?_
  rintro r w1 ⟨rfl, rfl⟩
  cases g
  · go_wp2
    go_ret
    exact ⟨rfl, rfl⟩
  · go_wp2
    go_ret
    exact ⟨rfl, rfl⟩

structure Amid (lo hi x : Nat) : Prop where
  lt : x < 18446744073709551616
  right : rightB x = true
  lo : val lo ≤ val x
  hi : val x ≤ val hi
set_option maxRecDepth 100000 in
theorem span_walk (lo hi p q a b : Nat) (g : Bool) (w : World)
    (c1 : Hid (∀ w, Calls Tryz.prog 30 #[.float .f64 lo, .float .f64 hi, .int .u32 p] w fun r w' => r = .returned (.float .f64 a) ∧ w = w'))
    (c2 : Hid (∀ w, Calls Tryz.prog 30 #[.float .f64 lo, .float .f64 hi, .int .u32 q] w fun r w' => r = .returned (.float .f64 b) ∧ w = w'))
    (o : (FloatKind.f64.format.order a b == some Ordering.gt) = g) :
    Calls Tryz.prog 12 #[.float .f64 lo, .float .f64 hi, .int .u32 p, .int .u32 q] w fun r w' => r = .returned (.agg #[.float .f64 (if g = true then b else a), .float .f64 (if g = true then a else b)]) ∧ Below w.heap.size w w' := by
  have M := Lib.hid ((Own.nil w).made #[.float .f64 0, .float .f64 0] 24)
  have kc := (M.out.nth 0 rfl).2.1
  have kf := (M.out.nth 0 rfl).2.2
  go_enter Tryz.func12, Tryz.ntmps12
  go_wp2_with fail
  refine (c1.out _).mono ?_
  rintro r w1 ⟨rfl, rfl⟩
  go_wp2_with fail
  refine (c2.out _).mono ?_
  rintro r w1 ⟨rfl, rfl⟩
  revert M kc kf
  generalize w.alloc (.cells #[.float .f64 0, .float .f64 0] 24) = W
  intro M kc kf
  cases g
  · replace M := Lib.hid (M.out.set2 0 rfl (.float .f64 a) (.float .f64 b))
    go_wp2
    obtain ⟨f1, f2⟩ := (M.out.nth 0 rfl).two
    exact bodyPost_ret (v := .agg #[.float .f64 a, .float .f64 b]) (by simp [results, Tryz.results12, go_sem, f1, f2]) rfl ⟨rfl, M.out.base⟩
  · replace M := Lib.hid (M.out.set2 0 rfl (.float .f64 b) (.float .f64 a))
    go_wp2
    obtain ⟨f1, f2⟩ := (M.out.nth 0 rfl).two
    exact bodyPost_ret (v := .agg #[.float .f64 b, .float .f64 a]) (by simp [results, Tryz.results12, go_sem, f1, f2]) rfl ⟨rfl, M.out.base⟩
end Go.Proofs.YtoiaefgpegiieaaGreat

namespace Go.Proofs.YtoiaefgpegiieaaGreat
open Go.RowKit
attribute [local go_sem] run_store_float

set_option maxRecDepth 100000 in
theorem point_walk (x : Nat) (w : World) (h : ∀ w, (binOp .add 22 (.float .f64 x) (.float .f64 0)).run Tryz.prog w = .ok (.float .f64 x) w) :
    Calls Tryz.prog 53 #[.float .f64 x] w fun r w' => r = .returned (.agg #[.float .f64 x, .float .f64 x]) ∧ Below w.heap.size w w' := by
  have M := Lib.hid ((Own.nil w).made #[.float .f64 x, .float .f64 x] 24)
  go_enter Tryz.func53, Tryz.ntmps53
  go_wp2
  exact bodyPost_ret (v := .agg #[.float .f64 x, .float .f64 x]) (by simp [results, Tryz.results53, go_sem]) rfl ⟨rfl, M.out.base⟩

end Go.Proofs.YtoiaefgpegiieaaGreat
