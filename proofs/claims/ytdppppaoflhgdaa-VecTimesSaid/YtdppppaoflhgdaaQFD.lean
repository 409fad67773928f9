
/- Law file 6: its function awake answers true. -/
import Derived.Test.YtdppppaoflhgdaaQFA
import Derived.Test.YtdppppaoflhgdaaQFB
namespace Go.Proofs.Ytdppppaoflhgdaa
open Go.RowKit


theorem calc_sqrt {a : Res} (fa : Fit a) (fr : Fit (sqrtR a)) (pb : Nat) : Calc1 35 pb a.lo a.hi (sqrtR a).lo (sqrtR a).hi := fun v h => by
  have c := cSqrt_any 0 a.lo a.hi pb 0 v fa.lo fa.hi h.pc h.pf
  rw [step_one fa] at c
  exact told_none fr.e c
theorem div_told {a b : Res} (fa : Fit a) (fb : Fit b) (pb : Nat) : CD2 33 pb 0 (divR a b).e a.lo a.hi b.lo b.hi (divR a b).lo (divR a b).hi := fun v h => by
  have c := cDiv_any 0 a.lo a.hi b.lo b.hi pb 0 v fa.lo fa.hi fb.lo fb.hi h.pc h.pf
  rw [step_two fa fb] at c
  exact c.mono fun _ _ ⟨h1, h2⟩ => ⟨h1, h2⟩
theorem div_nil {a b : Res} (fa : Fit a) (fb : Fit b) (h : (divR a b).e ≠ 0) : (divR a b).lo = 0 ∧ (divR a b).hi = 0 := by
  have n : Nil0 (askR 0 a.lo a.hi b.lo b.hi 3) := ask_nil 0 a.lo a.hi b.lo b.hi 3 (by decide)
  have e : askR 0 a.lo a.hi b.lo b.hi 3 = divR a b := by
    show stepI 0 (ivR a.lo a.hi && ivR b.lo b.hi) (divR a b) = divR a b
    exact step_two fa fb _
  rw [e] at n
  exact n h
/-- What is within the limits passes the check. -/
theorem ok_in {a A : Res} (i : In a A) : okB A.lo A.hi a.lo a.hi = true := by
  unfold okB
  rw [decide_eq_true i.lo, decide_eq_true i.hi]; rfl
theorem lt_in {a A : Res} (i : In a A) (fA : Fit A) : (FloatKind.f64.format.order a.lo A.lo == some Ordering.lt) = false := by
  rw [order_lt a.lo A.lo i.fit.lo fA.lo i.fit.rlo fA.rlo]; have := i.lo; exact decide_eq_false (by omega)
theorem gt_in {a A : Res} (i : In a A) (fA : Fit A) : (FloatKind.f64.format.order a.hi A.hi == some Ordering.gt) = false := by
  rw [order_gt a.hi A.hi i.fit.hi fA.hi i.fit.rhi fA.rhi]; have := i.hi; exact decide_eq_false (by omega)
theorem right_in {a : Res} (f : Fit a) (w : World) : Calls Try.prog 77 #[.agg #[.float .f64 a.lo, .float .f64 a.hi]] w fun r w' => r = .returned (.bool true) ∧ Below w.heap.size w w' := by
  have h := ivRight_any a.lo a.hi w f.lo f.hi
  rw [f.iv] at h
  exact h
theorem c_fit : Fit bigC := .of (by decide +kernel)
theorem n_fit : Fit bigN := .of (by decide +kernel)
theorem m_fit : Fit bigM := .of (by decide +kernel)
theorem ne_mul {e : Int} (he : e ≠ 0) {al ah bl bh : Nat} (la : al < 18446744073709551616) (ha : ah < 18446744073709551616) (lb : bl < 18446744073709551616) (hb : bh < 18446744073709551616) (pb : Nat) (v : World) (h : Has1 v (pb, #[.int .i64 e])) :
    Calls Try.prog 18 #[.pointer (some ⟨pb, 0, none⟩), .agg #[.float .f64 al, .float .f64 ah], .agg #[.float .f64 bl, .float .f64 bh]] v fun r w' => r = .returned (.agg #[.float .f64 0, .float .f64 0]) ∧ Put ⟨pb, 0, none⟩ (.int .i64 e) v w' := by
  have c := cMul_any e al ah bl bh pb 0 v la ha lb hb h.pc h.pf
  rw [stepI_err _ _ _ (by simpa using he)] at c
  exact c.mono fun _ _ ⟨h1, h2⟩ => ⟨h1, h2⟩
theorem ne_add {e : Int} (he : e ≠ 0) {al ah bl bh : Nat} (la : al < 18446744073709551616) (ha : ah < 18446744073709551616) (lb : bl < 18446744073709551616) (hb : bh < 18446744073709551616) (pb : Nat) (v : World) (h : Has1 v (pb, #[.int .i64 e])) :
    Calls Try.prog 23 #[.pointer (some ⟨pb, 0, none⟩), .agg #[.float .f64 al, .float .f64 ah], .agg #[.float .f64 bl, .float .f64 bh]] v fun r w' => r = .returned (.agg #[.float .f64 0, .float .f64 0]) ∧ Put ⟨pb, 0, none⟩ (.int .i64 e) v w' := by
  have c := cAdd_any e al ah bl bh pb 0 v la ha lb hb h.pc h.pf
  rw [stepI_err _ _ _ (by simpa using he)] at c
  exact c.mono fun _ _ ⟨h1, h2⟩ => ⟨h1, h2⟩

end Go.Proofs.Ytdppppaoflhgdaa

namespace Go.Proofs.Ytdppppaoflhgdaa
open Go.RowKit
attribute [local go_sem] run_store_float

/-- What is nearest lies between numbers between which the real one lies. -/
theorem near_between {s : Nat} {T : Int} {c c' r : Nat} {e e' : Int} (hs : 0 < s) (hD : Down s T c e) (hU : Up s T c' e') (hB : Beside s T r) {x0 y0 : Nat} (lx : x0 < 18446744073709551616) (rx : rightB x0 = true) (hx : val x0 * (s : Int) ≤ T) (ly : y0 < 18446744073709551616) (ry : rightB y0 = true) (hy : T ≤ val y0 * (s : Int)) :
    r < 18446744073709551616 ∧ rung r < 9218868437227405312 ∧ val x0 ≤ val r ∧ val r ≤ val y0 := by
  have hs' : (0 : Int) < (s : Int) := by omega
  rcases hD with ⟨d0, d1, d2, d3, d4⟩ | ⟨_, _, d3⟩
  · rcases hU with ⟨u0, u1, u2, u3, u4⟩ | ⟨_, _, u3⟩
    · obtain ⟨b1, b2, b3⟩ := hB c c' (Or.inl ⟨rfl, d1, d2, d3, d4⟩) (Or.inl ⟨rfl, u1, u2, u3, u4⟩)
      have h1 := d4 x0 lx rx hx
      have h2 := u4 y0 ly ry hy
      have h3 : val c ≤ val y0 := Int.le_of_mul_le_mul_right (Int.le_trans d3 hy) hs'
      have h4 : val x0 ≤ val c' := Int.le_of_mul_le_mul_right (Int.le_trans hx u3) hs'
      rcases b3 with g | g
      · exact ⟨b1, b2, by omega, by omega⟩
      · exact ⟨b1, b2, by omega, by omega⟩
    · have := u3 y0 ly ry; omega
  · have := d3 x0 lx rx; omega

theorem word_right {r : Nat} (h : r < 9223372036854775808) (hr : rung r < 9218868437227405312) : rightB r = true := by
  unfold rightB
  unfold rung at hr
  rw [decide_eq_true hr, decide_eq_false (by omega : ¬ r = 9223372036854775808)]; rfl
theorem plain_sgn {x : Nat} (lx : x < 18446744073709551616) (rx : rightB x = true) (h : 0 ≤ val x) : sgnB x = false := by
  cases hs : sgnB x
  · rfl
  · have p := neg_rung lx rx hs
    have e := val_negs hs
    omega
theorem sgn_lt {x : Nat} (h : sgnB x = false) : x < 9223372036854775808 := by
  unfold sgnB at h
  have := of_decide_eq_false h
  omega
theorem near_pos (mag : Nat) (place : Int) (hp : -6000 ≤ place) : Ieee.double.nearest false mag place < 9223372036854775808 := by
  have key : ∀ R, Ieee.double.word false (min R 9218868437227405312) < 9223372036854775808 := fun R => by
    unfold Ieee.Format.word
    simp only [Bool.false_eq_true, if_false]
    omega
  by_cases h0 : mag = 0
  · subst h0
    have e : Ieee.double.nearest false 0 place = Ieee.double.word false (min 0 9218868437227405312) := by
      unfold Ieee.Format.nearest; rw [if_pos rfl]; rfl
    rw [e]; exact key 0
  · obtain ⟨R, e, _, _⟩ := near_rung false mag place h0 hp
    rw [e]; exact key R

/-- Sums, differences, products of numbers that are not below 0. -/
theorem mul_near {a b y0 : Nat} (ha : a < 18446744073709551616) (hb : b < 18446744073709551616) (ra : rightB a = true) (rb : rightB b = true) (pa : 0 ≤ val a) (pb : 0 ≤ val b) (ly : y0 < 18446744073709551616) (ry : rightB y0 = true) (hy : val a * val b ≤ val y0 * ((2 ^ sq : Nat) : Int)) :
    ∃ r, floatBits .mul .f64 a b = some r ∧ r < 18446744073709551616 ∧ rightB r = true ∧ 0 ≤ val r ∧ val r ≤ val y0 := by
  have xa := expo_in a ra
  have xb := expo_in b rb
  have sa := plain_sgn ha ra pa
  have sb := plain_sgn hb rb pb
  obtain ⟨r, h1, h2⟩ := mul_beside a b ha hb ra rb
  have e : r = Ieee.double.nearest false (mant a * mant b) (expo a + expo b) := by
    have k : floatBits .mul .f64 a b = some (Ieee.double.nearest (sgnB a ^^ sgnB b) (mant a * mant b) (expo a + expo b)) := by
      show (((Ieee.double.read a).product (Ieee.double.read b)).map Ieee.double.write) = _
      rw [read_num a ha (right_rung a ra), read_num b hb (right_rung b rb)]
      rfl
    rw [k, sa, sb] at h1
    exact (Option.some.inj h1).symm
  obtain ⟨n1, n2, n3, n4⟩ := near_between (x0 := 0) (Nat.two_pow_pos _) ((mul_dir a b ra rb false).1 rfl) ((mul_dir a b ra rb true).2 rfl) h2 (by decide) (by decide) (by rw [show val 0 = 0 from by decide +kernel, Int.zero_mul]; exact Int.mul_nonneg pa pb) ly ry hy
  rw [show val 0 = 0 from by decide +kernel] at n3
  exact ⟨r, h1, n1, word_right (by rw [e]; exact near_pos _ _ (by omega)) n2, n3, n4⟩

theorem sum_plain (s t : Bool) (a b : Nat) (xa : -1074 ≤ expo a) (xb : -1074 ≤ expo b) (hst : (s && t) = false) (hT : 0 ≤ sg s (steps (rung a)) + sg t (steps (rung b))) (r : Nat)
    (h : ((Ieee.Datum.number s (mant a) (expo a)).sum (.number t (mant b) (expo b))).map Ieee.double.write = some r) : r < 9223372036854775808 := by
  obtain ⟨base, hbase⟩ : ∃ base : Int, base = min (expo a) (expo b) := ⟨_, rfl⟩
  obtain ⟨total, htot⟩ : ∃ total : Int, total = Ieee.signed s (mant a) (expo a - base).toNat + Ieee.signed t (mant b) (expo b - base).toNat := ⟨_, rfl⟩
  have e1 : sg s (steps (rung a)) = Ieee.signed s (mant a) (expo a - base).toNat * ((2 ^ (base + 1074).toNat : Nat) : Int) := by
    rw [← signed_mul, show (expo a - base).toNat + (base + 1074).toNat = (expo a + 1074).toNat by omega]
    unfold Ieee.signed sg; rw [steps_parts, Nat.shiftLeft_eq]
  have e2 : sg t (steps (rung b)) = Ieee.signed t (mant b) (expo b - base).toNat * ((2 ^ (base + 1074).toNat : Nat) : Int) := by
    rw [← signed_mul, show (expo b - base).toNat + (base + 1074).toNat = (expo b + 1074).toNat by omega]
    unfold Ieee.signed sg; rw [steps_parts, Nat.shiftLeft_eq]
  have eT : sg s (steps (rung a)) + sg t (steps (rung b)) = total * ((2 ^ (base + 1074).toNat : Nat) : Int) := by
    rw [e1, e2, htot, Int.add_mul]
  have hp : (0 : Int) < ((2 ^ (base + 1074).toNat : Nat) : Int) := Int.natCast_pos.2 (Nat.two_pow_pos _)
  have h0 : 0 ≤ total := by
    rw [eT] at hT
    exact Int.le_of_mul_le_mul_right (by rw [Int.zero_mul]; exact hT) hp
  have k : ((Ieee.Datum.number s (mant a) (expo a)).sum (.number t (mant b) (expo b))).map Ieee.double.write = some (Ieee.double.nearest (if total = 0 then s && t else decide (total < 0)) total.natAbs base) := by
    unfold Ieee.Datum.sum
    simp only [← hbase, ← htot]
    rfl
  rw [k] at h
  have e : (if total = 0 then s && t else decide (total < 0)) = false := by
    by_cases z : total = 0
    · rw [if_pos z]; exact hst
    · rw [if_neg z]; exact decide_eq_false (by omega)
  rw [e] at h
  rw [← Option.some.inj h]
  exact near_pos _ _ (by omega)

theorem add_near {a b y0 : Nat} (ha : a < 18446744073709551616) (hb : b < 18446744073709551616) (ra : rightB a = true) (rb : rightB b = true) (pa : 0 ≤ val a) (pb : 0 ≤ val b) (ly : y0 < 18446744073709551616) (ry : rightB y0 = true) (hy : val a + val b ≤ val y0) :
    ∃ r, floatBits .add .f64 a b = some r ∧ r < 18446744073709551616 ∧ rightB r = true ∧ val a ≤ val r ∧ val r ≤ val y0 := by
  have sa := plain_sgn ha ra pa
  have sb := plain_sgn hb rb pb
  obtain ⟨r, h1, h2⟩ := add_beside a b ha hb ra rb
  obtain ⟨n1, n2, n3, n4⟩ := near_between (x0 := a) (by decide) (add_down a b ra rb) (add_up a b ra rb) h2 ha ra (by omega) ly ry (by omega)
  have h3 : ((Ieee.double.read a).sum (Ieee.double.read b)).map Ieee.double.write = some r := h1
  rw [read_num a ha (right_rung a ra), read_num b hb (right_rung b rb)] at h3
  exact ⟨r, h1, n1, word_right (sum_plain _ _ a b (expo_in a ra).1 (expo_in b rb).1 (by rw [sa]; rfl) (by rw [← val_sg, ← val_sg]; omega) r h3) n2, n3, n4⟩
theorem sub_near {a b : Nat} (ha : a < 18446744073709551616) (hb : b < 18446744073709551616) (ra : rightB a = true) (rb : rightB b = true) (pb : 0 ≤ val b) (hab : val b ≤ val a) :
    ∃ r, floatBits .sub .f64 a b = some r ∧ r < 18446744073709551616 ∧ rightB r = true ∧ 0 ≤ val r ∧ val r ≤ val a := by
  have sa := plain_sgn ha ra (by omega)
  have sb := plain_sgn hb rb pb
  obtain ⟨r, h1, h2⟩ := sub_beside a b ha hb ra rb
  obtain ⟨n1, n2, n3, n4⟩ := near_between (x0 := 0) (y0 := a) (by decide) (sub_down a b ra rb) (sub_up a b ra rb) h2 (by decide) (by decide) (by rw [show val 0 = 0 from by decide +kernel]; omega) ha ra (by omega)
  rw [show val 0 = 0 from by decide +kernel] at n3
  have h3 : ((Ieee.double.read a).sum (Ieee.double.read b).opposite).map Ieee.double.write = some r := h1
  rw [read_num a ha (right_rung a ra), read_num b hb (right_rung b rb)] at h3
  exact ⟨r, h1, n1, word_right (sum_plain (sgnB a) (!sgnB b) a b (expo_in a ra).1 (expo_in b rb).1 (by rw [sa]; rfl) (by rw [neg_sg, ← val_sg, ← val_sg]; omega) r h3) n2, n3, n4⟩

/-- Frac's word. -/
theorem frac_word (n : Nat) (hn : n < 4294967296) : ∃ f, floatBits .quo .f64 (floatOfInt .f64 (n : Int)) 4751297606873776128 = some f ∧ f < 18446744073709551616 ∧ rightB f = true ∧ 0 ≤ val f ∧ val f ≤ val u1 := by
  by_cases h0 : n = 0
  · subst h0
    exact ⟨0, by decide +kernel, by decide, by decide, by decide +kernel, by decide +kernel⟩
  obtain ⟨f1, f2⟩ := from_int n (by omega)
  obtain ⟨a1, a2, a3, a4, a5⟩ := pos_facts _ f1
  obtain ⟨r, hr, hB⟩ := div_beside (FloatKind.f64.nearest (n : Int)) 4751297606873776128 a1 (by decide) a2 (by decide) (by decide)
  have hb : steps (rung 4751297606873776128) = 4294967295 * 2 ^ sq := by decide +kernel
  have hs : (sgnB 4751297606873776128) = false := by decide
  have dd := div_dir (FloatKind.f64.nearest (n : Int)) 4751297606873776128 a2 (by decide) (by decide) (by decide)
  have d1 := (dd false).1 rfl
  have d2 := (dd true).2 rfl
  rw [hb, hs, a3, a4, f2] at hB d1 d2
  have hT : sg (!(false == false)) (n * 2 ^ sq * 2 ^ sq) = ((n * 2 ^ sq * 2 ^ sq : Nat) : Int) := rfl
  rw [hT] at hB d1 d2
  have eL : val 4458563631096791040 * (4294967295 : Int) ≤ ((2 ^ sq : Nat) : Int) ∧ 0 < val 4458563631096791040 := by decide +kernel
  have eU : val u1 = ((2 ^ sq : Nat) : Int) := by decide +kernel
  have hp : 0 < 2 ^ sq := Nat.two_pow_pos _
  generalize 2 ^ sq = P at *
  obtain ⟨n1, n2, n3, n4⟩ := near_between (x0 := 4458563631096791040) (y0 := u1) (by omega) d1 d2 hB (by decide) (by decide) (by
      have e1 : val 4458563631096791040 * ((4294967295 * P : Nat) : Int) = (val 4458563631096791040 * 4294967295) * (P : Int) := by rw [Int.natCast_mul, ← Int.mul_assoc]; rfl
      have e2 : ((n * P * P : Nat) : Int) = ((n * P : Nat) : Int) * (P : Int) := Int.natCast_mul _ _
      rw [e1, e2]
      refine Int.mul_le_mul_of_nonneg_right ?_ (by omega)
      have : (P : Int) ≤ ((n * P : Nat) : Int) := by
        have : 1 * P ≤ n * P := Nat.mul_le_mul_right _ (by omega)
        omega
      omega) (by decide) (by decide) (by
      rw [eU, ← Int.natCast_mul]
      have : n * P * P ≤ P * (4294967295 * P) := by
        rw [← Nat.mul_assoc, Nat.mul_comm P 4294967295]
        exact Nat.mul_le_mul_right _ (Nat.mul_le_mul_right _ (by omega))
      omega)
  have hne : 0 < val r := by omega
  have lt : r < 9223372036854775808 := sgn_lt (by
    cases hs : sgnB r
    · rfl
    · have e := val_negs hs; omega)
  exact ⟨r, hr, n1, word_right lt n2, by omega, n4⟩

set_option maxRecDepth 100000 in
theorem frac_walk (n f : Nat) (w : World) (hq : ∀ w, (binOp .quo 22 (.float .f64 (floatOfInt .f64 (n : Int))) (.float .f64 4751297606873776128)).run Try.prog w = .ok (.float .f64 f) w) :
    Calls Try.prog 51 #[.int .u32 n] w fun r w' => r = .returned (.float .f64 f) ∧ w = w' := by
  go_enter Try.func51, Try.ntmps51
  go_wp2
  go_ret
  exact ⟨rfl, rfl⟩

set_option maxRecDepth 100000 in
theorem between6_walk (lo hi n f d m x : Nat) (g : Bool) (w : World) (cF : Hid (∀ w, Calls Try.prog 51 #[.int .u32 n] w fun r w' => r = .returned (.float .f64 f) ∧ w = w'))
    (h1 : ∀ w, (binOp .sub 22 (.float .f64 hi) (.float .f64 lo)).run Try.prog w = .ok (.float .f64 d) w)
    (h2 : ∀ w, (binOp .mul 22 (.float .f64 d) (.float .f64 f)).run Try.prog w = .ok (.float .f64 m) w)
    (h3 : ∀ w, (binOp .add 22 (.float .f64 lo) (.float .f64 m)).run Try.prog w = .ok (.float .f64 x) w)
    (o1 : (FloatKind.f64.format.order x lo == some Ordering.lt) = false) (o2 : (FloatKind.f64.format.order x hi == some Ordering.gt) = g) :
    Calls Try.prog 16 #[.float .f64 lo, .float .f64 hi, .int .u32 n] w fun r w' => r = .returned (.float .f64 (if g = true then hi else x)) ∧ w = w' := by
  go_enter Try.func16, Try.ntmps16
  go_wp2_with fail
  refine (cF.out _).mono ?_
  rintro r w1 ⟨rfl, rfl⟩
  cases g
  · go_wp2
    go_ret
    exact ⟨rfl, rfl⟩
  · go_wp2
    go_ret
    exact ⟨rfl, rfl⟩

/-- A number from lo to hi. -/
structure Amid (lo hi x : Nat) : Prop where
  lt : x < 18446744073709551616
  right : rightB x = true
  lo : val lo ≤ val x
  hi : val x ≤ val hi
theorem between6_any (lo hi n : Nat) (hl : lo < 18446744073709551616) (hh : hi < 18446744073709551616) (rl : rightB lo = true) (rh : rightB hi = true) (h0 : 0 ≤ val lo) (hle : val lo ≤ val hi) (hs : val hi ≤ val 4625196817309499392) (hn : n < 4294967296) :
    ∃ x, Amid lo hi x ∧ ∀ w, Calls Try.prog 16 #[.float .f64 lo, .float .f64 hi, .int .u32 n] w fun r w' => r = .returned (.float .f64 x) ∧ w = w' := by
  obtain ⟨f, f1, f2, f3, f4, f5⟩ := frac_word n hn
  obtain ⟨d, d1, d2, d3, d4, d5⟩ := sub_near hh hl rh rl h0 hle
  have eU : val u1 = ((2 ^ sq : Nat) : Int) := by decide +kernel
  obtain ⟨m, m1, m2, m3, m4, m5⟩ := mul_near d2 f2 d3 f3 d4 f4 d2 d3 (by rw [← eU]; exact Int.mul_le_mul_of_nonneg_left f5 d4)
  have e32 : val 4629700416936869888 = val 4625196817309499392 + val 4625196817309499392 := by decide +kernel
  obtain ⟨x, x1, x2, x3, x4, x5⟩ := add_near hl m2 rl m3 h0 m4 (y0 := 4629700416936869888) (by decide) (by decide) (by omega)
  have o1 : (FloatKind.f64.format.order x lo == some Ordering.lt) = false := by
    rw [order_lt x lo x2 hl x3 rl]; exact decide_eq_false (by omega)
  have cw := fun w => between6_walk lo hi n f d m x _ w (Lib.hid fun w => frac_walk n f w (fun w => run_float_arith w .quo 22 .f64 _ _ _ f1)) (fun w => run_float_arith w .sub 22 .f64 _ _ _ d1) (fun w => run_float_arith w .mul 22 .f64 _ _ _ m1) (fun w => run_float_arith w .add 22 .f64 _ _ _ x1) o1 rfl
  refine ⟨_, ?_, cw⟩
  rw [order_gt x hi x2 hh x3 rh]
  by_cases g : val hi < val x
  · rw [decide_eq_true g, if_pos rfl]; exact ⟨hh, rh, hle, Int.le_refl _⟩
  · rw [decide_eq_false g, if_neg Bool.false_ne_true]; exact ⟨x2, x3, x4, by omega⟩

set_option maxRecDepth 100000 in
theorem span_walk (lo hi p q a b : Nat) (g : Bool) (w : World)
    (c1 : Hid (∀ w, Calls Try.prog 16 #[.float .f64 lo, .float .f64 hi, .int .u32 p] w fun r w' => r = .returned (.float .f64 a) ∧ w = w'))
    (c2 : Hid (∀ w, Calls Try.prog 16 #[.float .f64 lo, .float .f64 hi, .int .u32 q] w fun r w' => r = .returned (.float .f64 b) ∧ w = w'))
    (o : (FloatKind.f64.format.order a b == some Ordering.gt) = g) :
    Calls Try.prog 29 #[.float .f64 lo, .float .f64 hi, .int .u32 p, .int .u32 q] w fun r w' => r = .returned (.agg #[.float .f64 (if g = true then b else a), .float .f64 (if g = true then a else b)]) ∧ Below w.heap.size w w' := by
  have M := Lib.hid ((Own.nil w).made #[.float .f64 0, .float .f64 0] 27)
  have kc := (M.out.nth 0 rfl).2.1
  have kf := (M.out.nth 0 rfl).2.2
  go_enter Try.func29, Try.ntmps29
  go_wp2_with fail
  refine (c1.out _).mono ?_
  rintro r w1 ⟨rfl, rfl⟩
  go_wp2_with fail
  refine (c2.out _).mono ?_
  rintro r w1 ⟨rfl, rfl⟩
  revert M kc kf
  generalize w.alloc (.cells #[.float .f64 0, .float .f64 0] 27) = W
  intro M kc kf
  cases g
  · replace M := Lib.hid (M.out.set2 0 rfl (.float .f64 a) (.float .f64 b))
    go_wp2
    obtain ⟨f1, f2⟩ := (M.out.nth 0 rfl).two
    exact bodyPost_ret (v := .agg #[.float .f64 a, .float .f64 b]) (by simp [results, Try.results29, go_sem, f1, f2]) rfl ⟨rfl, M.out.base⟩
  · replace M := Lib.hid (M.out.set2 0 rfl (.float .f64 b) (.float .f64 a))
    go_wp2
    obtain ⟨f1, f2⟩ := (M.out.nth 0 rfl).two
    exact bodyPost_ret (v := .agg #[.float .f64 b, .float .f64 a]) (by simp [results, Try.results29, go_sem, f1, f2]) rfl ⟨rfl, M.out.base⟩
theorem span_any (lo hi p q : Nat) (hl : lo < 18446744073709551616) (hh : hi < 18446744073709551616) (rl : rightB lo = true) (rh : rightB hi = true) (h0 : 0 ≤ val lo) (hle : val lo ≤ val hi) (hs : val hi ≤ val 4625196817309499392) (hp : p < 4294967296) (hq : q < 4294967296) :
    ∃ a : Res, In a ⟨0, lo, hi⟩ ∧ ∀ w, Calls Try.prog 29 #[.float .f64 lo, .float .f64 hi, .int .u32 p, .int .u32 q] w fun r w' => r = .returned (.agg #[.float .f64 a.lo, .float .f64 a.hi]) ∧ Below w.heap.size w w' := by
  obtain ⟨a, a1, a2⟩ := between6_any lo hi p hl hh rl rh h0 hle hs hp
  obtain ⟨b, b1, b2⟩ := between6_any lo hi q hl hh rl rh h0 hle hs hq
  refine ⟨⟨0, if (FloatKind.f64.format.order a b == some Ordering.gt) = true then b else a, if (FloatKind.f64.format.order a b == some Ordering.gt) = true then a else b⟩, ?_, fun w => span_walk lo hi p q a b _ w (Lib.hid a2) (Lib.hid b2) rfl⟩
  have key : ∀ x y, Amid lo hi x → Amid lo hi y → val x ≤ val y → In ⟨0, x, y⟩ ⟨0, lo, hi⟩ := fun x y hx hy hxy =>
    ⟨⟨rfl, hx.lt, hy.lt, by show ivR x y = true; unfold ivR leB; rw [hx.right, hy.right, decide_eq_true hxy]; rfl⟩, hx.lo, hy.hi⟩
  rw [order_gt a b a1.lt b1.lt a1.right b1.right]
  by_cases g : val b < val a
  · rw [decide_eq_true g, if_pos rfl, if_pos rfl]; exact key b a b1 a1 (by omega)
  · rw [decide_eq_false g, if_neg Bool.false_ne_true, if_neg Bool.false_ne_true]; exact key a b a1 b1 (by omega)

end Go.Proofs.Ytdppppaoflhgdaa

namespace Go.Proofs.Ytdppppaoflhgdaa
open Go.RowKit
attribute [local go_sem] run_store_float

set_option maxRecDepth 100000 in
theorem point_walk (x : Nat) (w : World) (h : ∀ w, (binOp .add 22 (.float .f64 x) (.float .f64 0)).run Try.prog w = .ok (.float .f64 x) w) :
    Calls Try.prog 50 #[.float .f64 x] w fun r w' => r = .returned (.agg #[.float .f64 x, .float .f64 x]) ∧ Below w.heap.size w w' := by
  have M := Lib.hid ((Own.nil w).made #[.float .f64 x, .float .f64 x] 27)
  go_enter Try.func50, Try.ntmps50
  go_wp2
  exact bodyPost_ret (v := .agg #[.float .f64 x, .float .f64 x]) (by simp [results, Try.results50, go_sem]) rfl ⟨rfl, M.out.base⟩

abbrev leW (a b : Nat) : Bool := (FloatKind.f64.format.order a b == some Ordering.lt) || (FloatKind.f64.format.order a b == some Ordering.eq)
abbrev geW (a b : Nat) : Bool := (FloatKind.f64.format.order a b == some Ordering.gt) || (FloatKind.f64.format.order a b == some Ordering.eq)

theorem wd_sub {a b d : Nat} (h : (floatBits .sub .f64 a b).getD 0 = d) (hs : (floatBits .sub .f64 a b).isSome = true) (w : World) : (binOp .sub 22 (.float .f64 a) (.float .f64 b)).run Try.prog w = .ok (.float .f64 d) w :=
  run_float_arith w .sub 22 .f64 _ _ _ (by rw [← h]; cases k : floatBits .sub .f64 a b with | none => rw [k] at hs; cases hs | some y => rfl)
def oneI : Res := oneR 4607182418800017408
def halfI : Res := oneR 4609434218613702656
def nilI : Res := oneR 0
theorem in_of {a A : Res} (h : (fitB a && decide (val A.lo ≤ val a.lo) && decide (val a.hi ≤ val A.hi)) = true) : In a A := by
  simp only [Bool.and_eq_true, decide_eq_true_eq] at h
  exact ⟨.of h.1.1, h.1.2, h.2⟩
theorem one_C : In oneI bigC := in_of (by decide +kernel)
theorem nil_C : In nilI bigC := in_of (by decide +kernel)
theorem half_N : In halfI bigN := in_of (by decide +kernel)
theorem one_M : In oneI bigM := in_of (by decide +kernel)
theorem aw6_err : (Co.r33 oneI oneI oneI).e = 0 := by decide +kernel

end Go.Proofs.Ytdppppaoflhgdaa
