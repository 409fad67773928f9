/- What the claim stands on, part 8: DirF, RootW, DirG, Rnd, Val, AddM, DivR, Awake. -/
import Derived.Test.YtnaomilkgfkegaaPA5
import Derived.Test.YtnaomilkgfkegaaPA6
import Derived.Test.YtnaomilkgfkegaaPA1
import Derived.Test.YtnaomilkgfkegaaPA4
set_option maxHeartbeats 2000000
set_option maxRecDepth 100000
namespace Go.Proofs.Ytnaomilkgfkegaa
section
open Go.RowKit

theorem bset4 {B : Nat} {w w' : World} (h : Below B w w') (g : Nat) (hg : B ≤ g) (a b c d : Value) : Below B w ((((w'.setCell ⟨g, 0, none⟩ a).setCell ⟨g, 1, none⟩ b).setCell ⟨g, 2, none⟩ c).setCell ⟨g, 3, none⟩ d) :=
  (((h.setCell hg a).setCell hg b).setCell hg c).setCell hg d

theorem quotient_walk (s t : Bool) (m n la lb M N q r : Nat) (e f : Int) (w : World) (he0 : -3000 ≤ e) (he1 : e ≤ 3000) (hf0 : -3000 ≤ f) (hf1 : f ≤ 3000)
    (cA : Hid (∀ w, Calls Try.prog 87 #[.int .u64 m] w fun e w' => e = .returned (.int .i64 la) ∧ w = w'))
    (cB : Hid (∀ w, Calls Try.prog 87 #[.int .u64 n] w fun e w' => e = .returned (.int .i64 lb) ∧ w = w'))
    (cD : Hid (∀ w, Calls Try.prog 94 #[.int .u64 M, .int .u64 0, .int .u64 N] w fun e w' => e = .returned (.tuple #[.int .u64 q, .int .u64 r]) ∧ ∃ k, w' = w.drewN k))
    (hla : (la : Int) ≤ 64) (hla1 : 1 ≤ (la : Int)) (hlb : (lb : Int) ≤ 64)
    (hM : IntKind.u64.wrap ((m : Int) * 2 ^ (la - 1)) = M) (hN : IntKind.u64.wrap ((n : Int) * 2 ^ lb) = N) :
    Calls Try.prog 95 #[.agg #[.bool s, .int .u64 m, .int .i64 e], .agg #[.bool t, .int .u64 n, .int .i64 f]] w fun r' w' => r' = .returned (.agg #[.bool (!(s == t)), .int .u64 q, .int .u64 r, .int .i64 ((e - ((la : Int) - 1)) - (f - lb) - 128)]) ∧ Below w.heap.size w w' := by
  go_enter Try.func95, Try.ntmps95
  go_wp2_with fail
  refine (cA.out _).mono ?_
  rintro e1 w1 ⟨rfl, rfl⟩
  go_wp2_with fail
  refine (cB.out _).mono ?_
  rintro e1 w1 ⟨rfl, rfl⟩
  go_wp2_with fail
  go_quiet ((exact Calls.quiet_of (cD.out _)))
  go_wp2
  exact bodyPost_ret (v := .agg #[.bool (!(s == t)), .int .u64 q, .int .u64 r, .int .i64 ((e - ((la : Int) - 1)) - (f - lb) - 128)]) (by simp [results, Try.results95, go_sem]) rfl ⟨rfl, bset4 (Below.drewN (bel3 _ _ _ _) _) (w.heap.size + 1 + 1) (by omega) _ _ _ _⟩

def quoW (m n : Nat) : Nat := m * 2 ^ (lz64 m - 1) * 18446744073709551616 / (n * 2 ^ lz64 n) * 18446744073709551616 + m * 2 ^ (lz64 m - 1) * 18446744073709551616 % (n * 2 ^ lz64 n)
def quoX (m n : Nat) (e f : Int) : Int := (e - ((lz64 m : Int) - 1)) - (f - (lz64 n : Int)) - 128

theorem lz_ge (m : Nat) (hm : m < 9007199254740992) : 11 ≤ lz64 m := by
  unfold lz64
  split
  · omega
  · rename_i h
    have : m.log2 < 53 := (Nat.log2_lt h).2 hm
    omega
theorem lz_le64 (m : Nat) : lz64 m ≤ 64 := by unfold lz64; split <;> omega

theorem num_lt (m : Nat) (hm : m < 9007199254740992) : m * 2 ^ (lz64 m - 1) < 9223372036854775808 := by
  by_cases h : m = 0
  · rw [h, Nat.zero_mul]; decide
  · have h1 := lz_ge m hm
    have h2 := (lz_shift m h (by omega)).2
    have e : 2 ^ lz64 m = 2 ^ (lz64 m - 1) * 2 := by rw [← Nat.pow_succ]; congr 1; omega
    rw [e, ← Nat.mul_assoc] at h2
    omega

theorem quo_hi (m n : Nat) (hm : m < 9007199254740992) (hn : n < 9007199254740992) (h0 : n ≠ 0) :
    quoW m n < 340282366920938463463374607431768211456 ∧ hiW (quoW m n) = m * 2 ^ (lz64 m - 1) * 18446744073709551616 / (n * 2 ^ lz64 n) ∧ loW (quoW m n) = m * 2 ^ (lz64 m - 1) * 18446744073709551616 % (n * 2 ^ lz64 n) := by
  have h1 := num_lt m hm
  obtain ⟨h2, h3⟩ := lz_shift n h0 (by omega)
  unfold quoW
  revert h1 h2 h3
  generalize m * 2 ^ (lz64 m - 1) = M
  generalize n * 2 ^ lz64 n = N
  intro h1 h2 h3
  have h4 : M * 18446744073709551616 % N < 18446744073709551616 := Nat.lt_trans (Nat.mod_lt _ (by omega)) h3
  have h5 : M * 18446744073709551616 / N < 18446744073709551616 := by
    rw [Nat.div_lt_iff_lt_mul (by omega)]
    omega
  refine ⟨?_, hi_mk _ _ h4, lo_mk _ _ h4⟩
  have := Nat.mul_le_mul_right 18446744073709551616 (Nat.le_sub_one_of_lt h5)
  omega

theorem quotient_any (s t : Bool) (m n : Nat) (e f : Int) (w : World) (hm : m < 9007199254740992) (hn : n < 9007199254740992) (h0 : n ≠ 0) (he0 : -3000 ≤ e) (he1 : e ≤ 3000) (hf0 : -3000 ≤ f) (hf1 : f ≤ 3000) :
    Calls Try.prog 95 #[.agg #[.bool s, .int .u64 m, .int .i64 e], .agg #[.bool t, .int .u64 n, .int .i64 f]] w fun r' w' => r' = .returned (.agg #[.bool (!(s == t)), .int .u64 (hiW (quoW m n)), .int .u64 (loW (quoW m n)), .int .i64 (quoX m n e f)]) ∧ Below w.heap.size w w' := by
  obtain ⟨_, q2, q3⟩ := quo_hi m n hm hn h0
  have h1 := num_lt m hm
  obtain ⟨h2, h3⟩ := lz_shift n h0 (by omega)
  have l1 := lz_ge m hm
  have l2 := lz_le64 m
  have l3 := lz_le64 n
  have c := quotient_walk s t m n (lz64 m) (lz64 n) (m * 2 ^ (lz64 m - 1)) (n * 2 ^ lz64 n) _ _ e f w he0 he1 hf0 hf1 (Lib.hid (fun w => lz_any m w (by omega))) (Lib.hid (fun w => lz_any n w (by omega)))
    (Lib.hid (fun w => div64_any (m * 2 ^ (lz64 m - 1)) 0 (n * 2 ^ lz64 n) w (by omega) (by decide) h3)) (by omega) (by omega) (by omega) (shl_word m _ (by omega)) (shl_word n _ h3)
  rw [Nat.add_zero, ← q2, ← q3] at c
  exact c

theorem quoX_in (m n : Nat) (e f : Int) (he0 : -1074 ≤ e) (he1 : e ≤ 971) (hf0 : -1074 ≤ f) (hf1 : f ≤ 971) : -2300 ≤ quoX m n e f ∧ quoX m n e f ≤ 2100 := by
  have := lz_le64 m
  have := lz_le64 n
  unfold quoX; omega
end
section
open Go.RowKit

def SomeRoot (W : Nat) (w : World) (e : Ending) (w' : World) : Prop := ∃ r : Nat, e = .returned (.int .u64 r) ∧ Above W r ∧ r * r ≤ W ∧ Below w.heap.size w w'

theorem wholeRoot_any (x : Nat) (w : World) (h1 : 1152921504606846976 ≤ x) (h2 : x < 4611686018427387904) :
    Calls Try.prog 91 #[.agg #[.int .u64 x, .int .u64 0]] w (SomeRoot (x * 18446744073709551616) w) := by
  have cD := Lib.hid (fun (r : Nat) (w : World) (h : x < r) (hr : r < 18446744073709551616) => div64_some x 0 r w (by omega) h (by decide) hr)
  have hA := Above.start (x * 18446744073709551616) (by omega) (by omega)
  have HA := Lib.hid hA
  clear h1 hA
  go_enter Try.func91, Try.ntmps91
  go_wp2_with fail
  go_loop [3] (fun a => ∃ r : Nat, a = .int .u64 r ∧ Above (x * 18446744073709551616) r) (fun a => (intOf a).toNat)
  case atStart => exact ⟨9223372036854775808, rfl, HA.out⟩
  case round =>
    obtain ⟨r, rfl, g⟩ := hrel
    have hs := g.sum
    have hlo := g.lo
    have hhi := g.hi
    have G := Lib.hid g
    clear g
    go_wp2_with fail
    refine (cD.out r _ (by omega) (by omega)).mono ?_
    rintro e w1 ⟨rfl, rfl⟩
    rw [Nat.add_zero]
    obtain ⟨Q, hQ⟩ : ∃ Q, Q = x * 18446744073709551616 / r := ⟨_, rfl⟩
    obtain ⟨P, hP⟩ : ∃ P, P = x * 18446744073709551616 % r := ⟨_, rfl⟩
    rw [← hQ, ← hP]
    rw [← hQ] at hs
    have HQ := Lib.hid hQ
    clear hQ hP
    by_cases c : r ≤ (r + Q) / 2
    · have c1 : decide ((r : Int) ≤ ((r : Int) + (Q : Int)) / 2) = true := by simp; omega
      have c2 : decide (r ≤ (r + Q) / 2) = true := by simp; omega
      have HS := Lib.hid (G.out.stop (by rw [← HQ.out]; exact c))
      go_wp2
      go_ret
      exact ⟨r, rfl, G.out, HS.out, bel1 _ _⟩
    · have c1 : decide ((r : Int) ≤ ((r : Int) + (Q : Int)) / 2) = false := by simp; omega
      have c2 : decide (r ≤ (r + Q) / 2) = false := by simp; omega
      have HS := Lib.hid (G.out.next (by rw [← HQ.out]; omega))
      rw [← HQ.out] at HS
      go_wp2_with fail
      exact ⟨⟨(r + Q) / 2, by go_num, HS.out⟩, by simp [intOf]; omega⟩

def restR (W : Nat) : Nat := if Nat.sqrt W * Nat.sqrt W = W then 0 else 1

theorem root_is {x r : Nat} (h : Above (x * 18446744073709551616) r) (hsq : r * r ≤ x * 18446744073709551616) :
    r = Nat.sqrt (x * 18446744073709551616) ∧ ((hiW (r * r) : Int) == (x : Int) && (loW (r * r) : Int) == 0) = decide (restR (x * 18446744073709551616) = 0) ∧ r < 18446744073709551616 := by
  have e1 := Nat.sqrt_le (x * 18446744073709551616)
  have e2 := Nat.lt_succ_sqrt (x * 18446744073709551616)
  have e3 := h.above
  have h3 := h.hi
  have a1 : r < Nat.sqrt (x * 18446744073709551616) + 1 := sq_lt (Nat.lt_of_le_of_lt hsq e2)
  have a2 : Nat.sqrt (x * 18446744073709551616) < r + 1 := sq_lt (Nat.lt_of_le_of_lt e1 e3)
  have hr : r = Nat.sqrt (x * 18446744073709551616) := by omega
  refine ⟨hr, ?_, by omega⟩
  unfold restR
  rw [← hr]
  have hl := hi_lo (r * r)
  have hlt := lo_lt (r * r)
  by_cases c : r * r = x * 18446744073709551616
  · rw [if_pos c]
    have : hiW (r * r) = x ∧ loW (r * r) = 0 := by omega
    simp [this.1, this.2]
  · rw [if_neg c]
    rw [show decide (1 = 0) = false from rfl, Bool.and_eq_false_iff, beq_eq_false_iff_ne, beq_eq_false_iff_ne]
    omega

theorem root_even (s : Bool) (m la x : Nat) (e X : Int) (w : World) (he0 : -3000 ≤ e) (he1 : e ≤ 3000) (hm : ((m : Int) == 0) = false) (hla : (la : Int) ≤ 63) (hla1 : 4 ≤ (la : Int))
    (cA : Hid (∀ w, Calls Try.prog 87 #[.int .u64 m] w fun e w' => e = .returned (.int .i64 la) ∧ w = w'))
    (hp : ((e - ((la : Int) - 2)).tmod 2 != 0) = false) (hx : IntKind.u64.wrap ((m : Int) * 2 ^ (la - 2)) = x) (h1 : 1152921504606846976 ≤ x) (h2 : x < 4611686018427387904)
    (hX : (e - ((la : Int) - 2) - 64).tdiv 2 = X) (hX0 : -3000 ≤ X) (hX1 : X ≤ 3000) :
    Calls Try.prog 84 #[.agg #[.bool s, .int .u64 m, .int .i64 e]] w fun r' w' => r' = .returned (.agg #[.bool false, .int .u64 (Nat.sqrt (x * 18446744073709551616)), .int .u64 (restR (x * 18446744073709551616)), .int .i64 (X - 64)]) ∧ Below w.heap.size w w' := by
  have cW := Lib.hid (fun w => wholeRoot_any x w h1 h2)
  have hq := run_eq_words
  clear h1 h2
  go_enter Try.func84, Try.ntmps84
  go_wp2_with fail
  refine (cA.out _).mono ?_
  rintro e1 w1 ⟨rfl, rfl⟩
  go_wp2_with fail
  refine (cW.out _).mono ?_
  rintro e1 w1 ⟨r, rfl, hab, hsq, hb⟩
  obtain ⟨hr1, hr2, hr3⟩ := root_is hab hsq
  have Hr1 := Lib.hid hr1
  have Hr2 := Lib.hid hr2
  have cT := Lib.hid (fun w => times_any r r w hr3 hr3)
  obtain ⟨g1, g2, g3, HB⟩ := holds3 hb
  have HH := Lib.hid (And.intro g1 (And.intro g2 (And.intro g3 HB)))
  have s1 := g3.2.1 0
  have s2 := g3.2.1 1
  clear g1 g2 g3 HB hb hab hsq hr1 hr2 hr3
  go_upto_region 9 with fail
  go_region_held3 (fun w' => w'.cell? ⟨w.heap.size + 1 + 1, 0, none⟩ = some (.int .u64 x) ∧ w'.cell? ⟨w.heap.size + 1 + 1, 1, none⟩ = some (.int .u64 0)) (go_keep)
    (first | (refine (cT.out _).mono ?_; rintro r w2 ⟨rfl, hb0⟩; have hb := undrew hb0; clear hb0; have t1 := (HH.out.2.2.1.below hb).2.1 0; have t2 := (HH.out.2.2.1.below hb).2.1 1; have Hb := Lib.hid hb; clear hb))
  obtain ⟨z1, c1, f1⟩ := HH.out.1.below Hb.out
  obtain ⟨z2, c2, f2⟩ := HH.out.2.1.below Hb.out
  have ne1 : ¬ w.heap.size + 1 = w.heap.size := by omega
  clear s1 s2 t1 t2
  by_cases hz : restR (x * 18446744073709551616) = 0
  · have hc : (!((hiW (r * r) : Int) == (x : Int)) || !((loW (r * r) : Int) == 0)) = false := by
      have := Hr2.out
      rw [decide_eq_true hz] at this
      rw [← Bool.not_and, this]; rfl
    have HZ := Lib.hid hz; clear hz
    have HC := Lib.hid hc; clear hc
    go_upto_if 34 with fail
    rw [HC.out]
    go_wp2
    refine bodyPost_ret (v := .agg #[.bool false, .int .u64 r, .int .u64 0, .int .i64 (X - 64)]) (by simp [results, Try.results84, go_sem, c2]) rfl ⟨by rw [HZ.out, Hr1.out]; rfl, ?_⟩
    exact bset4 (HH.out.2.2.2.trans (Hb.out.mono (Nat.le_of_lt HH.out.1.1))) (w.heap.size + 1) (by omega) _ _ _ _
  · have hz1 : restR (x * 18446744073709551616) = 1 := by unfold restR at hz ⊢; split <;> simp_all
    have hc : (!((hiW (r * r) : Int) == (x : Int)) || !((loW (r * r) : Int) == 0)) = true := by
      have := Hr2.out
      rw [decide_eq_false hz] at this
      rw [← Bool.not_and, this]; rfl
    have HZ := Lib.hid hz1; clear hz hz1
    have HC := Lib.hid hc; clear hc
    go_upto_if 34 with fail
    rw [HC.out]
    go_wp2
    refine bodyPost_ret (v := .agg #[.bool false, .int .u64 r, .int .u64 1, .int .i64 (X - 64)]) (by simp [results, Try.results84, go_sem, c2]) rfl ⟨by rw [HZ.out, Hr1.out]; rfl, ?_⟩
    exact bset4 (HH.out.2.2.2.trans (Hb.out.mono (Nat.le_of_lt HH.out.1.1))) (w.heap.size + 1) (by omega) _ _ _ _

theorem root_odd (s : Bool) (m la x : Nat) (e X : Int) (w : World) (he0 : -3000 ≤ e) (he1 : e ≤ 3000) (hm : ((m : Int) == 0) = false) (hla : (la : Int) ≤ 63) (hla1 : 4 ≤ (la : Int))
    (cA : Hid (∀ w, Calls Try.prog 87 #[.int .u64 m] w fun e w' => e = .returned (.int .i64 la) ∧ w = w'))
    (hp : ((e - ((la : Int) - 2)).tmod 2 != 0) = true) (hx : IntKind.u64.wrap ((m : Int) * 2 ^ (la - 2 - 1)) = x) (h1 : 1152921504606846976 ≤ x) (h2 : x < 4611686018427387904)
    (hX : (e - ((la : Int) - 2 - 1) - 64).tdiv 2 = X) (hX0 : -3000 ≤ X) (hX1 : X ≤ 3000) :
    Calls Try.prog 84 #[.agg #[.bool s, .int .u64 m, .int .i64 e]] w fun r' w' => r' = .returned (.agg #[.bool false, .int .u64 (Nat.sqrt (x * 18446744073709551616)), .int .u64 (restR (x * 18446744073709551616)), .int .i64 (X - 64)]) ∧ Below w.heap.size w w' := by
  have cW := Lib.hid (fun w => wholeRoot_any x w h1 h2)
  have hq := run_eq_words
  clear h1 h2
  go_enter Try.func84, Try.ntmps84
  go_wp2_with fail
  refine (cA.out _).mono ?_
  rintro e1 w1 ⟨rfl, rfl⟩
  go_wp2_with fail
  refine (cW.out _).mono ?_
  rintro e1 w1 ⟨r, rfl, hab, hsq, hb⟩
  obtain ⟨hr1, hr2, hr3⟩ := root_is hab hsq
  have Hr1 := Lib.hid hr1
  have Hr2 := Lib.hid hr2
  have cT := Lib.hid (fun w => times_any r r w hr3 hr3)
  obtain ⟨g1, g2, g3, HB⟩ := holds3 hb
  have HH := Lib.hid (And.intro g1 (And.intro g2 (And.intro g3 HB)))
  have s1 := g3.2.1 0
  have s2 := g3.2.1 1
  clear g1 g2 g3 HB hb hab hsq hr1 hr2 hr3
  go_upto_region 9 with fail
  go_region_held3 (fun w' => w'.cell? ⟨w.heap.size + 1 + 1, 0, none⟩ = some (.int .u64 x) ∧ w'.cell? ⟨w.heap.size + 1 + 1, 1, none⟩ = some (.int .u64 0)) (go_keep)
    (first | (refine (cT.out _).mono ?_; rintro r w2 ⟨rfl, hb0⟩; have hb := undrew hb0; clear hb0; have t1 := (HH.out.2.2.1.below hb).2.1 0; have t2 := (HH.out.2.2.1.below hb).2.1 1; have Hb := Lib.hid hb; clear hb))
  obtain ⟨z1, c1, f1⟩ := HH.out.1.below Hb.out
  obtain ⟨z2, c2, f2⟩ := HH.out.2.1.below Hb.out
  have ne1 : ¬ w.heap.size + 1 = w.heap.size := by omega
  clear s1 s2 t1 t2
  by_cases hz : restR (x * 18446744073709551616) = 0
  · have hc : (!((hiW (r * r) : Int) == (x : Int)) || !((loW (r * r) : Int) == 0)) = false := by
      have := Hr2.out
      rw [decide_eq_true hz] at this
      rw [← Bool.not_and, this]; rfl
    have HZ := Lib.hid hz; clear hz
    have HC := Lib.hid hc; clear hc
    go_upto_if 34 with fail
    rw [HC.out]
    go_wp2
    refine bodyPost_ret (v := .agg #[.bool false, .int .u64 r, .int .u64 0, .int .i64 (X - 64)]) (by simp [results, Try.results84, go_sem, c2]) rfl ⟨by rw [HZ.out, Hr1.out]; rfl, ?_⟩
    exact bset4 (HH.out.2.2.2.trans (Hb.out.mono (Nat.le_of_lt HH.out.1.1))) (w.heap.size + 1) (by omega) _ _ _ _
  · have hz1 : restR (x * 18446744073709551616) = 1 := by unfold restR at hz ⊢; split <;> simp_all
    have hc : (!((hiW (r * r) : Int) == (x : Int)) || !((loW (r * r) : Int) == 0)) = true := by
      have := Hr2.out
      rw [decide_eq_false hz] at this
      rw [← Bool.not_and, this]; rfl
    have HZ := Lib.hid hz1; clear hz hz1
    have HC := Lib.hid hc; clear hc
    go_upto_if 34 with fail
    rw [HC.out]
    go_wp2
    refine bodyPost_ret (v := .agg #[.bool false, .int .u64 r, .int .u64 1, .int .i64 (X - 64)]) (by simp [results, Try.results84, go_sem, c2]) rfl ⟨by rw [HZ.out, Hr1.out]; rfl, ?_⟩
    exact bset4 (HH.out.2.2.2.trans (Hb.out.mono (Nat.le_of_lt HH.out.1.1))) (w.heap.size + 1) (by omega) _ _ _ _
end
section
open Go.RowKit

def rootB (m : Nat) (e : Int) : Nat := if (e - ((lz64 m : Int) - 2)) % 2 = 0 then lz64 m - 2 else lz64 m - 2 - 1
def rootV (m : Nat) (e : Int) : Nat := m * 2 ^ rootB m e * 18446744073709551616
def rootW (m : Nat) (e : Int) : Nat := if m = 0 then 0 else Nat.sqrt (rootV m e) * 18446744073709551616 + restR (rootV m e)
def rootX (m : Nat) (e : Int) : Int := if m = 0 then 0 else (e - (rootB m e : Int) - 64) / 2 - 64

theorem restR_le (W : Nat) : restR W ≤ 1 := by unfold restR; split <;> omega

theorem rootB_in (m : Nat) (e : Int) (h0 : m ≠ 0) (hm : m < 9007199254740992) : 1152921504606846976 ≤ m * 2 ^ rootB m e ∧ m * 2 ^ rootB m e < 4611686018427387904 ∧ rootB m e ≤ 61 ∧ (e - (rootB m e : Int)) % 2 = 0 := by
  have h1 := lz_ge m hm
  have h2 := lz_le m h0
  obtain ⟨h3, h4⟩ := lz_shift m h0 (by omega)
  unfold rootB
  split
  · rename_i hp
    have e1 : 2 ^ lz64 m = 2 ^ (lz64 m - 2) * 4 := by rw [show (4 : Nat) = 2 ^ 2 by decide, ← Nat.pow_add]; congr 1; omega
    rw [e1, ← Nat.mul_assoc] at h3 h4
    exact ⟨by omega, by omega, by omega, by omega⟩
  · rename_i hp
    have e1 : 2 ^ lz64 m = 2 ^ (lz64 m - 2 - 1) * 8 := by rw [show (8 : Nat) = 2 ^ 3 by decide, ← Nat.pow_add]; congr 1; omega
    rw [e1, ← Nat.mul_assoc] at h3 h4
    exact ⟨by omega, by omega, by omega, by omega⟩

theorem sqrt_lt {W k : Nat} (h : W < k * k) : Nat.sqrt W < k := sq_lt (Nat.lt_of_le_of_lt (Nat.sqrt_le W) h)

theorem rootW_in (m : Nat) (e : Int) (h0 : m ≠ 0) (hm : m < 9007199254740992) : rootW m e < 340282366920938463463374607431768211456 ∧ hiW (rootW m e) = Nat.sqrt (rootV m e) ∧ loW (rootW m e) = restR (rootV m e) := by
  obtain ⟨h1, h2, _, _⟩ := rootB_in m e h0 hm
  have hV : rootV m e < 9223372036854775808 * 9223372036854775808 := by unfold rootV; omega
  have hs := sqrt_lt hV
  have hr := restR_le (rootV m e)
  unfold rootW
  rw [if_neg h0]
  exact ⟨by omega, hi_mk _ _ (by omega), lo_mk _ _ (by omega)⟩

theorem root_zero (s : Bool) (e : Int) (w : World) :
    Calls Try.prog 84 #[.agg #[.bool s, .int .u64 0, .int .i64 e]] w fun r' w' => r' = .returned (.agg #[.bool false, .int .u64 0, .int .u64 0, .int .i64 0]) ∧ Below w.heap.size w w' := by
  go_enter Try.func84, Try.ntmps84
  go_wp2
  exact bodyPost_ret (v := .agg #[.bool false, .int .u64 0, .int .u64 0, .int .i64 0]) (by simp [results, Try.results84, go_sem]) rfl ⟨rfl, bel2 _ _ _⟩

theorem even_tmod (z : Int) (h : z % 2 = 0) : z.tmod 2 = 0 := by
  obtain ⟨k, rfl⟩ : ∃ k, z = 2 * k := ⟨z / 2, by omega⟩
  exact Int.mul_tmod_right 2 k
theorem odd_tmod (z : Int) (h : ¬ z % 2 = 0) : z.tmod 2 ≠ 0 := fun g => h (Int.emod_eq_zero_of_dvd (Int.dvd_of_tmod_eq_zero g))
theorem even_tdiv (z : Int) (h : z % 2 = 0) : z.tdiv 2 = z / 2 := by
  obtain ⟨k, rfl⟩ : ∃ k, z = 2 * k := ⟨z / 2, by omega⟩
  rw [Int.mul_tdiv_cancel_left k (by decide)]; omega

theorem root_any (s : Bool) (m : Nat) (e : Int) (w : World) (hm : m < 9007199254740992) (he0 : -1074 ≤ e) (he1 : e ≤ 971) :
    Calls Try.prog 84 #[.agg #[.bool s, .int .u64 m, .int .i64 e]] w fun r' w' => r' = .returned (.agg #[.bool false, .int .u64 (hiW (rootW m e)), .int .u64 (loW (rootW m e)), .int .i64 (rootX m e)]) ∧ Below w.heap.size w w' := by
  by_cases h0 : m = 0
  · subst h0
    have r1 : rootW 0 e = 0 := if_pos rfl
    have r2 : rootX 0 e = 0 := if_pos rfl
    rw [r1, r2]
    exact root_zero s e w
  · obtain ⟨h1, h2, h3, h4⟩ := rootB_in m e h0 hm
    obtain ⟨_, r2, r3⟩ := rootW_in m e h0 hm
    have l1 := lz_ge m hm
    have l2 := lz_le m h0
    have hx : rootX m e = (e - (rootB m e : Int) - 64) / 2 - 64 := by unfold rootX; rw [if_neg h0]
    rw [r2, r3, hx]
    have hm0 : ((m : Int) == 0) = false := by rw [beq_eq_false_iff_ne]; omega
    have cA := Lib.hid (fun w => lz_any m w (by omega))
    unfold rootV
    by_cases hp : (e - ((lz64 m : Int) - 2)) % 2 = 0
    · have eB : rootB m e = lz64 m - 2 := by unfold rootB; rw [if_pos hp]
      rw [eB] at h1 h2 h4 ⊢
      have c := root_even s m (lz64 m) (m * 2 ^ (lz64 m - 2)) e ((e - ((lz64 m - 2 : Nat) : Int) - 64) / 2) w (by omega) (by omega) hm0 (by omega) (by omega) cA
        (by rw [bne_eq_false_iff_eq]; exact even_tmod _ hp) (shl_word m _ (by omega)) h1 h2 (by rw [even_tdiv _ (by omega)]; omega) (by omega) (by omega)
      exact c
    · have eB : rootB m e = lz64 m - 2 - 1 := by unfold rootB; rw [if_neg hp]
      rw [eB] at h1 h2 h4 ⊢
      have c := root_odd s m (lz64 m) (m * 2 ^ (lz64 m - 2 - 1)) e ((e - ((lz64 m - 2 - 1 : Nat) : Int) - 64) / 2) w (by omega) (by omega) hm0 (by omega) (by omega) cA
        (by rw [bne_iff_ne]; exact odd_tmod _ hp) (shl_word m _ (by omega)) h1 h2 (by rw [even_tdiv _ (by omega)]; omega) (by omega) (by omega)
      exact c

theorem rootX_in (m : Nat) (e : Int) (hm : m < 9007199254740992) (he0 : -1074 ≤ e) (he1 : e ≤ 971) : -3000 ≤ rootX m e ∧ rootX m e ≤ 2000 := by
  unfold rootX
  split
  · omega
  · rename_i h0
    obtain ⟨_, _, h3, _⟩ := rootB_in m e h0 hm
    omega

theorem rootW_lt (m : Nat) (e : Int) (hm : m < 9007199254740992) : rootW m e < 340282366920938463463374607431768211456 := by
  by_cases h0 : m = 0
  · unfold rootW; rw [if_pos h0]; decide
  · exact (rootW_in m e h0 hm).1

theorem steps_zero (r : Nat) : steps r = 0 ↔ r = 0 := by
  unfold steps
  split
  · exact Iff.rfl
  · rename_i g
    constructor
    · intro h
      have := Nat.mul_pos (show 0 < 4503599627370496 + r % 4503599627370496 by omega) (Nat.two_pow_pos (r / 4503599627370496 - 1))
      omega
    · intro h; subst h; simp at g

theorem val_zero (b : Nat) (hb : b < 18446744073709551616) (h : rightB b = true) : val b = 0 ↔ b = 0 := by
  have hn := right_ne b h
  unfold val
  have hs := steps_zero (rung b)
  have hr : rung b = 0 ↔ b = 0 := by unfold rung; omega
  cases sgnB b <;> simp <;> omega

theorem val_neg (a : Nat) (ha : a < 18446744073709551616) (h : rightB a = true) : val a < 0 ↔ sgnB a = true := by
  have hn := right_ne a h
  have hs := steps_zero (rung a)
  have hr : rung a = 0 → a < 9223372036854775808 := by unfold rung; omega
  unfold val
  cases hc : sgnB a
  · simp
  · have : 9223372036854775808 ≤ a := by unfold sgnB at hc; exact of_decide_eq_true hc
    simp
    omega

theorem val_0 : val 0 = 0 := by decide

theorem order_zero (b : Nat) (hb : b < 18446744073709551616) (h : rightB b = true) : (FloatKind.f64.format.order b 0 == some Ordering.eq) = decide (b = 0) := by
  rw [order_val b 0 hb (by decide) (right_rung b h) (by decide), val_0]
  have hv := val_zero b hb h
  by_cases c : b = 0
  · rw [decide_eq_true c, Int.compare_eq_eq.2 (hv.2 c)]; rfl
  · rw [decide_eq_false c]
    have : val b ≠ 0 := fun e => c (hv.1 e)
    rcases Int.lt_trichotomy (val b) 0 with g | g | g
    · rw [Int.compare_eq_lt.2 g]; rfl
    · exact absurd g this
    · rw [Int.compare_eq_gt.2 g]; rfl

theorem order_neg (a : Nat) (ha : a < 18446744073709551616) (h : rightB a = true) : (FloatKind.f64.format.order a 0 == some Ordering.lt) = sgnB a := by
  rw [order_val a 0 ha (by decide) (right_rung a h) (by decide), val_0]
  have hv := val_neg a ha h
  cases c : sgnB a
  · have : ¬ val a < 0 := fun g => by rw [hv.1 g] at c; cases c
    rcases Int.lt_trichotomy (val a) 0 with g | g | g
    · exact absurd g this
    · rw [Int.compare_eq_eq.2 g]; rfl
    · rw [Int.compare_eq_gt.2 g]; rfl
  · rw [Int.compare_eq_lt.2 (hv.2 c)]; rfl

def sqrtW (a : Nat) (up : Bool) : Nat := if rightB a && !sgnB a then roundW false (rootW (mant a) (expo a)) (rootX (mant a) (expo a)) up else 0
def sqrtE (a : Nat) (up : Bool) : Int := if rightB a then (if sgnB a then 12 else roundE false (rootW (mant a) (expo a)) (rootX (mant a) (expo a)) up) else 13

theorem sqrt_any (a : Nat) (up : Bool) (w : World) (ha : a < 18446744073709551616) :
    Calls Try.prog 72 #[.float .f64 a, .bool up] w fun r w' => r = .returned (.tuple #[.float .f64 (sqrtW a up), .int .i64 (sqrtE a up)]) ∧ Below w.heap.size w w' := by
  have cRa := Lib.hid (fun w => right_any a w ha)
  have cSa := Lib.hid (fun w => split_any a w ha)
  cases ra : rightB a
  · have e1 : sqrtW a up = 0 := if_neg (by rw [ra]; exact Bool.false_ne_true)
    have e2 : sqrtE a up = 13 := if_neg (by rw [ra]; exact Bool.false_ne_true)
    have E := Lib.hid (And.intro e1 e2)
    have RA := Lib.hid ra
    clear ha e1 e2 ra
    go_enter Try.func72, Try.ntmps72
    go_wp2_with fail
    refine (cRa.out _).mono ?_
    rintro r w1 ⟨rfl, rfl⟩
    rw [RA.out]
    go_wp2
    go_ret2
    exact ⟨ret_pair ⟨E.out.1.symm, E.out.2.symm⟩, Below.refl _ _⟩
  · have ho := order_neg a ha ra
    cases sa : sgnB a
    · rw [sa] at ho
      have xa := expo_in a ra
      have hx := rootX_in (mant a) (expo a) (mant_lt a) xa.1 xa.2
      have cS := Lib.hid (fun w => root_any (sgnB a) (mant a) (expo a) w (mant_lt a) xa.1 xa.2)
      have cR := Lib.hid (fun w => round_any false (rootW (mant a) (expo a)) (rootX (mant a) (expo a)) up w (rootW_lt _ _ (mant_lt a)) (by omega) (by omega))
      have e1 : sqrtW a up = roundW false (rootW (mant a) (expo a)) (rootX (mant a) (expo a)) up := if_pos (by rw [ra, sa]; rfl)
      have e2 : sqrtE a up = roundE false (rootW (mant a) (expo a)) (rootX (mant a) (expo a)) up := (if_pos ra).trans (if_neg (by rw [sa]; exact Bool.false_ne_true))
      have E := Lib.hid (And.intro e1 e2)
      have RA := Lib.hid ra
      have SA := Lib.hid sa
      clear ha e1 e2 ra xa hx sa
      go_enter Try.func72, Try.ntmps72
      go_wp2_with fail
      refine (cRa.out _).mono ?_
      rintro r w1 ⟨rfl, rfl⟩
      rw [RA.out]
      go_wp2_with fail
      refine (cSa.out _).mono ?_
      rintro r w1 ⟨rfl, h1⟩
      go_wp2_with fail
      refine (cS.out _).mono ?_
      rintro r w3 ⟨rfl, h3⟩
      go_wp2_with fail
      refine (cR.out _).mono ?_
      rintro r w4 ⟨rfl, h4⟩
      have HH := Lib.hid ((h1.trans (h3.mono h1.size)).trans (h4.mono (Nat.le_trans h1.size h3.size)))
      clear h1 h3 h4
      go_wp2
      go_ret2
      exact ⟨ret_pair ⟨E.out.1.symm, E.out.2.symm⟩, HH.out⟩
    · rw [sa] at ho
      have e1 : sqrtW a up = 0 := if_neg (by rw [ra, sa]; exact Bool.false_ne_true)
      have e2 : sqrtE a up = 12 := (if_pos ra).trans (if_pos sa)
      have E := Lib.hid (And.intro e1 e2)
      have RA := Lib.hid ra
      clear ha e1 e2 ra sa
      go_enter Try.func72, Try.ntmps72
      go_wp2_with fail
      refine (cRa.out _).mono ?_
      rintro r w1 ⟨rfl, rfl⟩
      rw [RA.out]
      go_wp2
      go_ret2
      exact ⟨ret_pair ⟨E.out.1.symm, E.out.2.symm⟩, Below.refl _ _⟩

def divW (a b : Nat) (up : Bool) : Nat := if rightB a && rightB b && !decide (b = 0) then roundW (!(sgnB a == sgnB b)) (quoW (mant a) (mant b)) (quoX (mant a) (mant b) (expo a) (expo b)) up else 0
def divE (a b : Nat) (up : Bool) : Int := if rightB a && rightB b then (if b = 0 then 11 else roundE (!(sgnB a == sgnB b)) (quoW (mant a) (mant b)) (quoX (mant a) (mant b) (expo a) (expo b)) up) else 13

theorem div_any (a b : Nat) (up : Bool) (w : World) (ha : a < 18446744073709551616) (hb : b < 18446744073709551616) :
    Calls Try.prog 93 #[.float .f64 a, .float .f64 b, .bool up] w fun r w' => r = .returned (.tuple #[.float .f64 (divW a b up), .int .i64 (divE a b up)]) ∧ Below w.heap.size w w' := by
  have cRa := Lib.hid (fun w => right_any a w ha)
  have cRb := Lib.hid (fun w => right_any b w hb)
  have cSa := Lib.hid (fun w => split_any a w ha)
  have cSb := Lib.hid (fun w => split_any b w hb)
  cases ra : rightB a
  · have e1 : divW a b up = 0 := if_neg (by rw [ra]; exact Bool.false_ne_true)
    have e2 : divE a b up = 13 := if_neg (by rw [ra]; exact Bool.false_ne_true)
    have E := Lib.hid (And.intro e1 e2)
    have RA := Lib.hid ra
    clear ha hb e1 e2 ra
    go_enter Try.func93, Try.ntmps93
    go_wp2_with fail
    refine (cRa.out _).mono ?_
    rintro r w1 ⟨rfl, rfl⟩
    rw [RA.out]
    go_wp2
    go_ret2
    exact ⟨ret_pair ⟨E.out.1.symm, E.out.2.symm⟩, Below.refl _ _⟩
  · cases rb : rightB b
    · have e1 : divW a b up = 0 := if_neg (by rw [ra, rb]; exact Bool.false_ne_true)
      have e2 : divE a b up = 13 := if_neg (by rw [ra, rb]; exact Bool.false_ne_true)
      have E := Lib.hid (And.intro e1 e2)
      have RA := Lib.hid ra
      have RB := Lib.hid rb
      clear ha hb e1 e2 ra rb
      go_enter Try.func93, Try.ntmps93
      go_wp2_with fail
      refine (cRa.out _).mono ?_
      rintro r w1 ⟨rfl, rfl⟩
      rw [RA.out]
      go_wp2_with fail
      refine (cRb.out _).mono ?_
      rintro r w1 ⟨rfl, rfl⟩
      rw [RB.out]
      go_wp2
      go_ret2
      exact ⟨ret_pair ⟨E.out.1.symm, E.out.2.symm⟩, Below.refl _ _⟩
    · have ho := order_zero b hb rb
      by_cases b0 : b = 0
      · rw [decide_eq_true b0] at ho
        have e1 : divW a b up = 0 := if_neg (by rw [ra, rb, decide_eq_true b0]; exact Bool.false_ne_true)
        have e2 : divE a b up = 11 := (if_pos (by rw [ra, rb]; rfl)).trans (if_pos b0)
        have E := Lib.hid (And.intro e1 e2)
        have RA := Lib.hid ra
        have RB := Lib.hid rb
        clear ha hb e1 e2 ra rb b0
        go_enter Try.func93, Try.ntmps93
        go_wp2_with fail
        refine (cRa.out _).mono ?_
        rintro r w1 ⟨rfl, rfl⟩
        rw [RA.out]
        go_wp2_with fail
        refine (cRb.out _).mono ?_
        rintro r w1 ⟨rfl, rfl⟩
        rw [RB.out]
        go_wp2
        go_ret2
        exact ⟨ret_pair ⟨E.out.1.symm, E.out.2.symm⟩, Below.refl _ _⟩
      · rw [decide_eq_false b0] at ho
        have xa := expo_in a ra
        have xb := expo_in b rb
        have hn0 : mant b ≠ 0 := by
          intro hz
          have hst := steps_parts b
          rw [hz, Nat.zero_mul] at hst
          have := (steps_zero (rung b)).1 hst
          have hbn := right_ne b rb
          unfold rung at this; omega
        have ma := mant_lt a
        have mb := mant_lt b
        have hmul := (quo_hi (mant a) (mant b) ma mb hn0).1
        have hqx := quoX_in (mant a) (mant b) (expo a) (expo b) xa.1 xa.2 xb.1 xb.2
        have cS := Lib.hid (fun w => quotient_any (sgnB a) (sgnB b) (mant a) (mant b) (expo a) (expo b) w ma mb hn0 (by omega) (by omega) (by omega) (by omega))
        have cR := Lib.hid (fun w => round_any (!(sgnB a == sgnB b)) (quoW (mant a) (mant b)) (quoX (mant a) (mant b) (expo a) (expo b)) up w hmul (by omega) (by omega))
        clear ma mb hmul hqx hn0
        have e1 : divW a b up = roundW (!(sgnB a == sgnB b)) (quoW (mant a) (mant b)) (quoX (mant a) (mant b) (expo a) (expo b)) up := if_pos (by rw [ra, rb, decide_eq_false b0]; rfl)
        have e2 : divE a b up = roundE (!(sgnB a == sgnB b)) (quoW (mant a) (mant b)) (quoX (mant a) (mant b) (expo a) (expo b)) up := (if_pos (by rw [ra, rb]; rfl)).trans (if_neg b0)
        have E := Lib.hid (And.intro e1 e2)
        have RA := Lib.hid ra
        have RB := Lib.hid rb
        clear ha hb e1 e2 ra rb xa xb b0
        go_enter Try.func93, Try.ntmps93
        go_wp2_with fail
        refine (cRa.out _).mono ?_
        rintro r w1 ⟨rfl, rfl⟩
        rw [RA.out]
        go_wp2_with fail
        refine (cRb.out _).mono ?_
        rintro r w1 ⟨rfl, rfl⟩
        rw [RB.out]
        go_wp2_with fail
        refine (cSa.out _).mono ?_
        rintro r w1 ⟨rfl, h1⟩
        go_wp2_with fail
        refine (cSb.out _).mono ?_
        rintro r w2 ⟨rfl, h2⟩
        go_wp2_with fail
        refine (cS.out _).mono ?_
        rintro r w3 ⟨rfl, h3⟩
        go_wp2_with fail
        refine (cR.out _).mono ?_
        rintro r w4 ⟨rfl, h4⟩
        have HH := Lib.hid (((h1.trans (h2.mono h1.size)).trans (h3.mono (Nat.le_trans h1.size h2.size))).trans (h4.mono (Nat.le_trans h1.size (Nat.le_trans h2.size h3.size))))
        clear h1 h2 h3 h4
        go_wp2
        go_ret2
        exact ⟨ret_pair ⟨E.out.1.symm, E.out.2.symm⟩, HH.out⟩
end
section
open Go.RowKit

theorem steps_succ (r : Nat) : steps (r + 1) = steps r + 2 ^ (r / 4503599627370496 - 1) := by
  unfold steps
  by_cases h0 : r / 4503599627370496 = 0
  · rw [if_pos h0, h0]
    by_cases h1 : (r + 1) / 4503599627370496 = 0
    · rw [if_pos h1]
    · rw [if_neg h1]
      have e1 : (r + 1) / 4503599627370496 = 1 := by omega
      have e2 : (r + 1) % 4503599627370496 = 0 := by omega
      rw [e1, e2]
      show (4503599627370496 + 0) * 2 ^ 0 = r + 2 ^ 0
      rw [Nat.pow_zero]; omega
  · rw [if_neg h0, if_neg (by omega)]
    by_cases h1 : (r + 1) % 4503599627370496 = 0
    · have e1 : (r + 1) / 4503599627370496 - 1 = r / 4503599627370496 - 1 + 1 := by omega
      have e2 : r % 4503599627370496 = 4503599627370495 := by omega
      rw [e1, h1, e2, Nat.pow_succ]
      omega
    · have e1 : (r + 1) / 4503599627370496 = r / 4503599627370496 := by omega
      have e2 : (r + 1) % 4503599627370496 = r % 4503599627370496 + 1 := by omega
      rw [e1, e2, ← Nat.add_assoc, Nat.add_mul (4503599627370496 + r % 4503599627370496), Nat.one_mul]

theorem steps_lt_succ (r : Nat) : steps r < steps (r + 1) := by
  rw [steps_succ]; have := Nat.two_pow_pos (r / 4503599627370496 - 1); omega

theorem steps_lt {r s : Nat} (h : r < s) : steps r < steps s := by
  induction s with
  | zero => omega
  | succ s ih =>
    have := steps_lt_succ s
    by_cases c : r = s
    · subst c; exact this
    · have := ih (by omega); omega

theorem steps_le {r s : Nat} (h : r ≤ s) : steps r ≤ steps s := by
  by_cases c : r = s
  · subst c; exact Nat.le_refl _
  · exact Nat.le_of_lt (steps_lt (by omega))

theorem steps_le_iff (r s : Nat) : steps r ≤ steps s ↔ r ≤ s :=
  ⟨fun h => by
    rcases Nat.lt_or_ge s r with g | g
    · have := steps_lt g; omega
    · exact g, steps_le⟩

theorem steps_km (K M : Nat) (hM : M ≤ 9007199254740992) (h : K = 0 ∨ 4503599627370496 ≤ M) : steps (K * 4503599627370496 + M) = M * 2 ^ K := by
  unfold steps
  by_cases h1 : M < 4503599627370496
  · have hK : K = 0 := by omega
    subst hK
    have e1 : (0 * 4503599627370496 + M) / 4503599627370496 = 0 := by omega
    rw [if_pos e1]; simp
  · by_cases h2 : M = 9007199254740992
    · have e1 : (K * 4503599627370496 + M) / 4503599627370496 = K + 2 := by omega
      have e2 : (K * 4503599627370496 + M) % 4503599627370496 = 0 := by omega
      rw [if_neg (by omega), e1, e2, h2]
      show (4503599627370496 + 0) * 2 ^ (K + 1) = _
      rw [Nat.pow_succ]; omega
    · have e1 : (K * 4503599627370496 + M) / 4503599627370496 = K + 1 := by omega
      have e2 : (K * 4503599627370496 + M) % 4503599627370496 = M - 4503599627370496 := by omega
      rw [if_neg (by omega), e1, e2]
      rw [show 4503599627370496 + (M - 4503599627370496) = M by omega, show K + 1 - 1 = K by omega]

def sc : Nat := 6000
theorem sc_eq : sc = 6000 := rfl
def real (W : Nat) (x : Int) : Nat := W * 2 ^ (x + 1074 + sc).toNat

structure Kept (W : Nat) (x : Int) : Prop where
  floor : steps (keptK W x * 4503599627370496 + keptM W x) * 2 ^ sc ≤ real W x
  ceil : real W x < steps (keptK W x * 4503599627370496 + keptM W x + 1) * 2 ^ sc
  all : keptAll W x = true ↔ steps (keptK W x * 4503599627370496 + keptM W x) * 2 ^ sc = real W x

theorem div_two (V C : Nat) : V / 18446744073709551616 / 2 ^ C = V / 2 ^ (64 + C) := by
  rw [Nat.div_div_eq_div_mul, Nat.pow_add]

theorem all_iff (V C : Nat) (hV : V < 340282366920938463463374607431768211456) :
    (V / 18446744073709551616 = V / 2 ^ (64 + C) * 2 ^ C % 18446744073709551616 ∧ V % 18446744073709551616 = 0) ↔ V / 2 ^ (64 + C) * 2 ^ (64 + C) = V := by
  have e : V / 2 ^ (64 + C) = V / 18446744073709551616 / 2 ^ C := (div_two V C).symm
  have hle : V / 18446744073709551616 / 2 ^ C * 2 ^ C ≤ V / 18446744073709551616 := Nat.div_mul_le_self _ _
  have hlt : V / 18446744073709551616 / 2 ^ C * 2 ^ C < 18446744073709551616 := by omega
  rw [e, Nat.mod_eq_of_lt hlt, Nat.pow_add, ← Nat.mul_assoc, Nat.mul_right_comm]
  show _ ↔ V / 18446744073709551616 / 2 ^ C * 2 ^ C * 18446744073709551616 = V
  omega

theorem kept (W : Nat) (x : Int) (h0 : W ≠ 0) (hW : W < 340282366920938463463374607431768211456) (hx : -5000 ≤ x) : Kept W x := by
  obtain ⟨hV2, hV1⟩ := ahead_lt W h0 hW
  have hC := keptC_ge W x
  have hlz : lzW W ≤ 127 := by unfold lzW; omega
  have hs := sc_eq
  -- exponents
  have hp : (x + 1074 + (sc : Int)).toNat = lzW W + (x - (lzW W : Int) + 1074 + sc).toNat := by omega
  have hKC : keptK W x + sc = 64 + keptC W x + (x - (lzW W : Int) + 1074 + sc).toNat := by unfold keptK keptC; omega
  have hMdef : keptM W x = W * 2 ^ lzW W / 2 ^ (64 + keptC W x) := by
    unfold keptM shrN hiW; exact div_two _ _
  have hMle := keptM_le W x (hi_lt _ hV2)
  have hnorm : keptK W x = 0 ∨ 4503599627370496 ≤ keptM W x := by
    by_cases c : keptC W x = 11
    · right
      unfold keptM shrN hiW
      rw [c]
      omega
    · left
      unfold keptC at c
      unfold keptK
      omega
  have hreal : real W x = W * 2 ^ lzW W * 2 ^ (x - (lzW W : Int) + 1074 + sc).toNat := by
    unfold real; rw [hp, Nat.pow_add, Nat.mul_assoc]
  have hfl : ∀ M, M ≤ 9007199254740992 → (keptK W x = 0 ∨ 4503599627370496 ≤ M) → steps (keptK W x * 4503599627370496 + M) * 2 ^ sc = M * 2 ^ (64 + keptC W x) * 2 ^ (x - (lzW W : Int) + 1074 + sc).toNat := by
    intro M h1 h2
    rw [steps_km _ _ h1 h2, Nat.mul_assoc, ← Nat.pow_add, hKC, Nat.pow_add, Nat.mul_assoc]
  have hpp : 0 < 2 ^ (x - (lzW W : Int) + 1074 + sc).toNat := Nat.two_pow_pos _
  have hcc : 0 < 2 ^ (64 + keptC W x) := Nat.two_pow_pos _
  have f1 := hfl (keptM W x) (by omega) hnorm
  have f2 := hfl (keptM W x + 1) (by omega) (by omega)
  rw [← Nat.add_assoc] at f2
  have b1 : keptM W x * 2 ^ (64 + keptC W x) ≤ W * 2 ^ lzW W := by rw [hMdef]; exact Nat.div_mul_le_self _ _
  have b2 : W * 2 ^ lzW W < (keptM W x + 1) * 2 ^ (64 + keptC W x) := by
    have := Nat.lt_mul_div_succ (W * 2 ^ lzW W) hcc
    rw [Nat.mul_comm (2 ^ (64 + keptC W x))] at this
    rw [hMdef]; exact this
  refine ⟨?_, ?_, ?_⟩
  · rw [f1, hreal]; exact Nat.mul_le_mul_right _ b1
  · rw [f2, hreal]; exact Nat.mul_lt_mul_of_pos_right b2 hpp
  · rw [f1, hreal]
    have key := all_iff (W * 2 ^ lzW W) (keptC W x) hV2
    have hk : keptAll W x = true ↔ (W * 2 ^ lzW W / 18446744073709551616 = W * 2 ^ lzW W / 2 ^ (64 + keptC W x) * 2 ^ keptC W x % 18446744073709551616 ∧ W * 2 ^ lzW W % 18446744073709551616 = 0) := by
      unfold keptAll
      rw [decide_eq_true_eq]
      unfold shlN hiW loW
      rw [hMdef]
    rw [hk, key, ← hMdef]
    constructor
    · intro h; rw [h]
    · intro h; exact Nat.eq_of_mul_eq_mul_right hpp h

theorem rung_floor (W : Nat) (x : Int) (h0 : W ≠ 0) (hW : W < 340282366920938463463374607431768211456) (hx : -5000 ≤ x) (r : Nat) : steps r * 2 ^ sc ≤ real W x ↔ r ≤ rungOf W x false := by
  obtain ⟨k1, k2, _⟩ := kept W x h0 hW hx
  have hp : 0 < 2 ^ sc := Nat.two_pow_pos _
  have e : rungOf W x false = keptK W x * 4503599627370496 + keptM W x := rfl
  rw [e]
  constructor
  · intro h
    have : steps r * 2 ^ sc < steps (keptK W x * 4503599627370496 + keptM W x + 1) * 2 ^ sc := Nat.lt_of_le_of_lt h k2
    have := Nat.lt_of_mul_lt_mul_right this
    rcases Nat.lt_or_ge (keptK W x * 4503599627370496 + keptM W x) r with g | g
    · have := steps_le (show keptK W x * 4503599627370496 + keptM W x + 1 ≤ r from g); omega
    · exact g
  · intro h
    exact Nat.le_trans (Nat.mul_le_mul_right _ (steps_le h)) k1

theorem rung_ceil (W : Nat) (x : Int) (h0 : W ≠ 0) (hW : W < 340282366920938463463374607431768211456) (hx : -5000 ≤ x) (r : Nat) : real W x ≤ steps r * 2 ^ sc ↔ rungOf W x true ≤ r := by
  obtain ⟨k1, k2, k3⟩ := kept W x h0 hW hx
  have hp : 0 < 2 ^ sc := Nat.two_pow_pos _
  cases hA : keptAll W x
  · have e : rungOf W x true = keptK W x * 4503599627370496 + keptM W x + 1 := by unfold rungOf; rw [hA, Nat.add_assoc]; rfl
    rw [e]
    have hne : steps (keptK W x * 4503599627370496 + keptM W x) * 2 ^ sc ≠ real W x := fun h => by rw [k3.2 h] at hA; cases hA
    constructor
    · intro h
      have : steps (keptK W x * 4503599627370496 + keptM W x) * 2 ^ sc < steps r * 2 ^ sc := Nat.lt_of_lt_of_le (Nat.lt_of_le_of_ne k1 hne) h
      have := Nat.lt_of_mul_lt_mul_right this
      rcases Nat.lt_or_ge (keptK W x * 4503599627370496 + keptM W x) r with g | g
      · exact g
      · have := steps_le g; omega
    · intro h
      exact Nat.le_trans (Nat.le_of_lt k2) (Nat.mul_le_mul_right _ (steps_le h))
  · have e : rungOf W x true = keptK W x * 4503599627370496 + keptM W x := by unfold rungOf; rw [hA]; rfl
    rw [e, ← k3.1 hA]
    constructor
    · intro h
      exact (steps_le_iff _ _).1 (Nat.le_of_mul_le_mul_right h hp)
    · intro h
      exact Nat.mul_le_mul_right _ (steps_le h)
end
section
open Go.RowKit

def sw (neg : Bool) (r : Nat) : Nat := if neg && r != 0 then 9223372036854775808 + r else r

theorem sw_false (r : Nat) : sw false r = r := rfl
theorem sw_true (r : Nat) (h : r ≠ 0) : sw true r = 9223372036854775808 + r := by
  unfold sw; rw [if_pos (by simp [h])]
theorem sw_zero (neg : Bool) : sw neg 0 = 0 := by cases neg <;> rfl

theorem sw_facts (neg : Bool) (r : Nat) (h : r ≤ 9218868437227405311) : sw neg r < 18446744073709551616 ∧ rightB (sw neg r) = true ∧ val (sw neg r) = if neg then -(steps r : Int) else (steps r : Int) := by
  have z0 : steps 0 = 0 := rfl
  cases neg
  · rw [sw_false]
    have hs : sgnB r = false := by unfold sgnB; exact decide_eq_false (by omega)
    have hr : rung r = r := by unfold rung; omega
    refine ⟨by omega, ?_, ?_⟩
    · unfold rightB
      rw [decide_eq_true (by omega : r % 9223372036854775808 < 9218868437227405312), decide_eq_false (by omega : ¬ r = 9223372036854775808)]; rfl
    · unfold val; rw [hs, hr]
  · by_cases h0 : r = 0
    · subst h0; rw [sw_zero]
      exact ⟨by decide, by decide, by rw [val_0, z0]; rfl⟩
    · rw [sw_true r h0]
      have hs : sgnB (9223372036854775808 + r) = true := by unfold sgnB; exact decide_eq_true (by omega)
      have hr : rung (9223372036854775808 + r) = r := by unfold rung; omega
      refine ⟨by omega, ?_, ?_⟩
      · unfold rightB
        rw [decide_eq_true (by omega : (9223372036854775808 + r) % 9223372036854775808 < 9218868437227405312), decide_eq_false (by omega : ¬ 9223372036854775808 + r = 9223372036854775808)]; rfl
      · unfold val; rw [hs, hr]

def Down (s : Nat) (T : Int) (c : Nat) (e : Int) : Prop :=
  (e = 0 ∧ c < 18446744073709551616 ∧ rightB c = true ∧ val c * (s : Int) ≤ T ∧ ∀ d, d < 18446744073709551616 → rightB d = true → val d * (s : Int) ≤ T → val d ≤ val c) ∨
  (e = 10 ∧ c = 0 ∧ ∀ d, d < 18446744073709551616 → rightB d = true → T < val d * (s : Int))
def Up (s : Nat) (T : Int) (c : Nat) (e : Int) : Prop :=
  (e = 0 ∧ c < 18446744073709551616 ∧ rightB c = true ∧ T ≤ val c * (s : Int) ∧ ∀ d, d < 18446744073709551616 → rightB d = true → T ≤ val d * (s : Int) → val c ≤ val d) ∨
  (e = 10 ∧ c = 0 ∧ ∀ d, d < 18446744073709551616 → rightB d = true → val d * (s : Int) < T)

theorem val_pos {d : Nat} (h : sgnB d = false) : val d = (steps (rung d) : Int) := by unfold val; rw [h]; rfl
theorem val_negs {d : Nat} (h : sgnB d = true) : val d = -(steps (rung d) : Int) := by unfold val; rw [h]; rfl

theorem cast_le (a s b : Nat) : (a : Int) * (s : Int) ≤ (b : Int) ↔ a * s ≤ b := by rw [← Int.natCast_mul]; exact Int.ofNat_le
theorem le_cast (a s b : Nat) : (b : Int) ≤ (a : Int) * (s : Int) ↔ b ≤ a * s := by rw [← Int.natCast_mul]; exact Int.ofNat_le
theorem neg_cast_le (a s b : Nat) : -(a : Int) * (s : Int) ≤ -(b : Int) ↔ b ≤ a * s := by rw [Int.neg_mul, Int.neg_le_neg_iff]; exact le_cast a s b
theorem le_neg_cast (a s b : Nat) : -(b : Int) ≤ -(a : Int) * (s : Int) ↔ a * s ≤ b := by rw [Int.neg_mul, Int.neg_le_neg_iff]; exact cast_le a s b

theorem rung_max {d : Nat} (h : rightB d = true) : rung d ≤ 9218868437227405311 := by have := right_rung d h; omega

theorem floor_pos (s Tm b : Nat) (hF : ∀ r, steps r * s ≤ Tm ↔ r ≤ b) : Down s Tm (sw false (min b 9218868437227405311)) 0 := by
  obtain ⟨f1, f2, f3⟩ := sw_facts false (min b 9218868437227405311) (Nat.min_le_right _ _)
  have f3' : val (sw false (min b 9218868437227405311)) = (steps (min b 9218868437227405311) : Int) := f3
  refine Or.inl ⟨rfl, f1, f2, ?_, fun d _ hr hd => ?_⟩
  · rw [f3', cast_le]; exact (hF _).2 (Nat.min_le_left _ _)
  · rw [f3']
    cases hc : sgnB d
    · rw [val_pos hc] at hd ⊢
      rw [cast_le] at hd
      exact Int.ofNat_le.2 (steps_le (Nat.le_min.2 ⟨(hF _).1 hd, rung_max hr⟩))
    · rw [val_negs hc]; omega

theorem floor_neg (s Tm b : Nat) (hF : ∀ r, steps r * s ≤ Tm ↔ r ≤ b) : Up s (-(Tm : Int)) (sw true (min b 9218868437227405311)) 0 := by
  obtain ⟨f1, f2, f3⟩ := sw_facts true (min b 9218868437227405311) (Nat.min_le_right _ _)
  have f3' : val (sw true (min b 9218868437227405311)) = -(steps (min b 9218868437227405311) : Int) := f3
  refine Or.inl ⟨rfl, f1, f2, ?_, fun d _ hr hd => ?_⟩
  · rw [f3', le_neg_cast]; exact (hF _).2 (Nat.min_le_left _ _)
  · rw [f3']
    cases hc : sgnB d
    · rw [val_pos hc]; omega
    · rw [val_negs hc] at hd ⊢
      rw [le_neg_cast] at hd
      have := steps_le (Nat.le_min.2 ⟨(hF _).1 hd, rung_max hr⟩)
      omega

theorem neg_rung {d : Nat} (hd : d < 18446744073709551616) (hr : rightB d = true) (hc : sgnB d = true) : 0 < steps (rung d) := by
  have h := (val_neg d hd hr).2 hc
  rw [val_negs hc] at h
  omega

theorem ceil_pos (s Tm b : Nat) (hs : 0 < s) (hG : ∀ r, Tm ≤ steps r * s ↔ b ≤ r) (hb : b ≤ 9218868437227405311) : Up s Tm (sw false b) 0 := by
  obtain ⟨f1, f2, f3⟩ := sw_facts false b hb
  have f3' : val (sw false b) = (steps b : Int) := f3
  refine Or.inl ⟨rfl, f1, f2, ?_, fun d hd1 hr hd => ?_⟩
  · rw [f3', le_cast]; exact (hG _).2 (Nat.le_refl _)
  · rw [f3']
    cases hc : sgnB d
    · rw [val_pos hc] at hd ⊢
      rw [le_cast] at hd
      exact Int.ofNat_le.2 (steps_le ((hG _).1 hd))
    · exfalso
      have hp := Nat.mul_pos (neg_rung hd1 hr hc) hs
      rw [val_negs hc, Int.neg_mul, ← Int.natCast_mul] at hd
      omega

theorem ceil_neg (s Tm b : Nat) (hs : 0 < s) (hG : ∀ r, Tm ≤ steps r * s ↔ b ≤ r) (hb : b ≤ 9218868437227405311) : Down s (-(Tm : Int)) (sw true b) 0 := by
  obtain ⟨f1, f2, f3⟩ := sw_facts true b hb
  have f3' : val (sw true b) = -(steps b : Int) := f3
  refine Or.inl ⟨rfl, f1, f2, ?_, fun d hd1 hr hd => ?_⟩
  · rw [f3', neg_cast_le]; exact (hG _).2 (Nat.le_refl _)
  · rw [f3']
    cases hc : sgnB d
    · rw [val_pos hc] at hd ⊢
      have h0 : Tm = 0 ∧ steps (rung d) * s = 0 := by rw [← Int.natCast_mul] at hd; omega
      have hb0 : b = 0 := by
        have := (hG 0).1 (by rw [h0.1]; exact Nat.zero_le _); omega
      have hz : steps (rung d) = 0 := by
        rcases Nat.mul_eq_zero.1 h0.2 with h | h
        · exact h
        · omega
      rw [hb0, hz]; decide
    · rw [val_negs hc] at hd ⊢
      rw [neg_cast_le] at hd
      have := steps_le ((hG _).1 hd)
      omega

theorem none_pos (s Tm b : Nat) (hG : ∀ r, Tm ≤ steps r * s ↔ b ≤ r) (hb : 9218868437227405311 < b) : Up s Tm 0 10 := by
  refine Or.inr ⟨rfl, rfl, fun d _ hr => ?_⟩
  have hm := rung_max hr
  have h1 : ¬ Tm ≤ steps (rung d) * s := fun h => by have := (hG _).1 h; omega
  cases hc : sgnB d
  · rw [val_pos hc, ← Int.natCast_mul]; omega
  · rw [val_negs hc, Int.neg_mul, ← Int.natCast_mul]; omega

theorem none_neg (s Tm b : Nat) (hG : ∀ r, Tm ≤ steps r * s ↔ b ≤ r) (hb : 9218868437227405311 < b) : Down s (-(Tm : Int)) 0 10 := by
  refine Or.inr ⟨rfl, rfl, fun d _ hr => ?_⟩
  have hm := rung_max hr
  have h1 : ¬ Tm ≤ steps (rung d) * s := fun h => by have := (hG _).1 h; omega
  cases hc : sgnB d
  · rw [val_pos hc, ← Int.natCast_mul]; omega
  · rw [val_negs hc, Int.neg_mul, ← Int.natCast_mul]; omega

theorem pack_floor (neg : Bool) (b : Nat) : packW neg b false = sw neg (min b 9218868437227405311) ∧ packE b false = 0 := by
  refine ⟨?_, (packE_ok b false (by simp)).symm⟩
  unfold packW
  by_cases h : 9218868437227405312 ≤ b
  · rw [if_pos h, Nat.min_eq_right (by omega)]
    cases neg
    · rfl
    · exact (sw_true 9218868437227405311 (by decide)).symm
  · rw [if_neg h, Nat.min_eq_left (by omega)]; rfl

theorem pack_ceil (neg : Bool) (b : Nat) (h : b ≤ 9218868437227405311) : packW neg b true = sw neg b ∧ packE b true = 0 := by
  refine ⟨?_, (packE_ok b true (by omega)).symm⟩
  unfold packW
  rw [if_neg (by omega)]; rfl

def sg (neg : Bool) (T : Nat) : Int := if neg then -(T : Int) else (T : Int)

theorem round_real (neg : Bool) (W : Nat) (x : Int) (up : Bool) (s Tm : Nat) (hs : 0 < s) (hW : W < 340282366920938463463374607431768211456) (hx : -5000 ≤ x)
    (hF : ∀ r, steps r * s ≤ Tm ↔ steps r * 2 ^ sc ≤ real W x) (hG : ∀ r, Tm ≤ steps r * s ↔ real W x ≤ steps r * 2 ^ sc) :
    (up = false → Down s (sg neg Tm) (roundW neg W x up) (roundE neg W x up)) ∧ (up = true → Up s (sg neg Tm) (roundW neg W x up) (roundE neg W x up)) := by
  have hp : 0 < 2 ^ sc := Nat.two_pow_pos _
  by_cases h0 : W = 0
  · subst h0
    have hr0 : real 0 x = 0 := Nat.zero_mul _
    rw [hr0] at hF hG
    have hF' : ∀ r, steps r * s ≤ Tm ↔ r ≤ 0 := fun r => by
      rw [hF r, Nat.le_zero, Nat.mul_eq_zero, Nat.le_zero]
      constructor
      · rintro (h | h)
        · exact (steps_zero r).1 h
        · omega
      · intro h; exact Or.inl ((steps_zero r).2 h)
    have hG' : ∀ r, Tm ≤ steps r * s ↔ 0 ≤ r := fun r => by rw [hG r]; exact ⟨fun _ => Nat.zero_le _, fun _ => Nat.zero_le _⟩
    have e1 : roundW neg 0 x up = 0 := if_pos rfl
    have e2 : roundE neg 0 x up = 0 := if_pos rfl
    rw [e1, e2]
    have a1 := floor_pos s Tm 0 hF'
    have a2 := floor_neg s Tm 0 hF'
    have a3 := ceil_pos s Tm 0 hs hG' (by decide)
    have a4 := ceil_neg s Tm 0 hs hG' (by decide)
    rw [Nat.zero_min, sw_zero] at a1 a2
    rw [sw_zero] at a3 a4
    cases neg
    · exact ⟨fun _ => a1, fun _ => a3⟩
    · exact ⟨fun _ => a4, fun _ => a2⟩
  · have hF' : ∀ r, steps r * s ≤ Tm ↔ r ≤ rungOf W x false := fun r => (hF r).trans (rung_floor W x h0 hW hx r)
    have hG' : ∀ r, Tm ≤ steps r * s ↔ rungOf W x true ≤ r := fun r => (hG r).trans (rung_ceil W x h0 hW hx r)
    have e1 : roundW neg W x up = packW neg (rungOf W x (up != neg)) (up != neg) := if_neg h0
    have e2 : roundE neg W x up = packE (rungOf W x (up != neg)) (up != neg) := if_neg h0
    rw [e1, e2]
    cases neg <;> cases up
    · obtain ⟨p1, p2⟩ := pack_floor false (rungOf W x false)
      refine ⟨fun _ => ?_, fun h => by cases h⟩
      show Down s Tm (packW false (rungOf W x false) false) (packE (rungOf W x false) false)
      rw [p1, p2]; exact floor_pos s Tm _ hF'
    · refine ⟨fun h => (by cases h), fun _ => ?_⟩
      show Up s Tm (packW false (rungOf W x true) true) (packE (rungOf W x true) true)
      by_cases hb : rungOf W x true ≤ 9218868437227405311
      · obtain ⟨p1, p2⟩ := pack_ceil false _ hb
        rw [p1, p2]; exact ceil_pos s Tm _ hs hG' hb
      · obtain ⟨p1, p2⟩ := pack_over false (rungOf W x true) (by omega)
        rw [← p1, ← p2]; exact none_pos s Tm _ hG' (by omega)
    · refine ⟨fun _ => ?_, fun h => by cases h⟩
      show Down s (-(Tm : Int)) (packW true (rungOf W x true) true) (packE (rungOf W x true) true)
      by_cases hb : rungOf W x true ≤ 9218868437227405311
      · obtain ⟨p1, p2⟩ := pack_ceil true _ hb
        rw [p1, p2]; exact ceil_neg s Tm _ hs hG' hb
      · obtain ⟨p1, p2⟩ := pack_over true (rungOf W x true) (by omega)
        rw [← p1, ← p2]; exact none_neg s Tm _ hG' (by omega)
    · obtain ⟨p1, p2⟩ := pack_floor true (rungOf W x false)
      refine ⟨fun h => (by cases h), fun _ => ?_⟩
      show Up s (-(Tm : Int)) (packW true (rungOf W x false) false) (packE (rungOf W x false) false)
      rw [p1, p2]; exact floor_neg s Tm _ hF'
end
section
open Go.RowKit

theorem same_scale (s Tm P R : Nat) (hP : 0 < P) (h1 : s * P = 2 ^ sc) (h2 : Tm * P = R) :
    (∀ r, steps r * s ≤ Tm ↔ steps r * 2 ^ sc ≤ R) ∧ (∀ r, Tm ≤ steps r * s ↔ R ≤ steps r * 2 ^ sc) := by
  refine ⟨fun r => ?_, fun r => ?_⟩
  · rw [← h1, ← h2, ← Nat.mul_assoc]; exact (Nat.mul_le_mul_right_iff hP).symm
  · rw [← h1, ← h2, ← Nat.mul_assoc]; exact (Nat.mul_le_mul_right_iff hP).symm

theorem gap_above (a : Nat) : steps (rung a + 1) = steps (rung a) + 2 ^ (expo a + 1074).toNat := by
  rw [steps_succ]
  congr 2
  unfold expo
  split <;> omega

theorem gap_below (a : Nat) (h : -1074 < expo a) : 0 < rung a ∧ steps (rung a - 1) + 2 ^ (expo a + 1073).toNat ≤ steps (rung a) := by
  have hq : rung a / 4503599627370496 ≠ 0 ∧ (expo a + 1073).toNat = rung a / 4503599627370496 - 2 ∧ 2 ≤ rung a / 4503599627370496 := by
    unfold expo at h ⊢
    split at h
    · omega
    · rename_i g; rw [if_neg g]; omega
  have hr : 0 < rung a := by omega
  refine ⟨hr, ?_⟩
  have e := steps_succ (rung a - 1)
  rw [Nat.sub_add_cancel hr] at e
  rw [e, hq.2.1]
  exact Nat.add_le_add_left (Nat.pow_le_pow_right (by decide) (by omega)) _

theorem little (a B B' : Nat) (h : -1074 < expo a) (h1 : 0 < B) (h2 : B < 2 ^ (expo a + 1073).toNat) (h1' : 0 < B') (h2' : B' < 2 ^ (expo a + 1073).toNat) (r : Nat) :
    (steps r ≤ steps (rung a) + B ↔ steps r ≤ steps (rung a) + B') ∧ (steps (rung a) + B ≤ steps r ↔ steps (rung a) + B' ≤ steps r) ∧
    (steps r ≤ steps (rung a) - B ↔ steps r ≤ steps (rung a) - B') ∧ (steps (rung a) - B ≤ steps r ↔ steps (rung a) - B' ≤ steps r) := by
  have g1 := gap_above a
  obtain ⟨hr, g2⟩ := gap_below a h
  have e : 2 ^ (expo a + 1074).toNat = 2 * 2 ^ (expo a + 1073).toNat := by
    rw [show (expo a + 1074).toNat = (expo a + 1073).toNat + 1 by omega, Nat.pow_succ, Nat.mul_comm]
  rw [e] at g1
  generalize 2 ^ (expo a + 1073).toNat = H at *
  rcases Nat.lt_trichotomy r (rung a) with c | c | c
  · have := steps_le (show r ≤ rung a - 1 by omega)
    omega
  · subst c; omega
  · have := steps_le (show rung a + 1 ≤ r by omega)
    omega

theorem sumW_t (m V : Nat) : sumW true m V = m * 18446744073709551616 + V := if_pos rfl
theorem sumW_f (m V : Nat) : sumW false m V = m * 18446744073709551616 - V := if_neg Bool.false_ne_true
def plusOr (same : Bool) (A B : Nat) : Nat := if same then A + B else A - B
theorem plusOr_t (A B : Nat) : plusOr true A B = A + B := if_pos rfl
theorem plusOr_f (A B : Nat) : plusOr false A B = A - B := if_neg Bool.false_ne_true

theorem scale_a (a : Nat) (h : -1074 ≤ expo a) : mant a * 18446744073709551616 * 2 ^ (expo a - 64 + 1074 + (sc : Int)).toNat = steps (rung a) * 2 ^ sc := by
  have hs := sc_eq
  have e64 : (18446744073709551616 : Nat) = 2 ^ 64 := by decide
  rw [steps_parts, Nat.mul_assoc, Nat.mul_assoc, e64, ← Nat.pow_add, ← Nat.pow_add]
  congr 2; omega

theorem real_plus (same : Bool) (a V Z : Nat) (h : -1074 ≤ expo a) (hV : V * 2 ^ (expo a - 64 + 1074 + (sc : Int)).toNat = Z * 2 ^ sc) :
    real (sumW same (mant a) V) (expo a - 64) = plusOr same (steps (rung a)) Z * 2 ^ sc := by
  have eA := scale_a a h
  unfold real
  cases same
  · rw [sumW_f, plusOr_f, Nat.sub_mul, Nat.sub_mul, eA, hV]
  · rw [sumW_t, plusOr_t, Nat.add_mul, Nat.add_mul, eA, hV]

theorem below_of (a b : Nat) (xa : -1074 ≤ expo a) (xb : -1074 ≤ expo b) (hord : ¬ (expo a < expo b ∨ expo a = expo b ∧ (mant a : Int) < mant b)) : steps (rung b) ≤ steps (rung a) := by
  rw [steps_parts, steps_parts]
  by_cases c : expo a = expo b
  · rw [c]; exact Nat.mul_le_mul_right _ (by omega)
  · have hlt : expo b < expo a := by omega
    have hmb := mant_lt b
    have h1 := mant_norm a (by omega)
    have e : (expo a + 1074).toNat = (expo b + 1074).toNat + (expo a - expo b).toNat := by omega
    have h2 : 2 ^ 1 ≤ 2 ^ (expo a - expo b).toNat := Nat.pow_le_pow_right (by decide) (by omega)
    rw [e, Nat.pow_add, ← Nat.mul_assoc, Nat.mul_right_comm]
    refine Nat.mul_le_mul_right _ ?_
    have h3 := Nat.mul_le_mul h1 h2
    exact Nat.le_trans (Nat.le_of_lt hmb) h3

theorem lower_small (a b : Nat) (xb : -1074 ≤ expo b) (hd : 64 < expo a - expo b) : steps (rung b) < 2 ^ (expo a + 1073).toNat := by
  rw [steps_parts]
  have h1 : mant b * 2 ^ (expo b + 1074).toNat < 9007199254740992 * 2 ^ (expo b + 1074).toNat := Nat.mul_lt_mul_of_pos_right (mant_lt b) (Nat.two_pow_pos _)
  have e53 : (9007199254740992 : Nat) = 2 ^ 53 := by decide
  refine Nat.lt_of_lt_of_le h1 ?_
  rw [e53, ← Nat.pow_add]
  exact Nat.pow_le_pow_right (by decide) (by omega)

theorem sum_far (a b : Nat) (xa : -1074 ≤ expo a) (xb : -1074 ≤ expo b) (hd : 64 < expo a - expo b) (same : Bool) :
    (∀ r, steps r * 1 ≤ plusOr same (steps (rung a)) (steps (rung b)) ↔ steps r * 2 ^ sc ≤ real (sumW same (mant a) (lowerW (mant b) (expo a - expo b))) (expo a - 64)) ∧
    (∀ r, plusOr same (steps (rung a)) (steps (rung b)) ≤ steps r * 1 ↔ real (sumW same (mant a) (lowerW (mant b) (expo a - expo b))) (expo a - 64) ≤ steps r * 2 ^ sc) := by
  have hs := sc_eq
  have hp : 0 < 2 ^ sc := Nat.two_pow_pos _
  have eL : lowerW (mant b) (expo a - expo b) = min (mant b) 1 := lower_far _ _ hd
  rw [eL]
  by_cases hb0 : mant b = 0
  · have hB0 : steps (rung b) = 0 := by rw [steps_parts, hb0, Nat.zero_mul]
    rw [hb0, hB0, Nat.zero_min]
    exact same_scale 1 _ (2 ^ sc) _ hp (Nat.one_mul _) (real_plus same a 0 0 xa (by rw [Nat.zero_mul, Nat.zero_mul])).symm
  · have hmin : min (mant b) 1 = 1 := Nat.min_eq_right (Nat.pos_of_ne_zero hb0)
    rw [hmin]
    have hea : -1074 < expo a := by omega
    have eM : 1 * 2 ^ (expo a - 64 + 1074 + (sc : Int)).toNat = 2 ^ (expo a + 1010).toNat * 2 ^ sc := by
      rw [Nat.one_mul, ← Nat.pow_add]; congr 1; omega
    have hB1 : 0 < steps (rung b) := by
      rw [steps_parts]; exact Nat.mul_pos (Nat.pos_of_ne_zero hb0) (Nat.two_pow_pos _)
    have hM2 : 2 ^ (expo a + 1010).toNat < 2 ^ (expo a + 1073).toNat := Nat.pow_lt_pow_right (by decide) (by omega)
    have hlit := little a (steps (rung b)) (2 ^ (expo a + 1010).toNat) hea hB1 (lower_small a b xb hd) (Nat.two_pow_pos _) hM2
    rw [real_plus same a 1 _ xa eM]
    cases same
    · rw [plusOr_f, plusOr_f]
      refine ⟨fun r => ?_, fun r => ?_⟩
      · rw [Nat.mul_one]; exact (hlit r).2.2.1.trans (Nat.mul_le_mul_right_iff hp).symm
      · rw [Nat.mul_one]; exact (hlit r).2.2.2.trans (Nat.mul_le_mul_right_iff hp).symm
    · rw [plusOr_t, plusOr_t]
      refine ⟨fun r => ?_, fun r => ?_⟩
      · rw [Nat.mul_one]; exact (hlit r).1.trans (Nat.mul_le_mul_right_iff hp).symm
      · rw [Nat.mul_one]; exact (hlit r).2.1.trans (Nat.mul_le_mul_right_iff hp).symm

theorem sum_near (a b : Nat) (xa : -1074 ≤ expo a) (xb : -1074 ≤ expo b) (h0 : 0 ≤ expo a - expo b) (hd : ¬ 64 < expo a - expo b) (same : Bool) :
    (∀ r, steps r * 1 ≤ plusOr same (steps (rung a)) (steps (rung b)) ↔ steps r * 2 ^ sc ≤ real (sumW same (mant a) (lowerW (mant b) (expo a - expo b))) (expo a - 64)) ∧
    (∀ r, plusOr same (steps (rung a)) (steps (rung b)) ≤ steps r * 1 ↔ real (sumW same (mant a) (lowerW (mant b) (expo a - expo b))) (expo a - 64) ≤ steps r * 2 ^ sc) := by
  have hs := sc_eq
  have hp : 0 < 2 ^ sc := Nat.two_pow_pos _
  have eL : lowerW (mant b) (expo a - expo b) = mant b * 2 ^ (64 - (expo a - expo b).toNat) := if_neg hd
  rw [eL]
  have eB : mant b * 2 ^ (64 - (expo a - expo b).toNat) * 2 ^ (expo a - 64 + 1074 + (sc : Int)).toNat = steps (rung b) * 2 ^ sc := by
    rw [steps_parts, Nat.mul_assoc, Nat.mul_assoc, ← Nat.pow_add, ← Nat.pow_add]
    congr 2; omega
  exact same_scale 1 _ (2 ^ sc) _ hp (Nat.one_mul _) (real_plus same a _ _ xa eB).symm

theorem sum_real (a b : Nat) (xa : -1074 ≤ expo a) (xb : -1074 ≤ expo b) (hn : nearB (expo a) (expo b) (mant a) (mant b) = false) (same : Bool) :
    steps (rung b) ≤ steps (rung a) ∧
    (∀ r, steps r * 1 ≤ plusOr same (steps (rung a)) (steps (rung b)) ↔ steps r * 2 ^ sc ≤ real (sumW same (mant a) (lowerW (mant b) (expo a - expo b))) (expo a - 64)) ∧
    (∀ r, plusOr same (steps (rung a)) (steps (rung b)) ≤ steps r * 1 ↔ real (sumW same (mant a) (lowerW (mant b) (expo a - expo b))) (expo a - 64) ≤ steps r * 2 ^ sc) := by
  have hord : ¬ (expo a < expo b ∨ expo a = expo b ∧ (mant a : Int) < mant b) := by unfold nearB at hn; exact of_decide_eq_false hn
  refine ⟨below_of a b xa xb hord, ?_⟩
  by_cases hd : 64 < expo a - expo b
  · exact sum_far a b xa xb hd same
  · exact sum_near a b xa xb (by omega) hd same

theorem near_flip (e f m n : Int) (h : nearB e f m n = true) : nearB f e n m = false := by
  unfold nearB at *
  have := of_decide_eq_true h
  exact decide_eq_false (by omega)

theorem sg_plus (s t : Bool) (A B : Nat) (h : B ≤ A) : sg s (plusOr (s == t) A B) = sg s A + sg t B := by
  cases s <;> cases t
  · show ((plusOr true A B : Nat) : Int) = (A : Int) + (B : Int); rw [plusOr_t]; omega
  · show ((plusOr false A B : Nat) : Int) = (A : Int) + -(B : Int); rw [plusOr_f]; omega
  · show -((plusOr false A B : Nat) : Int) = -(A : Int) + (B : Int); rw [plusOr_f]; omega
  · show -((plusOr true A B : Nat) : Int) = -(A : Int) + -(B : Int); rw [plusOr_t]; omega

theorem plus_dir (s t : Bool) (a b : Nat) (ra : rightB a = true) (rb : rightB b = true) (up : Bool) :
    (up = false → Down 1 (sg s (steps (rung a)) + sg t (steps (rung b))) (roundW (plusN s t (mant a) (mant b) (expo a) (expo b)) (plusW s t (mant a) (mant b) (expo a) (expo b)) (plusX (mant a) (mant b) (expo a) (expo b)) up) (roundE (plusN s t (mant a) (mant b) (expo a) (expo b)) (plusW s t (mant a) (mant b) (expo a) (expo b)) (plusX (mant a) (mant b) (expo a) (expo b)) up)) ∧
    (up = true → Up 1 (sg s (steps (rung a)) + sg t (steps (rung b))) (roundW (plusN s t (mant a) (mant b) (expo a) (expo b)) (plusW s t (mant a) (mant b) (expo a) (expo b)) (plusX (mant a) (mant b) (expo a) (expo b)) up) (roundE (plusN s t (mant a) (mant b) (expo a) (expo b)) (plusW s t (mant a) (mant b) (expo a) (expo b)) (plusX (mant a) (mant b) (expo a) (expo b)) up)) := by
  have xa := expo_in a ra
  have xb := expo_in b rb
  have hlt := plusW_lt s t (mant a) (mant b) (expo a) (expo b) (mant_lt a) (mant_lt b) (mant_norm a) (mant_norm b) xa.1 xb.1
  have hx := plusX_in (mant a) (mant b) (expo a) (expo b) xa.1 (by omega) xb.1 (by omega)
  cases hn : nearB (expo a) (expo b) (mant a) (mant b)
  · obtain ⟨h1, h2, h3⟩ := sum_real a b xa.1 xb.1 hn (s == t)
    have eN : plusN s t (mant a) (mant b) (expo a) (expo b) = s := if_neg (by rw [hn]; exact Bool.false_ne_true)
    have eW : plusW s t (mant a) (mant b) (expo a) (expo b) = sumW (s == t) (mant a) (lowerW (mant b) (expo a - expo b)) := if_neg (by rw [hn]; exact Bool.false_ne_true)
    have eX : plusX (mant a) (mant b) (expo a) (expo b) = expo a - 64 := if_neg (by rw [hn]; exact Bool.false_ne_true)
    rw [eW] at hlt
    rw [eN, eW, eX, ← sg_plus s t _ _ h1]
    exact round_real s _ _ up 1 _ (by decide) hlt (by omega) h2 h3
  · obtain ⟨h1, h2, h3⟩ := sum_real b a xb.1 xa.1 (near_flip _ _ _ _ hn) (t == s)
    have eN : plusN s t (mant a) (mant b) (expo a) (expo b) = t := if_pos hn
    have eW : plusW s t (mant a) (mant b) (expo a) (expo b) = sumW (t == s) (mant b) (lowerW (mant a) (expo b - expo a)) := if_pos hn
    have eX : plusX (mant a) (mant b) (expo a) (expo b) = expo b - 64 := if_pos hn
    rw [eW] at hlt
    rw [eN, eW, eX, Int.add_comm, ← sg_plus t s _ _ h1]
    exact round_real t _ _ up 1 _ (by decide) hlt (by omega) h2 h3

theorem val_sg (a : Nat) : val a = sg (sgnB a) (steps (rung a)) := rfl
theorem neg_sg (s : Bool) (A : Nat) : sg (!s) A = -sg s A := by cases s <;> simp [sg]

theorem add_down (a b : Nat) (ra : rightB a = true) (rb : rightB b = true) : Down 1 (val a + val b) (addW a b false) (addE a b false) := by
  have e1 : addW a b false = _ := if_pos (by rw [ra, rb]; rfl)
  have e2 : addE a b false = _ := if_pos (by rw [ra, rb]; rfl)
  rw [e1, e2]; exact (plus_dir (sgnB a) (sgnB b) a b ra rb false).1 rfl
theorem add_up (a b : Nat) (ra : rightB a = true) (rb : rightB b = true) : Up 1 (val a + val b) (addW a b true) (addE a b true) := by
  have e1 : addW a b true = _ := if_pos (by rw [ra, rb]; rfl)
  have e2 : addE a b true = _ := if_pos (by rw [ra, rb]; rfl)
  rw [e1, e2]; exact (plus_dir (sgnB a) (sgnB b) a b ra rb true).2 rfl
theorem sub_down (a b : Nat) (ra : rightB a = true) (rb : rightB b = true) : Down 1 (val a - val b) (subW a b false) (subE a b false) := by
  have e1 : subW a b false = _ := if_pos (by rw [ra, rb]; rfl)
  have e2 : subE a b false = _ := if_pos (by rw [ra, rb]; rfl)
  rw [e1, e2, Int.sub_eq_add_neg, val_sg b, ← neg_sg]; exact (plus_dir (sgnB a) (!sgnB b) a b ra rb false).1 rfl
theorem sub_up (a b : Nat) (ra : rightB a = true) (rb : rightB b = true) : Up 1 (val a - val b) (subW a b true) (subE a b true) := by
  have e1 : subW a b true = _ := if_pos (by rw [ra, rb]; rfl)
  have e2 : subE a b true = _ := if_pos (by rw [ra, rb]; rfl)
  rw [e1, e2, Int.sub_eq_add_neg, val_sg b, ← neg_sg]; exact (plus_dir (sgnB a) (!sgnB b) a b ra rb true).2 rfl

def sq : Nat := 1074
theorem sq_eq : sq = 1074 := rfl

theorem mul_real (a b : Nat) (xa : -1074 ≤ expo a) (xb : -1074 ≤ expo b) :
    (∀ r, steps r * 2 ^ sq ≤ steps (rung a) * steps (rung b) ↔ steps r * 2 ^ sc ≤ real (mant a * mant b) (expo a + expo b)) ∧
    (∀ r, steps (rung a) * steps (rung b) ≤ steps r * 2 ^ sq ↔ real (mant a * mant b) (expo a + expo b) ≤ steps r * 2 ^ sc) := by
  have hs := sc_eq
  have hq := sq_eq
  refine same_scale _ _ (2 ^ (sc - sq)) _ (Nat.two_pow_pos _) ?_ ?_
  · rw [← Nat.pow_add]; congr 1
  · unfold real
    rw [steps_parts, steps_parts, Nat.mul_mul_mul_comm, Nat.mul_assoc, ← Nat.pow_add, ← Nat.pow_add]
    congr 2; omega

theorem sg_mul (s t : Bool) (A B : Nat) : sg (!(s == t)) (A * B) = sg s A * sg t B := by
  cases s <;> cases t <;> simp [sg, Int.natCast_mul, Int.neg_mul, Int.mul_neg]

theorem mul_dir (a b : Nat) (ra : rightB a = true) (rb : rightB b = true) (up : Bool) :
    (up = false → Down (2 ^ sq) (val a * val b) (mulW a b up) (mulE a b up)) ∧ (up = true → Up (2 ^ sq) (val a * val b) (mulW a b up) (mulE a b up)) := by
  have xa := expo_in a ra
  have xb := expo_in b rb
  obtain ⟨h2, h3⟩ := mul_real a b xa.1 xb.1
  have hlt : mant a * mant b < 340282366920938463463374607431768211456 := Nat.lt_of_le_of_lt (Nat.mul_le_mul (Nat.le_of_lt (mant_lt a)) (Nat.le_of_lt (mant_lt b))) (by decide)
  have e1 : mulW a b up = _ := if_pos (by rw [ra, rb]; rfl)
  have e2 : mulE a b up = _ := if_pos (by rw [ra, rb]; rfl)
  rw [e1, e2, val_sg a, val_sg b, ← sg_mul]
  exact round_real _ _ _ up _ _ (Nat.two_pow_pos _) hlt (by omega) h2 h3
end
section
open Go.RowKit

theorem steps_form (r : Nat) : ∃ u k, steps r = u * 2 ^ k ∧ u < 9007199254740992 := by
  unfold steps
  split
  · exact ⟨r, 0, by rw [Nat.pow_zero, Nat.mul_one], by omega⟩
  · exact ⟨_, _, rfl, by omega⟩

theorem grain (r q E : Nat) (hq : 4611686018427387904 ≤ q) : steps r * 2 ^ sc ≤ q * 2 ^ E ∨ ∃ t, steps r * 2 ^ sc = t * 2 ^ E := by
  obtain ⟨u, k, h1, h2⟩ := steps_form r
  rw [h1, Nat.mul_assoc, ← Nat.pow_add]
  rcases Nat.lt_or_ge (k + sc) E with g | g
  · left
    have a1 : 2 ^ (k + sc) ≤ 2 ^ E := Nat.pow_le_pow_right (by decide) (by omega)
    exact Nat.mul_le_mul (by omega) a1
  · right
    refine ⟨u * 2 ^ (k + sc - E), ?_⟩
    rw [Nat.mul_assoc, ← Nat.pow_add]
    congr 2; omega

theorem cell_div (Y q P P' N o K : Nat) (hY : Y ≤ q * P ∨ ∃ t, Y = t * P) (hP : P = K * P') (hP' : 0 < P') (ho : o < N) (hN : N ≤ K) :
    (Y * N ≤ (q * N + o) * P ↔ Y ≤ q * P + o * P') ∧ ((q * N + o) * P ≤ Y * N ↔ q * P + o * P' ≤ Y) := by
  have hNp : 0 < N := by omega
  have hPp : 0 < P := by rw [hP]; exact Nat.mul_pos (by omega) hP'
  have hoP : o * P' < P := by rw [hP]; exact Nat.mul_lt_mul_of_pos_right (by omega) hP'
  by_cases hc : Y ≤ q * P
  · have h1 : Y * N ≤ q * N * P := by rw [Nat.mul_right_comm]; exact Nat.mul_le_mul_right _ hc
    rw [Nat.add_mul]
    refine ⟨⟨fun _ => by omega, fun _ => by omega⟩, ?_⟩
    constructor
    · intro h
      have ho0 : o * P = 0 := by omega
      have ho1 : o = 0 := by rcases Nat.mul_eq_zero.1 ho0 with g | g <;> omega
      subst ho1
      have h2 : q * P * N ≤ Y * N := by rw [Nat.mul_right_comm]; omega
      have := Nat.le_of_mul_le_mul_right h2 hNp
      omega
    · intro h
      have ho0 : o * P' = 0 := by omega
      have ho1 : o = 0 := by rcases Nat.mul_eq_zero.1 ho0 with g | g <;> omega
      subst ho1
      have h2 : q * P ≤ Y := by omega
      have h3 := Nat.mul_le_mul_right N h2
      rw [Nat.mul_right_comm] at h3
      omega
  · obtain ⟨t, rfl⟩ : ∃ t, Y = t * P := by
      rcases hY with h | h
      · exact absurd h hc
      · exact h
    have ht : q + 1 ≤ t := by
      rcases Nat.lt_or_ge q t with g | g
      · exact g
      · exact absurd (Nat.mul_le_mul_right P g) hc
    have h1 : (q + 1) * P ≤ t * P := Nat.mul_le_mul_right _ ht
    have h2 : (q + 1) * N ≤ t * N := Nat.mul_le_mul_right _ ht
    rw [Nat.add_mul, Nat.one_mul] at h1 h2
    have h3 : q * N + o < t * N := by omega
    have h4 : (q * N + o) * P < t * P * N := by rw [Nat.mul_right_comm]; exact Nat.mul_lt_mul_of_pos_right h3 hPp
    refine ⟨⟨fun h => by omega, fun h => by omega⟩, ⟨fun _ => by omega, fun _ => by omega⟩⟩

theorem cell_root (Y q P P' V o K : Nat) (hY : Y ≤ q * P ∨ ∃ t, Y = t * P) (hP : P = K * P') (hP' : 0 < P') (hK : 1 < K) (ho : o ≤ 1) (h1 : q * q ≤ V) (h2 : V < (q + 1) * (q + 1)) (hoz : o = 0 ↔ q * q = V) :
    (Y * Y ≤ V * (P * P) ↔ Y ≤ q * P + o * P') ∧ (V * (P * P) ≤ Y * Y ↔ q * P + o * P' ≤ Y) := by
  have hPp : 0 < P := by rw [hP]; exact Nat.mul_pos (by omega) hP'
  have hPP : 0 < P * P := Nat.mul_pos hPp hPp
  have hoP : o * P' < P := by rw [hP]; exact Nat.mul_lt_mul_of_pos_right (by omega) hP'
  have hqq : q * P * (q * P) = q * q * (P * P) := Nat.mul_mul_mul_comm _ _ _ _
  by_cases hc : Y ≤ q * P
  · have h3 : Y * Y ≤ q * q * (P * P) := by rw [← hqq]; exact Nat.mul_le_mul hc hc
    have h4 := Nat.mul_le_mul_right (P * P) h1
    refine ⟨⟨fun _ => by omega, fun _ => by omega⟩, ?_⟩
    constructor
    · intro h
      have h5 : V * (P * P) ≤ q * q * (P * P) := Nat.le_trans h h3
      have h6 := Nat.le_of_mul_le_mul_right h5 hPP
      have h7 : q * q = V := by omega
      have ho0 := hoz.2 h7
      subst ho0
      rw [← h7, ← hqq] at h
      rcases Nat.lt_or_ge Y (q * P) with g | g
      · have := Nat.mul_lt_mul_of_lt_of_le g hc (by omega); omega
      · omega
    · intro h
      have ho0 : o * P' = 0 := by omega
      have ho1 : o = 0 := by rcases Nat.mul_eq_zero.1 ho0 with g | g <;> omega
      have h7 := hoz.1 ho1
      have h8 : q * P ≤ Y := by omega
      rw [← h7, ← hqq]
      exact Nat.mul_le_mul h8 h8
  · obtain ⟨t, rfl⟩ : ∃ t, Y = t * P := by
      rcases hY with h | h
      · exact absurd h hc
      · exact h
    have ht : q + 1 ≤ t := by
      rcases Nat.lt_or_ge q t with g | g
      · exact g
      · exact absurd (Nat.mul_le_mul_right P g) hc
    have h3 : (q + 1) * P ≤ t * P := Nat.mul_le_mul_right _ ht
    rw [Nat.add_mul, Nat.one_mul] at h3
    have h4 := Nat.mul_le_mul ht ht
    have h5 : V * (P * P) < t * P * (t * P) := by
      rw [Nat.mul_mul_mul_comm]; exact Nat.mul_lt_mul_of_pos_right (by omega) hPP
    refine ⟨⟨fun h => by omega, fun h => by omega⟩, ⟨fun _ => by omega, fun _ => by omega⟩⟩

theorem iff_scale (X Z X' Z' C C' : Nat) (hC : 0 < C) (hC' : 0 < C') (h1 : X * C = X' * C') (h2 : Z * C = Z' * C') : (X ≤ Z ↔ X' ≤ Z') ∧ (Z ≤ X ↔ Z' ≤ X') := by
  have a1 : X ≤ Z ↔ X * C ≤ Z * C := (Nat.mul_le_mul_right_iff hC).symm
  have a2 : X' ≤ Z' ↔ X' * C' ≤ Z' * C' := (Nat.mul_le_mul_right_iff hC').symm
  have b1 : Z ≤ X ↔ Z * C ≤ X * C := (Nat.mul_le_mul_right_iff hC).symm
  have b2 : Z' ≤ X' ↔ Z' * C' ≤ X' * C' := (Nat.mul_le_mul_right_iff hC').symm
  rw [a1, a2, b1, b2, h1, h2]
  exact ⟨Iff.rfl, Iff.rfl⟩

theorem quo_big (m n : Nat) (hm : m < 9007199254740992) (hn : n < 9007199254740992) (hm0 : m ≠ 0) (hn0 : n ≠ 0) : 4611686018427387904 ≤ m * 2 ^ (lz64 m - 1) * 18446744073709551616 / (n * 2 ^ lz64 n) := by
  obtain ⟨h1, h2⟩ := lz_shift n hn0 (by omega)
  obtain ⟨h3, _⟩ := lz_shift m hm0 (by omega)
  have hl := lz_ge m hm
  have e : 2 ^ lz64 m = 2 ^ (lz64 m - 1) * 2 := by rw [← Nat.pow_succ]; congr 1; omega
  rw [e, ← Nat.mul_assoc] at h3
  rw [Nat.le_div_iff_mul_le (by omega)]
  have h4 : 4611686018427387904 * (n * 2 ^ lz64 n) ≤ 4611686018427387904 * 18446744073709551616 := Nat.mul_le_mul_left _ (Nat.le_of_lt h2)
  have h5 : 4611686018427387904 * 18446744073709551616 ≤ m * 2 ^ (lz64 m - 1) * 18446744073709551616 := Nat.mul_le_mul_right _ (by omega)
  exact Nat.le_trans h4 h5

theorem div_real (a b : Nat) (xa : -1074 ≤ expo a) (xa1 : expo a ≤ 971) (xb : -1074 ≤ expo b) (xb1 : expo b ≤ 971) (hm0 : mant a ≠ 0) (hn0 : mant b ≠ 0) (r : Nat) :
    (steps r * steps (rung b) ≤ steps (rung a) * 2 ^ sq ↔ steps r * 2 ^ sc ≤ real (quoW (mant a) (mant b)) (quoX (mant a) (mant b) (expo a) (expo b))) ∧
    (steps (rung a) * 2 ^ sq ≤ steps r * steps (rung b) ↔ real (quoW (mant a) (mant b)) (quoX (mant a) (mant b) (expo a) (expo b)) ≤ steps r * 2 ^ sc) := by
  have hs := sc_eq
  have hq := sq_eq
  have hqx := quoX_in (mant a) (mant b) (expo a) (expo b) xa xa1 xb xb1
  have hla := lz_ge (mant a) (mant_lt a)
  obtain ⟨_, hN2⟩ := lz_shift (mant b) hn0 (by have := mant_lt b; omega)
  have hbig := quo_big (mant a) (mant b) (mant_lt a) (mant_lt b) hm0 hn0
  have hNp : 0 < mant b * 2 ^ lz64 (mant b) := Nat.mul_pos (Nat.pos_of_ne_zero hn0) (Nat.two_pow_pos _)
  have eE : (quoX (mant a) (mant b) (expo a) (expo b) + 64 + 1074 + (sc : Int)).toNat = 64 + (quoX (mant a) (mant b) (expo a) (expo b) + 1074 + (sc : Int)).toNat := by omega
  have eP : 2 ^ (quoX (mant a) (mant b) (expo a) (expo b) + 64 + 1074 + (sc : Int)).toNat = 18446744073709551616 * 2 ^ (quoX (mant a) (mant b) (expo a) (expo b) + 1074 + (sc : Int)).toNat := by
    rw [eE, Nat.pow_add]
  have hcell := cell_div (steps r * 2 ^ sc) _ _ _ (mant b * 2 ^ lz64 (mant b)) (mant a * 2 ^ (lz64 (mant a) - 1) * 18446744073709551616 % (mant b * 2 ^ lz64 (mant b))) 18446744073709551616
    (grain r _ _ hbig) eP (Nat.two_pow_pos _) (Nat.mod_lt _ hNp) (Nat.le_of_lt hN2)
  have hZ : mant a * 2 ^ (lz64 (mant a) - 1) * 18446744073709551616 / (mant b * 2 ^ lz64 (mant b)) * (mant b * 2 ^ lz64 (mant b)) + mant a * 2 ^ (lz64 (mant a) - 1) * 18446744073709551616 % (mant b * 2 ^ lz64 (mant b)) = mant a * 2 ^ (lz64 (mant a) - 1) * 18446744073709551616 := by
    rw [Nat.mul_comm (_ / _)]; exact Nat.div_add_mod _ _
  rw [hZ] at hcell
  have hR : real (quoW (mant a) (mant b)) (quoX (mant a) (mant b) (expo a) (expo b)) = mant a * 2 ^ (lz64 (mant a) - 1) * 18446744073709551616 / (mant b * 2 ^ lz64 (mant b)) * 2 ^ (quoX (mant a) (mant b) (expo a) (expo b) + 64 + 1074 + (sc : Int)).toNat + mant a * 2 ^ (lz64 (mant a) - 1) * 18446744073709551616 % (mant b * 2 ^ lz64 (mant b)) * 2 ^ (quoX (mant a) (mant b) (expo a) (expo b) + 1074 + (sc : Int)).toNat := by
    unfold real quoW
    rw [Nat.add_mul, eP, Nat.mul_assoc]
  rw [hR]
  have hsc := iff_scale (steps r * steps (rung b)) (steps (rung a) * 2 ^ sq) (steps r * 2 ^ sc * (mant b * 2 ^ lz64 (mant b))) (mant a * 2 ^ (lz64 (mant a) - 1) * 18446744073709551616 * 2 ^ (quoX (mant a) (mant b) (expo a) (expo b) + 64 + 1074 + (sc : Int)).toNat)
    (2 ^ (sc + lz64 (mant b) + (lz64 (mant a) - 1))) (2 ^ ((expo b + 1074).toNat + (lz64 (mant a) - 1))) (Nat.two_pow_pos _) (Nat.two_pow_pos _)
    (by
      rw [steps_parts b]
      have e1 : steps r * (mant b * 2 ^ (expo b + 1074).toNat) * 2 ^ (sc + lz64 (mant b) + (lz64 (mant a) - 1)) = steps r * mant b * (2 ^ (expo b + 1074).toNat * 2 ^ (sc + lz64 (mant b) + (lz64 (mant a) - 1))) := by simp only [Nat.mul_assoc]
      have e2 : steps r * 2 ^ sc * (mant b * 2 ^ lz64 (mant b)) * 2 ^ ((expo b + 1074).toNat + (lz64 (mant a) - 1)) = steps r * mant b * (2 ^ sc * 2 ^ lz64 (mant b) * 2 ^ ((expo b + 1074).toNat + (lz64 (mant a) - 1))) := by
        rw [Nat.mul_mul_mul_comm]; simp only [Nat.mul_assoc]
      rw [e1, e2, ← Nat.pow_add, ← Nat.pow_add, ← Nat.pow_add]
      congr 2; omega)
    (by
      rw [steps_parts a]
      have e64 : (18446744073709551616 : Nat) = 2 ^ 64 := by decide
      rw [e64]
      simp only [Nat.mul_assoc, ← Nat.pow_add]
      congr 2
      unfold quoX at hqx ⊢
      omega)
  exact ⟨hsc.1.trans hcell.1, hsc.2.trans hcell.2⟩

theorem div_dir (a b : Nat) (ra : rightB a = true) (rb : rightB b = true) (hb : b < 18446744073709551616) (hb0 : b ≠ 0) (up : Bool) :
    (up = false → Down (steps (rung b)) (sg (!(sgnB a == sgnB b)) (steps (rung a) * 2 ^ sq)) (divW a b up) (divE a b up)) ∧ (up = true → Up (steps (rung b)) (sg (!(sgnB a == sgnB b)) (steps (rung a) * 2 ^ sq)) (divW a b up) (divE a b up)) := by
  have xa := expo_in a ra
  have xb := expo_in b rb
  have hrb : rung b ≠ 0 := by
    have := right_ne b rb
    have hm := right_rung b rb
    unfold rung at *
    intro h
    omega
  have hB : 0 < steps (rung b) := by
    rcases Nat.eq_zero_or_pos (steps (rung b)) with h | h
    · exact absurd ((steps_zero _).1 h) hrb
    · exact h
  have hn0 : mant b ≠ 0 := by
    intro h
    rw [steps_parts, h, Nat.zero_mul] at hB
    omega
  have hlt := (quo_hi (mant a) (mant b) (mant_lt a) (mant_lt b) hn0).1
  have hqx := quoX_in (mant a) (mant b) (expo a) (expo b) xa.1 xa.2 xb.1 xb.2
  have e1 : divW a b up = _ := if_pos (by rw [ra, rb, decide_eq_false hb0]; rfl)
  have e2 : divE a b up = _ := (if_pos (by rw [ra, rb]; rfl)).trans (if_neg hb0)
  rw [e1, e2]
  by_cases hm0 : mant a = 0
  · have hA : steps (rung a) = 0 := by rw [steps_parts, hm0, Nat.zero_mul]
    have hW : quoW (mant a) (mant b) = 0 := by
      unfold quoW; rw [hm0, Nat.zero_mul, Nat.zero_mul, Nat.zero_div, Nat.zero_mod, Nat.zero_mul]
    have hR : real (quoW (mant a) (mant b)) (quoX (mant a) (mant b) (expo a) (expo b)) = 0 := by unfold real; rw [hW, Nat.zero_mul]
    refine round_real _ _ _ up _ _ hB hlt (by omega) (fun r => ?_) (fun r => ?_)
    · rw [hA, hR, Nat.zero_mul, Nat.le_zero, Nat.le_zero, Nat.mul_eq_zero, Nat.mul_eq_zero]
      have := Nat.two_pow_pos sc
      constructor
      · rintro (h | h)
        · exact Or.inl h
        · omega
      · rintro (h | h)
        · exact Or.inl h
        · omega
    · rw [hA, hR, Nat.zero_mul]; exact ⟨fun _ => Nat.zero_le _, fun _ => Nat.zero_le _⟩
  · exact round_real _ _ _ up _ _ hB hlt (by omega) (fun r => (div_real a b xa.1 xa.2 xb.1 xb.2 hm0 hn0 r).1) (fun r => (div_real a b xa.1 xa.2 xb.1 xb.2 hm0 hn0 r).2)

theorem root_big (m : Nat) (e : Int) (h0 : m ≠ 0) (hm : m < 9007199254740992) : 4611686018427387904 ≤ Nat.sqrt (rootV m e) := by
  obtain ⟨h1, _, _, _⟩ := rootB_in m e h0 hm
  have h2 := Nat.lt_succ_sqrt (rootV m e)
  have h3 : 4611686018427387904 * 4611686018427387904 < Nat.succ (Nat.sqrt (rootV m e)) * Nat.succ (Nat.sqrt (rootV m e)) := by
    refine Nat.lt_of_le_of_lt ?_ h2
    unfold rootV; omega
  have := sq_lt h3
  omega

theorem root_real (a : Nat) (xa : -1074 ≤ expo a) (xa1 : expo a ≤ 971) (hm0 : mant a ≠ 0) (r : Nat) :
    (steps r * steps r ≤ steps (rung a) * 2 ^ sq ↔ steps r * 2 ^ sc ≤ real (rootW (mant a) (expo a)) (rootX (mant a) (expo a))) ∧
    (steps (rung a) * 2 ^ sq ≤ steps r * steps r ↔ real (rootW (mant a) (expo a)) (rootX (mant a) (expo a)) ≤ steps r * 2 ^ sc) := by
  have hs := sc_eq
  have hq := sq_eq
  obtain ⟨b1, b2, b3, b4⟩ := rootB_in (mant a) (expo a) hm0 (mant_lt a)
  have hX : rootX (mant a) (expo a) = (expo a - (rootB (mant a) (expo a) : Int) - 64) / 2 - 64 := if_neg hm0
  have hxin := rootX_in (mant a) (expo a) (mant_lt a) xa xa1
  have eE : (rootX (mant a) (expo a) + 64 + 1074 + (sc : Int)).toNat = 64 + (rootX (mant a) (expo a) + 1074 + (sc : Int)).toNat := by omega
  have eP : 2 ^ (rootX (mant a) (expo a) + 64 + 1074 + (sc : Int)).toNat = 18446744073709551616 * 2 ^ (rootX (mant a) (expo a) + 1074 + (sc : Int)).toNat := by
    rw [eE, Nat.pow_add]
  have hcell := cell_root (steps r * 2 ^ sc) (Nat.sqrt (rootV (mant a) (expo a))) _ _ (rootV (mant a) (expo a)) (restR (rootV (mant a) (expo a))) 18446744073709551616
    (grain r _ _ (root_big _ _ hm0 (mant_lt a))) eP (Nat.two_pow_pos _) (by decide) (restR_le _) (Nat.sqrt_le _) (Nat.lt_succ_sqrt _)
    (by unfold restR; split <;> simp_all)
  have hR : real (rootW (mant a) (expo a)) (rootX (mant a) (expo a)) = Nat.sqrt (rootV (mant a) (expo a)) * 2 ^ (rootX (mant a) (expo a) + 64 + 1074 + (sc : Int)).toNat + restR (rootV (mant a) (expo a)) * 2 ^ (rootX (mant a) (expo a) + 1074 + (sc : Int)).toNat := by
    have e : rootW (mant a) (expo a) = _ := if_neg hm0
    unfold real
    rw [e, Nat.add_mul, eP, Nat.mul_assoc]
  rw [hR]
  have hsc := iff_scale (steps r * steps r) (steps (rung a) * 2 ^ sq) (steps r * 2 ^ sc * (steps r * 2 ^ sc)) (rootV (mant a) (expo a) * (2 ^ (rootX (mant a) (expo a) + 64 + 1074 + (sc : Int)).toNat * 2 ^ (rootX (mant a) (expo a) + 64 + 1074 + (sc : Int)).toNat))
    (2 ^ sc * 2 ^ sc) 1 (Nat.mul_pos (Nat.two_pow_pos _) (Nat.two_pow_pos _)) (by decide)
    (by rw [Nat.mul_one, Nat.mul_mul_mul_comm])
    (by
      rw [steps_parts a, Nat.mul_one]
      unfold rootV
      have e64 : (18446744073709551616 : Nat) = 2 ^ 64 := by decide
      rw [e64]
      simp only [Nat.mul_assoc, ← Nat.pow_add]
      congr 2
      omega)
  exact ⟨hsc.1.trans hcell.1, hsc.2.trans hcell.2⟩

theorem steps_ge (r : Nat) (h : sq + 1 ≤ r / 4503599627370496) : 2 ^ sq ≤ steps r := by
  unfold steps
  rw [if_neg (by omega)]
  have h1 : 2 ^ sq ≤ 2 ^ (r / 4503599627370496 - 1) := Nat.pow_le_pow_right (by decide) (by omega)
  exact Nat.le_trans h1 (Nat.le_mul_of_pos_left _ (by omega))
theorem steps_inf : 2 ^ sq ≤ steps 9218868437227405312 := steps_ge _ (by rw [sq_eq]; decide)

theorem sqrt_rungs (a : Nat) (ra : rightB a = true) (sa : sgnB a = false) (up : Bool) :
    sqrtE a up = 0 ∧ sqrtW a up ≤ 9218868437227405311 ∧ (up = false → ∀ r, steps r * steps r ≤ steps (rung a) * 2 ^ sq ↔ r ≤ sqrtW a up) ∧ (up = true → ∀ r, steps (rung a) * 2 ^ sq ≤ steps r * steps r ↔ sqrtW a up ≤ r) := by
  have xa := expo_in a ra
  have e1 : sqrtW a up = roundW false (rootW (mant a) (expo a)) (rootX (mant a) (expo a)) up := if_pos (by rw [ra, sa]; rfl)
  have e2 : sqrtE a up = roundE false (rootW (mant a) (expo a)) (rootX (mant a) (expo a)) up := (if_pos ra).trans (if_neg (by rw [sa]; exact Bool.false_ne_true))
  rw [e1, e2]
  by_cases hm0 : mant a = 0
  · have hA : steps (rung a) = 0 := by rw [steps_parts, hm0, Nat.zero_mul]
    have hW : rootW (mant a) (expo a) = 0 := if_pos hm0
    have r1 : roundW false (rootW (mant a) (expo a)) (rootX (mant a) (expo a)) up = 0 := if_pos hW
    have r2 : roundE false (rootW (mant a) (expo a)) (rootX (mant a) (expo a)) up = 0 := if_pos hW
    rw [r1, r2, hA, Nat.zero_mul]
    refine ⟨rfl, by decide, fun _ r => ?_, fun _ r => ⟨fun _ => Nat.zero_le _, fun _ => Nat.zero_le _⟩⟩
    rw [Nat.le_zero, Nat.le_zero, Nat.mul_eq_zero, or_self]
    exact steps_zero r
  · have hlt := rootW_lt (mant a) (expo a) (mant_lt a)
    have hxin := rootX_in (mant a) (expo a) (mant_lt a) xa.1 xa.2
    have hW0 : rootW (mant a) (expo a) ≠ 0 := by
      have e : rootW (mant a) (expo a) = _ := if_neg hm0
      have := root_big (mant a) (expo a) hm0 (mant_lt a)
      rw [e]; omega
    have hF : ∀ r, steps r * steps r ≤ steps (rung a) * 2 ^ sq ↔ r ≤ rungOf (rootW (mant a) (expo a)) (rootX (mant a) (expo a)) false := fun r => (root_real a xa.1 xa.2 hm0 r).1.trans (rung_floor _ _ hW0 hlt (by omega) r)
    have hG : ∀ r, steps (rung a) * 2 ^ sq ≤ steps r * steps r ↔ rungOf (rootW (mant a) (expo a)) (rootX (mant a) (expo a)) true ≤ r := fun r => (root_real a xa.1 xa.2 hm0 r).2.trans (rung_ceil _ _ hW0 hlt (by omega) r)
    have hAm : steps (rung a) < steps 9218868437227405312 := steps_lt (right_rung a ra)
    have r1 : roundW false (rootW (mant a) (expo a)) (rootX (mant a) (expo a)) up = packW false (rungOf (rootW (mant a) (expo a)) (rootX (mant a) (expo a)) (up != false)) (up != false) := if_neg hW0
    have r2 : roundE false (rootW (mant a) (expo a)) (rootX (mant a) (expo a)) up = packE (rungOf (rootW (mant a) (expo a)) (rootX (mant a) (expo a)) (up != false)) (up != false) := if_neg hW0
    rw [r1, r2]
    cases up
    · have hb : rungOf (rootW (mant a) (expo a)) (rootX (mant a) (expo a)) false ≤ 9218868437227405311 := by
        rcases Nat.lt_or_ge 9218868437227405311 (rungOf (rootW (mant a) (expo a)) (rootX (mant a) (expo a)) false) with g | g
        · have h1 := (hF 9218868437227405312).2 g
          have h2 := Nat.mul_lt_mul_of_lt_of_le hAm steps_inf (by have := Nat.two_pow_pos sq; have := steps_inf; omega)
          omega
        · exact g
      obtain ⟨p1, p2⟩ := pack_floor false (rungOf (rootW (mant a) (expo a)) (rootX (mant a) (expo a)) false)
      show packE (rungOf (rootW (mant a) (expo a)) (rootX (mant a) (expo a)) false) false = 0 ∧ packW false (rungOf (rootW (mant a) (expo a)) (rootX (mant a) (expo a)) false) false ≤ _ ∧ (_ → ∀ r, _ ↔ r ≤ packW false (rungOf (rootW (mant a) (expo a)) (rootX (mant a) (expo a)) false) false) ∧ _
      rw [p1, p2, Nat.min_eq_left hb, sw_false]
      exact ⟨rfl, hb, fun _ => hF, fun h => (by cases h)⟩
    · have hb : rungOf (rootW (mant a) (expo a)) (rootX (mant a) (expo a)) true ≤ 9218868437227405311 := by
        refine (hG _).1 ?_
        have hle : steps (rung a) ≤ steps 9218868437227405311 := steps_le (rung_max ra)
        have h3 : 2 ^ sq ≤ steps 9218868437227405311 := steps_ge _ (by rw [sq_eq]; decide)
        exact Nat.mul_le_mul hle h3
      obtain ⟨p1, p2⟩ := pack_ceil false (rungOf (rootW (mant a) (expo a)) (rootX (mant a) (expo a)) true) hb
      show packE (rungOf (rootW (mant a) (expo a)) (rootX (mant a) (expo a)) true) true = 0 ∧ packW false (rungOf (rootW (mant a) (expo a)) (rootX (mant a) (expo a)) true) true ≤ _ ∧ _ ∧ (_ → ∀ r, _ ↔ packW false (rungOf (rootW (mant a) (expo a)) (rootX (mant a) (expo a)) true) true ≤ r)
      rw [p1, p2, sw_false]
      exact ⟨rfl, hb, fun h => (by cases h), fun _ => hG⟩
end
section
open Go.RowKit

theorem add_lit (a b v : Nat) (e : Int) (up : Bool) (w : World) (ha : a < 18446744073709551616) (hb : b < 18446744073709551616) (hv : addW a b up = v) (he : addE a b up = e) :
    Calls Try.prog 30 #[.float .f64 a, .float .f64 b, .bool up] w fun r w' => r = .returned (.tuple #[.float .f64 v, .int .i64 e]) ∧ Below w.heap.size w w' := by
  rw [← hv, ← he]; exact add_any a b up w ha hb
theorem sub_lit (a b v : Nat) (e : Int) (up : Bool) (w : World) (ha : a < 18446744073709551616) (hb : b < 18446744073709551616) (hv : subW a b up = v) (he : subE a b up = e) :
    Calls Try.prog 50 #[.float .f64 a, .float .f64 b, .bool up] w fun r w' => r = .returned (.tuple #[.float .f64 v, .int .i64 e]) ∧ Below w.heap.size w w' := by
  rw [← hv, ← he]; exact sub_any a b up w ha hb
theorem mul_lit (a b v : Nat) (e : Int) (up : Bool) (w : World) (ha : a < 18446744073709551616) (hb : b < 18446744073709551616) (hv : mulW a b up = v) (he : mulE a b up = e) :
    Calls Try.prog 49 #[.float .f64 a, .float .f64 b, .bool up] w fun r w' => r = .returned (.tuple #[.float .f64 v, .int .i64 e]) ∧ Below w.heap.size w w' := by
  rw [← hv, ← he]; exact mul_any a b up w ha hb
end
end Go.Proofs.Ytnaomilkgfkegaa
