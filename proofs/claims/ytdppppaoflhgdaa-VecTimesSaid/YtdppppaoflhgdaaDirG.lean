
/- What Div and Sqrt of package dir answer, for all words. -/
import Derived.Test.YtdppppaoflhgdaaRootW
namespace Go.Proofs.Ytdppppaoflhgdaa
open Go.RowKit

def rootB (m : Nat) (e : Int) : Nat := if (e - ((lz64 m : Int) - 2)) % 2 = 0 then lz64 m - 2 else lz64 m - 2 - 1
def rootV (m : Nat) (e : Int) : Nat := m * 2 ^ rootB m e * 18446744073709551616
def rootW (m : Nat) (e : Int) : Nat := if m = 0 then 0 else Nat.sqrt (rootV m e) * 18446744073709551616 + restR (rootV m e)
def rootX (m : Nat) (e : Int) : Int := if m = 0 then 0 else (e - (rootB m e : Int) - 64) / 2 - 64

theorem restR_le (W : Nat) : restR W ≤ 1 := by unfold restR; split <;> omega

theorem rootB_in (m : Nat) (e : Int) (h0 : m ≠ 0) (hm : m < 9007199254740992) : 1152921504606846976 ≤ m * 2 ^ rootB m e ∧ m * 2 ^ rootB m e < 4611686018427387904 ∧ rootB m e ≤ 61 ∧ (e - (rootB m e : Int)) % 2 = 0 := by
  have h1 := lz_ge m hm
  have h2 := lz_le m h0
  obtain ⟨h3, h4⟩ := lz_shift m h0 (by omega)
  unfold rootB
  split
  · rename_i hp
    have e1 : 2 ^ lz64 m = 2 ^ (lz64 m - 2) * 4 := by rw [show (4 : Nat) = 2 ^ 2 by decide, ← Nat.pow_add]; congr 1; omega
    rw [e1, ← Nat.mul_assoc] at h3 h4
    exact ⟨by omega, by omega, by omega, by omega⟩
  · rename_i hp
    have e1 : 2 ^ lz64 m = 2 ^ (lz64 m - 2 - 1) * 8 := by rw [show (8 : Nat) = 2 ^ 3 by decide, ← Nat.pow_add]; congr 1; omega
    rw [e1, ← Nat.mul_assoc] at h3 h4
    exact ⟨by omega, by omega, by omega, by omega⟩

theorem sqrt_lt {W k : Nat} (h : W < k * k) : Nat.sqrt W < k := sq_lt (Nat.lt_of_le_of_lt (Nat.sqrt_le W) h)

theorem rootW_in (m : Nat) (e : Int) (h0 : m ≠ 0) (hm : m < 9007199254740992) : rootW m e < 340282366920938463463374607431768211456 ∧ hiW (rootW m e) = Nat.sqrt (rootV m e) ∧ loW (rootW m e) = restR (rootV m e) := by
  obtain ⟨h1, h2, _, _⟩ := rootB_in m e h0 hm
  have hV : rootV m e < 9223372036854775808 * 9223372036854775808 := by unfold rootV; omega
  have hs := sqrt_lt hV
  have hr := restR_le (rootV m e)
  unfold rootW
  rw [if_neg h0]
  exact ⟨by omega, hi_mk _ _ (by omega), lo_mk _ _ (by omega)⟩

set_option maxRecDepth 100000 in
set_option maxHeartbeats 400000 in
theorem root_zero (s : Bool) (e : Int) (w : World) :
    Calls Try.prog 105 #[.agg #[.bool s, .int .u64 0, .int .i64 e]] w fun r' w' => r' = .returned (.agg #[.bool false, .int .u64 0, .int .u64 0, .int .i64 0]) ∧ Below w.heap.size w w' := by
  go_enter Try.func105, Try.ntmps105
  go_wp2
  exact bodyPost_ret (v := .agg #[.bool false, .int .u64 0, .int .u64 0, .int .i64 0]) (by simp [results, Try.results105, go_sem]) rfl ⟨rfl, bel2 _ _ _⟩

theorem even_tmod (z : Int) (h : z % 2 = 0) : z.tmod 2 = 0 := by
  obtain ⟨k, rfl⟩ : ∃ k, z = 2 * k := ⟨z / 2, by omega⟩
  exact Int.mul_tmod_right 2 k
theorem odd_tmod (z : Int) (h : ¬ z % 2 = 0) : z.tmod 2 ≠ 0 := fun g => h (Int.emod_eq_zero_of_dvd (Int.dvd_of_tmod_eq_zero g))
theorem even_tdiv (z : Int) (h : z % 2 = 0) : z.tdiv 2 = z / 2 := by
  obtain ⟨k, rfl⟩ : ∃ k, z = 2 * k := ⟨z / 2, by omega⟩
  rw [Int.mul_tdiv_cancel_left k (by decide)]; omega

theorem root_any (s : Bool) (m : Nat) (e : Int) (w : World) (hm : m < 9007199254740992) (he0 : -1074 ≤ e) (he1 : e ≤ 971) :
    Calls Try.prog 105 #[.agg #[.bool s, .int .u64 m, .int .i64 e]] w fun r' w' => r' = .returned (.agg #[.bool false, .int .u64 (hiW (rootW m e)), .int .u64 (loW (rootW m e)), .int .i64 (rootX m e)]) ∧ Below w.heap.size w w' := by
  by_cases h0 : m = 0
  · subst h0
    have r1 : rootW 0 e = 0 := if_pos rfl
    have r2 : rootX 0 e = 0 := if_pos rfl
    rw [r1, r2]
    exact root_zero s e w
  · obtain ⟨h1, h2, h3, h4⟩ := rootB_in m e h0 hm
    obtain ⟨_, r2, r3⟩ := rootW_in m e h0 hm
    have l1 := lz_ge m hm
    have l2 := lz_le m h0
    have hx : rootX m e = (e - (rootB m e : Int) - 64) / 2 - 64 := by unfold rootX; rw [if_neg h0]
    rw [r2, r3, hx]
    have hm0 : ((m : Int) == 0) = false := by rw [beq_eq_false_iff_ne]; omega
    have cA := Lib.hid (fun w => lz_any m w (by omega))
    unfold rootV
    by_cases hp : (e - ((lz64 m : Int) - 2)) % 2 = 0
    · have eB : rootB m e = lz64 m - 2 := by unfold rootB; rw [if_pos hp]
      rw [eB] at h1 h2 h4 ⊢
      have c := root_even s m (lz64 m) (m * 2 ^ (lz64 m - 2)) e ((e - ((lz64 m - 2 : Nat) : Int) - 64) / 2) w (by omega) (by omega) hm0 (by omega) (by omega) cA
        (by rw [bne_eq_false_iff_eq]; exact even_tmod _ hp) (shl_word m _ (by omega)) h1 h2 (by rw [even_tdiv _ (by omega)]; omega) (by omega) (by omega)
      exact c
    · have eB : rootB m e = lz64 m - 2 - 1 := by unfold rootB; rw [if_neg hp]
      rw [eB] at h1 h2 h4 ⊢
      have c := root_odd s m (lz64 m) (m * 2 ^ (lz64 m - 2 - 1)) e ((e - ((lz64 m - 2 - 1 : Nat) : Int) - 64) / 2) w (by omega) (by omega) hm0 (by omega) (by omega) cA
        (by rw [bne_iff_ne]; exact odd_tmod _ hp) (shl_word m _ (by omega)) h1 h2 (by rw [even_tdiv _ (by omega)]; omega) (by omega) (by omega)
      exact c

theorem rootX_in (m : Nat) (e : Int) (hm : m < 9007199254740992) (he0 : -1074 ≤ e) (he1 : e ≤ 971) : -3000 ≤ rootX m e ∧ rootX m e ≤ 2000 := by
  unfold rootX
  split
  · omega
  · rename_i h0
    obtain ⟨_, _, h3, _⟩ := rootB_in m e h0 hm
    omega

theorem rootW_lt (m : Nat) (e : Int) (hm : m < 9007199254740992) : rootW m e < 340282366920938463463374607431768211456 := by
  by_cases h0 : m = 0
  · unfold rootW; rw [if_pos h0]; decide
  · exact (rootW_in m e h0 hm).1

theorem steps_zero (r : Nat) : steps r = 0 ↔ r = 0 := by
  unfold steps
  split
  · exact Iff.rfl
  · rename_i g
    constructor
    · intro h
      have := Nat.mul_pos (show 0 < 4503599627370496 + r % 4503599627370496 by omega) (Nat.two_pow_pos (r / 4503599627370496 - 1))
      omega
    · intro h; subst h; simp at g

theorem val_zero (b : Nat) (hb : b < 18446744073709551616) (h : rightB b = true) : val b = 0 ↔ b = 0 := by
  have hn := right_ne b h
  unfold val
  have hs := steps_zero (rung b)
  have hr : rung b = 0 ↔ b = 0 := by unfold rung; omega
  cases sgnB b <;> simp <;> omega

theorem val_neg (a : Nat) (ha : a < 18446744073709551616) (h : rightB a = true) : val a < 0 ↔ sgnB a = true := by
  have hn := right_ne a h
  have hs := steps_zero (rung a)
  have hr : rung a = 0 → a < 9223372036854775808 := by unfold rung; omega
  unfold val
  cases hc : sgnB a
  · simp
  · have : 9223372036854775808 ≤ a := by unfold sgnB at hc; exact of_decide_eq_true hc
    simp
    omega

theorem val_0 : val 0 = 0 := by decide

theorem order_zero (b : Nat) (hb : b < 18446744073709551616) (h : rightB b = true) : (FloatKind.f64.format.order b 0 == some Ordering.eq) = decide (b = 0) := by
  rw [order_val b 0 hb (by decide) (right_rung b h) (by decide), val_0]
  have hv := val_zero b hb h
  by_cases c : b = 0
  · rw [decide_eq_true c, Int.compare_eq_eq.2 (hv.2 c)]; rfl
  · rw [decide_eq_false c]
    have : val b ≠ 0 := fun e => c (hv.1 e)
    rcases Int.lt_trichotomy (val b) 0 with g | g | g
    · rw [Int.compare_eq_lt.2 g]; rfl
    · exact absurd g this
    · rw [Int.compare_eq_gt.2 g]; rfl

theorem order_neg (a : Nat) (ha : a < 18446744073709551616) (h : rightB a = true) : (FloatKind.f64.format.order a 0 == some Ordering.lt) = sgnB a := by
  rw [order_val a 0 ha (by decide) (right_rung a h) (by decide), val_0]
  have hv := val_neg a ha h
  cases c : sgnB a
  · have : ¬ val a < 0 := fun g => by rw [hv.1 g] at c; cases c
    rcases Int.lt_trichotomy (val a) 0 with g | g | g
    · exact absurd g this
    · rw [Int.compare_eq_eq.2 g]; rfl
    · rw [Int.compare_eq_gt.2 g]; rfl
  · rw [Int.compare_eq_lt.2 (hv.2 c)]; rfl

/-- What Sqrt answers. -/
def sqrtW (a : Nat) (up : Bool) : Nat := if rightB a && !sgnB a then roundW false (rootW (mant a) (expo a)) (rootX (mant a) (expo a)) up else 0
def sqrtE (a : Nat) (up : Bool) : Int := if rightB a then (if sgnB a then 12 else roundE false (rootW (mant a) (expo a)) (rootX (mant a) (expo a)) up) else 13

set_option maxHeartbeats 1000000 in
theorem sqrt_any (a : Nat) (up : Bool) (w : World) (ha : a < 18446744073709551616) :
    Calls Try.prog 91 #[.float .f64 a, .bool up] w fun r w' => r = .returned (.tuple #[.float .f64 (sqrtW a up), .int .i64 (sqrtE a up)]) ∧ Below w.heap.size w w' := by
  have cRa := Lib.hid (fun w => right_any a w ha)
  have cSa := Lib.hid (fun w => split_any a w ha)
  cases ra : rightB a
  · have e1 : sqrtW a up = 0 := if_neg (by rw [ra]; exact Bool.false_ne_true)
    have e2 : sqrtE a up = 13 := if_neg (by rw [ra]; exact Bool.false_ne_true)
    have E := Lib.hid (And.intro e1 e2)
    have RA := Lib.hid ra
    clear ha e1 e2 ra
    go_enter Try.func91, Try.ntmps91
    go_wp2_with fail
    refine (cRa.out _).mono ?_
    rintro r w1 ⟨rfl, rfl⟩
    rw [RA.out]
    go_wp2
    go_ret2
    exact ⟨ret_pair ⟨E.out.1.symm, E.out.2.symm⟩, Below.refl _ _⟩
  · have ho := order_neg a ha ra
    cases sa : sgnB a
    · rw [sa] at ho
      have xa := expo_in a ra
      have hx := rootX_in (mant a) (expo a) (mant_lt a) xa.1 xa.2
      have cS := Lib.hid (fun w => root_any (sgnB a) (mant a) (expo a) w (mant_lt a) xa.1 xa.2)
      have cR := Lib.hid (fun w => round_any false (rootW (mant a) (expo a)) (rootX (mant a) (expo a)) up w (rootW_lt _ _ (mant_lt a)) (by omega) (by omega))
      have e1 : sqrtW a up = roundW false (rootW (mant a) (expo a)) (rootX (mant a) (expo a)) up := if_pos (by rw [ra, sa]; rfl)
      have e2 : sqrtE a up = roundE false (rootW (mant a) (expo a)) (rootX (mant a) (expo a)) up := (if_pos ra).trans (if_neg (by rw [sa]; exact Bool.false_ne_true))
      have E := Lib.hid (And.intro e1 e2)
      have RA := Lib.hid ra
      have SA := Lib.hid sa
      clear ha e1 e2 ra xa hx sa
      go_enter Try.func91, Try.ntmps91
      go_wp2_with fail
      refine (cRa.out _).mono ?_
      rintro r w1 ⟨rfl, rfl⟩
      rw [RA.out]
      go_wp2_with fail
      refine (cSa.out _).mono ?_
      rintro r w1 ⟨rfl, h1⟩
      go_wp2_with fail
      refine (cS.out _).mono ?_
      rintro r w3 ⟨rfl, h3⟩
      go_wp2_with fail
      refine (cR.out _).mono ?_
      rintro r w4 ⟨rfl, h4⟩
      have HH := Lib.hid ((h1.trans (h3.mono h1.size)).trans (h4.mono (Nat.le_trans h1.size h3.size)))
      clear h1 h3 h4
      go_wp2
      go_ret2
      exact ⟨ret_pair ⟨E.out.1.symm, E.out.2.symm⟩, HH.out⟩
    · rw [sa] at ho
      have e1 : sqrtW a up = 0 := if_neg (by rw [ra, sa]; exact Bool.false_ne_true)
      have e2 : sqrtE a up = 12 := (if_pos ra).trans (if_pos sa)
      have E := Lib.hid (And.intro e1 e2)
      have RA := Lib.hid ra
      clear ha e1 e2 ra sa
      go_enter Try.func91, Try.ntmps91
      go_wp2_with fail
      refine (cRa.out _).mono ?_
      rintro r w1 ⟨rfl, rfl⟩
      rw [RA.out]
      go_wp2
      go_ret2
      exact ⟨ret_pair ⟨E.out.1.symm, E.out.2.symm⟩, Below.refl _ _⟩

/-- What Div answers: the word, and the error. -/
def divW (a b : Nat) (up : Bool) : Nat := if rightB a && rightB b && !decide (b = 0) then roundW (!(sgnB a == sgnB b)) (quoW (mant a) (mant b)) (quoX (mant a) (mant b) (expo a) (expo b)) up else 0
def divE (a b : Nat) (up : Bool) : Int := if rightB a && rightB b then (if b = 0 then 11 else roundE (!(sgnB a == sgnB b)) (quoW (mant a) (mant b)) (quoX (mant a) (mant b) (expo a) (expo b)) up) else 13

set_option maxHeartbeats 1000000 in
theorem div_any (a b : Nat) (up : Bool) (w : World) (ha : a < 18446744073709551616) (hb : b < 18446744073709551616) :
    Calls Try.prog 89 #[.float .f64 a, .float .f64 b, .bool up] w fun r w' => r = .returned (.tuple #[.float .f64 (divW a b up), .int .i64 (divE a b up)]) ∧ Below w.heap.size w w' := by
  have cRa := Lib.hid (fun w => right_any a w ha)
  have cRb := Lib.hid (fun w => right_any b w hb)
  have cSa := Lib.hid (fun w => split_any a w ha)
  have cSb := Lib.hid (fun w => split_any b w hb)
  cases ra : rightB a
  · have e1 : divW a b up = 0 := if_neg (by rw [ra]; exact Bool.false_ne_true)
    have e2 : divE a b up = 13 := if_neg (by rw [ra]; exact Bool.false_ne_true)
    have E := Lib.hid (And.intro e1 e2)
    have RA := Lib.hid ra
    clear ha hb e1 e2 ra
    go_enter Try.func89, Try.ntmps89
    go_wp2_with fail
    refine (cRa.out _).mono ?_
    rintro r w1 ⟨rfl, rfl⟩
    rw [RA.out]
    go_wp2
    go_ret2
    exact ⟨ret_pair ⟨E.out.1.symm, E.out.2.symm⟩, Below.refl _ _⟩
  · cases rb : rightB b
    · have e1 : divW a b up = 0 := if_neg (by rw [ra, rb]; exact Bool.false_ne_true)
      have e2 : divE a b up = 13 := if_neg (by rw [ra, rb]; exact Bool.false_ne_true)
      have E := Lib.hid (And.intro e1 e2)
      have RA := Lib.hid ra
      have RB := Lib.hid rb
      clear ha hb e1 e2 ra rb
      go_enter Try.func89, Try.ntmps89
      go_wp2_with fail
      refine (cRa.out _).mono ?_
      rintro r w1 ⟨rfl, rfl⟩
      rw [RA.out]
      go_wp2_with fail
      refine (cRb.out _).mono ?_
      rintro r w1 ⟨rfl, rfl⟩
      rw [RB.out]
      go_wp2
      go_ret2
      exact ⟨ret_pair ⟨E.out.1.symm, E.out.2.symm⟩, Below.refl _ _⟩
    · have ho := order_zero b hb rb
      by_cases b0 : b = 0
      · rw [decide_eq_true b0] at ho
        have e1 : divW a b up = 0 := if_neg (by rw [ra, rb, decide_eq_true b0]; exact Bool.false_ne_true)
        have e2 : divE a b up = 11 := (if_pos (by rw [ra, rb]; rfl)).trans (if_pos b0)
        have E := Lib.hid (And.intro e1 e2)
        have RA := Lib.hid ra
        have RB := Lib.hid rb
        clear ha hb e1 e2 ra rb b0
        go_enter Try.func89, Try.ntmps89
        go_wp2_with fail
        refine (cRa.out _).mono ?_
        rintro r w1 ⟨rfl, rfl⟩
        rw [RA.out]
        go_wp2_with fail
        refine (cRb.out _).mono ?_
        rintro r w1 ⟨rfl, rfl⟩
        rw [RB.out]
        go_wp2
        go_ret2
        exact ⟨ret_pair ⟨E.out.1.symm, E.out.2.symm⟩, Below.refl _ _⟩
      · rw [decide_eq_false b0] at ho
        have xa := expo_in a ra
        have xb := expo_in b rb
        have hn0 : mant b ≠ 0 := by
          intro hz
          have hst := steps_parts b
          rw [hz, Nat.zero_mul] at hst
          have := (steps_zero (rung b)).1 hst
          have hbn := right_ne b rb
          unfold rung at this; omega
        have ma := mant_lt a
        have mb := mant_lt b
        have hmul := (quo_hi (mant a) (mant b) ma mb hn0).1
        have hqx := quoX_in (mant a) (mant b) (expo a) (expo b) xa.1 xa.2 xb.1 xb.2
        have cS := Lib.hid (fun w => quotient_any (sgnB a) (sgnB b) (mant a) (mant b) (expo a) (expo b) w ma mb hn0 (by omega) (by omega) (by omega) (by omega))
        have cR := Lib.hid (fun w => round_any (!(sgnB a == sgnB b)) (quoW (mant a) (mant b)) (quoX (mant a) (mant b) (expo a) (expo b)) up w hmul (by omega) (by omega))
        clear ma mb hmul hqx hn0
        have e1 : divW a b up = roundW (!(sgnB a == sgnB b)) (quoW (mant a) (mant b)) (quoX (mant a) (mant b) (expo a) (expo b)) up := if_pos (by rw [ra, rb, decide_eq_false b0]; rfl)
        have e2 : divE a b up = roundE (!(sgnB a == sgnB b)) (quoW (mant a) (mant b)) (quoX (mant a) (mant b) (expo a) (expo b)) up := (if_pos (by rw [ra, rb]; rfl)).trans (if_neg b0)
        have E := Lib.hid (And.intro e1 e2)
        have RA := Lib.hid ra
        have RB := Lib.hid rb
        clear ha hb e1 e2 ra rb xa xb b0
        go_enter Try.func89, Try.ntmps89
        go_wp2_with fail
        refine (cRa.out _).mono ?_
        rintro r w1 ⟨rfl, rfl⟩
        rw [RA.out]
        go_wp2_with fail
        refine (cRb.out _).mono ?_
        rintro r w1 ⟨rfl, rfl⟩
        rw [RB.out]
        go_wp2_with fail
        refine (cSa.out _).mono ?_
        rintro r w1 ⟨rfl, h1⟩
        go_wp2_with fail
        refine (cSb.out _).mono ?_
        rintro r w2 ⟨rfl, h2⟩
        go_wp2_with fail
        refine (cS.out _).mono ?_
        rintro r w3 ⟨rfl, h3⟩
        go_wp2_with fail
        refine (cR.out _).mono ?_
        rintro r w4 ⟨rfl, h4⟩
        have HH := Lib.hid (((h1.trans (h2.mono h1.size)).trans (h3.mono (Nat.le_trans h1.size h2.size))).trans (h4.mono (Nat.le_trans h1.size (Nat.le_trans h2.size h3.size))))
        clear h1 h2 h3 h4
        go_wp2
        go_ret2
        exact ⟨ret_pair ⟨E.out.1.symm, E.out.2.symm⟩, HH.out⟩

end Go.Proofs.Ytdppppaoflhgdaa
