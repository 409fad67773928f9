
/- What the function quotient of package dir answers, and Div. -/
import Derived.Test.YtdppppaoflhgdaaDivN
import Derived.Test.YtdppppaoflhgdaaDirE
namespace Go.Proofs.Ytdppppaoflhgdaa
open Go.RowKit

theorem bset4 {B : Nat} {w w' : World} (h : Below B w w') (g : Nat) (hg : B ≤ g) (a b c d : Value) : Below B w ((((w'.setCell ⟨g, 0, none⟩ a).setCell ⟨g, 1, none⟩ b).setCell ⟨g, 2, none⟩ c).setCell ⟨g, 3, none⟩ d) :=
  (((h.setCell hg a).setCell hg b).setCell hg c).setCell hg d

set_option maxRecDepth 100000 in
set_option maxHeartbeats 1000000 in
theorem quotient_walk (s t : Bool) (m n la lb M N q r : Nat) (e f : Int) (w : World) (he0 : -3000 ≤ e) (he1 : e ≤ 3000) (hf0 : -3000 ≤ f) (hf1 : f ≤ 3000)
    (cA : Hid (∀ w, Calls Try.prog 113 #[.int .u64 m] w fun e w' => e = .returned (.int .i64 la) ∧ w = w'))
    (cB : Hid (∀ w, Calls Try.prog 113 #[.int .u64 n] w fun e w' => e = .returned (.int .i64 lb) ∧ w = w'))
    (cD : Hid (∀ w, Calls Try.prog 114 #[.int .u64 M, .int .u64 0, .int .u64 N] w fun e w' => e = .returned (.tuple #[.int .u64 q, .int .u64 r]) ∧ ∃ k, w' = w.drewN k))
    (hla : (la : Int) ≤ 64) (hla1 : 1 ≤ (la : Int)) (hlb : (lb : Int) ≤ 64)
    (hM : IntKind.u64.wrap ((m : Int) * 2 ^ (la - 1)) = M) (hN : IntKind.u64.wrap ((n : Int) * 2 ^ lb) = N) :
    Calls Try.prog 104 #[.agg #[.bool s, .int .u64 m, .int .i64 e], .agg #[.bool t, .int .u64 n, .int .i64 f]] w fun r' w' => r' = .returned (.agg #[.bool (!(s == t)), .int .u64 q, .int .u64 r, .int .i64 ((e - ((la : Int) - 1)) - (f - lb) - 128)]) ∧ Below w.heap.size w w' := by
  go_enter Try.func104, Try.ntmps104
  go_wp2_with fail
  refine (cA.out _).mono ?_
  rintro e1 w1 ⟨rfl, rfl⟩
  go_wp2_with fail
  refine (cB.out _).mono ?_
  rintro e1 w1 ⟨rfl, rfl⟩
  go_wp2_with fail
  go_quiet ((exact Calls.quiet_of (cD.out _)))
  go_wp2
  exact bodyPost_ret (v := .agg #[.bool (!(s == t)), .int .u64 q, .int .u64 r, .int .i64 ((e - ((la : Int) - 1)) - (f - lb) - 128)]) (by simp [results, Try.results104, go_sem]) rfl ⟨rfl, bset4 (Below.drewN (bel3 _ _ _ _) _) (w.heap.size + 1 + 1) (by omega) _ _ _ _⟩

/-- The words of a quotient (the upper one: the quotient; the lower one: what is left), and the place of their last bit. -/
def quoW (m n : Nat) : Nat := m * 2 ^ (lz64 m - 1) * 18446744073709551616 / (n * 2 ^ lz64 n) * 18446744073709551616 + m * 2 ^ (lz64 m - 1) * 18446744073709551616 % (n * 2 ^ lz64 n)
def quoX (m n : Nat) (e f : Int) : Int := (e - ((lz64 m : Int) - 1)) - (f - (lz64 n : Int)) - 128

theorem lz_ge (m : Nat) (hm : m < 9007199254740992) : 11 ≤ lz64 m := by
  unfold lz64
  split
  · omega
  · rename_i h
    have : m.log2 < 53 := (Nat.log2_lt h).2 hm
    omega
theorem lz_le64 (m : Nat) : lz64 m ≤ 64 := by unfold lz64; split <;> omega

theorem num_lt (m : Nat) (hm : m < 9007199254740992) : m * 2 ^ (lz64 m - 1) < 9223372036854775808 := by
  by_cases h : m = 0
  · rw [h, Nat.zero_mul]; decide
  · have h1 := lz_ge m hm
    have h2 := (lz_shift m h (by omega)).2
    have e : 2 ^ lz64 m = 2 ^ (lz64 m - 1) * 2 := by rw [← Nat.pow_succ]; congr 1; omega
    rw [e, ← Nat.mul_assoc] at h2
    omega

theorem quo_hi (m n : Nat) (hm : m < 9007199254740992) (hn : n < 9007199254740992) (h0 : n ≠ 0) :
    quoW m n < 340282366920938463463374607431768211456 ∧ hiW (quoW m n) = m * 2 ^ (lz64 m - 1) * 18446744073709551616 / (n * 2 ^ lz64 n) ∧ loW (quoW m n) = m * 2 ^ (lz64 m - 1) * 18446744073709551616 % (n * 2 ^ lz64 n) := by
  have h1 := num_lt m hm
  obtain ⟨h2, h3⟩ := lz_shift n h0 (by omega)
  unfold quoW
  revert h1 h2 h3
  generalize m * 2 ^ (lz64 m - 1) = M
  generalize n * 2 ^ lz64 n = N
  intro h1 h2 h3
  have h4 : M * 18446744073709551616 % N < 18446744073709551616 := Nat.lt_trans (Nat.mod_lt _ (by omega)) h3
  have h5 : M * 18446744073709551616 / N < 18446744073709551616 := by
    rw [Nat.div_lt_iff_lt_mul (by omega)]
    omega
  refine ⟨?_, hi_mk _ _ h4, lo_mk _ _ h4⟩
  have := Nat.mul_le_mul_right 18446744073709551616 (Nat.le_sub_one_of_lt h5)
  omega

theorem quotient_any (s t : Bool) (m n : Nat) (e f : Int) (w : World) (hm : m < 9007199254740992) (hn : n < 9007199254740992) (h0 : n ≠ 0) (he0 : -3000 ≤ e) (he1 : e ≤ 3000) (hf0 : -3000 ≤ f) (hf1 : f ≤ 3000) :
    Calls Try.prog 104 #[.agg #[.bool s, .int .u64 m, .int .i64 e], .agg #[.bool t, .int .u64 n, .int .i64 f]] w fun r' w' => r' = .returned (.agg #[.bool (!(s == t)), .int .u64 (hiW (quoW m n)), .int .u64 (loW (quoW m n)), .int .i64 (quoX m n e f)]) ∧ Below w.heap.size w w' := by
  obtain ⟨_, q2, q3⟩ := quo_hi m n hm hn h0
  have h1 := num_lt m hm
  obtain ⟨h2, h3⟩ := lz_shift n h0 (by omega)
  have l1 := lz_ge m hm
  have l2 := lz_le64 m
  have l3 := lz_le64 n
  have c := quotient_walk s t m n (lz64 m) (lz64 n) (m * 2 ^ (lz64 m - 1)) (n * 2 ^ lz64 n) _ _ e f w he0 he1 hf0 hf1 (Lib.hid (fun w => lz_any m w (by omega))) (Lib.hid (fun w => lz_any n w (by omega)))
    (Lib.hid (fun w => div64_any (m * 2 ^ (lz64 m - 1)) 0 (n * 2 ^ lz64 n) w (by omega) (by decide) h3)) (by omega) (by omega) (by omega) (shl_word m _ (by omega)) (shl_word n _ h3)
  rw [Nat.add_zero, ← q2, ← q3] at c
  exact c

theorem quoX_in (m n : Nat) (e f : Int) (he0 : -1074 ≤ e) (he1 : e ≤ 971) (hf0 : -1074 ≤ f) (hf1 : f ≤ 971) : -2300 ≤ quoX m n e f ∧ quoX m n e f ≤ 2100 := by
  have := lz_le64 m
  have := lz_le64 n
  unfold quoX; omega

end Go.Proofs.Ytdppppaoflhgdaa
