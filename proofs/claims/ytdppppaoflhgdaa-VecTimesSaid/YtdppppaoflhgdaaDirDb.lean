
/- What the function sum of package dir answers, said of its two parts in any order. -/
import Derived.Test.YtdppppaoflhgdaaDirD
namespace Go.Proofs.Ytdppppaoflhgdaa
open Go.RowKit

/-- The sum of two parts: its sign, its words, the place of their last bit. -/
def plusN (s t : Bool) (m n : Nat) (e f : Int) : Bool := if nearB e f m n then t else s
def plusW (s t : Bool) (m n : Nat) (e f : Int) : Nat := if nearB e f m n then sumW (t == s) n (lowerW m (f - e)) else sumW (s == t) m (lowerW n (e - f))
def plusX (m n : Nat) (e f : Int) : Int := if nearB e f m n then f - 64 else e - 64

theorem lower_le (m n : Nat) (e f : Int) (hn : n < 9007199254740992) (h : f < e ∨ f = e ∧ n ≤ m) (hm : f < e → 4503599627370496 ≤ m) : lowerW n (e - f) ≤ m * 18446744073709551616 := by
  unfold lowerW
  split
  · rename_i h1
    have := hm (by omega)
    omega
  · rename_i h1
    rcases h with h | ⟨h, h2⟩
    · have h3 := hm h
      have e63 : (2 : Nat) ^ 63 = 9223372036854775808 := by decide
      have h4 : 2 ^ (64 - (e - f).toNat) ≤ 2 ^ 63 := Nat.pow_le_pow_right (by decide) (by omega)
      rw [e63] at h4
      have h5 := Nat.mul_le_mul_left n h4
      exact Nat.le_trans h5 (by clear h4 h5 e63; omega)
    · have : (e - f).toNat = 0 := by omega
      rw [this, show (2 : Nat) ^ (64 - 0) = 18446744073709551616 by decide]
      omega

theorem sum_any (s t : Bool) (m n : Nat) (e f : Int) (w : World) (hm : m < 9007199254740992) (hn : n < 9007199254740992) (he0 : -1074 ≤ e) (he1 : e ≤ 3000) (hf0 : -1074 ≤ f) (hf1 : f ≤ 3000)
    (hme : -1074 < e → 4503599627370496 ≤ m) (hnf : -1074 < f → 4503599627370496 ≤ n) :
    Calls Try.prog 101 #[.agg #[.bool s, .int .u64 m, .int .i64 e], .agg #[.bool t, .int .u64 n, .int .i64 f]] w fun r w' => r = .returned (.agg #[.bool (plusN s t m n e f), .int .u64 (hiW (plusW s t m n e f)), .int .u64 (loW (plusW s t m n e f)), .int .i64 (plusX m n e f)]) ∧ Below w.heap.size w w' := by
  cases hc : nearB e f m n
  · have h : ¬ (e < f ∨ e = f ∧ (m : Int) < n) := by unfold nearB at hc; exact of_decide_eq_false hc
    have c := sum_ord s t m n e f s t m n e f w hm (by omega) he1 (by omega) hf1 (by omega) (Or.inl ⟨hc, rfl, rfl, rfl, rfl, rfl, rfl⟩) (lower_le m n e f hn (by omega) (fun g => hme (by omega)))
    unfold plusN plusW plusX
    rw [hc]
    exact c
  · have h : e < f ∨ e = f ∧ (m : Int) < n := by unfold nearB at hc; exact of_decide_eq_true hc
    have c := sum_ord s t m n e f t s n m f e w hn (by omega) hf1 (by omega) he1 (by omega) (Or.inr ⟨hc, rfl, rfl, rfl, rfl, rfl, rfl⟩) (lower_le n m f e hm (by omega) (fun g => hnf (by omega)))
    unfold plusN plusW plusX
    rw [hc]
    exact c

theorem plusW_lt (s t : Bool) (m n : Nat) (e f : Int) (hm : m < 9007199254740992) (hn : n < 9007199254740992) (hme : -1074 < e → 4503599627370496 ≤ m) (hnf : -1074 < f → 4503599627370496 ≤ n) (he0 : -1074 ≤ e) (hf0 : -1074 ≤ f) :
    plusW s t m n e f < 340282366920938463463374607431768211456 := by
  unfold plusW
  cases hc : nearB e f m n
  · have h : ¬ (e < f ∨ e = f ∧ (m : Int) < n) := by unfold nearB at hc; exact of_decide_eq_false hc
    have := lower_le m n e f hn (by omega) (fun g => hme (by omega))
    show sumW _ _ _ < _
    unfold sumW
    split <;> omega
  · have h : e < f ∨ e = f ∧ (m : Int) < n := by unfold nearB at hc; exact of_decide_eq_true hc
    have := lower_le n m f e hm (by omega) (fun g => hnf (by omega))
    show sumW _ _ _ < _
    unfold sumW
    split <;> omega

theorem plusX_in (m n : Nat) (e f : Int) (he0 : -1074 ≤ e) (he1 : e ≤ 1000) (hf0 : -1074 ≤ f) (hf1 : f ≤ 1000) : -1138 ≤ plusX m n e f ∧ plusX m n e f ≤ 1000 := by
  unfold plusX; split <;> omega

end Go.Proofs.Ytdppppaoflhgdaa
