
/- Plain mathematics of Newton's steps for a whole root, from above. No program is named here. -/
import Derived.Test.YtdppppaoflhgdaaNum
namespace Go.Proofs.Ytdppppaoflhgdaa

theorem amgm (a b : Nat) : 4 * (a * b) ≤ (a + b) * (a + b) := by
  rcases Nat.le_total a b with h | h
  · obtain ⟨c, rfl⟩ := Nat.le.dest h
    have : (a + (a + c)) * (a + (a + c)) = 4 * (a * (a + c)) + c * c := by
      simp only [Nat.add_mul, Nat.mul_add]
      have e : c * a = a * c := Nat.mul_comm _ _
      omega
    omega
  · obtain ⟨c, rfl⟩ := Nat.le.dest h
    have : (b + c + b) * (b + c + b) = 4 * ((b + c) * b) + c * c := by
      simp only [Nat.add_mul, Nat.mul_add]
      have e : c * b = b * c := Nat.mul_comm _ _
      omega
    omega

/-- A step of Newton's stays at or above the whole root. -/
theorem newton (W r : Nat) (hr : 0 < r) : W < ((r + W / r) / 2 + 1) * ((r + W / r) / 2 + 1) := by
  have h1 : W < r * (W / r + 1) := by
    have := Nat.div_add_mod W r
    have := Nat.mod_lt W hr
    rw [Nat.mul_add]; omega
  have h2 := amgm r (W / r + 1)
  have h3 : r + (W / r + 1) ≤ 2 * ((r + W / r) / 2 + 1) := by omega
  have h4 := Nat.mul_le_mul h3 h3
  have e : 2 * ((r + W / r) / 2 + 1) * (2 * ((r + W / r) / 2 + 1)) = 4 * (((r + W / r) / 2 + 1) * ((r + W / r) / 2 + 1)) := by
    rw [Nat.mul_mul_mul_comm]
  rw [e] at h4
  omega

theorem sq_lt {a b : Nat} (h : a * a < b * b) : a < b := by
  rcases Nat.lt_or_ge a b with g | g
  · exact g
  · exact absurd (Nat.mul_le_mul g g) (by omega)

/-- What holds of a guess of the root. -/
structure Above (W r : Nat) : Prop where
  wlo : 21267647932558653966460912964485513216 ≤ W
  whi : W ≤ 85070591730234615847396907784232501248
  lo : 4611686018427387904 ≤ r
  hi : r ≤ 9223372036854775808
  above : W < (r + 1) * (r + 1)

theorem Above.start (W : Nat) (h1 : 21267647932558653966460912964485513216 ≤ W) (h2 : W ≤ 85070591730234615847396907784232501248) : Above W 9223372036854775808 :=
  ⟨h1, h2, by decide, by decide, by omega⟩

theorem Above.sum {W r : Nat} (h : Above W r) : r + W / r < 18446744073709551616 := by
  obtain ⟨h1, h2, h3, h4, h5⟩ := h
  have hr : 0 < r := by omega
  by_cases c1 : r ≤ 9223372036854775806
  · have : W / r < r + 3 := by
      rw [Nat.div_lt_iff_lt_mul hr]
      have e : (r + 3) * r = r * r + 3 * r := by rw [Nat.add_mul]
      have e2 : (r + 1) * (r + 1) = r * r + 2 * r + 1 := by simp only [Nat.add_mul, Nat.mul_add]; omega
      omega
    omega
  · by_cases c2 : r = 9223372036854775807
    · subst c2
      have : W / 9223372036854775807 < 9223372036854775807 := by
        rw [Nat.div_lt_iff_lt_mul hr]; omega
      omega
    · have c3 : r = 9223372036854775808 := by omega
      subst c3
      have : W / 9223372036854775808 < 9223372036854775808 := by
        rw [Nat.div_lt_iff_lt_mul hr]; omega
      omega

theorem Above.next {W r : Nat} (h : Above W r) (hlt : (r + W / r) / 2 < r) : Above W ((r + W / r) / 2) := by
  have hn := newton W r (by have := h.lo; omega)
  refine ⟨h.wlo, h.whi, ?_, by have := h.hi; omega, hn⟩
  have h1 := h.wlo
  have : 4611686018427387904 * 4611686018427387904 < ((r + W / r) / 2 + 1) * ((r + W / r) / 2 + 1) := by omega
  have := sq_lt this
  omega

theorem Above.stop {W r : Nat} (h : Above W r) (hge : r ≤ (r + W / r) / 2) : r * r ≤ W := by
  have h1 : r ≤ W / r := by omega
  have := (Nat.le_div_iff_mul_le (by have := h.lo; omega)).1 h1
  exact this

end Go.Proofs.Ytdppppaoflhgdaa
