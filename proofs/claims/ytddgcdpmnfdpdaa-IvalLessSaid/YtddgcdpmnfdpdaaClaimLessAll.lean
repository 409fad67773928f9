
/- IvalLess holds for every op of any two intervals and any four parts: the law answers true, and its arguments read as before. No conditions. -/
import Derived.Test.YtddgcdpmnfdpdaaAsk
import Derived.Test.YtddgcdpmnfdpdaaLessC
import Derived.Test.YtddgcdpmnfdpdaaBase
import Derived.ProofKit
import Derived.Lib.SmallJoins
import Derived.Laws.Cover2
import Derived.Carry
namespace Go.Proofs.Ytddgcdpmnfdpdaa
open Go.RowKit

/-- Rounded down: of a real number that is no less comes a number that is no less, and there is one. -/
theorem down_le {s s' : Nat} {T T' : Int} {c c' : Nat} {e' : Int} (hs : 0 < s) (h : Down s T c 0) (k : Down s' T' c' e') (hT : T * (s' : Int) ≤ T' * (s : Int)) : e' = 0 ∧ val c ≤ val c' := by
  obtain ⟨c1, c2, c3, _⟩ := h.ok
  have hs' : (0 : Int) < (s : Int) := by omega
  have key : val c * (s' : Int) ≤ T' := by
    have h1 : val c * (s : Int) * (s' : Int) ≤ T * (s' : Int) := Int.mul_le_mul_of_nonneg_right c3 (by omega)
    have h2 : val c * (s' : Int) * (s : Int) ≤ T' * (s : Int) := by
      rw [Int.mul_assoc, Int.mul_comm (s' : Int) (s : Int), ← Int.mul_assoc]
      exact Int.le_trans h1 hT
    exact Int.le_of_mul_le_mul_right h2 hs'
  rcases k with ⟨k0, _, _, _, k4⟩ | ⟨_, _, k3⟩
  · exact ⟨k0, k4 c c1 c2 key⟩
  · have := k3 c c1 c2; omega
/-- Rounded up: of a real number that is no greater comes a number that is no greater, and there is one. -/
theorem up_le {s s' : Nat} {T T' : Int} {c c' : Nat} {e' : Int} (hs : 0 < s) (h : Up s T c 0) (k : Up s' T' c' e') (hT : T' * (s : Int) ≤ T * (s' : Int)) : e' = 0 ∧ val c' ≤ val c := by
  obtain ⟨c1, c2, c3, _⟩ := h.ok
  have hs' : (0 : Int) < (s : Int) := by omega
  have key : T' ≤ val c * (s' : Int) := by
    have h1 : T * (s' : Int) ≤ val c * (s : Int) * (s' : Int) := Int.mul_le_mul_of_nonneg_right c3 (by omega)
    have h2 : T' * (s : Int) ≤ val c * (s' : Int) * (s : Int) := by
      rw [Int.mul_assoc, Int.mul_comm (s' : Int) (s : Int), ← Int.mul_assoc]
      exact Int.le_trans hT h1
    exact Int.le_of_mul_le_mul_right h2 hs'
  rcases k with ⟨k0, _, _, _, k4⟩ | ⟨_, _, k3⟩
  · exact ⟨k0, k4 c c1 c2 key⟩
  · have := k3 c c1 c2; omega

/-- One answer lies within another one. -/
def Within (r s : Res) : Prop := s.e = 0 → r.e = 0 ∧ val s.lo ≤ val r.lo ∧ val r.hi ≤ val s.hi

theorem tight_e {lo hi : Nat} {e f : Int} (h : (tightR lo e hi f).e = 0) : e = 0 ∧ f = 0 ∧ tightR lo e hi f = ⟨0, lo, hi⟩ := by
  unfold tightR at h ⊢
  by_cases he : e = 0
  · rw [if_pos he] at h ⊢
    by_cases hf : f = 0
    · rw [if_pos hf]; exact ⟨he, hf, rfl⟩
    · rw [if_neg hf] at h; exact absurd h hf
  · rw [if_neg he] at h; exact absurd h he

/-- Ends that are rounded, of real numbers the one pair within the other one. -/
theorem tight_within {s s' u u' : Nat} {T T' U U' : Int} {lo hi lo' hi' : Nat} {e f e' f' : Int} (hs : 0 < s) (hu : 0 < u) (d : Down s T lo e) (p : Up u U hi f) (d' : Down s' T' lo' e') (p' : Up u' U' hi' f') (hT : T * (s' : Int) ≤ T' * (s : Int)) (hU : U' * (u : Int) ≤ U * (u' : Int)) :
    Within (tightR lo' e' hi' f') (tightR lo e hi f) := by
  intro h
  obtain ⟨rfl, rfl, h3⟩ := tight_e h
  obtain ⟨rfl, l⟩ := down_le hs d d' hT
  obtain ⟨rfl, g⟩ := up_le hu p p' hU
  rw [h3]
  have e2 : tightR lo' 0 hi' 0 = ⟨0, lo', hi'⟩ := by unfold tightR; rw [if_pos rfl, if_pos rfl]
  rw [e2]
  exact ⟨rfl, l, g⟩

section
variable (al ah bl bh cl ch dl dh : Nat) (hr : ivR al ah = true) (hs : ivR bl bh = true) (hr' : ivR cl ch = true) (hs' : ivR dl dh = true) (h1 : val al ≤ val cl) (h2 : val ch ≤ val ah) (h3 : val bl ≤ val dl) (h4 : val dh ≤ val bh)

include hr hs hr' hs' h1 h2 h3 h4 in
theorem add_within : Within (addI cl ch dl dh) (addI al ah bl bh) := by
  obtain ⟨a1, a2, _⟩ := ivR_parts hr
  obtain ⟨b1, b2, _⟩ := ivR_parts hs
  obtain ⟨c1, c2, _⟩ := ivR_parts hr'
  obtain ⟨d1, d2, _⟩ := ivR_parts hs'
  exact tight_within (by decide) (by decide) (add_down al bl a1 b1) (add_up ah bh a2 b2) (add_down cl dl c1 d1) (add_up ch dh c2 d2) (by omega) (by omega)

include hr hs hr' hs' h1 h2 h3 h4 in
theorem sub_within : Within (subI cl ch dl dh) (subI al ah bl bh) := by
  obtain ⟨a1, a2, _⟩ := ivR_parts hr
  obtain ⟨b1, b2, _⟩ := ivR_parts hs
  obtain ⟨c1, c2, _⟩ := ivR_parts hr'
  obtain ⟨d1, d2, _⟩ := ivR_parts hs'
  exact tight_within (by decide) (by decide) (sub_down al bh a1 b2) (sub_up ah bl a2 b1) (sub_down cl dh c1 d2) (sub_up ch dl c2 d1) (by omega) (by omega)
end

/-- What an answer is worth: its ends are rounded of T and U, and there is one wherever both can be rounded. -/
structure Worth (s : Nat) (R : Res) (T U : Int) : Prop where
  ends : R.e = 0 → Down s T R.lo 0 ∧ Up s U R.hi 0
  there : (∃ c, Down s T c 0) → (∃ c, Up s U c 0) → R.e = 0
  low : ∃ c e, Down s T c e
  high : ∃ c e, Up s U c e

theorem Worth.within {s : Nat} {R R' : Res} {T U T' U' : Int} (hs : 0 < s) (h : Worth s R T U) (h' : Worth s R' T' U') (hT : T ≤ T') (hU : U' ≤ U) : Within R' R := by
  intro he
  obtain ⟨d, u⟩ := h.ends he
  obtain ⟨c, e, dc⟩ := h'.low
  obtain ⟨c', e', uc⟩ := h'.high
  have m1 : T * (s : Int) ≤ T' * (s : Int) := Int.mul_le_mul_of_nonneg_right hT (by omega)
  have m2 : U' * (s : Int) ≤ U * (s : Int) := Int.mul_le_mul_of_nonneg_right hU (by omega)
  obtain ⟨rfl, _⟩ := down_le hs d dc m1
  obtain ⟨rfl, _⟩ := up_le hs u uc m2
  have he' := h'.there ⟨c, dc⟩ ⟨c', uc⟩
  obtain ⟨d', u'⟩ := h'.ends he'
  exact ⟨he', (down_le hs d d' m1).2, (up_le hs u u' m2).2⟩

theorem worth_tight {s : Nat} {T U : Int} {lo hi : Nat} {e f : Int} (hs : 0 < s) (d : Down s T lo e) (u : Up s U hi f) : Worth s (tightR lo e hi f) T U where
  ends := fun h => by
    obtain ⟨rfl, rfl, h3⟩ := tight_e h
    rw [h3]; exact ⟨d, u⟩
  there := fun ⟨c, dc⟩ ⟨c', uc⟩ => by
    obtain ⟨rfl, _⟩ := down_le hs dc d (Int.le_refl _)
    obtain ⟨rfl, _⟩ := up_le hs uc u (Int.le_refl _)
    unfold tightR; rw [if_pos rfl, if_pos rfl]
  low := ⟨_, _, d⟩
  high := ⟨_, _, u⟩

theorem down_min {s : Nat} {T T' : Int} {c c' : Nat} (h : Down s T c 0) (h' : Down s T' c' 0) : Down s (min T T') (minW c c') 0 := by
  obtain ⟨a1, a2, a3, a4⟩ := h.ok
  obtain ⟨b1, b2, b3, b4⟩ := h'.ok
  refine Or.inl ⟨rfl, (min_facts c c' a1 b1 a2 b2).1, (min_facts c c' a1 b1 a2 b2).2.1, ?_, fun d hd rd hle => ?_⟩
  · rw [(min_facts c c' a1 b1 a2 b2).2.2]
    rcases Int.le_total (val c) (val c') with g | g
    · rw [Int.min_eq_left g]
      have : val c * (s : Int) ≤ val c' * (s : Int) := Int.mul_le_mul_of_nonneg_right g (by omega)
      omega
    · rw [Int.min_eq_right g]
      have : val c' * (s : Int) ≤ val c * (s : Int) := Int.mul_le_mul_of_nonneg_right g (by omega)
      omega
  · rw [(min_facts c c' a1 b1 a2 b2).2.2]
    have := a4 d hd rd (by omega)
    have := b4 d hd rd (by omega)
    omega
theorem up_max {s : Nat} {T T' : Int} {c c' : Nat} (h : Up s T c 0) (h' : Up s T' c' 0) : Up s (max T T') (maxW c c') 0 := by
  obtain ⟨a1, a2, a3, a4⟩ := h.ok
  obtain ⟨b1, b2, b3, b4⟩ := h'.ok
  refine Or.inl ⟨rfl, (max_facts c c' a1 b1 a2 b2).1, (max_facts c c' a1 b1 a2 b2).2.1, ?_, fun d hd rd hle => ?_⟩
  · rw [(max_facts c c' a1 b1 a2 b2).2.2]
    rcases Int.le_total (val c) (val c') with g | g
    · rw [Int.max_eq_right g]
      have : val c * (s : Int) ≤ val c' * (s : Int) := Int.mul_le_mul_of_nonneg_right g (by omega)
      omega
    · rw [Int.max_eq_left g]
      have : val c' * (s : Int) ≤ val c * (s : Int) := Int.mul_le_mul_of_nonneg_right g (by omega)
      omega
  · rw [(max_facts c c' a1 b1 a2 b2).2.2]
    have := a4 d hd rd (by omega)
    have := b4 d hd rd (by omega)
    omega

theorem worth_join {s : Nat} {R R' : Res} {T U T' U' : Int} (hs : 0 < s) (h : Worth s R T U) (h' : Worth s R' T' U') : Worth s (joinR R R') (min T T') (max U U') where
  ends := fun he => by
    unfold joinR at he ⊢
    by_cases h1 : R.e = 0
    · rw [if_pos h1] at he ⊢
      by_cases h2 : R'.e = 0
      · rw [if_pos h2]
        obtain ⟨d, u⟩ := h.ends h1
        obtain ⟨d', u'⟩ := h'.ends h2
        exact ⟨down_min d d', up_max u u'⟩
      · rw [if_neg h2] at he; exact absurd he h2
    · rw [if_neg h1] at he; exact absurd he h1
  there := fun ⟨c, dc⟩ ⟨c', uc⟩ => by
    obtain ⟨x, ex, dx⟩ := h.low
    obtain ⟨y, ey, uy⟩ := h.high
    obtain ⟨x', ex', dx'⟩ := h'.low
    obtain ⟨y', ey', uy'⟩ := h'.high
    have k : ∀ (P Q : Int), P ≤ Q → P * (s : Int) ≤ Q * (s : Int) := fun P Q g => Int.mul_le_mul_of_nonneg_right g (by omega)
    obtain ⟨rfl, _⟩ := down_le hs dc dx (k _ _ (by omega))
    obtain ⟨rfl, _⟩ := down_le hs dc dx' (k _ _ (by omega))
    obtain ⟨rfl, _⟩ := up_le hs uc uy (k _ _ (by omega))
    obtain ⟨rfl, _⟩ := up_le hs uc uy' (k _ _ (by omega))
    unfold joinR
    rw [if_pos (h.there ⟨x, dx⟩ ⟨y, uy⟩), if_pos (h'.there ⟨x', dx'⟩ ⟨y', uy'⟩)]
  low := by
    rcases Int.le_total T T' with g | g
    · rw [Int.min_eq_left g]; exact h.low
    · rw [Int.min_eq_right g]; exact h'.low
  high := by
    rcases Int.le_total U U' with g | g
    · rw [Int.max_eq_right g]; exact h'.high
    · rw [Int.max_eq_left g]; exact h.high

/-- The least and the greatest product of a number of the one row and one of the other one, and where they are. -/
def Ranged (a b c d T U : Int) : Prop :=
  (∀ x y, a ≤ x → x ≤ b → c ≤ y → y ≤ d → T ≤ x * y ∧ x * y ≤ U) ∧ (∃ x y, a ≤ x ∧ x ≤ b ∧ c ≤ y ∧ y ≤ d ∧ T = x * y) ∧ ∃ x y, a ≤ x ∧ x ≤ b ∧ c ≤ y ∧ y ≤ d ∧ U = x * y

theorem ranged_mono {a b c d T U a' b' c' d' T' U' : Int} (h : Ranged a b c d T U) (h' : Ranged a' b' c' d' T' U') (h1 : a ≤ a') (h2 : b' ≤ b) (h3 : c ≤ c') (h4 : d' ≤ d) : T ≤ T' ∧ U' ≤ U := by
  obtain ⟨_, ⟨x, y, x1, x2, y1, y2, rfl⟩, ⟨z, v, z1, z2, v1, v2, rfl⟩⟩ := h'
  exact ⟨(h.1 x y (by omega) (by omega) (by omega) (by omega)).1, (h.1 z v (by omega) (by omega) (by omega) (by omega)).2⟩

theorem ranged_swap {a b c d T U : Int} (h : Ranged a b c d T U) : Ranged c d a b T U := by
  obtain ⟨h1, ⟨x, y, x1, x2, y1, y2, e⟩, ⟨z, v, z1, z2, v1, v2, g⟩⟩ := h
  refine ⟨fun p q p1 p2 q1 q2 => ?_, ⟨y, x, y1, y2, x1, x2, by rw [e, Int.mul_comm]⟩, ⟨v, z, v1, v2, z1, z2, by rw [g, Int.mul_comm]⟩⟩
  rw [Int.mul_comm p q]; exact h1 q p q1 q2 p1 p2

end Go.Proofs.Ytddgcdpmnfdpdaa

namespace Go.Proofs.Ytddgcdpmnfdpdaa
open Go.RowKit

theorem mul_le_l {a b c : Int} (h : a ≤ b) (hc : 0 ≤ c) : c * a ≤ c * b := Int.mul_le_mul_of_nonneg_left h hc
theorem mul_le_n {a b c : Int} (h : a ≤ b) (hc : c ≤ 0) : c * b ≤ c * a := Int.mul_le_mul_of_nonpos_left hc h

/-- Products by a row of one sign, from 0 on. -/
theorem ranged_pos (a b c d : Int) (hab : a ≤ b) (hcd : c ≤ d) (hc : 0 ≤ c) : Ranged a b c d (a * (if a < 0 then d else c)) (b * (if 0 ≤ b then d else c)) := by
  refine ⟨fun x y x1 x2 y1 y2 => ⟨?_, ?_⟩, ?_, ?_⟩
  · have h1 : a * y ≤ x * y := Int.mul_le_mul_of_nonneg_right x1 (by omega)
    split
    · exact Int.le_trans (mul_le_n y2 (by omega)) h1
    · exact Int.le_trans (mul_le_l y1 (by omega)) h1
  · have h1 : x * y ≤ b * y := Int.mul_le_mul_of_nonneg_right x2 (by omega)
    split
    · exact Int.le_trans h1 (mul_le_l y2 (by omega))
    · exact Int.le_trans h1 (mul_le_n y1 (by omega))
  · refine ⟨a, _, by omega, by omega, ?_, ?_, rfl⟩ <;> split <;> omega
  · refine ⟨b, _, by omega, by omega, ?_, ?_, rfl⟩ <;> split <;> omega
/-- Products by a row of one sign, up to 0. -/
theorem ranged_neg (a b c d : Int) (hab : a ≤ b) (hcd : c ≤ d) (hd : d ≤ 0) : Ranged a b c d (b * (if b < 0 then d else c)) (a * (if 0 ≤ a then d else c)) := by
  refine ⟨fun x y x1 x2 y1 y2 => ⟨?_, ?_⟩, ?_, ?_⟩
  · have h1 : b * y ≤ x * y := Int.mul_le_mul_of_nonpos_right x2 (by omega)
    split
    · exact Int.le_trans (mul_le_n y2 (by omega)) h1
    · exact Int.le_trans (mul_le_l y1 (by omega)) h1
  · have h1 : x * y ≤ a * y := Int.mul_le_mul_of_nonpos_right x1 (by omega)
    split
    · exact Int.le_trans h1 (mul_le_l y2 (by omega))
    · exact Int.le_trans h1 (mul_le_n y1 (by omega))
  · refine ⟨b, _, by omega, by omega, ?_, ?_, rfl⟩ <;> split <;> omega
  · refine ⟨a, _, by omega, by omega, ?_, ?_, rfl⟩ <;> split <;> omega

/-- Products of two rows with both signs: of the ends of the one. -/
theorem ranged_join {a b c d T U T' U' : Int} (hab : a ≤ b) (h : Ranged a a c d T U) (h' : Ranged b b c d T' U') : Ranged a b c d (min T T') (max U U') := by
  obtain ⟨h1, ⟨x, y, x1, x2, y1, y2, e⟩, ⟨z, v, z1, z2, v1, v2, g⟩⟩ := h
  obtain ⟨k1, ⟨x', y', x1', x2', y1', y2', e'⟩, ⟨z', v', z1', z2', v1', v2', g'⟩⟩ := h'
  refine ⟨fun p q p1 p2 q1 q2 => ?_, ?_, ?_⟩
  · have l1 := h1 a q (by omega) (by omega) q1 q2
    have l2 := k1 b q (by omega) (by omega) q1 q2
    rcases Int.le_total 0 q with g | g
    · have m1 : a * q ≤ p * q := Int.mul_le_mul_of_nonneg_right p1 g
      have m2 : p * q ≤ b * q := Int.mul_le_mul_of_nonneg_right p2 g
      omega
    · have m1 : p * q ≤ a * q := Int.mul_le_mul_of_nonpos_right p1 g
      have m2 : b * q ≤ p * q := Int.mul_le_mul_of_nonpos_right p2 g
      omega
  · rcases Int.le_total T T' with r | r
    · exact ⟨x, y, by omega, by omega, y1, y2, by omega⟩
    · exact ⟨x', y', by omega, by omega, y1', y2', by omega⟩
  · rcases Int.le_total U U' with r | r
    · exact ⟨z', v', by omega, by omega, v1', v2', by omega⟩
    · exact ⟨z, v, by omega, by omega, v1, v2, by omega⟩

theorem val_end (bl bh : Nat) (u : Bool) : val (endW bl bh u) = if u = true then val bh else val bl := by
  unfold endW; cases u <;> rfl

theorem cross_false {a b : Nat} (h : crossB a b = false) : 0 ≤ val a ∨ val b ≤ 0 := by
  unfold crossB ltB at h
  rw [val_nil] at h
  simp at h
  omega

theorem two_sq : 0 < 2 ^ sq := Nat.two_pow_pos _

/-- Products, where the second row has one sign. -/
theorem mul1_worth (al ah bl bh : Nat) (la : al < 18446744073709551616) (ha : ah < 18446744073709551616) (hr : ivR al ah = true) (hs : ivR bl bh = true) (hc : crossB bl bh = false) :
    ∃ T U, Ranged (val al) (val ah) (val bl) (val bh) T U ∧ Worth (2 ^ sq) (mul1 al ah bl bh) T U := by
  obtain ⟨a1, a2, a3⟩ := ivR_parts hr
  obtain ⟨b1, b2, b3⟩ := ivR_parts hs
  obtain ⟨_, x2, _, y2⟩ := low_right al ah bl la ha a1 a2
  have W := worth_tight two_sq ((mul_dir _ _ x2 (end_right bl bh (ltB (lowOf al ah bl) 0) b1 b2) false).1 rfl) ((mul_dir _ _ y2 (end_right bl bh (leB 0 (highOf al ah bl)) b1 b2) true).2 rfl)
  refine ⟨_, _, ?_, W⟩
  rw [val_end, val_end]
  unfold ltB leB
  rw [val_nil]
  by_cases hn : val bl < 0
  · have e1 : lowOf al ah bl = ah ∧ highOf al ah bl = al := by unfold lowOf highOf ltB; rw [val_nil]; simp [hn]
    rw [e1.1, e1.2]
    have hd : val bh ≤ 0 := by rcases cross_false hc with g | g <;> omega
    simpa using ranged_neg (val al) (val ah) (val bl) (val bh) a3 b3 hd
  · have e1 : lowOf al ah bl = al ∧ highOf al ah bl = ah := by unfold lowOf highOf ltB; rw [val_nil]; simp [hn]
    rw [e1.1, e1.2]
    simpa using ranged_pos (val al) (val ah) (val bl) (val bh) a3 b3 (by omega)

theorem mulJ_worth (al ah bl bh : Nat) (la : al < 18446744073709551616) (ha : ah < 18446744073709551616) (lb : bl < 18446744073709551616) (hb : bh < 18446744073709551616) (hr : ivR al ah = true) (hs : ivR bl bh = true) (hc : (crossB al ah && crossB bl bh) = false) :
    ∃ T U, Ranged (val al) (val ah) (val bl) (val bh) T U ∧ Worth (2 ^ sq) (mulJ al ah bl bh) T U := by
  unfold mulJ
  cases h : crossB bl bh
  · rw [if_neg Bool.false_ne_true]
    exact mul1_worth al ah bl bh la ha hr hs h
  · rw [if_pos rfl]
    rw [h, Bool.and_true] at hc
    obtain ⟨T, U, h1, h2⟩ := mul1_worth bl bh al ah lb hb hs hr hc
    exact ⟨T, U, ranged_swap h1, h2⟩

theorem mul_worth (al ah bl bh : Nat) (la : al < 18446744073709551616) (ha : ah < 18446744073709551616) (lb : bl < 18446744073709551616) (hb : bh < 18446744073709551616) (hr : ivR al ah = true) (hs : ivR bl bh = true) :
    ∃ T U, Ranged (val al) (val ah) (val bl) (val bh) T U ∧ Worth (2 ^ sq) (mulI al ah bl bh) T U := by
  obtain ⟨a1, a2, a3⟩ := ivR_parts hr
  unfold mulI
  cases h : (crossB al ah && crossB bl bh)
  · rw [if_neg Bool.false_ne_true]
    exact mulJ_worth al ah bl bh la ha lb hb hr hs h
  · rw [if_pos rfl]
    obtain ⟨T, U, h1, h2⟩ := mulJ_worth al al bl bh la la lb hb (ivR_one al a1) hs (by rw [cross_one, Bool.false_and])
    obtain ⟨T', U', k1, k2⟩ := mulJ_worth ah ah bl bh ha ha lb hb (ivR_one ah a2) hs (by rw [cross_one, Bool.false_and])
    exact ⟨_, _, ranged_join a3 h1 k1, worth_join two_sq h2 k2⟩

/-- Of lesser factors come products that lie within those of the greater ones. -/
theorem mul_within (al ah bl bh cl ch dl dh : Nat) (la : al < 18446744073709551616) (ha : ah < 18446744073709551616) (lb : bl < 18446744073709551616) (hb : bh < 18446744073709551616) (lc : cl < 18446744073709551616) (hc : ch < 18446744073709551616) (ld : dl < 18446744073709551616) (hd : dh < 18446744073709551616)
    (hr : ivR al ah = true) (hs : ivR bl bh = true) (hr' : ivR cl ch = true) (hs' : ivR dl dh = true) (h1 : val al ≤ val cl) (h2 : val ch ≤ val ah) (h3 : val bl ≤ val dl) (h4 : val dh ≤ val bh) : Within (mulI cl ch dl dh) (mulI al ah bl bh) := by
  obtain ⟨T, U, r, wo⟩ := mul_worth al ah bl bh la ha lb hb hr hs
  obtain ⟨T', U', r', wo'⟩ := mul_worth cl ch dl dh lc hc ld hd hr' hs'
  obtain ⟨g1, g2⟩ := ranged_mono r r' h1 h2 h3 h4
  exact wo.within two_sq wo' g1 g2

end Go.Proofs.Ytddgcdpmnfdpdaa

namespace Go.Proofs.Ytddgcdpmnfdpdaa
open Go.RowKit

section
variable (al ah bl bh cl ch dl dh : Nat) (la : al < 18446744073709551616) (ha : ah < 18446744073709551616) (lb : bl < 18446744073709551616) (hb : bh < 18446744073709551616) (lc : cl < 18446744073709551616) (hc : ch < 18446744073709551616) (ld : dl < 18446744073709551616) (hd : dh < 18446744073709551616)
  (hr : ivR al ah = true) (hs : ivR bl bh = true) (hr' : ivR cl ch = true) (hs' : ivR dl dh = true) (h1 : val al ≤ val cl) (h2 : val ch ≤ val ah) (h3 : val bl ≤ val dl) (h4 : val dh ≤ val bh)

include la ha lc hc hr hr' h1 h2 in
theorem neg_within : Within (negI cl ch) (negI al ah) := by
  obtain ⟨a1, a2, _⟩ := ivR_parts hr
  obtain ⟨c1, c2, _⟩ := ivR_parts hr'
  intro _
  refine ⟨rfl, ?_, ?_⟩
  · show val (turnW ah) ≤ val (turnW ch)
    rw [(turn_facts ah ha a2).2.2, (turn_facts ch hc c2).2.2]; omega
  · show val (turnW cl) ≤ val (turnW al)
    rw [(turn_facts al la a1).2.2, (turn_facts cl lc c1).2.2]; omega

include la ha hr in
/-- The absolute values, as numbers. -/
theorem abs_facts : absLo al ah < 18446744073709551616 ∧ absHi al ah < 18446744073709551616 ∧ rightB (absLo al ah) = true ∧ rightB (absHi al ah) = true ∧
    val (absLo al ah) = (if 0 ≤ val al then val al else if val ah ≤ 0 then -val ah else 0) ∧ val (absHi al ah) = max (val ah) (-val al) := by
  obtain ⟨a1, a2, a3⟩ := ivR_parts hr
  obtain ⟨t1, t2, t3⟩ := turn_facts al la a1
  obtain ⟨u1, u2, u3⟩ := turn_facts ah ha a2
  obtain ⟨m1, m2, m3⟩ := max_facts ah (turnW al) ha t1 a2 t2
  unfold absLo absHi leB
  rw [val_nil]
  by_cases h : 0 ≤ val al
  · simp only [h, decide_true, if_true]
    exact ⟨la, ha, a1, a2, by simp, by omega⟩
  · by_cases g : val ah ≤ 0
    · simp only [h, g, decide_true, decide_false, if_true, Bool.false_eq_true, if_false]
      exact ⟨u1, t1, u2, t2, u3, by omega⟩
    · simp only [h, g, decide_false, Bool.false_eq_true, if_false]
      exact ⟨by decide, m1, right_0, m2, val_nil, by omega⟩

include la ha lc hc hr hr' h1 h2 in
theorem abs_within : Within (absI cl ch) (absI al ah) := by
  obtain ⟨_, _, a3⟩ := ivR_parts hr
  obtain ⟨_, _, c3⟩ := ivR_parts hr'
  obtain ⟨_, _, _, _, e1, e2⟩ := abs_facts al ah la ha hr
  obtain ⟨_, _, _, _, f1, f2⟩ := abs_facts cl ch lc hc hr'
  intro _
  refine ⟨rfl, ?_, ?_⟩
  · show val (absLo al ah) ≤ val (absLo cl ch)
    rw [e1, f1]; split <;> split <;> (try split) <;> (try split) <;> omega
  · show val (absHi cl ch) ≤ val (absHi al ah)
    rw [e2, f2]; omega

include la ha lb hb lc hc ld hd hr hs hr' hs' h1 h2 h3 h4 in
theorem min_within : Within (minI cl ch dl dh) (minI al ah bl bh) := by
  obtain ⟨a1, a2, _⟩ := ivR_parts hr
  obtain ⟨b1, b2, _⟩ := ivR_parts hs
  obtain ⟨c1, c2, _⟩ := ivR_parts hr'
  obtain ⟨d1, d2, _⟩ := ivR_parts hs'
  intro _
  refine ⟨rfl, ?_, ?_⟩
  · show val (minW al bl) ≤ val (minW cl dl)
    rw [(min_facts al bl la lb a1 b1).2.2, (min_facts cl dl lc ld c1 d1).2.2]; omega
  · show val (minW ch dh) ≤ val (minW ah bh)
    rw [(min_facts ch dh hc hd c2 d2).2.2, (min_facts ah bh ha hb a2 b2).2.2]; omega

include la ha lb hb lc hc ld hd hr hs hr' hs' h1 h2 h3 h4 in
theorem max_within : Within (maxI cl ch dl dh) (maxI al ah bl bh) := by
  obtain ⟨a1, a2, _⟩ := ivR_parts hr
  obtain ⟨b1, b2, _⟩ := ivR_parts hs
  obtain ⟨c1, c2, _⟩ := ivR_parts hr'
  obtain ⟨d1, d2, _⟩ := ivR_parts hs'
  intro _
  refine ⟨rfl, ?_, ?_⟩
  · show val (maxW al bl) ≤ val (maxW cl dl)
    rw [(max_facts al bl la lb a1 b1).2.2, (max_facts cl dl lc ld c1 d1).2.2]; omega
  · show val (maxW ch dh) ≤ val (maxW ah bh)
    rw [(max_facts ch dh hc hd c2 d2).2.2, (max_facts ah bh ha hb a2 b2).2.2]; omega

include la ha lc hc hr hr' h1 h2 in
theorem sqr_within : Within (sqrI cl ch) (sqrI al ah) := by
  obtain ⟨_, _, a3⟩ := ivR_parts hr
  obtain ⟨_, _, c3⟩ := ivR_parts hr'
  obtain ⟨_, _, p1, p2, e1, e2⟩ := abs_facts al ah la ha hr
  obtain ⟨_, _, q1, q2, f1, f2⟩ := abs_facts cl ch lc hc hr'
  have g1 : 0 ≤ val (absLo al ah) ∧ val (absLo al ah) ≤ val (absLo cl ch) := by
    rw [e1, f1]; split <;> split <;> (try split) <;> (try split) <;> omega
  have g2 : 0 ≤ val (absHi cl ch) ∧ val (absHi cl ch) ≤ val (absHi al ah) := by rw [e2, f2]; omega
  have k1 : val (absLo al ah) * val (absLo al ah) ≤ val (absLo cl ch) * val (absLo cl ch) := Int.mul_le_mul g1.2 g1.2 g1.1 (by omega)
  have k2 : val (absHi cl ch) * val (absHi cl ch) ≤ val (absHi al ah) * val (absHi al ah) := Int.mul_le_mul g2.2 g2.2 g2.1 (by omega)
  exact (worth_tight two_sq ((mul_dir _ _ p1 p1 false).1 rfl) ((mul_dir _ _ p2 p2 true).2 rfl)).within two_sq (worth_tight two_sq ((mul_dir _ _ q1 q1 false).1 rfl) ((mul_dir _ _ q2 q2 true).2 rfl)) k1 k2
end

end Go.Proofs.Ytddgcdpmnfdpdaa

namespace Go.Proofs.Ytddgcdpmnfdpdaa
open Go.RowKit

theorem sgn_of_val (a : Nat) (la : a < 18446744073709551616) (ra : rightB a = true) : (0 ≤ val a → sgnB a = false) ∧ (val a < 0 → sgnB a = true) := by
  have h := val_neg a la ra
  refine ⟨fun g => ?_, fun g => h.1 g⟩
  cases hs : sgnB a
  · rfl
  · have := h.2 hs; omega

theorem sqrt_within (al ah cl ch : Nat) (la : al < 18446744073709551616) (ha : ah < 18446744073709551616) (lc : cl < 18446744073709551616) (hc : ch < 18446744073709551616) (hr : ivR al ah = true) (hr' : ivR cl ch = true) (h1 : val al ≤ val cl) (h2 : val ch ≤ val ah) : Within (sqrtI cl ch) (sqrtI al ah) := by
  obtain ⟨a1, a2, a3⟩ := ivR_parts hr
  obtain ⟨c1, c2, c3⟩ := ivR_parts hr'
  intro he
  have hn : ltB al 0 = false := by
    cases h : ltB al 0
    · rfl
    · unfold sqrtI at he; rw [if_pos h] at he; exact absurd he (by decide)
  have hv : 0 ≤ val al := by
    unfold ltB at hn; rw [val_nil] at hn; simp at hn; exact hn
  have hn' : ltB cl 0 = false := by unfold ltB; rw [val_nil]; exact decide_eq_false (by omega)
  have sa := (sgn_of_val al la a1).1 hv
  have sh := (sgn_of_val ah ha a2).1 (by omega)
  have sc := (sgn_of_val cl lc c1).1 (by omega)
  have sd := (sgn_of_val ch hc c2).1 (by omega)
  obtain ⟨p1, p2, p3, _⟩ := sqrt_rungs al a1 sa false
  obtain ⟨q1, q2, _, q4⟩ := sqrt_rungs ah a2 sh true
  obtain ⟨r1, r2, r3, _⟩ := sqrt_rungs cl c1 sc false
  obtain ⟨t1, t2, _, t4⟩ := sqrt_rungs ch c2 sd true
  have e1 : sqrtI al ah = ⟨0, sqrtW al false, sqrtW ah true⟩ := by unfold sqrtI tightR; rw [if_neg (by rw [hn]; exact Bool.false_ne_true), if_pos p1, if_pos q1]
  have e2 : sqrtI cl ch = ⟨0, sqrtW cl false, sqrtW ch true⟩ := by unfold sqrtI tightR; rw [if_neg (by rw [hn']; exact Bool.false_ne_true), if_pos r1, if_pos t1]
  rw [e1, e2]
  have va := val_pos sa
  have vh := val_pos sh
  have vc := val_pos sc
  have vd := val_pos sd
  have l1 : steps (rung al) * 2 ^ sq ≤ steps (rung cl) * 2 ^ sq := Nat.mul_le_mul_right _ (by omega)
  have l2 : steps (rung ch) * 2 ^ sq ≤ steps (rung ah) * 2 ^ sq := Nat.mul_le_mul_right _ (by omega)
  have m1 : sqrtW al false ≤ sqrtW cl false := (r3 rfl _).1 (Nat.le_trans ((p3 rfl _).2 (Nat.le_refl _)) l1)
  have m2 : sqrtW ch true ≤ sqrtW ah true := (t4 rfl _).1 (Nat.le_trans l2 ((q4 rfl _).2 (Nat.le_refl _)))
  have w : ∀ x, x ≤ 9218868437227405311 → val x = (steps x : Int) := fun x hx => by
    have := (sw_facts false x hx).2.2
    rw [sw_false] at this
    exact this
  refine ⟨rfl, ?_, ?_⟩
  · show val (sqrtW al false) ≤ val (sqrtW cl false)
    rw [w _ p2, w _ r2]; exact Int.ofNat_le.2 (steps_le m1)
  · show val (sqrtW ch true) ≤ val (sqrtW ah true)
    rw [w _ t2, w _ q2]; exact Int.ofNat_le.2 (steps_le m2)

theorem sg_by (b : Bool) (A K : Nat) : sg b (A * K) = sg b A * (K : Int) := by
  cases b
  · show ((A * K : Nat) : Int) = (A : Int) * (K : Int)
    rw [Int.natCast_mul]
  · show -((A * K : Nat) : Int) = -(A : Int) * (K : Int)
    rw [Int.natCast_mul, Int.neg_mul]

/-- A quotient, rounded: by what is above 0, and by what is below 0. -/
theorem div_pos (x y : Nat) (rx : rightB x = true) (ly : y < 18446744073709551616) (ry : rightB y = true) (h : 0 < val y) (up : Bool) :
    ∃ s : Nat, 0 < s ∧ (s : Int) = val y ∧ (up = false → Down s (val x * ((2 ^ sq : Nat) : Int)) (divW x y up) (divE x y up)) ∧ (up = true → Up s (val x * ((2 ^ sq : Nat) : Int)) (divW x y up) (divE x y up)) := by
  have sy := (sgn_of_val y ly ry).1 (by omega)
  have hy0 : y ≠ 0 := fun e => by rw [e, val_nil] at h; omega
  have hv := val_pos sy
  have hd := div_dir x y rx ry ly hy0 up
  have e : (!(sgnB x == sgnB y)) = sgnB x := by rw [sy]; cases sgnB x <;> rfl
  rw [e, sg_by, ← val_sg] at hd
  exact ⟨steps (rung y), by omega, by omega, hd⟩
theorem div_neg (x y : Nat) (rx : rightB x = true) (ly : y < 18446744073709551616) (ry : rightB y = true) (h : val y < 0) (up : Bool) :
    ∃ s : Nat, 0 < s ∧ (s : Int) = -val y ∧ (up = false → Down s (-val x * ((2 ^ sq : Nat) : Int)) (divW x y up) (divE x y up)) ∧ (up = true → Up s (-val x * ((2 ^ sq : Nat) : Int)) (divW x y up) (divE x y up)) := by
  have sy := (sgn_of_val y ly ry).2 h
  have hy0 : y ≠ 0 := fun e => by rw [e, val_nil] at h; omega
  have hv := val_negs sy
  have hd := div_dir x y rx ry ly hy0 up
  have e : (!(sgnB x == sgnB y)) = !sgnB x := by rw [sy]; cases sgnB x <;> rfl
  rw [e, sg_by, neg_sg, ← val_sg] at hd
  exact ⟨steps (rung y), by omega, by omega, hd⟩

theorem has_zero {bl bh : Nat} (lb : bl < 18446744073709551616) (hb : bh < 18446744073709551616) (hs : ivR bl bh = true) : hasB bl bh 0 = decide (val bl ≤ 0 ∧ 0 ≤ val bh) := by
  obtain ⟨b1, b2, b3⟩ := ivR_parts hs
  unfold hasB
  rw [hs]
  have e1 : rawLe bl 0 = leB bl 0 := order_le bl 0 lb (by decide) b1 right_0
  have e2 : rawLe 0 bh = leB 0 bh := order_le 0 bh (by decide) hb right_0 b2
  rw [e1, e2]
  unfold leB
  rw [val_nil, Bool.true_and, Bool.eq_iff_iff]
  simp

/-- Two quotients by what is above 0: the ends of the greater row against those of the lesser one. -/
theorem quo_pos (a b c d a' b' c' d' : Int) (hcd : c' ≤ d') (h1 : a ≤ a') (h2 : b' ≤ b) (h3 : c ≤ c') (h4 : d' ≤ d) (hc : 0 < c) :
    a * (if 0 ≤ a' then d' else c') ≤ a' * (if 0 ≤ a then d else c) ∧ b' * (if b < 0 then d else c) ≤ b * (if b' < 0 then d' else c') := by
  constructor
  · have k : ∀ y, c ≤ y → y ≤ d → a * y ≤ a' * (if 0 ≤ a then d else c) := fun y y1 y2 => by
      split
      · rename_i g
        exact Int.le_trans (mul_le_l y2 g) (Int.mul_le_mul_of_nonneg_right h1 (by omega))
      · rename_i g
        exact Int.le_trans (mul_le_n y1 (by omega)) (Int.mul_le_mul_of_nonneg_right h1 (by omega))
    apply k <;> split <;> omega
  · have k : ∀ y, c ≤ y → y ≤ d → b' * (if b < 0 then d else c) ≤ b * y := fun y y1 y2 => by
      split
      · rename_i g
        exact Int.le_trans (Int.mul_le_mul_of_nonneg_right h2 (by omega)) (mul_le_n y2 (by omega))
      · rename_i g
        exact Int.le_trans (Int.mul_le_mul_of_nonneg_right h2 (by omega)) (mul_le_l y1 (by omega))
    apply k <;> split <;> omega
/-- .. and by what is below 0. -/
theorem quo_neg (a b c d a' b' c' d' : Int) (hcd : c' ≤ d') (h1 : a ≤ a') (h2 : b' ≤ b) (h3 : c ≤ c') (h4 : d' ≤ d) (hd : d < 0) :
    b * (if 0 ≤ b' then d' else c') ≤ b' * (if 0 ≤ b then d else c) ∧ a' * (if a < 0 then d else c) ≤ a * (if a' < 0 then d' else c') := by
  constructor
  · have k : ∀ y, c ≤ y → y ≤ d → b * y ≤ b' * (if 0 ≤ b then d else c) := fun y y1 y2 => by
      split
      · rename_i g
        exact Int.le_trans (mul_le_l y2 g) (Int.mul_le_mul_of_nonpos_right h2 (by omega))
      · rename_i g
        exact Int.le_trans (mul_le_n y1 (by omega)) (Int.mul_le_mul_of_nonpos_right h2 (by omega))
    apply k <;> split <;> omega
  · have k : ∀ y, c ≤ y → y ≤ d → a' * (if a < 0 then d else c) ≤ a * y := fun y y1 y2 => by
      split
      · rename_i g
        exact Int.le_trans (Int.mul_le_mul_of_nonpos_right h1 (by omega)) (mul_le_n y2 (by omega))
      · rename_i g
        exact Int.le_trans (Int.mul_le_mul_of_nonpos_right h1 (by omega)) (mul_le_l y1 (by omega))
    apply k <;> split <;> omega

theorem scale_mul {x y u v : Int} (K : Nat) (h : x * v ≤ y * u) : x * (K : Int) * v ≤ y * (K : Int) * u := by
  have h1 : x * v * (K : Int) ≤ y * u * (K : Int) := Int.mul_le_mul_of_nonneg_right h (by omega)
  rw [Int.mul_assoc x, Int.mul_comm (K : Int) v, ← Int.mul_assoc, Int.mul_assoc y, Int.mul_comm (K : Int) u, ← Int.mul_assoc]
  exact h1

/-- Of lesser rows come quotients that lie within those of the greater ones. -/
theorem div_within (al ah bl bh cl ch dl dh : Nat) (lb : bl < 18446744073709551616) (hb : bh < 18446744073709551616) (ld : dl < 18446744073709551616) (hd : dh < 18446744073709551616)
    (hr : ivR al ah = true) (hs : ivR bl bh = true) (hr' : ivR cl ch = true) (hs' : ivR dl dh = true) (h1 : val al ≤ val cl) (h2 : val ch ≤ val ah) (h3 : val bl ≤ val dl) (h4 : val dh ≤ val bh) : Within (divI cl ch dl dh) (divI al ah bl bh) := by
  obtain ⟨a1, a2, a3⟩ := ivR_parts hr
  obtain ⟨b1, b2, b3⟩ := ivR_parts hs
  obtain ⟨c1, c2, c3⟩ := ivR_parts hr'
  obtain ⟨d1, d2, d3⟩ := ivR_parts hs'
  intro he
  have hz : ¬ (val bl ≤ 0 ∧ 0 ≤ val bh) := fun g => by
    unfold divI at he
    rw [if_pos (by rw [has_zero lb hb hs]; exact decide_eq_true g)] at he
    exact absurd he (by decide)
  have e1 : divI al ah bl bh = div1 al ah bl bh := by unfold divI; rw [if_neg (by rw [has_zero lb hb hs]; simpa using hz)]
  have e2 : divI cl ch dl dh = div1 cl ch dl dh := by unfold divI; rw [if_neg (by rw [has_zero ld hd hs']; simp; omega)]
  rw [e1] at he ⊢
  rw [e2]
  revert he
  show Within (div1 cl ch dl dh) (div1 al ah bl bh)
  unfold div1 leB ltB
  rw [val_nil]
  rcases (show 0 < val bl ∨ val bh < 0 by omega) with hp | hn
  · have f1 : lowOf al ah bl = al ∧ highOf al ah bl = ah := by unfold lowOf highOf ltB; rw [val_nil]; simp; omega
    have f2 : lowOf cl ch dl = cl ∧ highOf cl ch dl = ch := by unfold lowOf highOf ltB; rw [val_nil]; simp; omega
    rw [f1.1, f1.2, f2.1, f2.2]
    obtain ⟨k1, k2⟩ := quo_pos (val al) (val ah) (val bl) (val bh) (val cl) (val ch) (val dl) (val dh) d3 h1 h2 h3 h4 hp
    have pe : ∀ u, 0 < val (endW bl bh u) := fun u => by rw [val_end]; split <;> omega
    have qe : ∀ u, 0 < val (endW dl dh u) := fun u => by rw [val_end]; split <;> omega
    obtain ⟨s, s0, s1, s2, _⟩ := div_pos al (endW bl bh (decide (0 ≤ val al))) a1 (end_lt bl bh _ lb hb) (end_right bl bh _ b1 b2) (pe _) false
    obtain ⟨u, u0, u1, _, u2⟩ := div_pos ah (endW bl bh (decide (val ah < 0))) a2 (end_lt bl bh _ lb hb) (end_right bl bh _ b1 b2) (pe _) true
    obtain ⟨s', _, t1, t2, _⟩ := div_pos cl (endW dl dh (decide (0 ≤ val cl))) c1 (end_lt dl dh _ ld hd) (end_right dl dh _ d1 d2) (qe _) false
    obtain ⟨u', _, v1, _, v2⟩ := div_pos ch (endW dl dh (decide (val ch < 0))) c2 (end_lt dl dh _ ld hd) (end_right dl dh _ d1 d2) (qe _) true
    rw [val_end] at s1 u1 t1 v1
    simp only [decide_eq_true_eq] at s1 u1 t1 v1
    refine tight_within s0 u0 (s2 rfl) (u2 rfl) (t2 rfl) (v2 rfl) (scale_mul _ ?_) (scale_mul _ ?_)
    · rw [s1, t1]; exact k1
    · rw [u1, v1]; exact k2
  · have f1 : lowOf al ah bl = ah ∧ highOf al ah bl = al := by unfold lowOf highOf ltB; rw [val_nil]; simp; omega
    have f2 : lowOf cl ch dl = ch ∧ highOf cl ch dl = cl := by unfold lowOf highOf ltB; rw [val_nil]; simp; omega
    rw [f1.1, f1.2, f2.1, f2.2]
    obtain ⟨k1, k2⟩ := quo_neg (val al) (val ah) (val bl) (val bh) (val cl) (val ch) (val dl) (val dh) d3 h1 h2 h3 h4 hn
    have pe : ∀ u, val (endW bl bh u) < 0 := fun u => by rw [val_end]; split <;> omega
    have qe : ∀ u, val (endW dl dh u) < 0 := fun u => by rw [val_end]; split <;> omega
    obtain ⟨s, s0, s1, s2, _⟩ := div_neg ah (endW bl bh (decide (0 ≤ val ah))) a2 (end_lt bl bh _ lb hb) (end_right bl bh _ b1 b2) (pe _) false
    obtain ⟨u, u0, u1, _, u2⟩ := div_neg al (endW bl bh (decide (val al < 0))) a1 (end_lt bl bh _ lb hb) (end_right bl bh _ b1 b2) (pe _) true
    obtain ⟨s', _, t1, t2, _⟩ := div_neg ch (endW dl dh (decide (0 ≤ val ch))) c2 (end_lt dl dh _ ld hd) (end_right dl dh _ d1 d2) (qe _) false
    obtain ⟨u', _, v1, _, v2⟩ := div_neg cl (endW dl dh (decide (val cl < 0))) c1 (end_lt dl dh _ ld hd) (end_right dl dh _ d1 d2) (qe _) true
    rw [val_end] at s1 u1 t1 v1
    simp only [decide_eq_true_eq] at s1 u1 t1 v1
    refine tight_within s0 u0 (s2 rfl) (u2 rfl) (t2 rfl) (v2 rfl) (scale_mul _ ?_) (scale_mul _ ?_)
    · rw [s1, t1, Int.neg_mul_neg, Int.neg_mul_neg]; exact k1
    · rw [u1, v1, Int.neg_mul_neg, Int.neg_mul_neg]; exact k2

end Go.Proofs.Ytddgcdpmnfdpdaa

namespace Go.Proofs.Ytddgcdpmnfdpdaa
open Go.RowKit

/-- An answer without an error is of numbers. -/
def Nums (R : Res) : Prop := R.e = 0 → R.lo < 18446744073709551616 ∧ rightB R.lo = true ∧ R.hi < 18446744073709551616 ∧ rightB R.hi = true

theorem num_tight {lo hi : Nat} {e f : Int} (h : e = 0 → lo < 18446744073709551616 ∧ rightB lo = true) (k : f = 0 → hi < 18446744073709551616 ∧ rightB hi = true) : Nums (tightR lo e hi f) := by
  intro he
  obtain ⟨rfl, rfl, h3⟩ := tight_e he
  rw [h3]
  exact ⟨(h rfl).1, (h rfl).2, (k rfl).1, (k rfl).2⟩

theorem both_right {a b : Nat} {e : Int} (h : (if rightB a && rightB b then e else 13) = 0) : rightB a = true ∧ rightB b = true := by
  cases ra : rightB a
  · rw [ra, Bool.false_and, if_neg Bool.false_ne_true] at h; exact absurd h (by decide)
  · cases rb : rightB b
    · rw [ra, rb, Bool.and_false, if_neg Bool.false_ne_true] at h; exact absurd h (by decide)
    · exact ⟨rfl, rfl⟩

theorem num_add (a b : Nat) (up : Bool) (h : addE a b up = 0) : addW a b up < 18446744073709551616 ∧ rightB (addW a b up) = true := by
  obtain ⟨ra, rb⟩ := both_right h
  cases up
  · have d := add_down a b ra rb
    rw [h] at d; exact ⟨d.ok.1, d.ok.2.1⟩
  · have d := add_up a b ra rb
    rw [h] at d; exact ⟨d.ok.1, d.ok.2.1⟩
theorem num_sub (a b : Nat) (up : Bool) (h : subE a b up = 0) : subW a b up < 18446744073709551616 ∧ rightB (subW a b up) = true := by
  obtain ⟨ra, rb⟩ := both_right h
  cases up
  · have d := sub_down a b ra rb
    rw [h] at d; exact ⟨d.ok.1, d.ok.2.1⟩
  · have d := sub_up a b ra rb
    rw [h] at d; exact ⟨d.ok.1, d.ok.2.1⟩
theorem num_mul (a b : Nat) (up : Bool) (h : mulE a b up = 0) : mulW a b up < 18446744073709551616 ∧ rightB (mulW a b up) = true := by
  obtain ⟨ra, rb⟩ := both_right h
  have d := mul_dir a b ra rb up
  cases up
  · have d := d.1 rfl
    rw [h] at d; exact ⟨d.ok.1, d.ok.2.1⟩
  · have d := d.2 rfl
    rw [h] at d; exact ⟨d.ok.1, d.ok.2.1⟩
theorem num_div (a b : Nat) (up : Bool) (lb : b < 18446744073709551616) (h : divE a b up = 0) : divW a b up < 18446744073709551616 ∧ rightB (divW a b up) = true := by
  obtain ⟨ra, rb⟩ := both_right h
  by_cases h0 : b = 0
  · exfalso
    unfold divE at h
    rw [ra, rb, show (true && true) = true from rfl, if_pos rfl, if_pos h0] at h
    exact absurd h (by decide)
  · rcases Int.lt_trichotomy (val b) 0 with g | g | g
    · obtain ⟨s, _, _, d1, d2⟩ := div_neg a b ra lb rb g up
      cases up
      · have d := d1 rfl
        rw [h] at d; exact ⟨d.ok.1, d.ok.2.1⟩
      · have d := d2 rfl
        rw [h] at d; exact ⟨d.ok.1, d.ok.2.1⟩
    · exact absurd (val_inj lb (by decide) rb right_0 (by rw [g, val_0])) h0
    · obtain ⟨s, _, _, d1, d2⟩ := div_pos a b ra lb rb g up
      cases up
      · have d := d1 rfl
        rw [h] at d; exact ⟨d.ok.1, d.ok.2.1⟩
      · have d := d2 rfl
        rw [h] at d; exact ⟨d.ok.1, d.ok.2.1⟩
theorem num_sqrt (a : Nat) (up : Bool) (h : sqrtE a up = 0) : sqrtW a up < 18446744073709551616 ∧ rightB (sqrtW a up) = true := by
  have ra : rightB a = true := by
    cases ra : rightB a
    · unfold sqrtE at h; rw [ra, if_neg Bool.false_ne_true] at h; exact absurd h (by decide)
    · rfl
  have sa : sgnB a = false := by
    cases sa : sgnB a
    · rfl
    · unfold sqrtE at h; rw [ra, sa, if_pos rfl, if_pos rfl] at h; exact absurd h (by decide)
  obtain ⟨_, a2, _⟩ := sqrt_rungs a ra sa up
  obtain ⟨p1, p2, _⟩ := pos_facts (sqrtW a up) (by omega)
  exact ⟨p1, p2⟩

theorem ask_nums (al ah bl bh j : Nat) (hj : j < 11) (la : al < 18446744073709551616) (ha : ah < 18446744073709551616) (lb : bl < 18446744073709551616) (hb : bh < 18446744073709551616) (r1 : ivR al ah = true) (r2 : ivR bl bh = true) : Nums (askI al ah bl bh j) := by
  obtain ⟨a1, a2, _⟩ := ivR_parts r1
  obtain ⟨b1, b2, _⟩ := ivR_parts r2
  rcases (show j = 0 ∨ j = 1 ∨ j = 2 ∨ j = 3 ∨ j = 4 ∨ j = 5 ∨ j = 6 ∨ j = 7 ∨ j = 8 ∨ j = 9 ∨ j = 10 by omega) with rfl | rfl | rfl | rfl | rfl | rfl | rfl | rfl | rfl | rfl | rfl
  · exact num_tight (num_add _ _ _) (num_add _ _ _)
  · exact num_tight (num_sub _ _ _) (num_sub _ _ _)
  · intro he
    obtain ⟨T, U, _, wo⟩ := mul_worth al ah bl bh la ha lb hb r1 r2
    obtain ⟨d, u⟩ := wo.ends he
    exact ⟨d.ok.1, d.ok.2.1, u.ok.1, u.ok.2.1⟩
  · show Nums (divI al ah bl bh)
    unfold divI
    by_cases hz : hasB bl bh 0 = true
    · rw [if_pos hz]; intro he; exact absurd he (by decide)
    · rw [if_neg hz]
      exact num_tight (num_div _ _ _ (end_lt bl bh _ lb hb)) (num_div _ _ _ (end_lt bl bh _ lb hb))
  · intro _
    obtain ⟨m1, m2, _⟩ := min_facts al bl la lb a1 b1
    obtain ⟨n1, n2, _⟩ := min_facts ah bh ha hb a2 b2
    exact ⟨m1, m2, n1, n2⟩
  · intro _
    obtain ⟨m1, m2, _⟩ := max_facts al bl la lb a1 b1
    obtain ⟨n1, n2, _⟩ := max_facts ah bh ha hb a2 b2
    exact ⟨m1, m2, n1, n2⟩
  · exact num_tight (num_mul _ _ _) (num_mul _ _ _)
  · show Nums (sqrtI al ah)
    unfold sqrtI
    by_cases hz : ltB al 0 = true
    · rw [if_pos hz]; intro he; exact absurd he (by decide)
    · rw [if_neg hz]
      exact num_tight (num_sqrt _ _) (num_sqrt _ _)
  · intro _
    obtain ⟨m1, m2, _⟩ := turn_facts ah ha a2
    obtain ⟨n1, n2, _⟩ := turn_facts al la a1
    exact ⟨m1, m2, n1, n2⟩
  · intro _
    obtain ⟨m1, m2, m3, m4, _⟩ := abs_facts al ah la ha r1
    exact ⟨m1, m3, m2, m4⟩
  · show Nums (ofI al)
    unfold ofI
    rw [if_pos a1]
    intro _
    exact ⟨la, a1, la, a1⟩

theorem ask_ok (al ah bl bh j : Nat) (hj : j < 11) (r1 : ivR al ah = true) (r2 : ivR bl bh = true) : askR 0 al ah bl bh j = askI al ah bl bh j := by
  unfold askR stepI
  rw [if_pos rfl]
  have : askB al ah bl bh j = true := by
    rcases (show j = 0 ∨ j = 1 ∨ j = 2 ∨ j = 3 ∨ j = 4 ∨ j = 5 ∨ j = 6 ∨ j = 7 ∨ j = 8 ∨ j = 9 ∨ j = 10 by omega) with rfl | rfl | rfl | rfl | rfl | rfl | rfl | rfl | rfl | rfl | rfl <;> simp [askB, r1, r2]
  rw [this, if_pos rfl]

/-- Of lesser intervals comes a lesser answer. -/
theorem ask_within (al ah bl bh cl ch dl dh j : Nat) (hj : j < 11) (la : al < 18446744073709551616) (ha : ah < 18446744073709551616) (lb : bl < 18446744073709551616) (hb : bh < 18446744073709551616) (lc : cl < 18446744073709551616) (hc : ch < 18446744073709551616) (ld : dl < 18446744073709551616) (hd : dh < 18446744073709551616)
    (r1 : ivR al ah = true) (r2 : ivR bl bh = true) (r3 : ivR cl ch = true) (r4 : ivR dl dh = true) (h1 : val al ≤ val cl) (h2 : val ch ≤ val ah) (h3 : val bl ≤ val dl) (h4 : val dh ≤ val bh) (h10 : j = 10 → al = ah) :
    Within (askI cl ch dl dh j) (askI al ah bl bh j) := by
  rcases (show j = 0 ∨ j = 1 ∨ j = 2 ∨ j = 3 ∨ j = 4 ∨ j = 5 ∨ j = 6 ∨ j = 7 ∨ j = 8 ∨ j = 9 ∨ j = 10 by omega) with rfl | rfl | rfl | rfl | rfl | rfl | rfl | rfl | rfl | rfl | rfl
  · exact add_within al ah bl bh cl ch dl dh r1 r2 r3 r4 h1 h2 h3 h4
  · exact sub_within al ah bl bh cl ch dl dh r1 r2 r3 r4 h1 h2 h3 h4
  · exact mul_within al ah bl bh cl ch dl dh la ha lb hb lc hc ld hd r1 r2 r3 r4 h1 h2 h3 h4
  · exact div_within al ah bl bh cl ch dl dh lb hb ld hd r1 r2 r3 r4 h1 h2 h3 h4
  · exact min_within al ah bl bh cl ch dl dh la ha lb hb lc hc ld hd r1 r2 r3 r4 h1 h2 h3 h4
  · exact max_within al ah bl bh cl ch dl dh la ha lb hb lc hc ld hd r1 r2 r3 r4 h1 h2 h3 h4
  · exact sqr_within al ah cl ch la ha lc hc r1 r3 h1 h2
  · exact sqrt_within al ah cl ch la ha lc hc r1 r3 h1 h2
  · exact neg_within al ah cl ch la ha lc hc r1 r3 h1 h2
  · exact abs_within al ah cl ch la ha lc hc r1 r3 h1 h2
  · have e := h10 rfl
    subst e
    obtain ⟨a1, a2, _⟩ := ivR_parts r1
    obtain ⟨c1, c2, c3⟩ := ivR_parts r3
    show Within (ofI cl) (ofI al)
    unfold ofI
    rw [if_pos a1, if_pos c1]
    intro _
    exact ⟨rfl, h1, by show val cl ≤ val al; omega⟩

/-- A part of an interval. -/
theorem part_in (al ah p q : Nat) (la : al < 18446744073709551616) (ha : ah < 18446744073709551616) (hr : ivR al ah = true) :
    minW (btwW al ah p) (btwW al ah q) < 18446744073709551616 ∧ maxW (btwW al ah p) (btwW al ah q) < 18446744073709551616 ∧ ivR (minW (btwW al ah p) (btwW al ah q)) (maxW (btwW al ah p) (btwW al ah q)) = true ∧ val al ≤ val (minW (btwW al ah p) (btwW al ah q)) ∧ val (maxW (btwW al ah p) (btwW al ah q)) ≤ val ah := by
  obtain ⟨x1, x2, x3, x4⟩ := btw_in al ah p la ha hr
  obtain ⟨y1, y2, y3, y4⟩ := btw_in al ah q la ha hr
  obtain ⟨m1, m2, m3⟩ := min_facts _ _ x1 y1 x2 y2
  obtain ⟨n1, n2, n3⟩ := max_facts _ _ x1 y1 x2 y2
  refine ⟨m1, n1, ?_, by omega, by omega⟩
  unfold ivR leB
  rw [m2, n2, decide_eq_true (by omega)]; rfl

theorem less_any (n al ah bl bh p q r s : Nat) (w : World) (hn : n < 256) (la : al < 18446744073709551616) (ha : ah < 18446744073709551616) (lb : bl < 18446744073709551616) (hb : bh < 18446744073709551616) (hp : p < 65536) (hq : q < 65536) (hr : r < 65536) (hs : s < 65536) :
    Calls Try.prog 6 #[.agg #[.int .u8 n, .float .f64 al, .float .f64 ah, .float .f64 bl, .float .f64 bh], .int .u16 p, .int .u16 q, .int .u16 r, .int .u16 s] w fun r w' => r = .returned (.bool true) ∧ Below w.heap.size w w' := by
  cases h : (ivR al ah && ivR bl bh)
  · exact less_bad n al ah bl bh p q r s w la ha lb hb h
  · rw [Bool.and_eq_true] at h
    obtain ⟨r1, r2⟩ := h
    obtain ⟨a1, a2, a3⟩ := ivR_parts r1
    obtain ⟨t, ht⟩ : ∃ t, t = if (((n : Int) % 11 == 10) = true) then al else ah := ⟨_, rfl⟩
    have lt : t < 18446744073709551616 := by rw [ht]; split <;> assumption
    have r1' : ivR al t = true := by
      rw [ht]; split
      · unfold ivR leB; rw [a1, decide_eq_true (Int.le_refl _)]; rfl
      · exact r1
    have hj : n % 11 < 11 := Nat.mod_lt _ (by decide)
    have h10 : n % 11 = 10 → al = t := fun h => by rw [ht, if_pos (by rw [beq_iff_eq]; omega)]
    obtain ⟨x1, x2, x3, x4, x5⟩ := part_in al t p q la lt r1'
    obtain ⟨y1, y2, y3, y4, y5⟩ := part_in bl bh r s lb hb r2
    have cA := fun w => ivRight_any al ah w la ha
    have cB := fun w => ivRight_any bl bh w lb hb
    rw [r1] at cA
    rw [r2] at cB
    refine less_walk n al ah t bl bh p q r s _ _ _ _ (askI al t bl bh (n % 11)) (askI (minW (btwW al t p) (btwW al t q)) (maxW (btwW al t p) (btwW al t q)) (minW (btwW bl bh r) (btwW bl bh s)) (maxW (btwW bl bh r) (btwW bl bh s)) (n % 11)) _ w (Lib.hid cA) (Lib.hid cB) rfl (by omega) (by omega) (Lib.hid ht) (Lib.hid fun w => less1_any al t p q w la lt hp hq r1') (Lib.hid fun w => less1_any bl bh r s w lb hb hr hs r2)
      (Lib.hid fun pb w hc hf => ?_) (Lib.hid fun pb w hc hf => ?_) (Lib.hid fun he => ?_)
    · have := asked_any 0 n al t bl bh pb 0 w hn la lt lb hb hc hf
      rw [ask_ok _ _ _ _ _ hj r1' r2] at this
      exact this
    · have := asked_any 0 n _ _ _ _ pb 0 w hn x1 x2 y1 y2 hc hf
      rw [ask_ok _ _ _ _ _ hj x3 y3] at this
      exact this
    · obtain ⟨w1, w2, w3⟩ := ask_within al t bl bh _ _ _ _ (n % 11) hj la lt lb hb x1 x2 y1 y2 r1' r2 x3 y3 x4 x5 y4 y5 h10 he
      obtain ⟨n1, n2, n3, n4⟩ := ask_nums al t bl bh (n % 11) hj la lt lb hb r1' r2 he
      obtain ⟨m1, m2, m3, m4⟩ := ask_nums _ _ _ _ (n % 11) hj x1 x2 y1 y2 x3 y3 w1
      refine ⟨w1, ?_, ?_⟩
      · rw [order_le _ _ n1 m1 n2 m2]; exact decide_eq_true w2
      · rw [order_le _ _ m3 n3 m4 n4]; exact decide_eq_true w3

end Go.Proofs.Ytddgcdpmnfdpdaa

namespace Go.Proofs.Ytddgcdpmnfdpdaa
open Go.ChangeShapes Go.WideShapes Go.ChangeAt Go.RowKit Go.Joins

theorem Try.own : ownKnob Try.prog.godebug = none := by kernel_rfl
theorem Try.cellsIv : Try.prog.cellsOf 39 = 2 := by kernel_rfl

theorem trod_float {H : Type} {enc : TypeId × Value → H} {P : Program} {w : World} {base : Nat} {spare : Nat → Bool} {held : Bool} {fuel : Nat} {t : TypeId} {k : FloatKind} {v : Value} {x : DataW H × List MemPlace} (ht : P.underlying t = some (.float k)) (h : DataW.trod enc P w base spare held fuel t [v] = some x) :
    ∃ n, v = .float k n ∧ x = (.lit (.float k n), []) ∧ (Lit.float k n).wf = true := by
  cases fuel with
  | zero => simp [DataW.trod] at h
  | succ n =>
    unfold DataW.trod at h
    rw [ht] at h
    split at h <;> simp_all

set_option maxRecDepth 100000 in
theorem open_iv {H : Type} {enc : TypeId × Value → H} {W : World} {base : Nat} {spare : Nat → Bool} {held : Bool} {r : Reach} {b0 : Nat} {v : Value} {d : DataW H} {p : List MemPlace} (hv : Value.okWide Try.prog W r b0 39 v) (h : DataW.Trod enc Try.prog W base spare held 39 v d p) :
    ∃ lo hi, v = .agg #[.float .f64 lo, .float .f64 hi] ∧ d = .agg [.lit (.float .f64 lo), .lit (.float .f64 hi)] ∧ p = [] ∧ (Lit.float .f64 lo).wf = true ∧ (Lit.float .f64 hi).wf = true := by
  obtain ⟨c0, c1, y0, y1, m, rfl, rfl, rfl, hy0, hy1⟩ := open_agg2 Try.underlying39 (by kernel_rfl) Try.cellsIv hv h
  obtain ⟨lo, rfl, rfl, w0⟩ := trod_float Try.underlying22 hy0
  obtain ⟨hi, rfl, rfl, w1⟩ := trod_float Try.underlying22 hy1
  exact ⟨lo, hi, rfl, rfl, rfl, w0, w1⟩

set_option maxRecDepth 100000 in
theorem shut_iv {H : Type} {enc : TypeId × Value → H} {W : World} {base : Nat} {spare : Nat → Bool} {held : Bool} {lo hi : Nat} (w0 : (Lit.float .f64 lo).wf = true) (w1 : (Lit.float .f64 hi).wf = true) :
    DataW.Trod enc Try.prog W base spare held 39 (.agg #[.float .f64 lo, .float .f64 hi]) (.agg [.lit (.float .f64 lo), .lit (.float .f64 hi)]) [] :=
  shut_agg2 (y0 := (.lit (.float .f64 lo), [])) (y1 := (.lit (.float .f64 hi), [])) Try.underlying39 (by kernel_rfl) Try.cellsIv ⟨1, by simp [DataW.trod, Try.underlying22, w0]⟩ ⟨1, by simp [DataW.trod, Try.underlying22, w1]⟩

end Go.Proofs.Ytddgcdpmnfdpdaa

namespace Go.Proofs.Ytddgcdpmnfdpdaa
open Go.ChangeShapes Go.WideShapes Go.ChangeAt Go.RowKit Go.Joins Go.Deep

theorem Try.cellsOp : Try.prog.cellsOf 41 = 5 := by kernel_rfl
theorem Try.cellsU8 : Try.prog.cellsOf 5 = 1 := by kernel_rfl

theorem array5 {α : Type} {cs : Array α} (h : cs.size = 5) : ∃ c0 c1 c2 c3 c4, cs = #[c0, c1, c2, c3, c4] := by
  obtain ⟨l⟩ := cs
  match l, h with
  | [c0, c1, c2, c3, c4], _ => exact ⟨c0, c1, c2, c3, c4, rfl⟩

/-- The two cells of an interval. -/
theorem trod_iv {H : Type} {enc : TypeId × Value → H} {w : World} {base : Nat} {spare : Nat → Bool} {held : Bool} {fuel : Nat} {v0 v1 : Value} {x : DataW H × List MemPlace} (h : DataW.trod enc Try.prog w base spare held fuel 39 [v0, v1] = some x) :
    ∃ lo hi, v0 = .float .f64 lo ∧ v1 = .float .f64 hi ∧ x = (.agg [.lit (.float .f64 lo), .lit (.float .f64 hi)], []) ∧ (Lit.float .f64 lo).wf = true ∧ (Lit.float .f64 hi).wf = true := by
  obtain ⟨y0, y1, n, hx, _, h0, h1⟩ := trod_struct2 Try.underlying39 h
  have k : Try.prog.cellsOf 22 = 1 := by kernel_rfl
  have h0' : DataW.trod enc Try.prog w base spare held n 22 [v0] = some y0 := by rw [k] at h0; exact h0
  have h1' : DataW.trod enc Try.prog w base spare held n 22 [v1] = some y1 := by rw [k] at h1; exact h1
  obtain ⟨lo, rfl, rfl, w0⟩ := trod_float Try.underlying22 h0'
  obtain ⟨hi, rfl, rfl, w1⟩ := trod_float Try.underlying22 h1'
  exact ⟨lo, hi, rfl, rfl, hx, w0, w1⟩

set_option maxRecDepth 100000 in
/-- The five cells of an op. -/
theorem trod_op {H : Type} {enc : TypeId × Value → H} {w : World} {base : Nat} {spare : Nat → Bool} {held : Bool} {fuel : Nat} {v0 v1 v2 v3 v4 : Value} {x : DataW H × List MemPlace} (h : DataW.trod enc Try.prog w base spare held fuel 41 [v0, v1, v2, v3, v4] = some x) :
    ∃ n al ah bl bh, v0 = .int .u8 n ∧ v1 = .float .f64 al ∧ v2 = .float .f64 ah ∧ v3 = .float .f64 bl ∧ v4 = .float .f64 bh ∧
      x = (.agg [.lit (.int .u8 n), .agg [.lit (.float .f64 al), .lit (.float .f64 ah)], .agg [.lit (.float .f64 bl), .lit (.float .f64 bh)]], []) ∧ (Lit.int .u8 n).wf = true ∧
      (Lit.float .f64 al).wf = true ∧ (Lit.float .f64 ah).wf = true ∧ (Lit.float .f64 bl).wf = true ∧ (Lit.float .f64 bh).wf = true := by
  obtain ⟨y0, y1, y2, n, hx, _, h0, h1, h2⟩ := trod_struct3 Try.underlying41 h
  have h0' : DataW.trod enc Try.prog w base spare held n 5 [v0] = some y0 := by rw [Try.cellsU8] at h0; exact h0
  have h1' : DataW.trod enc Try.prog w base spare held n 39 [v1, v2] = some y1 := by rw [Try.cellsIv] at h1; exact h1
  have h2' : DataW.trod enc Try.prog w base spare held n 39 [v3, v4] = some y2 := by rw [Try.cellsIv] at h2; exact h2
  obtain ⟨m, e0, rfl, w0⟩ := DataW.trod_int Try.underlying5 h0'
  obtain ⟨al, ah, rfl, rfl, rfl, w1, w2⟩ := trod_iv h1'
  obtain ⟨bl, bh, rfl, rfl, rfl, w3, w4⟩ := trod_iv h2'
  have e0' : v0 = .int .u8 m := by simpa using e0
  exact ⟨m, al, ah, bl, bh, e0', rfl, rfl, rfl, rfl, hx, w0, w1, w2, w3, w4⟩

set_option maxRecDepth 100000 in
theorem open_op {H : Type} {enc : TypeId × Value → H} {W : World} {base : Nat} {spare : Nat → Bool} {held : Bool} {r : Reach} {b0 : Nat} {v : Value} {d : DataW H} {p : List MemPlace} (hv : Value.okWide Try.prog W r b0 41 v) (h : DataW.Trod enc Try.prog W base spare held 41 v d p) :
    ∃ n al ah bl bh, v = .agg #[.int .u8 n, .float .f64 al, .float .f64 ah, .float .f64 bl, .float .f64 bh] ∧
      d = .agg [.lit (.int .u8 n), .agg [.lit (.float .f64 al), .lit (.float .f64 ah)], .agg [.lit (.float .f64 bl), .lit (.float .f64 bh)]] ∧ p = [] ∧ (Lit.int .u8 n).wf = true ∧
      (Lit.float .f64 al).wf = true ∧ (Lit.float .f64 ah).wf = true ∧ (Lit.float .f64 bl).wf = true ∧ (Lit.float .f64 bh).wf = true := by
  obtain ⟨cs, rfl, hsz⟩ := okWide_struct Try.underlying41 hv
  obtain ⟨c0, c1, c2, c3, c4, rfl⟩ := array5 (hsz.trans Try.cellsOp)
  obtain ⟨fuel, hf⟩ := h
  have hf' : DataW.trod enc Try.prog W base spare held fuel 41 [c0, c1, c2, c3, c4] = some (d, p) := hf
  obtain ⟨n, al, ah, bl, bh, rfl, rfl, rfl, rfl, rfl, hx, w0, w1, w2, w3, w4⟩ := trod_op hf'
  simp only [Prod.mk.injEq] at hx
  exact ⟨n, al, ah, bl, bh, rfl, hx.1, hx.2, w0, w1, w2, w3, w4⟩

theorem trod_float_mk {H : Type} {enc : TypeId × Value → H} {P : Program} {w : World} {base : Nat} {spare : Nat → Bool} {held : Bool} {t : TypeId} {k : FloatKind} {n : Nat} (m : Nat) (ht : P.underlying t = some (.float k)) (hw : (Lit.float k n).wf = true) : DataW.trod enc P w base spare held (m + 1) t [.float k n] = some (.lit (.float k n), []) := by
  simp [DataW.trod, ht, hw]

set_option maxRecDepth 100000 in
theorem trod_iv_mk {H : Type} {enc : TypeId × Value → H} {w : World} {base : Nat} {spare : Nat → Bool} {held : Bool} {lo hi : Nat} (w0 : (Lit.float .f64 lo).wf = true) (w1 : (Lit.float .f64 hi).wf = true) :
    DataW.trod enc Try.prog w base spare held 2 39 [.float .f64 lo, .float .f64 hi] = some (.agg [.lit (.float .f64 lo), .lit (.float .f64 hi)], []) := by
  have k : Try.prog.cellsOf 22 = 1 := by kernel_rfl
  have h0 : DataW.trod enc Try.prog w base spare held 1 22 (([.float .f64 lo, .float .f64 hi].drop 0).take (Try.prog.cellsOf 22)) = some (.lit (.float .f64 lo), []) := by rw [k]; exact trod_float_mk 0 Try.underlying22 w0
  have h1 : DataW.trod enc Try.prog w base spare held 1 22 (([.float .f64 lo, .float .f64 hi].drop 1).take (Try.prog.cellsOf 22)) = some (.lit (.float .f64 hi), []) := by rw [k]; exact trod_float_mk 0 Try.underlying22 w1
  exact trod_struct2_mk Try.underlying39 (by rw [Try.cellsIv]; rfl) h0 h1

set_option maxRecDepth 100000 in
theorem shut_op {H : Type} {enc : TypeId × Value → H} {W : World} {base : Nat} {spare : Nat → Bool} {held : Bool} {n : Int} {al ah bl bh : Nat} (w0 : (Lit.int .u8 n).wf = true) (w1 : (Lit.float .f64 al).wf = true) (w2 : (Lit.float .f64 ah).wf = true) (w3 : (Lit.float .f64 bl).wf = true) (w4 : (Lit.float .f64 bh).wf = true) :
    DataW.Trod enc Try.prog W base spare held 41 (.agg #[.int .u8 n, .float .f64 al, .float .f64 ah, .float .f64 bl, .float .f64 bh]) (.agg [.lit (.int .u8 n), .agg [.lit (.float .f64 al), .lit (.float .f64 ah)], .agg [.lit (.float .f64 bl), .lit (.float .f64 bh)]]) [] := by
  have h0 : DataW.trod enc Try.prog W base spare held 2 5 (([.int .u8 n, .float .f64 al, .float .f64 ah, .float .f64 bl, .float .f64 bh].drop 0).take (Try.prog.cellsOf 5)) = some (.lit (.int .u8 n), []) := by rw [Try.cellsU8]; exact trod_int_mk 1 Try.underlying5 w0
  have h1 : DataW.trod enc Try.prog W base spare held 2 39 (([.int .u8 n, .float .f64 al, .float .f64 ah, .float .f64 bl, .float .f64 bh].drop 1).take (Try.prog.cellsOf 39)) = some (.agg [.lit (.float .f64 al), .lit (.float .f64 ah)], []) := by rw [Try.cellsIv]; exact trod_iv_mk w1 w2
  have h2 : DataW.trod enc Try.prog W base spare held 2 39 (([.int .u8 n, .float .f64 al, .float .f64 ah, .float .f64 bl, .float .f64 bh].drop 3).take (Try.prog.cellsOf 39)) = some (.agg [.lit (.float .f64 bl), .lit (.float .f64 bh)], []) := by rw [Try.cellsIv]; exact trod_iv_mk w3 w4
  exact ⟨3, trod_struct3_mk Try.underlying41 (by rw [Try.cellsOp]; rfl) h0 h1 h2⟩

end Go.Proofs.Ytddgcdpmnfdpdaa

namespace Go.Proofs.Ytddgcdpmnfdpdaa
open Go.ChangeShapes Go.WideShapes Go.ChangeAt Go.RowKit

section
variable {H : Type} {enc : TypeId × Value → H} {P : Program} {w : World} {base : Nat} {spare : Nat → Bool} {held : Bool}
theorem trodAll_five {t0 t1 t2 t3 t4 : TypeId} {args : Array Value} {ds : List (DataW H)} {ps : List MemPlace} (h : DataW.TrodAll enc P w base spare held [t0, t1, t2, t3, t4] args.toList ds ps) :
    ∃ v0 v1 v2 v3 v4 d0 d1 d2 d3 d4 p0 p1 p2 p3 p4, args = #[v0, v1, v2, v3, v4] ∧ ds = [d0, d1, d2, d3, d4] ∧ ps = p0 ++ p1 ++ p2 ++ p3 ++ p4 ∧ DataW.Trod enc P w base spare held t0 v0 d0 p0 ∧ DataW.Trod enc P w base spare held t1 v1 d1 p1 ∧ DataW.Trod enc P w base spare held t2 v2 d2 p2 ∧ DataW.Trod enc P w base spare held t3 v3 d3 p3 ∧ DataW.Trod enc P w base spare held t4 v4 d4 p4 := by
  obtain ⟨v0, vs0, d0, ds0, p0, q0, hargs, rfl, rfl, h0, r0⟩ := trodAll_cons h
  obtain ⟨v1, vs1, d1, ds1, p1, q1, rfl, rfl, rfl, h1, r1⟩ := trodAll_cons r0
  obtain ⟨v2, vs2, d2, ds2, p2, q2, rfl, rfl, rfl, h2, r2⟩ := trodAll_cons r1
  obtain ⟨v3, vs3, d3, ds3, p3, q3, rfl, rfl, rfl, h3, r3⟩ := trodAll_cons r2
  obtain ⟨v4, vs4, d4, ds4, p4, q4, rfl, rfl, rfl, h4, r4⟩ := trodAll_cons r3
  obtain ⟨rfl, rfl, rfl⟩ := trodAll_nil r4
  exact ⟨v0, v1, v2, v3, v4, d0, d1, d2, d3, d4, p0, p1, p2, p3, p4, by rw [← Array.toList_inj, hargs], rfl, by simp, h0, h1, h2, h3, h4⟩
theorem trodAll_mk5 {t0 t1 t2 t3 t4 : TypeId} {v0 v1 v2 v3 v4 : Value} {d0 d1 d2 d3 d4 : DataW H} {p0 p1 p2 p3 p4 : List MemPlace} (h0 : DataW.Trod enc P w base spare held t0 v0 d0 p0) (h1 : DataW.Trod enc P w base spare held t1 v1 d1 p1) (h2 : DataW.Trod enc P w base spare held t2 v2 d2 p2) (h3 : DataW.Trod enc P w base spare held t3 v3 d3 p3) (h4 : DataW.Trod enc P w base spare held t4 v4 d4 p4) :
    DataW.TrodAll enc P w base spare held [t0, t1, t2, t3, t4] [v0, v1, v2, v3, v4] [d0, d1, d2, d3, d4] (p0 ++ (p1 ++ (p2 ++ (p3 ++ p4)))) := ⟨p0, p1 ++ (p2 ++ (p3 ++ p4)), h0, trodAll_mk4 h1 h2 h3 h4, rfl⟩
end

theorem u16_in {y : Int} (wf : (Lit.int .u16 y).wf = true) : ∃ x : Nat, y = (x : Int) ∧ x < 65536 := by
  have h := wf
  simp [Lit.wf] at h
  have e1 : IntKind.u16.min = 0 := by decide
  have e2 : IntKind.u16.max = 65535 := by decide
  obtain ⟨x, rfl⟩ := Int.eq_ofNat_of_zero_le (by omega : 0 ≤ y)
  exact ⟨x, rfl, by omega⟩
theorem u8_in {y : Int} (wf : (Lit.int .u8 y).wf = true) : ∃ x : Nat, y = (x : Int) ∧ x < 256 := by
  have h := wf
  simp [Lit.wf] at h
  have e1 : IntKind.u8.min = 0 := by decide
  have e2 : IntKind.u8.max = 255 := by decide
  obtain ⟨x, rfl⟩ := Int.eq_ofNat_of_zero_le (by omega : 0 ≤ y)
  exact ⟨x, rfl, by omega⟩

set_option maxRecDepth 100000 in
theorem ivalLess_lifted (os : Os) (started : os.Started) (H : Type) (enc : TypeId × Value → H) :
    ReturnsInHanded {} Try.checked os 6 .any (Rows.ivalLessSpec.pre6 enc Try.prog Try.f6 Rows.ivalLessRow.domain false) (Rows.ivalLessSpec.post enc Try.prog Try.f6 false true false false) := by
  refine returnsInHanded_of_change (C := Try.checked) Try.own started (by kernel_rfl) Try.func6
    (ChangeSpec.witness6 (enc := enc) (C := Try.checked) false ⟨#[], #[.agg #[.int .u8 0, .float .f64 0, .float .f64 0, .float .f64 0, .float .f64 0], .int .u16 0, .int .u16 0, .int .u16 0, .int .u16 0], []⟩ 8 (by kernel_rfl) (by kernel_rfl) (by kernel_rfl) (by kernel_rfl)) ?_
  intro W base args ds gs before hval0 hW hcnd _
  have hval : ∀ (j : Nat) t v, Try.f6.params[j]? = some t → args[j]? = some v → Value.okWide Try.prog W .any base t v := hval0
  have hW' := hW
  obtain ⟨p, q, hA0, hV, rfl, hfz, hnd⟩ := hW
  have hA : DataW.TrodAll enc Try.prog W 0 (fun _ => true) true Try.f6.params.toList args.toList ds p := hA0
  rw [Try.params6] at hA hval
  obtain ⟨v0, v1, v2, v3, v4, d0, d1, d2, d3, d4, p0, p1, p2, p3, p4, rfl, rfl, rfl, h0, h1, h2, h3, h4⟩ := trodAll_five hA
  obtain ⟨rfl, rfl⟩ := trodVars_none hV
  obtain ⟨n, al, ah, bl, bh, rfl, rfl, rfl, w0, wa, wb, wc, wd⟩ := open_op (hval 0 41 v0 rfl rfl) h0
  obtain ⟨y1, rfl, rfl, rfl, w1⟩ := open_int Try.underlying42 (hval 1 42 v1 rfl rfl) h1
  obtain ⟨y2, rfl, rfl, rfl, w2⟩ := open_int Try.underlying42 (hval 2 42 v2 rfl rfl) h2
  obtain ⟨y3, rfl, rfl, rfl, w3⟩ := open_int Try.underlying42 (hval 3 42 v3 rfl rfl) h3
  obtain ⟨y4, rfl, rfl, rfl, w4⟩ := open_int Try.underlying42 (hval 4 42 v4 rfl rfl) h4
  clear hA0 hval0
  simp only [List.append_nil] at hW'
  obtain ⟨x0, rfl, l0⟩ := u8_in w0
  obtain ⟨x1, rfl, l1⟩ := u16_in w1
  obtain ⟨x2, rfl, l2⟩ := u16_in w2
  obtain ⟨x3, rfl, l3⟩ := u16_in w3
  obtain ⟨x4, rfl, l4⟩ := u16_in w4
  have la : al < 18446744073709551616 := by simpa [Lit.wf] using wa
  have lb : ah < 18446744073709551616 := by simpa [Lit.wf] using wb
  have lc : bl < 18446744073709551616 := by simpa [Lit.wf] using wc
  have ld : bh < 18446744073709551616 := by simpa [Lit.wf] using wd
  refine (less_any x0 al ah bl bh x1 x2 x3 x4 W l0 la lb lc ld l1 l2 l3 l4).mono fun e W' ⟨he, hw⟩ => ?_
  subst he
  refine ⟨_, rfl, _, _, _, [], [], [], hW', trodAll_mk1 (shut_bool Try.underlying4 _), trodAll_mk5 (shut_op w0 wa wb wc wd) (shut_int Try.underlying42 w1) (shut_int Try.underlying42 w2) (shut_int Try.underlying42 w3) (shut_int Try.underlying42 w4), rfl, hw.frame _, fun h => by cases h⟩

theorem ivalLess_holds : Rows.IvalLessSaid :=
  OpenClaim.holds_of_wide 6 Try.f6 rfl rfl rfl rfl rfl rfl rfl ⟨rfl, rfl, rfl, rfl, rfl⟩ rfl rfl rfl rfl rfl (by kernel_rfl) Try.func6 (by kernel_rfl)
    (of_decide_eq_true (by kernel_rfl)) (by unfold Func.isWrapper; first | (rw [if_pos (by decide +kernel)]; kernel_rfl) | (rw [if_neg (by decide +kernel)]; exact ⟨rfl, rfl⟩))
    (fun os started H enc _ => ivalLess_lifted os started H enc)

end Go.Proofs.Ytddgcdpmnfdpdaa
