
/- The statement DirSums: down of a sum is the greatest number that is not above it. No conditions. -/
import Derived.Test.YtdppppaoflhgdaaAddM
import Derived.Test.YtdppppaoflhgdaaAwakeB
namespace Go.Proofs.Ytdppppaoflhgdaa
open Go.RowKit

theorem order_gt (a b : Nat) (ha : a < 18446744073709551616) (hb : b < 18446744073709551616) (ra : rightB a = true) (rb : rightB b = true) : (FloatKind.f64.format.order a b == some Ordering.gt) = decide (val b < val a) := by
  rw [order_val a b ha hb (right_rung a ra) (right_rung b rb)]
  rcases Int.lt_trichotomy (val a) (val b) with g | g | g
  · rw [Int.compare_eq_lt.2 g, decide_eq_false (by omega)]; rfl
  · rw [Int.compare_eq_eq.2 g, decide_eq_false (by omega)]; rfl
  · rw [Int.compare_eq_gt.2 g, decide_eq_true g]; rfl

theorem addE_right {a b : Nat} {up : Bool} (h : addE a b up ≠ 13) : rightB a = true ∧ rightB b = true := by
  cases ra : rightB a
  · exact absurd (if_neg (by rw [ra]; exact Bool.false_ne_true)) h
  · cases rb : rightB b
    · exact absurd (if_neg (by rw [ra, rb]; exact Bool.false_ne_true)) h
    · exact ⟨rfl, rfl⟩

theorem Down.err {s : Nat} {T : Int} {c : Nat} {e : Int} (h : Down s T c e) : e = 0 ∨ e = 10 := by
  rcases h with ⟨h, _⟩ | ⟨h, _⟩ <;> omega
theorem Up.err {s : Nat} {T : Int} {c : Nat} {e : Int} (h : Up s T c e) : e = 0 ∨ e = 10 := by
  rcases h with ⟨h, _⟩ | ⟨h, _⟩ <;> omega
theorem Down.ok {s : Nat} {T : Int} {c : Nat} (h : Down s T c 0) : c < 18446744073709551616 ∧ rightB c = true ∧ val c * (s : Int) ≤ T ∧ ∀ d, d < 18446744073709551616 → rightB d = true → val d * (s : Int) ≤ T → val d ≤ val c := by
  rcases h with ⟨_, h⟩ | ⟨h, _⟩
  · exact h
  · omega
theorem Up.ok {s : Nat} {T : Int} {c : Nat} (h : Up s T c 0) : c < 18446744073709551616 ∧ rightB c = true ∧ T ≤ val c * (s : Int) ∧ ∀ d, d < 18446744073709551616 → rightB d = true → T ≤ val d * (s : Int) → val c ≤ val d := by
  rcases h with ⟨_, h⟩ | ⟨h, _⟩
  · exact h
  · omega

theorem val_1 : val 1 = 1 := by decide
theorem right_1 : rightB 1 = true := by decide
theorem val_m1 : val 9223372036854775809 = -1 := by decide
theorem right_m1 : rightB 9223372036854775809 = true := by decide

theorem addE_cases (a b : Nat) (up : Bool) : addE a b up = 0 ∨ addE a b up = 10 ∨ addE a b up = 13 := by
  by_cases h : addE a b up = 13
  · exact Or.inr (Or.inr h)
  · obtain ⟨ra, rb⟩ := addE_right h
    cases up
    · rcases (add_down a b ra rb).err with g | g
      · exact Or.inl g
      · exact Or.inr (Or.inl g)
    · rcases (add_up a b ra rb).err with g | g
      · exact Or.inl g
      · exact Or.inr (Or.inl g)

/-- The step up from a number that is no greatest one. -/
theorem next_up (s : Nat) (rs : rightB s = true) : (addE s 1 true = 0 ∧ addW s 1 true < 18446744073709551616 ∧ rightB (addW s 1 true) = true ∧ val s < val (addW s 1 true) ∧ ∀ d, d < 18446744073709551616 → rightB d = true → val s < val d → val (addW s 1 true) ≤ val d) ∨ (addE s 1 true = 10 ∧ ∀ d, d < 18446744073709551616 → rightB d = true → val d ≤ val s) := by
  have h := add_up s 1 rs right_1
  rw [val_1] at h
  rcases h with ⟨h1, h2, h3, h4, h5⟩ | ⟨h1, _, h3⟩
  · refine Or.inl ⟨h1, h2, h3, by omega, fun d hd rd hlt => h5 d hd rd (by omega)⟩
  · exact Or.inr ⟨h1, fun d hd rd => by have := h3 d hd rd; omega⟩

theorem sums_back (a b : Nat) (hb : b < 18446744073709551616) (hE : addE a b false = 0) :
    rightB (addW a b false) = true ∧ addW a b false < 18446744073709551616 ∧
    ((subE (addW a b false) a true = 0 ∧ (FloatKind.f64.format.order (subW (addW a b false) a true) b == some Ordering.gt) = false) ∨ subE (addW a b false) a true = 10) ∧
    ((addE (addW a b false) 1 true = 0 ∧ addW (addW a b false) 1 true < 18446744073709551616 ∧
      ((subE (addW (addW a b false) 1 true) a true = 0 ∧ (FloatKind.f64.format.order (subW (addW (addW a b false) 1 true) a true) b == some Ordering.gt) = true) ∨ subE (addW (addW a b false) 1 true) a true = 10)) ∨ addE (addW a b false) 1 true = 10) := by
  obtain ⟨ra, rb⟩ := addE_right (a := a) (b := b) (up := false) (by omega)
  have hd := add_down a b ra rb
  rw [hE] at hd
  obtain ⟨d1, d2, d3, d4⟩ := hd.ok
  refine ⟨d2, d1, ?_, ?_⟩
  · have hu := sub_up (addW a b false) a d2 ra
    rcases hu.err with g | g
    · rw [g] at hu
      obtain ⟨u1, u2, u3, u4⟩ := hu.ok
      refine Or.inl ⟨g, ?_⟩
      rw [order_gt _ _ u1 hb u2 rb]
      exact decide_eq_false (by have := u4 b hb rb (by omega); omega)
    · exact Or.inr g
  · rcases next_up (addW a b false) d2 with ⟨n1, n2, n3, n4, _⟩ | ⟨n1, _⟩
    · refine Or.inl ⟨n1, n2, ?_⟩
      have hgt : val a + val b < val (addW (addW a b false) 1 true) := by
        rcases Int.lt_or_le (val a + val b) (val (addW (addW a b false) 1 true)) with g | g
        · exact g
        · have := d4 _ n2 n3 (by omega); omega
      have hu := sub_up (addW (addW a b false) 1 true) a n3 ra
      rcases hu.err with g | g
      · rw [g] at hu
        obtain ⟨u1, u2, u3, u4⟩ := hu.ok
        refine Or.inl ⟨g, ?_⟩
        rw [order_gt _ _ u1 hb u2 rb]
        exact decide_eq_true (by omega)
      · exact Or.inr g
    · exact Or.inr n1

end Go.Proofs.Ytdppppaoflhgdaa
