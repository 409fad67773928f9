
/- The statement DirGrows: no greater operand makes a lesser sum, product or root. No conditions. -/
import Derived.Test.YtdppppaoflhgdaaPartsW
namespace Go.Proofs.Ytdppppaoflhgdaa
open Go.RowKit

theorem Down.grows {s : Nat} {T T' : Int} {c c' : Nat} (h : Down s T c 0) (h' : Down s T' c' 0) (hT : T ≤ T') : val c ≤ val c' := by
  obtain ⟨a1, a2, a3, _⟩ := h.ok
  obtain ⟨_, _, _, b4⟩ := h'.ok
  exact b4 c a1 a2 (by omega)
theorem Up.grows {s : Nat} {T T' : Int} {c c' : Nat} (h : Up s T c 0) (h' : Up s T' c' 0) (hT : T ≤ T') : val c ≤ val c' := by
  obtain ⟨_, _, _, a4⟩ := h.ok
  obtain ⟨b1, b2, b3, _⟩ := h'.ok
  exact a4 c' b1 b2 (by omega)

/-- Two answers, the first one's real result being no greater. -/
def Pair (e f : Int) (x y : Nat) : Prop := (e = 0 ∧ f = 0 ∧ (FloatKind.f64.format.order x y == some Ordering.gt) = false) ∨ e = 10 ∨ (e = 0 ∧ f = 10)

theorem pair_of (s : Nat) (T T' : Int) (x y : Nat) (e f : Int) (up : Bool) (h : (up = false → Down s T x e) ∧ (up = true → Up s T x e)) (h' : (up = false → Down s T' y f) ∧ (up = true → Up s T' y f)) (hT : T ≤ T') : Pair e f x y := by
  cases up
  · have g := h.1 rfl
    have g' := h'.1 rfl
    rcases g.err with he | he
    · rcases g'.err with hf | hf
      · subst he; subst hf
        obtain ⟨a1, a2, _, _⟩ := g.ok
        obtain ⟨b1, b2, _, _⟩ := g'.ok
        refine Or.inl ⟨rfl, rfl, ?_⟩
        rw [order_gt x y a1 b1 a2 b2]
        exact decide_eq_false (by have := g.grows g' hT; omega)
      · exact Or.inr (Or.inr ⟨he, hf⟩)
    · exact Or.inr (Or.inl he)
  · have g := h.2 rfl
    have g' := h'.2 rfl
    rcases g.err with he | he
    · rcases g'.err with hf | hf
      · subst he; subst hf
        obtain ⟨a1, a2, _, _⟩ := g.ok
        obtain ⟨b1, b2, _, _⟩ := g'.ok
        refine Or.inl ⟨rfl, rfl, ?_⟩
        rw [order_gt x y a1 b1 a2 b2]
        exact decide_eq_false (by have := g.grows g' hT; omega)
      · exact Or.inr (Or.inr ⟨he, hf⟩)
    · exact Or.inr (Or.inl he)

theorem add_dir (a b : Nat) (ra : rightB a = true) (rb : rightB b = true) (up : Bool) : (up = false → Down 1 (val a + val b) (addW a b up) (addE a b up)) ∧ (up = true → Up 1 (val a + val b) (addW a b up) (addE a b up)) := by
  cases up
  · exact ⟨fun _ => add_down a b ra rb, fun h => (by cases h)⟩
  · exact ⟨fun h => (by cases h), fun _ => add_up a b ra rb⟩

theorem sqrt_le_of (a b : Nat) (hb : b < 18446744073709551616) (ra : rightB a = true) (rb : rightB b = true) (h : val a ≤ val b) (up : Bool) :
    (sqrtE a up = 0 ∧ sqrtE b up = 0 ∧ ((FloatKind.f64.format.order (sqrtW a up) (sqrtW b up) == some Ordering.lt) || (FloatKind.f64.format.order (sqrtW a up) (sqrtW b up) == some Ordering.eq)) = true) ∨ sqrtE a up = 12 := by
  cases sa : sgnB a
  · left
    have pa : 0 ≤ val a := by rw [val_pos sa]; omega
    have sb := pos_sgn hb rb (by omega)
    have hAB : steps (rung a) ≤ steps (rung b) := by rw [val_pos sa, val_pos sb] at h; omega
    obtain ⟨a1, a2, a3, a4⟩ := sqrt_rungs a ra sa up
    obtain ⟨b1, b2, b3, b4⟩ := sqrt_rungs b rb sb up
    have hle : sqrtW a up ≤ sqrtW b up := by
      have hm := Nat.mul_le_mul_right (2 ^ sq) hAB
      cases up
      · refine (b3 rfl _).1 (Nat.le_trans ((a3 rfl _).2 (Nat.le_refl _)) hm)
      · refine (a4 rfl _).1 (Nat.le_trans hm ((b4 rfl _).2 (Nat.le_refl _)))
    obtain ⟨f1, f2, f3⟩ := sw_facts false _ a2
    obtain ⟨g1, g2, g3⟩ := sw_facts false _ b2
    rw [sw_false] at f1 f2 f3 g1 g2 g3
    refine ⟨a1, b1, ?_⟩
    rw [le_fact _ _ f1 g1 f2 g2]
    refine decide_eq_true ?_
    rw [f3, g3]
    exact Int.ofNat_le.2 (steps_le hle)
  · right
    exact (if_pos ra).trans (if_pos sa)

theorem abs_any (c : Nat) (w : World) (hc : c < 18446744073709551616) :
    Calls Try.prog 14 #[.float .f64 c] w fun r w' => r = .returned (.float .f64 (rung c)) ∧ w = w' := by
  have h1 := run_bits
  have h2 := run_frombits
  have h3 := andNot_sign c hc
  go_enter Try.func14, Try.ntmps14
  go_wp2
  go_ret
  exact ⟨rfl, rfl⟩

theorem run_min (a b : Nat) (ts : Array TypeId) (t : TypeId) (w : World) (h : FloatKind.f64.format.order a b = some Ordering.lt ∨ a = b ∧ FloatKind.f64.format.order a b = some Ordering.eq) :
    (Builtin.min_ ts t #[.float .f64 a, .float .f64 b]).run Try.prog w = .ok (.float .f64 a) w ∧ (Builtin.max_ ts t #[.float .f64 a, .float .f64 b]).run Try.prog w = .ok (.float .f64 b) w := by
  rcases h with h | ⟨rfl, h⟩
  · simp [Builtin.min_, Builtin.min2, Builtin.max_, Builtin.max2, h]
  · simp [Builtin.min_, Builtin.min2, Builtin.max_, Builtin.max2, h]
theorem run_max (a b : Nat) (ts : Array TypeId) (t : TypeId) (w : World) (h : FloatKind.f64.format.order a b = some Ordering.gt) :
    (Builtin.min_ ts t #[.float .f64 a, .float .f64 b]).run Try.prog w = .ok (.float .f64 b) w ∧ (Builtin.max_ ts t #[.float .f64 a, .float .f64 b]).run Try.prog w = .ok (.float .f64 a) w := by
  simp [Builtin.min_, Builtin.min2, Builtin.max_, Builtin.max2, h]

end Go.Proofs.Ytdppppaoflhgdaa
