
/- The document's answer for layer 1: its Next is the program's, for every word, either way. -/
import Derived.Test.YtmcecchcbfhfcaaRefA
import Derived.Test.YtmcecchcbfhfcaaFair
namespace Go.Proofs.Ytmcecchcbfhfcaa
open Go.RowKit

theorem Up.unique {s : Nat} {T : Int} {c c' : Nat} {e e' : Int} (h : Up s T c e) (h' : Up s T c' e') : c = c' ∧ e = e' := by
  rcases h with ⟨a0, a1, a2, a3, a4⟩ | ⟨a0, a1, a2⟩
  · rcases h' with ⟨b0, b1, b2, b3, b4⟩ | ⟨b0, b1, b2⟩
    · exact ⟨val_inj a1 b1 a2 b2 (by have := a4 _ b1 b2 b3; have := b4 _ a1 a2 a3; omega), by omega⟩
    · have := b2 c a1 a2; omega
  · rcases h' with ⟨b0, b1, b2, b3, b4⟩ | ⟨b0, b1, b2⟩
    · have := a2 c' b1 b2; omega
    · exact ⟨by omega, by omega⟩
theorem Down.unique {s : Nat} {T : Int} {c c' : Nat} {e e' : Int} (h : Down s T c e) (h' : Down s T c' e') : c = c' ∧ e = e' := by
  rcases h with ⟨a0, a1, a2, a3, a4⟩ | ⟨a0, a1, a2⟩
  · rcases h' with ⟨b0, b1, b2, b3, b4⟩ | ⟨b0, b1, b2⟩
    · exact ⟨val_inj a1 b1 a2 b2 (by have := a4 _ b1 b2 b3; have := b4 _ a1 a2 a3; omega), by omega⟩
    · have := b2 c a1 a2; omega
  · rcases h' with ⟨b0, b1, b2, b3, b4⟩ | ⟨b0, b1, b2⟩
    · have := a2 c' b1 b2; omega
    · exact ⟨by omega, by omega⟩

/-- A word of a number is its sign and its rung. -/
theorem word_cases (d : Nat) (hd : d < 18446744073709551616) (rd : rightB d = true) : (d < 9218868437227405312 ∧ val d = (steps d : Int)) ∨ ∃ r, d = 9223372036854775808 + r ∧ 1 ≤ r ∧ r < 9218868437227405312 ∧ val d = -(steps r : Int) := by
  have hr := right_rung d rd
  have hn := right_ne d rd
  by_cases h : d < 9223372036854775808
  · left
    have h1 : d < 9218868437227405312 := by unfold rung at hr; omega
    exact ⟨h1, (pos_facts d h1).2.2.2.2⟩
  · right
    have e : rung d = d - 9223372036854775808 := by unfold rung; omega
    refine ⟨d - 9223372036854775808, by omega, by omega, by omega, ?_⟩
    unfold val
    have hs : sgnB d = true := by unfold sgnB; exact decide_eq_true (by omega)
    rw [hs, e, if_pos rfl]

theorem neg_facts (r : Nat) (h1 : 1 ≤ r) (h2 : r < 9218868437227405312) : 9223372036854775808 + r < 18446744073709551616 ∧ rightB (9223372036854775808 + r) = true ∧ val (9223372036854775808 + r) = -(steps r : Int) := by
  obtain ⟨f1, f2, f3⟩ := sw_facts true r (by omega)
  rw [sw_true r (by omega)] at f1 f2 f3
  exact ⟨f1, f2, f3⟩

/-- The word beside: up; down. -/
def besideW (x : Nat) (up : Bool) : Nat := if x = 0 then (if up then 1 else 9223372036854775809) else if up = decide (x < 9223372036854775808) then x + 1 else x - 1
/-- What the document's Next makes of it. -/
def stepW (x : Nat) (up : Bool) : Nat := if rung (besideW x up) = 9218868437227405312 then 0 else if besideW x up = 9223372036854775808 then 0 else besideW x up
def stepE (x : Nat) (up : Bool) : Int := if rung (besideW x up) = 9218868437227405312 then 10 else 0

theorem up_step (x : Nat) (hx : x < 18446744073709551616) (rx : rightB x = true) : Up 1 (val x + 1) (stepW x true) (stepE x true) := by
  have e1 : ((1 : Nat) : Int) = 1 := rfl
  rcases word_cases x hx rx with ⟨h1, hv⟩ | ⟨r, h0, h1, h2, hv⟩
  · have hb : besideW x true = x + 1 := by
      unfold besideW
      by_cases h0 : x = 0
      · rw [if_pos h0, h0]; rfl
      · rw [if_neg h0, if_pos (decide_eq_true (by omega)).symm]
    have hr : rung (x + 1) = x + 1 := by unfold rung; omega
    unfold stepW stepE
    rw [hb, hr]
    by_cases hm : x + 1 = 9218868437227405312
    · rw [if_pos hm, if_pos hm]
      refine Or.inr ⟨rfl, rfl, fun d hd rd => ?_⟩
      have h3 := val_max d rd
      have hx' : x = 9218868437227405311 := by omega
      rw [hx', e1]; omega
    · rw [if_neg hm, if_neg hm, if_neg (by omega)]
      obtain ⟨p1, p2, _, _, p5⟩ := pos_facts (x + 1) (by omega)
      have hlt := steps_lt (show x < x + 1 by omega)
      refine Or.inl ⟨rfl, p1, p2, by rw [p5, hv, e1]; omega, fun d hd rd hle => ?_⟩
      rw [p5]
      rw [hv, e1] at hle
      rcases word_cases d hd rd with ⟨g1, gv⟩ | ⟨r', _, _, _, gv⟩
      · rw [gv] at hle ⊢
        have : x + 1 ≤ d := by
          rcases Nat.lt_or_ge x d with g | g
          · exact g
          · have := steps_le g; omega
        exact Int.ofNat_le.2 (steps_le this)
      · rw [gv] at hle; omega
  · have hb : besideW x true = 9223372036854775808 + (r - 1) := by
      unfold besideW
      rw [if_neg (by omega), if_neg (by rw [decide_eq_false (by omega)]; simp)]
      omega
    have hr : rung (9223372036854775808 + (r - 1)) = r - 1 := by unfold rung; omega
    have hlt := steps_lt (show r - 1 < r by omega)
    -- no number lies between
    have key : ∀ d, d < 18446744073709551616 → rightB d = true → val x + 1 ≤ val d * ((1 : Nat) : Int) → -(steps (r - 1) : Int) ≤ val d := by
      intro d hd rd hle
      rw [hv, e1] at hle
      rcases word_cases d hd rd with ⟨g1, gv⟩ | ⟨r', _, _, _, gv⟩
      · rw [gv]; omega
      · rw [gv] at hle ⊢
        have : r' ≤ r - 1 := by
          rcases Nat.lt_or_ge r' r with g | g
          · omega
          · have := steps_le g; omega
        have := steps_le this
        omega
    unfold stepW stepE
    have hc : ¬ r - 1 = 9218868437227405312 := by omega
    rw [hb, hr, if_neg hc, if_neg hc]
    by_cases h3 : r = 1
    · subst h3
      rw [if_pos rfl]
      have z1 : steps (1 - 1) = 0 := rfl
      exact Or.inl ⟨rfl, by decide, by decide, by rw [val_0, hv, e1]; omega, fun d hd rd hle => by have := key d hd rd hle; rw [val_0]; omega⟩
    · rw [if_neg (by omega)]
      obtain ⟨p1, p2, p5⟩ := neg_facts (r - 1) (by omega) (by omega)
      exact Or.inl ⟨rfl, p1, p2, by rw [p5, hv, e1]; omega, fun d hd rd hle => by rw [p5]; exact key d hd rd hle⟩

theorem down_step (x : Nat) (hx : x < 18446744073709551616) (rx : rightB x = true) : Down 1 (val x + -1) (stepW x false) (stepE x false) := by
  have e1 : ((1 : Nat) : Int) = 1 := rfl
  by_cases hz : x = 0
  · subst hz
    have hb : besideW 0 false = 9223372036854775809 := rfl
    have hr : rung 9223372036854775809 = 1 := rfl
    unfold stepW stepE
    rw [hb, hr, if_neg (by decide), if_neg (by decide), if_neg (by decide)]
    obtain ⟨p1, p2, p5⟩ := neg_facts 1 (by decide) (by decide)
    have s1 : steps 1 = 1 := rfl
    have p5' : val 9223372036854775809 = -1 := by rw [show (9223372036854775809 : Nat) = 9223372036854775808 + 1 by decide, p5, s1]; rfl
    exact Or.inl ⟨rfl, by decide, by decide, by rw [p5', val_0, e1]; omega, fun d hd rd hle => by rw [val_0, e1] at hle; rw [p5']; omega⟩
  · rcases word_cases x hx rx with ⟨h1, hv⟩ | ⟨r, h0, h1, h2, hv⟩
    · have hb : besideW x false = x - 1 := by
        unfold besideW
        rw [if_neg hz, if_neg (by rw [decide_eq_true (by omega)]; simp)]
      have hr : rung (x - 1) = x - 1 := by unfold rung; omega
      have hlt := steps_lt (show x - 1 < x by omega)
      obtain ⟨p1, p2, _, _, p5⟩ := pos_facts (x - 1) (by omega)
      unfold stepW stepE
      rw [hb, hr, if_neg (by omega), if_neg (by omega), if_neg (by omega)]
      refine Or.inl ⟨rfl, p1, p2, by rw [p5, hv, e1]; omega, fun d hd rd hle => ?_⟩
      rw [p5]
      rw [hv, e1] at hle
      rcases word_cases d hd rd with ⟨g1, gv⟩ | ⟨r', _, _, _, gv⟩
      · rw [gv] at hle ⊢
        have : d ≤ x - 1 := by
          rcases Nat.lt_or_ge d x with g | g
          · omega
          · have := steps_le g; omega
        exact Int.ofNat_le.2 (steps_le this)
      · rw [gv]; omega
    · have hb : besideW x false = 9223372036854775808 + (r + 1) := by
        unfold besideW
        rw [if_neg hz, if_pos (by rw [decide_eq_false (by omega)])]
        omega
      have hr : rung (9223372036854775808 + (r + 1)) = r + 1 := by unfold rung; omega
      have hlt := steps_lt (show r < r + 1 by omega)
      unfold stepW stepE
      rw [hb, hr]
      by_cases hm : r + 1 = 9218868437227405312
      · rw [if_pos hm, if_pos hm]
        refine Or.inr ⟨rfl, rfl, fun d hd rd => ?_⟩
        have h3 := val_min d hd rd
        have hx' : x = 18442240474082181119 := by omega
        rw [hx', e1]; omega
      · rw [if_neg hm, if_neg hm, if_neg (by omega)]
        obtain ⟨p1, p2, p5⟩ := neg_facts (r + 1) (by omega) (by omega)
        refine Or.inl ⟨rfl, p1, p2, by rw [p5, hv, e1]; omega, fun d hd rd hle => ?_⟩
        rw [p5]
        rw [hv, e1] at hle
        rcases word_cases d hd rd with ⟨g1, gv⟩ | ⟨r', _, _, _, gv⟩
        · rw [gv] at hle; omega
        · rw [gv] at hle ⊢
          have : r + 1 ≤ r' := by
            rcases Nat.lt_or_ge r r' with g | g
            · exact g
            · have := steps_le g; omega
          have := steps_le this
          omega

theorem step_dir (x : Nat) (hx : x < 18446744073709551616) (rx : rightB x = true) (up : Bool) : stepW x up = addW x (tinyW up) up ∧ stepE x up = addE x (tinyW up) up := by
  cases up
  · have h := add_down x 9223372036854775809 rx right_m1
    rw [val_m1] at h
    exact (down_step x hx rx).unique h
  · have h := add_up x 1 rx right_1
    rw [val_1] at h
    exact (up_step x hx rx).unique h

/-- What is known of an infinite word against a number. -/
theorem order_top (x : Nat) (hx : x < 18446744073709551616) (rx : rightB x = true) (up : Bool) :
    FloatKind.f64.format.order x (if up then 9218868437227405312 else 18442240474082181120) = some (if up then Ordering.lt else Ordering.gt) ∧ FloatKind.f64.format.order (if up then 9218868437227405312 else 18442240474082181120) x = some (if up then Ordering.gt else Ordering.lt) := by
  rw [fmt64]
  unfold Ieee.Format.order
  rw [read_num x hx (right_rung x rx)]
  have i1 : Ieee.double.read 9218868437227405312 = .infinity false := by decide +kernel
  have i2 : Ieee.double.read 18442240474082181120 = .infinity true := by decide +kernel
  cases up
  · rw [if_neg Bool.false_ne_true, if_neg Bool.false_ne_true, if_neg Bool.false_ne_true, i2]
    exact ⟨rfl, rfl⟩
  · rw [if_pos rfl, if_pos rfl, if_pos rfl, i1]
    exact ⟨rfl, rfl⟩

set_option maxRecDepth 100000 in
theorem copysign_lit (y r : Nat) (w : World) (h : ∃ s : Int, bits .and .u64 (y : Int) 9223372036854775808 = s ∧ bits .or .u64 1 s = r) :
    Calls Try.prog 141 #[.float .f64 1, .float .f64 y] w fun e w' => e = .returned (.float .f64 r) ∧ w = w' := by
  obtain ⟨s, h1, h2⟩ := h
  have h3 : bits .andNot .u64 1 9223372036854775808 = 1 := by decide +kernel
  have b1 := run_bits
  have b2 := run_frombits
  go_enter Try.func141, Try.ntmps141
  go_wp2
  go_ret
  exact ⟨rfl, rfl⟩

set_option maxRecDepth 100000 in
theorem nextafter_zero (y r : Nat) (w : World) (c1 : Hid (∀ w, Calls Try.prog 90 #[.float .f64 0] w fun r w' => r = .returned (.bool false) ∧ w = w')) (c2 : Hid (∀ w, Calls Try.prog 90 #[.float .f64 y] w fun r w' => r = .returned (.bool false) ∧ w = w'))
    (o1 : (FloatKind.f64.format.order 0 y == some Ordering.eq) = false) (o2 : (FloatKind.f64.format.order 0 0 == some Ordering.eq) = true)
    (c3 : Hid (∀ w, Calls Try.prog 141 #[.float .f64 1, .float .f64 y] w fun e w' => e = .returned (.float .f64 r) ∧ w = w')) :
    Calls Try.prog 88 #[.float .f64 0, .float .f64 y] w fun e w' => e = .returned (.float .f64 r) ∧ w = w' := by
  have b2 := run_frombits
  go_enter Try.func88, Try.ntmps88
  go_wp2_with fail
  refine (c1.out _).mono ?_
  rintro r ww ⟨rfl, rfl⟩
  go_wp2_with fail
  refine (c2.out _).mono ?_
  rintro r ww ⟨rfl, rfl⟩
  go_wp2_with fail
  refine (c3.out _).mono ?_
  rintro r ww ⟨rfl, rfl⟩
  go_wp2
  go_ret
  exact ⟨rfl, rfl⟩

set_option maxRecDepth 100000 in
theorem nextafter_walk (x y up' dn : Nat) (g p : Bool) (w : World) (c1 : Hid (∀ w, Calls Try.prog 90 #[.float .f64 x] w fun r w' => r = .returned (.bool false) ∧ w = w')) (c2 : Hid (∀ w, Calls Try.prog 90 #[.float .f64 y] w fun r w' => r = .returned (.bool false) ∧ w = w'))
    (o1 : (FloatKind.f64.format.order x y == some Ordering.eq) = false) (o2 : (FloatKind.f64.format.order x 0 == some Ordering.eq) = false)
    (o3 : (FloatKind.f64.format.order y x == some Ordering.gt) = g) (o4 : (FloatKind.f64.format.order x 0 == some Ordering.gt) = p)
    (u1 : IntKind.u64.wrap ((x : Int) + 1) = (up' : Int)) (u2 : IntKind.u64.wrap ((x : Int) - 1) = (dn : Int)) :
    Calls Try.prog 88 #[.float .f64 x, .float .f64 y] w fun e w' => e = .returned (.float .f64 (if g = p then up' else dn)) ∧ w = w' := by
  have b1 := run_bits
  have b2 := run_frombits
  have t1 : (up' : Int).toNat = up' := Int.toNat_natCast _
  have t2 : (dn : Int).toNat = dn := Int.toNat_natCast _
  go_enter Try.func88, Try.ntmps88
  go_wp2_with fail
  refine (c1.out _).mono ?_
  rintro r ww ⟨rfl, rfl⟩
  go_wp2_with fail
  refine (c2.out _).mono ?_
  rintro r ww ⟨rfl, rfl⟩
  cases g <;> cases p
  all_goals
    go_wp2
    go_ret
    exact ⟨rfl, rfl⟩

end Go.Proofs.Ytmcecchcbfhfcaa
