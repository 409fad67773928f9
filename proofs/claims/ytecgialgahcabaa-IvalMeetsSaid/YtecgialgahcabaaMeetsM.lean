/- Plain mathematics of layer 2: what two intervals have in common, and their hull. -/
import Derived.Test.YtecgialgahcabaaAwkB
namespace Go.Proofs.Ytecgialgahcabaa
open Go.RowKit

theorem right_lt {a b : Nat} (h : ivR a b = true) : rightB a = true ∧ rightB b = true ∧ val a ≤ val b := ivR_parts h

theorem min_comm (a b : Nat) (ha : a < 18446744073709551616) (hb : b < 18446744073709551616) (ra : rightB a = true) (rb : rightB b = true) : minW a b = minW b a := by
  unfold minW
  by_cases h : val b < val a
  · rw [if_pos h, if_neg (by omega)]
  · by_cases g : val a < val b
    · rw [if_neg h, if_pos g]
    · rw [if_neg h, if_neg g]; exact val_inj ha hb ra rb (by omega)
theorem max_comm (a b : Nat) (ha : a < 18446744073709551616) (hb : b < 18446744073709551616) (ra : rightB a = true) (rb : rightB b = true) : maxW a b = maxW b a := by
  unfold maxW
  by_cases h : val a < val b
  · rw [if_pos h, if_neg (by omega)]
  · by_cases g : val b < val a
    · rw [if_neg h, if_pos g]
    · rw [if_neg h, if_neg g]; exact val_inj ha hb ra rb (by omega)

/-- How a word that is no finite number compares with numbers: always the same way. -/
theorem raw_none (x : Nat) (hx : ¬ rung x < 9218868437227405312) (a b : Nat) (ha : a < 18446744073709551616) (hb : b < 18446744073709551616) (ra : rightB a = true) (rb : rightB b = true) :
    rawLe a x = rawLe b x ∧ rawLe x a = rawLe x b := by
  have fa := read_num a ha (right_rung a ra)
  have fb := read_num b hb (right_rung b rb)
  have hr : ∀ s m i t n j, Ieee.Datum.order (.number s m i) (Ieee.double.read x) = Ieee.Datum.order (.number t n j) (Ieee.double.read x) ∧ Ieee.Datum.order (Ieee.double.read x) (.number s m i) = Ieee.Datum.order (Ieee.double.read x) (.number t n j) := by
    intro s m i t n j
    unfold Ieee.Format.read
    rw [sw64, bin64, inf64, lp64]
    have e : x % 9223372036854775808 = rung x := rfl
    dsimp only
    rw [e, if_neg (by omega), if_neg hx]
    by_cases h : rung x = 9218868437227405312
    · rw [if_pos h]; exact ⟨rfl, rfl⟩
    · rw [if_neg h]; exact ⟨rfl, rfl⟩
  unfold rawLe
  rw [fmt64]
  unfold Ieee.Format.order
  rw [fa, fb]
  obtain ⟨h1, h2⟩ := hr (sgnB a) (mant a) (expo a) (sgnB b) (mant b) (expo b)
  rw [h1, h2]
  exact ⟨rfl, rfl⟩

theorem raw_val (a b : Nat) (ha : a < 18446744073709551616) (hb : b < 18446744073709551616) (ra : rung a < 9218868437227405312) (rb : rung b < 9218868437227405312) : rawLe a b = decide (val a ≤ val b) := by
  unfold rawLe
  rw [order_val a b ha hb ra rb]
  rcases Int.lt_trichotomy (val a) (val b) with g | g | g
  · rw [Int.compare_eq_lt.2 g, decide_eq_true (by omega)]; rfl
  · rw [Int.compare_eq_eq.2 g, decide_eq_true (by omega)]; rfl
  · rw [Int.compare_eq_gt.2 g, decide_eq_false (by omega)]; rfl

/-- Comparing with any word goes with the order of numbers. -/
theorem raw_mono (a b x : Nat) (ha : a < 18446744073709551616) (hb : b < 18446744073709551616) (hx : x < 18446744073709551616) (ra : rightB a = true) (rb : rightB b = true) (h : val a ≤ val b) :
    (rawLe b x = true → rawLe a x = true) ∧ (rawLe x a = true → rawLe x b = true) := by
  by_cases hr : rung x < 9218868437227405312
  · rw [raw_val a x ha hx (right_rung a ra) hr, raw_val b x hb hx (right_rung b rb) hr, raw_val x a hx ha hr (right_rung a ra), raw_val x b hx hb hr (right_rung b rb)]
    simp only [decide_eq_true_eq]
    omega
  · obtain ⟨h1, h2⟩ := raw_none x hr a b ha hb ra rb
    rw [h1, h2]
    exact ⟨id, id⟩

theorem hull_right (al ah bl bh : Nat) (la : al < 18446744073709551616) (ha : ah < 18446744073709551616) (lb : bl < 18446744073709551616) (hb : bh < 18446744073709551616) (hr : ivR al ah = true) (hs : ivR bl bh = true) : ivR (minW al bl) (maxW ah bh) = true := by
  obtain ⟨r1, r2, r3⟩ := ivR_parts hr
  obtain ⟨s1, s2, s3⟩ := ivR_parts hs
  obtain ⟨_, m2, m3⟩ := min_facts al bl la lb r1 s1
  obtain ⟨_, x2, x3⟩ := max_facts ah bh ha hb r2 s2
  unfold ivR leB
  rw [m2, x2, decide_eq_true (by omega)]; rfl

theorem both_iff (al ah bl bh : Nat) (la : al < 18446744073709551616) (ha : ah < 18446744073709551616) (lb : bl < 18446744073709551616) (hb : bh < 18446744073709551616) (hr : ivR al ah = true) (hs : ivR bl bh = true) : bothB al ah bl bh = !(decide (val ah < val bl) || decide (val bh < val al)) := by
  obtain ⟨r1, r2, r3⟩ := ivR_parts hr
  obtain ⟨s1, s2, s3⟩ := ivR_parts hs
  obtain ⟨_, m2, m3⟩ := max_facts al bl la lb r1 s1
  obtain ⟨_, x2, x3⟩ := min_facts ah bh ha hb r2 s2
  unfold bothB leB
  rw [m3, x3, Bool.eq_iff_iff]
  simp
  omega

theorem meet_comm (al ah bl bh : Nat) (la : al < 18446744073709551616) (ha : ah < 18446744073709551616) (lb : bl < 18446744073709551616) (hb : bh < 18446744073709551616) (hr : ivR al ah = true) (hs : ivR bl bh = true) : bothB bl bh al ah = bothB al ah bl bh ∧ meetLo bl bh al ah = meetLo al ah bl bh ∧ meetHi bl bh al ah = meetHi al ah bl bh := by
  obtain ⟨r1, r2, r3⟩ := ivR_parts hr
  obtain ⟨s1, s2, s3⟩ := ivR_parts hs
  unfold meetLo meetHi bothB
  rw [max_comm bl al lb la s1 r1, min_comm bh ah hb ha s2 r2]
  exact ⟨rfl, rfl, rfl⟩

theorem meet_right (al ah bl bh : Nat) (la : al < 18446744073709551616) (ha : ah < 18446744073709551616) (lb : bl < 18446744073709551616) (hb : bh < 18446744073709551616) (hr : ivR al ah = true) (hs : ivR bl bh = true) (h : bothB al ah bl bh = true) : ivR (meetLo al ah bl bh) (meetHi al ah bl bh) = true := by
  obtain ⟨r1, r2, r3⟩ := ivR_parts hr
  obtain ⟨s1, s2, s3⟩ := ivR_parts hs
  obtain ⟨_, m2, m3⟩ := max_facts al bl la lb r1 s1
  obtain ⟨_, x2, x3⟩ := min_facts ah bh ha hb r2 s2
  unfold meetLo meetHi
  rw [if_pos h, if_pos h]
  unfold bothB at h
  unfold ivR
  rw [m2, x2, h]; rfl

theorem has_meet (al ah bl bh x : Nat) (la : al < 18446744073709551616) (ha : ah < 18446744073709551616) (lb : bl < 18446744073709551616) (hb : bh < 18446744073709551616) (hx : x < 18446744073709551616) (hr : ivR al ah = true) (hs : ivR bl bh = true) (h : bothB al ah bl bh = true) :
    hasB (meetLo al ah bl bh) (meetHi al ah bl bh) x = (hasB al ah x && hasB bl bh x) := by
  obtain ⟨r1, r2, r3⟩ := ivR_parts hr
  obtain ⟨s1, s2, s3⟩ := ivR_parts hs
  have hm := meet_right al ah bl bh la ha lb hb hr hs h
  unfold hasB
  rw [hm, hr, hs]
  have e1 : meetLo al ah bl bh = maxW al bl := by unfold meetLo; rw [if_pos h]
  have e2 : meetHi al ah bl bh = minW ah bh := by unfold meetHi; rw [if_pos h]
  rw [e1, e2]
  have m1 : rawLe (maxW al bl) x = (rawLe al x && rawLe bl x) := by
    unfold maxW
    rw [Bool.eq_iff_iff, Bool.and_eq_true]
    by_cases g : val al < val bl
    · rw [if_pos g]
      have := (raw_mono al bl x la lb hx r1 s1 (by omega)).1
      exact ⟨fun k => ⟨this k, k⟩, fun k => k.2⟩
    · rw [if_neg g]
      have := (raw_mono bl al x lb la hx s1 r1 (by omega)).1
      exact ⟨fun k => ⟨k, this k⟩, fun k => k.1⟩
  have m2 : rawLe x (minW ah bh) = (rawLe x ah && rawLe x bh) := by
    unfold minW
    rw [Bool.eq_iff_iff, Bool.and_eq_true]
    by_cases g : val bh < val ah
    · rw [if_pos g]
      have := (raw_mono bh ah x hb ha hx s2 r2 (by omega)).2
      exact ⟨fun k => ⟨this k, k⟩, fun k => k.2⟩
    · rw [if_neg g]
      have := (raw_mono ah bh x ha hb hx r2 s2 (by omega)).2
      exact ⟨fun k => ⟨k, this k⟩, fun k => k.1⟩
  rw [m1, m2]
  cases rawLe al x <;> cases rawLe bl x <;> cases rawLe x ah <;> cases rawLe x bh <;> rfl

theorem has_hull (al ah bl bh x : Nat) (la : al < 18446744073709551616) (ha : ah < 18446744073709551616) (lb : bl < 18446744073709551616) (hb : bh < 18446744073709551616) (hx : x < 18446744073709551616) (hr : ivR al ah = true) (hs : ivR bl bh = true) (h : (hasB al ah x || hasB bl bh x) = true) :
    hasB (minW al bl) (maxW ah bh) x = true := by
  obtain ⟨r1, r2, r3⟩ := ivR_parts hr
  obtain ⟨s1, s2, s3⟩ := ivR_parts hs
  obtain ⟨m1, m2, m3⟩ := min_facts al bl la lb r1 s1
  obtain ⟨x1, x2, x3⟩ := max_facts ah bh ha hb r2 s2
  unfold hasB at h ⊢
  rw [hull_right al ah bl bh la ha lb hb hr hs]
  rw [hr, hs] at h
  simp only [Bool.true_and, Bool.or_eq_true, Bool.and_eq_true] at h ⊢
  rcases h with h | h
  · exact ⟨(raw_mono _ al x m1 la hx m2 r1 (by omega)).1 h.1, (raw_mono ah _ x ha x1 hx r2 x2 (by omega)).2 h.2⟩
  · exact ⟨(raw_mono _ bl x m1 lb hx m2 s1 (by omega)).1 h.1, (raw_mono bh _ x hb x1 hx s2 x2 (by omega)).2 h.2⟩

theorem width_less (al ah cl ch : Nat) (hr : ivR al ah = true) (hs : ivR cl ch = true) (h1 : val cl ≤ val al) (h2 : val ah ≤ val ch) :
    widthE cl ch ≠ 0 ∨ widthE al ah = 0 ∧ ((FloatKind.f64.format.order (widthW al ah) (widthW cl ch) == some Ordering.lt) || (FloatKind.f64.format.order (widthW al ah) (widthW cl ch) == some Ordering.eq)) = true := by
  obtain ⟨r1, r2, r3⟩ := ivR_parts hr
  obtain ⟨s1, s2, s3⟩ := ivR_parts hs
  have e1 : widthE cl ch = subE ch cl true ∧ widthW cl ch = subW ch cl true ∧ widthE al ah = subE ah al true ∧ widthW al ah = subW ah al true := by
    unfold widthE widthW; simp [hr, hs]
  rw [e1.1, e1.2.1, e1.2.2.1, e1.2.2.2]
  have u1 := sub_up ch cl s2 s1
  have u2 := sub_up ah al r2 r1
  by_cases h : subE ch cl true = 0
  · right
    rw [h] at u1
    obtain ⟨y1, y2, y3, y4⟩ := u1.ok
    rcases u2 with ⟨z0, z1, z2, z3, z4⟩ | ⟨_, _, z⟩
    · refine ⟨z0, ?_⟩
      rw [order_le _ _ z1 y1 z2 y2]
      unfold leB
      exact decide_eq_true (z4 _ y1 y2 (by omega))
    · have := z _ y1 y2; omega
  · exact Or.inl h

theorem width_zero (al ah : Nat) (la : al < 18446744073709551616) (ha : ah < 18446744073709551616) (hr : ivR al ah = true) :
    widthE al ah ≠ 0 ∨ (FloatKind.f64.format.order (widthW al ah) 0 == some Ordering.eq) = (FloatKind.f64.format.order al ah == some Ordering.eq) := by
  obtain ⟨r1, r2, r3⟩ := ivR_parts hr
  have e1 : widthE al ah = subE ah al true ∧ widthW al ah = subW ah al true := by unfold widthE widthW; simp [hr]
  rw [e1.1, e1.2]
  have u2 := sub_up ah al r2 r1
  by_cases h : subE ah al true = 0
  · right
    rw [h] at u2
    obtain ⟨y1, y2, y3, y4⟩ := u2.ok
    rw [order_eq _ 0 y1 (by decide) y2 right_0, order_eq al ah la ha r1 r2]
    have hv := val_nil
    have h0 := y4 0 (by decide) right_0
    rw [hv] at h0 ⊢
    rw [Bool.eq_iff_iff]
    simp only [decide_eq_true_eq]
    constructor
    · intro g; omega
    · intro g; have := h0 (by omega); omega
  · exact Or.inl h

end Go.Proofs.Ytecgialgahcabaa
