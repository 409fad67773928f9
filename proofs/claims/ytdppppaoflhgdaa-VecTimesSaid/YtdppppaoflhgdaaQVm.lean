
/- math.Ldexp of every number by -100 to 100. -/
import Derived.Test.YtdppppaoflhgdaaQO2
import Derived.Test.YtdppppaoflhgdaaQFD
import Derived.IntWalk
namespace Go.Proofs.Ytdppppaoflhgdaa
open Go.RowKit

/-- Powers of two. -/
def P (n : Nat) : Int := ((2 ^ n : Nat) : Int)
theorem P_pos (n : Nat) : 0 < P n := Int.natCast_pos.2 (Nat.two_pow_pos n)
theorem P_add (m n : Nat) : P (m + n) = P m * P n := by
  unfold P
  rw [Nat.pow_add]; exact Int.natCast_mul _ _
theorem P_le {m n : Nat} (h : m ≤ n) : P m ≤ P n := Int.ofNat_le.2 (Nat.pow_le_pow_right (by decide) h)
theorem P_52 : P 52 = 4503599627370496 := by decide
theorem P_53 : P 53 = 9007199254740992 := by decide
theorem P_ss : SS = P 1074 := by
  show ((2 ^ sq : Nat) : Int) = _
  rw [sq_eq]; rfl
theorem P_sq : ((2 ^ sq : Nat) : Int) = P 1074 := by rw [sq_eq]; rfl

theorem v_nil : val 0 = 0 := by decide +kernel
theorem nn_word {c : Nat} (l : c < 18446744073709551616) (r : rightB c = true) (h : 0 ≤ val c) : c < 9218868437227405312 ∧ val c = (steps c : Int) := by
  have s := sgn_lt (plain_sgn l r h)
  have k := right_rung c r
  have e : rung c = c := by unfold rung; omega
  rw [e] at k
  exact ⟨k, (pos_facts c k).2.2.2.2⟩
/-- A number above, by a power. -/
theorem steps_up {r : Nat} (j : Nat) (h : 4503599627370496 ≤ r) : steps (r + j * 4503599627370496) = steps r * 2 ^ j := by
  obtain ⟨K, M, rfl, h1, h2⟩ : ∃ K M, r = K * 4503599627370496 + M ∧ 4503599627370496 ≤ M ∧ M < 9007199254740992 := ⟨r / 4503599627370496 - 1, 4503599627370496 + r % 4503599627370496, by omega, by omega, by omega⟩
  rw [show K * 4503599627370496 + M + j * 4503599627370496 = (K + j) * 4503599627370496 + M by omega, steps_km _ _ (by omega) (Or.inr h1), steps_km _ _ (by omega) (Or.inr h1), Nat.pow_add, Nat.mul_assoc]
theorem steps_least (j : Nat) : steps (j * 4503599627370496 + 4503599627370496) = 4503599627370496 * 2 ^ j := steps_km j 4503599627370496 (by decide) (Or.inr (by decide))
theorem steps_down {d : Nat} (j : Nat) (h : 4503599627370496 * 2 ^ j ≤ steps d) : ∃ c, c + j * 4503599627370496 = d ∧ 4503599627370496 ≤ c ∧ steps d = steps c * 2 ^ j := by
  rw [← steps_least j, steps_le_iff] at h
  obtain ⟨c, hc⟩ : ∃ c, d = c + j * 4503599627370496 := ⟨d - j * 4503599627370496, by omega⟩
  have h52 : 4503599627370496 ≤ c := by omega
  exact ⟨c, hc.symm, h52, by rw [hc]; exact steps_up j h52⟩
theorem word_52 {c : Nat} (h : 4503599627370496 ≤ (steps c : Int)) : 4503599627370496 ≤ c := by
  have e : steps 4503599627370496 = 4503599627370496 := by decide
  exact (steps_le_iff _ _).1 (by rw [e]; omega)
/-- How far the next one is. -/
theorem next_gap {c : Nat} (h : 4503599627370496 ≤ c) : steps c < steps (c + 1) ∧ (steps c : Int) < 9007199254740992 * ((steps (c + 1) : Int) - steps c) := by
  obtain ⟨K, M, rfl, h1, h2⟩ : ∃ K M, c = K * 4503599627370496 + M ∧ 4503599627370496 ≤ M ∧ M < 9007199254740992 := ⟨c / 4503599627370496 - 1, 4503599627370496 + c % 4503599627370496, by omega, by omega, by omega⟩
  rw [show K * 4503599627370496 + M + 1 = K * 4503599627370496 + (M + 1) by omega, steps_km _ _ (by omega) (Or.inr h1), steps_km _ _ (by omega) (Or.inr (by omega))]
  have p := Nat.two_pow_pos K
  generalize 2 ^ K = q at *
  have e : (M + 1) * q = M * q + q := Nat.succ_mul _ _
  have k : M * q < 9007199254740992 * q := Nat.mul_lt_mul_of_pos_right h2 p
  omega

section
variable {j : Nat}
theorem pj_ (r : Nat) : ((steps r * 2 ^ j : Nat) : Int) = (steps r : Int) * P j := Int.natCast_mul _ _
/-- The greatest number of those that are so: the greatest one, by the power. -/
theorem best_down {x x' : Nat} {G G' : Int → Prop} (hx : x < 9218868437227405312) (hx' : x' < 9218868437227405312) (hG : ∀ v, 0 ≤ v → (G' (v * P j) ↔ G v)) (gx : G (val x)) (bx : ∀ d, d < 9218868437227405312 → G (val d) → val d ≤ val x)
    (gx' : G' (val x')) (bx' : ∀ d, d < 9218868437227405312 → G' (val d) → val d ≤ val x') (n : 4503599627370496 ≤ val x) (top : x + j * 4503599627370496 < 9218868437227405312) : val x' = val x * P j := by
  obtain ⟨_, _, _, _, v⟩ := pos_facts x hx
  obtain ⟨_, _, _, _, v'⟩ := pos_facts x' hx'
  have h52 := word_52 (by rw [← v]; exact n)
  have eY : val (x + j * 4503599627370496) = val x * P j := by
    rw [(pos_facts _ top).2.2.2.2, steps_up j h52, pj_, v]
  have p := P_pos j
  have k1 := bx' _ top (by rw [eY]; exact (hG _ (by omega)).2 gx)
  rw [eY] at k1
  refine Int.le_antisymm ?_ k1
  have k2 : 4503599627370496 * P j ≤ val x' := Int.le_trans (Int.mul_le_mul_of_nonneg_right n (Int.le_of_lt p)) k1
  obtain ⟨c, hc, c52, es⟩ := steps_down (d := x') j (by
    have : ((4503599627370496 * 2 ^ j : Nat) : Int) ≤ (steps x' : Int) := by rw [← v']; exact k2
    exact Int.ofNat_le.1 this)
  have hcw : c < 9218868437227405312 := by omega
  obtain ⟨_, _, _, _, vc⟩ := pos_facts c hcw
  have ec : val x' = val c * P j := by rw [v', es, pj_, vc]
  have gc : G (val c) := (hG _ (by rw [vc]; omega)).1 (by rw [← ec]; exact gx')
  have := bx c hcw gc
  rw [ec]
  exact Int.mul_le_mul_of_nonneg_right this (Int.le_of_lt p)
/-- The least one. -/
theorem best_up {x x' : Nat} {G G' : Int → Prop} (hx : x < 9218868437227405312) (hx' : x' < 9218868437227405312) (hG : ∀ v, 0 ≤ v → (G' (v * P j) ↔ G v)) (gx : G (val x)) (bx : ∀ d, d < 9218868437227405312 → G (val d) → val x ≤ val d)
    (gx' : G' (val x')) (bx' : ∀ d, d < 9218868437227405312 → G' (val d) → val x' ≤ val d) (low : ∀ v, 0 ≤ v → G' v → 4503599627370496 * P j ≤ v) : val x' = val x * P j ∧ 4503599627370496 ≤ val x := by
  obtain ⟨_, _, _, _, v⟩ := pos_facts x hx
  obtain ⟨_, _, _, _, v'⟩ := pos_facts x' hx'
  have p := P_pos j
  have x0 : 0 ≤ val x := by rw [v]; omega
  have x0' : 0 ≤ val x' := by rw [v']; omega
  have n : 4503599627370496 ≤ val x := Int.le_of_mul_le_mul_right (low _ (Int.mul_nonneg x0 (Int.le_of_lt p)) ((hG _ x0).2 gx)) p
  have h52 := word_52 (by rw [← v]; exact n)
  have k2 := low _ x0' gx'
  obtain ⟨c, hc, c52, es⟩ := steps_down (d := x') j (by
    have : ((4503599627370496 * 2 ^ j : Nat) : Int) ≤ (steps x' : Int) := by rw [← v']; exact k2
    exact Int.ofNat_le.1 this)
  have hcw : c < 9218868437227405312 := by omega
  obtain ⟨_, _, _, _, vc⟩ := pos_facts c hcw
  have ec : val x' = val c * P j := by rw [v', es, pj_, vc]
  have gc : G (val c) := (hG _ (by rw [vc]; omega)).1 (by rw [← ec]; exact gx')
  have k3 := bx c hcw gc
  have xc : x ≤ c := (steps_le_iff _ _).1 (by omega)
  have top : x + j * 4503599627370496 < 9218868437227405312 := by omega
  have eY : val (x + j * 4503599627370496) = val x * P j := by
    rw [(pos_facts _ top).2.2.2.2, steps_up j h52, pj_, v]
  have k1 := bx' _ top (by rw [eY]; exact (hG _ x0).2 gx)
  rw [eY] at k1
  refine ⟨Int.le_antisymm k1 ?_, n⟩
  rw [ec]
  exact Int.mul_le_mul_of_nonneg_right k3 (Int.le_of_lt p)
end

/-- What is little beside a number: down it is that number, up the next one, or it. -/
theorem little_down {a c : Nat} {t : Int} (ha : a < 9218868437227405312) (h : Down 1 (val a + t) c 0) (n : 4503599627370496 ≤ val a) (t0 : 0 ≤ t) (lt : t * 9007199254740992 ≤ val a) : val c = val a := by
  obtain ⟨la, ra, _, _, va⟩ := pos_facts a ha
  obtain ⟨c1, c2, c3, c4⟩ := h.ok
  have k1 := c4 a la ra (by omega)
  obtain ⟨cw, vc⟩ := nn_word c1 c2 (by omega)
  have a52 := word_52 (by rw [← va]; exact n)
  obtain ⟨g1, g2⟩ := next_gap a52
  refine Int.le_antisymm ?_ k1
  rcases Nat.lt_or_ge a c with g | g
  · exfalso
    have s : steps (a + 1) ≤ steps c := steps_le (by omega)
    omega
  · have s : steps c ≤ steps a := steps_le g
    omega
theorem little_up {a c : Nat} {t : Int} (ha : a + 1 < 9218868437227405312) (h : Up 1 (val a + t) c 0) (n : 4503599627370496 ≤ val a) (t0 : 0 < t) (lt : t * 9007199254740992 ≤ val a) : c = a + 1 := by
  obtain ⟨la, ra, _, _, va⟩ := pos_facts a (by omega)
  obtain ⟨lb, rb, _, _, vb⟩ := pos_facts (a + 1) ha
  obtain ⟨c1, c2, c3, c4⟩ := h.ok
  have a52 := word_52 (by rw [← va]; exact n)
  obtain ⟨g1, g2⟩ := next_gap a52
  have k1 := c4 (a + 1) lb rb (by omega)
  obtain ⟨cw, vc⟩ := nn_word c1 c2 (by omega)
  have s1 : c ≤ a + 1 := (steps_le_iff _ _).1 (by omega)
  have s2 : a < c := by
    rcases Nat.lt_or_ge a c with g | g
    · exact g
    · have := steps_le g; omega
  omega
end Go.Proofs.Ytdppppaoflhgdaa

namespace Go.Proofs.Ytdppppaoflhgdaa
open Go.RowKit

/-- A number of no sign. -/
def W0 (a : Nat) : Prop := a < 9218868437227405312
theorem W0.val {a : Nat} (h : W0 a) : val a = (steps a : Int) := (pos_facts a h).2.2.2.2
theorem W0.nn {a : Nat} (h : W0 a) : 0 ≤ Go.Proofs.Ytdppppaoflhgdaa.val a := by rw [h.val]; omega
theorem W0.lt {a : Nat} (h : W0 a) : a < 18446744073709551616 := (pos_facts a h).1
theorem W0.right {a : Nat} (h : W0 a) : rightB a = true := (pos_facts a h).2.1
theorem w0_of {a : Nat} (l : a < 18446744073709551616) (r : rightB a = true) (h : 0 ≤ val a) : W0 a := (nn_word l r h).1
/-- The same but for the power; of no sign both. -/
structure Sc (j : Nat) (a a' : Nat) : Prop where
  w : W0 a
  w' : W0 a'
  eq : val a' = val a * P j
  big : 4503599627370496 ≤ val a ∨ val a = 0
/-- Both no more than so much, but for the power. -/
structure Ti (j n : Nat) (a a' : Nat) : Prop where
  w : W0 a
  w' : W0 a'
  le : val a ≤ P n
  le' : val a' ≤ P n * P j
theorem Ti.up {j n m : Nat} {a a' : Nat} (h : Ti j n a a') (k : n ≤ m) : Ti j m a a' :=
  ⟨h.w, h.w', Int.le_trans h.le (P_le k), Int.le_trans h.le' (Int.mul_le_mul_of_nonneg_right (P_le k) (Int.le_of_lt (P_pos j)))⟩
theorem Sc.ti {j n : Nat} {a a' : Nat} (h : Sc j a a') (k : val a ≤ P n) : Ti j n a a' :=
  ⟨h.w, h.w', k, by rw [h.eq]; exact Int.mul_le_mul_of_nonneg_right k (Int.le_of_lt (P_pos j))⟩
/-- A power of two is a number. -/
theorem pow_at (m : Nat) (h : m < 1990) : W0 (m * 4503599627370496 + 4503599627370496) ∧ val (m * 4503599627370496 + 4503599627370496) = P (52 + m) := by
  have w : W0 (m * 4503599627370496 + 4503599627370496) := by unfold W0; omega
  refine ⟨w, ?_⟩
  rw [w.val, steps_least, P_add, P_52]
  exact Int.natCast_mul _ _
theorem pow_word (n : Nat) (h : n < 2000) (h52 : 52 ≤ n) : ∃ w, W0 w ∧ val w = P n := by
  obtain ⟨m, rfl⟩ : ∃ m, n = 52 + m := ⟨n - 52, by omega⟩
  exact ⟨_, pow_at m (by omega)⟩
/-- What is far beyond. -/
def kT : Nat := 1448
theorem down_zero {s : Nat} {c : Nat} (hs : 0 < s) (h : Down s 0 c 0) : val c = 0 := by
  obtain ⟨c1, c2, c3, c4⟩ := h.ok
  have k := c4 0 (by decide) right_0 (by rw [v_nil]; omega)
  rw [v_nil] at k
  have p : (0 : Int) < s := by omega
  rcases Int.lt_or_le 0 (val c) with g | g
  · have := Int.mul_pos g p; omega
  · omega
theorem up_zero {s : Nat} {c : Nat} (hs : 0 < s) (h : Up s 0 c 0) : val c = 0 := by
  obtain ⟨c1, c2, c3, c4⟩ := h.ok
  have k := c4 0 (by decide) right_0 (by rw [v_nil]; omega)
  rw [v_nil] at k
  have p : (0 : Int) < s := by omega
  rcases Int.lt_or_le (val c) 0 with g | g
  · have := Int.mul_neg_of_neg_of_pos g p; omega
  · omega
theorem down_w0 {s : Nat} {T : Int} {c : Nat} (hT : 0 ≤ T) (h : Down s T c 0) : W0 c := by
  obtain ⟨c1, c2, c3, c4⟩ := h.ok
  have k := c4 0 (by decide) right_0 (by rw [v_nil, Int.zero_mul]; exact hT)
  rw [v_nil] at k
  exact w0_of c1 c2 k
theorem up_w0 {s : Nat} {T : Int} {c : Nat} (hs : 0 < s) (hT : 0 ≤ T) (h : Up s T c 0) : W0 c := by
  obtain ⟨c1, c2, c3, c4⟩ := h.ok
  have p : (0 : Int) < s := by omega
  refine w0_of c1 c2 ?_
  rcases Int.lt_or_le (val c) 0 with g | g
  · have := Int.mul_neg_of_neg_of_pos g p; omega
  · exact g

section
variable {j : Nat} {s : Nat} {T : Int} {c c' : Nat}
/-- Down of what is the same but for the power. -/
theorem down_sc (hs : 0 < s) (h : Down s T c 0) (h' : Down s (T * P j) c' 0) (n : 4503599627370496 * (s : Int) ≤ T) (top : val c < P (52 + kT)) (hj : j < 300) : Sc j c c' := by
  have p : (0 : Int) < s := by omega
  have pj := P_pos j
  have T0 : 0 ≤ T := by omega
  have w := down_w0 T0 h
  have w' := down_w0 (Int.mul_nonneg T0 (Int.le_of_lt pj)) h'
  obtain ⟨c1, c2, c3, c4⟩ := h.ok
  obtain ⟨d1, d2, d3, d4⟩ := h'.ok
  obtain ⟨m, mw, mv⟩ := pow_word 52 (by decide) (by decide)
  have n' : 4503599627370496 ≤ val c := by
    have := c4 m mw.lt mw.right (by rw [mv, P_52]; exact n)
    rw [mv, P_52] at this; exact this
  obtain ⟨bw, bv⟩ := pow_at kT (by decide)
  refine ⟨w, w', best_down (j := j) (G := fun v => v * (s : Int) ≤ T) (G' := fun v => v * (s : Int) ≤ T * P j) w w' (fun v _ => ?_) c3 (fun d hd g => c4 d (W0.lt hd) (W0.right hd) g) d3 (fun d hd g => d4 d (W0.lt hd) (W0.right hd) g) n' ?_, Or.inl n'⟩
  · have e : v * P j * (s : Int) = v * (s : Int) * P j := by grind
    rw [e]
    exact ⟨fun g => Int.le_of_mul_le_mul_right g pj, fun g => Int.mul_le_mul_of_nonneg_right g (Int.le_of_lt pj)⟩
  · rw [w.val, ← bv, bw.val] at top
    have lt : c < kT * 4503599627370496 + 4503599627370496 := by
      rcases Nat.lt_or_ge c (kT * 4503599627370496 + 4503599627370496) with g | g
      · exact g
      · exact absurd top (Int.not_lt.2 (Int.ofNat_le.2 (steps_le g)))
    have ek : kT = 1448 := rfl
    omega
theorem up_sc (hs : 0 < s) (h : Up s T c 0) (h' : Up s (T * P j) c' 0) (n : 4503599627370496 * (s : Int) ≤ T) : Sc j c c' := by
  have p : (0 : Int) < s := by omega
  have pj := P_pos j
  have T0 : 0 ≤ T := by omega
  have w := up_w0 hs T0 h
  have w' := up_w0 hs (Int.mul_nonneg T0 (Int.le_of_lt pj)) h'
  obtain ⟨c1, c2, c3, c4⟩ := h.ok
  obtain ⟨d1, d2, d3, d4⟩ := h'.ok
  obtain ⟨k1, k2⟩ := best_up (j := j) (G := fun v => T ≤ v * (s : Int)) (G' := fun v => T * P j ≤ v * (s : Int)) w w' (fun v _ => by
    have e : v * P j * (s : Int) = v * (s : Int) * P j := by grind
    rw [e]
    exact ⟨fun g => Int.le_of_mul_le_mul_right g pj, fun g => Int.mul_le_mul_of_nonneg_right g (Int.le_of_lt pj)⟩) c3 (fun d hd g => c4 d (W0.lt hd) (W0.right hd) g) d3 (fun d hd g => d4 d (W0.lt hd) (W0.right hd) g) (fun v _ g => by
    refine Int.le_of_mul_le_mul_right ?_ p
    have e : 4503599627370496 * P j * (s : Int) = 4503599627370496 * (s : Int) * P j := by grind
    rw [e]
    exact Int.le_trans (Int.mul_le_mul_of_nonneg_right n (Int.le_of_lt pj)) g)
  exact ⟨w, w', k1, Or.inl k2⟩
end
end Go.Proofs.Ytdppppaoflhgdaa

namespace Go.Proofs.Ytdppppaoflhgdaa
open Go.RowKit

/-- An end of a square, or of a sum: the same but for the power; or little, but for the power. -/
def Side (j n : Nat) (a a' : Nat) : Prop := Sc j a a' ∨ Ti j n a a'
theorem Sc.zero {j a a' : Nat} (w : W0 a) (w' : W0 a') (h : val a = 0) (h' : val a' = 0) : Sc j a a' := ⟨w, w', by rw [h, h', Int.zero_mul], Or.inr h⟩
section
variable {j : Nat} (hj : j < 300)
include hj in
/-- A square, down. -/
theorem sqr_lo {q : Int} {c c' : Nat} (q0 : 0 ≤ q) (qb : q < P (52 + kT) * P 1074) (h : Down (2 ^ sq) q c 0) (h' : Down (2 ^ sq) (q * P j) c' 0) :
    Side j 52 c c' ∧ (P 900 * P 1074 ≤ q → Sc j c c' ∧ P 900 ≤ val c) ∧ val c < P (52 + kT) := by
  have es : ((2 ^ sq : Nat) : Int) = P 1074 := P_sq
  have s0 : 0 < 2 ^ sq := Nat.two_pow_pos sq
  have p := P_pos 1074
  have pj := P_pos j
  have w := down_w0 q0 h
  have w' := down_w0 (Int.mul_nonneg q0 (Int.le_of_lt pj)) h'
  obtain ⟨c1, c2, c3, c4⟩ := h.ok
  obtain ⟨d1, d2, d3, d4⟩ := h'.ok
  rw [es] at c3 c4 d3 d4
  have top : val c < P (52 + kT) := Int.lt_of_mul_lt_mul_right (Int.lt_of_le_of_lt c3 qb) (Int.le_of_lt p)
  have sc : 4503599627370496 * P 1074 ≤ q → Sc j c c' := fun n => down_sc s0 h h' (by rw [es]; exact n) top hj
  refine ⟨?_, fun n => ?_, top⟩
  · rcases Int.lt_or_le q (4503599627370496 * P 1074) with g | g
    · refine Or.inr ⟨w, w', ?_, ?_⟩
      · rw [P_52]
        exact Int.le_of_lt (Int.lt_of_mul_lt_mul_right (Int.lt_of_le_of_lt c3 g) (Int.le_of_lt p))
      · rw [P_52]
        refine Int.le_of_mul_le_mul_right (Int.le_trans d3 ?_) p
        have e : 4503599627370496 * P j * P 1074 = 4503599627370496 * P 1074 * P j := by grind
        rw [e]
        exact Int.mul_le_mul_of_nonneg_right (Int.le_of_lt g) (Int.le_of_lt pj)
    · exact Or.inl (sc g)
  · have k : 4503599627370496 ≤ P 900 := by rw [← P_52]; exact P_le (by decide)
    refine ⟨sc (Int.le_trans (Int.mul_le_mul_of_nonneg_right k (Int.le_of_lt p)) n), ?_⟩
    obtain ⟨m, mw, mv⟩ := pow_word 900 (by decide) (by decide)
    have := c4 m mw.lt mw.right (by rw [mv]; exact n)
    rw [mv] at this; exact this
/-- A square, up. -/
theorem sqr_hi {q : Int} {c c' : Nat} (q0 : 0 ≤ q) (hj : j < 1900) (h : Up (2 ^ sq) q c 0) (h' : Up (2 ^ sq) (q * P j) c' 0) :
    Side j 52 c c' ∧ (val c = 0 ↔ val c' = 0) ∧ (P 900 * P 1074 ≤ q → Sc j c c' ∧ P 900 ≤ val c) := by
  have es : ((2 ^ sq : Nat) : Int) = P 1074 := P_sq
  have s0 : 0 < 2 ^ sq := Nat.two_pow_pos sq
  have p := P_pos 1074
  have pj := P_pos j
  have q0' := Int.mul_nonneg q0 (Int.le_of_lt pj)
  have w := up_w0 s0 q0 h
  have w' := up_w0 s0 q0' h'
  have nn := w.nn
  have nn' := w'.nn
  have zero : (val c = 0 ↔ q = 0) ∧ (val c' = 0 ↔ q = 0) := by
    obtain ⟨c1, c2, c3, c4⟩ := h.ok
    obtain ⟨d1, d2, d3, d4⟩ := h'.ok
    refine ⟨⟨fun e => ?_, fun e => ?_⟩, ⟨fun e => ?_, fun e => ?_⟩⟩
    · rw [e, Int.zero_mul] at c3; omega
    · rw [e] at h; exact up_zero s0 h
    · rw [e, Int.zero_mul] at d3
      rcases Int.lt_or_le 0 q with g | g
      · have := Int.mul_pos g pj; omega
      · omega
    · rw [e, Int.zero_mul] at h'; exact up_zero s0 h'
  obtain ⟨c1, c2, c3, c4⟩ := h.ok
  obtain ⟨d1, d2, d3, d4⟩ := h'.ok
  rw [es] at c3 c4 d3 d4
  have sc : 4503599627370496 * P 1074 ≤ q → Sc j c c' := fun n => up_sc s0 h h' (by rw [es]; exact n)
  refine ⟨?_, zero.1.trans zero.2.symm, fun n => ?_⟩
  · rcases Int.lt_or_le q (4503599627370496 * P 1074) with g | g
    · obtain ⟨m, mw, mv⟩ := pow_word 52 (by decide) (by decide)
      obtain ⟨m', mw', mv'⟩ := pow_word (52 + j) (by omega) (by omega)
      refine Or.inr ⟨w, w', ?_, ?_⟩
      · have := c4 m mw.lt mw.right (by rw [mv, P_52]; omega)
        rw [mv] at this; exact this
      · have := d4 m' mw'.lt mw'.right (by
          rw [mv', P_add, P_52]
          have e : 4503599627370496 * P j * P 1074 = 4503599627370496 * P 1074 * P j := by grind
          rw [e]
          exact Int.mul_le_mul_of_nonneg_right (Int.le_of_lt g) (Int.le_of_lt pj))
        rw [mv', P_add] at this; exact this
    · exact Or.inl (sc g)
  · have k : 4503599627370496 ≤ P 900 := by rw [← P_52]; exact P_le (by decide)
    refine ⟨sc (Int.le_trans (Int.mul_le_mul_of_nonneg_right k (Int.le_of_lt p)) n), ?_⟩
    exact Int.le_of_mul_le_mul_right (Int.le_trans n c3) p

/-- What is little beside a great one: in both alike. -/
theorem beside_lo {n : Nat} {a a' t t' c c' : Nat} (A : Sc j a a') (T : Ti j n t t') (big : P (n + 53) ≤ val a) (n52 : 52 ≤ n + 53) (h : Down 1 (val a + val t) c 0) (h' : Down 1 (val a' + val t') c' 0) : Sc j c c' ∧ val c = val a := by
  have pj := P_pos j
  have tn := T.w.nn
  have tn' := T.w'.nn
  have an := A.w.nn
  have an' := A.w'.nn
  have b52 : 4503599627370496 ≤ val a := by have := P_le n52; rw [P_52] at this; omega
  have e53 : P n * 9007199254740992 = P (n + 53) := by rw [P_add, P_53]
  have k1 := little_down A.w h b52 tn (by have := T.le; omega)
  have b52' : 4503599627370496 ≤ val a' := by
    rw [A.eq]
    have : val a * 1 ≤ val a * P j := Int.mul_le_mul_of_nonneg_left (by omega) an
    omega
  have k2 := little_down A.w' h' b52' tn' (by
    have l := T.le'
    have m := Int.mul_le_mul_of_nonneg_right big (Int.le_of_lt pj)
    rw [← e53] at m
    have e : P n * 9007199254740992 * P j = P n * P j * 9007199254740992 := by grind
    rw [e] at m
    rw [A.eq]; omega)
  refine ⟨⟨down_w0 (by omega) h, down_w0 (by omega) h', by rw [k1, k2]; exact A.eq, Or.inl (by rw [k1]; exact b52)⟩, k1⟩
theorem beside_hi {n : Nat} {a a' t t' c c' : Nat} (A : Sc j a a') (T : Ti j n t t') (z : val t = 0 ↔ val t' = 0) (big : P (n + 53) ≤ val a) (n52 : 52 ≤ n + 53) (top : val a < P (52 + kT)) (hj : j < 300) (h : Up 1 (val a + val t) c 0) (h' : Up 1 (val a' + val t') c' 0) : Sc j c c' ∧ val a ≤ val c := by
  have pj := P_pos j
  have tn := T.w.nn
  have tn' := T.w'.nn
  have an := A.w.nn
  have an' := A.w'.nn
  have b52 : 4503599627370496 ≤ val a := by have := P_le n52; rw [P_52] at this; omega
  have e53 : P n * 9007199254740992 = P (n + 53) := by rw [P_add, P_53]
  have b52' : 4503599627370496 ≤ val a' := by
    rw [A.eq]
    have : val a * 1 ≤ val a * P j := Int.mul_le_mul_of_nonneg_left (by omega) an
    omega
  have a52 := word_52 (by rw [← A.w.val]; exact b52)
  -- the word, by the power
  have la : a < kT * 4503599627370496 + 4503599627370496 := by
    obtain ⟨bw, bv⟩ := pow_at kT (by decide)
    rw [A.w.val, ← bv, bw.val] at top
    rcases Nat.lt_or_ge a (kT * 4503599627370496 + 4503599627370496) with g | g
    · exact g
    · exact absurd top (Int.not_lt.2 (Int.ofNat_le.2 (steps_le g)))
  have ek : kT = 1448 := rfl
  have ea : a' = a + j * 4503599627370496 := by
    have wy : W0 (a + j * 4503599627370496) := by unfold W0; omega
    refine val_inj A.w'.lt wy.lt A.w'.right wy.right ?_
    rw [A.eq, wy.val, steps_up j a52, pj_, A.w.val]
  by_cases t0 : val t = 0
  · have t0' := z.1 t0
    rw [t0, Int.add_zero] at h
    rw [t0', Int.add_zero] at h'
    have up_self : ∀ {x d : Nat}, W0 x → Up 1 (val x) d 0 → val d = val x := fun {x d} wx hd => by
      obtain ⟨d1, d2, d3, d4⟩ := hd.ok
      have := d4 x wx.lt wx.right (by omega)
      omega
    have k1 := up_self A.w h
    have k2 := up_self A.w' h'
    exact ⟨⟨up_w0 (by decide) an h, up_w0 (by decide) an' h', by rw [k1, k2]; exact A.eq, Or.inl (by rw [k1]; exact b52)⟩, by omega⟩
  · have t1 : 0 < val t := by omega
    have t1' : 0 < val t' := by
      have : val t' ≠ 0 := fun e => t0 (z.2 e)
      omega
    have k1 := little_up (by omega) h b52 t1 (by have := T.le; omega)
    have k2 := little_up (by omega) h' b52' t1' (by
      have l := T.le'
      have m := Int.mul_le_mul_of_nonneg_right big (Int.le_of_lt pj)
      rw [← e53] at m
      have e : P n * 9007199254740992 * P j = P n * P j * 9007199254740992 := by grind
      rw [e] at m
      rw [A.eq]; omega)
    have w1 : W0 (a + 1) := by unfold W0; omega
    have w2 : W0 (a' + 1) := by unfold W0; omega
    have l := steps_lt_succ a
    rw [k1, k2]
    refine ⟨⟨w1, w2, ?_, Or.inl ?_⟩, ?_⟩
    · rw [w1.val, w2.val, ea, show a + j * 4503599627370496 + 1 = a + 1 + j * 4503599627370496 by omega, steps_up j (by omega), pj_]
    · rw [w1.val]; rw [A.w.val] at b52; omega
    · rw [w1.val, A.w.val]; omega
end
end Go.Proofs.Ytdppppaoflhgdaa

namespace Go.Proofs.Ytdppppaoflhgdaa
open Go.RowKit

section
variable {j : Nat} (hj : j < 300)
include hj in
theorem sum_lo_one {n : Nat} {a a' b b' c c' : Nat} (A : Sc j a a') (B : Side j n b b') (big : P 900 ≤ val a) (hn : n + 53 ≤ 900) (n52 : 52 ≤ n) (top : val a + val b < P (52 + kT)) (h : Down 1 (val a + val b) c 0) (h' : Down 1 (val a' + val b') c' 0) : Sc j c c' ∧ P 900 ≤ val c := by
  have an := A.w.nn
  have k : 4503599627370496 ≤ P 900 := by rw [← P_52]; exact P_le (by decide)
  obtain ⟨c1, c2, c3, c4⟩ := h.ok
  rcases B with B | B
  · have bn := B.w.nn
    refine ⟨down_sc (by decide) h (by rw [A.eq, B.eq, ← Int.add_mul] at h'; exact h') (by omega) (by omega) hj, ?_⟩
    have := c4 a A.w.lt A.w.right (by omega)
    omega
  · have k2 := P_le hn
    obtain ⟨s, e⟩ := beside_lo A B (by omega) (by omega) h h'
    exact ⟨s, by omega⟩
include hj in
theorem sum_lo {n m : Nat} {a a' b b' c c' : Nat} (A : Side j n a a') (B : Side j n b b') (hn : n + 53 ≤ 900) (n52 : 52 ≤ n) (ta : val a ≤ P m) (tb : val b ≤ P m) (hm : m + 1 < 1500) (h : Down 1 (val a + val b) c 0) (h' : Down 1 (val a' + val b') c' 0) :
    Side j (n + 54) c c' ∧ (Sc j a a' → P 900 ≤ val a → Sc j c c' ∧ P 900 ≤ val c) ∧ (Sc j b b' → P 900 ≤ val b → Sc j c c' ∧ P 900 ≤ val c) ∧ val c ≤ P (m + 1) := by
  have pm : P (m + 1) = P m * 2 := P_add m 1
  have kt : kT = 1448 := rfl
  have pt : P (m + 1) < P (52 + kT) := by
    have h1 := P_le (show m + 2 ≤ 52 + kT by omega)
    have h2 : P (m + 2) = P m * 4 := P_add m 2
    have := P_pos m
    omega
  obtain ⟨c1, c2, c3, c4⟩ := h.ok
  obtain ⟨d1, d2, d3, d4⟩ := h'.ok
  have p53 : P (n + 53) = P n * 9007199254740992 := by rw [P_add, P_53]
  have p54 : P (n + 54) = P n * 18014398509481984 := by rw [P_add]; rfl
  have pn := P_pos n
  have pj := P_pos j
  have small : Ti j (n + 53) a a' → Ti j (n + 53) b b' → Ti j (n + 54) c c' := fun X Y => by
    have x0 := X.w.nn
    have y0 := Y.w.nn
    have x0' := X.w'.nn
    have y0' := Y.w'.nn
    have x1 := X.le
    have y1 := Y.le
    have x1' := X.le'
    have y1' := Y.le'
    refine ⟨down_w0 (by omega) h, down_w0 (by omega) h', by omega, ?_⟩
    rw [p53] at x1' y1'
    rw [p54]
    have e1 : P n * 9007199254740992 * P j = P n * P j * 9007199254740992 := by grind
    have e2 : P n * 18014398509481984 * P j = P n * P j * 18014398509481984 := by grind
    omega
  refine ⟨?_, fun X g => sum_lo_one hj X B g hn n52 (by omega) h h', fun Y g => sum_lo_one hj Y A g hn n52 (by omega) (by rw [Int.add_comm] at h; exact h) (by rw [Int.add_comm] at h'; exact h'), by omega⟩
  rcases A with A | A
  · rcases B with B | B
    · have an := A.w.nn
      have bn := B.w.nn
      by_cases z : 4503599627370496 ≤ val a + val b
      · exact Or.inl (down_sc (by decide) h (by rw [A.eq, B.eq, ← Int.add_mul] at h'; exact h') (by omega) (by omega) hj)
      · have a0 : val a = 0 := by rcases A.big with g | g <;> omega
        have b0 : val b = 0 := by rcases B.big with g | g <;> omega
        have ea := A.eq
        have eb := B.eq
        rw [a0, Int.zero_mul] at ea
        rw [b0, Int.zero_mul] at eb
        rw [a0, b0] at h
        rw [ea, eb] at h'
        exact Or.inl (Sc.zero (down_w0 (by decide) h) (down_w0 (by decide) h') (down_zero (by decide) h) (down_zero (by decide) h'))
    · rcases Int.lt_or_le (val a) (P (n + 53)) with g | g
      · exact Or.inr (small (A.ti (by omega)) (B.up (by omega)))
      · exact Or.inl (beside_lo A B g (by omega) h h').1
  · rcases B with B | B
    · rcases Int.lt_or_le (val b) (P (n + 53)) with g | g
      · exact Or.inr (small (A.up (by omega)) (B.ti (by omega)))
      · exact Or.inl (beside_lo B A g (by omega) (by rw [Int.add_comm] at h; exact h) (by rw [Int.add_comm] at h'; exact h')).1
    · exact Or.inr (small (A.up (by omega)) (B.up (by omega)))
include hj in
theorem sum_hi_one {n : Nat} {a a' b b' c c' : Nat} (A : Sc j a a') (B : Side j n b b') (z : val b = 0 ↔ val b' = 0) (big : P 900 ≤ val a) (hn : n + 53 ≤ 900) (n52 : 52 ≤ n) (top : val a + val b < P (52 + kT)) (h : Up 1 (val a + val b) c 0) (h' : Up 1 (val a' + val b') c' 0) : Sc j c c' ∧ P 900 ≤ val c := by
  have an := A.w.nn
  have k : 4503599627370496 ≤ P 900 := by rw [← P_52]; exact P_le (by decide)
  obtain ⟨c1, c2, c3, c4⟩ := h.ok
  rcases B with B | B
  · have bn := B.w.nn
    exact ⟨up_sc (by decide) h (by rw [A.eq, B.eq, ← Int.add_mul] at h'; exact h') (by omega), by omega⟩
  · have k2 := P_le hn
    have bn := B.w.nn
    obtain ⟨s, e⟩ := beside_hi A B z (by omega) (by omega) (by omega) hj h h'
    exact ⟨s, by omega⟩
include hj in
theorem sum_hi {n m : Nat} {a a' b b' c c' : Nat} (A : Side j n a a') (B : Side j n b b') (za : val a = 0 ↔ val a' = 0) (zb : val b = 0 ↔ val b' = 0) (hn : n + 53 ≤ 900) (n52 : 52 ≤ n) (ta : val a ≤ P m) (tb : val b ≤ P m) (hm : m + 1 < 1500) (m52 : 52 ≤ m) (h : Up 1 (val a + val b) c 0) (h' : Up 1 (val a' + val b') c' 0) :
    Side j (n + 54) c c' ∧ (val c = 0 ↔ val c' = 0) ∧ (Sc j a a' → P 900 ≤ val a → Sc j c c' ∧ P 900 ≤ val c) ∧ (Sc j b b' → P 900 ≤ val b → Sc j c c' ∧ P 900 ≤ val c) ∧ val c ≤ P (m + 1) := by
  have pm : P (m + 1) = P m * 2 := P_add m 1
  have kt : kT = 1448 := rfl
  have pt : P (m + 1) < P (52 + kT) := by
    have h1 := P_le (show m + 2 ≤ 52 + kT by omega)
    have h2 : P (m + 2) = P m * 4 := P_add m 2
    have := P_pos m
    omega
  have wa : W0 a ∧ W0 a' := by rcases A with A | A <;> exact ⟨A.w, A.w'⟩
  have wb : W0 b ∧ W0 b' := by rcases B with B | B <;> exact ⟨B.w, B.w'⟩
  have an := wa.1.nn
  have an' := wa.2.nn
  have bn := wb.1.nn
  have bn' := wb.2.nn
  have wc := up_w0 (by decide) (by omega) h
  have wc' := up_w0 (by decide) (by omega) h'
  have cn := wc.nn
  have cn' := wc'.nn
  have zc : val c = 0 ↔ val c' = 0 := by
    constructor
    · intro e
      have c3 := h.ok.2.2.1
      rw [e] at c3
      have a0 := za.1 (by omega)
      have b0 := zb.1 (by omega)
      rw [a0, b0] at h'
      exact up_zero (by decide) h'
    · intro e
      have c3 := h'.ok.2.2.1
      rw [e] at c3
      have a0 := za.2 (by omega)
      have b0 := zb.2 (by omega)
      rw [a0, b0] at h
      exact up_zero (by decide) h
  obtain ⟨c1, c2, c3, c4⟩ := h.ok
  obtain ⟨d1, d2, d3, d4⟩ := h'.ok
  have p53 : P (n + 53) = P n * 9007199254740992 := by rw [P_add, P_53]
  have p54 : P (n + 54) = P n * 18014398509481984 := by rw [P_add]; rfl
  have pn := P_pos n
  have pj := P_pos j
  have small : Ti j (n + 53) a a' → Ti j (n + 53) b b' → Ti j (n + 54) c c' := fun X Y => by
    have x1 := X.le
    have y1 := Y.le
    have x1' := X.le'
    have y1' := Y.le'
    obtain ⟨w, ww, wv⟩ := pow_word (n + 54) (by omega) (by omega)
    obtain ⟨w', ww', wv'⟩ := pow_word (n + 54 + j) (by omega) (by omega)
    rw [p53] at x1' y1'
    rw [P_add, p54] at wv'
    have e1 : P n * 9007199254740992 * P j = P n * P j * 9007199254740992 := by grind
    have e2 : P n * 18014398509481984 * P j = P n * P j * 18014398509481984 := by grind
    have k1 := c4 w ww.lt ww.right (by omega)
    have k2 := d4 w' ww'.lt ww'.right (by omega)
    exact ⟨wc, wc', by omega, by rw [p54]; omega⟩
  have topc : val c ≤ P (m + 1) := by
    obtain ⟨w, ww, wv⟩ := pow_word (m + 1) (by omega) (by omega)
    have k1 := c4 w ww.lt ww.right (by omega)
    omega
  refine ⟨?_, zc, fun X g => sum_hi_one hj X B zb g hn n52 (by omega) h h', fun Y g => sum_hi_one hj Y A za g hn n52 (by omega) (by rw [Int.add_comm] at h; exact h) (by rw [Int.add_comm] at h'; exact h'), topc⟩
  rcases A with A | A
  · rcases B with B | B
    · by_cases z : 4503599627370496 ≤ val a + val b
      · exact Or.inl (up_sc (by decide) h (by rw [A.eq, B.eq, ← Int.add_mul] at h'; exact h') (by omega))
      · have a0 : val a = 0 := by rcases A.big with g | g <;> omega
        have b0 : val b = 0 := by rcases B.big with g | g <;> omega
        rw [a0, b0] at h
        rw [za.1 a0, zb.1 b0] at h'
        exact Or.inl (Sc.zero wc wc' (up_zero (by decide) h) (up_zero (by decide) h'))
    · rcases Int.lt_or_le (val a) (P (n + 53)) with g | g
      · exact Or.inr (small (A.ti (by omega)) (B.up (by omega)))
      · exact Or.inl (beside_hi A B zb g (by omega) (by omega) hj h h').1
  · rcases B with B | B
    · rcases Int.lt_or_le (val b) (P (n + 53)) with g | g
      · exact Or.inr (small (A.up (by omega)) (B.ti (by omega)))
      · exact Or.inl (beside_hi B A za g (by omega) (by omega) hj (by rw [Int.add_comm] at h; exact h) (by rw [Int.add_comm] at h'; exact h')).1
    · exact Or.inr (small (A.up (by omega)) (B.up (by omega)))
end
end Go.Proofs.Ytdppppaoflhgdaa

namespace Go.Proofs.Ytdppppaoflhgdaa
open Go.RowKit
theorem P_one : P 1 = 2 := by decide
attribute [local irreducible] P

section
variable {j : Nat} (hj : j < 300)
theorem sqd_le {q : Int} {c m : Nat} (h : Down (2 ^ sq) q c 0) (hq : q ≤ P (m + 1074)) : val c ≤ P m := by
  have c3 := h.ok.2.2.1
  rw [P_sq] at c3
  rw [P_add] at hq
  exact Int.le_of_mul_le_mul_right (Int.le_trans c3 hq) (P_pos 1074)
theorem squ_le {q : Int} {c m : Nat} (h : Up (2 ^ sq) q c 0) (hq : q ≤ P (m + 1074)) (hm : m < 2000) (m52 : 52 ≤ m) : val c ≤ P m := by
  have c4 := h.ok.2.2.2
  rw [P_sq] at c4
  rw [P_add] at hq
  obtain ⟨w, ww, wv⟩ := pow_word m hm m52
  have := c4 w ww.lt ww.right (by rw [wv]; exact hq)
  omega
include hj in
theorem sums_lo {q1 q2 q3 : Int} {a b c d n a' b' c' d' n' : Nat} (p1 : 0 ≤ q1) (p2 : 0 ≤ q2) (p3 : 0 ≤ q3) (l1 : q1 ≤ P (1202 + 1074)) (l2 : q2 ≤ P (1202 + 1074)) (l3 : q3 ≤ P (1202 + 1074)) (g : P 900 * P 1074 ≤ q1 ∨ P 900 * P 1074 ≤ q2 ∨ P 900 * P 1074 ≤ q3)
    (h1 : Down (2 ^ sq) q1 a 0) (h2 : Down (2 ^ sq) q2 b 0) (h3 : Down (2 ^ sq) q3 c 0) (h4 : Down 1 (val a + val b) d 0) (h5 : Down 1 (val d + val c) n 0)
    (k1 : Down (2 ^ sq) (q1 * P j) a' 0) (k2 : Down (2 ^ sq) (q2 * P j) b' 0) (k3 : Down (2 ^ sq) (q3 * P j) c' 0) (k4 : Down 1 (val a' + val b') d' 0) (k5 : Down 1 (val d' + val c') n' 0) : Sc j n n' ∧ P 900 ≤ val n ∧ val n ≤ P 1204 := by
  have kt : kT = 1448 := rfl
  have lim : P (1202 + 1074) < P (52 + kT) * P 1074 := by
    rw [← P_add]
    have e1 := P_le (show 1202 + 1074 + 1 ≤ 52 + kT + 1074 by omega)
    have e2 : P (1202 + 1074 + 1) = P (1202 + 1074) * 2 := by rw [P_add (1202 + 1074) 1, P_one]
    have := P_pos (1202 + 1074)
    omega
  obtain ⟨A1, A2, _⟩ := sqr_lo hj p1 (by omega) h1 k1
  obtain ⟨B1, B2, _⟩ := sqr_lo hj p2 (by omega) h2 k2
  obtain ⟨C1, C2, _⟩ := sqr_lo hj p3 (by omega) h3 k3
  have A3 := sqd_le h1 l1
  have B3 := sqd_le h2 l2
  have C3 := sqd_le h3 l3
  obtain ⟨D1, D2, D3, D4⟩ := sum_lo hj A1 B1 (by decide) (by decide) A3 B3 (by decide) h4 k4
  have up : Side j (52 + 54) c c' := by
    rcases C1 with x | x
    · exact Or.inl x
    · exact Or.inr (x.up (by decide))
  obtain ⟨_, N2, N3, N4⟩ := sum_lo hj D1 up (by decide) (by decide) D4 (Int.le_trans C3 (P_le (by decide))) (by decide) h5 k5
  refine (fun (r : Sc j n n' ∧ P 900 ≤ val n) => ⟨r.1, r.2, N4⟩) ?_
  rcases g with g | g | g
  · obtain ⟨u, v⟩ := A2 g
    obtain ⟨u, v⟩ := D2 u v
    exact N2 u v
  · obtain ⟨u, v⟩ := B2 g
    obtain ⟨u, v⟩ := D3 u v
    exact N2 u v
  · obtain ⟨u, v⟩ := C2 g
    exact N3 u v
include hj in
theorem sums_hi {q1 q2 q3 : Int} {a b c d n a' b' c' d' n' : Nat} (p1 : 0 ≤ q1) (p2 : 0 ≤ q2) (p3 : 0 ≤ q3) (l1 : q1 ≤ P (1202 + 1074)) (l2 : q2 ≤ P (1202 + 1074)) (l3 : q3 ≤ P (1202 + 1074)) (g : P 900 * P 1074 ≤ q1 ∨ P 900 * P 1074 ≤ q2 ∨ P 900 * P 1074 ≤ q3)
    (h1 : Up (2 ^ sq) q1 a 0) (h2 : Up (2 ^ sq) q2 b 0) (h3 : Up (2 ^ sq) q3 c 0) (h4 : Up 1 (val a + val b) d 0) (h5 : Up 1 (val d + val c) n 0)
    (k1 : Up (2 ^ sq) (q1 * P j) a' 0) (k2 : Up (2 ^ sq) (q2 * P j) b' 0) (k3 : Up (2 ^ sq) (q3 * P j) c' 0) (k4 : Up 1 (val a' + val b') d' 0) (k5 : Up 1 (val d' + val c') n' 0) : Sc j n n' ∧ P 900 ≤ val n ∧ val n ≤ P 1204 := by
  obtain ⟨A1, Az, A2⟩ := sqr_hi p1 (by omega) h1 k1
  obtain ⟨B1, Bz, B2⟩ := sqr_hi p2 (by omega) h2 k2
  obtain ⟨C1, Cz, C2⟩ := sqr_hi p3 (by omega) h3 k3
  have A3 := squ_le h1 l1 (by decide) (by decide)
  have B3 := squ_le h2 l2 (by decide) (by decide)
  have C3 := squ_le h3 l3 (by decide) (by decide)
  obtain ⟨D1, Dz, D2, D3, D4⟩ := sum_hi hj A1 B1 Az Bz (by decide) (by decide) A3 B3 (by decide) (by decide) h4 k4
  have up : Side j (52 + 54) c c' := by
    rcases C1 with x | x
    · exact Or.inl x
    · exact Or.inr (x.up (by decide))
  obtain ⟨_, _, N2, N3, N4⟩ := sum_hi hj D1 up Dz Cz (by decide) (by decide) D4 (Int.le_trans C3 (P_le (by decide))) (by decide) (by decide) h5 k5
  refine (fun (r : Sc j n n' ∧ P 900 ≤ val n) => ⟨r.1, r.2, N4⟩) ?_
  rcases g with g | g | g
  · obtain ⟨u, v⟩ := A2 g
    obtain ⟨u, v⟩ := D2 u v
    exact N2 u v
  · obtain ⟨u, v⟩ := B2 g
    obtain ⟨u, v⟩ := D3 u v
    exact N2 u v
  · obtain ⟨u, v⟩ := C2 g
    exact N3 u v
end

section
variable {k : Nat}
theorem self_le {a b : Int} (hb : 0 ≤ b) (h : a * a ≤ b * b) : a ≤ b := by
  rcases Int.lt_or_le b a with g | g
  · have k1 : b * b ≤ b * a := Int.mul_le_mul_of_nonneg_left (by omega) hb
    have k2 : b * a < a * a := Int.mul_lt_mul_of_pos_right g (by omega)
    omega
  · exact g
/-- The root, down. -/
theorem root_lo {n n' r r' : Nat} (hk : k < 150) (S : Sc (2 * k) n n') (big : P 900 ≤ val n) (top : val n ≤ P 1204) (l : r < 18446744073709551616) (rr : rightB r = true) (l' : r' < 18446744073709551616) (rr' : rightB r' = true)
    (n0 : 0 ≤ val r) (g : val r * val r ≤ val n * SS) (b : ∀ d, d < 18446744073709551616 → rightB d = true → 0 ≤ val d → val d * val d ≤ val n * SS → val d ≤ val r)
    (n0' : 0 ≤ val r') (g' : val r' * val r' ≤ val n' * SS) (b' : ∀ d, d < 18446744073709551616 → rightB d = true → 0 ≤ val d → val d * val d ≤ val n' * SS → val d ≤ val r') : val r' = val r * P k := by
  have w := w0_of l rr n0
  have w' := w0_of l' rr' n0'
  have pk := P_pos k
  have e2 : P (2 * k) = P k * P k := by rw [Nat.two_mul, P_add]
  have pp := Int.mul_pos pk pk
  rw [P_ss] at g b g' b'
  refine best_down (j := k) (G := fun v => v * v ≤ val n * P 1074) (G' := fun v => v * v ≤ val n' * P 1074) w w' (fun v _ => ?_) g (fun d hd gd => b d (W0.lt hd) (W0.right hd) (W0.nn hd) gd) g' (fun d hd gd => b' d (W0.lt hd) (W0.right hd) (W0.nn hd) gd) ?_ ?_
  · have e : v * P k * (v * P k) = v * v * (P k * P k) := by grind
    rw [e, S.eq, e2, Int.mul_right_comm (val n)]
    exact ⟨fun h => Int.le_of_mul_le_mul_right h pp, fun h => Int.mul_le_mul_of_nonneg_right h (Int.le_of_lt pp)⟩
  · obtain ⟨m, mw, mv⟩ := pow_word 600 (by decide) (by decide)
    have h1 : val m * val m ≤ val n * P 1074 := by
      rw [mv, ← P_add]
      refine Int.le_trans (P_le (show 600 + 600 ≤ 900 + 1074 by decide)) ?_
      rw [P_add 900]
      exact Int.mul_le_mul_of_nonneg_right big (Int.le_of_lt (P_pos 1074))
    have h2 := b m mw.lt mw.right mw.nn h1
    have h3 := P_le (show 52 ≤ 600 by decide)
    rw [P_52] at h3
    omega
  · have h1 : val r * val r ≤ P 1160 * P 1160 := by
      refine Int.le_trans g ?_
      refine Int.le_trans (Int.mul_le_mul_of_nonneg_right top (Int.le_of_lt (P_pos 1074))) ?_
      rw [← P_add, ← P_add]
      exact P_le (show 1204 + 1074 ≤ 1160 + 1160 by decide)
    have h2 := self_le (Int.le_of_lt (P_pos 1160)) h1
    obtain ⟨bw, bv⟩ := pow_at 1108 (by decide)
    rw [w.val, show (1160 : Nat) = 52 + 1108 by decide, ← bv, bw.val] at h2
    have h3 := (steps_le_iff _ _).1 (Int.ofNat_le.1 h2)
    omega
/-- The root, up. -/
theorem root_hi {n n' r r' : Nat} (S : Sc (2 * k) n n') (big : P 900 ≤ val n) (l : r < 18446744073709551616) (rr : rightB r = true) (l' : r' < 18446744073709551616) (rr' : rightB r' = true)
    (n0 : 0 ≤ val r) (g : val n * SS ≤ val r * val r) (b : ∀ d, d < 18446744073709551616 → rightB d = true → 0 ≤ val d → val n * SS ≤ val d * val d → val r ≤ val d)
    (n0' : 0 ≤ val r') (g' : val n' * SS ≤ val r' * val r') (b' : ∀ d, d < 18446744073709551616 → rightB d = true → 0 ≤ val d → val n' * SS ≤ val d * val d → val r' ≤ val d) : val r' = val r * P k := by
  have w := w0_of l rr n0
  have w' := w0_of l' rr' n0'
  have pk := P_pos k
  have e2 : P (2 * k) = P k * P k := by rw [Nat.two_mul, P_add]
  have pp := Int.mul_pos pk pk
  rw [P_ss] at g b g' b'
  refine (best_up (j := k) (G := fun v => val n * P 1074 ≤ v * v) (G' := fun v => val n' * P 1074 ≤ v * v) w w' (fun v _ => ?_) g (fun d hd gd => b d (W0.lt hd) (W0.right hd) (W0.nn hd) gd) g' (fun d hd gd => b' d (W0.lt hd) (W0.right hd) (W0.nn hd) gd) (fun v v0 gv => ?_)).1
  · have e : v * P k * (v * P k) = v * v * (P k * P k) := by grind
    rw [e, S.eq, e2, Int.mul_right_comm (val n)]
    exact ⟨fun h => Int.le_of_mul_le_mul_right h pp, fun h => Int.mul_le_mul_of_nonneg_right h (Int.le_of_lt pp)⟩
  · refine self_le v0 (Int.le_trans ?_ gv)
    rw [S.eq, e2, ← P_52]
    have e : P 52 * P k * (P 52 * P k) = P 52 * P 52 * (P k * P k) := by grind
    rw [e, Int.mul_right_comm (val n), ← P_add]
    refine Int.mul_le_mul_of_nonneg_right (Int.le_trans (P_le (show 52 + 52 ≤ 900 + 1074 by decide)) ?_) (Int.le_of_lt pp)
    rw [P_add]
    exact Int.mul_le_mul_of_nonneg_right big (Int.le_of_lt (P_pos 1074))
end

/-- Quotients that are the same real number. -/
theorem down_quo {s s' : Nat} {T T' p : Int} {c c' : Nat} (hp : 0 < p) (h : Down s T c 0) (h' : Down s' T' c' 0) (es : (s' : Int) = (s : Int) * p) (eT : T' = T * p) : c = c' := by
  obtain ⟨c1, c2, c3, c4⟩ := h.ok
  obtain ⟨d1, d2, d3, d4⟩ := h'.ok
  rw [es, eT] at d3 d4
  have k : ∀ v : Int, v * ((s : Int) * p) ≤ T * p ↔ v * (s : Int) ≤ T := fun v => by
    rw [← Int.mul_assoc]
    exact ⟨fun h => Int.le_of_mul_le_mul_right h hp, fun h => Int.mul_le_mul_of_nonneg_right h (Int.le_of_lt hp)⟩
  exact val_inj c1 d1 c2 d2 (Int.le_antisymm (d4 c c1 c2 ((k _).2 c3)) (c4 c' d1 d2 ((k _).1 d3)))
theorem up_quo {s s' : Nat} {T T' p : Int} {c c' : Nat} (hp : 0 < p) (h : Up s T c 0) (h' : Up s' T' c' 0) (es : (s' : Int) = (s : Int) * p) (eT : T' = T * p) : c = c' := by
  obtain ⟨c1, c2, c3, c4⟩ := h.ok
  obtain ⟨d1, d2, d3, d4⟩ := h'.ok
  rw [es, eT] at d3 d4
  have k : ∀ v : Int, T * p ≤ v * ((s : Int) * p) ↔ T ≤ v * (s : Int) := fun v => by
    rw [← Int.mul_assoc]
    exact ⟨fun h => Int.le_of_mul_le_mul_right h hp, fun h => Int.mul_le_mul_of_nonneg_right h (Int.le_of_lt hp)⟩
  exact val_inj c1 d1 c2 d2 (Int.le_antisymm (c4 c' d1 d2 ((k _).1 d3)) (d4 c c1 c2 ((k _).2 c3)))
/-- Turned. -/
theorem down_turn {s s' : Nat} {T T' : Int} {c c' : Nat} (h : Down s T c 0) (h' : Up s' T' c' 0) (es : (s' : Int) = (s : Int)) (eT : T' = -T) (neg : ∀ d, d < 18446744073709551616 → rightB d = true → ∃ e, e < 18446744073709551616 ∧ rightB e = true ∧ val e = -val d) : val c' = -val c := by
  obtain ⟨c1, c2, c3, c4⟩ := h.ok
  obtain ⟨d1, d2, d3, d4⟩ := h'.ok
  rw [es, eT] at d3 d4
  obtain ⟨e, e1, e2, e3⟩ := neg c c1 c2
  obtain ⟨f, f1, f2, f3⟩ := neg c' d1 d2
  have k1 := d4 e e1 e2 (by rw [e3, Int.neg_mul]; omega)
  have k2 := c4 f f1 f2 (by rw [f3, Int.neg_mul]; omega)
  omega
end Go.Proofs.Ytdppppaoflhgdaa

namespace Go.Proofs.Ytdppppaoflhgdaa
open Go.RowKit

abbrev LdxR (F : Nat) (e : Int) (r : Nat) : Prop := ∀ w : World, Calls Try.prog 45 #[.float .f64 F, .int .i64 e] w fun q w' => q = .returned (.float .f64 r) ∧ w = w'

theorem order_zero_any (c : Nat) (hc : c < 18446744073709551616) (h : rung c < 9218868437227405312) : (FloatKind.f64.format.order c 0 == some Ordering.eq) = decide (rung c = 0) := by
  rw [order_val c 0 hc (by decide) h (by decide), val_0]
  have hs := steps_zero (rung c)
  by_cases h : rung c = 0
  · have hv : val c = 0 := by unfold val; rw [hs.2 h]; simp
    rw [hv, Int.compare_eq_eq.2 rfl, decide_eq_true h]; rfl
  · have h1 : steps (rung c) ≠ 0 := fun h' => h (hs.1 h')
    rw [decide_eq_false h]
    rcases Int.lt_trichotomy (val c) 0 with g | g | g
    · rw [Int.compare_eq_lt.2 g]; rfl
    · exfalso; unfold val at g; split at g <;> omega
    · rw [Int.compare_eq_gt.2 g]; rfl

theorem low_km (e t : Nat) (h : e * 4503599627370496 + 4503599627370496 = t) : steps t = 4503599627370496 * 2 ^ e := by
  rw [← h]
  exact steps_km e 4503599627370496 (by decide) (Or.inr (by decide))

theorem rep_nat : ∀ (K M : Nat), M ≤ 9007199254740992 → ∃ r, M * 2 ^ K = steps r
  | 0, M, h => ⟨0 * 4503599627370496 + M, (steps_km 0 M h (Or.inl rfl)).symm⟩
  | K + 1, M, h => by
    rcases Nat.lt_or_ge M 4503599627370496 with g | g
    · obtain ⟨r, hr⟩ := rep_nat K (2 * M) (by omega)
      refine ⟨r, ?_⟩
      rw [← hr, Nat.pow_succ, Nat.mul_comm (2 ^ K) 2, ← Nat.mul_assoc, Nat.mul_comm M 2]
    · exact ⟨_, (steps_km (K + 1) M h (Or.inr g)).symm⟩

theorem ldx_norm (F G A S X R : Nat) (e Q E x : Int) (w : World) (b0 : bits .andNot .u64 (F : Int) 9223372036854775808 = G)
    (o1 : (FloatKind.f64.format.order F 0 == some Ordering.eq) = false) (o2 : (FloatKind.f64.format.order G 9218868437227405311 == some Ordering.gt) = false)
    (o3 : (FloatKind.f64.format.order F F != some Ordering.eq) = false) (o4 : (FloatKind.f64.format.order G 4503599627370496 == some Ordering.lt) = false)
    (s1 : (F : Int) / 4503599627370496 = Q) (q0 : 0 ≤ Q) (q1 : Q ≤ 4095) (e0 : 0 ≤ E) (e1 : E ≤ 2047) (a1 : bits .and .i64 Q 2047 = E) (f0 : -3000 ≤ e) (f1 : e ≤ 3000) (r1 : e + (E - 1023) = x) (r2 : -1022 ≤ x) (r3 : x ≤ 1023)
    (a2 : bits .andNot .u64 (F : Int) 9218868437227405312 = A) (sh : IntKind.u64.wrap ((x + 1023) * 4503599627370496) = S) (o5 : bits .or .u64 (A : Int) (S : Int) = X)
    (hm : floatBits .mul .f64 4607182418800017408 X = some R) :
    Calls Try.prog 45 #[.float .f64 F, .int .i64 e] w fun r w' => r = .returned (.float .f64 R) ∧ w = w' := by
  have h1 := run_bits
  have h2 := run_frombits
  have h3 := fun w => run_float_arith (P := Try.prog) w .mul 22 .f64 4607182418800017408 X R hm
  go_enter Try.func45, Try.ntmps45
  go_wp2
  go_ret
  exact ⟨rfl, rfl⟩

theorem ldx_zero (F : Nat) (e : Int) (w : World) (o1 : (FloatKind.f64.format.order F 0 == some Ordering.eq) = true) :
    Calls Try.prog 45 #[.float .f64 F, .int .i64 e] w fun r w' => r = .returned (.float .f64 F) ∧ w = w' := by
  go_enter Try.func45, Try.ntmps45
  go_wp2
  go_ret
  exact ⟨rfl, rfl⟩

theorem ldx_none (F G Z : Nat) (e Q E x s : Int) (w : World) (b0 : bits .andNot .u64 (F : Int) 9223372036854775808 = G)
    (o1 : (FloatKind.f64.format.order F 0 == some Ordering.eq) = false) (o2 : (FloatKind.f64.format.order G 9218868437227405311 == some Ordering.gt) = false)
    (o3 : (FloatKind.f64.format.order F F != some Ordering.eq) = false) (o4 : (FloatKind.f64.format.order G 4503599627370496 == some Ordering.lt) = false)
    (s1 : (F : Int) / 4503599627370496 = Q) (q0 : 0 ≤ Q) (q1 : Q ≤ 4095) (e0 : 0 ≤ E) (e1 : E ≤ 2047) (a1 : bits .and .i64 Q 2047 = E) (f0 : -3000 ≤ e) (f1 : e ≤ 3000) (r1 : e + (E - 1023) = x) (r2 : x < -1075)
    (g1 : bits .and .u64 (F : Int) 9223372036854775808 = s) (g2 : bits .or .u64 0 s = (Z : Int)) :
    Calls Try.prog 45 #[.float .f64 F, .int .i64 e] w fun r w' => r = .returned (.float .f64 Z) ∧ w = w' := by
  have h1 := run_bits
  have h2 := run_frombits
  have b1 : bits .andNot .u64 0 9223372036854775808 = 0 := by decide +kernel
  go_enter Try.func45, Try.ntmps45
  go_wp2
  go_ret
  exact ⟨rfl, rfl⟩

theorem or_parts (s f k : Nat) (hf : f < 4503599627370496) (hk : k < 2048) : (s * 9223372036854775808 + f) ||| (k * 4503599627370496) = s * 9223372036854775808 + k * 4503599627370496 + f := by
  have e1 : s * 9223372036854775808 + f = 2 ^ 52 * (2 ^ 11 * s) ||| f := by
    have h := Nat.two_pow_add_eq_or_of_lt (i := 52) (b := f) hf (2 ^ 11 * s)
    refine Eq.trans ?_ h
    omega
  have e2 : 2 ^ 52 * (2 ^ 11 * s) ||| 2 ^ 52 * k = 2 ^ 52 * (2 ^ 11 * s + k) := by
    rw [Nat.two_pow_add_eq_or_of_lt (show k < 2 ^ 11 from hk)]
    have := Nat.shiftLeft_or_distrib (a := 2 ^ 11 * s) (b := k) (i := 52)
    simp only [Nat.shiftLeft_eq] at this
    rw [Nat.mul_comm (2 ^ 52), Nat.mul_comm (2 ^ 52), Nat.mul_comm (2 ^ 52)]
    exact this.symm
  have p52 : (2 : Nat) ^ 52 = 4503599627370496 := by decide
  have e3 : k * 4503599627370496 = 2 ^ 52 * k := by rw [p52, Nat.mul_comm]
  have e4 : ∀ A C A' C' : Nat, A = A' → C = C' → A ||| C = A' ||| C' := fun _ _ _ _ h1 h2 => by rw [h1, h2]
  refine (e4 _ _ _ _ e1 e3).trans ?_
  have e5 : ∀ X Y Z : Nat, (X ||| Y) ||| Z = (X ||| Z) ||| Y := fun X Y Z => by rw [Nat.or_assoc, Nat.or_comm Y, ← Nat.or_assoc]
  refine (e5 _ _ _).trans ((e4 _ _ _ _ e2 rfl).trans ?_)
  refine (Nat.two_pow_add_eq_or_of_lt (i := 52) hf _).symm.trans ?_
  omega

theorem and_parts (F : Nat) (hF : F < 18446744073709551616) : bits .andNot .u64 (F : Int) 9218868437227405312 = ((F / 9223372036854775808 * 9223372036854775808 + F % 4503599627370496 : Nat) : Int) := by
  have h := bits_andNot_u64_nat F 9218868437227405312 hF (by decide)
  rw [show ((9218868437227405312 : Nat) : Int) = 9218868437227405312 from rfl] at h
  rw [h]
  have e1 : (18446744073709551615 - 9218868437227405312 : Nat) = 2 ^ 63 ||| (2 ^ 52 - 1) := by decide
  rw [e1, Nat.and_or_distrib_left, and_two_pow_eq, and_mask]
  have e2 : F / 2 ^ 63 % 2 = F / 9223372036854775808 := by omega
  rw [e2, show F / 9223372036854775808 * 2 ^ 63 = 2 ^ 63 * (F / 9223372036854775808) by omega, ← Nat.two_pow_add_eq_or_of_lt (show F % 2 ^ 52 < 2 ^ 63 by omega)]

theorem and2047 (q : Nat) (hq : q < 4096) : bits .and .i64 (q : Int) 2047 = ((q % 2048 : Nat) : Int) := by
  have h1 : (BitVec.ofInt 64 (q : Int)).toNat = q := by
    rw [BitVec.ofInt_natCast, BitVec.toNat_ofNat]; exact Nat.mod_eq_of_lt (by omega)
  have h2 : (BitVec.ofInt 64 2047).toNat = 2 ^ 11 - 1 := by decide
  show IntKind.i64.wrap ((BitVec.ofInt 64 (q : Int) &&& BitVec.ofInt 64 2047).toNat : Int) = _
  rw [BitVec.toNat_and, h1, h2, and_mask]
  exact IntWalk.i64_in _ ⟨by omega, by omega⟩

theorem one_mul_w (X : Nat) (hX : X < 18446744073709551616) (rX : rightB X = true) (h0 : val X ≠ 0) : floatBits .mul .f64 4607182418800017408 X = some X := by
  obtain ⟨r, e, B⟩ := mul_beside 4607182418800017408 X (by decide) hX (by decide) rX
  have v1 : val 4607182418800017408 = ((2 ^ sq : Nat) : Int) := by decide +kernel
  have hp : (0 : Int) < ((2 ^ sq : Nat) : Int) := by have := Nat.two_pow_pos sq; omega
  rw [v1] at B
  obtain ⟨l, g, hv⟩ := B X X (Or.inl ⟨rfl, hX, rX, by rw [Int.mul_comm]; exact Int.le_refl _, fun d _ _ h => by rw [Int.mul_comm ((2 ^ sq : Nat) : Int)] at h; exact Int.le_of_mul_le_mul_right h hp⟩)
    (Or.inl ⟨rfl, hX, rX, by rw [Int.mul_comm]; exact Int.le_refl _, fun d _ _ h => by rw [Int.mul_comm ((2 ^ sq : Nat) : Int)] at h; exact Int.le_of_mul_le_mul_right h hp⟩)
  have hv' : val r = val X := by rcases hv with h | h <;> exact h
  have rr : rightB r = true := by
    unfold rightB
    unfold rung at g
    rw [decide_eq_true g]
    have : r ≠ 9223372036854775808 := fun h => by
      have hz : val 9223372036854775808 = 0 := by decide
      rw [h, hz] at hv'
      exact h0 hv'.symm
    rw [decide_eq_false this]; rfl
  rw [e, val_inj l hX rr rX hv']

theorem ldx_low (F G A S X R : Nat) (e Q E x : Int) (w : World) (b0 : bits .andNot .u64 (F : Int) 9223372036854775808 = G)
    (o1 : (FloatKind.f64.format.order F 0 == some Ordering.eq) = false) (o2 : (FloatKind.f64.format.order G 9218868437227405311 == some Ordering.gt) = false)
    (o3 : (FloatKind.f64.format.order F F != some Ordering.eq) = false) (o4 : (FloatKind.f64.format.order G 4503599627370496 == some Ordering.lt) = false)
    (s1 : (F : Int) / 4503599627370496 = Q) (q0 : 0 ≤ Q) (q1 : Q ≤ 4095) (e0 : 0 ≤ E) (e1 : E ≤ 2047) (a1 : bits .and .i64 Q 2047 = E) (f0 : -3000 ≤ e) (f1 : e ≤ 3000) (r1 : e + (E - 1023) = x) (r2 : -1075 ≤ x) (r3 : x < -1022)
    (a2 : bits .andNot .u64 (F : Int) 9218868437227405312 = A) (sh : IntKind.u64.wrap ((x + 53 + 1023) * 4503599627370496) = S) (o5 : bits .or .u64 (A : Int) (S : Int) = X)
    (hm : floatBits .mul .f64 4368491638549381120 X = some R) :
    Calls Try.prog 45 #[.float .f64 F, .int .i64 e] w fun r w' => r = .returned (.float .f64 R) ∧ w = w' := by
  have h1 := run_bits
  have h2 := run_frombits
  have h3 := fun w => run_float_arith (P := Try.prog) w .mul 22 .f64 4368491638549381120 X R hm
  go_enter Try.func45, Try.ntmps45
  go_wp2
  go_ret
  exact ⟨rfl, rfl⟩

theorem ldx_sub (F G F2 Z : Nat) (e Q E x s : Int) (w : World) (b0 : bits .andNot .u64 (F : Int) 9223372036854775808 = G)
    (o1 : (FloatKind.f64.format.order F 0 == some Ordering.eq) = false) (o2 : (FloatKind.f64.format.order G 9218868437227405311 == some Ordering.gt) = false)
    (o3 : (FloatKind.f64.format.order F F != some Ordering.eq) = false) (o4 : (FloatKind.f64.format.order G 4503599627370496 == some Ordering.lt) = true)
    (hq : floatBits .mul .f64 F 4841369599423283200 = some F2)
    (s1 : (F2 : Int) / 4503599627370496 = Q) (q0 : 0 ≤ Q) (q1 : Q ≤ 4095) (e0 : 0 ≤ E) (e1 : E ≤ 2047) (a1 : bits .and .i64 Q 2047 = E) (f0 : -3000 ≤ e) (f1 : e ≤ 3000) (r1 : e - 52 + (E - 1023) = x) (r2 : x < -1075)
    (g1 : bits .and .u64 (F2 : Int) 9223372036854775808 = s) (g2 : bits .or .u64 0 s = (Z : Int)) :
    Calls Try.prog 45 #[.float .f64 F, .int .i64 e] w fun r w' => r = .returned (.float .f64 Z) ∧ w = w' := by
  have h1 := run_bits
  have h2 := run_frombits
  have h3 := fun w => run_float_arith (P := Try.prog) w .mul 22 .f64 F 4841369599423283200 F2 hq
  have b1 : bits .andNot .u64 0 9223372036854775808 = 0 := by decide +kernel
  have r0 : e + -52 + (E - 1023) = x := by omega
  go_enter Try.func45, Try.ntmps45
  go_wp2
  go_ret
  exact ⟨rfl, rfl⟩

theorem sign_or (F : Nat) (lF : F < 18446744073709551616) : bits .and .u64 (F : Int) 9223372036854775808 = ((F / 9223372036854775808 * 9223372036854775808 : Nat) : Int) ∧ bits .or .u64 0 ((F / 9223372036854775808 * 9223372036854775808 : Nat) : Int) = ((F / 9223372036854775808 * 9223372036854775808 : Nat) : Int) := by
  constructor
  · have h := bits_and_u64_nat F 9223372036854775808 lF (by decide)
    have h2 := and_two_pow_eq F 63
    rw [show (2 : Nat) ^ 63 = 9223372036854775808 by decide, show F / 9223372036854775808 % 2 = F / 9223372036854775808 by omega] at h2
    rw [h2] at h
    exact h
  · have h := bits_or_u64_nat 0 (F / 9223372036854775808 * 9223372036854775808) (by decide) (by omega)
    rw [Nat.zero_or] at h
    exact h

theorem mul_small (a b K : Nat) (la : a < 18446744073709551616) (lb : b < 18446744073709551616) (ra : rightB a = true) (rb : rightB b = true) (k0 : 0 < K) (hK : K < 9218868437227405312) (h : (val a).natAbs * (val b).natAbs ≤ steps K * 2 ^ sq) :
    ∃ r, floatBits .mul .f64 a b = some r ∧ r < 18446744073709551616 ∧ rung r ≤ K := by
  obtain ⟨r, er, hB⟩ := mul_beside a b la lb ra rb
  refine ⟨r, er, ?_⟩
  rw [← Int.natAbs_mul] at h
  obtain ⟨D, _⟩ := mul_dir a b ra rb false
  obtain ⟨_, U⟩ := mul_dir a b ra rb true
  have D := D rfl
  have U := U rfl
  obtain ⟨c1, c2, _, c4, c5⟩ := pos_facts K hK
  have n1 : K + 9223372036854775808 < 18446744073709551616 := by omega
  have nr : rung (K + 9223372036854775808) = K := by unfold rung; omega
  have n2 : rightB (K + 9223372036854775808) = true := by
    unfold rightB; unfold rung at nr
    rw [nr, decide_eq_true hK, decide_eq_false (by omega)]; rfl
  have n5 : val (K + 9223372036854775808) = -(steps K : Int) := by
    rw [val_negs (decide_eq_true (by omega)), nr]
  have hp : 0 < 2 ^ sq := Nat.two_pow_pos _
  generalize 2 ^ sq = P at *
  generalize val a * val b = T at *
  have b1 : T ≤ val K * (P : Int) := by rw [c5, ← Int.natCast_mul]; omega
  have b2 : val (K + 9223372036854775808) * (P : Int) ≤ T := by rw [n5, Int.neg_mul, ← Int.natCast_mul]; omega
  have hP : (0 : Int) < (P : Int) := Int.natCast_pos.2 hp
  rcases D with ⟨e1, x1, x2, x3, x4⟩ | ⟨_, _, g⟩
  · rcases U with ⟨f1, y1, y2, y3, y4⟩ | ⟨_, _, g⟩
    · obtain ⟨l, f, hv⟩ := hB _ _ (Or.inl ⟨rfl, x1, x2, x3, x4⟩) (Or.inl ⟨rfl, y1, y2, y3, y4⟩)
      refine ⟨l, ?_⟩
      have u1 := x4 _ n1 n2 b2
      have u2 := y4 _ c1 c2 b1
      have u3 := Int.le_of_mul_le_mul_right (Int.le_trans x3 b1) hP
      have u4 := Int.le_of_mul_le_mul_right (Int.le_trans b2 y3) hP
      have h1 : (val r).natAbs = steps (rung r) := by unfold val; split <;> omega
      exact (steps_le_iff _ _).1 (by rcases hv with hv | hv <;> omega)
    · exact absurd b1 (Int.not_le.2 (g _ c1 c2))
  · exact absurd b2 (Int.not_le.2 (g _ n1 n2))

theorem ldx_subn (F G F2 A S X R : Nat) (e Q E x : Int) (w : World) (b0 : bits .andNot .u64 (F : Int) 9223372036854775808 = G)
    (o1 : (FloatKind.f64.format.order F 0 == some Ordering.eq) = false) (o2 : (FloatKind.f64.format.order G 9218868437227405311 == some Ordering.gt) = false)
    (o3 : (FloatKind.f64.format.order F F != some Ordering.eq) = false) (o4 : (FloatKind.f64.format.order G 4503599627370496 == some Ordering.lt) = true)
    (hq : floatBits .mul .f64 F 4841369599423283200 = some F2)
    (s1 : (F2 : Int) / 4503599627370496 = Q) (q0 : 0 ≤ Q) (q1 : Q ≤ 4095) (e0 : 0 ≤ E) (e1 : E ≤ 2047) (a1 : bits .and .i64 Q 2047 = E) (f0 : -3000 ≤ e) (f1 : e ≤ 3000) (r1 : e - 52 + (E - 1023) = x) (r2 : -1022 ≤ x) (r3 : x ≤ 1023)
    (a2 : bits .andNot .u64 (F2 : Int) 9218868437227405312 = A) (sh : IntKind.u64.wrap ((x + 1023) * 4503599627370496) = S) (o5 : bits .or .u64 (A : Int) (S : Int) = X)
    (hm : floatBits .mul .f64 4607182418800017408 X = some R) :
    Calls Try.prog 45 #[.float .f64 F, .int .i64 e] w fun r w' => r = .returned (.float .f64 R) ∧ w = w' := by
  have h1 := run_bits
  have h2 := run_frombits
  have h3 := fun w => run_float_arith (P := Try.prog) w .mul 22 .f64 F 4841369599423283200 F2 hq
  have h4 := fun w => run_float_arith (P := Try.prog) w .mul 22 .f64 4607182418800017408 X R hm
  have r0 : e + -52 + (E - 1023) = x := by omega
  go_enter Try.func45, Try.ntmps45
  go_wp2
  go_ret
  exact ⟨rfl, rfl⟩

theorem val_nat (F : Nat) : (val F).natAbs = steps (rung F) := by unfold val; split <;> omega

theorem mul_exact_any (a b c : Nat) (ha : a < 18446744073709551616) (hb : b < 18446744073709551616) (ra : rightB a = true) (rb : rightB b = true) (hc : c < 18446744073709551616) (rc : rightB c = true) (h0 : val c ≠ 0) (h : val c * ((2 ^ sq : Nat) : Int) = val a * val b) : floatBits .mul .f64 a b = some c := by
  obtain ⟨r, hr, hB⟩ := mul_beside a b ha hb ra rb
  have hp : (0 : Int) < ((2 ^ sq : Nat) : Int) := Int.natCast_pos.2 (Nat.two_pow_pos _)
  obtain ⟨b1, b2, b3⟩ := hB c c (Or.inl ⟨rfl, hc, rc, by omega, fun d _ _ hd => Int.le_of_mul_le_mul_right (by omega : val d * ((2 ^ sq : Nat) : Int) ≤ val c * ((2 ^ sq : Nat) : Int)) hp⟩)
    (Or.inl ⟨rfl, hc, rc, by omega, fun d _ _ hd => Int.le_of_mul_le_mul_right (by omega : val c * ((2 ^ sq : Nat) : Int) ≤ val d * ((2 ^ sq : Nat) : Int)) hp⟩)
  have hv : val r = val c := by rcases b3 with h | h <;> exact h
  have rr : rightB r = true := by
    unfold rightB
    rw [decide_eq_true (show r % 9223372036854775808 < 9218868437227405312 from b2), decide_eq_false]
    · rfl
    · intro h
      subst h
      have : val 9223372036854775808 = 0 := by decide
      exact h0 (hv.symm.trans this)
  rw [hr, val_inj b1 hc rr rc hv]

theorem lift_word (F : Nat) (lF : F < 18446744073709551616) (h0 : rung F ≠ 0) (hs : rung F < 4503599627370496) :
    ∃ F2, F2 < 18446744073709551616 ∧ sgnB F2 = sgnB F ∧ 4503599627370496 ≤ rung F2 ∧ rung F2 ≤ 53 * 4503599627370496 ∧ steps (rung F2) = rung F * 2 ^ 52 ∧ floatBits .mul .f64 F 4841369599423283200 = some F2 := by
  have rF : rightB F = true := by unfold rightB; unfold rung at h0 hs; rw [decide_eq_true (by omega), decide_eq_false (by omega)]; rfl
  have v2 : steps (rung F) = rung F := by unfold steps; rw [if_pos (by omega)]
  have hrF : rung F = F % 9223372036854775808 := rfl
  obtain ⟨R, hR⟩ := rep_nat 52 (rung F) (by omega)
  have r1 : 4503599627370496 ≤ R := by
    refine (steps_le_iff _ _).1 ?_
    rw [← hR, show steps 4503599627370496 = 4503599627370496 by decide]
    omega
  have r2 : R ≤ 53 * 4503599627370496 := by
    refine (steps_le_iff _ _).1 ?_
    rw [← hR, show steps (53 * 4503599627370496) = 4503599627370496 * 2 ^ 52 from low_km 52 _ (by decide)]
    exact Nat.mul_le_mul_right _ (by omega)
  obtain ⟨F2, e2⟩ : ∃ F2, F2 = F / 9223372036854775808 * 9223372036854775808 + R := ⟨_, rfl⟩
  have l2 : F2 < 18446744073709551616 := by omega
  have g2 : rung F2 = R := by unfold rung; omega
  have s2 : sgnB F2 = sgnB F := by
    unfold sgnB
    exact decide_eq_decide.2 ⟨fun _ => by omega, fun _ => by omega⟩
  have c2 : rightB F2 = true := by unfold rightB; rw [decide_eq_true (by omega), decide_eq_false (by omega)]; rfl
  have st : steps (rung F2) = rung F * 2 ^ 52 := by rw [g2, hR]
  have v1 : val 4841369599423283200 = ((4503599627370496 * 2 ^ sq : Nat) : Int) := by
    rw [(pos_facts 4841369599423283200 (by decide)).2.2.2.2, low_km sq _ (by unfold sq; decide)]
  have hv : val F2 = val F * 4503599627370496 := by
    unfold val
    rw [s2, st, v2]
    split <;> omega
  have n2 : val F2 ≠ 0 := by
    have h1 := val_nat F2
    omega
  have hq := mul_exact_any F 4841369599423283200 F2 lF (by decide) rF (by decide) l2 c2 n2 (by rw [v1, hv, Int.natCast_mul, Int.mul_assoc]; rfl)
  exact ⟨F2, l2, s2, by omega, by omega, st, hq⟩

theorem steps_field (R E : Nat) (hE : R / 4503599627370496 = E + 1) : steps R = (4503599627370496 + R % 4503599627370496) * 2 ^ E := by
  unfold steps
  rw [if_neg (by omega), hE, Nat.add_sub_cancel]

theorem pow_sum2 (a b c : Nat) (h : a + b = c) : (2 : Nat) ^ a * 2 ^ b = 2 ^ c := by rw [← Nat.pow_add, h]

theorem ldx_facts (F : Nat) (lF : F < 18446744073709551616) (fin : rung F < 9218868437227405312) (h0 : rung F ≠ 0) :
    (FloatKind.f64.format.order F 0 == some Ordering.eq) = false ∧ (FloatKind.f64.format.order (rung F) 9218868437227405311 == some Ordering.gt) = false ∧
    (FloatKind.f64.format.order F F != some Ordering.eq) = false ∧ (FloatKind.f64.format.order (rung F) 4503599627370496 == some Ordering.lt) = decide (rung F < 4503599627370496) := by
  obtain ⟨p1, p2, _, p4, p5⟩ := pos_facts (rung F) fin
  refine ⟨?_, ?_, ?_, ?_⟩
  · rw [order_zero_any F lF fin]; exact decide_eq_false h0
  · obtain ⟨q1, q2, _, q4, q5⟩ := pos_facts 9218868437227405311 (by decide)
    rw [order_val (rung F) _ p1 q1 (by rw [p4]; exact fin) (by decide), p5, q5]
    have h := steps_le (show rung F ≤ 9218868437227405311 by omega)
    generalize steps 9218868437227405311 = T at h ⊢
    generalize steps (rung F) = V at h ⊢
    rcases Int.lt_trichotomy (V : Int) (T : Int) with g | g | g
    · rw [Int.compare_eq_lt.2 g]; rfl
    · rw [Int.compare_eq_eq.2 g]; rfl
    · omega
  · rw [order_val F F lF lF fin fin, Int.compare_eq_eq.2 rfl]; rfl
  · have q5 := (pos_facts 4503599627370496 (by decide)).2.2.2.2
    have hh := steps_le_iff 4503599627370496 (rung F)
    rw [order_val (rung F) _ p1 (by decide) (by rw [p4]; exact fin) (by decide), p5, q5]
    generalize steps 4503599627370496 = T at hh ⊢
    generalize steps (rung F) = V at hh ⊢
    rcases Int.lt_trichotomy (V : Int) (T : Int) with g | g | g
    · rw [Int.compare_eq_lt.2 g, decide_eq_true (by omega)]; rfl
    · rw [Int.compare_eq_eq.2 g, decide_eq_false (by omega)]; rfl
    · rw [Int.compare_eq_gt.2 g, decide_eq_false (by omega)]; rfl

/-- A number that is not normal; nor is the product. -/
theorem ldx_subl (F G F2 A S X R : Nat) (e Q E x : Int) (w : World) (b0 : bits .andNot .u64 (F : Int) 9223372036854775808 = G)
    (o1 : (FloatKind.f64.format.order F 0 == some Ordering.eq) = false) (o2 : (FloatKind.f64.format.order G 9218868437227405311 == some Ordering.gt) = false)
    (o3 : (FloatKind.f64.format.order F F != some Ordering.eq) = false) (o4 : (FloatKind.f64.format.order G 4503599627370496 == some Ordering.lt) = true)
    (hq : floatBits .mul .f64 F 4841369599423283200 = some F2)
    (s1 : (F2 : Int) / 4503599627370496 = Q) (q0 : 0 ≤ Q) (q1 : Q ≤ 4095) (e0 : 0 ≤ E) (e1 : E ≤ 2047) (a1 : bits .and .i64 Q 2047 = E) (f0 : -3000 ≤ e) (f1 : e ≤ 3000) (r1 : e - 52 + (E - 1023) = x) (r2 : -1075 ≤ x) (r3 : x < -1022)
    (a2 : bits .andNot .u64 (F2 : Int) 9218868437227405312 = A) (sh : IntKind.u64.wrap ((x + 53 + 1023) * 4503599627370496) = S) (o5 : bits .or .u64 (A : Int) (S : Int) = X)
    (hm : floatBits .mul .f64 4368491638549381120 X = some R) :
    Calls Try.prog 45 #[.float .f64 F, .int .i64 e] w fun r w' => r = .returned (.float .f64 R) ∧ w = w' := by
  have h1 := run_bits
  have h2 := run_frombits
  have h3 := fun w => run_float_arith (P := Try.prog) w .mul 22 .f64 F 4841369599423283200 F2 hq
  have h4 := fun w => run_float_arith (P := Try.prog) w .mul 22 .f64 4368491638549381120 X R hm
  have r0 : e + -52 + (E - 1023) = x := by omega
  go_enter Try.func45, Try.ntmps45
  go_wp2
  go_ret
  exact ⟨rfl, rfl⟩

theorem tiny_val : val 4368491638549381120 = P 1021 := by decide +kernel
/-- The product with 2^-53 of what is not great. -/
theorem low_mul (X : Nat) (lX : X < 18446744073709551616) (gX : rung X < 60 * 4503599627370496) (rX : rightB X = true) : ∃ R, floatBits .mul .f64 4368491638549381120 X = some R ∧ R < 18446744073709551616 ∧ rung R ≤ 60 * 4503599627370496 := by
  have vX : (val X).natAbs = steps (rung X) := val_nat X
  have t1 := steps_le (show rung X ≤ 60 * 4503599627370496 by omega)
  have v1 : (val 4368491638549381120).natAbs ≤ 2 ^ sq := by
    have h0 : 0 ≤ val 4368491638549381120 := by rw [tiny_val]; exact Int.le_of_lt (P_pos 1021)
    refine Int.ofNat_le.1 ?_
    rw [Int.natAbs_of_nonneg h0, tiny_val, P_sq]
    exact P_le (show 1021 ≤ 1074 by decide)
  exact mul_small 4368491638549381120 X (60 * 4503599627370496) (by decide) lX (by decide) rX (by decide) (by decide) (by
    rw [vX, Nat.mul_comm]
    exact Nat.mul_le_mul t1 v1)
/-- math.Ldexp of every number. -/
theorem ldexp_all (F : Nat) (e : Int) (lF : F < 18446744073709551616) (fin : rung F < 1600 * 4503599627370496) (e0 : -100 ≤ e) (e1 : e ≤ 100) :
    ∃ G, LdxR F e G ∧ G < 18446744073709551616 ∧ (rung G ≤ rung F + 102 * 4503599627370496) ∧ (0 ≤ e → rightB F = true → rightB G = true ∧ val G = val F * P e.toNat) := by
  have fin' : rung F < 9218868437227405312 := by omega
  have hrF : rung F = F % 9223372036854775808 := rfl
  by_cases h0 : rung F = 0
  · refine ⟨F, fun w => ldx_zero F e w (by rw [order_zero_any F lF fin']; exact decide_eq_true h0), lF, by omega, fun _ r => ⟨r, ?_⟩⟩
    have z : val F = 0 := by
      have h := (steps_zero (rung F)).2 h0
      have := val_nat F
      omega
    rw [z, Int.zero_mul]
  obtain ⟨o1, o2, o3, o4⟩ := ldx_facts F lF fin' h0
  have b0 := andNot_sign F lF
  rcases Nat.lt_or_ge (rung F) 4503599627370496 with hs | hs
  · -- not normal
    rw [decide_eq_true hs] at o4
    have v2 : steps (rung F) = rung F := by unfold steps; rw [if_pos (by omega)]
    obtain ⟨F2, l2, s2, g1, g2, st, hq⟩ := lift_word F lF h0 hs
    obtain ⟨E, hE⟩ : ∃ E, rung F2 / 4503599627370496 = E + 1 := ⟨_, (Nat.sub_add_cancel (by omega)).symm⟩
    have hE1 : E ≤ 52 := by omega
    have hr2 : rung F2 = F2 % 9223372036854775808 := rfl
    have a1 := and2047 (F2 / 4503599627370496) (by omega)
    have hE2 : F2 / 4503599627370496 % 2048 = E + 1 := by omega
    rw [hE2] at a1
    have f2 := steps_field (rung F2) E hE
    have d2 : rung F2 % 4503599627370496 = F2 % 4503599627370496 := by omega
    rw [d2, st] at f2
    rcases Int.lt_or_le (e - 52 + (E + 1)) 1 with c | c
    · rcases Int.lt_or_le (e - 52 + (E + 1)) (-52) with c2 | c2
      · obtain ⟨z1, z2⟩ := sign_or F2 l2
        refine ⟨_, fun w => ldx_sub F _ F2 (F2 / 9223372036854775808 * 9223372036854775808) e ((F2 / 4503599627370496 : Nat) : Int) ((E + 1 : Nat) : Int) _ _ w b0 o1 o2 o3 o4 hq (by omega) (by omega) (by omega) (by omega) (by omega) a1 (by omega) (by omega) rfl (by omega) z1 z2, by omega, by unfold rung; omega, fun g => by omega⟩
      · obtain ⟨k, hk⟩ : ∃ k : Nat, (k : Int) = e - 52 + (E + 1) + 53 := ⟨(e - 52 + (E + 1) + 53).toNat, by omega⟩
        obtain ⟨X, hX⟩ : ∃ X, X = F2 / 9223372036854775808 * 9223372036854775808 + k * 4503599627370496 + F2 % 4503599627370496 := ⟨_, rfl⟩
        have lX : X < 18446744073709551616 := by omega
        have gX : rung X = k * 4503599627370496 + F2 % 4503599627370496 := by unfold rung; omega
        have rX : rightB X = true := by unfold rightB; rw [decide_eq_true (by omega), decide_eq_false (by omega)]; rfl
        have o5 : bits .or .u64 ((F2 / 9223372036854775808 * 9223372036854775808 + F2 % 4503599627370496 : Nat) : Int) ((k * 4503599627370496 : Nat) : Int) = X := by
          rw [bits_or_u64_nat _ _ (by omega) (by omega), or_parts _ _ k (by omega) (by omega), hX]
        have go : ∀ R, floatBits .mul .f64 4368491638549381120 X = some R → LdxR F e R := fun R hR w =>
          ldx_subl F _ F2 _ (k * 4503599627370496) X R e ((F2 / 4503599627370496 : Nat) : Int) ((E + 1 : Nat) : Int) (k - 1076) w b0 o1 o2 o3 o4 hq (by omega) (by omega) (by omega) (by omega) (by omega) a1 (by omega) (by omega) (by omega) (by omega) (by omega) (and_parts F2 l2)
            (by rw [IntKind.wrap_u64]; omega) o5 hR
        rcases Int.lt_or_le e 0 with en | en
        · obtain ⟨R, eR, lR, rR⟩ := low_mul X lX (by omega) rX
          exact ⟨R, go R eR, lR, by omega, fun g => by omega⟩
        · -- exact: the digits, moved
          obtain ⟨p, hp⟩ : ∃ p : Nat, (p : Int) = e := ⟨e.toNat, by omega⟩
          obtain ⟨j, hj⟩ : ∃ j, k = j + 1 := ⟨k - 1, by omega⟩
          have f1 := steps_field (rung X) j (by omega)
          rw [show rung X % 4503599627370496 = F2 % 4503599627370496 by omega] at f1
          have sh : steps (rung X) = rung F * 2 ^ p * 2 ^ 53 := by
            refine Nat.eq_of_mul_eq_mul_right (Nat.two_pow_pos 52) ?_
            have q1 : steps (rung X) * 2 ^ 52 = (4503599627370496 + F2 % 4503599627370496) * 2 ^ E * 2 ^ (p + 53) := by
              rw [f1, Nat.mul_assoc, Nat.mul_assoc, pow_sum2 j 52 (j + 52) rfl, pow_sum2 E (p + 53) (j + 52) (by omega)]
            rw [q1, ← f2, Nat.pow_add]
            generalize 2 ^ 52 = A
            generalize 2 ^ 53 = B
            generalize 2 ^ p = C
            grind
          have small : rung F * 2 ^ p < 4503599627370496 := by
            have q1 := steps_le (show rung X ≤ 54 * 4503599627370496 by omega)
            rw [low_km 53 (54 * 4503599627370496) (by decide), sh] at q1
            have q3 : rung X < 54 * 4503599627370496 := by omega
            have q4 : steps (rung X) < steps (54 * 4503599627370496) := by
              rcases Nat.lt_or_ge (steps (rung X)) (steps (54 * 4503599627370496)) with g | g
              · exact g
              · have := (steps_le_iff _ _).1 g; omega
            rw [low_km 53 (54 * 4503599627370496) (by decide), sh] at q4
            exact Nat.lt_of_mul_lt_mul_right q4
          obtain ⟨R, hR⟩ : ∃ R, R = F / 9223372036854775808 * 9223372036854775808 + rung F * 2 ^ p := ⟨_, rfl⟩
          have pos : 0 < rung F * 2 ^ p := Nat.mul_pos (by omega) (Nat.two_pow_pos p)
          have lR : R < 18446744073709551616 := by omega
          have gR : rung R = rung F * 2 ^ p := by unfold rung at *; omega
          have rR : rightB R = true := by unfold rightB; unfold rung at gR; rw [decide_eq_true (by omega), decide_eq_false (by omega)]; rfl
          have sR : sgnB R = sgnB F := by
            unfold sgnB
            exact decide_eq_decide.2 ⟨fun _ => by omega, fun _ => by omega⟩
          have sX : sgnB X = sgnB F := by
            rw [← s2]; unfold sgnB
            exact decide_eq_decide.2 ⟨fun _ => by omega, fun _ => by omega⟩
          have stR : steps (rung R) = rung F * 2 ^ p := by rw [gR]; unfold steps; rw [if_pos (by omega)]
          have vR : val R = val F * ((2 ^ p : Nat) : Int) := by
            unfold val
            rw [sR, stR, v2, Int.natCast_mul]
            split
            · rw [Int.neg_mul]
            · rfl
          have vX : val X = val R * P 53 := by
            show val X = val R * ((2 ^ 53 : Nat) : Int)
            unfold val
            rw [sX, sR, sh, stR, Int.natCast_mul]
            split
            · rw [Int.neg_mul]
            · rfl
          have nR : val R ≠ 0 := by
            have := val_nat R
            omega
          have ex := mul_exact_any 4368491638549381120 X R (by decide) lX (by decide) rX lR rR nR (by
            rw [P_sq, vX, tiny_val, show (1074 : Nat) = 1021 + 53 from rfl, P_add, Int.mul_left_comm])
          refine ⟨R, go R ex, lR, ?_, fun _ _ => ⟨rR, ?_⟩⟩
          · omega
          · rw [vR, ← hp]; rfl
    · -- normal then
      obtain ⟨k, hk⟩ : ∃ k : Nat, (k : Int) = e - 52 + (E + 1) := ⟨(e - 52 + (E + 1)).toNat, by omega⟩
      obtain ⟨X, hX⟩ : ∃ X, X = F2 / 9223372036854775808 * 9223372036854775808 + k * 4503599627370496 + F2 % 4503599627370496 := ⟨_, rfl⟩
      have lX : X < 18446744073709551616 := by omega
      have gX : rung X = k * 4503599627370496 + F2 % 4503599627370496 := by unfold rung; omega
      have sX : sgnB X = sgnB F := by
        rw [← s2]; unfold sgnB
        exact decide_eq_decide.2 ⟨fun _ => by omega, fun _ => by omega⟩
      have rX : rightB X = true := by unfold rightB; rw [decide_eq_true (by omega), decide_eq_false (by omega)]; rfl
      have nX : val X ≠ 0 := by
        have hz : steps (rung X) ≠ 0 := fun hz => by have := (steps_zero (rung X)).1 hz; omega
        have := val_nat X
        omega
      have o5 : bits .or .u64 ((F2 / 9223372036854775808 * 9223372036854775808 + F2 % 4503599627370496 : Nat) : Int) ((k * 4503599627370496 : Nat) : Int) = X := by
        rw [bits_or_u64_nat _ _ (by omega) (by omega), or_parts _ _ k (by omega) (by omega), hX]
      refine ⟨X, fun w => ldx_subn F _ F2 _ (k * 4503599627370496) X X e ((F2 / 4503599627370496 : Nat) : Int) ((E + 1 : Nat) : Int) (k - 1023) w b0 o1 o2 o3 o4 hq (by omega) (by omega) (by omega) (by omega) (by omega) a1 (by omega) (by omega) (by omega) (by omega) (by omega) (and_parts F2 l2)
        (by rw [IntKind.wrap_u64]; omega) o5 (one_mul_w X lX rX nX), lX, by omega, fun en _ => ⟨rX, ?_⟩⟩
      obtain ⟨p, hp⟩ : ∃ p : Nat, (p : Int) = e := ⟨e.toNat, by omega⟩
      obtain ⟨j, hj⟩ : ∃ j, k = j + 1 := ⟨k - 1, by omega⟩
      have f1 := steps_field (rung X) j (by omega)
      rw [show rung X % 4503599627370496 = F2 % 4503599627370496 by omega] at f1
      have sh : steps (rung X) = rung F * 2 ^ p := by
        refine Nat.eq_of_mul_eq_mul_right (Nat.two_pow_pos 52) ?_
        rw [f1, Nat.mul_right_comm (rung F), f2, Nat.mul_assoc, Nat.mul_assoc, pow_sum2 j 52 (j + 52) rfl, pow_sum2 E p (j + 52) (by omega)]
      rw [← hp]
      show val X = val F * ((2 ^ p : Nat) : Int)
      unfold val
      rw [sX, sh, v2, Int.natCast_mul]
      split
      · rw [Int.neg_mul]
      · rfl
  · -- normal
    rw [decide_eq_false (by omega)] at o4
    have a1 := and2047 (F / 4503599627370496) (by omega)
    have hE : F / 4503599627370496 % 2048 = rung F / 4503599627370496 := by omega
    rw [hE] at a1
    obtain ⟨E, eE⟩ : ∃ E, E = rung F / 4503599627370496 := ⟨_, rfl⟩
    rw [← eE] at a1
    rcases Int.lt_or_le (e + E) 1 with c | c
    · rcases Int.lt_or_le (e + E) (-52) with c2 | c2
      · obtain ⟨z1, z2⟩ := sign_or F lF
        refine ⟨_, fun w => ldx_none F _ (F / 9223372036854775808 * 9223372036854775808) e ((F / 4503599627370496 : Nat) : Int) (E : Int) _ _ w b0 o1 o2 o3 o4 (by omega) (by omega) (by omega) (by omega) (by omega) a1 (by omega) (by omega) rfl (by omega) z1 z2, by omega, by unfold rung; omega, fun g => by omega⟩
      · obtain ⟨k, hk⟩ : ∃ k : Nat, (k : Int) = e + E + 53 := ⟨(e + E + 53).toNat, by omega⟩
        obtain ⟨X, hX⟩ : ∃ X, X = F / 9223372036854775808 * 9223372036854775808 + k * 4503599627370496 + F % 4503599627370496 := ⟨_, rfl⟩
        have lX : X < 18446744073709551616 := by omega
        have gX : rung X = k * 4503599627370496 + F % 4503599627370496 := by unfold rung; omega
        have rX : rightB X = true := by unfold rightB; rw [decide_eq_true (by omega), decide_eq_false (by omega)]; rfl
        have o5 : bits .or .u64 ((F / 9223372036854775808 * 9223372036854775808 + F % 4503599627370496 : Nat) : Int) ((k * 4503599627370496 : Nat) : Int) = X := by
          rw [bits_or_u64_nat _ _ (by omega) (by omega), or_parts _ _ k (by omega) (by omega), hX]
        obtain ⟨R, eR, lR, rR⟩ := low_mul X lX (by omega) rX
        exact ⟨R, fun w => ldx_low F _ _ (k * 4503599627370496) X R e ((F / 4503599627370496 : Nat) : Int) E (k - 1076) w b0 o1 o2 o3 o4 (by omega) (by omega) (by omega) (by omega) (by omega) a1 (by omega) (by omega) (by omega) (by omega) (by omega) (and_parts F lF)
          (by rw [IntKind.wrap_u64]; omega) o5 eR, lR, by omega, fun g => by omega⟩
    · obtain ⟨k, hk⟩ : ∃ k : Nat, (k : Int) = e + E := ⟨(e + E).toNat, by omega⟩
      obtain ⟨X, hX⟩ : ∃ X, X = F / 9223372036854775808 * 9223372036854775808 + k * 4503599627370496 + F % 4503599627370496 := ⟨_, rfl⟩
      have lX : X < 18446744073709551616 := by omega
      have gX : rung X = k * 4503599627370496 + F % 4503599627370496 := by unfold rung; omega
      have sX : sgnB X = sgnB F := by
        unfold sgnB
        exact decide_eq_decide.2 ⟨fun _ => by omega, fun _ => by omega⟩
      have rX : rightB X = true := by unfold rightB; rw [decide_eq_true (by omega), decide_eq_false (by omega)]; rfl
      have nX : val X ≠ 0 := by
        have hz : steps (rung X) ≠ 0 := fun hz => by have := (steps_zero (rung X)).1 hz; omega
        have := val_nat X
        omega
      have o5 : bits .or .u64 ((F / 9223372036854775808 * 9223372036854775808 + F % 4503599627370496 : Nat) : Int) ((k * 4503599627370496 : Nat) : Int) = X := by
        rw [bits_or_u64_nat _ _ (by omega) (by omega), or_parts _ _ k (by omega) (by omega), hX]
      refine ⟨X, fun w => ldx_norm F (rung F) _ (k * 4503599627370496) X X e ((F / 4503599627370496 : Nat) : Int) E (k - 1023) w b0 o1 o2 o3 o4 (by omega) (by omega) (by omega) (by omega) (by omega) a1 (by omega) (by omega) (by omega) (by omega) (by omega) (and_parts F lF)
        (by rw [IntKind.wrap_u64]; omega) o5 (one_mul_w X lX rX nX), lX, by omega, fun en _ => ⟨rX, ?_⟩⟩
      obtain ⟨p, hp⟩ : ∃ p : Nat, (p : Int) = e := ⟨e.toNat, by omega⟩
      have sh : steps (rung X) = steps (rung F) * 2 ^ p := by
        rw [← steps_up p hs]; congr 1; omega
      rw [← hp]
      show val X = val F * ((2 ^ p : Nat) : Int)
      unfold val
      rw [sX, sh, Int.natCast_mul]
      split
      · rw [Int.neg_mul]
      · rfl

end Go.Proofs.Ytdppppaoflhgdaa
