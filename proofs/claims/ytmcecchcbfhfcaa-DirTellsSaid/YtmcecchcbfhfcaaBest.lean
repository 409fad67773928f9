
/- Plain mathematics of layer 1: the nearest word of the model's floats is as near as any; what a sum of two numbers lacks is a number, and is worked out without an error. No program is named here. -/
import Derived.Test.YtmcecchcbfhfcaaNear
namespace Go.Proofs.Ytmcecchcbfhfcaa
open Go.RowKit

theorem cut_near (neg : Bool) (n drop : Nat) : (Ieee.Toward.even.cut neg n drop = n / 2 ^ drop ∧ 2 * (n % 2 ^ drop) ≤ 2 ^ drop) ∨ (Ieee.Toward.even.cut neg n drop = n / 2 ^ drop + 1 ∧ 2 ^ drop ≤ 2 * (n % 2 ^ drop)) := by
  unfold Ieee.Toward.cut
  simp only [Nat.shiftLeft_eq, Nat.one_mul]
  by_cases h : drop ≤ n.log2 + 2
  · rw [Nat.min_eq_left h]
    cases hc : (decide (2 ^ drop < 2 * (n % 2 ^ drop)) || (2 ^ drop == 2 * (n % 2 ^ drop) && n / 2 ^ drop % 2 == 1))
    · left
      rw [Bool.or_eq_false_iff] at hc
      have := of_decide_eq_false hc.1
      exact ⟨rfl, by omega⟩
    · right
      refine ⟨rfl, ?_⟩
      rw [Bool.or_eq_true, Bool.and_eq_true] at hc
      rcases hc with hc | ⟨hc, _⟩
      · have := of_decide_eq_true hc; omega
      · have := eq_of_beq hc; omega
  · rw [Nat.min_eq_right (by omega)]
    have h1 : n < 2 ^ (n.log2 + 1) := Nat.lt_log2_self
    have e : 2 ^ (n.log2 + 2) = 2 ^ (n.log2 + 1) * 2 := Nat.pow_succ ..
    have h2 : n < 2 ^ (n.log2 + 2) := by omega
    have h4 : 2 ^ (n.log2 + 2) ≤ 2 ^ drop := Nat.pow_le_pow_right (by decide) (by omega)
    have h3 : n < 2 ^ drop := Nat.lt_of_lt_of_le h2 h4
    left
    rw [Nat.div_eq_of_lt h2, Nat.mod_eq_of_lt h2, Nat.div_eq_of_lt h3, Nat.mod_eq_of_lt h3]
    have hc : (decide (2 ^ (n.log2 + 2) < 2 * n) || (2 ^ (n.log2 + 2) == 2 * n && 0 % 2 == 1)) = false := by
      rw [decide_eq_false (by omega)]
      simp
    rw [hc]
    exact ⟨rfl, by omega⟩

theorem near_core (S : Nat → Nat) (hS : ∀ i j, i < j → S i < S j) (I F U V rl c : Nat) (q1 : S I = F) (q2 : S (I + 1) = F + U) (q3 : rl = F + V) (hV : V < U) (hc : c = I ∧ 2 * V ≤ U ∨ c = I + 1 ∧ U ≤ 2 * V) :
    (∀ r, S r ≤ rl → r ≤ c) ∧ (∀ r, rl ≤ S r → c ≤ r) ∧ ∀ r, ((rl : Nat) - (S c : Nat) : Int).natAbs ≤ ((rl : Nat) - (S r : Nat) : Int).natAbs := by
  have le : ∀ i j, i ≤ j → S i ≤ S j := fun i j h => by
    rcases Nat.lt_or_ge i j with g | g
    · exact Nat.le_of_lt (hS i j g)
    · rw [show i = j by omega]; exact Nat.le_refl _
  have lo : ∀ r, r ≤ I → S r ≤ F := fun r h => by have := le r I h; omega
  have hi : ∀ r, I < r → F + U ≤ S r := fun r h => by have := le (I + 1) r h; omega
  have lo' : ∀ r, r < I → S r < F := fun r h => by have := hS r I h; omega
  rcases hc with ⟨rfl, h2⟩ | ⟨rfl, h2⟩
  · refine ⟨fun r h => ?_, fun r h => ?_, fun r => ?_⟩
    · rcases Nat.lt_or_ge c r with g | g
      · have := hi r g; omega
      · exact g
    · rcases Nat.lt_or_ge r c with g | g
      · have := lo' r g; omega
      · exact g
    · rcases Nat.lt_or_ge c r with g | g
      · have := hi r g; omega
      · have := lo r g; omega
  · refine ⟨fun r h => ?_, fun r h => ?_, fun r => ?_⟩
    · rcases Nat.lt_or_ge (I + 1) r with g | g
      · have := hi r (by omega); have := hS (I + 1) r g; omega
      · exact g
    · rcases Nat.lt_or_ge I r with g | g
      · exact g
      · have := lo r g; omega
    · rcases Nat.lt_or_ge I r with g | g
      · have := hi r g; omega
      · have := lo r g; omega

/-- The nearest rung: none is nearer. -/
theorem near_best (neg : Bool) (mag : Nat) (place : Int) (h0 : mag ≠ 0) (hp : -6000 ≤ place) :
    ∃ R, Ieee.double.nearest neg mag place = Ieee.double.word neg (min R 9218868437227405312) ∧ (∀ r, steps r * 2 ^ sc ≤ real mag place → r ≤ R) ∧ (∀ r, real mag place ≤ steps r * 2 ^ sc → R ≤ r) ∧
      ∀ r, ((real mag place : Nat) - (steps R * 2 ^ sc : Nat) : Int).natAbs ≤ ((real mag place : Nat) - (steps r * 2 ^ sc : Nat) : Int).natAbs := by
  have hs := sc_eq
  have l1 : 2 ^ mag.log2 ≤ mag := Nat.log2_self_le h0
  have l2 : mag < 2 ^ (mag.log2 + 1) := Nat.lt_log2_self
  obtain ⟨last, hlast⟩ : ∃ last : Int, last = max (place + mag.log2 - 52) (-1074) := ⟨_, rfl⟩
  have hR : Ieee.double.nearest neg mag place = Ieee.double.word neg (min ((last + 1074).toNat * 4503599627370496 + Ieee.Toward.even.cut neg (mag * 2 ^ (place - last).toNat) (last - place).toNat) 9218868437227405312) := by
    unfold Ieee.Format.nearest
    rw [if_neg h0, bin64, inf64, lp64]
    have e1 : (max (place + (mag.log2 : Int) - ((Ieee.double.fractionBits : Nat) : Int)) (-1074)) = last := by rw [hlast]; rfl
    simp only [e1, Nat.shiftLeft_eq]
    have e2 : (last - -1074).toNat = (last + 1074).toNat := by omega
    rw [e2]
  refine ⟨_, hR, ?_⟩
  have hc := cut_near neg (mag * 2 ^ (place - last).toNat) (last - place).toNat
  obtain ⟨low, hlow⟩ : ∃ low, low = mag * 2 ^ (place - last).toNat / 2 ^ (last - place).toNat := ⟨_, rfl⟩
  obtain ⟨rem, hrem⟩ : ∃ rem, rem = mag * 2 ^ (place - last).toNat % 2 ^ (last - place).toNat := ⟨_, rfl⟩
  have hd : 0 < 2 ^ (last - place).toNat := Nat.two_pow_pos _
  have hpp : 0 < 2 ^ (place + 1074 + (sc : Int) - (place - last).toNat).toNat := Nat.two_pow_pos _
  have hdm : mag * 2 ^ (place - last).toNat = low * 2 ^ (last - place).toNat + rem := by
    have := Nat.div_add_mod (mag * 2 ^ (place - last).toNat) (2 ^ (last - place).toNat)
    rw [← hlow, ← hrem, Nat.mul_comm] at this; exact this.symm
  have hrl : rem < 2 ^ (last - place).toNat := by rw [hrem]; exact Nat.mod_lt _ hd
  have eK : ∀ M, M * 2 ^ (last + 1074).toNat * 2 ^ sc = M * 2 ^ (last - place).toNat * 2 ^ (place + 1074 + (sc : Int) - (place - last).toNat).toNat := by
    intro M
    rw [Nat.mul_assoc, Nat.mul_assoc, ← Nat.pow_add, ← Nat.pow_add]
    congr 2; omega
  have eR : real mag place = mag * 2 ^ (place - last).toNat * 2 ^ (place + 1074 + (sc : Int) - (place - last).toNat).toNat := by
    unfold real
    rw [Nat.mul_assoc, ← Nat.pow_add]
    congr 2; omega
  have hnorm : low < 9007199254740992 ∧ ((last + 1074).toNat = 0 ∨ 4503599627370496 ≤ low) := by
    have e53 : (9007199254740992 : Nat) = 2 ^ 53 := by decide
    have e52 : (4503599627370496 : Nat) = 2 ^ 52 := by decide
    constructor
    · rw [hlow, Nat.div_lt_iff_lt_mul hd, e53, ← Nat.pow_add]
      have : mag * 2 ^ (place - last).toNat < 2 ^ (mag.log2 + 1) * 2 ^ (place - last).toNat := Nat.mul_lt_mul_of_pos_right l2 (Nat.two_pow_pos _)
      rw [← Nat.pow_add] at this
      exact Nat.lt_of_lt_of_le this (Nat.pow_le_pow_right (by decide) (by omega))
    · by_cases c : last = -1074
      · left; omega
      · right
        rw [hlow, Nat.le_div_iff_mul_le hd, e52, ← Nat.pow_add]
        have : 2 ^ mag.log2 * 2 ^ (place - last).toNat ≤ mag * 2 ^ (place - last).toNat := Nat.mul_le_mul_right _ l1
        rw [← Nat.pow_add] at this
        exact Nat.le_trans (Nat.pow_le_pow_right (by decide) (by omega)) this
  have s1 := steps_km (last + 1074).toNat low (by omega) hnorm.2
  have s2 := steps_km (last + 1074).toNat (low + 1) (by omega) (by omega)
  rw [← hlow, ← hrem] at hc
  -- in small letters
  have q1 : steps ((last + 1074).toNat * 4503599627370496 + low) * 2 ^ sc = low * 2 ^ (last - place).toNat * 2 ^ (place + 1074 + (sc : Int) - (place - last).toNat).toNat := by rw [s1, eK]
  have q2 : steps ((last + 1074).toNat * 4503599627370496 + low + 1) * 2 ^ sc = low * 2 ^ (last - place).toNat * 2 ^ (place + 1074 + (sc : Int) - (place - last).toNat).toNat + 2 ^ (last - place).toNat * 2 ^ (place + 1074 + (sc : Int) - (place - last).toNat).toNat := by
    rw [Nat.add_assoc, s2, eK, Nat.add_mul, Nat.add_mul, Nat.one_mul]
  have q3 : real mag place = low * 2 ^ (last - place).toNat * 2 ^ (place + 1074 + (sc : Int) - (place - last).toNat).toNat + rem * 2 ^ (place + 1074 + (sc : Int) - (place - last).toNat).toNat := by
    rw [eR, hdm, Nat.add_mul]
  have hsc : 0 < 2 ^ sc := Nat.two_pow_pos _
  have r1 : rem * 2 ^ (place + 1074 + (sc : Int) - (place - last).toNat).toNat < 2 ^ (last - place).toNat * 2 ^ (place + 1074 + (sc : Int) - (place - last).toNat).toNat := Nat.mul_lt_mul_of_pos_right hrl hpp
  exact near_core (fun r => steps r * 2 ^ sc) (fun i j h => Nat.mul_lt_mul_of_pos_right (steps_lt h) hsc) _ _ _ _ _ _ q1 q2 q3 r1 (by
    rcases hc with ⟨hc, hh⟩ | ⟨hc, hh⟩
    · left
      refine ⟨by rw [hc], ?_⟩
      rw [← Nat.mul_assoc]; exact Nat.mul_le_mul_right _ hh
    · right
      refine ⟨by rw [hc, Nat.add_assoc], ?_⟩
      rw [← Nat.mul_assoc]; exact Nat.mul_le_mul_right _ hh)

/-- A number of the row of all, however great; and one that none is nearer to T than. -/
def Rep (v : Int) : Prop := ∃ r, v.natAbs = steps r
structure Best (T x : Int) : Prop where
  rep : Rep x
  best : ∀ v, Rep v → (T - x).natAbs ≤ (T - v).natAbs

theorem steps_nil : steps 0 = 0 := by decide
theorem rep_neg {v : Int} (h : Rep v) : Rep (-v) := by
  obtain ⟨r, h⟩ := h
  exact ⟨r, by omega⟩
theorem rep_zero : Rep 0 := ⟨0, by decide⟩
theorem rep_nat : ∀ (K M : Nat), M ≤ 9007199254740992 → ∃ r, M * 2 ^ K = steps r
  | 0, M, h => ⟨0 * 4503599627370496 + M, (steps_km 0 M h (Or.inl rfl)).symm⟩
  | K + 1, M, h => by
    rcases Nat.lt_or_ge M 4503599627370496 with g | g
    · obtain ⟨r, hr⟩ := rep_nat K (2 * M) (by omega)
      refine ⟨r, ?_⟩
      rw [← hr, Nat.pow_succ, Nat.mul_comm (2 ^ K) 2, ← Nat.mul_assoc, Nat.mul_comm M 2]
    · exact ⟨_, (steps_km (K + 1) M h (Or.inr g)).symm⟩
theorem rep_mk (m : Int) (K : Nat) (h : m.natAbs ≤ 9007199254740992) : Rep (m * ((2 ^ K : Nat) : Int)) := by
  obtain ⟨r, hr⟩ := rep_nat K m.natAbs h
  exact ⟨r, by rw [Int.natAbs_mul, Int.natAbs_natCast]; exact hr⟩
theorem steps_parts2 (r : Nat) : ∃ M K, steps r = M * 2 ^ K ∧ M < 9007199254740992 ∧ (K = 0 ∨ 4503599627370496 ≤ M) := by
  unfold steps
  split
  · exact ⟨r, 0, by omega, by omega, Or.inl rfl⟩
  · exact ⟨_, _, rfl, by omega, Or.inr (by omega)⟩
theorem rep_parts {v : Int} (h : Rep v) : ∃ (m : Int) (K : Nat), v = m * ((2 ^ K : Nat) : Int) ∧ m.natAbs < 9007199254740992 ∧ (K = 0 ∨ 4503599627370496 ≤ m.natAbs) := by
  obtain ⟨r, hr⟩ := h
  obtain ⟨M, K, e, h1, h2⟩ := steps_parts2 r
  rcases Int.natAbs_eq v with g | g
  · exact ⟨(M : Int), K, by rw [g, hr, e, Int.natCast_mul], by omega, by omega⟩
  · exact ⟨-(M : Int), K, by rw [g, hr, e, Int.natCast_mul, Int.neg_mul], by omega, by omega⟩

theorem best_of (neg : Bool) (Tm R : Nat) (h : ∀ r, ((Tm : Int) - (steps R : Int)).natAbs ≤ ((Tm : Int) - (steps r : Int)).natAbs) : Best (sg neg Tm) (sg neg (steps R)) := by
  have h0 := h 0
  rw [steps_nil] at h0
  cases neg
  · refine ⟨⟨R, by show ((steps R : Int)).natAbs = _; omega⟩, fun v hv => ?_⟩
    obtain ⟨r, hr⟩ := hv
    have h1 := h r
    show ((Tm : Int) - (steps R : Int)).natAbs ≤ ((Tm : Int) - v).natAbs
    omega
  · refine ⟨⟨R, by show (-(steps R : Int)).natAbs = _; omega⟩, fun v hv => ?_⟩
    obtain ⟨r, hr⟩ := hv
    have h1 := h r
    show (-(Tm : Int) - -(steps R : Int)).natAbs ≤ (-(Tm : Int) - v).natAbs
    omega

theorem Best.exact {T s : Int} (h : Best T s) (hT : Rep T) : s = T := by
  have := h.best T hT
  omega
theorem Best.neg {T s : Int} (h : Best T s) : Best (-T) (-s) := ⟨rep_neg h.rep, fun v hv => by have := h.best (-v) (rep_neg hv); omega⟩
theorem Best.le {T s v : Int} (h : Best T s) (hv : Rep v) (hT : T.natAbs ≤ v.natAbs) : s.natAbs ≤ v.natAbs := by
  have h1 := h.best v hv
  have h2 := h.best (-v) (rep_neg hv)
  omega
theorem Best.ge {T s v : Int} (h : Best T s) (hv : Rep v) (hT : v.natAbs ≤ T.natAbs) : v.natAbs ≤ s.natAbs := by
  have h1 := h.best v hv
  have h2 := h.best (-v) (rep_neg hv)
  omega

theorem abs_pow (m : Int) (K : Nat) : (m * ((2 ^ K : Nat) : Int)).natAbs = m.natAbs * 2 ^ K := by rw [Int.natAbs_mul, Int.natAbs_natCast]
theorem pow_le_of {j k : Nat} (h : j ≤ k) : (2 : Nat) ^ j ≤ 2 ^ k := Nat.pow_le_pow_right (by decide) h
/-- What is a multiple of a greater power is one of a lesser. -/
theorem down_pow (m : Int) {j k : Nat} (h : j ≤ k) : m * ((2 ^ k : Nat) : Int) = m * ((2 ^ (k - j) : Nat) : Int) * ((2 ^ j : Nat) : Int) := by
  rw [Int.mul_assoc, ← Int.natCast_mul, ← Nat.pow_add]
  congr 3; omega
/-- A multiple of a power that is no number is great; what is nearest to it has a greater power. -/
theorem grid {T s : Int} (h : Best T s) (t : Int) (k : Nat) (hT : T = t * ((2 ^ k : Nat) : Int)) (j : Int) (g : Nat) (hs : s = j * ((2 ^ g : Nat) : Int)) (hj : j.natAbs < 9007199254740992) (hr : ¬ Rep T) :
    9007199254740992 * 2 ^ k < T.natAbs ∧ k < g := by
  have hp : 0 < 2 ^ k := Nat.two_pow_pos _
  have h1 : 9007199254740992 * 2 ^ k < T.natAbs := by
    rcases Nat.lt_or_ge 9007199254740992 t.natAbs with c | c
    · rw [hT, abs_pow]; exact Nat.mul_lt_mul_of_pos_right c hp
    · exact absurd (by rw [hT]; exact rep_mk t k c) hr
  refine ⟨h1, ?_⟩
  have h2 := h.ge (rep_mk 9007199254740992 k (by decide)) (by rw [abs_pow]; exact Nat.le_of_lt h1)
  rw [abs_pow, hs, abs_pow] at h2
  rcases Nat.lt_or_ge k g with c | c
  · exact c
  · have h3 : j.natAbs * 2 ^ g ≤ j.natAbs * 2 ^ k := Nat.mul_le_mul_left _ (pow_le_of c)
    have h4 : j.natAbs * 2 ^ k < 9007199254740992 * 2 ^ k := Nat.mul_lt_mul_of_pos_right hj hp
    have h5 : (9007199254740992 : Int).natAbs * 2 ^ k = 9007199254740992 * 2 ^ k := rfl
    omega

theorem rep_of_lt {T : Int} (t : Int) (k B : Nat) (hT : T = t * ((2 ^ k : Nat) : Int)) (h : T.natAbs ≤ B * 2 ^ k) (hB : B ≤ 9007199254740992) : Rep T := by
  rw [hT, abs_pow] at h
  have := Nat.le_of_mul_le_mul_right h (Nat.two_pow_pos k)
  rw [hT]; exact rep_mk t k (by omega)

/-- What a sum lacks: a number, no greater than any of both. -/
theorem lacks {a b s : Int} (ha : Rep a) (hb : Rep b) (h : Best (a + b) s) : Rep (a + b - s) ∧ (a + b - s).natAbs ≤ a.natAbs ∧ (a + b - s).natAbs ≤ b.natAbs := by
  have b1 := h.best a ha
  have b2 := h.best b hb
  have c1 : (a + b - s).natAbs ≤ b.natAbs := by omega
  have c2 : (a + b - s).natAbs ≤ a.natAbs := by omega
  refine ⟨?_, c2, c1⟩
  by_cases hT : Rep (a + b)
  · rw [h.exact hT, Int.sub_self]; exact rep_zero
  obtain ⟨j, g, es, hj, _⟩ := rep_parts h.rep
  obtain ⟨m, k, ea, hm, _⟩ := rep_parts ha
  obtain ⟨n, l, eb, hn, _⟩ := rep_parts hb
  rcases Nat.le_total k l with o | o
  · have eT : a + b = (m + n * ((2 ^ (l - k) : Nat) : Int)) * ((2 ^ k : Nat) : Int) := by rw [ea, eb, down_pow n o, ← Int.add_mul]
    have hg := (grid h _ k eT j g es hj hT).2
    have eE : a + b - s = (m + n * ((2 ^ (l - k) : Nat) : Int) - j * ((2 ^ (g - k) : Nat) : Int)) * ((2 ^ k : Nat) : Int) := by
      rw [eT, es, down_pow j (Nat.le_of_lt hg), ← Int.sub_mul]
    refine rep_of_lt _ k 9007199254740992 eE ?_ (Nat.le_refl _)
    rw [ea, abs_pow] at c2
    have : m.natAbs * 2 ^ k ≤ 9007199254740992 * 2 ^ k := Nat.mul_le_mul_right _ (by omega)
    rw [← ea] at c2
    omega
  · have eT : a + b = (m * ((2 ^ (k - l) : Nat) : Int) + n) * ((2 ^ l : Nat) : Int) := by rw [ea, eb, down_pow m o, ← Int.add_mul]
    have hg := (grid h _ l eT j g es hj hT).2
    have eE : a + b - s = (m * ((2 ^ (k - l) : Nat) : Int) + n - j * ((2 ^ (g - l) : Nat) : Int)) * ((2 ^ l : Nat) : Int) := by
      rw [eT, es, down_pow j (Nat.le_of_lt hg), ← Int.sub_mul]
    refine rep_of_lt _ l 9007199254740992 eE ?_ (Nat.le_refl _)
    rw [eb, abs_pow] at c1
    have : n.natAbs * 2 ^ l ≤ 9007199254740992 * 2 ^ l := Nat.mul_le_mul_right _ (by omega)
    rw [← eb] at c1
    omega

theorem tri (s a b : Int) : (s - a).natAbs ≤ b.natAbs + (a + b - s).natAbs := by omega
theorem abs_add (a b : Int) : (a + b).natAbs ≤ a.natAbs + b.natAbs := by omega
theorem arith1 {X B E L G : Nat} (t : X ≤ B + E) (hB : B < 9007199254740992 * L) (hE : 2 * E ≤ G) (hL : L * 2 ≤ G) : X ≤ 9007199254740992 * G := by omega
theorem arith2 {X A B K : Nat} (t : X ≤ A + B) (hB : B ≤ A) (hA : A ≤ 9007199254740991 * K) : X ≤ (9007199254740991 : Int).natAbs * (K * 2) := by
  show X ≤ 9007199254740991 * (K * 2)
  omega
theorem arith3 {X K G : Nat} (h1 : X ≤ (9007199254740991 : Int).natAbs * (K * 2)) (h2 : K * 2 * 2 ≤ G) (h3 : 4503599627370496 * G ≤ X) (hK : 0 < K) : False := by
  have h4 : X ≤ 9007199254740991 * (K * 2) := h1
  omega
theorem arith4 {X A B E K G : Nat} (t : X ≤ B + E) (hB : B ≤ A) (hA : A ≤ 9007199254740991 * K) (hE : 2 * E ≤ G) (hG : G ≤ K * 2) : X ≤ 9007199254740992 * K := by omega

/-- A sum less the greater one of both is a number. -/
theorem fast {a b s : Int} (ha : Rep a) (hb : Rep b) (hab : b.natAbs ≤ a.natAbs) (h : Best (a + b) s) : Rep (s - a) := by
  by_cases hT : Rep (a + b)
  · rw [h.exact hT, Int.add_comm, Int.add_sub_cancel]; exact hb
  obtain ⟨j, g, es, hj, hj2⟩ := rep_parts h.rep
  obtain ⟨m, k, ea, hm, hm2⟩ := rep_parts ha
  obtain ⟨n, l, eb, hn, hn2⟩ := rep_parts hb
  have la : a.natAbs = m.natAbs * 2 ^ k := by rw [ea, abs_pow]
  have lb : b.natAbs = n.natAbs * 2 ^ l := by rw [eb, abs_pow]
  have ls : s.natAbs = j.natAbs * 2 ^ g := by rw [es, abs_pow]
  have hlk : l ≤ k := by
    rcases Nat.lt_or_ge k l with o | o
    · have h1 : 4503599627370496 * 2 ^ l ≤ n.natAbs * 2 ^ l := Nat.mul_le_mul_right _ (by omega)
      have h2 : 2 ^ (k + 1) ≤ 2 ^ l := pow_le_of o
      rw [Nat.pow_succ] at h2
      have h3 : m.natAbs * 2 ^ k < 9007199254740992 * 2 ^ k := Nat.mul_lt_mul_of_pos_right hm (Nat.two_pow_pos _)
      omega
    · exact o
  have eT : a + b = (m * ((2 ^ (k - l) : Nat) : Int) + n) * ((2 ^ l : Nat) : Int) := by rw [ea, eb, down_pow m hlk, ← Int.add_mul]
  obtain ⟨hbig, hlg⟩ := grid h _ l eT j g es hj hT
  -- no further from s than half of its step
  have n1 := h.best (s + ((2 ^ g : Nat) : Int)) (by
    rw [show s + ((2 ^ g : Nat) : Int) = (j + 1) * ((2 ^ g : Nat) : Int) by rw [es, Int.add_mul, Int.one_mul]]
    exact rep_mk (j + 1) g (by omega))
  have n2 := h.best (s - ((2 ^ g : Nat) : Int)) (by
    rw [show s - ((2 ^ g : Nat) : Int) = (j - 1) * ((2 ^ g : Nat) : Int) by rw [es, Int.sub_mul, Int.one_mul]]
    exact rep_mk (j - 1) g (by omega))
  have hp : 0 < 2 ^ g := Nat.two_pow_pos _
  have half : 2 * (a + b - s).natAbs ≤ 2 ^ g := by omega
  have hlg2 : 2 ^ (l + 1) ≤ 2 ^ g := pow_le_of hlg
  rw [Nat.pow_succ] at hlg2
  have hB : b.natAbs < 9007199254740992 * 2 ^ l := by rw [lb]; exact Nat.mul_lt_mul_of_pos_right hn (Nat.two_pow_pos _)
  have hX := tri s a b
  rcases Nat.le_total g k with o | o
  · have eD : s - a = (j - m * ((2 ^ (k - g) : Nat) : Int)) * ((2 ^ g : Nat) : Int) := by rw [es, ea, down_pow m o, ← Int.sub_mul]
    exact rep_of_lt _ g 9007199254740992 eD (arith1 hX hB half hlg2) (Nat.le_refl _)
  · have eD : s - a = (j * ((2 ^ (g - k) : Nat) : Int) - m) * ((2 ^ k : Nat) : Int) := by rw [es, ea, down_pow j o, ← Int.sub_mul]
    have hk1 : a.natAbs ≤ 9007199254740991 * 2 ^ k := by rw [la]; exact Nat.mul_le_mul_right _ (by omega)
    have hg1 : g ≤ k + 1 := by
      rcases Nat.lt_or_ge (k + 1) g with c | c
      · have h1 := h.le (rep_mk 9007199254740991 (k + 1) (by decide)) (by
          rw [abs_pow, Nat.pow_succ]
          exact arith2 (abs_add a b) hab hk1)
        rw [abs_pow, Nat.pow_succ] at h1
        have h2 : 2 ^ (k + 2) ≤ 2 ^ g := pow_le_of c
        rw [Nat.pow_succ, Nat.pow_succ] at h2
        have h3 : 4503599627370496 * 2 ^ g ≤ s.natAbs := by rw [ls]; exact Nat.mul_le_mul_right _ (by omega)
        exact absurd (arith3 h1 h2 h3 (Nat.two_pow_pos k)) id
      · exact c
    have hg2 : 2 ^ g ≤ 2 ^ (k + 1) := pow_le_of hg1
    rw [Nat.pow_succ] at hg2
    exact rep_of_lt _ k 9007199254740992 eD (arith4 hX hab hk1 half hg2) (Nat.le_refl _)

/-- What is worked out of a sum in six steps is what the sum lacks, without an error. -/
theorem two_sum {a b s c p x y d : Int} (ha : Rep a) (hb : Rep b) (hs : Best (a + b) s) (hc : Best (s - a) c) (hp : Best (s - c) p) (hx : Best (a - p) x) (hy : Best (b - c) y) (hd : Best (x + y) d) : d = a + b - s := by
  obtain ⟨e1, e2, e3⟩ := lacks ha hb hs
  rcases Nat.le_total b.natAbs a.natAbs with o | o
  · have r1 := fast ha hb o hs
    have c1 := hc.exact r1
    have p1 := hp.exact (by rw [c1, show s - (s - a) = a by omega]; exact ha)
    have x1 := hx.exact (by rw [p1, c1, show a - (s - (s - a)) = 0 by omega]; exact rep_zero)
    have y1 := hy.exact (by rw [c1, show b - (s - a) = a + b - s by omega]; exact e1)
    have d1 := hd.exact (by rw [x1, y1, p1, c1, show a - (s - (s - a)) + (b - (s - a)) = a + b - s by omega]; exact e1)
    rw [d1, x1, y1, p1, c1]; omega
  · by_cases hT : Rep (a + b)
    · have s1 := hs.exact hT
      have c1 := hc.exact (by rw [s1, show a + b - a = b by omega]; exact hb)
      have p1 := hp.exact (by rw [c1, s1, show a + b - (a + b - a) = a by omega]; exact ha)
      have x1 := hx.exact (by rw [p1, c1, s1, show a - (a + b - (a + b - a)) = 0 by omega]; exact rep_zero)
      have y1 := hy.exact (by rw [c1, s1, show b - (a + b - a) = 0 by omega]; exact rep_zero)
      have d1 := hd.exact (by rw [x1, y1, p1, c1, s1, show a - (a + b - (a + b - a)) + (b - (a + b - a)) = 0 by omega]; exact rep_zero)
      rw [d1, x1, y1, p1, c1, s1]; omega
    · -- c is next to b
      have hc' : Best (b + -(a + b - s)) c := by rw [show b + -(a + b - s) = s - a by omega]; exact hc
      have r1 := fast hb (rep_neg e1) (by rw [Int.natAbs_neg]; exact e3) hc'
      have y1 := hy.exact (by rw [show b - c = -(c - b) by omega]; exact rep_neg r1)
      have las : a.natAbs ≤ s.natAbs := by
        rcases Nat.lt_or_ge (a + b).natAbs a.natAbs with q | q
        · exfalso
          obtain ⟨m, k, ea, hm, hm2⟩ := rep_parts ha
          obtain ⟨n, l, eb, hn, hn2⟩ := rep_parts hb
          have la : a.natAbs = m.natAbs * 2 ^ k := by rw [ea, abs_pow]
          have lb : b.natAbs = n.natAbs * 2 ^ l := by rw [eb, abs_pow]
          have hlk : k ≤ l := by
            rcases Nat.lt_or_ge l k with o2 | o2
            · have h1 : 4503599627370496 * 2 ^ k ≤ m.natAbs * 2 ^ k := Nat.mul_le_mul_right _ (by omega)
              have h2 : 2 ^ (l + 1) ≤ 2 ^ k := pow_le_of o2
              rw [Nat.pow_succ] at h2
              have h3 : n.natAbs * 2 ^ l < 9007199254740992 * 2 ^ l := Nat.mul_lt_mul_of_pos_right hn (Nat.two_pow_pos _)
              omega
            · exact o2
          have eT : a + b = (m + n * ((2 ^ (l - k) : Nat) : Int)) * ((2 ^ k : Nat) : Int) := by rw [ea, eb, down_pow n hlk, ← Int.add_mul]
          have h4 : m.natAbs * 2 ^ k ≤ 9007199254740992 * 2 ^ k := Nat.mul_le_mul_right _ (by omega)
          exact hT (rep_of_lt _ k 9007199254740992 eT (by omega) (Nat.le_refl _))
        · exact hs.ge ha q
      have hc2 : Best (s + -a) c := by rw [← Int.sub_eq_add_neg]; exact hc
      have r2 := fast hs.rep (rep_neg ha) (by rw [Int.natAbs_neg]; exact las) hc2
      have p1 := hp.exact (by rw [show s - c = -(c - s) by omega]; exact rep_neg r2)
      have r3 := (lacks hs.rep (rep_neg ha) hc2).1
      have x1 := hx.exact (by rw [p1, show a - (s - c) = -(s + -a - c) by omega]; exact rep_neg r3)
      have d1 := hd.exact (by rw [x1, y1, p1, show a - (s - c) + (b - c) = a + b - s by omega]; exact e1)
      rw [d1, x1, y1, p1]; omega

end Go.Proofs.Ytmcecchcbfhfcaa
