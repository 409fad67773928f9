
/- How a row of numbers of 32 bits that comes in reads, and how it reads again; five arguments. -/
import Derived.Test.YtoocmocaelcbkaaQLtB
import Derived.Test.YtoocmocaelcbkaaQBW
import Derived.Test.YtoocmocaelcbkaaQLtA
import Derived.Deep.RegionHeld3
import Derived.Test.YtoocmocaelcbkaaQOpen
import Derived.OpenShut
import Derived.Deep.Strs
import Derived.Carry
namespace Go.Proofs.Ytoocmocaelcbkaa
open Go.RowKit

theorem steps_twice {c : Nat} (h : 4503599627370496 ≤ c) : steps (c + 4503599627370496) = 2 * steps c := by
  unfold steps
  obtain ⟨k, hk⟩ : ∃ k, c / 4503599627370496 = k + 1 := ⟨c / 4503599627370496 - 1, by omega⟩
  have e1 : (c + 4503599627370496) / 4503599627370496 = k + 1 + 1 := by omega
  have e2 : (c + 4503599627370496) % 4503599627370496 = c % 4503599627370496 := by omega
  rw [e1, e2, hk, if_neg (by omega), if_neg (by omega)]
  show _ * 2 ^ (k + 1) = 2 * (_ * 2 ^ k)
  rw [Nat.pow_succ, ← Nat.mul_assoc, Nat.mul_comm _ 2]
theorem word_pos {d : Nat} (ld : d < 18446744073709551616) (rd : rightB d = true) (h : 0 ≤ val d) : d < 9218868437227405312 ∧ val d = (steps d : Int) := by
  have s := sgn_lt (plain_sgn ld rd h)
  have r := right_rung d rd
  have e : rung d = d := by unfold rung; omega
  rw [e] at r
  exact ⟨r, (pos_facts d r).2.2.2.2⟩

theorem two_val : val 4611686018427387904 = 2 * ((2 ^ sq : Nat) : Int) := by decide +kernel
theorem mul_two {x : Nat} (h1 : 4503599627370496 ≤ x) (h2 : x < 9214364837600034816) : floatBits .mul .f64 x 4611686018427387904 = some (x + 4503599627370496) := by
  obtain ⟨p1, p2, _, _, p5⟩ := pos_facts x (by omega)
  obtain ⟨q1, q2, _, _, q5⟩ := pos_facts (x + 4503599627370496) (by omega)
  refine mul_exact x 4611686018427387904 (x + 4503599627370496) p1 (by decide) p2 (by decide) (by omega) (by omega) ?_
  have e : val (x + 4503599627370496) = 2 * val x := by rw [q5, p5, steps_twice h1]; omega
  rw [two_val, e, Int.mul_comm 2 (val x), Int.mul_assoc]
theorem frac_low (n : Nat) (hn : n < 4294967296) (h0 : n ≠ 0) (f : Nat) (hf : floatBits .quo .f64 (floatOfInt .f64 (n : Int)) 4751297606873776128 = some f) : val 4458563631096791040 ≤ val f := by
  obtain ⟨f1, f2⟩ := from_int n (by omega)
  obtain ⟨a1, a2, a3, a4, a5⟩ := pos_facts _ f1
  obtain ⟨r, hr, hB⟩ := div_beside (FloatKind.f64.nearest (n : Int)) 4751297606873776128 a1 (by decide) a2 (by decide) (by decide)
  have hb : steps (rung 4751297606873776128) = 4294967295 * 2 ^ sq := by decide +kernel
  have hs : (sgnB 4751297606873776128) = false := by decide
  have dd := div_dir (FloatKind.f64.nearest (n : Int)) 4751297606873776128 a2 (by decide) (by decide) (by decide)
  have d1 := (dd false).1 rfl
  have d2 := (dd true).2 rfl
  rw [hb, hs, a3, a4, f2] at hB d1 d2
  have hT : sg (!(false == false)) (n * 2 ^ sq * 2 ^ sq) = ((n * 2 ^ sq * 2 ^ sq : Nat) : Int) := rfl
  rw [hT] at hB d1 d2
  have eL : val 4458563631096791040 * (4294967295 : Int) ≤ ((2 ^ sq : Nat) : Int) ∧ 0 < val 4458563631096791040 := by decide +kernel
  have eU : val u1 = ((2 ^ sq : Nat) : Int) := by decide +kernel
  have hp : 0 < 2 ^ sq := Nat.two_pow_pos _
  have hrf : r = f := by
    have : some r = some f := hr.symm.trans hf
    simpa using this
  subst hrf
  clear hf
  generalize 2 ^ sq = P at *
  obtain ⟨n1, n2, n3, n4⟩ := near_between (x0 := 4458563631096791040) (y0 := u1) (by omega) d1 d2 hB (by decide) (by decide) (by
      have e1 : val 4458563631096791040 * ((4294967295 * P : Nat) : Int) = (val 4458563631096791040 * 4294967295) * (P : Int) := by rw [Int.natCast_mul, ← Int.mul_assoc]; rfl
      have e2 : ((n * P * P : Nat) : Int) = ((n * P : Nat) : Int) * (P : Int) := Int.natCast_mul _ _
      rw [e1, e2]
      refine Int.mul_le_mul_of_nonneg_right ?_ (by omega)
      have : (P : Int) ≤ ((n * P : Nat) : Int) := by
        have : 1 * P ≤ n * P := Nat.mul_le_mul_right _ (by omega)
        omega
      omega) (by decide) (by decide) (by
      rw [eU, ← Int.natCast_mul]
      have : n * P * P ≤ P * (4294967295 * P) := by
        rw [← Nat.mul_assoc, Nat.mul_comm P 4294967295]
        exact Nat.mul_le_mul_right _ (Nat.mul_le_mul_right _ (by omega))
      omega)
  exact n3
end Go.Proofs.Ytoocmocaelcbkaa

namespace Go.Proofs.Ytoocmocaelcbkaa
open Go.RowKit

theorem ss_eq : SS = ((2 ^ sq : Nat) : Int) := rfl
theorem u1_ss : val u1 = SS := by decide +kernel
/-- The spacing of numbers below 2. -/
def gK : Nat := 1022
def gG : Int := ((2 ^ gK : Nat) : Int)
theorem gG_pos : 0 < gG := Int.natCast_pos.2 (Nat.two_pow_pos _)
theorem gG_ss : gG * 4503599627370496 = SS := by decide +kernel

theorem un_nil0 : In (oneR 0) unI := ⟨.of (by decide +kernel), Int.le_refl _, by decide +kernel⟩
/-- A quotient of words, of a real number from 0 to 2 / s-th. -/
theorem quo_gap {a b : Nat} (ha : a < 9218868437227405312) (hb : b < 9218868437227405312) (hb0 : b ≠ 0) {x0 y0 : Nat} (hx0 : x0 < 9218868437227405312) (hxp : 0 < val x0) (hx : val x0 * (steps b : Int) ≤ (steps a : Int) * SS) (hy0 : y0 < 9218868437227405312) (hy : (steps a : Int) * SS ≤ val y0 * (steps b : Int)) (hy2 : val y0 ≤ 2 * SS) :
    ∃ q, floatBits .quo .f64 a b = some q ∧ q < 18446744073709551616 ∧ rightB q = true ∧ val x0 ≤ val q ∧ val q ≤ val y0 ∧
      val q * (steps b : Int) ≤ (steps a : Int) * SS + gG * (steps b : Int) ∧ (steps a : Int) * SS ≤ val q * (steps b : Int) + gG * (steps b : Int) := by
  obtain ⟨a1, a2, a3, a4, a5⟩ := pos_facts a ha
  obtain ⟨b1, b2, b3, b4, b5⟩ := pos_facts b hb
  obtain ⟨y1, y2, y3, y4, y5⟩ := pos_facts y0 hy0
  obtain ⟨x1, x2, _, _, _⟩ := pos_facts x0 hx0
  obtain ⟨r, hr, hB⟩ := div_beside a b a1 b1 a2 b2 hb0
  have dd := div_dir a b a2 b2 b1 hb0
  have d1 := (dd false).1 rfl
  have d2 := (dd true).2 rfl
  rw [a3, b3, a4, b4] at hB d1 d2
  have hT : sg (!(false == false)) (steps a * 2 ^ sq) = (steps a : Int) * SS := by
    show ((steps a * 2 ^ sq : Nat) : Int) = _
    rw [Int.natCast_mul, ss_eq]
  rw [hT] at hB d1 d2
  have s0 : 0 < steps b := Nat.pos_of_ne_zero fun e => hb0 (by
    have h : steps b ≤ steps 0 := by rw [e]; exact Nat.zero_le _
    have := (steps_le_iff b 0).1 h
    omega)
  have t0 : 0 ≤ (steps a : Int) * SS := Int.mul_nonneg (Int.natCast_nonneg _) (Int.le_of_lt SS0)
  obtain ⟨n1, n2, n3, n4⟩ := near_between (x0 := x0) (y0 := y0) s0 d1 d2 hB x1 x2 hx y1 y2 hy
  have hright : rightB r = true := word_right (sgn_lt (by
    cases hs : sgnB r
    · rfl
    · have e := val_negs hs; omega)) n2
  refine ⟨r, hr, n1, hright, n3, n4, ?_⟩
  have k1 : 53 ≤ gK := by decide
  have k2 : gK ≤ 1899 := by decide
  have top : (9007199254740992 : Int) * gG = 2 * SS := by rw [← gG_ss]; omega
  -- the two ends
  rcases d1 with D | ⟨_, _, D⟩
  · rcases d2 with U | ⟨_, _, U⟩
    · obtain ⟨_, _, hv⟩ := hB _ _ (Or.inl ⟨rfl, D.2⟩) (Or.inl ⟨rfl, U.2⟩)
      have c0 : 0 ≤ val (divW a b false) := by
        have := D.2.2.2.2 0 (by decide) (by decide) (by rw [v00, Int.zero_mul]; exact t0)
        rw [v00] at this; exact this
      have c1 : val (divW a b true) ≤ val y0 := U.2.2.2.2 y0 y1 y2 hy
      have sp : (0 : Int) < (steps b : Int) := by omega
      have cc : val (divW a b false) ≤ val (divW a b true) := by
        have h := Int.le_trans D.2.2.2.1 U.2.2.2.1
        exact Int.le_of_mul_le_mul_right h sp
      rcases hv with e | e
      · rw [e]
        refine ⟨by have := D.2.2.2.1; have := Int.mul_pos gG_pos sp; omega, ?_⟩
        by_cases hc : val (divW a b false) < 2 * SS
        · have := down_gap (k := gK) k1 k2 s0 (Or.inl ⟨rfl, D.2⟩ : Down _ _ _ 0) (by show -9007199254740992 * gG ≤ _; have := gG_pos; omega) (by show _ < 9007199254740992 * gG; omega)
          have h2 : (steps a : Int) * SS < (val (divW a b false) + gG) * (steps b : Int) := this
          rw [Int.add_mul] at h2; omega
        · have h3 : val (divW a b false) = val y0 := by omega
          have h4 : (steps a : Int) * SS ≤ val (divW a b false) * (steps b : Int) := by rw [h3]; exact hy
          have := Int.mul_pos gG_pos sp; omega
      · rw [e]
        refine ⟨?_, by have := U.2.2.2.1; have := Int.mul_pos gG_pos sp; omega⟩
        have := up_gap (k := gK) k1 k2 s0 (Or.inl ⟨rfl, U.2⟩ : Up _ _ _ 0) (by show -9007199254740992 * gG < _; have := gG_pos; have := SS0; omega) (by show _ ≤ 9007199254740992 * gG; omega)
        have h2 : (val (divW a b true) - gG) * (steps b : Int) < (steps a : Int) * SS := this
        rw [Int.sub_mul] at h2; omega
    · exact absurd (U y0 y1 y2) (by omega)
  · exact absurd (D 0 (by decide) (by decide)) (by rw [v00, Int.zero_mul]; omega)

/-- i by n, as a word. -/
def xw (n i : Nat) : Nat := (floatBits .quo .f64 (floatOfInt .f64 (i : Int)) (floatOfInt .f64 (n : Int))).getD 0
structure PtN (n i : Nat) : Prop where
  quo : floatBits .quo .f64 (floatOfInt .f64 (i : Int)) (floatOfInt .f64 (n : Int)) = some (xw n i)
  un : In (oneR (xw n i)) unI
  above : val (xw n i) * (n : Int) ≤ (i : Int) * SS + (n : Int) * gG
  below : (i : Int) * SS ≤ val (xw n i) * (n : Int) + (n : Int) * gG
theorem xw_some {n i q : Nat} (h : floatBits .quo .f64 (floatOfInt .f64 (i : Int)) (floatOfInt .f64 (n : Int)) = some q) : xw n i = q := by unfold xw; rw [h]; rfl
theorem pt_nil {n : Nat} (h : (floatBits .quo .f64 (floatOfInt .f64 ((0 : Nat) : Int)) (floatOfInt .f64 (n : Int))) = some 0) : PtN n 0 ∧ xw n 0 = 0 := by
  have e := xw_some h
  refine ⟨⟨by rw [e]; exact h, by rw [e]; exact un_nil0, ?_, ?_⟩, e⟩
  · rw [e, v00]
    have := Int.mul_nonneg (Int.natCast_nonneg n) (Int.le_of_lt gG_pos)
    omega
  · rw [e, v00]
    have := Int.mul_nonneg (Int.natCast_nonneg n) (Int.le_of_lt gG_pos)
    omega
def nilOk (n : Nat) : Bool := floatBits .quo .f64 (floatOfInt .f64 ((0 : Nat) : Int)) (floatOfInt .f64 (n : Int)) == some 0
theorem nil_ok : ∀ n, n < 65 → (n = 0 ∨ nilOk n = true) := by decide +kernel
theorem one_ok : ∀ n, n < 65 → (n = 0 ∨ xw n n = u1) := by decide +kernel
theorem least7 : val 4575657221408423936 * 64 ≤ SS ∧ 0 < val 4575657221408423936 := by decide +kernel
theorem pt_any {n i : Nat} (h1 : 1 ≤ n) (h2 : n < 65) (hi : i ≤ n) : PtN n i := by
  by_cases h0 : i = 0
  · subst h0
    rcases nil_ok n h2 with e | e
    · omega
    · unfold nilOk at e
      exact (pt_nil (by simpa using e)).1
  · obtain ⟨a1, a2⟩ := from_int i (by omega)
    obtain ⟨b1, b2⟩ := from_int n (by omega)
    have hb0 : FloatKind.f64.nearest (n : Int) ≠ 0 := fun e => by
      rw [e] at b2
      have : steps 0 = 0 := rfl
      rw [this] at b2
      have hp : 0 < n * 2 ^ sq := Nat.mul_pos (by omega) (Nat.two_pow_pos _)
      omega
    have ea : ((steps (FloatKind.f64.nearest (i : Int)) : Nat) : Int) = (i : Int) * SS := by rw [a2, Int.natCast_mul, ss_eq]
    have eb : ((steps (FloatKind.f64.nearest (n : Int)) : Nat) : Int) = (n : Int) * SS := by rw [b2, Int.natCast_mul, ss_eq]
    obtain ⟨l1, l2⟩ := least7
    have ni : (n : Int) ≤ 64 * i := by omega
    have ii : (i : Int) ≤ n := by omega
    obtain ⟨q, q1, q2, q3, q4, q5, q6, q7⟩ := quo_gap a1 b1 hb0 (x0 := 4575657221408423936) (y0 := u1) (by decide) l2 (by
      rw [ea, eb]
      have s0 := SS0
      have t1 : val 4575657221408423936 * ((n : Int) * SS) ≤ val 4575657221408423936 * ((64 * i) * SS) := Int.mul_le_mul_of_nonneg_left (Int.mul_le_mul_of_nonneg_right ni (Int.le_of_lt s0)) (Int.le_of_lt l2)
      have t2 : val 4575657221408423936 * 64 * ((i : Int) * SS) ≤ SS * ((i : Int) * SS) := Int.mul_le_mul_of_nonneg_right l1 (Int.mul_nonneg (by omega) (Int.le_of_lt s0))
      have t3 : val 4575657221408423936 * ((64 * i) * SS) = val 4575657221408423936 * 64 * ((i : Int) * SS) := by grind
      have t4 : SS * ((i : Int) * SS) = (i : Int) * SS * SS := by grind
      omega) (by decide) (by
      rw [ea, eb, u1_ss]
      have s0 := SS0
      have t1 : (i : Int) * SS * SS ≤ (n : Int) * SS * SS := Int.mul_le_mul_of_nonneg_right (Int.mul_le_mul_of_nonneg_right ii (Int.le_of_lt s0)) (Int.le_of_lt s0)
      have t2 : SS * ((n : Int) * SS) = (n : Int) * SS * SS := by grind
      omega) (by rw [u1_ss]; have := SS0; omega)
    have e := xw_some (n := n) (i := i) q1
    rw [ea, eb] at q6 q7
    have s0 := SS0
    refine ⟨by rw [e]; exact q1, by rw [e]; exact ⟨one_fit q2 q3, by show val 0 ≤ val q; rw [v00]; omega, q5⟩, ?_, ?_⟩
    · rw [e]
      refine Int.le_of_mul_le_mul_right ?_ s0
      have t1 : val q * (n : Int) * SS = val q * ((n : Int) * SS) := by grind
      have t2 : ((i : Int) * SS + (n : Int) * gG) * SS = (i : Int) * SS * SS + gG * ((n : Int) * SS) := by grind
      omega
    · rw [e]
      refine Int.le_of_mul_le_mul_right ?_ s0
      have t1 : (i : Int) * SS * SS ≤ val q * ((n : Int) * SS) + gG * ((n : Int) * SS) := q7
      have t2 : (val q * (n : Int) + (n : Int) * gG) * SS = val q * ((n : Int) * SS) + gG * ((n : Int) * SS) := by grind
      omega
end Go.Proofs.Ytoocmocaelcbkaa

namespace Go.Proofs.Ytoocmocaelcbkaa
open Go.RowKit

theorem HasV.drop {r : Res} {P T Q : Int} (hP : 0 < P) (hQ : 0 < Q) (h : HasV r (P * Q) (T * Q)) : HasV r P T := by
  refine ⟨hP, Int.le_of_mul_le_mul_right ?_ hQ, Int.le_of_mul_le_mul_right ?_ hQ⟩
  · have e1 : val r.lo * P * Q = val r.lo * (P * Q) := by grind
    have e2 : T * SS * Q = T * Q * SS := by grind
    rw [e1, e2]; exact h.low
  · have e1 : val r.hi * P * Q = val r.hi * (P * Q) := by grind
    have e2 : T * SS * Q = T * Q * SS := by grind
    rw [e1, e2]; exact h.high
theorem has_le {r s : Res} {P T U : Int} (h : HasV r P T) (g : HasV s P U) (hTU : T ≤ U) : val r.lo ≤ val s.hi := by
  have a := h.low
  have b := g.high
  have c := Int.mul_le_mul_of_nonneg_right hTU (Int.le_of_lt SS0)
  exact Int.le_of_mul_le_mul_right (Int.le_trans a (Int.le_trans c b)) h.pos

def aroundR (a : Nat) : Res := mulR (mulR (oneR 4611686018427387904) piR) (valueR (oneR a))
def wideR (n i : Nat) : Res := subR (oneR (xw n (i + 1))) (oneR (xw n i))
def ringL (a n i : Nat) : Res := mulR (mulR (aroundR a) (oneR (xw n i))) (wideR n i)
def ringH (a n i : Nat) : Res := mulR (mulR (aroundR a) (oneR (xw n (i + 1)))) (wideR n i)
def lowN (a n k : Nat) : Nat → Res
  | 0 => oneR 0
  | j + 1 => addR (lowN a n k j) (ringL a n (k + j))
def highN (a n k : Nat) : Nat → Res
  | 0 => oneR 0
  | j + 1 => addR (highN a n k j) (ringH a n (k + j))

def bPt : BW := ⟨unI, 0⟩
def bPi : BW := ⟨piR, val piR.hi - val piR.lo⟩
def bTwo : BW := BW.one 4611686018427387904
def bTp : BW := bTwo.mul bPi
def bVal : BW := bPt.div bPi
def bAr : BW := bTp.mul bVal
def bWd : BW := bPt.sub bPt
def bAp : BW := bAr.mul bPt
def bRg : BW := bAp.mul bWd
def bSm : Nat → BW
  | 0 => BW.one 0
  | j + 1 => (bSm j).add bRg
theorem b_ok : (bok bTp && bok bVal && bok bAr && bok bWd && bok bAp && bok bRg) = true := by decide +kernel
/-- How wide a sum may be. -/
def wK : Nat := 1040
def wTop : Int := ((2 ^ wK : Nat) : Int)
theorem bs_ok : ∀ j, j < 65 → bok (bSm j) = true := by decide +kernel
theorem bs_w : ∀ j, j < 65 → (bSm j).w ≤ wTop := by decide +kernel

theorem pi_snd : Snd piR bPi := ⟨⟨.refl big_fit.1, Int.le_refl _⟩, big_fit.1⟩
theorem un_snd {x : Nat} (h : In (oneR x) unI) : Snd (oneR x) bPt := ⟨.one h, un_fit⟩
section
variable {a n k : Nat}
theorem ar_snd (ia : In (oneR a) unI) : Snd (aroundR a) bAr := by
  have ok := b_ok
  simp only [Bool.and_eq_true] at ok
  obtain ⟨⟨⟨⟨⟨o1, o2⟩, o3⟩, o4⟩, o5⟩, o6⟩ := ok
  have h1 : Snd (mulR (oneR 4611686018427387904) piR) bTp := Snd.mul (Snd.one (by decide) (by decide)) pi_snd o1
  have h2 : Snd (valueR (oneR a)) bVal := Snd.div (un_snd ia) pi_snd o2 (by decide +kernel)
  exact Snd.mul h1 h2 o3
theorem wd_snd {i : Nat} (h : PtN n i) (h' : PtN n (i + 1)) : Snd (wideR n i) bWd := by
  have ok := b_ok
  simp only [Bool.and_eq_true] at ok
  exact Snd.sub (un_snd h'.un) (un_snd h.un) ok.1.1.2
theorem ap_snd {x : Nat} (ia : In (oneR a) unI) (h : In (oneR x) unI) : Snd (mulR (aroundR a) (oneR x)) bAp := by
  have ok := b_ok
  simp only [Bool.and_eq_true] at ok
  exact Snd.mul (ar_snd ia) (un_snd h) ok.1.2
theorem rgL_snd {i : Nat} (ia : In (oneR a) unI) (h : PtN n i) (h' : PtN n (i + 1)) : Snd (ringL a n i) bRg := by
  have ok := b_ok
  simp only [Bool.and_eq_true] at ok
  exact Snd.mul (ap_snd ia h.un) (wd_snd h h') ok.2
theorem rgH_snd {i : Nat} (ia : In (oneR a) unI) (h : PtN n i) (h' : PtN n (i + 1)) : Snd (ringH a n i) bRg := by
  have ok := b_ok
  simp only [Bool.and_eq_true] at ok
  exact Snd.mul (ap_snd ia h'.un) (wd_snd h h') ok.2
theorem low_snd (ia : In (oneR a) unI) (hp : ∀ i, i ≤ n → PtN n i) : ∀ j, j < 65 → k + j ≤ n → Snd (lowN a n k j) (bSm j)
  | 0, _, _ => Snd.one (by decide) (by decide)
  | j + 1, hj, hk => Snd.add (low_snd ia hp j (by omega) (by omega)) (rgL_snd ia (hp _ (by omega)) (hp _ (by omega))) (bs_ok (j + 1) hj)
theorem high_snd (ia : In (oneR a) unI) (hp : ∀ i, i ≤ n → PtN n i) : ∀ j, j < 65 → k + j ≤ n → Snd (highN a n k j) (bSm j)
  | 0, _, _ => Snd.one (by decide) (by decide)
  | j + 1, hj, hk => Snd.add (high_snd ia hp j (by omega) (by omega)) (rgH_snd ia (hp _ (by omega)) (hp _ (by omega))) (bs_ok (j + 1) hj)
end

theorem Snd.ok {r : Res} {x : BW} (h : Snd r x) : Fit r := h.wid.has.fit
theorem two_ss : val 4611686018427387904 = 2 * SS := by decide +kernel
section
variable {a n k : Nat}
theorem ar_has (ia : In (oneR a) unI) : HasV (aroundR a) SS (2 * val a) := by
  have s0 := SS0
  have pp : 0 < val piR.lo := by decide +kernel
  have two : Fit (oneR 4611686018427387904) := one_fit (by decide) (by decide)
  have hp : HasV piR SS (val piR.lo) := ⟨SS0, Int.le_refl _, Int.mul_le_mul_of_nonneg_right big_fit.1.le (Int.le_of_lt SS0)⟩
  have f1 : Fit (mulR (oneR 4611686018427387904) piR) := .of (by decide +kernel)
  have h1 := HasV.mul two big_fit.1 (HasV.one 4611686018427387904) hp f1.e
  obtain ⟨_, h2⟩ := HasV.div ia.fit big_fit.1 (HasV.one a) hp pp (value_fit ia).e
  have h3 := HasV.mul f1 (value_fit ia) h1 h2 (ar_snd ia).ok.e
  rw [two_ss] at h3
  refine HasV.drop s0 (Int.mul_pos (Int.mul_pos s0 s0) pp) (h3.turn ?_ ?_) <;> grind
theorem wd_has {i : Nat} (h : PtN n i) (h' : PtN n (i + 1)) : HasV (wideR n i) SS (val (xw n (i + 1)) - val (xw n i)) := by
  have k := HasV.sub h'.un.fit h.un.fit (HasV.one (xw n (i + 1))) (HasV.one (xw n i)) (wd_snd h h').ok.e
  exact HasV.drop SS0 SS0 (k.turn rfl (by grind))
theorem rgL_has {i : Nat} (ia : In (oneR a) unI) (h : PtN n i) (h' : PtN n (i + 1)) : HasV (ringL a n i) (SS * SS * SS) (2 * val a * val (xw n i) * (val (xw n (i + 1)) - val (xw n i))) := by
  have k1 := HasV.mul (ar_snd ia).ok h.un.fit (ar_has ia) (HasV.one (xw n i)) (ap_snd ia h.un).ok.e
  exact HasV.mul (ap_snd ia h.un).ok (wd_snd h h').ok k1 (wd_has h h') (rgL_snd ia h h').ok.e
theorem rgH_has {i : Nat} (ia : In (oneR a) unI) (h : PtN n i) (h' : PtN n (i + 1)) : HasV (ringH a n i) (SS * SS * SS) (2 * val a * val (xw n (i + 1)) * (val (xw n (i + 1)) - val (xw n i))) := by
  have k1 := HasV.mul (ar_snd ia).ok h'.un.fit (ar_has ia) (HasV.one (xw n (i + 1))) (ap_snd ia h'.un).ok.e
  exact HasV.mul (ap_snd ia h'.un).ok (wd_snd h h').ok k1 (wd_has h h') (rgH_snd ia h h').ok.e
def lowS (a n k : Nat) : Nat → Int
  | 0 => 0
  | j + 1 => lowS a n k j + 2 * val a * val (xw n (k + j)) * (val (xw n (k + j + 1)) - val (xw n (k + j)))
def highS (a n k : Nat) : Nat → Int
  | 0 => 0
  | j + 1 => highS a n k j + 2 * val a * val (xw n (k + j + 1)) * (val (xw n (k + j + 1)) - val (xw n (k + j)))
theorem sss : 0 < SS * SS * SS := Int.mul_pos (Int.mul_pos SS0 SS0) SS0
theorem nil_has : HasV (oneR 0) (SS * SS * SS) 0 := ⟨sss, by show val 0 * _ ≤ _; rw [v00, Int.zero_mul, Int.zero_mul]; exact Int.le_refl _, by show _ ≤ val 0 * _; rw [v00, Int.zero_mul, Int.zero_mul]; exact Int.le_refl _⟩
theorem low_has (ia : In (oneR a) unI) (hp : ∀ i, i ≤ n → PtN n i) : ∀ j, j < 65 → k + j ≤ n → HasV (lowN a n k j) (SS * SS * SS) (lowS a n k j)
  | 0, _, _ => nil_has
  | j + 1, hj, hk => by
    have h := HasV.add (low_snd ia hp j (by omega) (by omega)).ok (rgL_snd ia (hp (k + j) (by omega)) (hp _ (by omega))).ok (low_has ia hp j (by omega) (by omega)) (rgL_has ia (hp (k + j) (by omega)) (hp _ (by omega))) (low_snd ia hp (j + 1) hj hk).ok.e
    exact HasV.drop sss sss (h.turn rfl (by show _ = (lowS a n k j + _) * _; grind))
theorem high_has (ia : In (oneR a) unI) (hp : ∀ i, i ≤ n → PtN n i) : ∀ j, j < 65 → k + j ≤ n → HasV (highN a n k j) (SS * SS * SS) (highS a n k j)
  | 0, _, _ => nil_has
  | j + 1, hj, hk => by
    have h := HasV.add (high_snd ia hp j (by omega) (by omega)).ok (rgH_snd ia (hp (k + j) (by omega)) (hp _ (by omega))).ok (high_has ia hp j (by omega) (by omega)) (rgH_has ia (hp (k + j) (by omega)) (hp _ (by omega))) (high_snd ia hp (j + 1) hj hk).ok.e
    exact HasV.drop sss sss (h.turn rfl (by show _ = (highS a n k j + _) * _; grind))
/-- The cap lies between the sums. -/
theorem between_sums (h0 : 0 ≤ val a) : ∀ j, lowS a n k j ≤ val a * (val (xw n (k + j)) * val (xw n (k + j)) - val (xw n k) * val (xw n k)) ∧ val a * (val (xw n (k + j)) * val (xw n (k + j)) - val (xw n k) * val (xw n k)) ≤ highS a n k j
  | 0 => by
    have e : val a * (val (xw n (k + 0)) * val (xw n (k + 0)) - val (xw n k) * val (xw n k)) = 0 := by show val a * (val (xw n k) * val (xw n k) - val (xw n k) * val (xw n k)) = 0; rw [Int.sub_self, Int.mul_zero]
    rw [e]
    exact ⟨Int.le_refl _, Int.le_refl _⟩
  | j + 1 => by
    obtain ⟨h1, h2⟩ := between_sums h0 j
    show lowS a n k j + _ ≤ val a * (val (xw n (k + j + 1)) * val (xw n (k + j + 1)) - _) ∧ _ ≤ highS a n k j + _
    generalize val (xw n (k + j + 1)) = y at *
    generalize val (xw n (k + j)) = x at *
    generalize val (xw n k) = z at *
    generalize val a = A at *
    have sq := Int.mul_nonneg h0 (self_nonneg (y - x))
    have e1 : A * (y * y - z * z) = A * (x * x - z * z) + 2 * A * x * (y - x) + A * ((y - x) * (y - x)) := by grind
    have e2 : A * (y * y - z * z) + A * ((y - x) * (y - x)) = A * (x * x - z * z) + 2 * A * y * (y - x) := by grind
    constructor
    · omega
    · omega
/-- How far the sums are apart. -/
theorem apart_sums (h0 : 0 ≤ val a) (hp : ∀ i, i ≤ n → PtN n i) : ∀ j, k + j ≤ n → (n : Int) * n * (highS a n k j - lowS a n k j) ≤ j * (2 * val a * ((SS + 2 * (n * gG)) * (SS + 2 * (n * gG))))
  | 0, _ => by
    show (n : Int) * n * (0 - 0) ≤ ((0 : Nat) : Int) * _
    rw [Int.sub_self, Int.mul_zero, show ((0 : Nat) : Int) = 0 from rfl, Int.zero_mul]; exact Int.le_refl _
  | j + 1, hj => by
    have ih := apart_sums h0 hp j (by omega)
    have p := hp (k + j) (by omega)
    have q := hp (k + j + 1) (by omega)
    have p1 := p.above
    have p2 := p.below
    have q1 := q.above
    have q2 := q.below
    have e3 : ((k + j + 1 : Nat) : Int) * SS = ((k + j : Nat) : Int) * SS + SS := by rw [Int.natCast_add (k + j) 1, Int.add_mul]; show _ + 1 * SS = _; rw [Int.one_mul]
    rw [e3] at q1 q2
    show (n : Int) * n * (highS a n k j + _ - (lowS a n k j + _)) ≤ _
    rw [Int.natCast_add j 1, Int.add_mul]
    show _ ≤ _ + 1 * _
    rw [Int.one_mul]
    have g0 := Int.mul_nonneg (Int.natCast_nonneg n) (Int.le_of_lt gG_pos)
    have s0 := SS0
    generalize val (xw n (k + j + 1)) = y at *
    generalize val (xw n (k + j)) = x at *
    generalize val a = A at *
    generalize ((k + j : Nat) : Int) * SS = z at *
    generalize (n : Int) = m at *
    generalize SS = S at *
    generalize m * gG = g at *
    have d1 : (y - x) * m ≤ S + 2 * g := by rw [Int.sub_mul]; omega
    have d2 : -(S + 2 * g) ≤ (y - x) * m := by rw [Int.sub_mul]; omega
    have key : ((y - x) * m) * ((y - x) * m) ≤ (S + 2 * g) * (S + 2 * g) := by
      have := Int.mul_nonneg (by omega : 0 ≤ S + 2 * g - (y - x) * m) (by omega : 0 ≤ S + 2 * g + (y - x) * m)
      have e : (S + 2 * g - (y - x) * m) * (S + 2 * g + (y - x) * m) = (S + 2 * g) * (S + 2 * g) - ((y - x) * m) * ((y - x) * m) := by grind
      omega
    have key2 := Int.mul_le_mul_of_nonneg_left key (by omega : 0 ≤ 2 * A)
    generalize highS _ _ _ _ = H at *
    generalize lowS _ _ _ _ = L at *
    have e4 : m * m * (H + 2 * A * y * (y - x) - (L + 2 * A * x * (y - x))) = m * m * (H - L) + 2 * A * (((y - x) * m) * ((y - x) * m)) := by grind
    omega
end
end Go.Proofs.Ytoocmocaelcbkaa

namespace Go.Proofs.Ytoocmocaelcbkaa
open Go.RowKit

section
variable {a n k j : Nat}
theorem end_ss (hn : 1 ≤ n) (hn' : n < 65) : val (xw n n) = SS := by
  rcases one_ok n hn' with e | e
  · omega
  · rw [e, u1_ss]
theorem cap_has {x : Nat} (ia : In (oneR a) unI) (ix : In (oneR x) unI) : HasV (capR (oneR a) (oneR x)) (SS * SS * SS) (val a * (SS * SS - val x * val x)) := by
  have h1 := HasV.sqr ix.fit (HasV.one x) (sqr_fit1 ix).e
  have h2 := HasV.sub u1_fit (sqr_fit1 ix) (HasV.one u1) h1 (left_fit ix).e
  rw [u1_ss] at h2
  have h3 : HasV (subR (oneR u1) (sqrR (oneR x))) (SS * SS) (SS * SS - val x * val x) := HasV.drop (Int.mul_pos SS0 SS0) SS0 (h2.turn (by grind) (by grind))
  exact (HasV.mul ia.fit (left_fit ix) (HasV.one a) h3 (cap_fit ia ix).e).turn (by grind) rfl
theorem un_le {x : Nat} (h : In (oneR x) unI) : val x ≤ SS := by have := h.hi; rw [← u1_ss]; exact this
theorem ring_bounds (ia : In (oneR a) unI) (hn : 1 ≤ n) (hn' : n < 65) (hj : k + j = n) :
    val (lowN a n k j).lo ≤ val (capR (oneR a) (oneR (xw n k))).hi ∧ val (capR (oneR a) (oneR (xw n k))).lo ≤ val (highN a n k j).hi ∧ val (lowN a n k j).lo ≤ val (highN a n k j).hi ∧ 0 ≤ val (highN a n k j).hi ∧
      (n : Int) * (val (highN a n k j).hi - val (lowN a n k j).lo) ≤ 2 * val a + n * (10 * gG + 2 * wTop) := by
  have hp : ∀ i, i ≤ n → PtN n i := fun i hi => pt_any hn hn' hi
  have b := between_sums (a := a) (n := n) (k := k) ia.nonneg j
  have e0 : val (oneR a).lo = val a := rfl
  rw [hj, end_ss hn hn'] at b
  have ix := (hp k (by omega)).un
  have H := high_has (k := k) ia hp j (by omega) (by omega)
  have L := low_has (k := k) ia hp j (by omega) (by omega)
  have P := cap_has ia ix
  have xs := un_le ix
  have x0 := ix.nonneg
  have a0 : 0 ≤ val a := ia.nonneg
  have fs := un_le ia
  have X0 : 0 ≤ val (xw n k) := x0
  have hm : 0 ≤ val a * (SS * SS - val (xw n k) * val (xw n k)) := by
    have := Int.mul_nonneg a0 (Int.mul_nonneg (by omega : 0 ≤ SS - val (xw n k)) (by omega : 0 ≤ SS + val (xw n k)))
    have e : (SS - val (xw n k)) * (SS + val (xw n k)) = SS * SS - val (xw n k) * val (xw n k) := by grind
    rw [e] at this; exact this
  have s0 := SS0
  have p0 := sss
  refine ⟨has_le L P b.1, has_le P H b.2, has_le L H (Int.le_trans b.1 b.2), ?_, ?_⟩
  · have h := H.high
    have h2 := Int.mul_nonneg (Int.le_trans hm b.2) (Int.le_of_lt s0)
    by_cases g : 0 ≤ val (highN a n k j).hi
    · exact g
    · have := Int.mul_neg_of_neg_of_pos (by omega : val (highN a n k j).hi < 0) p0
      omega
  · have wl := (low_snd (k := k) ia hp j (by omega) (by omega)).wid.wide
    have wh := (high_snd (k := k) ia hp j (by omega) (by omega)).wid.wide
    have ww := bs_w j (by omega)
    have A := apart_sums (a := a) (n := n) (k := k) a0 hp j (by omega)
    have g0 := gG_pos
    have gs := gG_ss
    have jn : (j : Int) ≤ n := by omega
    have n0 : (0 : Int) < n := by omega
    have n64 : (n : Int) ≤ 64 := by omega
    have l1 := L.low
    have l2 := L.high
    have h1 := H.low
    generalize val (lowN a n k j).lo = lo at *
    generalize val (lowN a n k j).hi = lh at *
    generalize val (highN a n k j).lo = hl at *
    generalize val (highN a n k j).hi = hi at *
    generalize highS a n k j = Hs at *
    generalize lowS a n k j = Ls at *
    generalize (bSm j).w = w at *
    clear b hp ix P L H hm e0
    generalize val a = A0 at *
    generalize wTop = W at *
    have x1 : (n : Int) * gG ≤ 64 * gG := Int.mul_le_mul_of_nonneg_right n64 (Int.le_of_lt g0)
    have xg : 0 ≤ (n : Int) * gG := Int.mul_nonneg (by omega) (Int.le_of_lt g0)
    generalize hx : (n : Int) * gG = x at *
    generalize (n : Int) = m at *
    -- the sums' distance
    have q1 : (SS + 2 * x) * (SS + 2 * x) ≤ SS * SS + 5 * (x * SS) := by
      have := Int.mul_le_mul_of_nonneg_left (by omega : 4 * x ≤ SS) xg
      have e : (SS + 2 * x) * (SS + 2 * x) = SS * SS + 4 * (x * SS) + x * (4 * x) := by grind
      omega
    have sq := self_nonneg (SS + 2 * x)
    generalize (SS + 2 * x) * (SS + 2 * x) = Q at *
    have aq : 0 ≤ 2 * A0 * Q := Int.mul_nonneg (by omega) sq
    have A1 : m * (m * (Hs - Ls)) ≤ m * (2 * A0 * Q) := by
      have := Int.mul_le_mul_of_nonneg_right jn aq
      rw [← Int.mul_assoc]; omega
    have A2 : m * (Hs - Ls) ≤ 2 * A0 * Q := Int.le_of_mul_le_mul_left A1 n0
    have A3 : 2 * A0 * Q ≤ 2 * A0 * (SS * SS + 5 * (x * SS)) := Int.mul_le_mul_of_nonneg_left q1 (by omega)
    have A4 : A0 * (x * SS) ≤ SS * (x * SS) := Int.mul_le_mul_of_nonneg_right fs (Int.mul_nonneg xg (Int.le_of_lt s0))
    have A5 : m * (Hs - Ls) ≤ 2 * A0 * (SS * SS) + 10 * (SS * (x * SS)) := by
      have e : 2 * A0 * (SS * SS + 5 * (x * SS)) = 2 * A0 * (SS * SS) + 10 * (A0 * (x * SS)) := by grind
      omega
    have A6 := Int.mul_le_mul_of_nonneg_right A5 (Int.le_of_lt s0)
    have e6 : (2 * A0 * (SS * SS) + 10 * (SS * (x * SS))) * SS = (2 * A0 + 10 * x) * (SS * SS * SS) := by grind
    rw [e6] at A6
    -- the words' distance
    generalize SS * SS * SS = P at *
    have k1 := Int.mul_le_mul_of_nonneg_right (by omega : lh ≤ lo + W) (Int.le_of_lt p0)
    have k2 := Int.mul_le_mul_of_nonneg_right (by omega : hi ≤ hl + W) (Int.le_of_lt p0)
    have k3 : (hi - lo) * P ≤ (Hs - Ls) * SS + 2 * (W * P) := by
      rw [Int.add_mul] at k1 k2
      rw [Int.sub_mul, Int.sub_mul]
      omega
    have k4 := Int.mul_le_mul_of_nonneg_left k3 (Int.le_of_lt n0)
    refine Int.le_of_mul_le_mul_right ?_ p0
    have e7 : m * (hi - lo) * P = m * ((hi - lo) * P) := by grind
    have e8 : m * ((Hs - Ls) * SS + 2 * (W * P)) = m * (Hs - Ls) * SS + m * (2 * (W * P)) := by grind
    have e9 : (2 * A0 + m * (10 * gG + 2 * W)) * P = (2 * A0 + 10 * x) * P + m * (2 * (W * P)) := by grind
    rw [e7, e9]
    omega
end

/-- The words that the law compares. -/
theorem sub_small2 {a b y0 : Nat} (ha : a < 18446744073709551616) (hb : b < 18446744073709551616) (ra : rightB a = true) (rb : rightB b = true) (pa : 0 ≤ val a) (hab : val b ≤ val a) (ly : y0 < 18446744073709551616) (ry : rightB y0 = true) (hy : val a - val b ≤ val y0) :
    ∃ r, floatBits .sub .f64 a b = some r ∧ r < 18446744073709551616 ∧ rightB r = true ∧ 0 ≤ val r ∧ val r ≤ val y0 := by
  have sa := plain_sgn ha ra pa
  obtain ⟨r, h1, h2⟩ := sub_beside a b ha hb ra rb
  obtain ⟨n1, n2, n3, n4⟩ := near_between (x0 := 0) (y0 := y0) (by decide) (sub_down a b ra rb) (sub_up a b ra rb) h2 (by decide) (by decide) (by rw [v00]; omega) ly ry (by omega)
  rw [v00] at n3
  have h3 : ((Ieee.double.read a).sum (Ieee.double.read b).opposite).map Ieee.double.write = some r := h1
  rw [read_num a ha (right_rung a ra), read_num b hb (right_rung b rb)] at h3
  exact ⟨r, h1, n1, word_right (sum_plain (sgnB a) (!sgnB b) a b (expo_in a ra).1 (expo_in b rb).1 (by rw [sa]; rfl) (by rw [neg_sg, ← val_sg, ← val_sg]; omega) r h3) n2, n3, n4⟩
theorem add_gap {a b : Nat} (ha : a < 18446744073709551616) (hb : b < 18446744073709551616) (ra : rightB a = true) (rb : rightB b = true) (pa : 0 ≤ val a) (pb : 0 ≤ val b) (hy : val a + val b < 4 * SS) :
    ∃ r, floatBits .add .f64 a b = some r ∧ r < 18446744073709551616 ∧ rightB r = true ∧ val a + val b ≤ val r + 2 * gG := by
  have e4 : val 4616189618054758400 = 4 * SS := by decide +kernel
  obtain ⟨r, h1, h2, h3, h4, h5⟩ := add_near ha hb ra rb pa pb (y0 := 4616189618054758400) (by decide) (by decide) (by rw [e4]; omega)
  obtain ⟨r', k1, hB⟩ := add_beside a b ha hb ra rb
  obtain rfl : r = r' := by
    have : some r = some r' := h1.symm.trans k1
    simpa using this
  have g0 := gG_pos
  have g1 : ((2 ^ (gK + 1) : Nat) : Int) = 2 * gG := by
    unfold gG
    rw [Nat.pow_succ, Nat.mul_comm]; exact Int.natCast_mul _ _
  have top : 9007199254740992 * (2 * gG) = 4 * SS := by have := gG_ss; omega
  refine ⟨r, h1, h2, h3, ?_⟩
  rcases add_down a b ra rb with D | ⟨_, _, D⟩
  · rcases add_up a b ra rb with U | ⟨_, _, U⟩
    · obtain ⟨_, _, hv⟩ := hB _ _ (Or.inl ⟨rfl, D.2⟩) (Or.inl ⟨rfl, U.2⟩)
      have d1 := D.2.2.2.1
      have u1' := U.2.2.2.1
      rcases hv with e | e
      · rw [e]
        have d0 := D.2.2.2.2 0 (by decide) (by decide) (by rw [v00]; omega)
        rw [v00] at d0
        have := down_gap (k := gK + 1) (by decide) (by decide) (by decide) (Or.inl ⟨rfl, D.2⟩ : Down 1 _ _ 0) (by rw [g1]; omega) (by rw [g1]; omega)
        rw [g1] at this
        omega
      · rw [e]; omega
    · exact absurd (U 4616189618054758400 (by decide) (by decide)) (by rw [e4]; omega)
  · exact absurd (D 0 (by decide) (by decide)) (by rw [v00]; omega)
def nil2Ok (n : Nat) : Bool := floatBits .quo .f64 0 (floatOfInt .f64 (n : Int)) == some 0
theorem nil2_ok : ∀ n, n < 65 → (n = 0 ∨ nil2Ok n = true) := by decide +kernel
theorem small_c : val 4472074429978902528 < 2 * SS ∧ 13 * gG + 2 * wTop ≤ val 4472074429978902528 ∧ 0 ≤ val 4472074429978902528 := by decide +kernel
theorem least38 : val 4436045632957546496 * 64 ≤ val 4463067230724161536 ∧ 0 < val 4436045632957546496 := by decide +kernel

/-- Twice the albedo, by the number of rings. -/
theorem by_rings {f n : Nat} (i : In (oneR f) unI) (h0 : f = 0 ∨ val 4458563631096791040 ≤ val f) (hn : 1 ≤ n) (hn' : n < 65) :
    ∃ e g, floatBits .mul .f64 f 4611686018427387904 = some e ∧ floatBits .quo .f64 e (floatOfInt .f64 (n : Int)) = some g ∧ g < 18446744073709551616 ∧ rightB g = true ∧ 0 ≤ val g ∧ val g ≤ 2 * SS ∧ 2 * val f ≤ val g * n + gG * n := by
  have s0 := SS0
  have g0 := gG_pos
  rcases h0 with rfl | h0
  · rcases nil2_ok n hn' with e | e
    · omega
    · unfold nil2Ok at e
      refine ⟨0, 0, by decide +kernel, by simpa using e, by decide, by decide, ?_, ?_, ?_⟩
      · rw [v00]; omega
      · rw [v00]; omega
      · rw [v00]
        have := Int.mul_nonneg (Int.le_of_lt g0) (Int.natCast_nonneg n)
        omega
  · have f0 : 0 < val 4458563631096791040 := by decide +kernel
    have fi := un_le i
    obtain ⟨w1, w2⟩ := word_pos i.fit.lo i.fit.rlo (by show 0 ≤ val f; omega)
    have w1 : f < 9218868437227405312 := w1
    have w2 : val f = (steps f : Int) := w2
    have b1 := (pos_facts 4458563631096791040 (by decide)).2.2.2.2
    have b2 := (pos_facts u1 (by decide)).2.2.2.2
    have u0 := u1_ss
    have t1 : 4458563631096791040 ≤ f := (steps_le_iff _ _).1 (by omega)
    have t2 : f ≤ u1 := (steps_le_iff _ _).1 (by omega)
    have hu : u1 = 4607182418800017408 := rfl
    have e1 : (steps (f + 4503599627370496) : Int) = 2 * val f := by rw [steps_twice (by omega), w2]; exact Int.natCast_mul 2 _
    obtain ⟨a1, a2⟩ := from_int n (by omega)
    have eb : ((steps (FloatKind.f64.nearest (n : Int)) : Nat) : Int) = (n : Int) * SS := by rw [a2, Int.natCast_mul, ss_eq]
    have hb0 : FloatKind.f64.nearest (n : Int) ≠ 0 := fun e => by
      rw [e] at a2
      have : steps 0 = 0 := rfl
      rw [this] at a2
      have hp : 0 < n * 2 ^ sq := Nat.mul_pos (by omega) (Nat.two_pow_pos _)
      omega
    have b3 : val 4463067230724161536 = 2 * val 4458563631096791040 := by decide +kernel
    have l := least38
    have n64 : (n : Int) ≤ 64 := by omega
    have n1 : (1 : Int) ≤ n := by omega
    have v2 : val 4611686018427387904 = 2 * SS := by decide +kernel
    obtain ⟨g, q1, q2, q3, q4, q5, q6, q7⟩ := quo_gap (a := f + 4503599627370496) (by omega) a1 hb0 (x0 := 4436045632957546496) (y0 := 4611686018427387904) (by decide) l.2 (by
      rw [e1, eb]
      have t3 : val 4436045632957546496 * ((n : Int) * SS) ≤ val 4436045632957546496 * (64 * SS) := Int.mul_le_mul_of_nonneg_left (Int.mul_le_mul_of_nonneg_right n64 (Int.le_of_lt s0)) (Int.le_of_lt l.2)
      have t4 : val 4436045632957546496 * (64 * SS) = val 4436045632957546496 * 64 * SS := by grind
      have t5 := Int.mul_le_mul_of_nonneg_right (by omega : val 4436045632957546496 * 64 ≤ 2 * val f) (Int.le_of_lt s0)
      omega) (by decide) (by
      rw [e1, eb, v2]
      have t3 := Int.mul_le_mul_of_nonneg_right (by omega : 2 * val f ≤ 2 * SS) (Int.le_of_lt s0)
      have t4 := Int.mul_le_mul_of_nonneg_left (Int.mul_le_mul_of_nonneg_right n1 (Int.le_of_lt s0)) (by omega : 0 ≤ 2 * SS)
      rw [Int.one_mul] at t4
      omega) (by rw [v2]; exact Int.le_refl _)
    refine ⟨f + 4503599627370496, g, mul_two (by omega) (by omega), q1, q2, q3, by omega, by rw [← v2]; exact q5, ?_⟩
    rw [e1, eb] at q7
    refine Int.le_of_mul_le_mul_right ?_ s0
    have e2 : (val g * (n : Int) + gG * (n : Int)) * SS = val g * ((n : Int) * SS) + gG * ((n : Int) * SS) := by grind
    rw [e2]; exact q7
theorem law_words {f n lo hi : Nat} (i : In (oneR f) unI) (h0 : f = 0 ∨ val 4458563631096791040 ≤ val f) (hn : 1 ≤ n) (hn' : n < 65) (ll : lo < 18446744073709551616) (lh : hi < 18446744073709551616) (rl : rightB lo = true) (rh : rightB hi = true)
    (h1 : 0 ≤ val hi) (h2 : val lo ≤ val hi) (h3 : (n : Int) * (val hi - val lo) ≤ 2 * val f + n * (10 * gG + 2 * wTop)) :
    ∃ e g s d, floatBits .mul .f64 f 4611686018427387904 = some e ∧ floatBits .quo .f64 e (floatOfInt .f64 (n : Int)) = some g ∧ floatBits .add .f64 g 4472074429978902528 = some s ∧ floatBits .sub .f64 hi lo = some d ∧
      ((FloatKind.f64.format.order d s == some Ordering.lt) || (FloatKind.f64.format.order d s == some Ordering.eq)) = true := by
  obtain ⟨e, g, m1, m2, g1, g2, g3, g4, g5⟩ := by_rings i h0 hn hn'
  obtain ⟨c1, c2, c3⟩ := small_c
  obtain ⟨s, s1, s2, s3, s4⟩ := add_gap g1 (by decide : (4472074429978902528 : Nat) < 18446744073709551616) g2 (by decide) g3 c3 (by omega)
  have g0 := gG_pos
  have n0 : (0 : Int) < n := by omega
  have key : val hi - val lo ≤ val s := by
    refine Int.le_of_mul_le_mul_left ?_ n0
    have t1 := Int.mul_le_mul_of_nonneg_left (by omega : val g + (11 * gG + 2 * wTop) ≤ val s) (Int.le_of_lt n0)
    have e1 : (n : Int) * (val g + (11 * gG + 2 * wTop)) = val g * n + gG * n + n * (10 * gG + 2 * wTop) := by grind
    omega
  obtain ⟨d, d1, d2, d3, d4, d5⟩ := sub_small2 lh ll rh rl h1 h2 s2 s3 key
  exact ⟨e, g, s, d, m1, m2, s1, d1, (order_le d s d2 s2 d3 s3).trans (decide_eq_true d5)⟩
theorem near_int (n : Nat) : floatOfInt .f64 (n : Int) = FloatKind.f64.nearest (n : Int) := rfl
end Go.Proofs.Ytoocmocaelcbkaa

namespace Go.Proofs.Ytoocmocaelcbkaa
open Go.RowKit
attribute [local go_sem] run_store_float

/-- The first three of a row, put otherwise. -/
theorem Own.perm {B v : World} {l k : RowL} (h : Own B l v) (hk : ∀ x, x ∈ k → x ∈ l) (hp : k.Pairwise (fun x y => x.1 ≠ y.1)) : Own B k v := ⟨h.base, fun x hx => h.blocks x (hk x hx), hp⟩
theorem Own.third {B v : World} {a b c : Nat × Array Value} {l : RowL} (h : Own B (a :: b :: c :: l) v) : Own B (a :: c :: b :: l) v := h.under

section
variable {P : Program} {ops : Array Oper} {Q : Exit → Act → World → Prop} {md : Region.Mode} {S : World → Prop}
theorem lp_ccppp_1 {a0 : Act} {B v : World} {l : List (Nat × Array Value)} (_ : Hid (Own B l v)) {w0 : World} {L0 : Array Bool} (c1 c2 c3 c4 c5 m1 : Nat) (slots : List Nat) (N : Nat) (J : List (Nat × Array Value) → Act → Nat → List (Option Nat) → Act → World → Prop) (hok : latOkP [false, false, true, true, true] md ops L0 [c1, c2, c3, c4, c5] [m1] = true)
    (hsl : (slots.all fun s => decide (s < a0.tmps.size)) = true) (h0 : ∀ A : Act, (∀ s, s ∈ slots → s < A.tmps.size) → J l A 0 (List.replicate 1 none) A w0)
    (hS : ∀ k p a w, J l a0 k p a w → S w)
    (k1 : ∀ p a w, J l a0 0 p a w → wpOp P ops Q c1 (fun b v => J l a0 1 p b v) a w)
    (k2 : ∀ p a w, J l a0 1 p a w → wpOp P ops Q c2 (fun b v => J l a0 2 p b v) a w)
    (k3 : ∀ p a w, J l a0 2 p a w → ∃ o x, ops[c3]? = some o ∧ YieldsIf P ops S o x a ∧ (∀ c a w, Q (.panic c) (a.put o.dst x) w → Q (.panic c) a w) ∧ J l a0 3 p (a.put o.dst x) w)
    (k4 : ∀ p a w, J l a0 3 p a w → ∃ o x, ops[c4]? = some o ∧ YieldsIf P ops S o x a ∧ (∀ c a w, Q (.panic c) (a.put o.dst x) w → Q (.panic c) a w) ∧ J l a0 4 p (a.put o.dst x) w)
    (k5 : ∀ p a w, J l a0 4 p a w → ∃ o x, ops[c5]? = some o ∧ YieldsIf P ops S o x a ∧ (∀ c a w, Q (.panic c) (a.put o.dst x) w → Q (.panic c) a w) ∧ J l a0 5 p (a.put o.dst x) w)
    (n1 : ∀ k p a w, p[0]? = some none → J l a0 k p a w → wpOp P ops Q m1 (fun b v => ∃ q, J l a0 k (p.set 0 (some q)) b v) a w)
    (fin : ∀ q1 a w, J l a0 5 [some q1] a w → wpAnyV P md ops Q S [] N (lstOf L0 [c1, c2, c3, c4, c5] [m1] 5 [true]) a w) :
    wpAnyV P md ops Q S [] (N + 6) L0 a0 w0 := by
  refine latP_from (pl := [false, false, true, true, true]) [c1, c2, c3, c4, c5] [m1] slots N 6 (J l) hok rfl hsl h0 hS (fun k i p a w hk hn hJ => ?_) (fun k i p a w hk hn hJ => ?_) (fun k m i p a w hm hp hJ => ?_) (fun p a w hp hall hJ => ?_)
  · rcases k with _ | _ | _ | _ | _ | k
    · obtain rfl : c1 = i := by simpa using hk
      exact k1 p a w hJ
    · obtain rfl : c2 = i := by simpa using hk
      exact k2 p a w hJ
    · exact absurd hn (by decide)
    · exact absurd hn (by decide)
    · exact absurd hn (by decide)
    · simp at hk
  · rcases k with _ | _ | _ | _ | _ | k
    · exact absurd hn (by decide)
    · exact absurd hn (by decide)
    · obtain rfl : c3 = i := by simpa using hk
      exact k3 p a w hJ
    · obtain rfl : c4 = i := by simpa using hk
      exact k4 p a w hJ
    · obtain rfl : c5 = i := by simpa using hk
      exact k5 p a w hJ
    · simp at hk
  · rcases m with _ | m
    · obtain rfl : m1 = i := by simpa using hm
      exact n1 k p a w hp hJ
    · simp at hm
  · obtain ⟨q1, rfl⟩ := fin_one hp hall
    exact fin q1 a w hJ
theorem lpx_cccc_1 {a0 : Act} {B v : World} {l : List (Nat × Array Value)} {x : Nat × Array Value} (_ : Hid (Own B (x :: l) v)) {w0 : World} {L0 : Array Bool} (c1 c2 c3 c4 m1 : Nat) (slots : List Nat) (N : Nat) (J : List (Nat × Array Value) → Act → Nat → List (Option Nat) → Act → World → Prop) (hok : latOkP [false, false, false, false] md ops L0 [c1, c2, c3, c4] [m1] = true)
    (hsl : (slots.all fun s => decide (s < a0.tmps.size)) = true) (h0 : ∀ A : Act, (∀ s, s ∈ slots → s < A.tmps.size) → J l A 0 (List.replicate 1 none) A w0)
    (hS : ∀ k p a w, J l a0 k p a w → S w)
    (k1 : ∀ p a w, J l a0 0 p a w → wpOp P ops Q c1 (fun b v => J l a0 1 p b v) a w)
    (k2 : ∀ p a w, J l a0 1 p a w → wpOp P ops Q c2 (fun b v => J l a0 2 p b v) a w)
    (k3 : ∀ p a w, J l a0 2 p a w → wpOp P ops Q c3 (fun b v => J l a0 3 p b v) a w)
    (k4 : ∀ p a w, J l a0 3 p a w → wpOp P ops Q c4 (fun b v => J l a0 4 p b v) a w)
    (n1 : ∀ k p a w, p[0]? = some none → J l a0 k p a w → wpOp P ops Q m1 (fun b v => ∃ q, J l a0 k (p.set 0 (some q)) b v) a w)
    (fin : ∀ q1 a w, J l a0 4 [some q1] a w → wpAnyV P md ops Q S [] N (lstOf L0 [c1, c2, c3, c4] [m1] 4 [true]) a w) :
    wpAnyV P md ops Q S [] (N + 5) L0 a0 w0 := by
  refine latP_from (pl := [false, false, false, false]) [c1, c2, c3, c4] [m1] slots N 5 (J l) hok rfl hsl h0 hS (fun k i p a w hk hn hJ => ?_) (fun k i p a w hk hn hJ => ?_) (fun k m i p a w hm hp hJ => ?_) (fun p a w hp hall hJ => ?_)
  · rcases k with _ | _ | _ | _ | k
    · obtain rfl : c1 = i := by simpa using hk
      exact k1 p a w hJ
    · obtain rfl : c2 = i := by simpa using hk
      exact k2 p a w hJ
    · obtain rfl : c3 = i := by simpa using hk
      exact k3 p a w hJ
    · obtain rfl : c4 = i := by simpa using hk
      exact k4 p a w hJ
    · simp at hk
  · rcases k with _ | _ | _ | _ | k
    · exact absurd hn (by decide)
    · exact absurd hn (by decide)
    · exact absurd hn (by decide)
    · exact absurd hn (by decide)
    · simp at hk
  · rcases m with _ | m
    · obtain rfl : m1 = i := by simpa using hm
      exact n1 k p a w hp hJ
    · simp at hm
  · obtain ⟨q1, rfl⟩ := fin_one hp hall
    exact fin q1 a w hJ
end

/-- Region 4. -/
def rgJ4 (w : World) (xk cl ch : Nat) (l : RowL) (a0 : Act) (k : Nat) (p : List (Option Nat)) (a : Act) (v : World) : Prop :=
  ∃ y1 y2 y3 y4 y5 z1 : Value, a = ((((((a0.put (some 47) y1).put (some 48) y2).put (some 40) y3).put (some 49) y4).put (some 50) y5).put (some 12) z1) ∧ (0 < k → y1 = .agg #[.float .f64 xk, .float .f64 xk]) ∧ (1 < k → y2 = .tuple #[.agg #[.float .f64 cl, .float .f64 ch], .int .i64 0]) ∧ (2 < k → y3 = .tuple #[.agg #[.float .f64 cl, .float .f64 ch], .int .i64 0]) ∧ (3 < k → y4 = .agg #[.float .f64 cl, .float .f64 ch]) ∧ (4 < k → y5 = .int .i64 0) ∧ (∀ q, p[0]? = some (some q) → z1 = .pointer (some ⟨q, 0, none⟩)) ∧ OwnF w l [#[.float .f64 0, .float .f64 0]] p v
section
variable {w v : World} {xk cl ch : Nat} {l : RowL} {a0 a : Act} {p : List (Option Nat)}
theorem rgJ4_0 (h : rgJ4 w xk cl ch l a0 0 p a v) : ∃ y1 y2 y3 y4 y5 z1 : Value, a = ((((((a0.put (some 47) y1).put (some 48) y2).put (some 40) y3).put (some 49) y4).put (some 50) y5).put (some 12) z1) ∧ (∀ q, p[0]? = some (some q) → z1 = .pointer (some ⟨q, 0, none⟩)) ∧ OwnF w l [#[.float .f64 0, .float .f64 0]] p v := by
  obtain ⟨y1, y2, y3, y4, y5, z1, ha, E1, E2, E3, E4, E5, G1, h⟩ := h
  exact ⟨y1, y2, y3, y4, y5, z1, ha, G1, h⟩
theorem rgJ4_1 (h : rgJ4 w xk cl ch l a0 1 p a v) : ∃ y2 y3 y4 y5 z1 : Value, a = ((((((a0.put (some 47) (.agg #[.float .f64 xk, .float .f64 xk])).put (some 48) y2).put (some 40) y3).put (some 49) y4).put (some 50) y5).put (some 12) z1) ∧ (∀ q, p[0]? = some (some q) → z1 = .pointer (some ⟨q, 0, none⟩)) ∧ OwnF w l [#[.float .f64 0, .float .f64 0]] p v := by
  obtain ⟨y1, y2, y3, y4, y5, z1, ha, E1, E2, E3, E4, E5, G1, h⟩ := h
  obtain rfl := E1 (by decide)
  exact ⟨y2, y3, y4, y5, z1, ha, G1, h⟩
theorem rgJ4_2 (h : rgJ4 w xk cl ch l a0 2 p a v) : ∃ y3 y4 y5 z1 : Value, a = ((((((a0.put (some 47) (.agg #[.float .f64 xk, .float .f64 xk])).put (some 48) (.tuple #[.agg #[.float .f64 cl, .float .f64 ch], .int .i64 0])).put (some 40) y3).put (some 49) y4).put (some 50) y5).put (some 12) z1) ∧ (∀ q, p[0]? = some (some q) → z1 = .pointer (some ⟨q, 0, none⟩)) ∧ OwnF w l [#[.float .f64 0, .float .f64 0]] p v := by
  obtain ⟨y1, y2, y3, y4, y5, z1, ha, E1, E2, E3, E4, E5, G1, h⟩ := h
  obtain rfl := E1 (by decide)
  obtain rfl := E2 (by decide)
  exact ⟨y3, y4, y5, z1, ha, G1, h⟩
theorem rgJ4_3 (h : rgJ4 w xk cl ch l a0 3 p a v) : ∃ y4 y5 z1 : Value, a = ((((((a0.put (some 47) (.agg #[.float .f64 xk, .float .f64 xk])).put (some 48) (.tuple #[.agg #[.float .f64 cl, .float .f64 ch], .int .i64 0])).put (some 40) (.tuple #[.agg #[.float .f64 cl, .float .f64 ch], .int .i64 0])).put (some 49) y4).put (some 50) y5).put (some 12) z1) ∧ (∀ q, p[0]? = some (some q) → z1 = .pointer (some ⟨q, 0, none⟩)) ∧ OwnF w l [#[.float .f64 0, .float .f64 0]] p v := by
  obtain ⟨y1, y2, y3, y4, y5, z1, ha, E1, E2, E3, E4, E5, G1, h⟩ := h
  obtain rfl := E1 (by decide)
  obtain rfl := E2 (by decide)
  obtain rfl := E3 (by decide)
  exact ⟨y4, y5, z1, ha, G1, h⟩
theorem rgJ4_4 (h : rgJ4 w xk cl ch l a0 4 p a v) : ∃ y5 z1 : Value, a = ((((((a0.put (some 47) (.agg #[.float .f64 xk, .float .f64 xk])).put (some 48) (.tuple #[.agg #[.float .f64 cl, .float .f64 ch], .int .i64 0])).put (some 40) (.tuple #[.agg #[.float .f64 cl, .float .f64 ch], .int .i64 0])).put (some 49) (.agg #[.float .f64 cl, .float .f64 ch])).put (some 50) y5).put (some 12) z1) ∧ (∀ q, p[0]? = some (some q) → z1 = .pointer (some ⟨q, 0, none⟩)) ∧ OwnF w l [#[.float .f64 0, .float .f64 0]] p v := by
  obtain ⟨y1, y2, y3, y4, y5, z1, ha, E1, E2, E3, E4, E5, G1, h⟩ := h
  obtain rfl := E1 (by decide)
  obtain rfl := E2 (by decide)
  obtain rfl := E3 (by decide)
  obtain rfl := E4 (by decide)
  exact ⟨y5, z1, ha, G1, h⟩
theorem rgJ4_fin {q1 : Nat} (h : rgJ4 w xk cl ch l a0 5 [some q1] a v) : a = ((((((a0.put (some 47) (.agg #[.float .f64 xk, .float .f64 xk])).put (some 48) (.tuple #[.agg #[.float .f64 cl, .float .f64 ch], .int .i64 0])).put (some 40) (.tuple #[.agg #[.float .f64 cl, .float .f64 ch], .int .i64 0])).put (some 49) (.agg #[.float .f64 cl, .float .f64 ch])).put (some 50) (.int .i64 0)).put (some 12) (.pointer (some ⟨q1, 0, none⟩))) ∧ OwnF w l [#[.float .f64 0, .float .f64 0]] [some q1] v := by
  obtain ⟨y1, y2, y3, y4, y5, z1, ha, E1, E2, E3, E4, E5, G1, h⟩ := h
  obtain rfl := E1 (by decide)
  obtain rfl := E2 (by decide)
  obtain rfl := E3 (by decide)
  obtain rfl := E4 (by decide)
  obtain rfl := E5 (by decide)
  obtain rfl := G1 _ rfl
  exact ⟨ha, h⟩
end

/-- Region 5. -/
def rgJ5 (w : World) (zl zh : Nat) (l : RowL) (a0 : Act) (k : Nat) (p : List (Option Nat)) (a : Act) (v : World) : Prop :=
  ∃ y1 y2 y3 y4 y5 z1 : Value, a = ((((((a0.put (some 53) y1).put (some 54) y2).put (some 51) y3).put (some 55) y4).put (some 56) y5).put (some 14) z1) ∧ (0 < k → y1 = .agg #[.float .f64 0, .float .f64 0]) ∧ (1 < k → y2 = .tuple #[.agg #[.float .f64 zl, .float .f64 zh], .int .i64 0]) ∧ (2 < k → y3 = .tuple #[.agg #[.float .f64 zl, .float .f64 zh], .int .i64 0]) ∧ (3 < k → y4 = .agg #[.float .f64 zl, .float .f64 zh]) ∧ (4 < k → y5 = .int .i64 0) ∧ (∀ q, p[0]? = some (some q) → z1 = .pointer (some ⟨q, 0, none⟩)) ∧ OwnF w l [#[.float .f64 0, .float .f64 0]] p v
section
variable {w v : World} {zl zh : Nat} {l : RowL} {a0 a : Act} {p : List (Option Nat)}
theorem rgJ5_0 (h : rgJ5 w zl zh l a0 0 p a v) : ∃ y1 y2 y3 y4 y5 z1 : Value, a = ((((((a0.put (some 53) y1).put (some 54) y2).put (some 51) y3).put (some 55) y4).put (some 56) y5).put (some 14) z1) ∧ (∀ q, p[0]? = some (some q) → z1 = .pointer (some ⟨q, 0, none⟩)) ∧ OwnF w l [#[.float .f64 0, .float .f64 0]] p v := by
  obtain ⟨y1, y2, y3, y4, y5, z1, ha, E1, E2, E3, E4, E5, G1, h⟩ := h
  exact ⟨y1, y2, y3, y4, y5, z1, ha, G1, h⟩
theorem rgJ5_1 (h : rgJ5 w zl zh l a0 1 p a v) : ∃ y2 y3 y4 y5 z1 : Value, a = ((((((a0.put (some 53) (.agg #[.float .f64 0, .float .f64 0])).put (some 54) y2).put (some 51) y3).put (some 55) y4).put (some 56) y5).put (some 14) z1) ∧ (∀ q, p[0]? = some (some q) → z1 = .pointer (some ⟨q, 0, none⟩)) ∧ OwnF w l [#[.float .f64 0, .float .f64 0]] p v := by
  obtain ⟨y1, y2, y3, y4, y5, z1, ha, E1, E2, E3, E4, E5, G1, h⟩ := h
  obtain rfl := E1 (by decide)
  exact ⟨y2, y3, y4, y5, z1, ha, G1, h⟩
theorem rgJ5_2 (h : rgJ5 w zl zh l a0 2 p a v) : ∃ y3 y4 y5 z1 : Value, a = ((((((a0.put (some 53) (.agg #[.float .f64 0, .float .f64 0])).put (some 54) (.tuple #[.agg #[.float .f64 zl, .float .f64 zh], .int .i64 0])).put (some 51) y3).put (some 55) y4).put (some 56) y5).put (some 14) z1) ∧ (∀ q, p[0]? = some (some q) → z1 = .pointer (some ⟨q, 0, none⟩)) ∧ OwnF w l [#[.float .f64 0, .float .f64 0]] p v := by
  obtain ⟨y1, y2, y3, y4, y5, z1, ha, E1, E2, E3, E4, E5, G1, h⟩ := h
  obtain rfl := E1 (by decide)
  obtain rfl := E2 (by decide)
  exact ⟨y3, y4, y5, z1, ha, G1, h⟩
theorem rgJ5_3 (h : rgJ5 w zl zh l a0 3 p a v) : ∃ y4 y5 z1 : Value, a = ((((((a0.put (some 53) (.agg #[.float .f64 0, .float .f64 0])).put (some 54) (.tuple #[.agg #[.float .f64 zl, .float .f64 zh], .int .i64 0])).put (some 51) (.tuple #[.agg #[.float .f64 zl, .float .f64 zh], .int .i64 0])).put (some 55) y4).put (some 56) y5).put (some 14) z1) ∧ (∀ q, p[0]? = some (some q) → z1 = .pointer (some ⟨q, 0, none⟩)) ∧ OwnF w l [#[.float .f64 0, .float .f64 0]] p v := by
  obtain ⟨y1, y2, y3, y4, y5, z1, ha, E1, E2, E3, E4, E5, G1, h⟩ := h
  obtain rfl := E1 (by decide)
  obtain rfl := E2 (by decide)
  obtain rfl := E3 (by decide)
  exact ⟨y4, y5, z1, ha, G1, h⟩
theorem rgJ5_4 (h : rgJ5 w zl zh l a0 4 p a v) : ∃ y5 z1 : Value, a = ((((((a0.put (some 53) (.agg #[.float .f64 0, .float .f64 0])).put (some 54) (.tuple #[.agg #[.float .f64 zl, .float .f64 zh], .int .i64 0])).put (some 51) (.tuple #[.agg #[.float .f64 zl, .float .f64 zh], .int .i64 0])).put (some 55) (.agg #[.float .f64 zl, .float .f64 zh])).put (some 56) y5).put (some 14) z1) ∧ (∀ q, p[0]? = some (some q) → z1 = .pointer (some ⟨q, 0, none⟩)) ∧ OwnF w l [#[.float .f64 0, .float .f64 0]] p v := by
  obtain ⟨y1, y2, y3, y4, y5, z1, ha, E1, E2, E3, E4, E5, G1, h⟩ := h
  obtain rfl := E1 (by decide)
  obtain rfl := E2 (by decide)
  obtain rfl := E3 (by decide)
  obtain rfl := E4 (by decide)
  exact ⟨y5, z1, ha, G1, h⟩
theorem rgJ5_fin {q1 : Nat} (h : rgJ5 w zl zh l a0 5 [some q1] a v) : a = ((((((a0.put (some 53) (.agg #[.float .f64 0, .float .f64 0])).put (some 54) (.tuple #[.agg #[.float .f64 zl, .float .f64 zh], .int .i64 0])).put (some 51) (.tuple #[.agg #[.float .f64 zl, .float .f64 zh], .int .i64 0])).put (some 55) (.agg #[.float .f64 zl, .float .f64 zh])).put (some 56) (.int .i64 0)).put (some 14) (.pointer (some ⟨q1, 0, none⟩))) ∧ OwnF w l [#[.float .f64 0, .float .f64 0]] [some q1] v := by
  obtain ⟨y1, y2, y3, y4, y5, z1, ha, E1, E2, E3, E4, E5, G1, h⟩ := h
  obtain rfl := E1 (by decide)
  obtain rfl := E2 (by decide)
  obtain rfl := E3 (by decide)
  obtain rfl := E4 (by decide)
  obtain rfl := E5 (by decide)
  obtain rfl := G1 _ rfl
  exact ⟨ha, h⟩
end

/-- Region 9. -/
def rgJ9 (w : World) (pb : Nat) (ml mh al ah : Nat) (l : RowL) (a0 : Act) (k : Nat) (p : List (Option Nat)) (a : Act) (v : World) : Prop :=
  ∃ y1 y2 y3 y4 z1 : Value, a = (((((a0.put (some 77) y1).put (some 78) y2).put (some 79) y3).put (some 81) y4).put (some 17) z1) ∧ (0 < k → y1 = .agg #[.float .f64 4611686018427387904, .float .f64 4611686018427387904]) ∧ (1 < k → y2 = .agg #[.float .f64 4614256656552045848, .float .f64 4614256656552045849]) ∧ (2 < k → y3 = .agg #[.float .f64 ml, .float .f64 mh]) ∧ (3 < k → y4 = .agg #[.float .f64 al, .float .f64 ah]) ∧ (∀ q, p[0]? = some (some q) → z1 = .pointer (some ⟨q, 0, none⟩)) ∧ OwnF w ((pb, #[.int .i64 0]) :: l) [#[.float .f64 0, .float .f64 0]] p v
section
variable {w v : World} {pb : Nat} {ml mh al ah : Nat} {l : RowL} {a0 a : Act} {p : List (Option Nat)}
theorem rgJ9_0 (h : rgJ9 w pb ml mh al ah l a0 0 p a v) : ∃ y1 y2 y3 y4 z1 : Value, a = (((((a0.put (some 77) y1).put (some 78) y2).put (some 79) y3).put (some 81) y4).put (some 17) z1) ∧ (∀ q, p[0]? = some (some q) → z1 = .pointer (some ⟨q, 0, none⟩)) ∧ OwnF w ((pb, #[.int .i64 0]) :: l) [#[.float .f64 0, .float .f64 0]] p v := by
  obtain ⟨y1, y2, y3, y4, z1, ha, E1, E2, E3, E4, G1, h⟩ := h
  exact ⟨y1, y2, y3, y4, z1, ha, G1, h⟩
theorem rgJ9_1 (h : rgJ9 w pb ml mh al ah l a0 1 p a v) : ∃ y2 y3 y4 z1 : Value, a = (((((a0.put (some 77) (.agg #[.float .f64 4611686018427387904, .float .f64 4611686018427387904])).put (some 78) y2).put (some 79) y3).put (some 81) y4).put (some 17) z1) ∧ (∀ q, p[0]? = some (some q) → z1 = .pointer (some ⟨q, 0, none⟩)) ∧ OwnF w ((pb, #[.int .i64 0]) :: l) [#[.float .f64 0, .float .f64 0]] p v := by
  obtain ⟨y1, y2, y3, y4, z1, ha, E1, E2, E3, E4, G1, h⟩ := h
  obtain rfl := E1 (by decide)
  exact ⟨y2, y3, y4, z1, ha, G1, h⟩
theorem rgJ9_2 (h : rgJ9 w pb ml mh al ah l a0 2 p a v) : ∃ y3 y4 z1 : Value, a = (((((a0.put (some 77) (.agg #[.float .f64 4611686018427387904, .float .f64 4611686018427387904])).put (some 78) (.agg #[.float .f64 4614256656552045848, .float .f64 4614256656552045849])).put (some 79) y3).put (some 81) y4).put (some 17) z1) ∧ (∀ q, p[0]? = some (some q) → z1 = .pointer (some ⟨q, 0, none⟩)) ∧ OwnF w ((pb, #[.int .i64 0]) :: l) [#[.float .f64 0, .float .f64 0]] p v := by
  obtain ⟨y1, y2, y3, y4, z1, ha, E1, E2, E3, E4, G1, h⟩ := h
  obtain rfl := E1 (by decide)
  obtain rfl := E2 (by decide)
  exact ⟨y3, y4, z1, ha, G1, h⟩
theorem rgJ9_3 (h : rgJ9 w pb ml mh al ah l a0 3 p a v) : ∃ y4 z1 : Value, a = (((((a0.put (some 77) (.agg #[.float .f64 4611686018427387904, .float .f64 4611686018427387904])).put (some 78) (.agg #[.float .f64 4614256656552045848, .float .f64 4614256656552045849])).put (some 79) (.agg #[.float .f64 ml, .float .f64 mh])).put (some 81) y4).put (some 17) z1) ∧ (∀ q, p[0]? = some (some q) → z1 = .pointer (some ⟨q, 0, none⟩)) ∧ OwnF w ((pb, #[.int .i64 0]) :: l) [#[.float .f64 0, .float .f64 0]] p v := by
  obtain ⟨y1, y2, y3, y4, z1, ha, E1, E2, E3, E4, G1, h⟩ := h
  obtain rfl := E1 (by decide)
  obtain rfl := E2 (by decide)
  obtain rfl := E3 (by decide)
  exact ⟨y4, z1, ha, G1, h⟩
theorem rgJ9_fin {q1 : Nat} (h : rgJ9 w pb ml mh al ah l a0 4 [some q1] a v) : a = (((((a0.put (some 77) (.agg #[.float .f64 4611686018427387904, .float .f64 4611686018427387904])).put (some 78) (.agg #[.float .f64 4614256656552045848, .float .f64 4614256656552045849])).put (some 79) (.agg #[.float .f64 ml, .float .f64 mh])).put (some 81) (.agg #[.float .f64 al, .float .f64 ah])).put (some 17) (.pointer (some ⟨q1, 0, none⟩))) ∧ OwnF w ((pb, #[.int .i64 0]) :: l) [#[.float .f64 0, .float .f64 0]] [some q1] v := by
  obtain ⟨y1, y2, y3, y4, z1, ha, E1, E2, E3, E4, G1, h⟩ := h
  obtain rfl := E1 (by decide)
  obtain rfl := E2 (by decide)
  obtain rfl := E3 (by decide)
  obtain rfl := E4 (by decide)
  obtain rfl := G1 _ rfl
  exact ⟨ha, h⟩
end

/-- What a round begins with. -/
def RgRel (w : World) (pc pl ph : Nat) (Ll Lh Hl Hh : Nat → Nat) (K N : Nat) (rest : RowL) (i : Value) (v : World) : Prop :=
  ∃ I : Nat, K ≤ I ∧ I ≤ N ∧ i = .int .i64 (I : Int) ∧ Own w ((pc, #[.int .i64 0]) :: (pl, #[.float .f64 (Ll I), .float .f64 (Lh I)]) :: (ph, #[.float .f64 (Hl I), .float .f64 (Hh I)]) :: rest) v

set_option maxRecDepth 100000 in
set_option maxHeartbeats 16000000 in
theorem rings_law {u0 m0 k0 mr N K f vl vh xk cl ch zl zh ml mh al ah dd ee gq ss : Nat} {X wl wh pl ph tl th Ll Lh ql qh ul uh Hl Hh : Nat → Nat} (w : World)
    (hr : (m0 : Int) % 64 = (mr : Int)) (_hr0 : (0 : Int) ≤ mr) (_hr1 : (mr : Int) < 64) (hn : 1 + (mr : Int) = (N : Int)) (_hn1 : (1 : Int) ≤ N) (_hn2 : (N : Int) ≤ 64) (hk : (k0 : Int) % (N : Int) = (K : Int)) (hk1 : K < N) (hm0 : (m0 : Int) < 256) (hk0 : (k0 : Int) < 256)
    (c1 : Hid (∀ w, Calls Try.prog 47 #[.int .u32 u0] w fun r w' => r = .returned (.float .f64 f) ∧ w = w'))
    (c2 : Hid (∀ w, Calls Try.prog 46 #[.float .f64 f] w fun r w' => r = .returned (.agg #[.float .f64 f, .float .f64 f]) ∧ Below w.heap.size w w'))
    (c3 : Hid (∀ w, Calls Try.prog 48 #[.agg #[.float .f64 f, .float .f64 f]] w fun r w' => r = .returned (.tuple #[.agg #[.float .f64 vl, .float .f64 vh], .int .i64 0]) ∧ Below w.heap.size w w'))
    (q_xk : (∀ w, (binOp .quo 22 (.float .f64 (floatOfInt .f64 (K : Int))) (.float .f64 (floatOfInt .f64 (N : Int)))).run Try.prog w = .ok (.float .f64 xk) w))
    (c4 : Hid (∀ w, Calls Try.prog 46 #[.float .f64 xk] w fun r w' => r = .returned (.agg #[.float .f64 xk, .float .f64 xk]) ∧ Below w.heap.size w w'))
    (c5 : Hid (∀ w, Calls Try.prog 49 #[.agg #[.float .f64 f, .float .f64 f], .agg #[.float .f64 xk, .float .f64 xk]] w fun r w' => r = .returned (.tuple #[.agg #[.float .f64 cl, .float .f64 ch], .int .i64 0]) ∧ Below w.heap.size w w'))
    (c6 : Hid (∀ w, Calls Try.prog 46 #[.float .f64 0] w fun r w' => r = .returned (.agg #[.float .f64 0, .float .f64 0]) ∧ Below w.heap.size w w'))
    (c7 : Hid (∀ w, Calls Try.prog 49 #[.agg #[.float .f64 f, .float .f64 f], .agg #[.float .f64 0, .float .f64 0]] w fun r w' => r = .returned (.tuple #[.agg #[.float .f64 zl, .float .f64 zh], .int .i64 0]) ∧ Below w.heap.size w w'))
    (e_zl_f : (Op.floatEq .f64 zl f = true))
    (e_zh_f : (Op.floatEq .f64 zh f = true))
    (d8 : Hid (KN 28 0 0 4611686018427387904 4611686018427387904 4611686018427387904))
    (c9 : Hid (∀ w, Calls Try.prog 50 #[] w fun r w' => r = .returned (.agg #[.float .f64 4614256656552045848, .float .f64 4614256656552045849]) ∧ Below w.heap.size w w'))
    (d10 : Hid (K2 29 0 0 4611686018427387904 4611686018427387904 4614256656552045848 4614256656552045849 ml mh))
    (d11 : Hid (K2 29 0 0 ml mh vl vh al ah))
    (d12 : Hid (KN 28 0 0 0 0 0))
    (cX : Hid (∀ I, I ≤ N → ∀ w, Calls Try.prog 46 #[.float .f64 (X I)] w fun r w' => r = .returned (.agg #[.float .f64 (X I), .float .f64 (X I)]) ∧ Below w.heap.size w w'))
    (qX : Hid (∀ I : Nat, I ≤ N → ∀ w, (binOp .quo 22 (.float .f64 (floatOfInt .f64 (I : Int))) (.float .f64 (floatOfInt .f64 (N : Int)))).run Try.prog w = .ok (.float .f64 (X I)) w))
    (cW : Hid (∀ I, K ≤ I → I < N → K2 30 0 0 (X (I + 1)) (X (I + 1)) (X I) (X I) (wl I) (wh I)))
    (cP : Hid (∀ I, K ≤ I → I < N → K2 29 0 0 al ah (X I) (X I) (pl I) (ph I)))
    (cT : Hid (∀ I, K ≤ I → I < N → K2 29 0 0 (pl I) (ph I) (wl I) (wh I) (tl I) (th I)))
    (cL : Hid (∀ I, K ≤ I → I < N → K2 17 0 0 (Ll I) (Lh I) (tl I) (th I) (Ll (I + 1)) (Lh (I + 1))))
    (cQ : Hid (∀ I, K ≤ I → I < N → K2 29 0 0 al ah (X (I + 1)) (X (I + 1)) (ql I) (qh I)))
    (cU : Hid (∀ I, K ≤ I → I < N → K2 29 0 0 (ql I) (qh I) (wl I) (wh I) (ul I) (uh I)))
    (cH : Hid (∀ I, K ≤ I → I < N → K2 17 0 0 (Hl I) (Hh I) (ul I) (uh I) (Hl (I + 1)) (Hh (I + 1))))
    (o_leqLlN_ch : Hid (((FloatKind.f64.format.order (Ll N) ch == some Ordering.lt) || (FloatKind.f64.format.order (Ll N) ch == some Ordering.eq)) = true))
    (o_leqcl_HhN : Hid (((FloatKind.f64.format.order cl (Hh N) == some Ordering.lt) || (FloatKind.f64.format.order cl (Hh N) == some Ordering.eq)) = true))
    (q_dd : Hid (∀ w, (binOp .sub 22 (.float .f64 (Hh N)) (.float .f64 (Ll N))).run Try.prog w = .ok (.float .f64 dd) w))
    (q_ee : Hid (∀ w, (binOp .mul 22 (.float .f64 f) (.float .f64 4611686018427387904)).run Try.prog w = .ok (.float .f64 ee) w))
    (q_gq : Hid (∀ w, (binOp .quo 22 (.float .f64 ee) (.float .f64 (floatOfInt .f64 (N : Int)))).run Try.prog w = .ok (.float .f64 gq) w))
    (q_ss : Hid (∀ w, (binOp .add 22 (.float .f64 gq) (.float .f64 4472074429978902528)).run Try.prog w = .ok (.float .f64 ss) w))
    (o_leqdd_ss : Hid (((FloatKind.f64.format.order dd ss == some Ordering.lt) || (FloatKind.f64.format.order dd ss == some Ordering.eq)) = true))
    (c24 : Hid (∀ w, Calls Try.prog 51 #[] w fun r w' => r = .returned (.bool true) ∧ Below w.heap.size w w'))
    (hL0 : Hid (Ll K = 0 ∧ Lh K = 0 ∧ Hl K = 0 ∧ Hh K = 0)) :
    Calls Try.prog 10 #[.int .u32 u0, .int .u8 m0, .int .u8 k0] w fun r w' => r = .returned (.bool true) ∧ Below w.heap.size w w' := by
  have M := Lib.hid (Own.nil w)
  have eqF := eq_floats
  go_enter Try.func10, Try.ntmps10
  go_wp2_with fail
  refine (c1.out _).mono ?_
  rintro r w1_ ⟨rfl, rfl⟩
  go_wp2_with fail
  refine (c2.out _).mono ?_
  rintro r w2_ ⟨rfl, hb⟩
  replace M := Lib.hid (M.out.below hb)
  clear hb
  replace M := Lib.hid (M.out.made #[.float .f64 f, .float .f64 f] 24)
  go_wp2_with fail
  refine (c3.out _).mono ?_
  rintro r w3_ ⟨rfl, hb⟩
  replace M := Lib.hid (M.out.below hb)
  clear hb
  replace M := Lib.hid (M.out.made #[.float .f64 vl, .float .f64 vh] 24)
  go_upto_region 4 with fail
  replace M := Lib.hid M.out.drew
  refine wp_region_noPanic ?_
  refine tails_region (S := fun w' => (w'.cell? ⟨w2_.heap.size, 0, none⟩ = some (.float .f64 f) ∧ w'.cell? ⟨w2_.heap.size, 1, none⟩ = some (.float .f64 f))) [] (by kernel_rfl) ?_ (fun hS => ?_)
  · exact (M.out.nth 1 rfl).two
  refine tk (x := ?_) 0 rfl (by kernel_rfl) ⟨by rfl, ?_⟩ (fun _ _ _ h => h) hS ?_
  rotate_left; focus (intro w hSw; (try dsimp only at hSw); go_simp; try with_reducible rfl)
  refine tk (x := ?_) 1 rfl (by kernel_rfl) ⟨by rfl, ?_⟩ (fun _ _ _ h => h) hS ?_
  rotate_left; focus (intro w hSw; (try dsimp only at hSw); go_simp; try with_reducible rfl)
  refine tk (x := ?_) 2 rfl (by kernel_rfl) ⟨by rfl, ?_⟩ (fun _ _ _ h => h) hS ?_
  rotate_left; focus (intro w hSw; (try dsimp only at hSw); go_simp; try with_reducible rfl)
  refine tk (x := ?_) 3 rfl (by kernel_rfl) ⟨by rfl, ?_⟩ (fun _ _ _ h => h) hS ?_
  rotate_left; focus (intro w hSw; (try dsimp only at hSw); go_simp; try with_reducible rfl)
  refine tk (x := ?_) 4 rfl (by kernel_rfl) ⟨by rfl, ?_⟩ (fun _ _ _ h => h) hS ?_
  rotate_left; focus (intro w hSw; (try dsimp only at hSw); go_simp; try with_reducible rfl)
  refine tk (x := ?_) 5 rfl (by kernel_rfl) ⟨by rfl, ?_⟩ (fun _ _ _ h => h) hS ?_
  rotate_left; focus (intro w hSw; (try dsimp only at hSw); go_simp; try with_reducible rfl)
  conv => arg 9; simp only [Act.put, go_sem]
  refine lp_ccppp_1 M 6 7 8 9 10 11 [47, 48, 40, 49, 50, 12] 2 (rgJ4 w xk cl ch) (by kernel_rfl) (by kernel_rfl) ?_ ?_ ?_ ?_ ?_ ?_ ?_ ?_ ?_
  · intro A hA
    obtain ⟨y1, hq1⟩ := put_ex (hA 47 (by simp))
    obtain ⟨y2, hq2⟩ := put_ex (hA 48 (by simp))
    obtain ⟨y3, hq3⟩ := put_ex (hA 40 (by simp))
    obtain ⟨y4, hq4⟩ := put_ex (hA 49 (by simp))
    obtain ⟨y5, hq5⟩ := put_ex (hA 50 (by simp))
    obtain ⟨z1, hq6⟩ := put_ex (hA 12 (by simp))
    exact ⟨y1, y2, y3, y4, y5, z1, by rw [hq1, hq2, hq3, hq4, hq5, hq6], by omega, by omega, by omega, by omega, by omega, by simp, OwnF.start M.out 1⟩
  · rintro k p a v ⟨y1, y2, y3, y4, y5, z1, _, _, _, _, _, _, _, h⟩
    exact (h.own.nth 1 rfl).two
  · intro p a v hJ
    refine op_step (o := _) rfl (fun K hK => ?_)
    obtain ⟨y1, y2, y3, y4, y5, z1, ha, gg1, h⟩ := rgJ4_0 hJ
    have h := Lib.hid h
    clear hJ
    subst ha
    go_simp
    refine (c4.out _).mono ?_
    rintro rr w5 ⟨rfl, hp⟩
    try go_wp2_with fail
    refine hK.out _ _ ⟨_, y2, y3, y4, y5, z1, ?_, fun _ => rfl, by omega, by omega, by omega, by omega, gg1, h.out.below hp⟩
    kernel_rfl
  · intro p a v hJ
    refine op_step (o := _) rfl (fun K hK => ?_)
    obtain ⟨y2, y3, y4, y5, z1, ha, gg1, h⟩ := rgJ4_1 hJ
    have h := Lib.hid h
    clear hJ
    subst ha
    go_simp
    refine (c5.out _).mono ?_
    rintro rr w5 ⟨rfl, hp⟩
    try go_wp2_with fail
    refine hK.out _ _ ⟨_, _, y3, y4, y5, z1, ?_, fun _ => rfl, fun _ => rfl, by omega, by omega, by omega, gg1, h.out.below hp⟩
    kernel_rfl
  · intro p a v hJ
    obtain ⟨y3, y4, y5, z1, ha, gg1, h⟩ := rgJ4_2 hJ
    clear hJ
    subst ha
    refine ⟨_, .tuple #[.agg #[.float .f64 cl, .float .f64 ch], .int .i64 0], rfl, Or.inl ⟨by rfl, ?_⟩, (fun _ _ _ h => h), _, _, _, y4, y5, z1, ?_, fun _ => rfl, fun _ => rfl, fun _ => rfl, by omega, by omega, gg1, h⟩
    · intro w hSw; clear hSw h; go_simp; try with_reducible rfl
    · kernel_rfl
  · intro p a v hJ
    obtain ⟨y4, y5, z1, ha, gg1, h⟩ := rgJ4_3 hJ
    clear hJ
    subst ha
    refine ⟨_, .agg #[.float .f64 cl, .float .f64 ch], rfl, Or.inl ⟨by rfl, ?_⟩, (fun _ _ _ h => h), _, _, _, _, y5, z1, ?_, fun _ => rfl, fun _ => rfl, fun _ => rfl, fun _ => rfl, by omega, gg1, h⟩
    · intro w hSw; clear hSw h; go_simp; try with_reducible rfl
    · kernel_rfl
  · intro p a v hJ
    obtain ⟨y5, z1, ha, gg1, h⟩ := rgJ4_4 hJ
    clear hJ
    subst ha
    refine ⟨_, .int .i64 0, rfl, Or.inl ⟨by rfl, ?_⟩, (fun _ _ _ h => h), _, _, _, _, _, z1, ?_, fun _ => rfl, fun _ => rfl, fun _ => rfl, fun _ => rfl, fun _ => rfl, gg1, h⟩
    · intro w hSw; clear hSw h; go_simp; try with_reducible rfl
    · kernel_rfl
  · intro k p a v hp hJ
    refine op_step (o := _) rfl (fun K hK => ?_)
    obtain ⟨y1, y2, y3, y4, y5, z1, ha, ee1, ee2, ee3, ee4, ee5, gg1, h⟩ := hJ
    have h := Lib.hid h
    subst ha
    go_simp
    refine hK.out _ _ ⟨v.heap.size, y1, y2, y3, y4, y5, .pointer (some ⟨v.heap.size, 0, none⟩), ?_, ee1, ee2, ee3, ee4, ee5, fun q hq => ptr_set hq, h.out.alloc hp rfl _⟩
    kernel_rfl
  intro p4_1 a v hJ
  obtain ⟨rfl, h⟩ := rgJ4_fin hJ
  clear hJ
  replace M := Lib.hid h.fin1
  clear h
  refine tails_one (T := []) (i := 12) (o := _) rfl (by kernel_rfl) (fun K hK => ?_)
  have kc := (M.out.nth 0 rfl).2.1
  have kf := (M.out.nth 0 rfl).2.2
  replace M : Hid (Own w [(p4_1, #[.float .f64 cl, .float .f64 ch]), (w3_.heap.size, #[.float .f64 vl, .float .f64 vh]), (w2_.heap.size, #[.float .f64 f, .float .f64 f])] _) := Lib.hid (M.out.set2 0 rfl (.float .f64 cl) (.float .f64 ch))
  go_simp
  refine hK.out _ _ (Or.inr (M.out.nth 2 rfl).two) (fun hHeld => ?_)
  clear hK K hHeld kc kf
  refine tails_one (T := []) (i := 13) (o := _) rfl (by kernel_rfl) (fun K hK => ?_)
  go_simp
  refine hK.out _ _ (Or.inr (M.out.nth 2 rfl).two) (fun hHeld => ?_)
  clear hK K hHeld
  refine tails_done (by kernel_rfl) ?_ _
  refine NoPanic.normal ?_
  clear hS
  revert M
  generalize ((v.setCell ⟨p4_1, 0, none⟩ (.float .f64 cl)).setCell ⟨p4_1, 1, none⟩ (.float .f64 ch)) = W4_
  intro M
  go_upto_region 5 with fail
  replace M := Lib.hid M.out.drew
  refine wp_region_noPanic ?_
  refine tails_region (S := fun w' => (w'.cell? ⟨w2_.heap.size, 0, none⟩ = some (.float .f64 f) ∧ w'.cell? ⟨w2_.heap.size, 1, none⟩ = some (.float .f64 f))) [] (by kernel_rfl) ?_ (fun hS => ?_)
  · exact (M.out.nth 2 rfl).two
  refine tk (x := ?_) 0 rfl (by kernel_rfl) ⟨by rfl, ?_⟩ (fun _ _ _ h => h) hS ?_
  rotate_left; focus (intro w hSw; (try dsimp only at hSw); go_simp; try with_reducible rfl)
  conv => arg 9; simp only [Act.put, go_sem]
  refine lp_ccppp_1 M 1 2 3 4 5 6 [53, 54, 51, 55, 56, 14] 2 (rgJ5 w zl zh) (by kernel_rfl) (by kernel_rfl) ?_ ?_ ?_ ?_ ?_ ?_ ?_ ?_ ?_
  · intro A hA
    obtain ⟨y1, hq1⟩ := put_ex (hA 53 (by simp))
    obtain ⟨y2, hq2⟩ := put_ex (hA 54 (by simp))
    obtain ⟨y3, hq3⟩ := put_ex (hA 51 (by simp))
    obtain ⟨y4, hq4⟩ := put_ex (hA 55 (by simp))
    obtain ⟨y5, hq5⟩ := put_ex (hA 56 (by simp))
    obtain ⟨z1, hq6⟩ := put_ex (hA 14 (by simp))
    exact ⟨y1, y2, y3, y4, y5, z1, by rw [hq1, hq2, hq3, hq4, hq5, hq6], by omega, by omega, by omega, by omega, by omega, by simp, OwnF.start M.out 1⟩
  · rintro k p a v ⟨y1, y2, y3, y4, y5, z1, _, _, _, _, _, _, _, h⟩
    exact (h.own.nth 2 rfl).two
  · intro p a v hJ
    refine op_step (o := _) rfl (fun K hK => ?_)
    obtain ⟨y1, y2, y3, y4, y5, z1, ha, gg1, h⟩ := rgJ5_0 hJ
    have h := Lib.hid h
    clear hJ
    subst ha
    go_simp
    refine (c6.out _).mono ?_
    rintro rr w5 ⟨rfl, hp⟩
    try go_wp2_with fail
    refine hK.out _ _ ⟨_, y2, y3, y4, y5, z1, ?_, fun _ => rfl, by omega, by omega, by omega, by omega, gg1, h.out.below hp⟩
    kernel_rfl
  · intro p a v hJ
    refine op_step (o := _) rfl (fun K hK => ?_)
    obtain ⟨y2, y3, y4, y5, z1, ha, gg1, h⟩ := rgJ5_1 hJ
    have h := Lib.hid h
    clear hJ
    subst ha
    go_simp
    refine (c7.out _).mono ?_
    rintro rr w5 ⟨rfl, hp⟩
    try go_wp2_with fail
    refine hK.out _ _ ⟨_, _, y3, y4, y5, z1, ?_, fun _ => rfl, fun _ => rfl, by omega, by omega, by omega, gg1, h.out.below hp⟩
    kernel_rfl
  · intro p a v hJ
    obtain ⟨y3, y4, y5, z1, ha, gg1, h⟩ := rgJ5_2 hJ
    clear hJ
    subst ha
    refine ⟨_, .tuple #[.agg #[.float .f64 zl, .float .f64 zh], .int .i64 0], rfl, Or.inl ⟨by rfl, ?_⟩, (fun _ _ _ h => h), _, _, _, y4, y5, z1, ?_, fun _ => rfl, fun _ => rfl, fun _ => rfl, by omega, by omega, gg1, h⟩
    · intro w hSw; clear hSw h; go_simp; try with_reducible rfl
    · kernel_rfl
  · intro p a v hJ
    obtain ⟨y4, y5, z1, ha, gg1, h⟩ := rgJ5_3 hJ
    clear hJ
    subst ha
    refine ⟨_, .agg #[.float .f64 zl, .float .f64 zh], rfl, Or.inl ⟨by rfl, ?_⟩, (fun _ _ _ h => h), _, _, _, _, y5, z1, ?_, fun _ => rfl, fun _ => rfl, fun _ => rfl, fun _ => rfl, by omega, gg1, h⟩
    · intro w hSw; clear hSw h; go_simp; try with_reducible rfl
    · kernel_rfl
  · intro p a v hJ
    obtain ⟨y5, z1, ha, gg1, h⟩ := rgJ5_4 hJ
    clear hJ
    subst ha
    refine ⟨_, .int .i64 0, rfl, Or.inl ⟨by rfl, ?_⟩, (fun _ _ _ h => h), _, _, _, _, _, z1, ?_, fun _ => rfl, fun _ => rfl, fun _ => rfl, fun _ => rfl, fun _ => rfl, gg1, h⟩
    · intro w hSw; clear hSw h; go_simp; try with_reducible rfl
    · kernel_rfl
  · intro k p a v hp hJ
    refine op_step (o := _) rfl (fun K hK => ?_)
    obtain ⟨y1, y2, y3, y4, y5, z1, ha, ee1, ee2, ee3, ee4, ee5, gg1, h⟩ := hJ
    have h := Lib.hid h
    subst ha
    go_simp
    refine hK.out _ _ ⟨v.heap.size, y1, y2, y3, y4, y5, .pointer (some ⟨v.heap.size, 0, none⟩), ?_, ee1, ee2, ee3, ee4, ee5, fun q hq => ptr_set hq, h.out.alloc hp rfl _⟩
    kernel_rfl
  intro p5_1 a v hJ
  obtain ⟨rfl, h⟩ := rgJ5_fin hJ
  clear hJ
  replace M := Lib.hid h.fin1
  clear h
  refine tails_one (T := []) (i := 7) (o := _) rfl (by kernel_rfl) (fun K hK => ?_)
  have kc := (M.out.nth 0 rfl).2.1
  have kf := (M.out.nth 0 rfl).2.2
  replace M : Hid (Own w [(p5_1, #[.float .f64 zl, .float .f64 zh]), (p4_1, #[.float .f64 cl, .float .f64 ch]), (w3_.heap.size, #[.float .f64 vl, .float .f64 vh]), (w2_.heap.size, #[.float .f64 f, .float .f64 f])] _) := Lib.hid (M.out.set2 0 rfl (.float .f64 zl) (.float .f64 zh))
  go_simp
  refine hK.out _ _ (Or.inr (M.out.nth 3 rfl).two) (fun hHeld => ?_)
  clear hK K hHeld kc kf
  refine tails_one (T := []) (i := 8) (o := _) rfl (by kernel_rfl) (fun K hK => ?_)
  go_simp
  refine hK.out _ _ (Or.inr (M.out.nth 3 rfl).two) (fun hHeld => ?_)
  clear hK K hHeld
  refine tails_done (by kernel_rfl) ?_ _
  refine NoPanic.normal ?_
  clear hS
  revert M
  generalize ((v.setCell ⟨p5_1, 0, none⟩ (.float .f64 zl)).setCell ⟨p5_1, 1, none⟩ (.float .f64 zh)) = W5_
  intro M
  obtain ⟨k1, k2⟩ := (M.out.nth 0 rfl).two
  obtain ⟨k3, k4⟩ := (M.out.nth 3 rfl).two
  replace M := Lib.hid (M.out.made #[.int .i64 0] 32)
  obtain ⟨k5, k6⟩ := (M.out.nth 1 rfl).two
  obtain ⟨k7, k8⟩ := (M.out.nth 4 rfl).two
  go_upto_region 9 with fail
  clear k1 k2 k3 k4 k5 k6 k7 k8
  replace M := Lib.hid M.out.drew
  refine wp_region_noPanic ?_
  refine tails_region (S := fun w' => (w'.cell? ⟨w3_.heap.size, 0, none⟩ = some (.float .f64 vl) ∧ w'.cell? ⟨w3_.heap.size, 1, none⟩ = some (.float .f64 vh))) [] (by kernel_rfl) ?_ (fun hS => ?_)
  · exact (M.out.nth 3 rfl).two
  refine tk (x := ?_) 0 rfl (by kernel_rfl) ⟨by rfl, ?_⟩ (fun _ _ _ h => h) hS ?_
  rotate_left; focus (intro w hSw; (try dsimp only at hSw); go_simp; try with_reducible rfl)
  refine tk (x := ?_) 1 rfl (by kernel_rfl) ⟨by rfl, ?_⟩ (fun _ _ _ h => h) hS ?_
  rotate_left; focus (intro w hSw; (try dsimp only at hSw); go_simp; try with_reducible rfl)
  refine tk (x := ?_) 2 rfl (by kernel_rfl) ⟨by rfl, ?_⟩ (fun _ _ _ h => h) hS ?_
  rotate_left; focus (intro w hSw; (try dsimp only at hSw); go_simp; try with_reducible rfl)
  refine tk (x := ?_) 6 rfl (by kernel_rfl) ⟨by rfl, ?_⟩ (fun _ _ _ h => h) hS ?_
  rotate_left; focus (intro w hSw; (try dsimp only at hSw); go_simp; try with_reducible rfl)
  conv => arg 9; simp only [Act.put, go_sem]
  refine lpx_cccc_1 M 3 4 5 7 8 [77, 78, 79, 81, 17] 1 (rgJ9 w W5_.heap.size ml mh al ah) (by kernel_rfl) (by kernel_rfl) ?_ ?_ ?_ ?_ ?_ ?_ ?_ ?_
  · intro A hA
    obtain ⟨y1, hq1⟩ := put_ex (hA 77 (by simp))
    obtain ⟨y2, hq2⟩ := put_ex (hA 78 (by simp))
    obtain ⟨y3, hq3⟩ := put_ex (hA 79 (by simp))
    obtain ⟨y4, hq4⟩ := put_ex (hA 81 (by simp))
    obtain ⟨z1, hq5⟩ := put_ex (hA 17 (by simp))
    exact ⟨y1, y2, y3, y4, z1, by rw [hq1, hq2, hq3, hq4, hq5], by omega, by omega, by omega, by omega, by simp, OwnF.start M.out 1⟩
  · rintro k p a v ⟨y1, y2, y3, y4, z1, _, _, _, _, _, _, h⟩
    exact (h.own.nth 3 rfl).two
  · intro p a v hJ
    refine op_step (o := _) rfl (fun K hK => ?_)
    obtain ⟨y1, y2, y3, y4, z1, ha, gg1, h⟩ := rgJ9_0 hJ
    have h := Lib.hid h
    clear hJ
    subst ha
    go_simp
    refine (d8.out _ _ (h.out.own.nth 0 rfl)).mono ?_
    rintro rr w5 ⟨rfl, hp⟩
    try go_wp2_with fail
    refine hK.out _ _ ⟨_, y2, y3, y4, z1, ?_, fun _ => rfl, by omega, by omega, by omega, gg1, h.out.putHead hp⟩
    kernel_rfl
  · intro p a v hJ
    refine op_step (o := _) rfl (fun K hK => ?_)
    obtain ⟨y2, y3, y4, z1, ha, gg1, h⟩ := rgJ9_1 hJ
    have h := Lib.hid h
    clear hJ
    subst ha
    go_simp
    refine (c9.out _).mono ?_
    rintro rr w5 ⟨rfl, hp⟩
    try go_wp2_with fail
    refine hK.out _ _ ⟨_, _, y3, y4, z1, ?_, fun _ => rfl, fun _ => rfl, by omega, by omega, gg1, h.out.below hp⟩
    kernel_rfl
  · intro p a v hJ
    refine op_step (o := _) rfl (fun K hK => ?_)
    obtain ⟨y3, y4, z1, ha, gg1, h⟩ := rgJ9_2 hJ
    have h := Lib.hid h
    clear hJ
    subst ha
    go_simp
    refine (d10.out _ _ (h.out.own.nth 0 rfl)).mono ?_
    rintro rr w5 ⟨rfl, hp⟩
    try go_wp2_with fail
    refine hK.out _ _ ⟨_, _, _, y4, z1, ?_, fun _ => rfl, fun _ => rfl, fun _ => rfl, by omega, gg1, h.out.putHead hp⟩
    kernel_rfl
  · intro p a v hJ
    refine op_step (o := _) rfl (fun K hK => ?_)
    obtain ⟨y4, z1, ha, gg1, h⟩ := rgJ9_3 hJ
    have h := Lib.hid h
    clear hJ
    subst ha
    go_simp
    refine (d11.out _ _ (h.out.own.nth 0 rfl)).mono ?_
    rintro rr w5 ⟨rfl, hp⟩
    try go_wp2_with fail
    refine hK.out _ _ ⟨_, _, _, _, z1, ?_, fun _ => rfl, fun _ => rfl, fun _ => rfl, fun _ => rfl, gg1, h.out.putHead hp⟩
    kernel_rfl
  · intro k p a v hp hJ
    refine op_step (o := _) rfl (fun K hK => ?_)
    obtain ⟨y1, y2, y3, y4, z1, ha, ee1, ee2, ee3, ee4, gg1, h⟩ := hJ
    have h := Lib.hid h
    subst ha
    go_simp
    refine hK.out _ _ ⟨v.heap.size, y1, y2, y3, y4, .pointer (some ⟨v.heap.size, 0, none⟩), ?_, ee1, ee2, ee3, ee4, fun q hq => ptr_set hq, h.out.alloc hp rfl _⟩
    kernel_rfl
  intro p9_1 a v hJ
  obtain ⟨rfl, h⟩ := rgJ9_fin hJ
  clear hJ
  replace M := Lib.hid h.fin1
  clear h
  refine tails_one (T := []) (i := 9) (o := _) rfl (by kernel_rfl) (fun K hK => ?_)
  have kc := (M.out.nth 0 rfl).2.1
  have kf := (M.out.nth 0 rfl).2.2
  replace M : Hid (Own w [(p9_1, #[.float .f64 al, .float .f64 ah]), (W5_.heap.size, #[.int .i64 0]), (p5_1, #[.float .f64 zl, .float .f64 zh]), (p4_1, #[.float .f64 cl, .float .f64 ch]), (w3_.heap.size, #[.float .f64 vl, .float .f64 vh]), (w2_.heap.size, #[.float .f64 f, .float .f64 f])] _) := Lib.hid (M.out.set2 0 rfl (.float .f64 al) (.float .f64 ah))
  go_simp
  refine hK.out _ _ (Or.inr (M.out.nth 4 rfl).two) (fun hHeld => ?_)
  clear hK K hHeld kc kf
  refine tails_done (by kernel_rfl) ?_ _
  refine NoPanic.normal ?_
  clear hS
  replace M : Hid (Own w [(W5_.heap.size, #[.int .i64 0]), (p9_1, #[.float .f64 al, .float .f64 ah]), (p5_1, #[.float .f64 zl, .float .f64 zh]), (p4_1, #[.float .f64 cl, .float .f64 ch]), (w3_.heap.size, #[.float .f64 vl, .float .f64 vh]), (w2_.heap.size, #[.float .f64 f, .float .f64 f])] _) := Lib.hid M.out.front
  revert M
  generalize ((v.setCell ⟨p9_1, 0, none⟩ (.float .f64 al)).setCell ⟨p9_1, 1, none⟩ (.float .f64 ah)) = W6_
  intro M
  go_wp2_with fail
  refine (d12.out _ _ (M.out.nth 0 rfl)).mono ?_
  rintro r w7_ ⟨rfl, hb⟩
  replace M : Hid (Own w [(W5_.heap.size, #[.int .i64 0]), (p9_1, #[.float .f64 al, .float .f64 ah]), (p5_1, #[.float .f64 zl, .float .f64 zh]), (p4_1, #[.float .f64 cl, .float .f64 ch]), (w3_.heap.size, #[.float .f64 vl, .float .f64 vh]), (w2_.heap.size, #[.float .f64 f, .float .f64 f])] w7_) := Lib.hid (M.out.putAt 0 rfl hb)
  clear hb
  go_wp2_with fail
  refine (d12.out _ _ (M.out.nth 0 rfl)).mono ?_
  rintro r w8_ ⟨rfl, hb⟩
  replace M : Hid (Own w [(W5_.heap.size, #[.int .i64 0]), (p9_1, #[.float .f64 al, .float .f64 ah]), (p5_1, #[.float .f64 zl, .float .f64 zh]), (p4_1, #[.float .f64 cl, .float .f64 ch]), (w3_.heap.size, #[.float .f64 vl, .float .f64 vh]), (w2_.heap.size, #[.float .f64 f, .float .f64 f])] w8_) := Lib.hid (M.out.putAt 0 rfl hb)
  clear hb
  replace M := Lib.hid (M.out.made #[.float .f64 0, .float .f64 0] 24).front
  replace M := Lib.hid (M.out.made #[.float .f64 0, .float .f64 0] 24).front
  simp only [World.size_alloc] at M
  -- the row: b5 b8 b7 b6 b4 b3 b2 b1
  go_wp2_with fail
  go_loopw [20] (RgRel w W5_.heap.size w8_.heap.size (w8_.heap.size + 1) Ll Lh Hl Hh K N [(p9_1, #[.float .f64 al, .float .f64 ah]), (p5_1, #[.float .f64 zl, .float .f64 zh]), (p4_1, #[.float .f64 cl, .float .f64 ch]), (w3_.heap.size, #[.float .f64 vl, .float .f64 vh]), (w2_.heap.size, #[.float .f64 f, .float .f64 f])]) (fun i _ => N - (intOf i).toNat)
  case atStart =>
    obtain ⟨z1, z2, z3, z4⟩ := hL0.out
    refine ⟨K, Nat.le_refl _, Nat.le_of_lt hk1, rfl, ?_⟩
    rw [z1, z2, z3, z4]
    exact M.out.third
  case round =>
    clear M
    obtain ⟨I, hKI, hIN, rfl, hM⟩ := hrel
    have M := Lib.hid hM
    clear hM hL0
    by_cases hI : I < N
    · have hb1 : decide (I < N) = true := decide_eq_true hI
      have hb2 : decide ((I : Int) < (N : Int)) = true := decide_eq_true (by omega)
      have qI := qX.out I (Nat.le_of_lt hI)
      have qJ := qX.out (I + 1) hI
      have e1 : ((I + 1 : Nat) : Int) = (I : Int) + 1 := by omega
      rw [e1] at qJ
      clear e1
      have hII : (I : Int) < 64 := by omega
      go_wp2_with fail
      refine (cX.out I (Nat.le_of_lt hI) _).mono ?_
      rintro r w9_ ⟨rfl, hb⟩
      replace M := Lib.hid (M.out.below hb)
      clear hb
      go_wp2_with fail
      refine (cX.out (I + 1) hI _).mono ?_
      rintro r w10_ ⟨rfl, hb⟩
      replace M := Lib.hid (M.out.below hb)
      clear hb
      replace M := Lib.hid (M.out.made #[.float .f64 (X I), .float .f64 (X I)] 24).front
      replace M := Lib.hid (M.out.made #[.float .f64 (X (I + 1)), .float .f64 (X (I + 1))] 24).front
      simp only [World.size_alloc] at M
      go_wp2_with fail
      refine (cW.out I hKI hI _ _ (M.out.nth 0 rfl)).mono ?_
      rintro r w11_ ⟨rfl, hb⟩
      replace M : Hid (Own w [(W5_.heap.size, #[.int .i64 0]), ((w10_.heap.size + 1), #[.float .f64 (X (I + 1)), .float .f64 (X (I + 1))]), (w10_.heap.size, #[.float .f64 (X I), .float .f64 (X I)]), (w8_.heap.size, #[.float .f64 (Ll I), .float .f64 (Lh I)]), ((w8_.heap.size + 1), #[.float .f64 (Hl I), .float .f64 (Hh I)]), (p9_1, #[.float .f64 al, .float .f64 ah]), (p5_1, #[.float .f64 zl, .float .f64 zh]), (p4_1, #[.float .f64 cl, .float .f64 ch]), (w3_.heap.size, #[.float .f64 vl, .float .f64 vh]), (w2_.heap.size, #[.float .f64 f, .float .f64 f])] w11_) := Lib.hid (M.out.putAt 0 rfl hb)
      clear hb
      replace M := Lib.hid (M.out.made #[.float .f64 (wl I), .float .f64 (wh I)] 24).front
      go_upto_region 16 with fail
      replace M := Lib.hid M.out.drew
      refine wp_region_noPanic ?_
      refine tails_region (S := fun w' => (w'.cell? ⟨w8_.heap.size, 0, none⟩ = some (.float .f64 (Ll I)) ∧ w'.cell? ⟨w8_.heap.size, 1, none⟩ = some (.float .f64 (Lh I))) ∧ (w'.cell? ⟨p9_1, 0, none⟩ = some (.float .f64 al) ∧ w'.cell? ⟨p9_1, 1, none⟩ = some (.float .f64 ah)) ∧ (w'.cell? ⟨w10_.heap.size, 0, none⟩ = some (.float .f64 (X I)) ∧ w'.cell? ⟨w10_.heap.size, 1, none⟩ = some (.float .f64 (X I))) ∧ (w'.cell? ⟨w11_.heap.size, 0, none⟩ = some (.float .f64 (wl I)) ∧ w'.cell? ⟨w11_.heap.size, 1, none⟩ = some (.float .f64 (wh I)))) [10] (by kernel_rfl) ?_ (fun hS => ?_)
      · exact ⟨(M.out.nth 4 rfl).two, (M.out.nth 6 rfl).two, (M.out.nth 3 rfl).two, (M.out.nth 1 rfl).two⟩
      refine tails_take (T := [10]) (i := 0) (o := _) (x := ?_) rfl (by kernel_rfl) (by kernel_rfl) (by kernel_rfl) (by kernel_rfl) (fun _ _ _ h => h) (Or.inl ⟨by rfl, ?_⟩) hS ?_
      rotate_left; focus (intro w hSw; (try dsimp only at hSw); go_simp; try with_reducible rfl)
      refine tails_take (T := [10]) (i := 1) (o := _) (x := ?_) rfl (by kernel_rfl) (by kernel_rfl) (by kernel_rfl) (by kernel_rfl) (fun _ _ _ h => h) (Or.inl ⟨by rfl, ?_⟩) hS ?_
      rotate_left; focus (intro w hSw; (try dsimp only at hSw); go_simp; try with_reducible rfl)
      refine tails_take (T := [10]) (i := 2) (o := _) (x := ?_) rfl (by kernel_rfl) (by kernel_rfl) (by kernel_rfl) (by kernel_rfl) (fun _ _ _ h => h) (Or.inl ⟨by rfl, ?_⟩) hS ?_
      rotate_left; focus (intro w hSw; (try dsimp only at hSw); go_simp; try with_reducible rfl)
      refine tails_take (T := [10]) (i := 3) (o := _) (x := ?_) rfl (by kernel_rfl) (by kernel_rfl) (by kernel_rfl) (by kernel_rfl) (fun _ _ _ h => h) (Or.inl ⟨by rfl, ?_⟩) hS ?_
      rotate_left; focus (intro w hSw; (try dsimp only at hSw); go_simp; try with_reducible rfl)
      refine tails_take (T := [10]) (i := 4) (o := _) (x := ?_) rfl (by kernel_rfl) (by kernel_rfl) (by kernel_rfl) (by kernel_rfl) (fun _ _ _ h => h) (Or.inl ⟨by rfl, ?_⟩) hS ?_
      rotate_left; focus (intro w hSw; (try dsimp only at hSw); go_simp; try with_reducible rfl)
      refine tails_take (T := [10]) (i := 5) (o := _) (x := ?_) rfl (by kernel_rfl) (by kernel_rfl) (by kernel_rfl) (by kernel_rfl) (fun _ _ _ h => h) (Or.inl ⟨by rfl, ?_⟩) hS ?_
      rotate_left; focus (intro w hSw; (try dsimp only at hSw); go_simp; try with_reducible rfl)
      refine tails_take (T := [10]) (i := 7) (o := _) (x := ?_) rfl (by kernel_rfl) (by kernel_rfl) (by kernel_rfl) (by kernel_rfl) (fun _ _ _ h => h) (Or.inl ⟨by rfl, ?_⟩) hS ?_
      rotate_left; focus (intro w hSw; (try dsimp only at hSw); go_simp; try with_reducible rfl)
      conv => arg 9; simp only [Act.put, go_sem]
      refine tails_one (T := [10]) (i := 6) (o := _) rfl (by kernel_rfl) (fun K hK => ?_)
      go_simp
      refine (cP.out I hKI hI _ _ (M.out.nth 0 rfl)).mono ?_
      rintro rr w12_ ⟨rfl, hb⟩
      replace M : Hid (Own w [(W5_.heap.size, #[.int .i64 0]), (w11_.heap.size, #[.float .f64 (wl I), .float .f64 (wh I)]), ((w10_.heap.size + 1), #[.float .f64 (X (I + 1)), .float .f64 (X (I + 1))]), (w10_.heap.size, #[.float .f64 (X I), .float .f64 (X I)]), (w8_.heap.size, #[.float .f64 (Ll I), .float .f64 (Lh I)]), ((w8_.heap.size + 1), #[.float .f64 (Hl I), .float .f64 (Hh I)]), (p9_1, #[.float .f64 al, .float .f64 ah]), (p5_1, #[.float .f64 zl, .float .f64 zh]), (p4_1, #[.float .f64 cl, .float .f64 ch]), (w3_.heap.size, #[.float .f64 vl, .float .f64 vh]), (w2_.heap.size, #[.float .f64 f, .float .f64 f])] w12_) := Lib.hid (M.out.putAt 0 rfl hb)
      clear hb
      try go_wp2_with fail
      refine hK.out _ _ (Or.inr ⟨(M.out.nth 4 rfl).two, (M.out.nth 6 rfl).two, (M.out.nth 3 rfl).two, (M.out.nth 1 rfl).two⟩) (fun hHeld => ?_)
      clear hK K hHeld
      replace hS := (And.intro (M.out.nth 4 rfl).two (And.intro (M.out.nth 6 rfl).two (And.intro (M.out.nth 3 rfl).two (M.out.nth 1 rfl).two)))
      refine tails_one (T := [10]) (i := 8) (o := _) rfl (by kernel_rfl) (fun K hK => ?_)
      go_simp
      refine (cT.out I hKI hI _ _ (M.out.nth 0 rfl)).mono ?_
      rintro rr w13_ ⟨rfl, hb⟩
      replace M : Hid (Own w [(W5_.heap.size, #[.int .i64 0]), (w11_.heap.size, #[.float .f64 (wl I), .float .f64 (wh I)]), ((w10_.heap.size + 1), #[.float .f64 (X (I + 1)), .float .f64 (X (I + 1))]), (w10_.heap.size, #[.float .f64 (X I), .float .f64 (X I)]), (w8_.heap.size, #[.float .f64 (Ll I), .float .f64 (Lh I)]), ((w8_.heap.size + 1), #[.float .f64 (Hl I), .float .f64 (Hh I)]), (p9_1, #[.float .f64 al, .float .f64 ah]), (p5_1, #[.float .f64 zl, .float .f64 zh]), (p4_1, #[.float .f64 cl, .float .f64 ch]), (w3_.heap.size, #[.float .f64 vl, .float .f64 vh]), (w2_.heap.size, #[.float .f64 f, .float .f64 f])] w13_) := Lib.hid (M.out.putAt 0 rfl hb)
      clear hb
      try go_wp2_with fail
      refine hK.out _ _ (Or.inr ⟨(M.out.nth 4 rfl).two, (M.out.nth 6 rfl).two, (M.out.nth 3 rfl).two, (M.out.nth 1 rfl).two⟩) (fun hHeld => ?_)
      clear hK K hHeld
      replace hS := (And.intro (M.out.nth 4 rfl).two (And.intro (M.out.nth 6 rfl).two (And.intro (M.out.nth 3 rfl).two (M.out.nth 1 rfl).two)))
      refine tails_one (T := [10]) (i := 9) (o := _) rfl (by kernel_rfl) (fun K hK => ?_)
      go_simp
      refine (cL.out I hKI hI _ _ (M.out.nth 0 rfl)).mono ?_
      rintro rr w14_ ⟨rfl, hb⟩
      replace M : Hid (Own w [(W5_.heap.size, #[.int .i64 0]), (w11_.heap.size, #[.float .f64 (wl I), .float .f64 (wh I)]), ((w10_.heap.size + 1), #[.float .f64 (X (I + 1)), .float .f64 (X (I + 1))]), (w10_.heap.size, #[.float .f64 (X I), .float .f64 (X I)]), (w8_.heap.size, #[.float .f64 (Ll I), .float .f64 (Lh I)]), ((w8_.heap.size + 1), #[.float .f64 (Hl I), .float .f64 (Hh I)]), (p9_1, #[.float .f64 al, .float .f64 ah]), (p5_1, #[.float .f64 zl, .float .f64 zh]), (p4_1, #[.float .f64 cl, .float .f64 ch]), (w3_.heap.size, #[.float .f64 vl, .float .f64 vh]), (w2_.heap.size, #[.float .f64 f, .float .f64 f])] w14_) := Lib.hid (M.out.putAt 0 rfl hb)
      clear hb
      try go_wp2_with fail
      refine hK.out _ _ (Or.inr ⟨(M.out.nth 4 rfl).two, (M.out.nth 6 rfl).two, (M.out.nth 3 rfl).two, (M.out.nth 1 rfl).two⟩) (fun hHeld => ?_)
      clear hK K hHeld
      replace hS := (And.intro (M.out.nth 4 rfl).two (And.intro (M.out.nth 6 rfl).two (And.intro (M.out.nth 3 rfl).two (M.out.nth 1 rfl).two)))
      refine tails_one (T := [10]) (i := 10) (o := _) rfl (by kernel_rfl) (fun K hK => ?_)
      have kc := (M.out.nth 4 rfl).2.1
      have kf := (M.out.nth 4 rfl).2.2
      replace M : Hid (Own w [(W5_.heap.size, #[.int .i64 0]), (w11_.heap.size, #[.float .f64 (wl I), .float .f64 (wh I)]), ((w10_.heap.size + 1), #[.float .f64 (X (I + 1)), .float .f64 (X (I + 1))]), (w10_.heap.size, #[.float .f64 (X I), .float .f64 (X I)]), (w8_.heap.size, #[.float .f64 (Ll (I + 1)), .float .f64 (Lh (I + 1))]), ((w8_.heap.size + 1), #[.float .f64 (Hl I), .float .f64 (Hh I)]), (p9_1, #[.float .f64 al, .float .f64 ah]), (p5_1, #[.float .f64 zl, .float .f64 zh]), (p4_1, #[.float .f64 cl, .float .f64 ch]), (w3_.heap.size, #[.float .f64 vl, .float .f64 vh]), (w2_.heap.size, #[.float .f64 f, .float .f64 f])] _) := Lib.hid (M.out.set2 4 rfl (.float .f64 (Ll (I + 1))) (.float .f64 (Lh (I + 1))))
      go_simp
      refine hK.out _ _ (Or.inl (by decide)) (fun hHeld => ?_)
      clear hK K hHeld kc kf
      refine tails_done (by kernel_rfl) ?_ _
      refine NoPanic.normal ?_
      clear hS
      revert M
      generalize ((w14_.setCell ⟨w8_.heap.size, 0, none⟩ (.float .f64 (Ll (I + 1)))).setCell ⟨w8_.heap.size, 1, none⟩ (.float .f64 (Lh (I + 1)))) = W15_
      intro M
      go_upto_region 17 with fail
      replace M := Lib.hid M.out.drew
      refine wp_region_noPanic ?_
      refine tails_region (S := fun w' => (w'.cell? ⟨(w8_.heap.size + 1), 0, none⟩ = some (.float .f64 (Hl I)) ∧ w'.cell? ⟨(w8_.heap.size + 1), 1, none⟩ = some (.float .f64 (Hh I))) ∧ (w'.cell? ⟨p9_1, 0, none⟩ = some (.float .f64 al) ∧ w'.cell? ⟨p9_1, 1, none⟩ = some (.float .f64 ah)) ∧ (w'.cell? ⟨(w10_.heap.size + 1), 0, none⟩ = some (.float .f64 (X (I + 1))) ∧ w'.cell? ⟨(w10_.heap.size + 1), 1, none⟩ = some (.float .f64 (X (I + 1)))) ∧ (w'.cell? ⟨w11_.heap.size, 0, none⟩ = some (.float .f64 (wl I)) ∧ w'.cell? ⟨w11_.heap.size, 1, none⟩ = some (.float .f64 (wh I)))) [10] (by kernel_rfl) ?_ (fun hS => ?_)
      · exact ⟨(M.out.nth 5 rfl).two, (M.out.nth 6 rfl).two, (M.out.nth 2 rfl).two, (M.out.nth 1 rfl).two⟩
      refine tails_take (T := [10]) (i := 0) (o := _) (x := ?_) rfl (by kernel_rfl) (by kernel_rfl) (by kernel_rfl) (by kernel_rfl) (fun _ _ _ h => h) (Or.inl ⟨by rfl, ?_⟩) hS ?_
      rotate_left; focus (intro w hSw; (try dsimp only at hSw); go_simp; try with_reducible rfl)
      refine tails_take (T := [10]) (i := 1) (o := _) (x := ?_) rfl (by kernel_rfl) (by kernel_rfl) (by kernel_rfl) (by kernel_rfl) (fun _ _ _ h => h) (Or.inl ⟨by rfl, ?_⟩) hS ?_
      rotate_left; focus (intro w hSw; (try dsimp only at hSw); go_simp; try with_reducible rfl)
      refine tails_take (T := [10]) (i := 2) (o := _) (x := ?_) rfl (by kernel_rfl) (by kernel_rfl) (by kernel_rfl) (by kernel_rfl) (fun _ _ _ h => h) (Or.inl ⟨by rfl, ?_⟩) hS ?_
      rotate_left; focus (intro w hSw; (try dsimp only at hSw); go_simp; try with_reducible rfl)
      refine tails_take (T := [10]) (i := 3) (o := _) (x := ?_) rfl (by kernel_rfl) (by kernel_rfl) (by kernel_rfl) (by kernel_rfl) (fun _ _ _ h => h) (Or.inl ⟨by rfl, ?_⟩) hS ?_
      rotate_left; focus (intro w hSw; (try dsimp only at hSw); go_simp; try with_reducible rfl)
      refine tails_take (T := [10]) (i := 4) (o := _) (x := ?_) rfl (by kernel_rfl) (by kernel_rfl) (by kernel_rfl) (by kernel_rfl) (fun _ _ _ h => h) (Or.inl ⟨by rfl, ?_⟩) hS ?_
      rotate_left; focus (intro w hSw; (try dsimp only at hSw); go_simp; try with_reducible rfl)
      refine tails_take (T := [10]) (i := 5) (o := _) (x := ?_) rfl (by kernel_rfl) (by kernel_rfl) (by kernel_rfl) (by kernel_rfl) (fun _ _ _ h => h) (Or.inl ⟨by rfl, ?_⟩) hS ?_
      rotate_left; focus (intro w hSw; (try dsimp only at hSw); go_simp; try with_reducible rfl)
      refine tails_take (T := [10]) (i := 7) (o := _) (x := ?_) rfl (by kernel_rfl) (by kernel_rfl) (by kernel_rfl) (by kernel_rfl) (fun _ _ _ h => h) (Or.inl ⟨by rfl, ?_⟩) hS ?_
      rotate_left; focus (intro w hSw; (try dsimp only at hSw); go_simp; try with_reducible rfl)
      conv => arg 9; simp only [Act.put, go_sem]
      refine tails_one (T := [10]) (i := 6) (o := _) rfl (by kernel_rfl) (fun K hK => ?_)
      go_simp
      refine (cQ.out I hKI hI _ _ (M.out.nth 0 rfl)).mono ?_
      rintro rr w16_ ⟨rfl, hb⟩
      replace M : Hid (Own w [(W5_.heap.size, #[.int .i64 0]), (w11_.heap.size, #[.float .f64 (wl I), .float .f64 (wh I)]), ((w10_.heap.size + 1), #[.float .f64 (X (I + 1)), .float .f64 (X (I + 1))]), (w10_.heap.size, #[.float .f64 (X I), .float .f64 (X I)]), (w8_.heap.size, #[.float .f64 (Ll (I + 1)), .float .f64 (Lh (I + 1))]), ((w8_.heap.size + 1), #[.float .f64 (Hl I), .float .f64 (Hh I)]), (p9_1, #[.float .f64 al, .float .f64 ah]), (p5_1, #[.float .f64 zl, .float .f64 zh]), (p4_1, #[.float .f64 cl, .float .f64 ch]), (w3_.heap.size, #[.float .f64 vl, .float .f64 vh]), (w2_.heap.size, #[.float .f64 f, .float .f64 f])] w16_) := Lib.hid (M.out.putAt 0 rfl hb)
      clear hb
      try go_wp2_with fail
      refine hK.out _ _ (Or.inr ⟨(M.out.nth 5 rfl).two, (M.out.nth 6 rfl).two, (M.out.nth 2 rfl).two, (M.out.nth 1 rfl).two⟩) (fun hHeld => ?_)
      clear hK K hHeld
      replace hS := (And.intro (M.out.nth 5 rfl).two (And.intro (M.out.nth 6 rfl).two (And.intro (M.out.nth 2 rfl).two (M.out.nth 1 rfl).two)))
      refine tails_one (T := [10]) (i := 8) (o := _) rfl (by kernel_rfl) (fun K hK => ?_)
      go_simp
      refine (cU.out I hKI hI _ _ (M.out.nth 0 rfl)).mono ?_
      rintro rr w17_ ⟨rfl, hb⟩
      replace M : Hid (Own w [(W5_.heap.size, #[.int .i64 0]), (w11_.heap.size, #[.float .f64 (wl I), .float .f64 (wh I)]), ((w10_.heap.size + 1), #[.float .f64 (X (I + 1)), .float .f64 (X (I + 1))]), (w10_.heap.size, #[.float .f64 (X I), .float .f64 (X I)]), (w8_.heap.size, #[.float .f64 (Ll (I + 1)), .float .f64 (Lh (I + 1))]), ((w8_.heap.size + 1), #[.float .f64 (Hl I), .float .f64 (Hh I)]), (p9_1, #[.float .f64 al, .float .f64 ah]), (p5_1, #[.float .f64 zl, .float .f64 zh]), (p4_1, #[.float .f64 cl, .float .f64 ch]), (w3_.heap.size, #[.float .f64 vl, .float .f64 vh]), (w2_.heap.size, #[.float .f64 f, .float .f64 f])] w17_) := Lib.hid (M.out.putAt 0 rfl hb)
      clear hb
      try go_wp2_with fail
      refine hK.out _ _ (Or.inr ⟨(M.out.nth 5 rfl).two, (M.out.nth 6 rfl).two, (M.out.nth 2 rfl).two, (M.out.nth 1 rfl).two⟩) (fun hHeld => ?_)
      clear hK K hHeld
      replace hS := (And.intro (M.out.nth 5 rfl).two (And.intro (M.out.nth 6 rfl).two (And.intro (M.out.nth 2 rfl).two (M.out.nth 1 rfl).two)))
      refine tails_one (T := [10]) (i := 9) (o := _) rfl (by kernel_rfl) (fun K hK => ?_)
      go_simp
      refine (cH.out I hKI hI _ _ (M.out.nth 0 rfl)).mono ?_
      rintro rr w18_ ⟨rfl, hb⟩
      replace M : Hid (Own w [(W5_.heap.size, #[.int .i64 0]), (w11_.heap.size, #[.float .f64 (wl I), .float .f64 (wh I)]), ((w10_.heap.size + 1), #[.float .f64 (X (I + 1)), .float .f64 (X (I + 1))]), (w10_.heap.size, #[.float .f64 (X I), .float .f64 (X I)]), (w8_.heap.size, #[.float .f64 (Ll (I + 1)), .float .f64 (Lh (I + 1))]), ((w8_.heap.size + 1), #[.float .f64 (Hl I), .float .f64 (Hh I)]), (p9_1, #[.float .f64 al, .float .f64 ah]), (p5_1, #[.float .f64 zl, .float .f64 zh]), (p4_1, #[.float .f64 cl, .float .f64 ch]), (w3_.heap.size, #[.float .f64 vl, .float .f64 vh]), (w2_.heap.size, #[.float .f64 f, .float .f64 f])] w18_) := Lib.hid (M.out.putAt 0 rfl hb)
      clear hb
      try go_wp2_with fail
      refine hK.out _ _ (Or.inr ⟨(M.out.nth 5 rfl).two, (M.out.nth 6 rfl).two, (M.out.nth 2 rfl).two, (M.out.nth 1 rfl).two⟩) (fun hHeld => ?_)
      clear hK K hHeld
      replace hS := (And.intro (M.out.nth 5 rfl).two (And.intro (M.out.nth 6 rfl).two (And.intro (M.out.nth 2 rfl).two (M.out.nth 1 rfl).two)))
      refine tails_one (T := [10]) (i := 10) (o := _) rfl (by kernel_rfl) (fun K hK => ?_)
      have kc := (M.out.nth 5 rfl).2.1
      have kf := (M.out.nth 5 rfl).2.2
      replace M : Hid (Own w [(W5_.heap.size, #[.int .i64 0]), (w11_.heap.size, #[.float .f64 (wl I), .float .f64 (wh I)]), ((w10_.heap.size + 1), #[.float .f64 (X (I + 1)), .float .f64 (X (I + 1))]), (w10_.heap.size, #[.float .f64 (X I), .float .f64 (X I)]), (w8_.heap.size, #[.float .f64 (Ll (I + 1)), .float .f64 (Lh (I + 1))]), ((w8_.heap.size + 1), #[.float .f64 (Hl (I + 1)), .float .f64 (Hh (I + 1))]), (p9_1, #[.float .f64 al, .float .f64 ah]), (p5_1, #[.float .f64 zl, .float .f64 zh]), (p4_1, #[.float .f64 cl, .float .f64 ch]), (w3_.heap.size, #[.float .f64 vl, .float .f64 vh]), (w2_.heap.size, #[.float .f64 f, .float .f64 f])] _) := Lib.hid (M.out.set2 5 rfl (.float .f64 (Hl (I + 1))) (.float .f64 (Hh (I + 1))))
      go_simp
      refine hK.out _ _ (Or.inl (by decide)) (fun hHeld => ?_)
      clear hK K hHeld kc kf
      refine tails_done (by kernel_rfl) ?_ _
      refine NoPanic.normal ?_
      clear hS
      revert M
      generalize ((w18_.setCell ⟨(w8_.heap.size + 1), 0, none⟩ (.float .f64 (Hl (I + 1)))).setCell ⟨(w8_.heap.size + 1), 1, none⟩ (.float .f64 (Hh (I + 1)))) = W19_
      intro M
      go_wp2_with fail
      go_roundw
      case rel => exact ⟨I + 1, by omega, by omega, by go_num, M.out.front.tail.front.tail.front.tail⟩
      case measure => simp [intOf]; omega
    · have e : N = I := by omega
      have hb1 : decide (I < N) = false := decide_eq_false hI
      have hb2 : decide ((I : Int) < (N : Int)) = false := decide_eq_false (by omega)
      replace M : Hid (Own w [(W5_.heap.size, #[.int .i64 0]), (w8_.heap.size, #[.float .f64 (Ll N), .float .f64 (Lh N)]), ((w8_.heap.size + 1), #[.float .f64 (Hl N), .float .f64 (Hh N)]), (p9_1, #[.float .f64 al, .float .f64 ah]), (p5_1, #[.float .f64 zl, .float .f64 zh]), (p4_1, #[.float .f64 cl, .float .f64 ch]), (w3_.heap.size, #[.float .f64 vl, .float .f64 vh]), (w2_.heap.size, #[.float .f64 f, .float .f64 f])] _) := Lib.hid (by rw [e]; exact M.out)
      clear e
      have o_leqLlN_ch := o_leqLlN_ch.out
      have o_leqcl_HhN := o_leqcl_HhN.out
      have q_dd := q_dd.out
      have q_ee := q_ee.out
      have q_gq := q_gq.out
      have q_ss := q_ss.out
      have o_leqdd_ss := o_leqdd_ss.out
      go_wp2_with fail
      refine (err_any 0 _ 0 _ (M.out.nth 0 rfl).pc).mono ?_
      rintro r w20_ ⟨rfl, rfl⟩
      obtain ⟨k1, k2⟩ := (M.out.nth 1 rfl).two
      obtain ⟨k3, k4⟩ := (M.out.nth 5 rfl).two
      obtain ⟨k5, k6⟩ := (M.out.nth 2 rfl).two
      obtain ⟨k7, k8⟩ := (M.out.nth 7 rfl).two
      go_wp2_with fail
      refine (c24.out _).mono ?_
      rintro r w21_ ⟨rfl, hb⟩
      replace M := Lib.hid (M.out.below hb)
      clear hb
      clear k1 k2 k3 k4 k5 k6 k7 k8
      go_wp2
      go_ret
      exact ⟨rfl, M.out.base⟩

end Go.Proofs.Ytoocmocaelcbkaa

namespace Go.Proofs.Ytoocmocaelcbkaa
open Go.RowKit

theorem nil_left : (subR (oneR u1) (sqrR (oneR 0))).lo = u1 ∧ (subR (oneR u1) (sqrR (oneR 0))).hi = u1 := by decide +kernel
theorem mul_one_val {x : Nat} (lx : x < 18446744073709551616) (rx : rightB x = true) (up : Bool) : val (mulW x u1 up) = val x := by
  have e : val u1 = ((2 ^ sq : Nat) : Int) := by decide +kernel
  have p : (0 : Int) < ((2 ^ sq : Nat) : Int) := Int.natCast_pos.2 (Nat.two_pow_pos _)
  cases up
  · rcases (mul_dir x u1 rx (by decide) false).1 rfl with ⟨_, d1, d2, d3, d4⟩ | ⟨_, _, d⟩
    · rw [e] at d3 d4
      exact Int.le_antisymm (Int.le_of_mul_le_mul_right d3 p) (d4 x lx rx (Int.le_refl _))
    · exact absurd (d x lx rx) (by rw [e]; omega)
  · rcases (mul_dir x u1 rx (by decide) true).2 rfl with ⟨_, d1, d2, d3, d4⟩ | ⟨_, _, d⟩
    · rw [e] at d3 d4
      exact Int.le_antisymm (d4 x lx rx (Int.le_refl _)) (Int.le_of_mul_le_mul_right d3 p)
    · exact absurd (d x lx rx) (by rw [e]; omega)
theorem cap_nil {f : Nat} (i : In (oneR f) unI) : Op.floatEq .f64 (capR (oneR f) (oneR 0)).lo f = true ∧ Op.floatEq .f64 (capR (oneR f) (oneR 0)).hi f = true := by
  have c := cap_fit i un_nil
  obtain ⟨p1, p2⟩ := mul_ends i.nonneg i.nonneg' (left_pos un_nil) c.e
  rw [nil_left.1] at p1
  rw [nil_left.2] at p2
  have p1 : (capR (oneR f) (oneR 0)).lo = mulW f u1 false := p1
  have p2 : (capR (oneR f) (oneR 0)).hi = mulW f u1 true := p2
  have lf : f < 18446744073709551616 := i.fit.lo
  have rf : rightB f = true := i.fit.rlo
  exact ⟨(order_eq _ _ c.lo lf c.rlo rf).trans (decide_eq_true (by rw [p1]; exact mul_one_val lf rf _)), (order_eq _ _ c.hi lf c.rhi rf).trans (decide_eq_true (by rw [p2]; exact mul_one_val lf rf _))⟩

def sumL (f N K i : Nat) : Res := lowN f N K (i - K)
def sumH (f N K i : Nat) : Res := highN f N K (i - K)
section
variable {f N K : Nat}
theorem sumL_next {i : Nat} (h : K ≤ i) : sumL f N K (i + 1) = addR (sumL f N K i) (ringL f N i) := by
  obtain ⟨j, rfl⟩ : ∃ j, i = K + j := ⟨i - K, by omega⟩
  unfold sumL
  rw [show K + j + 1 - K = j + 1 by omega, show K + j - K = j by omega]; rfl
theorem sumH_next {i : Nat} (h : K ≤ i) : sumH f N K (i + 1) = addR (sumH f N K i) (ringH f N i) := by
  obtain ⟨j, rfl⟩ : ∃ j, i = K + j := ⟨i - K, by omega⟩
  unfold sumH
  rw [show K + j + 1 - K = j + 1 by omega, show K + j - K = j by omega]; rfl
theorem sumL_fit {i : Nat} (ia : In (oneR f) unI) (hp : ∀ i, i ≤ N → PtN N i) (hN : N < 65) (h : K ≤ i) (hi : i ≤ N) : Fit (sumL f N K i) := (low_snd (k := K) ia hp (i - K) (by omega) (by omega)).ok
theorem sumH_fit {i : Nat} (ia : In (oneR f) unI) (hp : ∀ i, i ≤ N → PtN N i) (hN : N < 65) (h : K ≤ i) (hi : i ≤ N) : Fit (sumH f N K i) := (high_snd (k := K) ia hp (i - K) (by omega) (by omega)).ok
theorem sumL_add {i : Nat} (ia : In (oneR f) unI) (hp : ∀ i, i ≤ N → PtN N i) (hN : N < 65) (h : K ≤ i) (hi : i < N) :
    K2 17 0 0 (sumL f N K i).lo (sumL f N K i).hi (ringL f N i).lo (ringL f N i).hi (sumL f N K (i + 1)).lo (sumL f N K (i + 1)).hi := by
  have f1 := sumL_fit ia hp hN (by omega : K ≤ i + 1) hi
  rw [sumL_next h] at f1 ⊢
  exact fun pb => calc_add (sumL_fit ia hp hN h (Nat.le_of_lt hi)) (rgL_snd ia (hp _ (Nat.le_of_lt hi)) (hp _ hi)).ok f1 pb
theorem sumH_add {i : Nat} (ia : In (oneR f) unI) (hp : ∀ i, i ≤ N → PtN N i) (hN : N < 65) (h : K ≤ i) (hi : i < N) :
    K2 17 0 0 (sumH f N K i).lo (sumH f N K i).hi (ringH f N i).lo (ringH f N i).hi (sumH f N K (i + 1)).lo (sumH f N K (i + 1)).hi := by
  have f1 := sumH_fit ia hp hN (by omega : K ≤ i + 1) hi
  rw [sumH_next h] at f1 ⊢
  exact fun pb => calc_add (sumH_fit ia hp hN h (Nat.le_of_lt hi)) (rgH_snd ia (hp _ (Nat.le_of_lt hi)) (hp _ hi)).ok f1 pb
end

theorem frac_un (n : Nat) (hn : n < 4294967296) : ∃ f, In (oneR f) unI ∧ (f = 0 ∨ val 4458563631096791040 ≤ val f) ∧ ∀ w, Calls Try.prog 47 #[.int .u32 n] w fun r w' => r = .returned (.float .f64 f) ∧ w = w' := by
  obtain ⟨f, f1, f2, f3, f4, f5⟩ := frac_word n hn
  have cw := fun w => frac_walk n f w (fun w => run_float_arith w .quo 22 .f64 _ _ _ f1)
  refine ⟨f, ⟨one_fit f2 f3, by show val 0 ≤ val f; rw [v00]; exact f4, f5⟩, ?_, cw⟩
  by_cases h0 : n = 0
  · subst h0
    have e : floatBits .quo .f64 (floatOfInt .f64 ((0 : Nat) : Int)) 4751297606873776128 = some 0 := by decide +kernel
    have : some f = some 0 := f1.symm.trans e
    exact Or.inl (by simpa using this)
  · exact Or.inr (frac_low n hn h0 f f1)

theorem rings_any (u m k : Nat) (w : World) (hu : u < 4294967296) (hm : m < 256) (hk : k < 256) :
    Calls Try.prog 10 #[.int .u32 u, .int .u8 m, .int .u8 k] w fun r w' => r = .returned (.bool true) ∧ Below w.heap.size w w' := by
  obtain ⟨f, ia, h0, cf⟩ := frac_un u hu
  obtain ⟨N, hN⟩ : ∃ N, N = 1 + m % 64 := ⟨_, rfl⟩
  obtain ⟨K, hK⟩ : ∃ K, K = k % N := ⟨_, rfl⟩
  have n1 : 1 ≤ N := by omega
  have n2 : N < 65 := by omega
  have k1 : K < N := by rw [hK]; exact Nat.mod_lt _ n1
  have hp : ∀ i, i ≤ N → PtN N i := fun i hi => pt_any n1 n2 hi
  have ix := (hp K (Nat.le_of_lt k1)).un
  obtain ⟨b1, b2, b3, b4, b5⟩ := ring_bounds (k := K) (j := N - K) ia n1 n2 (by omega)
  have fL := sumL_fit ia hp n2 (Nat.le_of_lt k1) (Nat.le_refl N)
  have fH := sumH_fit ia hp n2 (Nat.le_of_lt k1) (Nat.le_refl N)
  have fc := cap_fit ia ix
  obtain ⟨e, g, s, d, q1, q2, q3, q4, q5⟩ := law_words ia h0 n1 n2 fL.lo fH.hi fL.rlo fH.rhi b4 b3 b5
  obtain ⟨z1, z2⟩ := cap_nil ia
  have two : Fit (oneR 4611686018427387904) := one_fit (by decide) (by decide)
  have f2 : Fit (mulR (oneR 4611686018427387904) piR) := .of (by decide +kernel)
  have lf : f < 18446744073709551616 := ia.fit.lo
  have rf : rightB f = true := ia.fit.rlo
  have A := ar_snd ia
  exact rings_law (u0 := u) (m0 := m) (k0 := k) (mr := m % 64) (N := N) (K := K) (f := f) (xk := xw N K) (X := xw N) (Ll := fun i => (sumL f N K i).lo) (Lh := fun i => (sumL f N K i).hi) (Hl := fun i => (sumH f N K i).lo) (Hh := fun i => (sumH f N K i).hi)
    (al := (aroundR f).lo) (ah := (aroundR f).hi) (wl := fun i => (wideR N i).lo) (wh := fun i => (wideR N i).hi) (tl := fun i => (ringL f N i).lo) (th := fun i => (ringL f N i).hi) (ul := fun i => (ringH f N i).lo) (uh := fun i => (ringH f N i).hi)
    (pl := fun i => (mulR (aroundR f) (oneR (xw N i))).lo) (ph := fun i => (mulR (aroundR f) (oneR (xw N i))).hi) (ql := fun i => (mulR (aroundR f) (oneR (xw N (i + 1)))).lo) (qh := fun i => (mulR (aroundR f) (oneR (xw N (i + 1)))).hi) w
    (hr := by omega) (_hr0 := by omega) (_hr1 := by omega) (hn := by omega) (_hn1 := by omega) (_hn2 := by omega) (hk := by rw [hK]; rfl) (hk1 := k1) (hm0 := by omega) (hk0 := by omega)
    (c1 := Lib.hid cf) (c2 := Lib.hid fun w => p7_any lf rf ia.nonneg w) (c3 := Lib.hid fun w => value_any ia w) (q_xk := fun w => run_float_arith w .quo 22 .f64 _ _ _ (hp K (Nat.le_of_lt k1)).quo)
    (c4 := Lib.hid fun w => p7_any ix.fit.lo ix.fit.rlo ix.nonneg w) (c5 := Lib.hid fun w => cap_any ia ix w) (c6 := Lib.hid (p7_lit _ (by decide +kernel))) (c7 := Lib.hid fun w => cap_any ia un_nil w) (e_zl_f := z1) (e_zh_f := z2)
    (d8 := Lib.hid fun pb => calc_num two pb) (c9 := Lib.hid fun w => pi_any w) (d10 := Lib.hid fun pb => calc_mul two big_fit.1 f2 pb) (d11 := Lib.hid fun pb => calc_mul f2 (value_fit ia) A.ok pb) (d12 := Lib.hid fun pb => calc_num (one_fit (by decide) (by decide) : Fit (oneR 0)) pb)
    (cX := Lib.hid fun I hI w => p7_any (hp I hI).un.fit.lo (hp I hI).un.fit.rlo (hp I hI).un.nonneg w) (qX := Lib.hid fun I hI w => run_float_arith w .quo 22 .f64 _ _ _ (hp I hI).quo)
    (cW := Lib.hid fun I _ hI pb => calc_sub (hp (I + 1) hI).un.fit (hp I (Nat.le_of_lt hI)).un.fit (wd_snd (hp I (Nat.le_of_lt hI)) (hp (I + 1) hI)).ok pb)
    (cP := Lib.hid fun I _ hI pb => calc_mul A.ok (hp I (Nat.le_of_lt hI)).un.fit (ap_snd ia (hp I (Nat.le_of_lt hI)).un).ok pb)
    (cT := Lib.hid fun I _ hI pb => calc_mul (ap_snd ia (hp I (Nat.le_of_lt hI)).un).ok (wd_snd (hp I (Nat.le_of_lt hI)) (hp (I + 1) hI)).ok (rgL_snd ia (hp I (Nat.le_of_lt hI)) (hp (I + 1) hI)).ok pb)
    (cL := Lib.hid fun I hKI hI => sumL_add ia hp n2 hKI hI)
    (cQ := Lib.hid fun I _ hI pb => calc_mul A.ok (hp (I + 1) hI).un.fit (ap_snd ia (hp (I + 1) hI).un).ok pb)
    (cU := Lib.hid fun I _ hI pb => calc_mul (ap_snd ia (hp (I + 1) hI).un).ok (wd_snd (hp I (Nat.le_of_lt hI)) (hp (I + 1) hI)).ok (rgH_snd ia (hp I (Nat.le_of_lt hI)) (hp (I + 1) hI)).ok pb)
    (cH := Lib.hid fun I hKI hI => sumH_add ia hp n2 hKI hI)
    (o_leqLlN_ch := Lib.hid ((order_le _ _ fL.lo fc.hi fL.rlo fc.rhi).trans (decide_eq_true b1))) (o_leqcl_HhN := Lib.hid ((order_le _ _ fc.lo fH.hi fc.rlo fH.rhi).trans (decide_eq_true b2)))
    (q_dd := Lib.hid fun w => run_float_arith w .sub 22 .f64 _ _ _ q4) (q_ee := Lib.hid fun w => run_float_arith w .mul 22 .f64 _ _ _ q1) (q_gq := Lib.hid fun w => run_float_arith w .quo 22 .f64 _ _ _ q2) (q_ss := Lib.hid fun w => run_float_arith w .add 22 .f64 _ _ _ q3)
    (o_leqdd_ss := Lib.hid q5) (c24 := Lib.hid awake7_any) (hL0 := Lib.hid (by unfold sumL sumH; rw [Nat.sub_self]; exact ⟨rfl, rfl, rfl, rfl⟩))

end Go.Proofs.Ytoocmocaelcbkaa

namespace Go.Proofs.Ytoocmocaelcbkaa
open Go.ChangeShapes Go.WideShapes Go.ChangeAt Go.RowKit Go.Joins Go.Deep

theorem Try.cellsU32 : Try.prog.cellsOf 59 = 1 := by kernel_rfl
theorem u32_nat {y : Int} (wf : (Lit.int .u32 y).wf = true) : ∃ x : Nat, y = (x : Int) ∧ x < 4294967296 := by
  have h := wf
  simp [Lit.wf] at h
  have e1 : IntKind.u32.min = 0 := by decide
  have e2 : IntKind.u32.max = 4294967295 := by decide
  obtain ⟨x, rfl⟩ := Int.eq_ofNat_of_zero_le (by omega : 0 ≤ y)
  exact ⟨x, rfl, by omega⟩

section
variable {H : Type} {enc : TypeId × Value → H} {P : Program} {w : World} {base : Nat} {spare : Nat → Bool} {held : Bool}
theorem trodAll_five {t t' t'' t3 t4 : TypeId} {args : Array Value} {ds : List (DataW H)} {ps : List MemPlace} (h : DataW.TrodAll enc P w base spare held [t, t', t'', t3, t4] args.toList ds ps) :
    ∃ v v' v'' v3 v4 d d' d'' d3 d4 p p' p'' p3 p4, args = #[v, v', v'', v3, v4] ∧ ds = [d, d', d'', d3, d4] ∧ ps = p ++ p' ++ p'' ++ p3 ++ p4 ∧ DataW.Trod enc P w base spare held t v d p ∧ DataW.Trod enc P w base spare held t' v' d' p' ∧ DataW.Trod enc P w base spare held t'' v'' d'' p'' ∧ DataW.Trod enc P w base spare held t3 v3 d3 p3 ∧ DataW.Trod enc P w base spare held t4 v4 d4 p4 := by
  obtain ⟨v, vs, d, ds', p, q, hargs, rfl, rfl, hd, hrest⟩ := trodAll_cons h
  obtain ⟨v', vs', d', ds'', p', q', rfl, rfl, rfl, hd', hrest'⟩ := trodAll_cons hrest
  obtain ⟨v'', vs'', d'', dsss, p'', q'', rfl, rfl, rfl, hd'', hrest''⟩ := trodAll_cons hrest'
  obtain ⟨v3, vs3, d3, ds3, p3, q3, rfl, rfl, rfl, hd3, hrest3⟩ := trodAll_cons hrest''
  obtain ⟨v4, vs4, d4, ds4, p4, q4, rfl, rfl, rfl, hd4, hrest4⟩ := trodAll_cons hrest3
  obtain ⟨rfl, rfl, rfl⟩ := trodAll_nil hrest4
  exact ⟨v, v', v'', v3, v4, d, d', d'', d3, d4, p, p', p'', p3, p4, by cases args; simp_all, rfl, by simp, hd, hd', hd'', hd3, hd4⟩
theorem trodAll_mk5 {t t' t'' t3 t4 : TypeId} {v v' v'' v3 v4 : Value} {d d' d'' d3 d4 : DataW H} {p p' p'' p3 p4 : List MemPlace} (h : DataW.Trod enc P w base spare held t v d p) (h' : DataW.Trod enc P w base spare held t' v' d' p')
    (h'' : DataW.Trod enc P w base spare held t'' v'' d'' p'') (h3 : DataW.Trod enc P w base spare held t3 v3 d3 p3) (h4 : DataW.Trod enc P w base spare held t4 v4 d4 p4) : DataW.TrodAll enc P w base spare held [t, t', t'', t3, t4] [v, v', v'', v3, v4] [d, d', d'', d3, d4] (p ++ (p' ++ (p'' ++ (p3 ++ p4)))) := ⟨p, p' ++ (p'' ++ (p3 ++ p4)), h, trodAll_mk4 h' h'' h3 h4, rfl⟩
end

theorem arr4 {α : Type} {cs : Array α} (h : cs.size = 4) : ∃ c0 c1 c2 c3, cs = #[c0, c1, c2, c3] := by
  obtain ⟨l⟩ := cs
  match l, h with
  | [c0, c1, c2, c3], _ => exact ⟨c0, c1, c2, c3, rfl⟩
theorem Try.cellsN4 : Try.prog.cellsOf 70 = 4 := by kernel_rfl
set_option maxRecDepth 100000 in
theorem open_u4 {H : Type} {enc : TypeId × Value → H} {W : World} {base : Nat} {spare : Nat → Bool} {held : Bool} {r : Reach} {b0 : Nat} {v : Value} {d : DataW H} {p : List MemPlace} (hv : Value.okWide Try.prog W r b0 70 v) (h : DataW.Trod enc Try.prog W base spare held 70 v d p) :
    ∃ x0 x1 x2 x3 : Int, v = .agg #[.int .u32 x0, .int .u32 x1, .int .u32 x2, .int .u32 x3] ∧ d = .agg [.lit (.int .u32 x0), .lit (.int .u32 x1), .lit (.int .u32 x2), .lit (.int .u32 x3)] ∧ p = [] ∧ (Lit.int .u32 x0).wf = true ∧ (Lit.int .u32 x1).wf = true ∧ (Lit.int .u32 x2).wf = true ∧ (Lit.int .u32 x3).wf = true := by
  obtain ⟨cs, rfl, hsz, _⟩ : ∃ cs, v = .agg cs ∧ cs.size = Try.prog.cellsOf 70 ∧ Row.okWide Try.prog W r b0 70 cs := by
    simpa [Value.okWide, Try.underlying70] using hv
  obtain ⟨c0, c1, c2, c3, rfl⟩ := arr4 (hsz.trans Try.cellsN4)
  obtain ⟨fuel, hf⟩ := h
  have hf' : DataW.trod enc Try.prog W base spare held fuel 70 [c0, c1, c2, c3] = some (d, p) := hf
  obtain ⟨xs, m, rfl, hx, _, hl, hel⟩ := DataW.trod_array Try.underlying70 hf'
  match xs, hl with
  | [y0, y1, y2, y3], _ =>
    have g0 := hel 0 (by decide)
    have g1 := hel 1 (by decide)
    have g2 := hel 2 (by decide)
    have g3 := hel 3 (by decide)
    rw [Try.cellsU32] at g0 g1 g2 g3
    obtain ⟨x0, e0, rfl, w0⟩ := DataW.trod_int Try.underlying59 g0
    obtain ⟨x1, e1, rfl, w1⟩ := DataW.trod_int Try.underlying59 g1
    obtain ⟨x2, e2, rfl, w2⟩ := DataW.trod_int Try.underlying59 g2
    obtain ⟨x3, e3, rfl, w3⟩ := DataW.trod_int Try.underlying59 g3
    simp at e0 e1 e2 e3
    subst e0 e1 e2 e3
    simp only [Prod.mk.injEq] at hx
    exact ⟨x0, x1, x2, x3, rfl, hx.1, hx.2, w0, w1, w2, w3⟩

set_option maxRecDepth 100000 in
theorem shut_u4 {H : Type} {enc : TypeId × Value → H} {W : World} {base : Nat} {spare : Nat → Bool} {held : Bool} {x0 x1 x2 x3 : Int} (w0 : (Lit.int .u32 x0).wf = true) (w1 : (Lit.int .u32 x1).wf = true) (w2 : (Lit.int .u32 x2).wf = true) (w3 : (Lit.int .u32 x3).wf = true) :
    DataW.Trod enc Try.prog W base spare held 70 (.agg #[.int .u32 x0, .int .u32 x1, .int .u32 x2, .int .u32 x3]) (.agg [.lit (.int .u32 x0), .lit (.int .u32 x1), .lit (.int .u32 x2), .lit (.int .u32 x3)]) [] :=
  ⟨2, by simp [DataW.trod, Value.cells, Try.underlying70, Try.underlying59, Try.cellsN4, Try.cellsU32, w0, w1, w2, w3, show List.range 4 = [0, 1, 2, 3] from rfl]⟩

end Go.Proofs.Ytoocmocaelcbkaa
