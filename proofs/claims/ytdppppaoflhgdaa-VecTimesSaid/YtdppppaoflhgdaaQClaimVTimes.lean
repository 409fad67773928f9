
/- VecTimes holds for any triple and any power: the law answers true, and its argument reads as before. No conditions. -/
import Derived.Test.YtdppppaoflhgdaaQVt
import Derived.Test.YtdppppaoflhgdaaQM
import Derived.Test.YtdppppaoflhgdaaQVm
import Derived.Test.YtdppppaoflhgdaaQVx
import Derived.IntWalk
import Derived.Test.YtdppppaoflhgdaaQOpen
import Derived.OpenShut
import Derived.Deep.Strs
import Derived.ProofKit
import Derived.Carry
namespace Go.Proofs.Ytdppppaoflhgdaa
open Go.RowKit

def boxS : Res := ⟨0, 14118784831806504960, 4895412794951729152⟩
def boxP : Res := ⟨0, 4318952042648305664, 4895412794951729152⟩
def boxM : Res := ⟨0, 14118784831806504960, 13542324079503081472⟩
theorem boxS_fit : Fit boxS := .of (by decide +kernel)
theorem boxP_fit : Fit boxP := .of (by decide +kernel)
theorem boxM_fit : Fit boxM := .of (by decide +kernel)
theorem unit_box {A : V3} (fA : FitV A) (h : (normV 0 A).e = 0) (hd : (divR boxS (normV 0 A)).e = 0) {x y z : Nat} (i : InV (at3 x y z) A) (wx : In (oneR x) boxS) (wy : In (oneR y) boxS) (wz : In (oneR z) boxS) :
    Fit (unitN x y z) ∧ Fit (divR (oneR x) (unitN x y z)) ∧ Fit (divR (oneR y) (unitN x y z)) ∧ Fit (divR (oneR z) (unitN x y z)) := by
  obtain ⟨fN, iN⟩ := normV_in h rfl i fA
  exact ⟨iN.fit, (div_in wx boxS_fit iN fN hd).fit, (div_in wy boxS_fit iN fN hd).fit, (div_in wz boxS_fit iN fN hd).fit⟩
theorem val_side {x : Nat} (rx : rightB x = true) : 0 ≤ val (rung x) ∧ (val x = val (rung x) ∨ val x = -val (rung x)) := by
  obtain ⟨_, _, _, _, p5⟩ := pos_facts (rung x) (right_rung x rx)
  rw [p5]
  refine ⟨by omega, ?_⟩
  cases hs : sgnB x
  · exact Or.inl (val_pos hs)
  · exact Or.inr (val_negs hs)
theorem bigs : val 14118784831806504960 = -val 4895412794951729152 ∧ val 13542324079503081472 = -val 4318952042648305664 ∧ 0 < val 4318952042648305664 := by decide +kernel
theorem in_S {x : Nat} (lx : x < 18446744073709551616) (rx : rightB x = true) (h : val (rung x) ≤ val 4895412794951729152) : In (oneR x) boxS := by
  obtain ⟨s1, s2⟩ := val_side rx
  obtain ⟨b1, b2, b3⟩ := bigs
  refine ⟨one_fit lx rx, ?_, ?_⟩
  · show val 14118784831806504960 ≤ val x
    rw [b1]; omega
  · show val x ≤ val 4895412794951729152
    omega
theorem in_PM {x : Nat} (lx : x < 18446744073709551616) (rx : rightB x = true) (h : val (rung x) ≤ val 4895412794951729152) (g : val 4318952042648305664 ≤ val (rung x)) : In (oneR x) boxP ∨ In (oneR x) boxM := by
  obtain ⟨s1, s2⟩ := val_side rx
  obtain ⟨b1, b2, b3⟩ := bigs
  rcases s2 with s | s
  · refine Or.inl ⟨one_fit lx rx, ?_, ?_⟩
    · show val 4318952042648305664 ≤ val x
      omega
    · show val x ≤ val 4895412794951729152
      omega
  · refine Or.inr ⟨one_fit lx rx, ?_, ?_⟩
    · show val 14118784831806504960 ≤ val x
      rw [b1]; omega
    · show val x ≤ val 13542324079503081472
      rw [b2]; omega
theorem most_val {x y z : Nat} (h1 : rightB x = true) (h2 : rightB y = true) (h3 : rightB z = true) : mostW x y z < 18446744073709551616 ∧ rightB (mostW x y z) = true ∧ val (mostW x y z) = max (max (val (rung x)) (val (rung y))) (val (rung z)) := by
  obtain ⟨p1, p2⟩ := rung_right x h1
  obtain ⟨q1, q2⟩ := rung_right y h2
  obtain ⟨s1, s2⟩ := rung_right z h3
  obtain ⟨m1, m2, m3⟩ := max_facts _ _ p1 q1 p2 q2
  obtain ⟨n1, n2, n3⟩ := max_facts _ _ m1 s1 m2 s2
  refine ⟨n1, n2, ?_⟩
  show val (maxW (maxW (rung x) (rung y)) (rung z)) = _
  rw [n3, m3]
theorem unit_fits (x y z : Nat) (lx : x < 18446744073709551616) (ly : y < 18446744073709551616) (lz : z < 18446744073709551616) (hU : hasU x y z = true) :
    Fit (unitN x y z) ∧ Fit (divR (oneR x) (unitN x y z)) ∧ Fit (divR (oneR y) (unitN x y z)) ∧ Fit (divR (oneR z) (unitN x y z)) := by
  unfold hasU leB at hU
  simp only [Bool.and_eq_true, decide_eq_true_eq] at hU
  obtain ⟨⟨⟨h1, h2⟩, h3⟩, g1, g2⟩ := hU
  obtain ⟨_, _, mv⟩ := most_val h1 h2 h3
  rw [mv] at g1 g2
  have wx := in_S lx h1 (by omega)
  have wy := in_S ly h2 (by omega)
  have wz := in_S lz h3 (by omega)
  have big : val 4318952042648305664 ≤ val (rung x) ∨ val 4318952042648305664 ≤ val (rung y) ∨ val 4318952042648305664 ≤ val (rung z) := by omega
  rcases big with g | g | g
  · rcases in_PM lx h1 (by omega) g with i | i
    · exact unit_box (A := ⟨boxP, boxS, boxS⟩) ⟨boxP_fit, boxS_fit, boxS_fit⟩ (by decide +kernel) (by decide +kernel) ⟨i, wy, wz⟩ wx wy wz
    · exact unit_box (A := ⟨boxM, boxS, boxS⟩) ⟨boxM_fit, boxS_fit, boxS_fit⟩ (by decide +kernel) (by decide +kernel) ⟨i, wy, wz⟩ wx wy wz
  · rcases in_PM ly h2 (by omega) g with i | i
    · exact unit_box (A := ⟨boxS, boxP, boxS⟩) ⟨boxS_fit, boxP_fit, boxS_fit⟩ (by decide +kernel) (by decide +kernel) ⟨wx, i, wz⟩ wx wy wz
    · exact unit_box (A := ⟨boxS, boxM, boxS⟩) ⟨boxS_fit, boxM_fit, boxS_fit⟩ (by decide +kernel) (by decide +kernel) ⟨wx, i, wz⟩ wx wy wz
  · rcases in_PM lz h3 (by omega) g with i | i
    · exact unit_box (A := ⟨boxS, boxS, boxP⟩) ⟨boxS_fit, boxS_fit, boxP_fit⟩ (by decide +kernel) (by decide +kernel) ⟨wx, wy, i⟩ wx wy wz
    · exact unit_box (A := ⟨boxS, boxS, boxM⟩) ⟨boxS_fit, boxS_fit, boxM_fit⟩ (by decide +kernel) (by decide +kernel) ⟨wx, wy, i⟩ wx wy wz

end Go.Proofs.Ytdppppaoflhgdaa

namespace Go.Proofs.Ytdppppaoflhgdaa
open Go.RowKit

/-- The steps of a length. -/
theorem norm_parts {A : V3} (h : (normV 0 A).e = 0) :
    (sqrR A.x).e = 0 ∧ (sqrR A.y).e = 0 ∧ (sqrR A.z).e = 0 ∧ (addR (sqrR A.x) (sqrR A.y)).e = 0 ∧ (addR (addR (sqrR A.x) (sqrR A.y)) (sqrR A.z)).e = 0 ∧ (sqrtR (addR (addR (sqrR A.x) (sqrR A.y)) (sqrR A.z))).e = 0 ∧
      normV 0 A = sqrtR (addR (addR (sqrR A.x) (sqrR A.y)) (sqrR A.z)) := by
  obtain ⟨h5, _, q6⟩ := st_none (show (stR (nrm5 0 A).e (nrm5 0 A)).e = 0 from h)
  obtain ⟨h4, _, q5⟩ := st_none (show (stA (nrm4 0 A).e (nrm3 0 A) (nrm4 0 A)).e = 0 from h5)
  obtain ⟨h3, _, q4⟩ := st_none (show (stQ (nrm3 0 A).e A.z).e = 0 from h4)
  obtain ⟨h2, _, q3⟩ := st_none (show (stA (nrm2 0 A).e (nrm1 0 A) (nrm2 0 A)).e = 0 from h3)
  obtain ⟨h1, _, q2⟩ := st_none (show (stQ (nrm1 0 A).e A.y).e = 0 from h2)
  obtain ⟨_, _, q1⟩ := st_none (show (stQ 0 A.x).e = 0 from h1)
  have k1 : nrm1 0 A = sqrR A.x := q1
  have k2 : nrm2 0 A = sqrR A.y := q2
  have k3 : nrm3 0 A = addR (nrm1 0 A) (nrm2 0 A) := q3
  have k4 : nrm4 0 A = sqrR A.z := q4
  have k5 : nrm5 0 A = addR (nrm3 0 A) (nrm4 0 A) := q5
  have k6 : normV 0 A = sqrtR (nrm5 0 A) := q6
  rw [k1, k2] at k3
  rw [k3, k4] at k5
  rw [k5] at k6
  rw [k1] at h1
  rw [k2] at h2
  rw [k3] at h3
  rw [k4] at h4
  rw [k5] at h5
  rw [k6] at h
  exact ⟨h1, h2, h4, h3, h5, h, k6⟩

/-- The length of what is within has squares from the least ones' sum to the greatest ones'. -/
theorem norm_squares {A : V3} (fA : FitV A) (h : (normV 0 A).e = 0) {a b c a' b' c' : Int} (ha : val (sqrR A.x).lo * SS ≤ a) (hb : val (sqrR A.y).lo * SS ≤ b) (hc : val (sqrR A.z).lo * SS ≤ c)
    (ha' : a' ≤ val (sqrR A.x).hi * SS) (hb' : b' ≤ val (sqrR A.y).hi * SS) (hc' : c' ≤ val (sqrR A.z).hi * SS) :
    0 ≤ val (normV 0 A).lo ∧ val (normV 0 A).lo * val (normV 0 A).lo ≤ a + b + c ∧ a' + b' + c' ≤ val (normV 0 A).hi * val (normV 0 A).hi := by
  obtain ⟨e1, e2, e3, e4, e5, e6, eN⟩ := norm_parts h
  have f1 := sqr_fit fA.x e1
  have f2 := sqr_fit fA.y e2
  have f3 := sqr_fit fA.z e3
  have f4 := add_fit f1 f2 e4
  have f5 := add_fit f4 f3 e5
  obtain ⟨d4, u4⟩ := add_parts f1 f2 e4
  obtain ⟨d5, u5⟩ := add_parts f4 f3 e5
  obtain ⟨_, ⟨n1, n2, _⟩, ⟨_, n5, _⟩⟩ := sqrt_parts f5 e6
  obtain ⟨_, _, d4, _⟩ := d4.ok
  obtain ⟨_, _, u4, _⟩ := u4.ok
  obtain ⟨_, _, d5, _⟩ := d5.ok
  obtain ⟨_, _, u5, _⟩ := u5.ok
  rw [eN]
  refine ⟨n1, Int.le_trans n2 ?_, Int.le_trans ?_ n5⟩
  · have := Int.mul_le_mul_of_nonneg_right (show val (addR (addR (sqrR A.x) (sqrR A.y)) (sqrR A.z)).lo ≤ val (sqrR A.x).lo + val (sqrR A.y).lo + val (sqrR A.z).lo by omega) ss_pos
    rw [Int.add_mul, Int.add_mul] at this
    omega
  · have := Int.mul_le_mul_of_nonneg_right (show val (sqrR A.x).hi + val (sqrR A.y).hi + val (sqrR A.z).hi ≤ val (addR (addR (sqrR A.x) (sqrR A.y)) (sqrR A.z)).hi by omega) ss_pos
    rw [Int.add_mul, Int.add_mul] at this
    omega

/-- The length of a vector of numbers: less than thirteen spacings wide. -/
theorem norm_wide {x y z : Nat} (lx : x < 18446744073709551616) (ly : y < 18446744073709551616) (lz : z < 18446744073709551616) (rx : rightB x = true) (ry : rightB y = true) (rz : rightB z = true)
    (fN : Fit (unitN x y z)) {j : Nat} {G : Int} (hG : G = ((2 ^ j : Nat) : Int)) (j1 : 600 ≤ j) (j2 : j ≤ 1400) (g1 : 4503599627370496 * G ≤ val (unitN x y z).hi) (g2 : val (unitN x y z).hi < 9007199254740992 * G) :
    val (unitN x y z).hi - val (unitN x y z).lo < 13 * G := by
  have h : (normV 0 (at3 x y z)).e = 0 := fN.e
  obtain ⟨e1, e2, e3, e4, e5, e6, eN⟩ := norm_parts h
  have eN' : unitN x y z = sqrtR (addR (addR (sqrR (oneR x)) (sqrR (oneR y))) (sqrR (oneR z))) := eN
  have fx := one_fit lx rx
  have fy := one_fit ly ry
  have fz := one_fit lz rz
  have e1 : (sqrR (oneR x)).e = 0 := e1
  have e2 : (sqrR (oneR y)).e = 0 := e2
  have e3 : (sqrR (oneR z)).e = 0 := e3
  have e4 : (addR (sqrR (oneR x)) (sqrR (oneR y))).e = 0 := e4
  have e5 : (addR (addR (sqrR (oneR x)) (sqrR (oneR y))) (sqrR (oneR z))).e = 0 := e5
  have e6 : (sqrtR (addR (addR (sqrR (oneR x)) (sqrR (oneR y))) (sqrR (oneR z)))).e = 0 := e6
  clear eN h
  obtain ⟨dx, ux⟩ := sqr_one lx rx e1
  obtain ⟨dy, uy⟩ := sqr_one ly ry e2
  obtain ⟨dz, uz⟩ := sqr_one lz rz e3
  have f1 := sqr_fit fx e1
  have f2 := sqr_fit fy e2
  have f3 := sqr_fit fz e3
  generalize sqrR (oneR x) = q1 at *
  generalize sqrR (oneR y) = q2 at *
  generalize sqrR (oneR z) = q3 at *
  have f4 := add_fit f1 f2 e4
  have f5 := add_fit f4 f3 e5
  obtain ⟨d4, u4⟩ := add_parts f1 f2 e4
  obtain ⟨d5, u5⟩ := add_parts f4 f3 e5
  have fN' := fN
  rw [eN'] at g1 g2 fN' ⊢
  generalize addR q1 q2 = s1 at *
  generalize addR s1 q3 = s at *
  obtain ⟨_, ⟨n1, _, _⟩, ⟨n4, n5, _⟩⟩ := sqrt_parts f5 e6
  have p0 : 0 < G := by rw [hG]; exact Int.natCast_pos.2 (Nat.two_pow_pos j)
  have lN := fN'.le
  obtain ⟨r1, r2⟩ := root_gaps f5 e6 (by omega) (by omega) hG (by omega) g2 (by omega)
  -- the spacing of the squares
  obtain ⟨k, hk⟩ : ∃ k : Nat, k + 1074 = 53 + 2 * j := ⟨53 + 2 * j - 1074, by omega⟩
  obtain ⟨E, hE⟩ : ∃ E : Int, E = ((2 ^ k : Nat) : Int) := ⟨_, rfl⟩
  have ES : E * SS = 9007199254740992 * (G * G) := by
    have hn : 2 ^ k * 2 ^ sq = 9007199254740992 * (2 ^ j * 2 ^ j) := by
      rw [show (9007199254740992 : Nat) = 2 ^ 53 by decide, ← Nat.pow_add, ← Nat.pow_add, ← Nat.pow_add, sq_eq, hk]
      congr 1; omega
    rw [hE, hG]
    show ((2 ^ k : Nat) : Int) * ((2 ^ sq : Nat) : Int) = _
    rw [← Int.natCast_mul, hn, Int.natCast_mul, Int.natCast_mul]
    rfl
  have E0 : 0 < E := by rw [hE]; exact Int.natCast_pos.2 (Nat.two_pow_pos k)
  have S0 : 0 < SS := Int.natCast_pos.2 (Nat.two_pow_pos sq)
  -- nothing is below 0
  have z1 : 0 ≤ val q1.lo := by
    have := dx.ok.2.2.2 0 (by decide) right_0 (by rw [val_nil, Int.zero_mul]; exact self_nonneg _)
    rw [val_nil] at this; exact this
  have z2 : 0 ≤ val q2.lo := by
    have := dy.ok.2.2.2 0 (by decide) right_0 (by rw [val_nil, Int.zero_mul]; exact self_nonneg _)
    rw [val_nil] at this; exact this
  have z3 : 0 ≤ val q3.lo := by
    have := dz.ok.2.2.2 0 (by decide) right_0 (by rw [val_nil, Int.zero_mul]; exact self_nonneg _)
    rw [val_nil] at this; exact this
  have z4 : 0 ≤ val s1.lo := by
    have := d4.ok.2.2.2 0 (by decide) right_0 (by rw [val_nil]; omega)
    rw [val_nil] at this; exact this
  have l1 := f1.le
  have l2 := f2.le
  have l3 := f3.le
  have l4 := f4.le
  have l5 := f5.le
  have o4 := u4.ok.2.2.1
  have o5 := u5.ok.2.2.1
  have z5 : 0 ≤ val s.lo := by
    have := d5.ok.2.2.2 0 (by decide) right_0 (by rw [val_nil]; omega)
    rw [val_nil] at this; exact this
  -- the greatest sum is below 2^53 spacings
  have top : val s.hi < 9007199254740992 * E := by
    refine Int.lt_of_mul_lt_mul_right ?_ (Int.le_of_lt S0)
    refine Int.lt_of_le_of_lt n5 ?_
    rw [Int.mul_assoc, ES]
    have a1 : val (sqrtR s).hi * val (sqrtR s).hi ≤ val (sqrtR s).hi * (9007199254740992 * G) := Int.mul_le_mul_of_nonneg_left (by omega) n4
    have a2 : val (sqrtR s).hi * (9007199254740992 * G) < 9007199254740992 * G * (9007199254740992 * G) := Int.mul_lt_mul_of_pos_right g2 (by omega)
    have a3 : 9007199254740992 * G * (9007199254740992 * G) = 9007199254740992 * (9007199254740992 * (G * G)) := by grind
    omega
  have k1 : 53 ≤ k := by omega
  have k2 : k ≤ 1899 := by omega
  have sp : 0 < 2 ^ sq := Nat.two_pow_pos sq
  have b1 := up_mul ux k1 k2 sp hE (by omega) (by omega)
  have b2 := up_mul uy k1 k2 sp hE (by omega) (by omega)
  have b3 := up_mul uz k1 k2 sp hE (by omega) (by omega)
  have b4 := up_mul u4 k1 k2 (by decide) hE (by omega) (by omega)
  have b5 := up_mul u5 k1 k2 (by decide) hE (by omega) (by omega)
  have c1 := down_mul dx k1 k2 sp hE z1 (by omega)
  have c2 := down_mul dy k1 k2 sp hE z2 (by omega)
  have c3 := down_mul dz k1 k2 sp hE z3 (by omega)
  have c4 := down_mul d4 k1 k2 (by decide) hE z4 (by omega)
  have c5 := down_mul d5 k1 k2 (by decide) hE z5 (by omega)
  have b1 : val q1.hi * SS < val x * val x + E * SS := b1
  have b2 : val q2.hi * SS < val y * val y + E * SS := b2
  have b3 : val q3.hi * SS < val z * val z + E * SS := b3
  have c1 : val x * val x < val q1.lo * SS + E * SS := c1
  have c2 : val y * val y < val q2.lo * SS + E * SS := c2
  have c3 : val z * val z < val q3.lo * SS + E * SS := c3
  have t1 : val s.hi * SS ≤ (val q1.hi + val q2.hi + val q3.hi + 2 * E) * SS := Int.mul_le_mul_of_nonneg_right (by omega) (by omega)
  have t2 : (val q1.lo + val q2.lo + val q3.lo) * SS ≤ (val s.lo + 2 * E) * SS := Int.mul_le_mul_of_nonneg_right (by omega) (by omega)
  rw [Int.add_mul, Int.add_mul, Int.add_mul, Int.mul_assoc] at t1
  rw [Int.add_mul, Int.add_mul, Int.add_mul, Int.mul_assoc] at t2
  have wide : val s.hi * SS < val s.lo * SS + 90071992547409920 * (G * G) := by omega
  have := gap_roots (a := val (sqrtR s).hi - G) (b := val (sqrtR s).lo + G) p0 (by omega) (by omega) (by omega)
  omega

end Go.Proofs.Ytdppppaoflhgdaa

namespace Go.Proofs.Ytdppppaoflhgdaa
open Go.RowKit

theorem log_size {n t u : Nat} (h1 : 2 ^ t ≤ n) (h2 : n < 2 ^ u) (ht : 52 ≤ t) : ∃ j : Nat, t ≤ j + 52 ∧ j + 52 < u ∧ 4503599627370496 * 2 ^ j ≤ n ∧ n < 9007199254740992 * 2 ^ j := by
  have h0 : n ≠ 0 := by have := Nat.two_pow_pos t; omega
  have l1 : 2 ^ n.log2 ≤ n := Nat.log2_self_le h0
  have l2 : n < 2 ^ (n.log2 + 1) := Nat.lt_log2_self
  have a1 : t < n.log2 + 1 := (Nat.pow_lt_pow_iff_right (by decide : 1 < 2)).1 (by omega)
  have a2 : n.log2 < u := (Nat.pow_lt_pow_iff_right (by decide : 1 < 2)).1 (by omega)
  obtain ⟨j, hj⟩ : ∃ j, n.log2 = j + 52 := ⟨n.log2 - 52, by omega⟩
  rw [hj] at l1 l2 a1 a2
  refine ⟨j, by omega, a2, ?_, ?_⟩
  · rw [Nat.pow_add] at l1; rw [Nat.mul_comm]; exact l1
  · rw [show j + 52 + 1 = j + 53 by omega, Nat.pow_add] at l2; rw [Nat.mul_comm]; exact l2

theorem part_wide {dl dh D G lo hi T : Int} (hD : 0 < D) (hG : 0 < G) (h1 : (dh - D) * lo < T) (h2 : T < (dl + D) * hi) (_d0 : 0 ≤ dl) (d1 : dl ≤ 4503599627370496 * D) (w : hi - lo < 13 * G) (g : 4503599627370496 * G ≤ hi) (l : lo ≤ hi) : dh - dl < 16 * D := by
  rcases Int.lt_or_le (dh - dl) (16 * D) with c | c
  · exact c
  · exfalso
    have a1 : (dl + 15 * D) * lo ≤ (dh - D) * lo := Int.mul_le_mul_of_nonneg_right (by omega) (by omega)
    have a2 : (dl + D) * hi = (dl + D) * lo + (dl + D) * (hi - lo) := by grind
    have a3 : (dl + 15 * D) * lo = (dl + D) * lo + 14 * (D * lo) := by grind
    have a4 : (dl + D) * (hi - lo) ≤ (4503599627370497 * D) * (hi - lo) := Int.mul_le_mul_of_nonneg_right (by omega) (by omega)
    have a5 : (4503599627370497 * D) * (hi - lo) ≤ (4503599627370497 * D) * (13 * G) := Int.mul_le_mul_of_nonneg_left (by omega) (by omega)
    have a6 : (4503599627370497 * D) * (13 * G) = 58546795155816461 * (D * G) := by grind
    have a7 : D * (4503599627370483 * G) ≤ D * lo := Int.mul_le_mul_of_nonneg_left (by omega) (by omega)
    have a8 : D * (4503599627370483 * G) = 4503599627370483 * (D * G) := by grind
    have a9 : 0 < D * G := Int.mul_pos hD hG
    generalize D * G = u at *
    generalize D * lo = v at *
    omega

/-- 2^-52; what is told of 1, -1, 2 and -2. -/
def DD : Int := ((2 ^ 1022 : Nat) : Int)
theorem dd_pos : 0 < DD := Int.natCast_pos.2 (Nat.two_pow_pos 1022)
theorem ss_pow {k : Nat} (hk : k + 52 = sq) : SS = 4503599627370496 * ((2 ^ k : Nat) : Int) := by
  have h : (2 ^ sq : Nat) = 4503599627370496 * 2 ^ k := by
    rw [← hk, Nat.pow_add, Nat.mul_comm]
  show ((2 ^ sq : Nat) : Int) = _
  rw [h, Int.natCast_mul]; rfl
theorem ss_dd : SS = 4503599627370496 * DD := by
  have h := ss_pow (k := 1022) (by rw [sq_eq])
  unfold DD
  exact h
theorem ones : val u1 = SS ∧ val m1 = -SS ∧ val 4611686018427387904 = 2 * SS ∧ val 13835058055282163712 = -(2 * SS) := by decide +kernel

/-- A part of a unit vector: between m and M, of the number's sign. -/
structure PartOf (x : Nat) (n p : Res) (m M : Int) : Prop where
  low : 0 ≤ m
  le : m ≤ M
  top : M ≤ SS
  under : ∃ a : Int, (a = val x ∨ a = -val x) ∧ 0 ≤ a ∧ m * val n.hi ≤ a * SS ∧ (M = SS ∨ a * SS ≤ M * val n.lo)
  wide : M - m ≤ 16 * DD
  side : (0 ≤ val x ∧ val p.lo = m ∧ val p.hi = M) ∨ (val x ≤ 0 ∧ val p.lo = -M ∧ val p.hi = -m)
  nil : val x = 0 → M = 0

theorem bound_ends {r : Res} (f : Fit r) (h1 : val r.lo ≤ SS) (h2 : -SS ≤ val r.hi) : val (boundR r).lo = max (val r.lo) (-SS) ∧ val (boundR r).hi = min (val r.hi) SS := by
  obtain ⟨x1, x2, x3⟩ := max_facts r.lo m1 f.lo (by decide) f.rlo (by decide)
  obtain ⟨y1, y2, y3⟩ := min_facts r.hi u1 f.hi (by decide) f.rhi (by decide)
  obtain ⟨o1, o2, _, _⟩ := ones
  have l := f.le
  have s0 : 0 ≤ SS := ss_pos
  have hb : bothB r.lo r.hi m1 u1 = true := by
    unfold bothB leB
    refine decide_eq_true ?_
    rw [x3, y3, o1, o2]; omega
  have e1 : (boundR r).lo = maxW r.lo m1 := by
    show (if bothB r.lo r.hi m1 u1 then maxW r.lo m1 else 0) = _
    rw [if_pos hb]
  have e2 : (boundR r).hi = minW r.hi u1 := by
    show (if bothB r.lo r.hi m1 u1 then minW r.hi u1 else 0) = _
    rw [if_pos hb]
  rw [e1, e2, x3, y3, o1, o2]
  exact ⟨rfl, rfl⟩

theorem part_of {x : Nat} {n : Res} (rx : rightB x = true) (fn : Fit n) (hn : 0 < val n.lo) (fd : Fit (divR (oneR x) n)) (h1 : val x ≤ val n.hi) (h2 : -val x ≤ val n.hi) {G : Int} (hG : 0 < G) (w : val n.hi - val n.lo < 13 * G) (g : 4503599627370496 * G ≤ val n.hi) :
    ∃ m M : Int, PartOf x n (unitPart x n) m M := by
  obtain ⟨s, t, s0, t0, es, et, d, u⟩ := div_parts rx fn hn fd.e
  obtain ⟨o1, o2, o3, o4⟩ := ones
  have l := fn.le
  have S0 : 0 ≤ SS := ss_pos
  have hS := ss_dd
  have hD := dd_pos
  have lR := fd.le
  have b1022 : (53 : Nat) ≤ 1022 ∧ (1022 : Nat) ≤ 1899 := by decide
  have dle := d.ok.2.2.1
  have ule := u.ok.2.2.1
  have dbest := d.ok.2.2.2
  have ubest := u.ok.2.2.2
  have ug := fun h1 h2 => up_gap b1022.1 b1022.2 t0 u h1 h2
  have dg := fun h1 h2 => down_gap b1022.1 b1022.2 s0 d h1 h2
  have eD : ((2 ^ 1022 : Nat) : Int) = DD := rfl
  rw [eD] at ug dg
  have sp : (0 : Int) < s := Int.natCast_pos.2 s0
  have tp : (0 : Int) < t := Int.natCast_pos.2 t0
  have be := fun h1 h2 => bound_ends fd h1 h2
  have ep : unitPart x n = boundR (divR (oneR x) n) := rfl
  rw [ep]
  generalize boundR (divR (oneR x) n) = p at *
  generalize divR (oneR x) n = q at *
  clear d u fd ep
  rcases Int.le_total 0 (val x) with c | c
  · rw [if_pos c] at es et
    rw [es] at dle dbest dg sp
    rw [et] at ule ubest ug tp
    have xs : 0 ≤ val x * SS := Int.mul_nonneg c S0
    have q0 : 0 ≤ val q.lo := by
      have := dbest 0 (by decide) right_0 (by rw [val_nil, Int.zero_mul]; exact xs)
      rw [val_nil] at this; exact this
    have q1 : val q.lo ≤ SS := by
      refine Int.le_of_mul_le_mul_right (Int.le_trans dle ?_) sp
      rw [Int.mul_comm SS]; exact Int.mul_le_mul_of_nonneg_right h1 S0
    have q2 : val q.hi ≤ 2 * SS := by
      rw [← o3]
      refine ubest _ (by decide) (by decide) ?_
      rw [o3]
      have k1 : val x * SS ≤ (2 * val n.lo) * SS := Int.mul_le_mul_of_nonneg_right (by omega) S0
      have k2 : 2 * SS * val n.lo = (2 * val n.lo) * SS := by grind
      omega
    have wide := part_wide hD hG (ug (by omega) (by omega)) (dg (by omega) (by omega)) q0 (by omega) w g l
    obtain ⟨p1, p2⟩ := be q1 (by omega)
    have nil : val x = 0 → val q.hi ≤ 0 := fun hx => by
      have := ubest 0 (by decide) right_0 (by rw [hx, val_nil, Int.zero_mul, Int.zero_mul]; exact Int.le_refl _)
      rw [val_nil] at this; exact this
    refine ⟨val q.lo, min (val q.hi) SS, ⟨q0, by omega, by omega, ⟨val x, Or.inl rfl, c, dle, ?_⟩, by omega, Or.inl ⟨c, by omega, p2⟩, fun hx => by have := nil hx; omega⟩⟩
    rcases Int.le_total SS (val q.hi) with g | g
    · exact Or.inl (by omega)
    · right
      rw [Int.min_eq_left g]; exact ule
  · have es' : (s : Int) = val n.lo ∨ val x = 0 := by
      rcases Int.lt_or_le (val x) 0 with k | k
      · rw [if_neg (by omega)] at es; exact Or.inl es
      · exact Or.inr (by omega)
    rcases es' with es' | hx
    · rcases Int.lt_or_le (val x) 0 with k | k
      · rw [if_neg (by omega)] at es et
        rw [es] at dle dbest dg sp
        rw [et] at ule ubest ug tp
        have xs : val x * SS ≤ 0 := Int.mul_nonpos_of_nonpos_of_nonneg c S0
        have q0 : val q.hi ≤ 0 := by
          have := ubest 0 (by decide) right_0 (by rw [val_nil, Int.zero_mul]; exact xs)
          rw [val_nil] at this; exact this
        have nx : -val x * SS = -(val x * SS) := Int.neg_mul _ _
        have q1 : -SS ≤ val q.hi := by
          have k1 : -val x * SS ≤ val n.hi * SS := Int.mul_le_mul_of_nonneg_right h2 S0
          have k2 : -val q.hi * val n.hi ≤ SS * val n.hi := by
            rw [Int.neg_mul, Int.mul_comm SS]; omega
          have := Int.le_of_mul_le_mul_right k2 tp
          omega
        have q2 : -(2 * SS) ≤ val q.lo := by
          rw [← o4]
          refine dbest _ (by decide) (by decide) ?_
          rw [o4]
          have k1 : -val x * SS ≤ (2 * val n.lo) * SS := Int.mul_le_mul_of_nonneg_right (by omega) S0
          have k2 : -(2 * SS) * val n.lo = -((2 * val n.lo) * SS) := by grind
          omega
        have g1 := ug (by omega) (by omega)
        have g2 := dg (by omega) (by omega)
        have k1 : (-val q.lo - DD) * val n.lo < -(val x * SS) := by
          have : (-val q.lo - DD) * val n.lo = -((val q.lo + DD) * val n.lo) := by grind
          omega
        have k2 : -(val x * SS) < (-val q.hi + DD) * val n.hi := by
          have : (-val q.hi + DD) * val n.hi = -((val q.hi - DD) * val n.hi) := by grind
          omega
        have wide := part_wide hD hG k1 k2 (by omega) (by omega) w g l
        obtain ⟨p1, p2⟩ := be (by omega) q1
        have m1 : -val q.hi * val n.hi = -(val q.hi * val n.hi) := Int.neg_mul _ _
        have m2 : -val q.lo * val n.lo = -(val q.lo * val n.lo) := Int.neg_mul _ _
        refine ⟨-val q.hi, min (-val q.lo) SS, ⟨by omega, by omega, by omega, ⟨-val x, Or.inr rfl, by omega, by omega, ?_⟩, by omega, Or.inr ⟨c, by omega, by omega⟩, fun hx => by omega⟩⟩
        rcases Int.le_total SS (-val q.lo) with g | g
        · exact Or.inl (by omega)
        · right
          rw [Int.min_eq_left g]; omega
      · have hx : val x = 0 := by omega
        have q0 : 0 ≤ val q.lo := by
          have := dbest 0 (by decide) right_0 (by rw [val_nil, hx, Int.zero_mul, Int.zero_mul]; exact Int.le_refl _)
          rw [val_nil] at this; exact this
        have q1 : val q.hi ≤ 0 := by
          have := ubest 0 (by decide) right_0 (by rw [val_nil, hx, Int.zero_mul, Int.zero_mul]; exact Int.le_refl _)
          rw [val_nil] at this; exact this
        obtain ⟨p1, p2⟩ := be (by omega) (by omega)
        exact ⟨0, 0, ⟨by omega, by omega, by omega, ⟨0, Or.inl hx.symm, by omega, by omega, Or.inr (by omega)⟩, by omega, Or.inl ⟨by omega, by omega, by omega⟩, fun _ => rfl⟩⟩
    · have q0 : 0 ≤ val q.lo := by
        have := dbest 0 (by decide) right_0 (by rw [val_nil, hx, Int.zero_mul, Int.zero_mul]; exact Int.le_refl _)
        rw [val_nil] at this; exact this
      have q1 : val q.hi ≤ 0 := by
        have := ubest 0 (by decide) right_0 (by rw [val_nil, hx, Int.zero_mul, Int.zero_mul]; exact Int.le_refl _)
        rw [val_nil] at this; exact this
      obtain ⟨p1, p2⟩ := be (by omega) (by omega)
      exact ⟨0, 0, ⟨by omega, by omega, by omega, ⟨0, Or.inl hx.symm, by omega, by omega, Or.inr (by omega)⟩, by omega, Or.inl ⟨by omega, by omega, by omega⟩, fun _ => rfl⟩⟩

end Go.Proofs.Ytdppppaoflhgdaa

namespace Go.Proofs.Ytdppppaoflhgdaa
open Go.RowKit

def bigV : V3 := ⟨boxS, boxS, boxS⟩
def oneV : V3 := ⟨⟨0, 13830554455654793216, 4607182418800017408⟩, ⟨0, 13830554455654793216, 4607182418800017408⟩, ⟨0, 13830554455654793216, 4607182418800017408⟩⟩
theorem big_facts : (normV 0 bigV).e = 0 ∧ val (normV 0 bigV).hi < val 4906671693080363008 ∧ (normV 0 oneV).e = 0 ∧ 0 < val 4318952042648305664 := by decide +kernel
theorem pow_low : val 4318952042648305664 = ((2 ^ 1010 : Nat) : Int) := by decide +kernel
theorem pow_high : val 4906671693080363008 ≤ ((2 ^ 1160 : Nat) : Int) := by decide +kernel

theorem mul_self_le {a b : Int} (h0 : 0 ≤ a) (h : a ≤ b) : a * a ≤ b * b := Int.mul_le_mul h h h0 (by omega)
theorem le_of_self {a b : Int} (hb : 0 ≤ b) (h : a * a ≤ b * b) : a ≤ b := by
  rcases Int.lt_or_le b a with g | g
  · have k1 : b * b ≤ b * a := Int.mul_le_mul_of_nonneg_left (by omega) hb
    have k2 : b * a < a * a := Int.mul_lt_mul_of_pos_right g (by omega)
    omega
  · exact g
theorem abs_le {a b : Int} (hb : 0 ≤ b) (h : a * a ≤ b * b) : a ≤ b ∧ -a ≤ b := ⟨le_of_self hb h, le_of_self hb (by rw [Int.neg_mul_neg]; exact h)⟩

/-- The length of the numbers: its squares, and its width. -/
theorem unit_norm (x y z : Nat) (lx : x < 18446744073709551616) (ly : y < 18446744073709551616) (lz : z < 18446744073709551616) (hU : hasU x y z = true) :
    0 < val (unitN x y z).lo ∧ val (unitN x y z).lo * val (unitN x y z).lo ≤ val x * val x + val y * val y + val z * val z ∧ val x * val x + val y * val y + val z * val z ≤ val (unitN x y z).hi * val (unitN x y z).hi ∧
      ∃ G : Int, 0 < G ∧ val (unitN x y z).hi - val (unitN x y z).lo < 13 * G ∧ 4503599627370496 * G ≤ val (unitN x y z).hi := by
  obtain ⟨fN, _⟩ := unit_fits x y z lx ly lz hU
  unfold hasU leB at hU
  simp only [Bool.and_eq_true, decide_eq_true_eq] at hU
  obtain ⟨⟨⟨h1, h2⟩, h3⟩, g1, g2⟩ := hU
  obtain ⟨_, _, mv⟩ := most_val h1 h2 h3
  rw [mv] at g1 g2
  obtain ⟨b1, b2, _, b4⟩ := big_facts
  have wx := in_S lx h1 (by omega)
  have wy := in_S ly h2 (by omega)
  have wz := in_S lz h3 (by omega)
  obtain ⟨_, iN⟩ := normV_in (a := at3 x y z) b1 rfl ⟨wx, wy, wz⟩ (show FitV bigV from ⟨boxS_fit, boxS_fit, boxS_fit⟩)
  have iN : val (unitN x y z).hi ≤ val (normV 0 bigV).hi := iN.hi
  have eN : (normV 0 (at3 x y z)).e = 0 := fN.e
  obtain ⟨e1, e2, e3, _⟩ := norm_parts eN
  have dx := sqr_one lx h1 e1
  have dy := sqr_one ly h2 e2
  have dz := sqr_one lz h3 e3
  have sq1 := norm_squares (A := at3 x y z) ⟨one_fit lx h1, one_fit ly h2, one_fit lz h3⟩ eN dx.1.ok.2.2.1 dy.1.ok.2.2.1 dz.1.ok.2.2.1 dx.2.ok.2.2.1 dy.2.ok.2.2.1 dz.2.ok.2.2.1
  obtain ⟨n0, n1, n2⟩ := sq1
  have n0 : 0 ≤ val (unitN x y z).lo := n0
  have n1 : val (unitN x y z).lo * val (unitN x y z).lo ≤ val x * val x + val y * val y + val z * val z := n1
  have n2 : val x * val x + val y * val y + val z * val z ≤ val (unitN x y z).hi * val (unitN x y z).hi := n2
  have lN := fN.le
  -- no less than the greatest of all
  have s1 := self_nonneg (val x)
  have s2 := self_nonneg (val y)
  have s3 := self_nonneg (val z)
  have a1 := abs_le (a := val x) (b := val (unitN x y z).hi) (by omega) (by omega)
  have a2 := abs_le (a := val y) (b := val (unitN x y z).hi) (by omega) (by omega)
  have a3 := abs_le (a := val z) (b := val (unitN x y z).hi) (by omega) (by omega)
  obtain ⟨r1, t1⟩ := val_side h1
  obtain ⟨r2, t2⟩ := val_side h2
  obtain ⟨r3, t3⟩ := val_side h3
  have low : val 4318952042648305664 ≤ val (unitN x y z).hi := by omega
  have high : val (unitN x y z).hi < val 4906671693080363008 := by omega
  obtain ⟨n, hn⟩ : ∃ n : Nat, val (unitN x y z).hi = (n : Int) := ⟨(val (unitN x y z).hi).toNat, by omega⟩
  have p1 := pow_low
  have p2 := pow_high
  have q1 : 2 ^ 1010 ≤ n := Int.ofNat_le.1 (by rw [← hn]; exact p1 ▸ low)
  have q2 : n < 2 ^ 1160 := Int.ofNat_lt.1 (by rw [← hn]; exact Int.lt_of_lt_of_le high p2)
  obtain ⟨j, j1, j2, j3, j4⟩ := log_size q1 q2 (by decide)
  obtain ⟨G, hG⟩ : ∃ G : Int, G = ((2 ^ j : Nat) : Int) := ⟨_, rfl⟩
  have k1 : 4503599627370496 * G ≤ val (unitN x y z).hi := by
    rw [hn, hG]; exact Int.ofNat_le.2 j3
  have k2 : val (unitN x y z).hi < 9007199254740992 * G := by
    rw [hn, hG]; exact Int.ofNat_lt.2 j4
  have G0 : 0 < G := by rw [hG]; exact Int.natCast_pos.2 (Nat.two_pow_pos j)
  have wide := norm_wide lx ly lz h1 h2 h3 fN hG (by omega) (by omega) k1 k2
  exact ⟨by omega, n1, n2, G, G0, wide, k1⟩

theorem one_part {x : Nat} {n p : Res} {m M : Int} (h : PartOf x n p m M) (fp : Fit p) : In p ⟨0, 13830554455654793216, 4607182418800017408⟩ := by
  obtain ⟨o1, o2, _, _⟩ := ones
  have h1 := h.low
  have h2 := h.le
  have h3 := h.top
  refine ⟨fp, ?_, ?_⟩
  · show val m1 ≤ val p.lo
    rw [o2]; rcases h.side with ⟨_, a, b⟩ | ⟨_, a, b⟩ <;> omega
  · show val p.hi ≤ val u1
    rw [o1]; rcases h.side with ⟨_, a, b⟩ | ⟨_, a, b⟩ <;> omega
theorem part_sqr {x : Nat} {n p : Res} {m M : Int} (h : PartOf x n p m M) (fp : Fit p) (he : (sqrR p).e = 0) : val (sqrR p).lo * SS ≤ m * m ∧ M * M ≤ val (sqrR p).hi * SS := by
  obtain ⟨a, A, e1, e2, _, _, d, u⟩ := sqr_parts fp he
  have h1 := h.low
  have h2 := h.le
  have k : a = m ∧ A = M := by
    rcases h.side with ⟨_, g1, g2⟩ | ⟨_, g1, g2⟩
    · rw [g1, g2] at e1 e2
      rw [if_pos h1] at e1
      omega
    · rw [g1, g2] at e1 e2
      refine ⟨?_, by omega⟩
      rw [e1]; split <;> (try split) <;> omega
  rw [k.1] at d
  rw [k.2] at u
  exact ⟨d.ok.2.2.1, u.ok.2.2.1⟩

/-- Squares of parts, times the length's. -/
theorem low_sum {m1 m2 m3 a1 a2 a3 H S : Int} (p1 : 0 ≤ m1) (p2 : 0 ≤ m2) (p3 : 0 ≤ m3) (hH : 0 < H) (h1 : m1 * H ≤ a1 * S) (h2 : m2 * H ≤ a2 * S) (h3 : m3 * H ≤ a3 * S) (hR : a1 * a1 + a2 * a2 + a3 * a3 ≤ H * H) : m1 * m1 + m2 * m2 + m3 * m3 ≤ S * S := by
  have k1 := mul_self_le (Int.mul_nonneg p1 (Int.le_of_lt hH)) h1
  have k2 := mul_self_le (Int.mul_nonneg p2 (Int.le_of_lt hH)) h2
  have k3 := mul_self_le (Int.mul_nonneg p3 (Int.le_of_lt hH)) h3
  have hh : 0 < H * H := Int.mul_pos hH hH
  refine Int.le_of_mul_le_mul_right ?_ hh
  have g1 : (m1 * m1 + m2 * m2 + m3 * m3) * (H * H) = m1 * H * (m1 * H) + m2 * H * (m2 * H) + m3 * H * (m3 * H) := by grind
  have g2 : a1 * S * (a1 * S) + a2 * S * (a2 * S) + a3 * S * (a3 * S) = (a1 * a1 + a2 * a2 + a3 * a3) * (S * S) := by grind
  have g3 := Int.mul_le_mul_of_nonneg_right hR (self_nonneg S)
  have g4 : H * H * (S * S) = S * S * (H * H) := by grind
  omega
theorem high_sum {m1 m2 m3 a1 a2 a3 L S : Int} (hS : 0 ≤ S) (n1 : 0 ≤ a1) (n2 : 0 ≤ a2) (n3 : 0 ≤ a3) (hL : 0 < L) (h1 : m1 = S ∨ a1 * S ≤ m1 * L) (h2 : m2 = S ∨ a2 * S ≤ m2 * L) (h3 : m3 = S ∨ a3 * S ≤ m3 * L) (hR : L * L ≤ a1 * a1 + a2 * a2 + a3 * a3) : S * S ≤ m1 * m1 + m2 * m2 + m3 * m3 := by
  have s1 := self_nonneg m1
  have s2 := self_nonneg m2
  have s3 := self_nonneg m3
  rcases h1 with rfl | h1
  · omega
  rcases h2 with rfl | h2
  · omega
  rcases h3 with rfl | h3
  · omega
  have k1 := mul_self_le (Int.mul_nonneg n1 hS) h1
  have k2 := mul_self_le (Int.mul_nonneg n2 hS) h2
  have k3 := mul_self_le (Int.mul_nonneg n3 hS) h3
  have hh : 0 < L * L := Int.mul_pos hL hL
  refine Int.le_of_mul_le_mul_right ?_ hh
  have g1 : (m1 * m1 + m2 * m2 + m3 * m3) * (L * L) = m1 * L * (m1 * L) + m2 * L * (m2 * L) + m3 * L * (m3 * L) := by grind
  have g2 : a1 * S * (a1 * S) + a2 * S * (a2 * S) + a3 * S * (a3 * S) = (a1 * a1 + a2 * a2 + a3 * a3) * (S * S) := by grind
  have g3 := Int.mul_le_mul_of_nonneg_right hR (self_nonneg S)
  have g4 : L * L * (S * S) = S * S * (L * L) := by grind
  omega

/-- What the law asks of a triple that has one. -/
theorem unit_all (x y z : Nat) (lx : x < 18446744073709551616) (ly : y < 18446744073709551616) (lz : z < 18446744073709551616) (hU : hasU x y z = true) :
    FitV (unitV x y z) ∧ (normV 0 (unitV x y z)).e = 0 ∧ val (normV 0 (unitV x y z)).lo ≤ SS ∧ SS ≤ val (normV 0 (unitV x y z)).hi ∧
      (∃ m M, PartOf x (unitN x y z) (unitV x y z).x m M) ∧ (∃ m M, PartOf y (unitN x y z) (unitV x y z).y m M) ∧ (∃ m M, PartOf z (unitN x y z) (unitV x y z).z m M) := by
  obtain ⟨n0, n1, n2, G, G0, w, g⟩ := unit_norm x y z lx ly lz hU
  obtain ⟨fN, f1, f2, f3⟩ := unit_fits x y z lx ly lz hU
  unfold hasU leB at hU
  simp only [Bool.and_eq_true, decide_eq_true_eq] at hU
  obtain ⟨⟨⟨h1, h2⟩, h3⟩, _, _⟩ := hU
  have lN := fN.le
  have s1 := self_nonneg (val x)
  have s2 := self_nonneg (val y)
  have s3 := self_nonneg (val z)
  have a1 := abs_le (a := val x) (b := val (unitN x y z).hi) (by omega) (by omega)
  have a2 := abs_le (a := val y) (b := val (unitN x y z).hi) (by omega) (by omega)
  have a3 := abs_le (a := val z) (b := val (unitN x y z).hi) (by omega) (by omega)
  obtain ⟨mx, Mx, px⟩ := part_of h1 fN n0 f1 a1.1 a1.2 G0 w g
  obtain ⟨my, My, py⟩ := part_of h2 fN n0 f2 a2.1 a2.2 G0 w g
  obtain ⟨mz, Mz, pz⟩ := part_of h3 fN n0 f3 a3.1 a3.2 G0 w g
  have bx := (bound_facts f1).1
  have bY := (bound_facts f2).1
  have bz := (bound_facts f3).1
  have hV : unitV x y z = ⟨unitPart x (unitN x y z), unitPart y (unitN x y z), unitPart z (unitN x y z)⟩ := rfl
  have fV : FitV (unitV x y z) := ⟨bx, bY, bz⟩
  have i1 : InV (unitV x y z) oneV := ⟨one_part px bx, one_part py bY, one_part pz bz⟩
  have fO : FitV oneV := ⟨.of (by decide +kernel), .of (by decide +kernel), .of (by decide +kernel)⟩
  obtain ⟨_, _, b3, _⟩ := big_facts
  obtain ⟨_, iO⟩ := normV_in (a := unitV x y z) b3 rfl i1 fO
  have eV : (normV 0 (unitV x y z)).e = 0 := iO.fit.e
  obtain ⟨e1, e2, e3, _⟩ := norm_parts eV
  have qx := part_sqr px bx e1
  have qy := part_sqr py bY e2
  have qz := part_sqr pz bz e3
  obtain ⟨_, k1, k2⟩ := norm_squares fV eV qx.1 qy.1 qz.1 qx.2 qy.2 qz.2
  obtain ⟨cx, vx, cx0, ux, tx⟩ := px.under
  obtain ⟨cy, vy, cy0, uy, ty⟩ := py.under
  obtain ⟨cz, vz, cz0, uz, tz⟩ := pz.under
  have rx : cx * cx = val x * val x := by rcases vx with e | e <;> rw [e]; rw [Int.neg_mul_neg]
  have ry : cy * cy = val y * val y := by rcases vy with e | e <;> rw [e]; rw [Int.neg_mul_neg]
  have rz : cz * cz = val z * val z := by rcases vz with e | e <;> rw [e]; rw [Int.neg_mul_neg]
  have lo := low_sum px.low py.low pz.low (by omega) ux uy uz (by rw [rx, ry, rz]; exact n2)
  have hi := high_sum ss_pos cx0 cy0 cz0 n0 tx ty tz (by rw [rx, ry, rz]; exact n1)
  have top : 0 ≤ val (normV 0 (unitV x y z)).hi := by
    have := iO.fit.le
    have k3 := norm_squares fV eV qx.1 qy.1 qz.1 qx.2 qy.2 qz.2
    omega
  exact ⟨fV, eV, le_of_self ss_pos (by omega), le_of_self top (by omega), ⟨mx, Mx, px⟩, ⟨my, My, py⟩, ⟨mz, Mz, pz⟩⟩

end Go.Proofs.Ytdppppaoflhgdaa

namespace Go.Proofs.Ytdppppaoflhgdaa
open Go.RowKit

theorem res_same {r s : Res} (h : r.e = s.e) (h1 : r.lo = s.lo) (h2 : r.hi = s.hi) : r = s := by
  obtain ⟨e, lo, hi⟩ := r
  obtain ⟨e', lo', hi'⟩ := s
  simp only at h h1 h2
  rw [h, h1, h2]

/-- When a triple has a unit vector, in numbers. -/
theorem hasU_iff {x y z : Nat} : hasU x y z = true ↔ (rightB x = true ∧ rightB y = true ∧ rightB z = true ∧ val 4318952042648305664 ≤ max (max (val (rung x)) (val (rung y))) (val (rung z)) ∧ max (max (val (rung x)) (val (rung y))) (val (rung z)) ≤ val 4895412794951729152) := by
  unfold hasU leB
  simp only [Bool.and_eq_true, decide_eq_true_eq]
  constructor
  · rintro ⟨⟨⟨h1, h2⟩, h3⟩, g1, g2⟩
    obtain ⟨_, _, mv⟩ := most_val h1 h2 h3
    rw [mv] at g1 g2
    exact ⟨h1, h2, h3, g1, g2⟩
  · rintro ⟨h1, h2, h3, g1, g2⟩
    obtain ⟨_, _, mv⟩ := most_val h1 h2 h3
    rw [mv]
    exact ⟨⟨⟨h1, h2⟩, h3⟩, g1, g2⟩
theorem rung_turn {x y : Nat} (rx : rightB x = true) (ry : rightB y = true) (h : val y = -val x) : val (rung y) = val (rung x) := by
  obtain ⟨a1, a2⟩ := val_side rx
  obtain ⟨b1, b2⟩ := val_side ry
  omega
theorem hasU_turn {x y z x' y' z' : Nat} (h : hasU x y z = true) (rx : rightB x' = true) (ry : rightB y' = true) (rz : rightB z' = true) (ex : val x' = -val x) (ey : val y' = -val y) (ez : val z' = -val z) : hasU x' y' z' = true := by
  rw [hasU_iff] at h ⊢
  obtain ⟨h1, h2, h3, g⟩ := h
  rw [rung_turn h1 rx ex, rung_turn h2 ry ey, rung_turn h3 rz ez]
  exact ⟨rx, ry, rz, g⟩
theorem hasU_swap {x y z : Nat} (h : hasU x y z = true) : hasU x z y = true := by
  rw [hasU_iff] at h ⊢
  obtain ⟨h1, h2, h3, g1, g2⟩ := h
  exact ⟨h1, h3, h2, by omega, by omega⟩
theorem big_pow : val 4895412794951729152 = ((2 ^ 1138 : Nat) : Int) := by decide +kernel
/-- The squares. -/
theorem unit_squares {x y z : Nat} (h : hasU x y z = true) : (0 ≤ val x * val x ∧ val x * val x ≤ P (1202 + 1074)) ∧ (0 ≤ val y * val y ∧ val y * val y ≤ P (1202 + 1074)) ∧ (0 ≤ val z * val z ∧ val z * val z ≤ P (1202 + 1074)) ∧
    (P 900 * P 1074 ≤ val x * val x ∨ P 900 * P 1074 ≤ val y * val y ∨ P 900 * P 1074 ≤ val z * val z) := by
  rw [hasU_iff] at h
  obtain ⟨h1, h2, h3, g1, g2⟩ := h
  have e1 : val 4318952042648305664 = P 1010 := pow_low
  have e2 : val 4895412794951729152 = P 1138 := big_pow
  rw [e1] at g1
  rw [e2] at g2
  have k : ∀ w, rightB w = true → val (rung w) ≤ P 1138 → (0 ≤ val w * val w ∧ val w * val w ≤ P (1202 + 1074)) ∧ (P 1010 ≤ val (rung w) → P 900 * P 1074 ≤ val w * val w) := fun w r g => by
    obtain ⟨a1, a2⟩ := val_side r
    have e : val w * val w = val (rung w) * val (rung w) := by
      rcases a2 with a2 | a2
      · rw [a2]
      · rw [a2, Int.neg_mul_neg]
    rw [e]
    refine ⟨⟨self_nonneg _, ?_⟩, fun g' => ?_⟩
    · refine Int.le_trans (mul_self_le a1 g) ?_
      rw [← P_add]
      exact P_le (show 1138 + 1138 ≤ 1202 + 1074 by decide)
    · refine Int.le_trans ?_ (mul_self_le (Int.le_of_lt (P_pos 1010)) g')
      rw [← P_add, ← P_add]
      exact P_le (show 900 + 1074 ≤ 1010 + 1010 by decide)
  obtain ⟨kx, kx'⟩ := k x h1 (by omega)
  obtain ⟨ky, ky'⟩ := k y h2 (by omega)
  obtain ⟨kz, kz'⟩ := k z h3 (by omega)
  refine ⟨kx, ky, kz, ?_⟩
  have g : P 1010 ≤ val (rung x) ∨ P 1010 ≤ val (rung y) ∨ P 1010 ≤ val (rung z) := by omega
  rcases g with g | g | g
  · exact Or.inl (kx' g)
  · exact Or.inr (Or.inl (ky' g))
  · exact Or.inr (Or.inr (kz' g))

/-- The steps of a length, as real results. -/
theorem norm_steps (x y z : Nat) (lx : x < 18446744073709551616) (ly : y < 18446744073709551616) (lz : z < 18446744073709551616) (hU : hasU x y z = true) : ∃ a b c d n : Res,
    (Down (2 ^ sq) (val x * val x) a.lo 0 ∧ Up (2 ^ sq) (val x * val x) a.hi 0) ∧ (Down (2 ^ sq) (val y * val y) b.lo 0 ∧ Up (2 ^ sq) (val y * val y) b.hi 0) ∧ (Down (2 ^ sq) (val z * val z) c.lo 0 ∧ Up (2 ^ sq) (val z * val z) c.hi 0) ∧
    (Down 1 (val a.lo + val b.lo) d.lo 0 ∧ Up 1 (val a.hi + val b.hi) d.hi 0) ∧ (Down 1 (val d.lo + val c.lo) n.lo 0 ∧ Up 1 (val d.hi + val c.hi) n.hi 0) ∧ Fit n ∧ (sqrtR n).e = 0 ∧ unitN x y z = sqrtR n := by
  obtain ⟨h1, h2, h3, _⟩ := hasU_iff.1 hU
  obtain ⟨fN, _⟩ := unit_fits x y z lx ly lz hU
  obtain ⟨e1, e2, e3, e4, e5, e6, eN⟩ := norm_parts (A := at3 x y z) fN.e
  have f1 := sqr_fit (one_fit lx h1) e1
  have f2 := sqr_fit (one_fit ly h2) e2
  have f3 := sqr_fit (one_fit lz h3) e3
  have f4 := add_fit f1 f2 e4
  exact ⟨_, _, _, _, _, sqr_one lx h1 e1, sqr_one ly h2 e2, sqr_one lz h3 e3, add_parts f1 f2 e4, add_parts f4 f3 e5, add_fit f4 f3 e5, e6, eN⟩

section
variable {x y z x' y' z' k : Nat} (hk : k < 150) (lx : x < 18446744073709551616) (ly : y < 18446744073709551616) (lz : z < 18446744073709551616) (lx' : x' < 18446744073709551616) (ly' : y' < 18446744073709551616) (lz' : z' < 18446744073709551616)
  (hU : hasU x y z = true) (hU' : hasU x' y' z' = true) (ex : val x' = val x * P k) (ey : val y' = val y * P k) (ez : val z' = val z * P k)
include hk lx ly lz lx' ly' lz' hU hU' ex ey ez
/-- The length of a triple times a power of two. -/
theorem norm_pow : val (unitN x' y' z').lo = val (unitN x y z).lo * P k ∧ val (unitN x' y' z').hi = val (unitN x y z).hi * P k := by
  obtain ⟨⟨p1, l1⟩, ⟨p2, l2⟩, ⟨p3, l3⟩, g⟩ := unit_squares hU
  obtain ⟨a, b, c, d, n, A, B, C, D, N, fn, e, eN⟩ := norm_steps x y z lx ly lz hU
  obtain ⟨a', b', c', d', n', A', B', C', D', N', fn', e', eN'⟩ := norm_steps x' y' z' lx' ly' lz' hU'
  have e2 : P (2 * k) = P k * P k := by rw [Nat.two_mul, P_add]
  have s : ∀ v : Int, v * P k * (v * P k) = v * v * P (2 * k) := fun v => by rw [e2]; grind
  rw [ex, s] at A'
  rw [ey, s] at B'
  rw [ez, s] at C'
  obtain ⟨S, b1, t1⟩ := sums_lo (j := 2 * k) (by omega) p1 p2 p3 l1 l2 l3 g A.1 B.1 C.1 D.1 N.1 A'.1 B'.1 C'.1 D'.1 N'.1
  obtain ⟨T, b2, t2⟩ := sums_hi (j := 2 * k) (by omega) p1 p2 p3 l1 l2 l3 g A.2 B.2 C.2 D.2 N.2 A'.2 B'.2 C'.2 D'.2 N'.2
  have fN := (unit_fits x y z lx ly lz hU).1
  have fN' := (unit_fits x' y' z' lx' ly' lz' hU').1
  rw [eN] at fN
  rw [eN'] at fN'
  obtain ⟨_, ⟨m1, m2, m3⟩, ⟨m4, m5, m6⟩⟩ := sqrt_parts fn e
  obtain ⟨_, ⟨q1, q2, q3⟩, ⟨q4, q5, q6⟩⟩ := sqrt_parts fn' e'
  rw [eN, eN']
  exact ⟨root_lo hk S b1 t1 fN.lo fN.rlo fN'.lo fN'.rlo m1 m2 m3 q1 q2 q3, root_hi T b2 fN.hi fN.rhi fN'.hi fN'.rhi m4 m5 m6 q4 q5 q6⟩
/-- The unit vector of a triple times a power of two. -/
theorem unit_pow : unitV x' y' z' = unitV x y z := by
  obtain ⟨n1, n2⟩ := norm_pow hk lx ly lz lx' ly' lz' hU hU' ex ey ez
  obtain ⟨h1, h2, h3, _⟩ := hasU_iff.1 hU
  obtain ⟨h1', h2', h3', _⟩ := hasU_iff.1 hU'
  obtain ⟨fN, fx, fy, fz⟩ := unit_fits x y z lx ly lz hU
  obtain ⟨fN', fx', fy', fz'⟩ := unit_fits x' y' z' lx' ly' lz' hU'
  have n0 := (unit_norm x y z lx ly lz hU).1
  have n0' := (unit_norm x' y' z' lx' ly' lz' hU').1
  have pk := P_pos k
  have key : ∀ u u' : Nat, rightB u = true → rightB u' = true → val u' = val u * P k → Fit (divR (oneR u) (unitN x y z)) → Fit (divR (oneR u') (unitN x' y' z')) → unitPart u' (unitN x' y' z') = unitPart u (unitN x y z) := fun u u' ru ru' eu f f' => by
    obtain ⟨s, t, s0, t0, es, et, d, v⟩ := div_parts ru fN n0 f.e
    obtain ⟨s', t', s0', t0', es', et', d', v'⟩ := div_parts ru' fN' n0' f'.e
    have sg : 0 ≤ val u' ↔ 0 ≤ val u := by
      rw [eu]
      constructor
      · intro g
        rcases Int.lt_or_le (val u) 0 with m | m
        · have := Int.mul_neg_of_neg_of_pos m pk; omega
        · exact m
      · intro g; exact Int.mul_nonneg g (Int.le_of_lt pk)
    have eT : val u' * SS = val u * SS * P k := by rw [eu, Int.mul_right_comm]
    have es2 : (s' : Int) = (s : Int) * P k := by
      by_cases g : 0 ≤ val u
      · rw [if_pos g] at es; rw [if_pos (sg.2 g)] at es'; rw [es, es', n2]
      · rw [if_neg g] at es; rw [if_neg (fun q => g (sg.1 q))] at es'; rw [es, es', n1]
    have et2 : (t' : Int) = (t : Int) * P k := by
      by_cases g : 0 ≤ val u
      · rw [if_pos g] at et; rw [if_pos (sg.2 g)] at et'; rw [et, et', n1]
      · rw [if_neg g] at et; rw [if_neg (fun q => g (sg.1 q))] at et'; rw [et, et', n2]
    have w1 := down_quo pk d d' es2 eT
    have w2 := up_quo pk v v' et2 eT
    unfold unitPart
    rw [res_same (show (divR (oneR u') (unitN x' y' z')).e = (divR (oneR u) (unitN x y z)).e by rw [f.e, f'.e]) w1.symm w2.symm]
  show (⟨unitPart x' _, unitPart y' _, unitPart z' _⟩ : V3) = ⟨unitPart x _, unitPart y _, unitPart z _⟩
  rw [key x x' h1 h1' ex fx fx', key y y' h2 h2' ey fy fy', key z z' h3 h3' ez fz fz']
end

section
variable {x y z x' y' z' : Nat} (lx : x < 18446744073709551616) (ly : y < 18446744073709551616) (lz : z < 18446744073709551616) (lx' : x' < 18446744073709551616) (ly' : y' < 18446744073709551616) (lz' : z' < 18446744073709551616)
  (hU : hasU x y z = true) (hU' : hasU x' y' z' = true) (ex : val x' = -val x) (ey : val y' = -val y) (ez : val z' = -val z)
include lx ly lz lx' ly' lz' hU hU' ex ey ez
theorem norm_turn : unitN x' y' z' = unitN x y z := by
  obtain ⟨h1, h2, h3, _⟩ := hasU_iff.1 hU
  obtain ⟨h1', h2', h3', _⟩ := hasU_iff.1 hU'
  obtain ⟨fN, _⟩ := unit_fits x y z lx ly lz hU
  obtain ⟨fN', _⟩ := unit_fits x' y' z' lx' ly' lz' hU'
  obtain ⟨e1, e2, e3, _, _, _, eN⟩ := norm_parts (A := at3 x y z) fN.e
  obtain ⟨e1', e2', e3', _, _, _, eN'⟩ := norm_parts (A := at3 x' y' z') fN'.e
  have key : ∀ u u' : Nat, u < 18446744073709551616 → u' < 18446744073709551616 → rightB u = true → rightB u' = true → val u' = -val u → (sqrR (oneR u)).e = 0 → (sqrR (oneR u')).e = 0 → sqrR (oneR u') = sqrR (oneR u) := fun u u' l l' r r' eu e e' => by
    obtain ⟨d, v⟩ := sqr_one l r e
    obtain ⟨d', v'⟩ := sqr_one l' r' e'
    have q : val u' * val u' = val u * val u := by rw [eu, Int.neg_mul_neg]
    exact res_same (by rw [e, e']) (down_quo (p := 1) (by decide) d d' (Int.mul_one _).symm (by rw [q, Int.mul_one])).symm (up_quo (p := 1) (by decide) v v' (Int.mul_one _).symm (by rw [q, Int.mul_one])).symm
  have k1 : sqrR (at3 x' y' z').x = sqrR (at3 x y z).x := key x x' lx lx' h1 h1' ex e1 e1'
  have k2 : sqrR (at3 x' y' z').y = sqrR (at3 x y z).y := key y y' ly ly' h2 h2' ey e2 e2'
  have k3 : sqrR (at3 x' y' z').z = sqrR (at3 x y z).z := key z z' lz lz' h3 h3' ez e3 e3'
  show normV 0 (at3 x' y' z') = normV 0 (at3 x y z)
  rw [eN, eN', k1, k2, k3]
/-- The unit vector of a triple that is turned, turned: that one. -/
theorem unit_turned : negV 0 (unitV x' y' z') = unitV x y z := by
  have eN := norm_turn lx ly lz lx' ly' lz' hU hU' ex ey ez
  obtain ⟨h1, h2, h3, _⟩ := hasU_iff.1 hU
  obtain ⟨h1', h2', h3', _⟩ := hasU_iff.1 hU'
  obtain ⟨fN, fx, fy, fz⟩ := unit_fits x y z lx ly lz hU
  obtain ⟨fN', fx', fy', fz'⟩ := unit_fits x' y' z' lx' ly' lz' hU'
  obtain ⟨n0, n1, n2, _⟩ := unit_norm x y z lx ly lz hU
  obtain ⟨F, _⟩ := unit_all x y z lx ly lz hU
  obtain ⟨F', _⟩ := unit_all x' y' z' lx' ly' lz' hU'
  have lN := fN.le
  rw [eN] at fx' fy' fz'
  have S0 : 0 ≤ SS := ss_pos
  have a1 := abs_le (a := val x) (b := val (unitN x y z).hi) (by omega) (by have := self_nonneg (val y); have := self_nonneg (val z); omega)
  have a2 := abs_le (a := val y) (b := val (unitN x y z).hi) (by omega) (by have := self_nonneg (val x); have := self_nonneg (val z); omega)
  have a3 := abs_le (a := val z) (b := val (unitN x y z).hi) (by omega) (by have := self_nonneg (val x); have := self_nonneg (val y); omega)
  -- one part
  have key : ∀ u u' : Nat, rightB u = true → rightB u' = true → val u' = -val u → (val u ≤ val (unitN x y z).hi ∧ -val u ≤ val (unitN x y z).hi) → Fit (divR (oneR u) (unitN x y z)) → Fit (divR (oneR u') (unitN x y z)) → Fit (unitPart u (unitN x y z)) → Fit (unitPart u' (unitN x y z)) →
      stN 0 (unitPart u' (unitN x y z)) = unitPart u (unitN x y z) := fun u u' ru ru' eu b f f' g g' => by
    obtain ⟨s, t, s0, t0, es, et, d, v⟩ := div_parts ru fN n0 f.e
    obtain ⟨s', t', s0', t0', es', et', d', v'⟩ := div_parts ru' fN n0 f'.e
    have eT : val u' * SS = -(val u * SS) := by rw [eu, Int.neg_mul]
    have sp : (0 : Int) < s := by omega
    have tp : (0 : Int) < t := by omega
    have sp' : (0 : Int) < s' := by omega
    have tp' : (0 : Int) < t' := by omega
    have lows : ∀ {w : Nat} {s : Nat} {c : Nat}, (0 : Int) < s → (s : Int) = (if 0 ≤ val w then val (unitN x y z).hi else val (unitN x y z).lo) → Down s (val w * SS) c 0 → val w ≤ val (unitN x y z).hi → val c ≤ SS := fun {w s c} sp e d l => by
      have c3 := d.ok.2.2.1
      refine Int.le_of_mul_le_mul_right (Int.le_trans c3 ?_) sp
      by_cases q : 0 ≤ val w
      · rw [if_pos q] at e
        rw [e, Int.mul_comm SS]
        exact Int.mul_le_mul_of_nonneg_right l S0
      · have k1 := Int.mul_nonneg S0 (Int.le_of_lt sp)
        have k2 : val w * SS ≤ 0 := Int.mul_nonpos_of_nonpos_of_nonneg (by omega) S0
        omega
    have L := lows sp es d b.1
    have L' := lows sp' es' d' (by omega)
    -- the ends, turned
    have ends : val (divR (oneR u') (unitN x y z)).hi = -val (divR (oneR u) (unitN x y z)).lo ∧ val (divR (oneR u) (unitN x y z)).hi = -val (divR (oneR u') (unitN x y z)).lo := by
      have T := fun (d : Nat) (l : d < 18446744073709551616) (r : rightB d = true) => (⟨turnW d, turn_facts d l r⟩ : ∃ e, e < 18446744073709551616 ∧ rightB e = true ∧ val e = -val d)
      rcases Int.lt_trichotomy (val u) 0 with q | q | q
      · rw [if_neg (by omega)] at es et
        rw [if_pos (by omega)] at es' et'
        exact ⟨down_turn d v' (by omega) eT T, down_turn d' v (by omega) (by omega) T⟩
      · have q' : val u' = 0 := by omega
        rw [q, Int.zero_mul] at d v
        rw [q', Int.zero_mul] at d' v'
        have z1 := down_zero s0 d
        have z2 := up_zero t0 v
        have z3 := down_zero s0' d'
        have z4 := up_zero t0' v'
        omega
      · rw [if_pos (by omega)] at es et
        rw [if_neg (by omega)] at es' et'
        exact ⟨down_turn d v' (by omega) eT T, down_turn d' v (by omega) (by omega) T⟩
    obtain ⟨b1, b2⟩ := bound_ends f L (by omega)
    obtain ⟨b1', b2'⟩ := bound_ends f' L' (by omega)
    have b1 : val (unitPart u (unitN x y z)).lo = _ := b1
    have b2 : val (unitPart u (unitN x y z)).hi = _ := b2
    have b1' : val (unitPart u' (unitN x y z)).lo = _ := b1'
    have b2' : val (unitPart u' (unitN x y z)).hi = _ := b2'
    have eS : stN 0 (unitPart u' (unitN x y z)) = ⟨0, turnW (unitPart u' (unitN x y z)).hi, turnW (unitPart u' (unitN x y z)).lo⟩ := by
      show stepI 0 (ivR _ _) _ = _
      rw [g'.iv]; rfl
    obtain ⟨t1, t2, t3⟩ := turn_facts _ g'.hi g'.rhi
    obtain ⟨t4, t5, t6⟩ := turn_facts _ g'.lo g'.rlo
    rw [eS]
    refine res_same g.e.symm (val_inj t1 g.lo t2 g.rlo ?_) (val_inj t4 g.hi t5 g.rhi ?_)
    · show val (turnW _) = _
      omega
    · show val (turnW _) = _
      omega
  have X := F.x
  have Y := F.y
  have Z := F.z
  have X' : Fit (unitPart x' (unitN x' y' z')) := F'.x
  have Y' : Fit (unitPart y' (unitN x' y' z')) := F'.y
  have Z' : Fit (unitPart z' (unitN x' y' z')) := F'.z
  rw [eN] at X' Y' Z'
  have k1 := key x x' h1 h1' ex a1 fx fx' X X'
  have k2 := key y y' h2 h2' ey a2 fy fy' Y Y'
  have k3 := key z z' h3 h3' ez a3 fz fz' Z Z'
  have eV : unitV x' y' z' = ⟨unitPart x' (unitN x y z), unitPart y' (unitN x y z), unitPart z' (unitN x y z)⟩ := by
    show (⟨_, _, _⟩ : V3) = _
    rw [eN]
  rw [eV]
  have z1 : (unitPart x (unitN x y z)).e = 0 := X.e
  have z2 : (unitPart y (unitN x y z)).e = 0 := Y.e
  show (⟨stN 0 _, stN (stN 0 _).e _, stN (stN (stN 0 _).e _).e _⟩ : V3) = ⟨_, _, _⟩
  rw [k1, z1, k2, z2, k3]
end
/-- The lower ends, the numbers put otherwise: two spacings of one apart at most. -/
theorem unit_swapped {x y z : Nat} (lx : x < 18446744073709551616) (ly : y < 18446744073709551616) (lz : z < 18446744073709551616) (hU : hasU x y z = true) :
    val (unitV x z y).x.lo - val (unitV x y z).x.lo ≤ 16 * DD ∧ val (unitV x y z).x.lo - val (unitV x z y).x.lo ≤ 16 * DD := by
  have hU' := hasU_swap hU
  obtain ⟨n0, n1, n2, _⟩ := unit_norm x y z lx ly lz hU
  obtain ⟨n0', n1', n2', _⟩ := unit_norm x z y lx lz ly hU'
  have fN := (unit_fits x y z lx ly lz hU).1
  have fN' := (unit_fits x z y lx lz ly hU').1
  have lN := fN.le
  have lN' := fN'.le
  obtain ⟨_, _, _, _, ⟨m, M, A⟩, _⟩ := unit_all x y z lx ly lz hU
  obtain ⟨_, _, _, _, ⟨m', M', A'⟩, _⟩ := unit_all x z y lx lz ly hU'
  have c1 : val (unitN x z y).lo ≤ val (unitN x y z).hi := le_of_self (by omega) (by omega)
  have c2 : val (unitN x y z).lo ≤ val (unitN x z y).hi := le_of_self (by omega) (by omega)
  obtain ⟨a, a1, a0, a2, a3⟩ := A.under
  obtain ⟨a', a1', a0', a2', a3'⟩ := A'.under
  have ea : a = a' := by omega
  rw [← ea] at a2' a3'
  have w := A.wide
  have w' := A'.wide
  have s1 := A.side
  have s2 := A'.side
  have t1 := A.top
  have t2 := A'.top
  have l1 := A.low
  have l2 := A'.low
  have e1 := A.le
  have e2 := A'.le
  have k1 : m ≤ M' := by
    rcases a3' with h | h
    · omega
    · refine Int.le_of_mul_le_mul_right (a := val (unitN x y z).hi) (Int.le_trans a2 (Int.le_trans h ?_)) (by omega)
      exact Int.mul_le_mul_of_nonneg_left c1 (by omega)
  have k2 : m' ≤ M := by
    rcases a3 with h | h
    · omega
    · refine Int.le_of_mul_le_mul_right (a := val (unitN x z y).hi) (Int.le_trans a2' (Int.le_trans h ?_)) (by omega)
      exact Int.mul_le_mul_of_nonneg_left c2 (by omega)
  show val (unitPart x (unitN x z y)).lo - val (unitPart x (unitN x y z)).lo ≤ 16 * DD ∧ val (unitPart x (unitN x y z)).lo - val (unitPart x (unitN x z y)).lo ≤ 16 * DD
  have zz : (0 ≤ val x ∧ val (unitPart x (unitN x y z)).lo = m ∧ val (unitPart x (unitN x z y)).lo = m') ∨ (val (unitPart x (unitN x y z)).lo = -M ∧ val (unitPart x (unitN x z y)).lo = -M') ∨ val x = 0 := by
    have q1 : (0 ≤ val x ∧ val (unitPart x (unitN x y z)).lo = m ∧ val (unitPart x (unitN x y z)).hi = M) ∨ (val x ≤ 0 ∧ val (unitPart x (unitN x y z)).lo = -M ∧ val (unitPart x (unitN x y z)).hi = -m) := s1
    have q2 : (0 ≤ val x ∧ val (unitPart x (unitN x z y)).lo = m' ∧ val (unitPart x (unitN x z y)).hi = M') ∨ (val x ≤ 0 ∧ val (unitPart x (unitN x z y)).lo = -M' ∧ val (unitPart x (unitN x z y)).hi = -m') := s2
    omega
  rcases zz with ⟨_, q1, q2⟩ | ⟨q1, q2⟩ | q
  · rw [q1, q2]; omega
  · rw [q1, q2]; omega
  · have z1 := A.nil q
    have z2 := A'.nil q
    have q1 : val (unitPart x (unitN x y z)).lo = 0 := by
      have q1 : (0 ≤ val x ∧ val (unitPart x (unitN x y z)).lo = m ∧ val (unitPart x (unitN x y z)).hi = M) ∨ (val x ≤ 0 ∧ val (unitPart x (unitN x y z)).lo = -M ∧ val (unitPart x (unitN x y z)).hi = -m) := s1
      omega
    have q2 : val (unitPart x (unitN x z y)).lo = 0 := by
      have q2 : (0 ≤ val x ∧ val (unitPart x (unitN x z y)).lo = m' ∧ val (unitPart x (unitN x z y)).hi = M') ∨ (val x ≤ 0 ∧ val (unitPart x (unitN x z y)).lo = -M' ∧ val (unitPart x (unitN x z y)).hi = -m') := s2
      omega
    have d0 : 0 ≤ DD := Int.le_of_lt dd_pos
    rw [q1, q2]; omega
end Go.Proofs.Ytdppppaoflhgdaa

namespace Go.Proofs.Ytdppppaoflhgdaa
open Go.RowKit

abbrev TimesR (x y z gx gy gz : Nat) (k : Int) (b : Bool) : Prop := ∀ w : World, Calls Try.prog 10 #[.agg #[.float .f64 x, .float .f64 y, .float .f64 z], .int .i64 k] w fun r w' => r = .returned (.tuple #[.agg #[.float .f64 gx, .float .f64 gy, .float .f64 gz], .bool b]) ∧ Below w.heap.size w w'

/-- What times tells. -/
theorem times_told {x y z : Nat} {k : Int} (lx : x < 18446744073709551616) (ly : y < 18446744073709551616) (lz : z < 18446744073709551616) (fx : rung x < 1200 * 4503599627370496) (fy : rung y < 1200 * 4503599627370496) (fz : rung z < 1200 * 4503599627370496) (k0 : -100 ≤ k) (k1 : k ≤ 100) :
    ∃ (gx gy gz : Nat) (b : Bool), TimesR x y z gx gy gz k b ∧ gx < 18446744073709551616 ∧ gy < 18446744073709551616 ∧ gz < 18446744073709551616 ∧
      (0 ≤ k → rightB x = true → rightB y = true → rightB z = true → val gx = val x * P k.toNat ∧ val gy = val y * P k.toNat ∧ val gz = val z * P k.toNat) ∧
      (k < 0 → b = true → rightB x = true → rightB y = true → rightB z = true → rightB gx = true → rightB gy = true → rightB gz = true → val x = val gx * P (-k).toNat ∧ val y = val gy * P (-k).toNat ∧ val z = val gz * P (-k).toNat) := by
  obtain ⟨gx, c1, mx, bx, ex⟩ := ldexp_all x k lx (by omega) k0 k1
  obtain ⟨gy, c2, my, by', ey⟩ := ldexp_all y k ly (by omega) k0 k1
  obtain ⟨gz, c3, mz, bz, ez⟩ := ldexp_all z k lz (by omega) k0 k1
  obtain ⟨hx, d1, nx, _, px⟩ := ldexp_all gx (-k) mx (by omega) (by omega) (by omega)
  obtain ⟨hy, d2, ny, _, py⟩ := ldexp_all gy (-k) my (by omega) (by omega) (by omega)
  obtain ⟨hz, d3, nz, _, pz⟩ := ldexp_all gz (-k) mz (by omega) (by omega) (by omega)
  have hw : IntKind.i64.wrap (-k) = -k := IntWalk.i64_in _ ⟨by omega, by omega⟩
  have d1 : Hid (∀ w, Calls Try.prog 45 #[.float .f64 gx, .int .i64 (IntKind.i64.wrap (-k))] w fun r w' => r = .returned (.float .f64 hx) ∧ w = w') := by rw [hw]; exact Lib.hid d1
  have d2 : Hid (∀ w, Calls Try.prog 45 #[.float .f64 gy, .int .i64 (IntKind.i64.wrap (-k))] w fun r w' => r = .returned (.float .f64 hy) ∧ w = w') := by rw [hw]; exact Lib.hid d2
  have d3 : Hid (∀ w, Calls Try.prog 45 #[.float .f64 gz, .int .i64 (IntKind.i64.wrap (-k))] w fun r w' => r = .returned (.float .f64 hz) ∧ w = w') := by rw [hw]; exact Lib.hid d3
  have fwd : 0 ≤ k → rightB x = true → rightB y = true → rightB z = true → val gx = val x * P k.toNat ∧ val gy = val y * P k.toNat ∧ val gz = val z * P k.toNat := fun h rx ry rz => ⟨(ex h rx).2, (ey h ry).2, (ez h rz).2⟩
  cases o1 : (FloatKind.f64.format.order hx x == some Ordering.eq)
  · exact ⟨gx, gy, gz, false, fun w => times_a w (Lib.hid c1) (Lib.hid c2) (Lib.hid c3) d1 o1, mx, my, mz, fwd, fun _ h => by cases h⟩
  cases o2 : (FloatKind.f64.format.order hy y == some Ordering.eq)
  · exact ⟨gx, gy, gz, false, fun w => times_b w (Lib.hid c1) (Lib.hid c2) (Lib.hid c3) d1 o1 d2 o2, mx, my, mz, fwd, fun _ h => by cases h⟩
  cases o3 : (FloatKind.f64.format.order hz z == some Ordering.eq)
  · exact ⟨gx, gy, gz, false, fun w => times_c w (Lib.hid c1) (Lib.hid c2) (Lib.hid c3) d1 o1 d2 o2 d3 o3, mx, my, mz, fwd, fun _ h => by cases h⟩
  refine ⟨gx, gy, gz, true, fun w => times_t w (Lib.hid c1) (Lib.hid c2) (Lib.hid c3) d1 o1 d2 o2 d3 o3, mx, my, mz, fwd, fun h _ rx ry rz qx qy qz => ?_⟩
  have key : ∀ {u g h' : Nat}, u < 18446744073709551616 → rightB u = true → h' < 18446744073709551616 → (rightB h' = true ∧ val h' = val g * P (-k).toNat) → (FloatKind.f64.format.order h' u == some Ordering.eq) = true → val u = val g * P (-k).toNat := fun {u g h'} lu ru lh e o => by
    rw [order_eq h' u lh lu e.1 ru] at o
    rw [← e.2]; exact (of_decide_eq_true o).symm
  exact ⟨key lx rx nx (px (by omega) qx) o1, key ly ry ny (py (by omega) qy) o2, key lz rz nz (pz (by omega) qz) o3⟩

abbrev UnitR (x y z a b c d e f : Nat) (k : Int) : Prop := ∀ w : World, Calls Try.prog 8 #[.agg #[.float .f64 x, .float .f64 y, .float .f64 z]] w fun r w' => r = .returned (.tuple #[.agg #[.float .f64 a, .float .f64 b, .float .f64 c, .float .f64 d, .float .f64 e, .float .f64 f], .int .i64 k]) ∧ Below w.heap.size w w'
theorem unit_has {x y z : Nat} (lx : x < 18446744073709551616) (ly : y < 18446744073709551616) (lz : z < 18446744073709551616) (hU : hasU x y z = true) :
    UnitR x y z (unitV x y z).x.lo (unitV x y z).x.hi (unitV x y z).y.lo (unitV x y z).y.hi (unitV x y z).z.lo (unitV x y z).z.hi 0 := fun w => by
  obtain ⟨fN, f1, f2, f3⟩ := unit_fits x y z lx ly lz hU
  exact unit_any x y z w lx ly lz hU fN f1 f2 f3

theorem rung_top {x : Nat} (r : rightB x = true) (h : val (rung x) ≤ val 4895412794951729152) : rung x < 1200 * 4503599627370496 := by
  have fin := right_rung x r
  obtain ⟨_, _, _, _, e⟩ := pos_facts (rung x) fin
  obtain ⟨_, _, _, _, e'⟩ := pos_facts 4895412794951729152 (by decide)
  rw [e, e'] at h
  have := (steps_le_iff _ _).1 (Int.ofNat_le.1 h)
  omega
theorem tol_val : val 4391009636686233600 = 16 * DD ∧ val 13614381673541009408 = -(16 * DD) := by
  have e : 16 * DD = P 1026 := (P_add 4 1022).symm
  rw [e]
  exact ⟨by decide +kernel, by decide +kernel⟩

/-- The lower ends' difference, as the program has it. -/
theorem ends_near {a b : Nat} (la : a < 18446744073709551616) (lb : b < 18446744073709551616) (ra : rightB a = true) (rb : rightB b = true) (h1 : val a - val b ≤ 16 * DD) (h2 : val b - val a ≤ 16 * DD) :
    ∃ d, floatBits .sub .f64 a b = some d ∧ d < 18446744073709551616 ∧ ((FloatKind.f64.format.order (rung d) 4391009636686233600 == some Ordering.lt) || (FloatKind.f64.format.order (rung d) 4391009636686233600 == some Ordering.eq)) = true := by
  obtain ⟨t1, t2⟩ := tol_val
  obtain ⟨r, e, B⟩ := sub_beside a b la lb ra rb
  obtain ⟨n1, n2, n3, n4⟩ := near_between (x0 := 13614381673541009408) (y0 := 4391009636686233600) (by decide) (sub_down a b ra rb) (sub_up a b ra rb) B (by decide) (by decide) (by rw [t2]; omega) (by decide) (by decide) (by rw [t1]; omega)
  rw [t2] at n3
  rw [t1] at n4
  refine ⟨r, e, n1, ?_⟩
  obtain ⟨p1, p2, _, _, p5⟩ := pos_facts (rung r) n2
  rw [order_le _ _ p1 (by decide) p2 (by decide)]
  unfold leB
  refine decide_eq_true ?_
  have := val_nat r
  rw [p5, t1]; omega

set_option maxHeartbeats 1000000 in
/-- The law. -/
theorem vecTimes_any (x y z : Nat) (b0 : Int) (w : World) (lx : x < 18446744073709551616) (ly : y < 18446744073709551616) (lz : z < 18446744073709551616) :
    Calls Try.prog 3 #[.agg #[.float .f64 x, .float .f64 y, .float .f64 z], .int .i8 b0] w fun r w' => r = .returned (.bool true) ∧ Below w.heap.size w w' := by
  have cA := Lib.hid (fun w => awake5_any w)
  cases hU : hasU x y z
  · exact vtimes_n w (Lib.hid fun w => unit_bad x y z w lx ly lz hU) cA (by decide)
  obtain ⟨k, hk⟩ : ∃ k, (wrap64 b0).tmod 101 = k := ⟨_, rfl⟩
  have k0 : -100 ≤ k := by
    have := Int.lt_tmod_of_pos (wrap64 b0) (show (0 : Int) < 101 by decide)
    omega
  have k1 : k ≤ 100 := by
    have := Int.tmod_lt_of_pos (wrap64 b0) (show (0 : Int) < 101 by decide)
    omega
  obtain ⟨rx, ry, rz, _, top⟩ := hasU_iff.1 hU
  obtain ⟨gx, gy, gz, ok, cT, mx, my, mz, fwd, bwd⟩ := times_told lx ly lz (rung_top rx (by omega)) (rung_top ry (by omega)) (rung_top rz (by omega)) k0 k1
  -- turned
  obtain ⟨tx1, tx2, tx3⟩ := turn_facts x lx rx
  obtain ⟨ty1, ty2, ty3⟩ := turn_facts y ly ry
  obtain ⟨tz1, tz2, tz3⟩ := turn_facts z lz rz
  have hU2 := hasU_turn hU tx2 ty2 tz2 tx3 ty3 tz3
  have eT := unit_turned lx ly lz tx1 ty1 tz1 hU hU2 tx3 ty3 tz3
  have F := (unit_all x y z lx ly lz hU).1
  have F2 := (unit_all _ _ _ tx1 ty1 tz1 hU2).1
  have c1 := unit_has lx ly lz hU
  have c4 := unit_has tx1 ty1 tz1 hU2
  have c6 := unit_has lx lz ly (hasU_swap hU)
  have F6 := (unit_all x z y lx lz ly (hasU_swap hU)).1
  have d5 := fun pb v hC => vneg_any (a := unitV (turnW x) (turnW y) (turnW z)) 0 F2.wd pb v hC
  rw [eT, F.z.e] at d5
  obtain ⟨s1, s2⟩ := unit_swapped lx ly lz hU
  obtain ⟨df, ed, ld, od⟩ := ends_near F6.x.lo F.x.lo F6.x.rlo F.x.rlo s1 s2
  have q1 := fun w => run_float_arith (P := Try.prog) (w := w) .sub 22 .f64 0 x _ (zero_sub x lx rx)
  have q2 := fun w => run_float_arith (P := Try.prog) (w := w) .sub 22 .f64 0 y _ (zero_sub y ly ry)
  have q3 := fun w => run_float_arith (P := Try.prog) (w := w) .sub 22 .f64 0 z _ (zero_sub z lz rz)
  have q4 := fun w => run_float_arith (P := Try.prog) (w := w) .sub 22 .f64 _ _ _ ed
  have cAb : Hid (∀ w, Calls Try.prog 14 #[.float .f64 df] w fun r w' => r = .returned (.float .f64 (rung df)) ∧ Below w.heap.size w w') := Lib.hid fun w => (abs_any df w ld).mono fun r w' h => ⟨h.1, h.2 ▸ Below.refl _ _⟩
  cases hG : hasU gx gy gz
  · have c3 := fun w => unit_bad gx gy gz w mx my mz hG
    generalize unitV x y z = U at *
    generalize unitV (turnW x) (turnW y) (turnW z) = T at *
    generalize unitV x z y = R at *
    have cS := Lib.hid fun w => sameV_any U.x.lo U.x.hi U.y.lo U.y.hi U.z.lo U.z.hi w
    cases ok
    · exact vtimes_f w (Lib.hid c1) (Lib.hid cT) (Lib.hid c3) q1 q2 q3 (Lib.hid c4) (Lib.hid d5) (Lib.hid c6) cS q4 cAb od cA hk
    · exact vtimes_e w (Lib.hid c1) (Lib.hid cT) (Lib.hid c3) q1 q2 q3 (Lib.hid c4) (Lib.hid d5) (Lib.hid c6) cS q4 cAb od cA hk (by decide)
  · have c3 := unit_has mx my mz hG
    cases ok
    · generalize unitV x y z = U at *
      generalize unitV (turnW x) (turnW y) (turnW z) = T at *
      generalize unitV x z y = R at *
      have cS := Lib.hid fun w => sameV_any U.x.lo U.x.hi U.y.lo U.y.hi U.z.lo U.z.hi w
      exact vtimes_f w (Lib.hid c1) (Lib.hid cT) (Lib.hid c3) q1 q2 q3 (Lib.hid c4) (Lib.hid d5) (Lib.hid c6) cS q4 cAb od cA hk
    · obtain ⟨qx, qy, qz, _⟩ := hasU_iff.1 hG
      have same : unitV gx gy gz = unitV x y z := by
        rcases Int.lt_or_le k 0 with g | g
        · obtain ⟨e1, e2, e3⟩ := bwd g rfl rx ry rz qx qy qz
          exact (unit_pow (k := (-k).toNat) (by omega) mx my mz lx ly lz hG hU e1 e2 e3).symm
        · obtain ⟨e1, e2, e3⟩ := fwd g rx ry rz
          exact unit_pow (k := k.toNat) (by omega) lx ly lz mx my mz hU hG e1 e2 e3
      rw [same] at c3
      generalize unitV x y z = U at *
      generalize unitV (turnW x) (turnW y) (turnW z) = T at *
      generalize unitV x z y = R at *
      have cS := Lib.hid fun w => sameV_any U.x.lo U.x.hi U.y.lo U.y.hi U.z.lo U.z.hi w
      exact vtimes_t w (Lib.hid c1) (Lib.hid cT) (Lib.hid c3) cS q1 q2 q3 (Lib.hid c4) (Lib.hid d5) (Lib.hid c6) cS q4 cAb od cA hk
end Go.Proofs.Ytdppppaoflhgdaa

namespace Go.Proofs.Ytdppppaoflhgdaa
open Go.ChangeShapes Go.WideShapes Go.ChangeAt Go.RowKit Go.Joins Go.Deep

theorem Try.cellsF3 : Try.prog.cellsOf 24 = 3 := by kernel_rfl

set_option maxRecDepth 100000 in
theorem open_f3 {H : Type} {enc : TypeId × Value → H} {W : World} {base : Nat} {spare : Nat → Bool} {held : Bool} {r : Reach} {b0 : Nat} {v : Value} {d : DataW H} {p : List MemPlace} (hv : Value.okWide Try.prog W r b0 24 v) (h : DataW.Trod enc Try.prog W base spare held 24 v d p) :
    ∃ x y z, v = .agg #[.float .f64 x, .float .f64 y, .float .f64 z] ∧ d = .agg [.lit (.float .f64 x), .lit (.float .f64 y), .lit (.float .f64 z)] ∧ p = [] ∧ (Lit.float .f64 x).wf = true ∧ (Lit.float .f64 y).wf = true ∧ (Lit.float .f64 z).wf = true := by
  obtain ⟨c0, c1, c2, y0, y1, y2, m, rfl, rfl, rfl, hy0, hy1, hy2⟩ := open_agg3 Try.underlying24 (by kernel_rfl) Try.cellsF3 hv h
  obtain ⟨x, rfl, rfl, w0⟩ := trod_float Try.underlying22 hy0
  obtain ⟨y, rfl, rfl, w1⟩ := trod_float Try.underlying22 hy1
  obtain ⟨z, rfl, rfl, w2⟩ := trod_float Try.underlying22 hy2
  exact ⟨x, y, z, rfl, rfl, rfl, w0, w1, w2⟩

set_option maxRecDepth 100000 in
theorem shut_f3 {H : Type} {enc : TypeId × Value → H} {W : World} {base : Nat} {spare : Nat → Bool} {held : Bool} {x y z : Nat} (w0 : (Lit.float .f64 x).wf = true) (w1 : (Lit.float .f64 y).wf = true) (w2 : (Lit.float .f64 z).wf = true) :
    DataW.Trod enc Try.prog W base spare held 24 (.agg #[.float .f64 x, .float .f64 y, .float .f64 z]) (.agg [.lit (.float .f64 x), .lit (.float .f64 y), .lit (.float .f64 z)]) [] :=
  shut_agg3 (y0 := (.lit (.float .f64 x), [])) (y1 := (.lit (.float .f64 y), [])) (y2 := (.lit (.float .f64 z), [])) Try.underlying24 (by kernel_rfl) Try.cellsF3 ⟨1, by simp [DataW.trod, Try.underlying22, w0]⟩ ⟨1, by simp [DataW.trod, Try.underlying22, w1]⟩ ⟨1, by simp [DataW.trod, Try.underlying22, w2]⟩

theorem Try.cellsVec : Try.prog.cellsOf 29 = 6 := by kernel_rfl

theorem array6 {α : Type} {cs : Array α} (h : cs.size = 6) : ∃ c0 c1 c2 c3 c4 c5, cs = #[c0, c1, c2, c3, c4, c5] := by
  obtain ⟨l⟩ := cs
  match l, h with
  | [c0, c1, c2, c3, c4, c5], _ => exact ⟨c0, c1, c2, c3, c4, c5, rfl⟩

/-- The two cells of an interval. -/
theorem trod_iv2 {H : Type} {enc : TypeId × Value → H} {w : World} {base : Nat} {spare : Nat → Bool} {held : Bool} {fuel : Nat} {v0 v1 : Value} {x : DataW H × List MemPlace} (h : DataW.trod enc Try.prog w base spare held fuel 27 [v0, v1] = some x) :
    ∃ lo hi, v0 = .float .f64 lo ∧ v1 = .float .f64 hi ∧ x = (.agg [.lit (.float .f64 lo), .lit (.float .f64 hi)], []) ∧ (Lit.float .f64 lo).wf = true ∧ (Lit.float .f64 hi).wf = true := by
  obtain ⟨y0, y1, n, hx, _, h0, h1⟩ := trod_struct2 Try.underlying27 h
  have k : Try.prog.cellsOf 22 = 1 := by kernel_rfl
  have h0' : DataW.trod enc Try.prog w base spare held n 22 [v0] = some y0 := by rw [k] at h0; exact h0
  have h1' : DataW.trod enc Try.prog w base spare held n 22 [v1] = some y1 := by rw [k] at h1; exact h1
  obtain ⟨lo, rfl, rfl, w0⟩ := trod_float Try.underlying22 h0'
  obtain ⟨hi, rfl, rfl, w1⟩ := trod_float Try.underlying22 h1'
  exact ⟨lo, hi, rfl, rfl, hx, w0, w1⟩

set_option maxRecDepth 100000 in
theorem open_vec {H : Type} {enc : TypeId × Value → H} {W : World} {base : Nat} {spare : Nat → Bool} {held : Bool} {r : Reach} {b0 : Nat} {v : Value} {d : DataW H} {p : List MemPlace} (hv : Value.okWide Try.prog W r b0 29 v) (h : DataW.Trod enc Try.prog W base spare held 29 v d p) :
    ∃ a b c e f g, v = .agg #[.float .f64 a, .float .f64 b, .float .f64 c, .float .f64 e, .float .f64 f, .float .f64 g] ∧
      d = .agg [.agg [.lit (.float .f64 a), .lit (.float .f64 b)], .agg [.lit (.float .f64 c), .lit (.float .f64 e)], .agg [.lit (.float .f64 f), .lit (.float .f64 g)]] ∧ p = [] ∧
      (Lit.float .f64 a).wf = true ∧ (Lit.float .f64 b).wf = true ∧ (Lit.float .f64 c).wf = true ∧ (Lit.float .f64 e).wf = true ∧ (Lit.float .f64 f).wf = true ∧ (Lit.float .f64 g).wf = true := by
  obtain ⟨cs, rfl, hsz⟩ := okWide_struct Try.underlying29 hv
  obtain ⟨c0, c1, c2, c3, c4, c5, rfl⟩ := array6 (hsz.trans Try.cellsVec)
  obtain ⟨fuel, hf⟩ := h
  have hf' : DataW.trod enc Try.prog W base spare held fuel 29 [c0, c1, c2, c3, c4, c5] = some (d, p) := hf
  obtain ⟨y0, y1, y2, n, hx, _, h0, h1, h2⟩ := trod_struct3 Try.underlying29 hf'
  have h0' : DataW.trod enc Try.prog W base spare held n 27 [c0, c1] = some y0 := by rw [Try.cellsIv] at h0; exact h0
  have h1' : DataW.trod enc Try.prog W base spare held n 27 [c2, c3] = some y1 := by rw [Try.cellsIv] at h1; exact h1
  have h2' : DataW.trod enc Try.prog W base spare held n 27 [c4, c5] = some y2 := by rw [Try.cellsIv] at h2; exact h2
  obtain ⟨a, b, rfl, rfl, rfl, w0, w1⟩ := trod_iv2 h0'
  obtain ⟨c, e, rfl, rfl, rfl, w2, w3⟩ := trod_iv2 h1'
  obtain ⟨f, g, rfl, rfl, rfl, w4, w5⟩ := trod_iv2 h2'
  simp only [Prod.mk.injEq] at hx
  exact ⟨a, b, c, e, f, g, rfl, hx.1, hx.2, w0, w1, w2, w3, w4, w5⟩

theorem trod_float_one {H : Type} {enc : TypeId × Value → H} {P : Program} {w : World} {base : Nat} {spare : Nat → Bool} {held : Bool} {t : TypeId} {k : FloatKind} {n : Nat} (m : Nat) (ht : P.underlying t = some (.float k)) (hw : (Lit.float k n).wf = true) : DataW.trod enc P w base spare held (m + 1) t [.float k n] = some (.lit (.float k n), []) := by
  simp [DataW.trod, ht, hw]

set_option maxRecDepth 100000 in
theorem trod_iv2_mk {H : Type} {enc : TypeId × Value → H} {w : World} {base : Nat} {spare : Nat → Bool} {held : Bool} {lo hi : Nat} (w0 : (Lit.float .f64 lo).wf = true) (w1 : (Lit.float .f64 hi).wf = true) :
    DataW.trod enc Try.prog w base spare held 2 27 [.float .f64 lo, .float .f64 hi] = some (.agg [.lit (.float .f64 lo), .lit (.float .f64 hi)], []) := by
  have k : Try.prog.cellsOf 22 = 1 := by kernel_rfl
  have h0 : DataW.trod enc Try.prog w base spare held 1 22 (([.float .f64 lo, .float .f64 hi].drop 0).take (Try.prog.cellsOf 22)) = some (.lit (.float .f64 lo), []) := by rw [k]; exact trod_float_one 0 Try.underlying22 w0
  have h1 : DataW.trod enc Try.prog w base spare held 1 22 (([.float .f64 lo, .float .f64 hi].drop 1).take (Try.prog.cellsOf 22)) = some (.lit (.float .f64 hi), []) := by rw [k]; exact trod_float_one 0 Try.underlying22 w1
  exact trod_struct2_mk Try.underlying27 (by rw [Try.cellsIv]; rfl) h0 h1

set_option maxRecDepth 100000 in
theorem shut_vec {H : Type} {enc : TypeId × Value → H} {W : World} {base : Nat} {spare : Nat → Bool} {held : Bool} {a b c e f g : Nat} (w0 : (Lit.float .f64 a).wf = true) (w1 : (Lit.float .f64 b).wf = true) (w2 : (Lit.float .f64 c).wf = true) (w3 : (Lit.float .f64 e).wf = true) (w4 : (Lit.float .f64 f).wf = true) (w5 : (Lit.float .f64 g).wf = true) :
    DataW.Trod enc Try.prog W base spare held 29 (.agg #[.float .f64 a, .float .f64 b, .float .f64 c, .float .f64 e, .float .f64 f, .float .f64 g]) (.agg [.agg [.lit (.float .f64 a), .lit (.float .f64 b)], .agg [.lit (.float .f64 c), .lit (.float .f64 e)], .agg [.lit (.float .f64 f), .lit (.float .f64 g)]]) [] := by
  have h0 : DataW.trod enc Try.prog W base spare held 2 27 (([.float .f64 a, .float .f64 b, .float .f64 c, .float .f64 e, .float .f64 f, .float .f64 g].drop 0).take (Try.prog.cellsOf 27)) = some (.agg [.lit (.float .f64 a), .lit (.float .f64 b)], []) := by rw [Try.cellsIv]; exact trod_iv2_mk w0 w1
  have h1 : DataW.trod enc Try.prog W base spare held 2 27 (([.float .f64 a, .float .f64 b, .float .f64 c, .float .f64 e, .float .f64 f, .float .f64 g].drop 2).take (Try.prog.cellsOf 27)) = some (.agg [.lit (.float .f64 c), .lit (.float .f64 e)], []) := by rw [Try.cellsIv]; exact trod_iv2_mk w2 w3
  have h2 : DataW.trod enc Try.prog W base spare held 2 27 (([.float .f64 a, .float .f64 b, .float .f64 c, .float .f64 e, .float .f64 f, .float .f64 g].drop 4).take (Try.prog.cellsOf 27)) = some (.agg [.lit (.float .f64 f), .lit (.float .f64 g)], []) := by rw [Try.cellsIv]; exact trod_iv2_mk w4 w5
  exact ⟨3, trod_struct3_mk Try.underlying29 (by rw [Try.cellsVec]; rfl) h0 h1 h2⟩

end Go.Proofs.Ytdppppaoflhgdaa

namespace Go.Proofs.Ytdppppaoflhgdaa
open Go.ChangeShapes Go.WideShapes Go.ChangeAt Go.RowKit

set_option maxRecDepth 100000 in
theorem vecTimes_lifted (os : Os) (started : os.Started) (H : Type) (enc : TypeId × Value → H) :
    ReturnsInHanded {} Try.checked os 3 .any (Rows.vecTimesSpec.pre6 enc Try.prog Try.f3 Rows.vecTimesRow.domain false) (Rows.vecTimesSpec.post enc Try.prog Try.f3 false true false false) := by
  refine returnsInHanded_of_change (C := Try.checked) Try.own started (by kernel_rfl) Try.func3
    (ChangeSpec.witness6 (enc := enc) (C := Try.checked) false ⟨#[], #[.agg #[.float .f64 0, .float .f64 0, .float .f64 0], .int .i8 0], []⟩ 8 (by kernel_rfl) (by kernel_rfl) (by kernel_rfl) (by kernel_rfl)) ?_
  intro W base args ds gs before hval0 hW hcnd _
  have hval : ∀ (j : Nat) t v, Try.f3.params[j]? = some t → args[j]? = some v → Value.okWide Try.prog W .any base t v := hval0
  have hW' := hW
  obtain ⟨p, q, hA0, hV, rfl, hfz, hnd⟩ := hW
  have hA : DataW.TrodAll enc Try.prog W 0 (fun _ => true) true Try.f3.params.toList args.toList ds p := hA0
  rw [Try.params3] at hA hval
  obtain ⟨v0, v1, d0, d1, p0, p1, rfl, rfl, rfl, h0, h1⟩ := trodAll_two hA
  obtain ⟨rfl, rfl⟩ := trodVars_none hV
  obtain ⟨x0, y0, z0, rfl, rfl, rfl, wx0, wy0, wz0⟩ := open_f3 (hval 0 24 v0 rfl rfl) h0
  obtain ⟨y1, rfl, rfl, rfl, wf1⟩ := open_int Try.underlying25 (hval 1 25 v1 rfl rfl) h1
  clear hA0 hval0
  simp only [List.append_nil] at hW'
  have lt : ∀ {x : Nat}, (Lit.float .f64 x).wf = true → x < 18446744073709551616 := fun h => by simpa [Lit.wf] using h
  refine (vecTimes_any x0 y0 z0 y1 W (lt wx0) (lt wy0) (lt wz0)).mono fun e W' ⟨he, hw⟩ => ?_
  subst he
  refine ⟨_, rfl, _, _, _, [], [], [], hW', trodAll_mk1 (shut_bool Try.underlying4 _), trodAll_mk2 (shut_f3 wx0 wy0 wz0) (shut_int Try.underlying25 wf1), rfl, hw.frame _, fun h => by cases h⟩

theorem vecTimes_holds : Rows.VecTimesSaid :=
  OpenClaim.holds_of_wide 3 Try.f3 rfl rfl rfl rfl rfl rfl rfl ⟨rfl, rfl, rfl, rfl, rfl⟩ rfl rfl rfl rfl rfl (by kernel_rfl) Try.func3 (by kernel_rfl)
    (of_decide_eq_true (by kernel_rfl)) (by unfold Func.isWrapper; first | (rw [if_pos (by decide +kernel)]; kernel_rfl) | (rw [if_neg (by decide +kernel)]; exact ⟨rfl, rfl⟩))
    (fun os started H enc _ => vecTimes_lifted os started H enc)

end Go.Proofs.Ytdppppaoflhgdaa
