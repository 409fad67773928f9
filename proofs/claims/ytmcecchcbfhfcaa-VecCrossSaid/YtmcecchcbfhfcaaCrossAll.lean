
/- VecCross holds for any two triples of any floats: the law answers true, and its arguments read as before. No conditions. -/
import Derived.Test.YtmcecchcbfhfcaaVecAll
import Derived.Test.YtmcecchcbfhfcaaBase
import Derived.ProofKit
import Derived.Lib.SmallJoins
import Derived.Laws.Cover2
import Derived.Carry
namespace Go.Proofs.Ytmcecchcbfhfcaa
open Go.RowKit

theorem corner_lo {l h l' h' X Y M : Int} (x1 : l ≤ X) (x2 : X ≤ h) (y1 : l' ≤ Y) (y2 : Y ≤ h') (c1 : M ≤ l * l') (c2 : M ≤ l * h') (c3 : M ≤ h * l') (c4 : M ≤ h * h') : M ≤ X * Y := by
  rcases Int.le_total 0 Y with g | g
  · have k : l * Y ≤ X * Y := Int.mul_le_mul_of_nonneg_right x1 g
    rcases Int.le_total 0 l with g' | g'
    · exact Int.le_trans (Int.le_trans c1 (mul_le_l y1 g')) k
    · exact Int.le_trans (Int.le_trans c2 (mul_le_n y2 g')) k
  · have k : h * Y ≤ X * Y := Int.mul_le_mul_of_nonpos_right x2 g
    rcases Int.le_total 0 h with g' | g'
    · exact Int.le_trans (Int.le_trans c3 (mul_le_l y1 g')) k
    · exact Int.le_trans (Int.le_trans c4 (mul_le_n y2 g')) k
theorem corner_hi {l h l' h' X Y M : Int} (x1 : l ≤ X) (x2 : X ≤ h) (y1 : l' ≤ Y) (y2 : Y ≤ h') (c1 : l * l' ≤ M) (c2 : l * h' ≤ M) (c3 : h * l' ≤ M) (c4 : h * h' ≤ M) : X * Y ≤ M := by
  have k := corner_lo (l := -h) (h := -l) (X := -X) (M := -M) (by omega) (by omega) y1 y2 (by rw [Int.neg_mul]; omega) (by rw [Int.neg_mul]; omega) (by rw [Int.neg_mul]; omega) (by rw [Int.neg_mul]; omega)
  rw [Int.neg_mul] at k
  omega

/-- The interval, in steps of 1 / P of the least one, has T. -/
def HasP (r : Res) (P T : Int) : Prop := val r.lo * P ≤ T ∧ T ≤ val r.hi * P
def SS : Int := ((2 ^ sq : Nat) : Int)
theorem ss_pos : 0 ≤ SS := Int.natCast_nonneg _
theorem HasP.one (x : Nat) : HasP (oneR x) 1 (val x) := ⟨by show val x * 1 ≤ _; omega, by show _ ≤ val x * 1; omega⟩
theorem quad (a b c d : Int) : a * b * (c * d) = a * c * (b * d) := by ac_rfl

theorem HasP.mul {r s : Res} {P Q T U : Int} (hP : 0 ≤ P) (hQ : 0 ≤ Q) (fr : Fit r) (fs : Fit s) (h : HasP r P T) (h' : HasP s Q U) (he : (mulR r s).e = 0) : HasP (mulR r s) (SS * (P * Q)) (T * U) := by
  obtain ⟨T0, U0, ⟨R, _, _⟩, W⟩ := mul_worth r.lo r.hi s.lo s.hi fr.lo fr.hi fs.lo fs.hi fr.iv fs.iv
  obtain ⟨d, u⟩ := W.ends he
  obtain ⟨_, _, d3, _⟩ := d.ok
  obtain ⟨_, _, u3, _⟩ := u.ok
  have hPQ : 0 ≤ P * Q := Int.mul_nonneg hP hQ
  have l1 := fr.le
  have l2 := fs.le
  have c1 := R _ _ (Int.le_refl _) l1 (Int.le_refl _) l2
  have c2 := R _ _ (Int.le_refl _) l1 l2 (Int.le_refl _)
  have c3 := R _ _ l1 (Int.le_refl _) (Int.le_refl _) l2
  have c4 := R _ _ l1 (Int.le_refl _) l2 (Int.le_refl _)
  constructor
  · have k1 : val (mulR r s).lo * (SS * (P * Q)) ≤ T0 * (P * Q) := by
      rw [← Int.mul_assoc (val (mulR r s).lo)]
      exact Int.mul_le_mul_of_nonneg_right d3 hPQ
    refine Int.le_trans k1 (corner_lo h.1 h.2 h'.1 h'.2 ?_ ?_ ?_ ?_)
    · rw [quad]; exact Int.mul_le_mul_of_nonneg_right c1.1 hPQ
    · rw [quad]; exact Int.mul_le_mul_of_nonneg_right c2.1 hPQ
    · rw [quad]; exact Int.mul_le_mul_of_nonneg_right c3.1 hPQ
    · rw [quad]; exact Int.mul_le_mul_of_nonneg_right c4.1 hPQ
  · have k1 : U0 * (P * Q) ≤ val (mulR r s).hi * (SS * (P * Q)) := by
      rw [← Int.mul_assoc (val (mulR r s).hi)]
      exact Int.mul_le_mul_of_nonneg_right u3 hPQ
    refine Int.le_trans (corner_hi h.1 h.2 h'.1 h'.2 ?_ ?_ ?_ ?_) k1
    · rw [quad]; exact Int.mul_le_mul_of_nonneg_right c1.2 hPQ
    · rw [quad]; exact Int.mul_le_mul_of_nonneg_right c2.2 hPQ
    · rw [quad]; exact Int.mul_le_mul_of_nonneg_right c3.2 hPQ
    · rw [quad]; exact Int.mul_le_mul_of_nonneg_right c4.2 hPQ

theorem HasP.add {r s : Res} {P T U : Int} (hP : 0 ≤ P) (fr : Fit r) (fs : Fit s) (h : HasP r P T) (h' : HasP s P U) (he : (addR r s).e = 0) : HasP (addR r s) P (T + U) := by
  obtain ⟨e1, e2, e3⟩ := tight_e he
  have d := add_down r.lo s.lo fr.rlo fs.rlo
  have u := add_up r.hi s.hi fr.rhi fs.rhi
  rw [e1] at d
  rw [e2] at u
  obtain ⟨_, _, d3, _⟩ := d.ok
  obtain ⟨_, _, u3, _⟩ := u.ok
  have m1 : (addR r s).lo = addW r.lo s.lo false := congrArg Res.lo e3
  have m2 : (addR r s).hi = addW r.hi s.hi true := congrArg Res.hi e3
  unfold HasP at h h' ⊢
  rw [m1, m2]
  have k1 : val (addW r.lo s.lo false) * P ≤ (val r.lo + val s.lo) * P := Int.mul_le_mul_of_nonneg_right (by omega) hP
  have k2 : (val r.hi + val s.hi) * P ≤ val (addW r.hi s.hi true) * P := Int.mul_le_mul_of_nonneg_right (by omega) hP
  rw [Int.add_mul] at k1 k2
  omega
theorem HasP.sub {r s : Res} {P T U : Int} (hP : 0 ≤ P) (fr : Fit r) (fs : Fit s) (h : HasP r P T) (h' : HasP s P U) (he : (subR r s).e = 0) : HasP (subR r s) P (T - U) := by
  obtain ⟨e1, e2, e3⟩ := tight_e he
  have d := sub_down r.lo s.hi fr.rlo fs.rhi
  have u := sub_up r.hi s.lo fr.rhi fs.rlo
  rw [e1] at d
  rw [e2] at u
  obtain ⟨_, _, d3, _⟩ := d.ok
  obtain ⟨_, _, u3, _⟩ := u.ok
  have m1 : (subR r s).lo = subW r.lo s.hi false := congrArg Res.lo e3
  have m2 : (subR r s).hi = subW r.hi s.lo true := congrArg Res.hi e3
  unfold HasP at h h' ⊢
  rw [m1, m2]
  have k1 : val (subW r.lo s.hi false) * P ≤ (val r.lo - val s.hi) * P := Int.mul_le_mul_of_nonneg_right (by omega) hP
  have k2 : (val r.hi - val s.lo) * P ≤ val (subW r.hi s.lo true) * P := Int.mul_le_mul_of_nonneg_right (by omega) hP
  rw [Int.sub_mul] at k1 k2
  omega
/-- A square has what the product with itself has. -/
theorem HasP.sqr {r : Res} {P T : Int} (hP : 0 ≤ P) (fr : Fit r) (h : HasP r P T) (he : (sqrR r).e = 0) : HasP (sqrR r) (SS * (P * P)) (T * T) := by
  obtain ⟨_, _, p1, p2, a1, a2⟩ := abs_facts r.lo r.hi fr.lo fr.hi fr.iv
  obtain ⟨e1, e2, e3⟩ := tight_e he
  have d := (mul_dir _ _ p1 p1 false).1 rfl
  have u := (mul_dir _ _ p2 p2 true).2 rfl
  rw [e1] at d
  rw [e2] at u
  obtain ⟨_, _, d3, _⟩ := d.ok
  obtain ⟨_, _, u3, _⟩ := u.ok
  have m1 : (sqrR r).lo = mulW (absLo r.lo r.hi) (absLo r.lo r.hi) false := congrArg Res.lo e3
  have m2 : (sqrR r).hi = mulW (absHi r.lo r.hi) (absHi r.lo r.hi) true := congrArg Res.hi e3
  have hPP : 0 ≤ P * P := Int.mul_nonneg hP hP
  have l1 := fr.le
  obtain ⟨h1, h2⟩ := h
  have b0 : 0 ≤ val (absLo r.lo r.hi) * P := Int.mul_nonneg (by rw [a1]; split <;> (try split) <;> omega) hP
  have n1 : -(val r.hi) * P = -(val r.hi * P) := Int.neg_mul _ _
  have n2 : -(val r.lo) * P = -(val r.lo * P) := Int.neg_mul _ _
  have lowT : val (absLo r.lo r.hi) * P ≤ T ∨ val (absLo r.lo r.hi) * P ≤ -T := by
    rw [a1]
    split
    · exact Or.inl h1
    · split
      · right; omega
      · rw [Int.zero_mul]; omega
  have mx1 : val r.hi * P ≤ val (absHi r.lo r.hi) * P := Int.mul_le_mul_of_nonneg_right (by rw [a2]; omega) hP
  have mx2 : -(val r.lo) * P ≤ val (absHi r.lo r.hi) * P := Int.mul_le_mul_of_nonneg_right (by rw [a2]; omega) hP
  constructor
  · rw [m1, ← Int.mul_assoc]
    refine Int.le_trans (Int.mul_le_mul_of_nonneg_right d3 hPP) ?_
    rw [quad]
    rcases lowT with g | g
    · exact Int.mul_le_mul g g b0 (by omega)
    · have := Int.mul_le_mul g g b0 (by omega)
      rw [Int.neg_mul_neg] at this; exact this
  · rw [m2, ← Int.mul_assoc]
    refine Int.le_trans ?_ (Int.mul_le_mul_of_nonneg_right u3 hPP)
    rw [quad]
    rcases Int.le_total 0 T with g | g
    · exact Int.mul_le_mul (by omega) (by omega) g (by omega)
    · have : -T * -T ≤ val (absHi r.lo r.hi) * P * (val (absHi r.lo r.hi) * P) := Int.mul_le_mul (by omega) (by omega) (by omega) (by omega)
      rw [Int.neg_mul_neg] at this; exact this

theorem down_same {s : Nat} {T : Int} {c c' : Nat} (d : Down s T c 0) (d' : Down s T c' 0) : c = c' := by
  obtain ⟨a1, a2, a3, a4⟩ := d.ok
  obtain ⟨b1, b2, b3, b4⟩ := d'.ok
  have h1 := a4 c' b1 b2 b3
  have h2 := b4 c a1 a2 a3
  exact val_inj a1 b1 a2 b2 (by omega)
theorem up_same {s : Nat} {T : Int} {c c' : Nat} (d : Up s T c 0) (d' : Up s T c' 0) : c = c' := by
  obtain ⟨a1, a2, a3, a4⟩ := d.ok
  obtain ⟨b1, b2, b3, b4⟩ := d'.ok
  have h1 := a4 c' b1 b2 b3
  have h2 := b4 c a1 a2 a3
  exact val_inj a1 b1 a2 b2 (by omega)
theorem res_ext {r s : Res} (h1 : r.e = s.e) (h2 : r.lo = s.lo) (h3 : r.hi = s.hi) : r = s := by
  cases r; cases s; simp at *; exact ⟨h1, h2, h3⟩
/-- A product the other way about is the same. -/
theorem mul_comm_R {a b : Res} (fa : Fit a) (fb : Fit b) (h : (mulR a b).e = 0) : mulR b a = mulR a b := by
  obtain ⟨T, U, R, W⟩ := mul_worth a.lo a.hi b.lo b.hi fa.lo fa.hi fb.lo fb.hi fa.iv fb.iv
  obtain ⟨T', U', R', W'⟩ := mul_worth b.lo b.hi a.lo a.hi fb.lo fb.hi fa.lo fa.hi fb.iv fa.iv
  have R2 := ranged_swap R'
  obtain ⟨g1, g2⟩ := ranged_mono R R2 (Int.le_refl _) (Int.le_refl _) (Int.le_refl _) (Int.le_refl _)
  obtain ⟨g3, g4⟩ := ranged_mono R2 R (Int.le_refl _) (Int.le_refl _) (Int.le_refl _) (Int.le_refl _)
  obtain rfl : T = T' := by omega
  obtain rfl : U = U' := by omega
  obtain ⟨d, u⟩ := W.ends h
  have h' : (mulR b a).e = 0 := W'.there ⟨_, d⟩ ⟨_, u⟩
  obtain ⟨d', u'⟩ := W'.ends h'
  exact res_ext (by rw [h, h']) (down_same d' d) (up_same u' u)
/-- A difference the other way about is turned. -/
theorem sub_turn {V W : Res} (fV : Fit V) (fW : Fit W) (h : (subR V W).e = 0) (h' : (subR W V).e = 0) : negR (subR V W) = subR W V := by
  obtain ⟨e1, e2, e3⟩ := tight_e h
  obtain ⟨g1, g2, g3⟩ := tight_e h'
  have q1 : subR V W = ⟨0, subW V.lo W.hi false, subW V.hi W.lo true⟩ := e3
  have q2 : subR W V = ⟨0, subW W.lo V.hi false, subW W.hi V.lo true⟩ := g3
  have m1 := mirror 1 _ _ _ _ _ (sub_down W.lo V.hi fW.rlo fV.rhi) (by
    have u := sub_up V.hi W.lo fV.rhi fW.rlo
    rw [show val V.hi - val W.lo = -(val W.lo - val V.hi) by omega] at u
    exact u)
  have m2 := mirror 1 _ _ _ _ _ (sub_down V.lo W.hi fV.rlo fW.rhi) (by
    have u := sub_up W.hi V.lo fW.rhi fV.rlo
    rw [show val W.hi - val V.lo = -(val V.lo - val W.hi) by omega] at u
    exact u)
  rw [q2]
  unfold negR negI
  rw [q1]
  refine res_ext rfl ?_ ?_
  · show turnW (subW V.hi W.lo true) = subW W.lo V.hi false
    rcases m1 with ⟨_, _, _, _, m⟩ | ⟨m, _⟩
    · exact m.symm
    · rw [g1] at m; exact absurd m (by decide)
  · show turnW (subW V.lo W.hi false) = subW W.hi V.lo true
    rcases m2 with ⟨_, _, m3, m4, m⟩ | ⟨m, _⟩
    · rw [m, turn_turn _ m3 m4]
    · rw [e1] at m; exact absurd m (by decide)

theorem upright (a1 a2 a3 b1 b2 b3 : Int) : (a2 * b3 - a3 * b2) * a1 + (a3 * b1 - a1 * b3) * a2 + (a1 * b2 - a2 * b1) * a3 = 0 := by grind
theorem upright2 (a1 a2 a3 b1 b2 b3 : Int) : (a2 * b3 - a3 * b2) * b1 + (a3 * b1 - a1 * b3) * b2 + (a1 * b2 - a2 * b1) * b3 = 0 := by grind
theorem lagrange (a1 a2 a3 b1 b2 b3 : Int) : (a2 * b3 - a3 * b2) * (a2 * b3 - a3 * b2) + (a3 * b1 - a1 * b3) * (a3 * b1 - a1 * b3) + (a1 * b2 - a2 * b1) * (a1 * b2 - a2 * b1) + (a1 * b1 + a2 * b2 + a3 * b3) * (a1 * b1 + a2 * b2 + a3 * b3) = (a1 * a1 + a2 * a2 + a3 * a3) * (b1 * b1 + b2 * b2 + b3 * b3) := by grind

end Go.Proofs.Ytmcecchcbfhfcaa

namespace Go.Proofs.Ytmcecchcbfhfcaa
open Go.RowKit

/-- A number that is not beyond 2^64. -/
structure Small (x : Nat) : Prop where
  lt : x < 18446744073709551616
  right : rightB x = true
  le : (val x).natAbs ≤ (val 4895412794951729152).natAbs
def bigN : Res := ⟨0, 14118784831806504960, 4895412794951729152⟩
def bigV : V3 := ⟨bigN, bigN, bigN⟩
theorem bigN_fit : Fit bigN := .of (by decide +kernel)
theorem bigV_fit : FitV bigV := ⟨bigN_fit, bigN_fit, bigN_fit⟩
theorem val_m64 : val 14118784831806504960 = -val 4895412794951729152 ∧ 0 ≤ val 4895412794951729152 := by decide +kernel
theorem small_in {x : Nat} (h : Small x) : In (oneR x) bigN := by
  have h1 := val_m64
  have h2 := h.le
  refine ⟨one_fit h.lt h.right, ?_, ?_⟩
  · show val 14118784831806504960 ≤ val x
    omega
  · show val x ≤ val 4895412794951729152
    omega

def pointV (x y z : Nat) : V3 := ⟨oneR x, oneR y, oneR z⟩
theorem point_in {x y z : Nat} (hx : Small x) (hy : Small y) (hz : Small z) : InV (pointV x y z) bigV := ⟨small_in hx, small_in hy, small_in hz⟩

def bigX : V3 := crossV 0 bigV bigV
theorem big_e : bigX.z.e = 0 ∧ (negV 0 bigX).z.e = 0 ∧ (dotV 0 bigX bigV).e = 0 ∧ (dotV 0 bigV bigV).e = 0 ∧ (dotV 0 bigX bigX).e = 0 ∧ (stQ 0 (dotV 0 bigV bigV)).e = 0 ∧ (stA 0 (dotV 0 bigX bigX) (stQ 0 (dotV 0 bigV bigV))).e = 0 ∧ (stM 0 (dotV 0 bigV bigV) (dotV 0 bigV bigV)).e = 0 := by decide +kernel

/-- The steps without an error, one by one. -/
theorem dot_parts {a b : V3} (fa : FitV a) (fb : FitV b) (h : (dotV 0 a b).e = 0) : dotV 0 a b = addR (addR (mulR a.x b.x) (mulR a.y b.y)) (mulR a.z b.z) ∧ (mulR a.x b.x).e = 0 ∧ (mulR a.y b.y).e = 0 ∧ (mulR a.z b.z).e = 0 ∧ (addR (mulR a.x b.x) (mulR a.y b.y)).e = 0 ∧
    Fit (mulR a.x b.x) ∧ Fit (mulR a.y b.y) ∧ Fit (mulR a.z b.z) ∧ Fit (addR (mulR a.x b.x) (mulR a.y b.y)) := by
  have h4 := stA_e h
  have h3 := stM_e h4
  have h2 := stA_e h3
  have h1 := stM_e h2
  have f1 := (stM_in h1 rfl (.refl fa.x) fa.x (.refl fb.x) fb.x).1
  have f2 := (stM_in h2 rfl (.refl fa.y) fa.y (.refl fb.y) fb.y).1
  have f3 := (stA_in h3 rfl (.refl f1) f1 (.refl f2) f2).1
  have f4 := (stM_in h4 rfl (.refl fa.z) fa.z (.refl fb.z) fb.z).1
  have q1 : dot1 0 a b = mulR a.x b.x := (st_none h1).2.2
  have q2 : dot2 0 a b = mulR a.y b.y := (st_none h2).2.2
  have q3 : dot3 0 a b = addR (dot1 0 a b) (dot2 0 a b) := (st_none h3).2.2
  have q4 : dot4 0 a b = mulR a.z b.z := (st_none h4).2.2
  have q5 : dotV 0 a b = addR (dot3 0 a b) (dot4 0 a b) := (st_none h).2.2
  have g1 : Fit (dot1 0 a b) := f1
  have g2 : Fit (dot2 0 a b) := f2
  have g3 : Fit (dot3 0 a b) := f3
  have g4 : Fit (dot4 0 a b) := f4
  rw [q1] at g1 q3
  rw [q2] at g2 q3
  rw [q3] at g3 q5
  rw [q4] at g4 q5
  exact ⟨q5, g1.e, g2.e, g4.e, g3.e, g1, g2, g4, g3⟩
theorem dot_has {a b : V3} {P Q T1 T2 T3 U1 U2 U3 : Int} (hP : 0 ≤ P) (hQ : 0 ≤ Q) (fa : FitV a) (fb : FitV b) (h : (dotV 0 a b).e = 0) (a1 : HasP a.x P T1) (a2 : HasP a.y P T2) (a3 : HasP a.z P T3) (b1 : HasP b.x Q U1) (b2 : HasP b.y Q U2) (b3 : HasP b.z Q U3) :
    HasP (dotV 0 a b) (SS * (P * Q)) (T1 * U1 + T2 * U2 + T3 * U3) := by
  obtain ⟨q, e1, e2, e3, e4, f1, f2, f3, f4⟩ := dot_parts fa fb h
  have hS : 0 ≤ SS * (P * Q) := Int.mul_nonneg ss_pos (Int.mul_nonneg hP hQ)
  rw [q] at h ⊢
  exact ((a1.mul hP hQ fa.x fb.x b1 e1).add hS f1 f2 (a2.mul hP hQ fa.y fb.y b2 e2) e4).add hS f4 f3 (a3.mul hP hQ fa.z fb.z b3 e3) h
theorem dot_comm {a b : V3} (fa : FitV a) (fb : FitV b) (h : (dotV 0 a b).e = 0) (h' : (dotV 0 b a).e = 0) : dotV 0 b a = dotV 0 a b := by
  obtain ⟨q, e1, e2, e3, _, _, _, _, _⟩ := dot_parts fa fb h
  obtain ⟨q', _, _, _, _, _, _, _, _⟩ := dot_parts fb fa h'
  rw [q, q', mul_comm_R fa.x fb.x e1, mul_comm_R fa.y fb.y e2, mul_comm_R fa.z fb.z e3]

theorem across_parts {e : Int} {p q r s : Res} (fp : Fit p) (fq : Fit q) (fr : Fit r) (fs : Fit s) (h : (across e p q r s).e = 0) : across e p q r s = subR (mulR p q) (mulR r s) ∧ (mulR p q).e = 0 ∧ (mulR r s).e = 0 ∧ Fit (mulR p q) ∧ Fit (mulR r s) := by
  have h2 := stS_e h
  have h1 := stM_e h2
  have f1 := (stM_in h1 rfl (.refl fp) fp (.refl fq) fq).1
  have f2 := (stM_in h2 rfl (.refl fr) fr (.refl fs) fs).1
  have q1 : acr1 e p q = mulR p q := (st_none h1).2.2
  have q2 : acr2 e p q r s = mulR r s := (st_none h2).2.2
  have q3 : across e p q r s = subR (acr1 e p q) (acr2 e p q r s) := (st_none h).2.2
  have g1 : Fit (acr1 e p q) := f1
  have g2 : Fit (acr2 e p q r s) := f2
  rw [q1] at g1 q3
  rw [q2] at g2 q3
  exact ⟨q3, g1.e, g2.e, g1, g2⟩
theorem across_has {e : Int} {p q r s : Res} {P Q T U V W : Int} (hP : 0 ≤ P) (hQ : 0 ≤ Q) (fp : Fit p) (fq : Fit q) (fr : Fit r) (fs : Fit s) (h : (across e p q r s).e = 0) (p1 : HasP p P T) (q1 : HasP q Q U) (r1 : HasP r P V) (s1 : HasP s Q W) :
    HasP (across e p q r s) (SS * (P * Q)) (T * U - V * W) := by
  obtain ⟨q', e1, e2, f1, f2⟩ := across_parts fp fq fr fs h
  have hS : 0 ≤ SS * (P * Q) := Int.mul_nonneg ss_pos (Int.mul_nonneg hP hQ)
  rw [q'] at h ⊢
  exact (p1.mul hP hQ fp fq q1 e1).sub hS f1 f2 (r1.mul hP hQ fr fs s1 e2) h
theorem across_turn {e f : Int} {p q r s : Res} (fp : Fit p) (fq : Fit q) (fr : Fit r) (fs : Fit s) (h : (across e p q r s).e = 0) (h' : (across f s r q p).e = 0) : negR (across f s r q p) = across e p q r s := by
  obtain ⟨q1, e1, e2, f1, f2⟩ := across_parts fp fq fr fs h
  obtain ⟨q2, e3, e4, f3, f4⟩ := across_parts fs fr fq fp h'
  have m1 := mul_comm_R fp fq e1
  have m2 := mul_comm_R fr fs e2
  rw [m2, m1] at q2
  rw [q1] at h
  rw [q2] at h'
  rw [q1, q2]
  exact sub_turn f2 f1 h' h

/-- All of the law's vectors and intervals. -/
structure CrossOk (a b : V3) : Prop where
  fa : FitV a
  fb : FitV b
  fx : FitV (crossV 0 a b)
  fy : FitV (crossV 0 b a)
  fn : FitV (negV 0 (crossV 0 b a))
  fp : Fit (dotV 0 (crossV 0 a b) a)
  fq : Fit (dotV 0 (crossV 0 a b) b)
  fd : Fit (dotV 0 a b)
  fe : Fit (dotV 0 b a)
  fxx : Fit (dotV 0 (crossV 0 a b) (crossV 0 a b))
  fsd : Fit (stQ 0 (dotV 0 a b))
  fl : Fit (stA 0 (dotV 0 (crossV 0 a b) (crossV 0 a b)) (stQ 0 (dotV 0 a b)))
  faa : Fit (dotV 0 a a)
  fbb : Fit (dotV 0 b b)
  fr : Fit (stM 0 (dotV 0 a a) (dotV 0 b b))

theorem cross_ok {a b : V3} (ia : InV a bigV) (ib : InV b bigV) : CrossOk a b := by
  obtain ⟨e1, e2, e3, e4, e5, e6, e7, e8⟩ := big_e
  have hB := bigV_fit
  obtain ⟨fX, iX⟩ := crossV_in (a := a) (b := b) e1 rfl ia hB ib hB
  obtain ⟨_, iY⟩ := crossV_in (a := b) (b := a) e1 rfl ib hB ia hB
  obtain ⟨_, iN⟩ := negV_in (a := crossV 0 b a) e2 rfl iY fX
  obtain ⟨_, iP⟩ := dotV_in (a := crossV 0 a b) (b := a) e3 rfl iX fX ia hB
  obtain ⟨_, iQ⟩ := dotV_in (a := crossV 0 a b) (b := b) e3 rfl iX fX ib hB
  obtain ⟨fD, iD⟩ := dotV_in (a := a) (b := b) e4 rfl ia hB ib hB
  obtain ⟨_, iE⟩ := dotV_in (a := b) (b := a) e4 rfl ib hB ia hB
  obtain ⟨fXX, iXX⟩ := dotV_in (a := crossV 0 a b) (b := crossV 0 a b) e5 rfl iX fX iX fX
  obtain ⟨fS, iS⟩ := stQ_in (a := dotV 0 a b) e6 rfl iD fD
  obtain ⟨_, iL⟩ := stA_in (a := dotV 0 (crossV 0 a b) (crossV 0 a b)) (b := stQ 0 (dotV 0 a b)) e7 rfl iXX fXX iS fS
  obtain ⟨_, iA⟩ := dotV_in (a := a) (b := a) e4 rfl ia hB ia hB
  obtain ⟨_, iB⟩ := dotV_in (a := b) (b := b) e4 rfl ib hB ib hB
  obtain ⟨_, iR⟩ := stM_in (a := dotV 0 a a) (b := dotV 0 b b) e8 rfl iA fD iB fD
  exact ⟨ia.fit, ib.fit, iX.fit, iY.fit, iN.fit, iP.fit, iQ.fit, iD.fit, iE.fit, iXX.fit, iS.fit, iL.fit, iA.fit, iB.fit, iR.fit⟩

theorem v3_ext {a b : V3} (h1 : a.x = b.x) (h2 : a.y = b.y) (h3 : a.z = b.z) : a = b := by
  cases a; cases b; simp at *; exact ⟨h1, h2, h3⟩
/-- The cross the other way about, turned. -/
theorem cross_turn {a b : V3} (o : CrossOk a b) : negV 0 (crossV 0 b a) = crossV 0 a b := by
  have n3 : (negV 0 (crossV 0 b a)).z.e = 0 := o.fn.z.e
  have n2 := stN_e n3
  have n1 := stN_e n2
  have q1 : (negV 0 (crossV 0 b a)).x = negR (crossV 0 b a).x := (st_none n1).2.2
  have q2 : (negV 0 (crossV 0 b a)).y = negR (crossV 0 b a).y := (st_none n2).2.2
  have q3 : (negV 0 (crossV 0 b a)).z = negR (crossV 0 b a).z := (st_none n3).2.2
  refine v3_ext ?_ ?_ ?_
  · rw [q1]; exact across_turn o.fa.y o.fb.z o.fa.z o.fb.y o.fx.x.e o.fy.x.e
  · rw [q2]; exact across_turn o.fa.z o.fb.x o.fa.x o.fb.z o.fx.y.e o.fy.y.e
  · rw [q3]; exact across_turn o.fa.x o.fb.y o.fa.y o.fb.x o.fx.z.e o.fy.z.e

theorem hasP_zero {r : Res} {P : Int} (hP : 0 < P) (f : Fit r) (h : HasP r P 0) : hasB r.lo r.hi 0 = true := by
  obtain ⟨h1, h2⟩ := h
  have l1 : val r.lo ≤ 0 := by
    rcases Int.lt_or_le 0 (val r.lo) with g | g
    · have := Int.mul_pos g hP; omega
    · exact g
  have l2 : 0 ≤ val r.hi := by
    rcases Int.lt_or_le (val r.hi) 0 with g | g
    · have := Int.mul_neg_of_neg_of_pos g hP; omega
    · exact g
  have o1 := order_le r.lo 0 f.lo (by decide) f.rlo right_0
  have o2 := order_le 0 r.hi (by decide) f.hi right_0 f.rhi
  unfold leB at o1 o2
  rw [val_0, decide_eq_true l1] at o1
  rw [val_0, decide_eq_true l2] at o2
  unfold hasB rawLe
  rw [f.iv, o1, o2]; rfl
theorem both_has {r s : Res} {P T : Int} (hP : 0 < P) (fr : Fit r) (fs : Fit s) (h : HasP r P T) (h' : HasP s P T) : bothB r.lo r.hi s.lo s.hi = true := by
  have c : ∀ {x y : Int}, x * P ≤ T → T ≤ y * P → x ≤ y := fun h1 h2 => Int.le_of_mul_le_mul_right (Int.le_trans h1 h2) hP
  unfold bothB leB
  rw [(max_facts r.lo s.lo fr.lo fs.lo fr.rlo fs.rlo).2.2, (min_facts r.hi s.hi fr.hi fs.hi fr.rhi fs.rhi).2.2]
  have := c h.1 h.2
  have := c h.1 h'.2
  have := c h'.1 h.2
  have := c h'.1 h'.2
  exact decide_eq_true (by omega)

theorem ss_pos' : 0 < SS := by
  have : 0 < 2 ^ sq := Nat.two_pow_pos _
  unfold SS; omega

theorem cross_real {f1 f2 f3 g1 g2 g3 : Nat} (o : CrossOk (pointV f1 f2 f3) (pointV g1 g2 g3)) :
    hasB (dotV 0 (crossV 0 (pointV f1 f2 f3) (pointV g1 g2 g3)) (pointV f1 f2 f3)).lo (dotV 0 (crossV 0 (pointV f1 f2 f3) (pointV g1 g2 g3)) (pointV f1 f2 f3)).hi 0 = true ∧
    hasB (dotV 0 (crossV 0 (pointV f1 f2 f3) (pointV g1 g2 g3)) (pointV g1 g2 g3)).lo (dotV 0 (crossV 0 (pointV f1 f2 f3) (pointV g1 g2 g3)) (pointV g1 g2 g3)).hi 0 = true ∧
    bothB (stA 0 (dotV 0 (crossV 0 (pointV f1 f2 f3) (pointV g1 g2 g3)) (crossV 0 (pointV f1 f2 f3) (pointV g1 g2 g3))) (stQ 0 (dotV 0 (pointV f1 f2 f3) (pointV g1 g2 g3)))).lo (stA 0 (dotV 0 (crossV 0 (pointV f1 f2 f3) (pointV g1 g2 g3)) (crossV 0 (pointV f1 f2 f3) (pointV g1 g2 g3))) (stQ 0 (dotV 0 (pointV f1 f2 f3) (pointV g1 g2 g3)))).hi
      (stM 0 (dotV 0 (pointV f1 f2 f3) (pointV f1 f2 f3)) (dotV 0 (pointV g1 g2 g3) (pointV g1 g2 g3))).lo (stM 0 (dotV 0 (pointV f1 f2 f3) (pointV f1 f2 f3)) (dotV 0 (pointV g1 g2 g3) (pointV g1 g2 g3))).hi = true := by
  have u : (0 : Int) ≤ 1 := by decide
  have s0 := ss_pos
  have s1 := ss_pos'
  have hS : 0 ≤ SS * (1 * 1) := by omega
  obtain ⟨a1, a2, a3⟩ : HasP (pointV f1 f2 f3).x 1 (val f1) ∧ HasP (pointV f1 f2 f3).y 1 (val f2) ∧ HasP (pointV f1 f2 f3).z 1 (val f3) := ⟨.one f1, .one f2, .one f3⟩
  obtain ⟨b1, b2, b3⟩ : HasP (pointV g1 g2 g3).x 1 (val g1) ∧ HasP (pointV g1 g2 g3).y 1 (val g2) ∧ HasP (pointV g1 g2 g3).z 1 (val g3) := ⟨.one g1, .one g2, .one g3⟩
  generalize pointV f1 f2 f3 = a at *
  generalize pointV g1 g2 g3 = b at *
  have x1 : HasP (crossV 0 a b).x (SS * (1 * 1)) _ := across_has u u o.fa.y o.fb.z o.fa.z o.fb.y o.fx.x.e a2 b3 a3 b2
  have x2 : HasP (crossV 0 a b).y (SS * (1 * 1)) _ := across_has u u o.fa.z o.fb.x o.fa.x o.fb.z o.fx.y.e a3 b1 a1 b3
  have x3 : HasP (crossV 0 a b).z (SS * (1 * 1)) _ := across_has u u o.fa.x o.fb.y o.fa.y o.fb.x o.fx.z.e a1 b2 a2 b1
  have hp := dot_has hS u o.fx o.fa o.fp.e x1 x2 x3 a1 a2 a3
  have hq := dot_has hS u o.fx o.fb o.fq.e x1 x2 x3 b1 b2 b3
  have hd := dot_has u u o.fa o.fb o.fd.e a1 a2 a3 b1 b2 b3
  have hxx := dot_has hS hS o.fx o.fx o.fxx.e x1 x2 x3 x1 x2 x3
  have haa := dot_has u u o.fa o.fa o.faa.e a1 a2 a3 a1 a2 a3
  have hbb := dot_has u u o.fb o.fb o.fbb.e b1 b2 b3 b1 b2 b3
  have qs : stQ 0 (dotV 0 a b) = sqrR (dotV 0 a b) := (st_none o.fsd.e).2.2
  have hs := hd.sqr hS o.fd (by rw [← qs]; exact o.fsd.e)
  rw [← qs] at hs
  have ql : stA 0 (dotV 0 (crossV 0 a b) (crossV 0 a b)) (stQ 0 (dotV 0 a b)) = addR (dotV 0 (crossV 0 a b) (crossV 0 a b)) (stQ 0 (dotV 0 a b)) := (st_none o.fl.e).2.2
  have hT : 0 ≤ SS * (SS * (1 * 1) * (SS * (1 * 1))) := Int.mul_nonneg s0 (Int.mul_nonneg hS hS)
  have hl := hxx.add hT o.fxx o.fsd hs (by rw [← ql]; exact o.fl.e)
  rw [← ql] at hl
  have qr : stM 0 (dotV 0 a a) (dotV 0 b b) = mulR (dotV 0 a a) (dotV 0 b b) := (st_none o.fr.e).2.2
  have hr := haa.mul hS hS o.faa o.fbb hbb (by rw [← qr]; exact o.fr.e)
  rw [← qr] at hr
  rw [upright] at hp
  rw [upright2] at hq
  rw [lagrange] at hl
  have p1 : 0 < SS * (1 * 1) := by omega
  refine ⟨hasP_zero (Int.mul_pos s1 (Int.mul_pos p1 (by decide))) o.fp hp, hasP_zero (Int.mul_pos s1 (Int.mul_pos p1 (by decide))) o.fq hq, both_has (Int.mul_pos s1 (Int.mul_pos p1 p1)) o.fl o.fr hl hr⟩

end Go.Proofs.Ytmcecchcbfhfcaa

namespace Go.Proofs.Ytmcecchcbfhfcaa
open Go.RowKit
attribute [local go_sem] run_store_float

/-- Region 4: two vectors. -/
def CrJa (w : World) (f1 f2 f3 g1 g2 g3 hc hn1 hn0 : Nat) (a0 : Act) (k : Nat) (p : List (Option Nat)) (a : Act) (v : World) : Prop :=
  ∃ y1 y2 z1 z2 : Value, a = ((((a0.put (some 32) y1).put (some 39) y2).put (some 6) z1).put (some 7) z2) ∧
    (0 < k → y1 = .agg #[.float .f64 f1, .float .f64 f1, .float .f64 f2, .float .f64 f2, .float .f64 f3, .float .f64 f3]) ∧
    (1 < k → y2 = .agg #[.float .f64 g1, .float .f64 g1, .float .f64 g2, .float .f64 g2, .float .f64 g3, .float .f64 g3]) ∧
    (∀ q, p[0]? = some (some q) → z1 = .pointer (some ⟨q, 0, none⟩)) ∧
    (∀ q, p[1]? = some (some q) → z2 = .pointer (some ⟨q, 0, none⟩)) ∧
    OwnF w [(hc, #[.int .i64 0]), (hn1, #[.float .f64 g1, .float .f64 g2, .float .f64 g3]), (hn0, #[.float .f64 f1, .float .f64 f2, .float .f64 f3])] [#[.float .f64 0, .float .f64 0, .float .f64 0, .float .f64 0, .float .f64 0, .float .f64 0], #[.float .f64 0, .float .f64 0, .float .f64 0, .float .f64 0, .float .f64 0, .float .f64 0]] p v

theorem CrJa_0 {w : World} {f1 f2 f3 g1 g2 g3 hc hn1 hn0 : Nat} {a0 a : Act} {p : List (Option Nat)} {v : World} (h : CrJa w f1 f2 f3 g1 g2 g3 hc hn1 hn0 a0 0 p a v) :
    ∃ y1 y2 z1 z2 : Value, a = ((((a0.put (some 32) y1).put (some 39) y2).put (some 6) z1).put (some 7) z2) ∧ (∀ q, p[0]? = some (some q) → z1 = .pointer (some ⟨q, 0, none⟩)) ∧ (∀ q, p[1]? = some (some q) → z2 = .pointer (some ⟨q, 0, none⟩)) ∧ OwnF w [(hc, #[.int .i64 0]), (hn1, #[.float .f64 g1, .float .f64 g2, .float .f64 g3]), (hn0, #[.float .f64 f1, .float .f64 f2, .float .f64 f3])] [#[.float .f64 0, .float .f64 0, .float .f64 0, .float .f64 0, .float .f64 0, .float .f64 0], #[.float .f64 0, .float .f64 0, .float .f64 0, .float .f64 0, .float .f64 0, .float .f64 0]] p v := by
  obtain ⟨y1, y2, z1, z2, ha, hhe1, hhe2, hhg1, hhg2, h⟩ := h
  exact ⟨y1, y2, z1, z2, ha, hhg1, hhg2, h⟩
theorem CrJa_1 {w : World} {f1 f2 f3 g1 g2 g3 hc hn1 hn0 : Nat} {a0 a : Act} {p : List (Option Nat)} {v : World} (h : CrJa w f1 f2 f3 g1 g2 g3 hc hn1 hn0 a0 1 p a v) :
    ∃ y2 z1 z2 : Value, a = ((((a0.put (some 32) (.agg #[.float .f64 f1, .float .f64 f1, .float .f64 f2, .float .f64 f2, .float .f64 f3, .float .f64 f3])).put (some 39) y2).put (some 6) z1).put (some 7) z2) ∧ (∀ q, p[0]? = some (some q) → z1 = .pointer (some ⟨q, 0, none⟩)) ∧ (∀ q, p[1]? = some (some q) → z2 = .pointer (some ⟨q, 0, none⟩)) ∧ OwnF w [(hc, #[.int .i64 0]), (hn1, #[.float .f64 g1, .float .f64 g2, .float .f64 g3]), (hn0, #[.float .f64 f1, .float .f64 f2, .float .f64 f3])] [#[.float .f64 0, .float .f64 0, .float .f64 0, .float .f64 0, .float .f64 0, .float .f64 0], #[.float .f64 0, .float .f64 0, .float .f64 0, .float .f64 0, .float .f64 0, .float .f64 0]] p v := by
  obtain ⟨y1, y2, z1, z2, ha, hhe1, hhe2, hhg1, hhg2, h⟩ := h
  obtain rfl := hhe1 (by decide)
  exact ⟨y2, z1, z2, ha, hhg1, hhg2, h⟩
theorem CrJa_fin {w : World} {f1 f2 f3 g1 g2 g3 hc hn1 hn0 : Nat} {qq1 qq2 : Nat} {a0 a : Act} {v : World} (h : CrJa w f1 f2 f3 g1 g2 g3 hc hn1 hn0 a0 2 [some qq1, some qq2] a v) :
    a = ((((a0.put (some 32) (.agg #[.float .f64 f1, .float .f64 f1, .float .f64 f2, .float .f64 f2, .float .f64 f3, .float .f64 f3])).put (some 39) (.agg #[.float .f64 g1, .float .f64 g1, .float .f64 g2, .float .f64 g2, .float .f64 g3, .float .f64 g3])).put (some 6) (.pointer (some ⟨qq1, 0, none⟩))).put (some 7) (.pointer (some ⟨qq2, 0, none⟩))) ∧ OwnF w [(hc, #[.int .i64 0]), (hn1, #[.float .f64 g1, .float .f64 g2, .float .f64 g3]), (hn0, #[.float .f64 f1, .float .f64 f2, .float .f64 f3])] [#[.float .f64 0, .float .f64 0, .float .f64 0, .float .f64 0, .float .f64 0, .float .f64 0], #[.float .f64 0, .float .f64 0, .float .f64 0, .float .f64 0, .float .f64 0, .float .f64 0]] [some qq1, some qq2] v := by
  obtain ⟨y1, y2, z1, z2, ha, hhe1, hhe2, hhg1, hhg2, h⟩ := h
  obtain rfl := hhe1 (by decide)
  obtain rfl := hhe2 (by decide)
  obtain rfl := hhg1 _ rfl
  obtain rfl := hhg2 _ rfl
  exact ⟨ha, h⟩

/-- Region 7: the dots with both. -/
def CrJb (w : World) (f1 f2 f3 g1 g2 g3 x1 x2 x3 x4 x5 x6 pl ph ql qh hy hx ha hb hc hn1 hn0 : Nat) (a0 : Act) (k : Nat) (p : List (Option Nat)) (a : Act) (v : World) : Prop :=
  ∃ y1 y2 z1 z2 : Value, a = ((((a0.put (some 49) y1).put (some 52) y2).put (some 10) z1).put (some 11) z2) ∧
    (0 < k → y1 = .agg #[.float .f64 pl, .float .f64 ph]) ∧
    (1 < k → y2 = .agg #[.float .f64 ql, .float .f64 qh]) ∧
    (∀ q, p[0]? = some (some q) → z1 = .pointer (some ⟨q, 0, none⟩)) ∧
    (∀ q, p[1]? = some (some q) → z2 = .pointer (some ⟨q, 0, none⟩)) ∧
    OwnF w [(hy, #[.float .f64 x1, .float .f64 x2, .float .f64 x3, .float .f64 x4, .float .f64 x5, .float .f64 x6]), (hx, #[.float .f64 x1, .float .f64 x2, .float .f64 x3, .float .f64 x4, .float .f64 x5, .float .f64 x6]), (ha, #[.float .f64 f1, .float .f64 f1, .float .f64 f2, .float .f64 f2, .float .f64 f3, .float .f64 f3]), (hb, #[.float .f64 g1, .float .f64 g1, .float .f64 g2, .float .f64 g2, .float .f64 g3, .float .f64 g3]), (hc, #[.int .i64 0]), (hn1, #[.float .f64 g1, .float .f64 g2, .float .f64 g3]), (hn0, #[.float .f64 f1, .float .f64 f2, .float .f64 f3])] [#[.float .f64 0, .float .f64 0], #[.float .f64 0, .float .f64 0]] p v

theorem CrJb_0 {w : World} {f1 f2 f3 g1 g2 g3 x1 x2 x3 x4 x5 x6 pl ph ql qh hy hx ha hb hc hn1 hn0 : Nat} {a0 a : Act} {p : List (Option Nat)} {v : World} (h : CrJb w f1 f2 f3 g1 g2 g3 x1 x2 x3 x4 x5 x6 pl ph ql qh hy hx ha hb hc hn1 hn0 a0 0 p a v) :
    ∃ y1 y2 z1 z2 : Value, a = ((((a0.put (some 49) y1).put (some 52) y2).put (some 10) z1).put (some 11) z2) ∧ (∀ q, p[0]? = some (some q) → z1 = .pointer (some ⟨q, 0, none⟩)) ∧ (∀ q, p[1]? = some (some q) → z2 = .pointer (some ⟨q, 0, none⟩)) ∧ OwnF w [(hy, #[.float .f64 x1, .float .f64 x2, .float .f64 x3, .float .f64 x4, .float .f64 x5, .float .f64 x6]), (hx, #[.float .f64 x1, .float .f64 x2, .float .f64 x3, .float .f64 x4, .float .f64 x5, .float .f64 x6]), (ha, #[.float .f64 f1, .float .f64 f1, .float .f64 f2, .float .f64 f2, .float .f64 f3, .float .f64 f3]), (hb, #[.float .f64 g1, .float .f64 g1, .float .f64 g2, .float .f64 g2, .float .f64 g3, .float .f64 g3]), (hc, #[.int .i64 0]), (hn1, #[.float .f64 g1, .float .f64 g2, .float .f64 g3]), (hn0, #[.float .f64 f1, .float .f64 f2, .float .f64 f3])] [#[.float .f64 0, .float .f64 0], #[.float .f64 0, .float .f64 0]] p v := by
  obtain ⟨y1, y2, z1, z2, ha, hhe1, hhe2, hhg1, hhg2, h⟩ := h
  exact ⟨y1, y2, z1, z2, ha, hhg1, hhg2, h⟩
theorem CrJb_1 {w : World} {f1 f2 f3 g1 g2 g3 x1 x2 x3 x4 x5 x6 pl ph ql qh hy hx ha hb hc hn1 hn0 : Nat} {a0 a : Act} {p : List (Option Nat)} {v : World} (h : CrJb w f1 f2 f3 g1 g2 g3 x1 x2 x3 x4 x5 x6 pl ph ql qh hy hx ha hb hc hn1 hn0 a0 1 p a v) :
    ∃ y2 z1 z2 : Value, a = ((((a0.put (some 49) (.agg #[.float .f64 pl, .float .f64 ph])).put (some 52) y2).put (some 10) z1).put (some 11) z2) ∧ (∀ q, p[0]? = some (some q) → z1 = .pointer (some ⟨q, 0, none⟩)) ∧ (∀ q, p[1]? = some (some q) → z2 = .pointer (some ⟨q, 0, none⟩)) ∧ OwnF w [(hy, #[.float .f64 x1, .float .f64 x2, .float .f64 x3, .float .f64 x4, .float .f64 x5, .float .f64 x6]), (hx, #[.float .f64 x1, .float .f64 x2, .float .f64 x3, .float .f64 x4, .float .f64 x5, .float .f64 x6]), (ha, #[.float .f64 f1, .float .f64 f1, .float .f64 f2, .float .f64 f2, .float .f64 f3, .float .f64 f3]), (hb, #[.float .f64 g1, .float .f64 g1, .float .f64 g2, .float .f64 g2, .float .f64 g3, .float .f64 g3]), (hc, #[.int .i64 0]), (hn1, #[.float .f64 g1, .float .f64 g2, .float .f64 g3]), (hn0, #[.float .f64 f1, .float .f64 f2, .float .f64 f3])] [#[.float .f64 0, .float .f64 0], #[.float .f64 0, .float .f64 0]] p v := by
  obtain ⟨y1, y2, z1, z2, ha, hhe1, hhe2, hhg1, hhg2, h⟩ := h
  obtain rfl := hhe1 (by decide)
  exact ⟨y2, z1, z2, ha, hhg1, hhg2, h⟩
theorem CrJb_fin {w : World} {f1 f2 f3 g1 g2 g3 x1 x2 x3 x4 x5 x6 pl ph ql qh hy hx ha hb hc hn1 hn0 : Nat} {qq1 qq2 : Nat} {a0 a : Act} {v : World} (h : CrJb w f1 f2 f3 g1 g2 g3 x1 x2 x3 x4 x5 x6 pl ph ql qh hy hx ha hb hc hn1 hn0 a0 2 [some qq1, some qq2] a v) :
    a = ((((a0.put (some 49) (.agg #[.float .f64 pl, .float .f64 ph])).put (some 52) (.agg #[.float .f64 ql, .float .f64 qh])).put (some 10) (.pointer (some ⟨qq1, 0, none⟩))).put (some 11) (.pointer (some ⟨qq2, 0, none⟩))) ∧ OwnF w [(hy, #[.float .f64 x1, .float .f64 x2, .float .f64 x3, .float .f64 x4, .float .f64 x5, .float .f64 x6]), (hx, #[.float .f64 x1, .float .f64 x2, .float .f64 x3, .float .f64 x4, .float .f64 x5, .float .f64 x6]), (ha, #[.float .f64 f1, .float .f64 f1, .float .f64 f2, .float .f64 f2, .float .f64 f3, .float .f64 f3]), (hb, #[.float .f64 g1, .float .f64 g1, .float .f64 g2, .float .f64 g2, .float .f64 g3, .float .f64 g3]), (hc, #[.int .i64 0]), (hn1, #[.float .f64 g1, .float .f64 g2, .float .f64 g3]), (hn0, #[.float .f64 f1, .float .f64 f2, .float .f64 f3])] [#[.float .f64 0, .float .f64 0], #[.float .f64 0, .float .f64 0]] [some qq1, some qq2] v := by
  obtain ⟨y1, y2, z1, z2, ha, hhe1, hhe2, hhg1, hhg2, h⟩ := h
  obtain rfl := hhe1 (by decide)
  obtain rfl := hhe2 (by decide)
  obtain rfl := hhg1 _ rfl
  obtain rfl := hhg2 _ rfl
  exact ⟨ha, h⟩

/-- Region 9: the squares of cross and dot. -/
def CrJc (w : World) (f1 f2 f3 g1 g2 g3 x1 x2 x3 x4 x5 x6 pl ph ql qh dl dh xxl xxh sdl sdh lfl lfh hd hp hq hy hx ha hb hc hn1 hn0 : Nat) (a0 : Act) (k : Nat) (p : List (Option Nat)) (a : Act) (v : World) : Prop :=
  ∃ y1 y2 y3 z1 : Value, a = ((((a0.put (some 58) y1).put (some 60) y2).put (some 61) y3).put (some 13) z1) ∧
    (0 < k → y1 = .agg #[.float .f64 xxl, .float .f64 xxh]) ∧
    (1 < k → y2 = .agg #[.float .f64 sdl, .float .f64 sdh]) ∧
    (2 < k → y3 = .agg #[.float .f64 lfl, .float .f64 lfh]) ∧
    (∀ q, p[0]? = some (some q) → z1 = .pointer (some ⟨q, 0, none⟩)) ∧
    OwnF w [(hd, #[.float .f64 dl, .float .f64 dh]), (hp, #[.float .f64 pl, .float .f64 ph]), (hq, #[.float .f64 ql, .float .f64 qh]), (hy, #[.float .f64 x1, .float .f64 x2, .float .f64 x3, .float .f64 x4, .float .f64 x5, .float .f64 x6]), (hx, #[.float .f64 x1, .float .f64 x2, .float .f64 x3, .float .f64 x4, .float .f64 x5, .float .f64 x6]), (ha, #[.float .f64 f1, .float .f64 f1, .float .f64 f2, .float .f64 f2, .float .f64 f3, .float .f64 f3]), (hb, #[.float .f64 g1, .float .f64 g1, .float .f64 g2, .float .f64 g2, .float .f64 g3, .float .f64 g3]), (hc, #[.int .i64 0]), (hn1, #[.float .f64 g1, .float .f64 g2, .float .f64 g3]), (hn0, #[.float .f64 f1, .float .f64 f2, .float .f64 f3])] [#[.float .f64 0, .float .f64 0]] p v

theorem CrJc_0 {w : World} {f1 f2 f3 g1 g2 g3 x1 x2 x3 x4 x5 x6 pl ph ql qh dl dh xxl xxh sdl sdh lfl lfh hd hp hq hy hx ha hb hc hn1 hn0 : Nat} {a0 a : Act} {p : List (Option Nat)} {v : World} (h : CrJc w f1 f2 f3 g1 g2 g3 x1 x2 x3 x4 x5 x6 pl ph ql qh dl dh xxl xxh sdl sdh lfl lfh hd hp hq hy hx ha hb hc hn1 hn0 a0 0 p a v) :
    ∃ y1 y2 y3 z1 : Value, a = ((((a0.put (some 58) y1).put (some 60) y2).put (some 61) y3).put (some 13) z1) ∧ (∀ q, p[0]? = some (some q) → z1 = .pointer (some ⟨q, 0, none⟩)) ∧ OwnF w [(hd, #[.float .f64 dl, .float .f64 dh]), (hp, #[.float .f64 pl, .float .f64 ph]), (hq, #[.float .f64 ql, .float .f64 qh]), (hy, #[.float .f64 x1, .float .f64 x2, .float .f64 x3, .float .f64 x4, .float .f64 x5, .float .f64 x6]), (hx, #[.float .f64 x1, .float .f64 x2, .float .f64 x3, .float .f64 x4, .float .f64 x5, .float .f64 x6]), (ha, #[.float .f64 f1, .float .f64 f1, .float .f64 f2, .float .f64 f2, .float .f64 f3, .float .f64 f3]), (hb, #[.float .f64 g1, .float .f64 g1, .float .f64 g2, .float .f64 g2, .float .f64 g3, .float .f64 g3]), (hc, #[.int .i64 0]), (hn1, #[.float .f64 g1, .float .f64 g2, .float .f64 g3]), (hn0, #[.float .f64 f1, .float .f64 f2, .float .f64 f3])] [#[.float .f64 0, .float .f64 0]] p v := by
  obtain ⟨y1, y2, y3, z1, ha, hhe1, hhe2, hhe3, hhg1, h⟩ := h
  exact ⟨y1, y2, y3, z1, ha, hhg1, h⟩
theorem CrJc_1 {w : World} {f1 f2 f3 g1 g2 g3 x1 x2 x3 x4 x5 x6 pl ph ql qh dl dh xxl xxh sdl sdh lfl lfh hd hp hq hy hx ha hb hc hn1 hn0 : Nat} {a0 a : Act} {p : List (Option Nat)} {v : World} (h : CrJc w f1 f2 f3 g1 g2 g3 x1 x2 x3 x4 x5 x6 pl ph ql qh dl dh xxl xxh sdl sdh lfl lfh hd hp hq hy hx ha hb hc hn1 hn0 a0 1 p a v) :
    ∃ y2 y3 z1 : Value, a = ((((a0.put (some 58) (.agg #[.float .f64 xxl, .float .f64 xxh])).put (some 60) y2).put (some 61) y3).put (some 13) z1) ∧ (∀ q, p[0]? = some (some q) → z1 = .pointer (some ⟨q, 0, none⟩)) ∧ OwnF w [(hd, #[.float .f64 dl, .float .f64 dh]), (hp, #[.float .f64 pl, .float .f64 ph]), (hq, #[.float .f64 ql, .float .f64 qh]), (hy, #[.float .f64 x1, .float .f64 x2, .float .f64 x3, .float .f64 x4, .float .f64 x5, .float .f64 x6]), (hx, #[.float .f64 x1, .float .f64 x2, .float .f64 x3, .float .f64 x4, .float .f64 x5, .float .f64 x6]), (ha, #[.float .f64 f1, .float .f64 f1, .float .f64 f2, .float .f64 f2, .float .f64 f3, .float .f64 f3]), (hb, #[.float .f64 g1, .float .f64 g1, .float .f64 g2, .float .f64 g2, .float .f64 g3, .float .f64 g3]), (hc, #[.int .i64 0]), (hn1, #[.float .f64 g1, .float .f64 g2, .float .f64 g3]), (hn0, #[.float .f64 f1, .float .f64 f2, .float .f64 f3])] [#[.float .f64 0, .float .f64 0]] p v := by
  obtain ⟨y1, y2, y3, z1, ha, hhe1, hhe2, hhe3, hhg1, h⟩ := h
  obtain rfl := hhe1 (by decide)
  exact ⟨y2, y3, z1, ha, hhg1, h⟩
theorem CrJc_2 {w : World} {f1 f2 f3 g1 g2 g3 x1 x2 x3 x4 x5 x6 pl ph ql qh dl dh xxl xxh sdl sdh lfl lfh hd hp hq hy hx ha hb hc hn1 hn0 : Nat} {a0 a : Act} {p : List (Option Nat)} {v : World} (h : CrJc w f1 f2 f3 g1 g2 g3 x1 x2 x3 x4 x5 x6 pl ph ql qh dl dh xxl xxh sdl sdh lfl lfh hd hp hq hy hx ha hb hc hn1 hn0 a0 2 p a v) :
    ∃ y3 z1 : Value, a = ((((a0.put (some 58) (.agg #[.float .f64 xxl, .float .f64 xxh])).put (some 60) (.agg #[.float .f64 sdl, .float .f64 sdh])).put (some 61) y3).put (some 13) z1) ∧ (∀ q, p[0]? = some (some q) → z1 = .pointer (some ⟨q, 0, none⟩)) ∧ OwnF w [(hd, #[.float .f64 dl, .float .f64 dh]), (hp, #[.float .f64 pl, .float .f64 ph]), (hq, #[.float .f64 ql, .float .f64 qh]), (hy, #[.float .f64 x1, .float .f64 x2, .float .f64 x3, .float .f64 x4, .float .f64 x5, .float .f64 x6]), (hx, #[.float .f64 x1, .float .f64 x2, .float .f64 x3, .float .f64 x4, .float .f64 x5, .float .f64 x6]), (ha, #[.float .f64 f1, .float .f64 f1, .float .f64 f2, .float .f64 f2, .float .f64 f3, .float .f64 f3]), (hb, #[.float .f64 g1, .float .f64 g1, .float .f64 g2, .float .f64 g2, .float .f64 g3, .float .f64 g3]), (hc, #[.int .i64 0]), (hn1, #[.float .f64 g1, .float .f64 g2, .float .f64 g3]), (hn0, #[.float .f64 f1, .float .f64 f2, .float .f64 f3])] [#[.float .f64 0, .float .f64 0]] p v := by
  obtain ⟨y1, y2, y3, z1, ha, hhe1, hhe2, hhe3, hhg1, h⟩ := h
  obtain rfl := hhe1 (by decide)
  obtain rfl := hhe2 (by decide)
  exact ⟨y3, z1, ha, hhg1, h⟩
theorem CrJc_fin {w : World} {f1 f2 f3 g1 g2 g3 x1 x2 x3 x4 x5 x6 pl ph ql qh dl dh xxl xxh sdl sdh lfl lfh hd hp hq hy hx ha hb hc hn1 hn0 : Nat} {qq1 : Nat} {a0 a : Act} {v : World} (h : CrJc w f1 f2 f3 g1 g2 g3 x1 x2 x3 x4 x5 x6 pl ph ql qh dl dh xxl xxh sdl sdh lfl lfh hd hp hq hy hx ha hb hc hn1 hn0 a0 3 [some qq1] a v) :
    a = ((((a0.put (some 58) (.agg #[.float .f64 xxl, .float .f64 xxh])).put (some 60) (.agg #[.float .f64 sdl, .float .f64 sdh])).put (some 61) (.agg #[.float .f64 lfl, .float .f64 lfh])).put (some 13) (.pointer (some ⟨qq1, 0, none⟩))) ∧ OwnF w [(hd, #[.float .f64 dl, .float .f64 dh]), (hp, #[.float .f64 pl, .float .f64 ph]), (hq, #[.float .f64 ql, .float .f64 qh]), (hy, #[.float .f64 x1, .float .f64 x2, .float .f64 x3, .float .f64 x4, .float .f64 x5, .float .f64 x6]), (hx, #[.float .f64 x1, .float .f64 x2, .float .f64 x3, .float .f64 x4, .float .f64 x5, .float .f64 x6]), (ha, #[.float .f64 f1, .float .f64 f1, .float .f64 f2, .float .f64 f2, .float .f64 f3, .float .f64 f3]), (hb, #[.float .f64 g1, .float .f64 g1, .float .f64 g2, .float .f64 g2, .float .f64 g3, .float .f64 g3]), (hc, #[.int .i64 0]), (hn1, #[.float .f64 g1, .float .f64 g2, .float .f64 g3]), (hn0, #[.float .f64 f1, .float .f64 f2, .float .f64 f3])] [#[.float .f64 0, .float .f64 0]] [some qq1] v := by
  obtain ⟨y1, y2, y3, z1, ha, hhe1, hhe2, hhe3, hhg1, h⟩ := h
  obtain rfl := hhe1 (by decide)
  obtain rfl := hhe2 (by decide)
  obtain rfl := hhe3 (by decide)
  obtain rfl := hhg1 _ rfl
  exact ⟨ha, h⟩

/-- Region 10: the product of the squares of both lengths. -/
def CrJd (w : World) (f1 f2 f3 g1 g2 g3 x1 x2 x3 x4 x5 x6 pl ph ql qh dl dh lfl lfh aal aah bbl bbh rtl rth hl hd hp hq hy hx ha hb hc hn1 hn0 : Nat) (a0 : Act) (k : Nat) (p : List (Option Nat)) (a : Act) (v : World) : Prop :=
  ∃ y1 y2 y3 z1 : Value, a = ((((a0.put (some 64) y1).put (some 67) y2).put (some 68) y3).put (some 14) z1) ∧
    (0 < k → y1 = .agg #[.float .f64 aal, .float .f64 aah]) ∧
    (1 < k → y2 = .agg #[.float .f64 bbl, .float .f64 bbh]) ∧
    (2 < k → y3 = .agg #[.float .f64 rtl, .float .f64 rth]) ∧
    (∀ q, p[0]? = some (some q) → z1 = .pointer (some ⟨q, 0, none⟩)) ∧
    OwnF w [(hl, #[.float .f64 lfl, .float .f64 lfh]), (hd, #[.float .f64 dl, .float .f64 dh]), (hp, #[.float .f64 pl, .float .f64 ph]), (hq, #[.float .f64 ql, .float .f64 qh]), (hy, #[.float .f64 x1, .float .f64 x2, .float .f64 x3, .float .f64 x4, .float .f64 x5, .float .f64 x6]), (hx, #[.float .f64 x1, .float .f64 x2, .float .f64 x3, .float .f64 x4, .float .f64 x5, .float .f64 x6]), (ha, #[.float .f64 f1, .float .f64 f1, .float .f64 f2, .float .f64 f2, .float .f64 f3, .float .f64 f3]), (hb, #[.float .f64 g1, .float .f64 g1, .float .f64 g2, .float .f64 g2, .float .f64 g3, .float .f64 g3]), (hc, #[.int .i64 0]), (hn1, #[.float .f64 g1, .float .f64 g2, .float .f64 g3]), (hn0, #[.float .f64 f1, .float .f64 f2, .float .f64 f3])] [#[.float .f64 0, .float .f64 0]] p v

theorem CrJd_0 {w : World} {f1 f2 f3 g1 g2 g3 x1 x2 x3 x4 x5 x6 pl ph ql qh dl dh lfl lfh aal aah bbl bbh rtl rth hl hd hp hq hy hx ha hb hc hn1 hn0 : Nat} {a0 a : Act} {p : List (Option Nat)} {v : World} (h : CrJd w f1 f2 f3 g1 g2 g3 x1 x2 x3 x4 x5 x6 pl ph ql qh dl dh lfl lfh aal aah bbl bbh rtl rth hl hd hp hq hy hx ha hb hc hn1 hn0 a0 0 p a v) :
    ∃ y1 y2 y3 z1 : Value, a = ((((a0.put (some 64) y1).put (some 67) y2).put (some 68) y3).put (some 14) z1) ∧ (∀ q, p[0]? = some (some q) → z1 = .pointer (some ⟨q, 0, none⟩)) ∧ OwnF w [(hl, #[.float .f64 lfl, .float .f64 lfh]), (hd, #[.float .f64 dl, .float .f64 dh]), (hp, #[.float .f64 pl, .float .f64 ph]), (hq, #[.float .f64 ql, .float .f64 qh]), (hy, #[.float .f64 x1, .float .f64 x2, .float .f64 x3, .float .f64 x4, .float .f64 x5, .float .f64 x6]), (hx, #[.float .f64 x1, .float .f64 x2, .float .f64 x3, .float .f64 x4, .float .f64 x5, .float .f64 x6]), (ha, #[.float .f64 f1, .float .f64 f1, .float .f64 f2, .float .f64 f2, .float .f64 f3, .float .f64 f3]), (hb, #[.float .f64 g1, .float .f64 g1, .float .f64 g2, .float .f64 g2, .float .f64 g3, .float .f64 g3]), (hc, #[.int .i64 0]), (hn1, #[.float .f64 g1, .float .f64 g2, .float .f64 g3]), (hn0, #[.float .f64 f1, .float .f64 f2, .float .f64 f3])] [#[.float .f64 0, .float .f64 0]] p v := by
  obtain ⟨y1, y2, y3, z1, ha, hhe1, hhe2, hhe3, hhg1, h⟩ := h
  exact ⟨y1, y2, y3, z1, ha, hhg1, h⟩
theorem CrJd_1 {w : World} {f1 f2 f3 g1 g2 g3 x1 x2 x3 x4 x5 x6 pl ph ql qh dl dh lfl lfh aal aah bbl bbh rtl rth hl hd hp hq hy hx ha hb hc hn1 hn0 : Nat} {a0 a : Act} {p : List (Option Nat)} {v : World} (h : CrJd w f1 f2 f3 g1 g2 g3 x1 x2 x3 x4 x5 x6 pl ph ql qh dl dh lfl lfh aal aah bbl bbh rtl rth hl hd hp hq hy hx ha hb hc hn1 hn0 a0 1 p a v) :
    ∃ y2 y3 z1 : Value, a = ((((a0.put (some 64) (.agg #[.float .f64 aal, .float .f64 aah])).put (some 67) y2).put (some 68) y3).put (some 14) z1) ∧ (∀ q, p[0]? = some (some q) → z1 = .pointer (some ⟨q, 0, none⟩)) ∧ OwnF w [(hl, #[.float .f64 lfl, .float .f64 lfh]), (hd, #[.float .f64 dl, .float .f64 dh]), (hp, #[.float .f64 pl, .float .f64 ph]), (hq, #[.float .f64 ql, .float .f64 qh]), (hy, #[.float .f64 x1, .float .f64 x2, .float .f64 x3, .float .f64 x4, .float .f64 x5, .float .f64 x6]), (hx, #[.float .f64 x1, .float .f64 x2, .float .f64 x3, .float .f64 x4, .float .f64 x5, .float .f64 x6]), (ha, #[.float .f64 f1, .float .f64 f1, .float .f64 f2, .float .f64 f2, .float .f64 f3, .float .f64 f3]), (hb, #[.float .f64 g1, .float .f64 g1, .float .f64 g2, .float .f64 g2, .float .f64 g3, .float .f64 g3]), (hc, #[.int .i64 0]), (hn1, #[.float .f64 g1, .float .f64 g2, .float .f64 g3]), (hn0, #[.float .f64 f1, .float .f64 f2, .float .f64 f3])] [#[.float .f64 0, .float .f64 0]] p v := by
  obtain ⟨y1, y2, y3, z1, ha, hhe1, hhe2, hhe3, hhg1, h⟩ := h
  obtain rfl := hhe1 (by decide)
  exact ⟨y2, y3, z1, ha, hhg1, h⟩
theorem CrJd_2 {w : World} {f1 f2 f3 g1 g2 g3 x1 x2 x3 x4 x5 x6 pl ph ql qh dl dh lfl lfh aal aah bbl bbh rtl rth hl hd hp hq hy hx ha hb hc hn1 hn0 : Nat} {a0 a : Act} {p : List (Option Nat)} {v : World} (h : CrJd w f1 f2 f3 g1 g2 g3 x1 x2 x3 x4 x5 x6 pl ph ql qh dl dh lfl lfh aal aah bbl bbh rtl rth hl hd hp hq hy hx ha hb hc hn1 hn0 a0 2 p a v) :
    ∃ y3 z1 : Value, a = ((((a0.put (some 64) (.agg #[.float .f64 aal, .float .f64 aah])).put (some 67) (.agg #[.float .f64 bbl, .float .f64 bbh])).put (some 68) y3).put (some 14) z1) ∧ (∀ q, p[0]? = some (some q) → z1 = .pointer (some ⟨q, 0, none⟩)) ∧ OwnF w [(hl, #[.float .f64 lfl, .float .f64 lfh]), (hd, #[.float .f64 dl, .float .f64 dh]), (hp, #[.float .f64 pl, .float .f64 ph]), (hq, #[.float .f64 ql, .float .f64 qh]), (hy, #[.float .f64 x1, .float .f64 x2, .float .f64 x3, .float .f64 x4, .float .f64 x5, .float .f64 x6]), (hx, #[.float .f64 x1, .float .f64 x2, .float .f64 x3, .float .f64 x4, .float .f64 x5, .float .f64 x6]), (ha, #[.float .f64 f1, .float .f64 f1, .float .f64 f2, .float .f64 f2, .float .f64 f3, .float .f64 f3]), (hb, #[.float .f64 g1, .float .f64 g1, .float .f64 g2, .float .f64 g2, .float .f64 g3, .float .f64 g3]), (hc, #[.int .i64 0]), (hn1, #[.float .f64 g1, .float .f64 g2, .float .f64 g3]), (hn0, #[.float .f64 f1, .float .f64 f2, .float .f64 f3])] [#[.float .f64 0, .float .f64 0]] p v := by
  obtain ⟨y1, y2, y3, z1, ha, hhe1, hhe2, hhe3, hhg1, h⟩ := h
  obtain rfl := hhe1 (by decide)
  obtain rfl := hhe2 (by decide)
  exact ⟨y3, z1, ha, hhg1, h⟩
theorem CrJd_fin {w : World} {f1 f2 f3 g1 g2 g3 x1 x2 x3 x4 x5 x6 pl ph ql qh dl dh lfl lfh aal aah bbl bbh rtl rth hl hd hp hq hy hx ha hb hc hn1 hn0 : Nat} {qq1 : Nat} {a0 a : Act} {v : World} (h : CrJd w f1 f2 f3 g1 g2 g3 x1 x2 x3 x4 x5 x6 pl ph ql qh dl dh lfl lfh aal aah bbl bbh rtl rth hl hd hp hq hy hx ha hb hc hn1 hn0 a0 3 [some qq1] a v) :
    a = ((((a0.put (some 64) (.agg #[.float .f64 aal, .float .f64 aah])).put (some 67) (.agg #[.float .f64 bbl, .float .f64 bbh])).put (some 68) (.agg #[.float .f64 rtl, .float .f64 rth])).put (some 14) (.pointer (some ⟨qq1, 0, none⟩))) ∧ OwnF w [(hl, #[.float .f64 lfl, .float .f64 lfh]), (hd, #[.float .f64 dl, .float .f64 dh]), (hp, #[.float .f64 pl, .float .f64 ph]), (hq, #[.float .f64 ql, .float .f64 qh]), (hy, #[.float .f64 x1, .float .f64 x2, .float .f64 x3, .float .f64 x4, .float .f64 x5, .float .f64 x6]), (hx, #[.float .f64 x1, .float .f64 x2, .float .f64 x3, .float .f64 x4, .float .f64 x5, .float .f64 x6]), (ha, #[.float .f64 f1, .float .f64 f1, .float .f64 f2, .float .f64 f2, .float .f64 f3, .float .f64 f3]), (hb, #[.float .f64 g1, .float .f64 g1, .float .f64 g2, .float .f64 g2, .float .f64 g3, .float .f64 g3]), (hc, #[.int .i64 0]), (hn1, #[.float .f64 g1, .float .f64 g2, .float .f64 g3]), (hn0, #[.float .f64 f1, .float .f64 f2, .float .f64 f3])] [#[.float .f64 0, .float .f64 0]] [some qq1] v := by
  obtain ⟨y1, y2, y3, z1, ha, hhe1, hhe2, hhe3, hhg1, h⟩ := h
  obtain rfl := hhe1 (by decide)
  obtain rfl := hhe2 (by decide)
  obtain rfl := hhe3 (by decide)
  obtain rfl := hhg1 _ rfl
  exact ⟨ha, h⟩

set_option maxRecDepth 100000 in
set_option maxHeartbeats 8000000 in
theorem vecCross_walk (f1 f2 f3 g1 g2 g3 x1 x2 x3 x4 x5 x6 t1 t2 t3 t4 t5 t6 pl ph ql qh dl dh xxl xxh sdl sdh lfl lfh aal aah bbl bbh rtl rth mtl mth : Nat) (w : World)
    (cS1 : Hid (∀ w : World, Calls Try.prog 59 #[.agg #[.float .f64 f1, .float .f64 f2, .float .f64 f3]] w fun r w' => r = .returned (.bool true) ∧ Below w.heap.size w w'))
    (cS2 : Hid (∀ w : World, Calls Try.prog 59 #[.agg #[.float .f64 g1, .float .f64 g2, .float .f64 g3]] w fun r w' => r = .returned (.bool true) ∧ Below w.heap.size w w'))
    (cX : Hid (∀ (pb : Nat) (v : World), Has1 v (pb, #[.int .i64 0]) → Calls Try.prog 66 #[.pointer (some ⟨pb, 0, none⟩), .agg #[.float .f64 f1, .float .f64 f1, .float .f64 f2, .float .f64 f2, .float .f64 f3, .float .f64 f3], .agg #[.float .f64 g1, .float .f64 g1, .float .f64 g2, .float .f64 g2, .float .f64 g3, .float .f64 g3]] v fun r w' => r = .returned (.agg #[.float .f64 x1, .float .f64 x2, .float .f64 x3, .float .f64 x4, .float .f64 x5, .float .f64 x6]) ∧ Put ⟨pb, 0, none⟩ (.int .i64 0) v w'))
    (cY : Hid (∀ (pb : Nat) (v : World), Has1 v (pb, #[.int .i64 0]) → Calls Try.prog 66 #[.pointer (some ⟨pb, 0, none⟩), .agg #[.float .f64 g1, .float .f64 g1, .float .f64 g2, .float .f64 g2, .float .f64 g3, .float .f64 g3], .agg #[.float .f64 f1, .float .f64 f1, .float .f64 f2, .float .f64 f2, .float .f64 f3, .float .f64 f3]] v fun r w' => r = .returned (.agg #[.float .f64 t1, .float .f64 t2, .float .f64 t3, .float .f64 t4, .float .f64 t5, .float .f64 t6]) ∧ Put ⟨pb, 0, none⟩ (.int .i64 0) v w'))
    (cN : Hid (∀ (pb : Nat) (v : World), Has1 v (pb, #[.int .i64 0]) → Calls Try.prog 64 #[.pointer (some ⟨pb, 0, none⟩), .agg #[.float .f64 t1, .float .f64 t2, .float .f64 t3, .float .f64 t4, .float .f64 t5, .float .f64 t6]] v fun r w' => r = .returned (.agg #[.float .f64 x1, .float .f64 x2, .float .f64 x3, .float .f64 x4, .float .f64 x5, .float .f64 x6]) ∧ Put ⟨pb, 0, none⟩ (.int .i64 0) v w'))
    (cP : Hid (∀ (pb : Nat) (v : World), Has1 v (pb, #[.int .i64 0]) → Calls Try.prog 67 #[.pointer (some ⟨pb, 0, none⟩), .agg #[.float .f64 x1, .float .f64 x2, .float .f64 x3, .float .f64 x4, .float .f64 x5, .float .f64 x6], .agg #[.float .f64 f1, .float .f64 f1, .float .f64 f2, .float .f64 f2, .float .f64 f3, .float .f64 f3]] v fun r w' => r = .returned (.agg #[.float .f64 pl, .float .f64 ph]) ∧ Put ⟨pb, 0, none⟩ (.int .i64 0) v w'))
    (cQ : Hid (∀ (pb : Nat) (v : World), Has1 v (pb, #[.int .i64 0]) → Calls Try.prog 67 #[.pointer (some ⟨pb, 0, none⟩), .agg #[.float .f64 x1, .float .f64 x2, .float .f64 x3, .float .f64 x4, .float .f64 x5, .float .f64 x6], .agg #[.float .f64 g1, .float .f64 g1, .float .f64 g2, .float .f64 g2, .float .f64 g3, .float .f64 g3]] v fun r w' => r = .returned (.agg #[.float .f64 ql, .float .f64 qh]) ∧ Put ⟨pb, 0, none⟩ (.int .i64 0) v w'))
    (cD : Hid (∀ (pb : Nat) (v : World), Has1 v (pb, #[.int .i64 0]) → Calls Try.prog 67 #[.pointer (some ⟨pb, 0, none⟩), .agg #[.float .f64 f1, .float .f64 f1, .float .f64 f2, .float .f64 f2, .float .f64 f3, .float .f64 f3], .agg #[.float .f64 g1, .float .f64 g1, .float .f64 g2, .float .f64 g2, .float .f64 g3, .float .f64 g3]] v fun r w' => r = .returned (.agg #[.float .f64 dl, .float .f64 dh]) ∧ Put ⟨pb, 0, none⟩ (.int .i64 0) v w'))
    (cXX : Hid (∀ (pb : Nat) (v : World), Has1 v (pb, #[.int .i64 0]) → Calls Try.prog 67 #[.pointer (some ⟨pb, 0, none⟩), .agg #[.float .f64 x1, .float .f64 x2, .float .f64 x3, .float .f64 x4, .float .f64 x5, .float .f64 x6], .agg #[.float .f64 x1, .float .f64 x2, .float .f64 x3, .float .f64 x4, .float .f64 x5, .float .f64 x6]] v fun r w' => r = .returned (.agg #[.float .f64 xxl, .float .f64 xxh]) ∧ Put ⟨pb, 0, none⟩ (.int .i64 0) v w'))
    (cSq : Hid (∀ (pb : Nat) (v : World), Has1 v (pb, #[.int .i64 0]) → Calls Try.prog 41 #[.pointer (some ⟨pb, 0, none⟩), .agg #[.float .f64 dl, .float .f64 dh]] v fun r w' => r = .returned (.agg #[.float .f64 sdl, .float .f64 sdh]) ∧ Put ⟨pb, 0, none⟩ (.int .i64 0) v w'))
    (cL : Hid (∀ (pb : Nat) (v : World), Has1 v (pb, #[.int .i64 0]) → Calls Try.prog 40 #[.pointer (some ⟨pb, 0, none⟩), .agg #[.float .f64 xxl, .float .f64 xxh], .agg #[.float .f64 sdl, .float .f64 sdh]] v fun r w' => r = .returned (.agg #[.float .f64 lfl, .float .f64 lfh]) ∧ Put ⟨pb, 0, none⟩ (.int .i64 0) v w'))
    (cAA : Hid (∀ (pb : Nat) (v : World), Has1 v (pb, #[.int .i64 0]) → Calls Try.prog 67 #[.pointer (some ⟨pb, 0, none⟩), .agg #[.float .f64 f1, .float .f64 f1, .float .f64 f2, .float .f64 f2, .float .f64 f3, .float .f64 f3], .agg #[.float .f64 f1, .float .f64 f1, .float .f64 f2, .float .f64 f2, .float .f64 f3, .float .f64 f3]] v fun r w' => r = .returned (.agg #[.float .f64 aal, .float .f64 aah]) ∧ Put ⟨pb, 0, none⟩ (.int .i64 0) v w'))
    (cBB : Hid (∀ (pb : Nat) (v : World), Has1 v (pb, #[.int .i64 0]) → Calls Try.prog 67 #[.pointer (some ⟨pb, 0, none⟩), .agg #[.float .f64 g1, .float .f64 g1, .float .f64 g2, .float .f64 g2, .float .f64 g3, .float .f64 g3], .agg #[.float .f64 g1, .float .f64 g1, .float .f64 g2, .float .f64 g2, .float .f64 g3, .float .f64 g3]] v fun r w' => r = .returned (.agg #[.float .f64 bbl, .float .f64 bbh]) ∧ Put ⟨pb, 0, none⟩ (.int .i64 0) v w'))
    (cR : Hid (∀ (pb : Nat) (v : World), Has1 v (pb, #[.int .i64 0]) → Calls Try.prog 52 #[.pointer (some ⟨pb, 0, none⟩), .agg #[.float .f64 aal, .float .f64 aah], .agg #[.float .f64 bbl, .float .f64 bbh]] v fun r w' => r = .returned (.agg #[.float .f64 rtl, .float .f64 rth]) ∧ Put ⟨pb, 0, none⟩ (.int .i64 0) v w'))
    (cM : Hid (∀ w : World, Calls Try.prog 68 #[.agg #[.float .f64 lfl, .float .f64 lfh], .agg #[.float .f64 rtl, .float .f64 rth]] w fun r w' => r = .returned (.tuple #[.agg #[.float .f64 mtl, .float .f64 mth], .bool true]) ∧ Below w.heap.size w w'))
    (cHp : Hid (∀ w : World, Calls Try.prog 44 #[.agg #[.float .f64 pl, .float .f64 ph], .float .f64 0] w fun r w' => r = .returned (.bool true) ∧ Below w.heap.size w w'))
    (cHq : Hid (∀ w : World, Calls Try.prog 44 #[.agg #[.float .f64 ql, .float .f64 qh], .float .f64 0] w fun r w' => r = .returned (.bool true) ∧ Below w.heap.size w w'))
    (cBA : Hid (∀ (pb : Nat) (v : World), Has1 v (pb, #[.int .i64 0]) → Calls Try.prog 67 #[.pointer (some ⟨pb, 0, none⟩), .agg #[.float .f64 g1, .float .f64 g1, .float .f64 g2, .float .f64 g2, .float .f64 g3, .float .f64 g3], .agg #[.float .f64 f1, .float .f64 f1, .float .f64 f2, .float .f64 f2, .float .f64 f3, .float .f64 f3]] v fun r w' => r = .returned (.agg #[.float .f64 dl, .float .f64 dh]) ∧ Put ⟨pb, 0, none⟩ (.int .i64 0) v w')) :
    Calls Try.prog 10 #[.agg #[.float .f64 f1, .float .f64 f2, .float .f64 f3], .agg #[.float .f64 g1, .float .f64 g2, .float .f64 g3]] w fun r w' => r = .returned (.bool true) ∧ Below w.heap.size w w' := by
  have M := Lib.hid (((Own.nil w).made #[.float .f64 f1, .float .f64 f2, .float .f64 f3] 58).made #[.float .f64 g1, .float .f64 g2, .float .f64 g3] 58)
  simp only [World.size_alloc] at M
  obtain ⟨k1, k2, k3⟩ := (M.out.nth 1 rfl).three
  obtain ⟨k4, k5, k6⟩ := (M.out.nth 0 rfl).three
  go_enter Try.func10, Try.ntmps10
  go_wp2_with fail
  refine (cS1.out _).mono ?_
  rintro r w1 ⟨rfl, hb⟩
  replace M := Lib.hid (M.out.below hb)
  clear hb k1 k2 k3 k4 k5 k6
  obtain ⟨k1, k2, k3⟩ := (M.out.nth 1 rfl).three
  obtain ⟨k4, k5, k6⟩ := (M.out.nth 0 rfl).three
  go_wp2_with fail
  refine (cS2.out _).mono ?_
  rintro r w2 ⟨rfl, hb⟩
  replace M := Lib.hid ((M.out.below hb).made #[.int .i64 0] 45)
  clear hb k1 k2 k3 k4 k5 k6
  go_upto_region 4 with fail
  replace M := Lib.hid M.out.drew
  obtain ⟨k1, k2, k3⟩ := (M.out.nth 2 rfl).three
  obtain ⟨k4, k5, k6⟩ := (M.out.nth 1 rfl).three
  refine wp_region_noPanic ?_
  refine tails_region (S := fun w' => w'.cell? ⟨w.heap.size, 0, none⟩ = some (.float .f64 f1) ∧ w'.cell? ⟨w.heap.size, 1, none⟩ = some (.float .f64 f2) ∧ w'.cell? ⟨w.heap.size, 2, none⟩ = some (.float .f64 f3) ∧ w'.cell? ⟨(w.heap.size + 1), 0, none⟩ = some (.float .f64 g1) ∧ w'.cell? ⟨(w.heap.size + 1), 1, none⟩ = some (.float .f64 g2) ∧ w'.cell? ⟨(w.heap.size + 1), 2, none⟩ = some (.float .f64 g3)) [] (by kernel_rfl) ?_ (fun hS => ?_)
  · exact ⟨k1, k2, k3, k4, k5, k6⟩
  refine tails_take (T := []) (i := 0) (o := _) (x := ?_) rfl (by kernel_rfl) (by kernel_rfl) (by kernel_rfl) (by kernel_rfl) (fun _ _ _ h => h) (Or.inl ⟨by rfl, ?_⟩) (by assumption) ?_
  rotate_left; focus (intro w hSw; (try dsimp only at hSw); go_simp; first | done | with_reducible rfl)
  refine tails_take (T := []) (i := 1) (o := _) (x := ?_) rfl (by kernel_rfl) (by kernel_rfl) (by kernel_rfl) (by kernel_rfl) (fun _ _ _ h => h) (Or.inl ⟨by rfl, ?_⟩) (by assumption) ?_
  rotate_left; focus (intro w hSw; (try dsimp only at hSw); go_simp; first | done | with_reducible rfl)
  refine tails_take (T := []) (i := 2) (o := _) (x := ?_) rfl (by kernel_rfl) (by kernel_rfl) (by kernel_rfl) (by kernel_rfl) (fun _ _ _ h => h) (Or.inl ⟨by rfl, ?_⟩) (by assumption) ?_
  rotate_left; focus (intro w hSw; (try dsimp only at hSw); go_simp; first | done | with_reducible rfl)
  refine tails_take (T := []) (i := 3) (o := _) (x := ?_) rfl (by kernel_rfl) (by kernel_rfl) (by kernel_rfl) (by kernel_rfl) (fun _ _ _ h => h) (Or.inl ⟨by rfl, ?_⟩) (by assumption) ?_
  rotate_left; focus (intro w hSw; (try dsimp only at hSw); go_simp; first | done | with_reducible rfl)
  refine tails_take (T := []) (i := 4) (o := _) (x := ?_) rfl (by kernel_rfl) (by kernel_rfl) (by kernel_rfl) (by kernel_rfl) (fun _ _ _ h => h) (Or.inl ⟨by rfl, ?_⟩) (by assumption) ?_
  rotate_left; focus (intro w hSw; (try dsimp only at hSw); go_simp; first | done | with_reducible rfl)
  refine tails_take (T := []) (i := 5) (o := _) (x := ?_) rfl (by kernel_rfl) (by kernel_rfl) (by kernel_rfl) (by kernel_rfl) (fun _ _ _ h => h) (Or.inl ⟨by rfl, ?_⟩) (by assumption) ?_
  rotate_left; focus (intro w hSw; (try dsimp only at hSw); go_simp; first | done | with_reducible rfl)
  refine tails_take (T := []) (i := 7) (o := _) (x := ?_) rfl (by kernel_rfl) (by kernel_rfl) (by kernel_rfl) (by kernel_rfl) (fun _ _ _ h => h) (Or.inl ⟨by rfl, ?_⟩) (by assumption) ?_
  rotate_left; focus (intro w hSw; (try dsimp only at hSw); go_simp; first | done | with_reducible rfl)
  refine tails_take (T := []) (i := 8) (o := _) (x := ?_) rfl (by kernel_rfl) (by kernel_rfl) (by kernel_rfl) (by kernel_rfl) (fun _ _ _ h => h) (Or.inl ⟨by rfl, ?_⟩) (by assumption) ?_
  rotate_left; focus (intro w hSw; (try dsimp only at hSw); go_simp; first | done | with_reducible rfl)
  refine tails_take (T := []) (i := 9) (o := _) (x := ?_) rfl (by kernel_rfl) (by kernel_rfl) (by kernel_rfl) (by kernel_rfl) (fun _ _ _ h => h) (Or.inl ⟨by rfl, ?_⟩) (by assumption) ?_
  rotate_left; focus (intro w hSw; (try dsimp only at hSw); go_simp; first | done | with_reducible rfl)
  refine tails_take (T := []) (i := 10) (o := _) (x := ?_) rfl (by kernel_rfl) (by kernel_rfl) (by kernel_rfl) (by kernel_rfl) (fun _ _ _ h => h) (Or.inl ⟨by rfl, ?_⟩) (by assumption) ?_
  rotate_left; focus (intro w hSw; (try dsimp only at hSw); go_simp; first | done | with_reducible rfl)
  refine tails_take (T := []) (i := 11) (o := _) (x := ?_) rfl (by kernel_rfl) (by kernel_rfl) (by kernel_rfl) (by kernel_rfl) (fun _ _ _ h => h) (Or.inl ⟨by rfl, ?_⟩) (by assumption) ?_
  rotate_left; focus (intro w hSw; (try dsimp only at hSw); go_simp; first | done | with_reducible rfl)
  refine tails_take (T := []) (i := 12) (o := _) (x := ?_) rfl (by kernel_rfl) (by kernel_rfl) (by kernel_rfl) (by kernel_rfl) (fun _ _ _ h => h) (Or.inl ⟨by rfl, ?_⟩) (by assumption) ?_
  rotate_left; focus (intro w hSw; (try dsimp only at hSw); go_simp; first | done | with_reducible rfl)
  conv => arg 9; simp only [Act.put, go_sem]
  refine lat_2_2 (T := []) 6 13 14 15 [32, 39, 6, 7] 2 (CrJa w f1 f2 f3 g1 g2 g3 w2.heap.size (w.heap.size + 1) w.heap.size) (by kernel_rfl) (by kernel_rfl) ?_ ?_ ?_ ?_ ?_ ?_ ?_
  · intro A hA
    obtain ⟨y1, hq1⟩ := put_ex (hA 32 (by simp))
    obtain ⟨y2, hq2⟩ := put_ex (hA 39 (by simp))
    obtain ⟨z1, hq3⟩ := put_ex (hA 6 (by simp))
    obtain ⟨z2, hq4⟩ := put_ex (hA 7 (by simp))
    exact ⟨y1, y2, z1, z2, by rw [hq1, hq2, hq3, hq4], by omega, by omega, by simp, by simp, OwnF.start M.out 2⟩
  · rintro k p a v ⟨y1, y2, z1, z2, _, _, _, _, _, h⟩
    exact ⟨((h.own.nth 2 rfl).three).1, ((h.own.nth 2 rfl).three).2.1, ((h.own.nth 2 rfl).three).2.2, ((h.own.nth 1 rfl).three).1, ((h.own.nth 1 rfl).three).2.1, ((h.own.nth 1 rfl).three).2.2⟩
  · intro p a v hJ
    refine op_step (o := _) rfl (fun K hK => ?_)
    obtain ⟨y1, y2, z1, z2, rfl, gg1, gg2, h⟩ := CrJa_0 hJ
    have h := Lib.hid h
    clear hJ
    go_simp
    refine (at_any _ _ _ _).mono ?_
    rintro rr w5 ⟨rfl, hp⟩
    try go_wp2_with fail
    refine hK.out _ _ ⟨.agg #[.float .f64 f1, .float .f64 f1, .float .f64 f2, .float .f64 f2, .float .f64 f3, .float .f64 f3], y2, z1, z2, ?_, fun _ => rfl, by omega, gg1, gg2, h.out.below hp⟩
    kernel_rfl
  · intro p a v hJ
    refine op_step (o := _) rfl (fun K hK => ?_)
    obtain ⟨y2, z1, z2, rfl, gg1, gg2, h⟩ := CrJa_1 hJ
    have h := Lib.hid h
    clear hJ
    go_simp
    refine (at_any _ _ _ _).mono ?_
    rintro rr w5 ⟨rfl, hp⟩
    try go_wp2_with fail
    refine hK.out _ _ ⟨.agg #[.float .f64 f1, .float .f64 f1, .float .f64 f2, .float .f64 f2, .float .f64 f3, .float .f64 f3], .agg #[.float .f64 g1, .float .f64 g1, .float .f64 g2, .float .f64 g2, .float .f64 g3, .float .f64 g3], z1, z2, ?_, fun _ => rfl, fun _ => rfl, gg1, gg2, h.out.below hp⟩
    kernel_rfl
  · intro k p a v hp hJ
    refine op_step (o := _) rfl (fun K hK => ?_)
    obtain ⟨y1, y2, z1, z2, rfl, ee1, ee2, gg1, gg2, h⟩ := hJ
    have h := Lib.hid h
    go_simp
    refine hK.out _ _ ⟨v.heap.size, y1, y2, .pointer (some ⟨v.heap.size, 0, none⟩), z2, ?_, ee1, ee2, fun q hq => ptr_set hq, ptr_keep 1 (by decide) gg2, h.out.alloc hp rfl _⟩
    kernel_rfl
  · intro k p a v hp hJ
    refine op_step (o := _) rfl (fun K hK => ?_)
    obtain ⟨y1, y2, z1, z2, rfl, ee1, ee2, gg1, gg2, h⟩ := hJ
    have h := Lib.hid h
    go_simp
    refine hK.out _ _ ⟨v.heap.size, y1, y2, z1, .pointer (some ⟨v.heap.size, 0, none⟩), ?_, ee1, ee2, ptr_keep 0 (by decide) gg1, fun q hq => ptr_set hq, h.out.alloc hp rfl _⟩
    kernel_rfl
  · intro a1 a2 a v hJ
    obtain ⟨rfl, h⟩ := CrJa_fin hJ
    clear hJ
    replace M := Lib.hid h.fin2
    clear h
    refine tails_one (T := []) (i := 16) (o := _) rfl (by kernel_rfl) (fun K hK => ?_)
    have kc := (M.out.nth 0 rfl).2.1
    have kf := (M.out.nth 0 rfl).2.2
    replace M := Lib.hid (M.out.set6 0 rfl (.float .f64 f1) (.float .f64 f1) (.float .f64 f2) (.float .f64 f2) (.float .f64 f3) (.float .f64 f3))
    go_simp
    refine hK.out _ _ (Or.inr ⟨((M.out.nth 4 rfl).three).1, ((M.out.nth 4 rfl).three).2.1, ((M.out.nth 4 rfl).three).2.2, ((M.out.nth 3 rfl).three).1, ((M.out.nth 3 rfl).three).2.1, ((M.out.nth 3 rfl).three).2.2⟩) (fun hHeld => ?_)
    clear hK K hHeld kc kf
    refine tails_one (T := []) (i := 17) (o := _) rfl (by kernel_rfl) (fun K hK => ?_)
    have kc := (M.out.nth 1 rfl).2.1
    have kf := (M.out.nth 1 rfl).2.2
    replace M := Lib.hid (M.out.set6 1 rfl (.float .f64 g1) (.float .f64 g1) (.float .f64 g2) (.float .f64 g2) (.float .f64 g3) (.float .f64 g3))
    go_simp
    refine hK.out _ _ (Or.inr ⟨((M.out.nth 4 rfl).three).1, ((M.out.nth 4 rfl).three).2.1, ((M.out.nth 4 rfl).three).2.2, ((M.out.nth 3 rfl).three).1, ((M.out.nth 3 rfl).three).2.1, ((M.out.nth 3 rfl).three).2.2⟩) (fun hHeld => ?_)
    clear hK K hHeld kc kf
    refine tails_done (by kernel_rfl) ?_ _
    refine NoPanic.normal ?_
    revert M
    generalize ((((((((((((v.setCell ⟨a1, 0, none⟩ (.float .f64 f1)).setCell ⟨a1, 1, none⟩ (.float .f64 f1)).setCell ⟨a1, 2, none⟩ (.float .f64 f2)).setCell ⟨a1, 3, none⟩ (.float .f64 f2)).setCell ⟨a1, 4, none⟩ (.float .f64 f3)).setCell ⟨a1, 5, none⟩ (.float .f64 f3)).setCell ⟨a2, 0, none⟩ (.float .f64 g1)).setCell ⟨a2, 1, none⟩ (.float .f64 g1)).setCell ⟨a2, 2, none⟩ (.float .f64 g2)).setCell ⟨a2, 3, none⟩ (.float .f64 g2)).setCell ⟨a2, 4, none⟩ (.float .f64 g3)).setCell ⟨a2, 5, none⟩ (.float .f64 g3)) = W
    intro M
    clear k1 k2 k3 k4 k5 k6
    obtain ⟨k1, k2, k3, k4, k5, k6⟩ := (M.out.nth 0 rfl).six
    obtain ⟨k7, k8, k9, k10, k11, k12⟩ := (M.out.nth 1 rfl).six
    go_wp2_with fail
    refine (cX.out _ _ (M.out.nth 2 rfl)).mono ?_
    rintro r w3 ⟨rfl, hp⟩
    replace M := Lib.hid ((M.out.putAt 2 rfl hp).made #[.float .f64 x1, .float .f64 x2, .float .f64 x3, .float .f64 x4, .float .f64 x5, .float .f64 x6] 60)
    clear hp k1 k2 k3 k4 k5 k6 k7 k8 k9 k10 k11 k12
    obtain ⟨k1, k2, k3, k4, k5, k6⟩ := (M.out.nth 1 rfl).six
    obtain ⟨k7, k8, k9, k10, k11, k12⟩ := (M.out.nth 2 rfl).six
    go_wp2_with fail
    refine (cY.out _ _ (M.out.nth 3 rfl)).mono ?_
    rintro r w4 ⟨rfl, hp⟩
    replace M := Lib.hid (M.out.putAt 3 rfl hp)
    clear hp k1 k2 k3 k4 k5 k6 k7 k8 k9 k10 k11 k12
    go_wp2_with fail
    refine (cN.out _ _ (M.out.nth 3 rfl)).mono ?_
    rintro r w5 ⟨rfl, hp⟩
    replace M := Lib.hid ((M.out.putAt 3 rfl hp).made #[.float .f64 x1, .float .f64 x2, .float .f64 x3, .float .f64 x4, .float .f64 x5, .float .f64 x6] 60)
    clear hp
    go_upto_region 7 with fail
    replace M := Lib.hid M.out.drew
    obtain ⟨k1, k2, k3, k4, k5, k6⟩ := (M.out.nth 1 rfl).six
    obtain ⟨k7, k8, k9, k10, k11, k12⟩ := (M.out.nth 2 rfl).six
    obtain ⟨k13, k14, k15, k16, k17, k18⟩ := (M.out.nth 3 rfl).six
    refine wp_region_noPanic ?_
    refine tails_region (S := fun w' => w'.cell? ⟨w3.heap.size, 0, none⟩ = some (.float .f64 x1) ∧ w'.cell? ⟨w3.heap.size, 1, none⟩ = some (.float .f64 x2) ∧ w'.cell? ⟨w3.heap.size, 2, none⟩ = some (.float .f64 x3) ∧ w'.cell? ⟨w3.heap.size, 3, none⟩ = some (.float .f64 x4) ∧ w'.cell? ⟨w3.heap.size, 4, none⟩ = some (.float .f64 x5) ∧ w'.cell? ⟨w3.heap.size, 5, none⟩ = some (.float .f64 x6) ∧ w'.cell? ⟨a1, 0, none⟩ = some (.float .f64 f1) ∧ w'.cell? ⟨a1, 1, none⟩ = some (.float .f64 f1) ∧ w'.cell? ⟨a1, 2, none⟩ = some (.float .f64 f2) ∧ w'.cell? ⟨a1, 3, none⟩ = some (.float .f64 f2) ∧ w'.cell? ⟨a1, 4, none⟩ = some (.float .f64 f3) ∧ w'.cell? ⟨a1, 5, none⟩ = some (.float .f64 f3) ∧ w'.cell? ⟨a2, 0, none⟩ = some (.float .f64 g1) ∧ w'.cell? ⟨a2, 1, none⟩ = some (.float .f64 g1) ∧ w'.cell? ⟨a2, 2, none⟩ = some (.float .f64 g2) ∧ w'.cell? ⟨a2, 3, none⟩ = some (.float .f64 g2) ∧ w'.cell? ⟨a2, 4, none⟩ = some (.float .f64 g3) ∧ w'.cell? ⟨a2, 5, none⟩ = some (.float .f64 g3)) [] (by kernel_rfl) ?_ (fun hS => ?_)
    · exact ⟨k1, k2, k3, k4, k5, k6, k7, k8, k9, k10, k11, k12, k13, k14, k15, k16, k17, k18⟩
    refine tails_take (T := []) (i := 0) (o := _) (x := ?_) rfl (by kernel_rfl) (by kernel_rfl) (by kernel_rfl) (by kernel_rfl) (fun _ _ _ h => h) (Or.inl ⟨by rfl, ?_⟩) (by assumption) ?_
    rotate_left; focus (intro w hSw; (try dsimp only at hSw); go_simp; first | done | with_reducible rfl)
    refine tails_take (T := []) (i := 1) (o := _) (x := ?_) rfl (by kernel_rfl) (by kernel_rfl) (by kernel_rfl) (by kernel_rfl) (fun _ _ _ h => h) (Or.inl ⟨by rfl, ?_⟩) (by assumption) ?_
    rotate_left; focus (intro w hSw; (try dsimp only at hSw); go_simp; first | done | with_reducible rfl)
    refine tails_take (T := []) (i := 3) (o := _) (x := ?_) rfl (by kernel_rfl) (by kernel_rfl) (by kernel_rfl) (by kernel_rfl) (fun _ _ _ h => h) (Or.inl ⟨by rfl, ?_⟩) (by assumption) ?_
    rotate_left; focus (intro w hSw; (try dsimp only at hSw); go_simp; first | done | with_reducible rfl)
    refine tails_take (T := []) (i := 4) (o := _) (x := ?_) rfl (by kernel_rfl) (by kernel_rfl) (by kernel_rfl) (by kernel_rfl) (fun _ _ _ h => h) (Or.inl ⟨by rfl, ?_⟩) (by assumption) ?_
    rotate_left; focus (intro w hSw; (try dsimp only at hSw); go_simp; first | done | with_reducible rfl)
    conv => arg 9; simp only [Act.put, go_sem]
    refine lat_2_2 (T := []) 2 5 6 7 [49, 52, 10, 11] 2 (CrJb w f1 f2 f3 g1 g2 g3 x1 x2 x3 x4 x5 x6 pl ph ql qh w5.heap.size w3.heap.size a1 a2 w2.heap.size (w.heap.size + 1) w.heap.size) (by kernel_rfl) (by kernel_rfl) ?_ ?_ ?_ ?_ ?_ ?_ ?_
    · intro A hA
      obtain ⟨y1, hq1⟩ := put_ex (hA 49 (by simp))
      obtain ⟨y2, hq2⟩ := put_ex (hA 52 (by simp))
      obtain ⟨z1, hq3⟩ := put_ex (hA 10 (by simp))
      obtain ⟨z2, hq4⟩ := put_ex (hA 11 (by simp))
      exact ⟨y1, y2, z1, z2, by rw [hq1, hq2, hq3, hq4], by omega, by omega, by simp, by simp, OwnF.start M.out 2⟩
    · rintro k p a v ⟨y1, y2, z1, z2, _, _, _, _, _, h⟩
      exact ⟨((h.own.nth 1 rfl).six).1, ((h.own.nth 1 rfl).six).2.1, ((h.own.nth 1 rfl).six).2.2.1, ((h.own.nth 1 rfl).six).2.2.2.1, ((h.own.nth 1 rfl).six).2.2.2.2.1, ((h.own.nth 1 rfl).six).2.2.2.2.2, ((h.own.nth 2 rfl).six).1, ((h.own.nth 2 rfl).six).2.1, ((h.own.nth 2 rfl).six).2.2.1, ((h.own.nth 2 rfl).six).2.2.2.1, ((h.own.nth 2 rfl).six).2.2.2.2.1, ((h.own.nth 2 rfl).six).2.2.2.2.2, ((h.own.nth 3 rfl).six).1, ((h.own.nth 3 rfl).six).2.1, ((h.own.nth 3 rfl).six).2.2.1, ((h.own.nth 3 rfl).six).2.2.2.1, ((h.own.nth 3 rfl).six).2.2.2.2.1, ((h.own.nth 3 rfl).six).2.2.2.2.2⟩
    · intro p a v hJ
      refine op_step (o := _) rfl (fun K hK => ?_)
      obtain ⟨y1, y2, z1, z2, rfl, gg1, gg2, h⟩ := CrJb_0 hJ
      have h := Lib.hid h
      clear hJ
      go_simp
      refine (cP.out _ _ (h.out.own.nth 4 rfl)).mono ?_
      rintro rr w5 ⟨rfl, hp⟩
      try go_wp2_with fail
      refine hK.out _ _ ⟨.agg #[.float .f64 pl, .float .f64 ph], y2, z1, z2, ?_, fun _ => rfl, by omega, gg1, gg2, h.out.putAt 4 rfl hp⟩
      kernel_rfl
    · intro p a v hJ
      refine op_step (o := _) rfl (fun K hK => ?_)
      obtain ⟨y2, z1, z2, rfl, gg1, gg2, h⟩ := CrJb_1 hJ
      have h := Lib.hid h
      clear hJ
      go_simp
      refine (cQ.out _ _ (h.out.own.nth 4 rfl)).mono ?_
      rintro rr w5 ⟨rfl, hp⟩
      try go_wp2_with fail
      refine hK.out _ _ ⟨.agg #[.float .f64 pl, .float .f64 ph], .agg #[.float .f64 ql, .float .f64 qh], z1, z2, ?_, fun _ => rfl, fun _ => rfl, gg1, gg2, h.out.putAt 4 rfl hp⟩
      kernel_rfl
    · intro k p a v hp hJ
      refine op_step (o := _) rfl (fun K hK => ?_)
      obtain ⟨y1, y2, z1, z2, rfl, ee1, ee2, gg1, gg2, h⟩ := hJ
      have h := Lib.hid h
      go_simp
      refine hK.out _ _ ⟨v.heap.size, y1, y2, .pointer (some ⟨v.heap.size, 0, none⟩), z2, ?_, ee1, ee2, fun q hq => ptr_set hq, ptr_keep 1 (by decide) gg2, h.out.alloc hp rfl _⟩
      kernel_rfl
    · intro k p a v hp hJ
      refine op_step (o := _) rfl (fun K hK => ?_)
      obtain ⟨y1, y2, z1, z2, rfl, ee1, ee2, gg1, gg2, h⟩ := hJ
      have h := Lib.hid h
      go_simp
      refine hK.out _ _ ⟨v.heap.size, y1, y2, z1, .pointer (some ⟨v.heap.size, 0, none⟩), ?_, ee1, ee2, ptr_keep 0 (by decide) gg1, fun q hq => ptr_set hq, h.out.alloc hp rfl _⟩
      kernel_rfl
    · intro b1 b2 a v hJ
      obtain ⟨rfl, h⟩ := CrJb_fin hJ
      clear hJ
      replace M := Lib.hid h.fin2
      clear h
      refine tails_one (T := []) (i := 8) (o := _) rfl (by kernel_rfl) (fun K hK => ?_)
      have kc := (M.out.nth 0 rfl).2.1
      have kf := (M.out.nth 0 rfl).2.2
      replace M := Lib.hid (M.out.set2 0 rfl (.float .f64 pl) (.float .f64 ph))
      go_simp
      refine hK.out _ _ (Or.inr ⟨((M.out.nth 3 rfl).six).1, ((M.out.nth 3 rfl).six).2.1, ((M.out.nth 3 rfl).six).2.2.1, ((M.out.nth 3 rfl).six).2.2.2.1, ((M.out.nth 3 rfl).six).2.2.2.2.1, ((M.out.nth 3 rfl).six).2.2.2.2.2, ((M.out.nth 4 rfl).six).1, ((M.out.nth 4 rfl).six).2.1, ((M.out.nth 4 rfl).six).2.2.1, ((M.out.nth 4 rfl).six).2.2.2.1, ((M.out.nth 4 rfl).six).2.2.2.2.1, ((M.out.nth 4 rfl).six).2.2.2.2.2, ((M.out.nth 5 rfl).six).1, ((M.out.nth 5 rfl).six).2.1, ((M.out.nth 5 rfl).six).2.2.1, ((M.out.nth 5 rfl).six).2.2.2.1, ((M.out.nth 5 rfl).six).2.2.2.2.1, ((M.out.nth 5 rfl).six).2.2.2.2.2⟩) (fun hHeld => ?_)
      clear hK K hHeld kc kf
      refine tails_one (T := []) (i := 9) (o := _) rfl (by kernel_rfl) (fun K hK => ?_)
      have kc := (M.out.nth 1 rfl).2.1
      have kf := (M.out.nth 1 rfl).2.2
      replace M := Lib.hid (M.out.set2 1 rfl (.float .f64 ql) (.float .f64 qh))
      go_simp
      refine hK.out _ _ (Or.inr ⟨((M.out.nth 3 rfl).six).1, ((M.out.nth 3 rfl).six).2.1, ((M.out.nth 3 rfl).six).2.2.1, ((M.out.nth 3 rfl).six).2.2.2.1, ((M.out.nth 3 rfl).six).2.2.2.2.1, ((M.out.nth 3 rfl).six).2.2.2.2.2, ((M.out.nth 4 rfl).six).1, ((M.out.nth 4 rfl).six).2.1, ((M.out.nth 4 rfl).six).2.2.1, ((M.out.nth 4 rfl).six).2.2.2.1, ((M.out.nth 4 rfl).six).2.2.2.2.1, ((M.out.nth 4 rfl).six).2.2.2.2.2, ((M.out.nth 5 rfl).six).1, ((M.out.nth 5 rfl).six).2.1, ((M.out.nth 5 rfl).six).2.2.1, ((M.out.nth 5 rfl).six).2.2.2.1, ((M.out.nth 5 rfl).six).2.2.2.2.1, ((M.out.nth 5 rfl).six).2.2.2.2.2⟩) (fun hHeld => ?_)
      clear hK K hHeld kc kf
      refine tails_done (by kernel_rfl) ?_ _
      refine NoPanic.normal ?_
      revert M
      generalize ((((v.setCell ⟨b1, 0, none⟩ (.float .f64 pl)).setCell ⟨b1, 1, none⟩ (.float .f64 ph)).setCell ⟨b2, 0, none⟩ (.float .f64 ql)).setCell ⟨b2, 1, none⟩ (.float .f64 qh)) = W
      intro M
      clear k1 k2 k3 k4 k5 k6 k7 k8 k9 k10 k11 k12 k13 k14 k15 k16 k17 k18
      obtain ⟨k1, k2, k3, k4, k5, k6⟩ := (M.out.nth 4 rfl).six
      obtain ⟨k7, k8, k9, k10, k11, k12⟩ := (M.out.nth 5 rfl).six
      go_wp2_with fail
      refine (cD.out _ _ (M.out.nth 6 rfl)).mono ?_
      rintro r w6 ⟨rfl, hp⟩
      replace M := Lib.hid ((M.out.putAt 6 rfl hp).made #[.float .f64 dl, .float .f64 dh] 39)
      clear hp k1 k2 k3 k4 k5 k6 k7 k8 k9 k10 k11 k12
      go_upto_region 9 with fail
      replace M := Lib.hid M.out.drew
      obtain ⟨k1, k2, k3, k4, k5, k6⟩ := (M.out.nth 4 rfl).six
      obtain ⟨k7, k8⟩ := (M.out.nth 0 rfl).two
      refine wp_region_noPanic ?_
      refine tails_region (S := fun w' => w'.cell? ⟨w3.heap.size, 0, none⟩ = some (.float .f64 x1) ∧ w'.cell? ⟨w3.heap.size, 1, none⟩ = some (.float .f64 x2) ∧ w'.cell? ⟨w3.heap.size, 2, none⟩ = some (.float .f64 x3) ∧ w'.cell? ⟨w3.heap.size, 3, none⟩ = some (.float .f64 x4) ∧ w'.cell? ⟨w3.heap.size, 4, none⟩ = some (.float .f64 x5) ∧ w'.cell? ⟨w3.heap.size, 5, none⟩ = some (.float .f64 x6) ∧ w'.cell? ⟨w6.heap.size, 0, none⟩ = some (.float .f64 dl) ∧ w'.cell? ⟨w6.heap.size, 1, none⟩ = some (.float .f64 dh)) [] (by kernel_rfl) ?_ (fun hS => ?_)
      · exact ⟨k1, k2, k3, k4, k5, k6, k7, k8⟩
      refine tails_take (T := []) (i := 0) (o := _) (x := ?_) rfl (by kernel_rfl) (by kernel_rfl) (by kernel_rfl) (by kernel_rfl) (fun _ _ _ h => h) (Or.inl ⟨by rfl, ?_⟩) (by assumption) ?_
      rotate_left; focus (intro w hSw; (try dsimp only at hSw); go_simp; first | done | with_reducible rfl)
      refine tails_take (T := []) (i := 1) (o := _) (x := ?_) rfl (by kernel_rfl) (by kernel_rfl) (by kernel_rfl) (by kernel_rfl) (fun _ _ _ h => h) (Or.inl ⟨by rfl, ?_⟩) (by assumption) ?_
      rotate_left; focus (intro w hSw; (try dsimp only at hSw); go_simp; first | done | with_reducible rfl)
      refine tails_take (T := []) (i := 3) (o := _) (x := ?_) rfl (by kernel_rfl) (by kernel_rfl) (by kernel_rfl) (by kernel_rfl) (fun _ _ _ h => h) (Or.inl ⟨by rfl, ?_⟩) (by assumption) ?_
      rotate_left; focus (intro w hSw; (try dsimp only at hSw); go_simp; first | done | with_reducible rfl)
      conv => arg 9; simp only [Act.put, go_sem]
      refine lat_3_1 (T := []) 2 4 5 6 [58, 60, 61, 13] 1 (CrJc w f1 f2 f3 g1 g2 g3 x1 x2 x3 x4 x5 x6 pl ph ql qh dl dh xxl xxh sdl sdh lfl lfh w6.heap.size b1 b2 w5.heap.size w3.heap.size a1 a2 w2.heap.size (w.heap.size + 1) w.heap.size) (by kernel_rfl) (by kernel_rfl) ?_ ?_ ?_ ?_ ?_ ?_ ?_
      · intro A hA
        obtain ⟨y1, hq1⟩ := put_ex (hA 58 (by simp))
        obtain ⟨y2, hq2⟩ := put_ex (hA 60 (by simp))
        obtain ⟨y3, hq3⟩ := put_ex (hA 61 (by simp))
        obtain ⟨z1, hq4⟩ := put_ex (hA 13 (by simp))
        exact ⟨y1, y2, y3, z1, by rw [hq1, hq2, hq3, hq4], by omega, by omega, by omega, by simp, OwnF.start M.out 1⟩
      · rintro k p a v ⟨y1, y2, y3, z1, _, _, _, _, _, h⟩
        exact ⟨((h.own.nth 4 rfl).six).1, ((h.own.nth 4 rfl).six).2.1, ((h.own.nth 4 rfl).six).2.2.1, ((h.own.nth 4 rfl).six).2.2.2.1, ((h.own.nth 4 rfl).six).2.2.2.2.1, ((h.own.nth 4 rfl).six).2.2.2.2.2, ((h.own.nth 0 rfl).two).1, ((h.own.nth 0 rfl).two).2⟩
      · intro p a v hJ
        refine op_step (o := _) rfl (fun K hK => ?_)
        obtain ⟨y1, y2, y3, z1, rfl, gg1, h⟩ := CrJc_0 hJ
        have h := Lib.hid h
        clear hJ
        go_simp
        refine (cXX.out _ _ (h.out.own.nth 7 rfl)).mono ?_
        rintro rr w5 ⟨rfl, hp⟩
        try go_wp2_with fail
        refine hK.out _ _ ⟨.agg #[.float .f64 xxl, .float .f64 xxh], y2, y3, z1, ?_, fun _ => rfl, by omega, by omega, gg1, h.out.putAt 7 rfl hp⟩
        kernel_rfl
      · intro p a v hJ
        refine op_step (o := _) rfl (fun K hK => ?_)
        obtain ⟨y2, y3, z1, rfl, gg1, h⟩ := CrJc_1 hJ
        have h := Lib.hid h
        clear hJ
        go_simp
        refine (cSq.out _ _ (h.out.own.nth 7 rfl)).mono ?_
        rintro rr w5 ⟨rfl, hp⟩
        try go_wp2_with fail
        refine hK.out _ _ ⟨.agg #[.float .f64 xxl, .float .f64 xxh], .agg #[.float .f64 sdl, .float .f64 sdh], y3, z1, ?_, fun _ => rfl, fun _ => rfl, by omega, gg1, h.out.putAt 7 rfl hp⟩
        kernel_rfl
      · intro p a v hJ
        refine op_step (o := _) rfl (fun K hK => ?_)
        obtain ⟨y3, z1, rfl, gg1, h⟩ := CrJc_2 hJ
        have h := Lib.hid h
        clear hJ
        go_simp
        refine (cL.out _ _ (h.out.own.nth 7 rfl)).mono ?_
        rintro rr w5 ⟨rfl, hp⟩
        try go_wp2_with fail
        refine hK.out _ _ ⟨.agg #[.float .f64 xxl, .float .f64 xxh], .agg #[.float .f64 sdl, .float .f64 sdh], .agg #[.float .f64 lfl, .float .f64 lfh], z1, ?_, fun _ => rfl, fun _ => rfl, fun _ => rfl, gg1, h.out.putAt 7 rfl hp⟩
        kernel_rfl
      · intro k p a v hp hJ
        refine op_step (o := _) rfl (fun K hK => ?_)
        obtain ⟨y1, y2, y3, z1, rfl, ee1, ee2, ee3, gg1, h⟩ := hJ
        have h := Lib.hid h
        go_simp
        refine hK.out _ _ ⟨v.heap.size, y1, y2, y3, .pointer (some ⟨v.heap.size, 0, none⟩), ?_, ee1, ee2, ee3, fun q hq => ptr_set hq, h.out.alloc hp rfl _⟩
        kernel_rfl
      · intro d1 a v hJ
        obtain ⟨rfl, h⟩ := CrJc_fin hJ
        clear hJ
        replace M := Lib.hid h.fin1
        clear h
        refine tails_one (T := []) (i := 7) (o := _) rfl (by kernel_rfl) (fun K hK => ?_)
        have kc := (M.out.nth 0 rfl).2.1
        have kf := (M.out.nth 0 rfl).2.2
        replace M := Lib.hid (M.out.set2 0 rfl (.float .f64 lfl) (.float .f64 lfh))
        go_simp
        refine hK.out _ _ (Or.inr ⟨((M.out.nth 5 rfl).six).1, ((M.out.nth 5 rfl).six).2.1, ((M.out.nth 5 rfl).six).2.2.1, ((M.out.nth 5 rfl).six).2.2.2.1, ((M.out.nth 5 rfl).six).2.2.2.2.1, ((M.out.nth 5 rfl).six).2.2.2.2.2, ((M.out.nth 1 rfl).two).1, ((M.out.nth 1 rfl).two).2⟩) (fun hHeld => ?_)
        clear hK K hHeld kc kf
        refine tails_done (by kernel_rfl) ?_ _
        refine NoPanic.normal ?_
        revert M
        generalize ((v.setCell ⟨d1, 0, none⟩ (.float .f64 lfl)).setCell ⟨d1, 1, none⟩ (.float .f64 lfh)) = W
        intro M
        clear k1 k2 k3 k4 k5 k6 k7 k8
        go_upto_region 10 with fail
        replace M := Lib.hid M.out.drew
        obtain ⟨k1, k2, k3, k4, k5, k6⟩ := (M.out.nth 6 rfl).six
        obtain ⟨k7, k8, k9, k10, k11, k12⟩ := (M.out.nth 7 rfl).six
        refine wp_region_noPanic ?_
        refine tails_region (S := fun w' => w'.cell? ⟨a1, 0, none⟩ = some (.float .f64 f1) ∧ w'.cell? ⟨a1, 1, none⟩ = some (.float .f64 f1) ∧ w'.cell? ⟨a1, 2, none⟩ = some (.float .f64 f2) ∧ w'.cell? ⟨a1, 3, none⟩ = some (.float .f64 f2) ∧ w'.cell? ⟨a1, 4, none⟩ = some (.float .f64 f3) ∧ w'.cell? ⟨a1, 5, none⟩ = some (.float .f64 f3) ∧ w'.cell? ⟨a2, 0, none⟩ = some (.float .f64 g1) ∧ w'.cell? ⟨a2, 1, none⟩ = some (.float .f64 g1) ∧ w'.cell? ⟨a2, 2, none⟩ = some (.float .f64 g2) ∧ w'.cell? ⟨a2, 3, none⟩ = some (.float .f64 g2) ∧ w'.cell? ⟨a2, 4, none⟩ = some (.float .f64 g3) ∧ w'.cell? ⟨a2, 5, none⟩ = some (.float .f64 g3)) [] (by kernel_rfl) ?_ (fun hS => ?_)
        · exact ⟨k1, k2, k3, k4, k5, k6, k7, k8, k9, k10, k11, k12⟩
        refine tails_take (T := []) (i := 0) (o := _) (x := ?_) rfl (by kernel_rfl) (by kernel_rfl) (by kernel_rfl) (by kernel_rfl) (fun _ _ _ h => h) (Or.inl ⟨by rfl, ?_⟩) (by assumption) ?_
        rotate_left; focus (intro w hSw; (try dsimp only at hSw); go_simp; first | done | with_reducible rfl)
        refine tails_take (T := []) (i := 1) (o := _) (x := ?_) rfl (by kernel_rfl) (by kernel_rfl) (by kernel_rfl) (by kernel_rfl) (fun _ _ _ h => h) (Or.inl ⟨by rfl, ?_⟩) (by assumption) ?_
        rotate_left; focus (intro w hSw; (try dsimp only at hSw); go_simp; first | done | with_reducible rfl)
        refine tails_take (T := []) (i := 3) (o := _) (x := ?_) rfl (by kernel_rfl) (by kernel_rfl) (by kernel_rfl) (by kernel_rfl) (fun _ _ _ h => h) (Or.inl ⟨by rfl, ?_⟩) (by assumption) ?_
        rotate_left; focus (intro w hSw; (try dsimp only at hSw); go_simp; first | done | with_reducible rfl)
        refine tails_take (T := []) (i := 4) (o := _) (x := ?_) rfl (by kernel_rfl) (by kernel_rfl) (by kernel_rfl) (by kernel_rfl) (fun _ _ _ h => h) (Or.inl ⟨by rfl, ?_⟩) (by assumption) ?_
        rotate_left; focus (intro w hSw; (try dsimp only at hSw); go_simp; first | done | with_reducible rfl)
        conv => arg 9; simp only [Act.put, go_sem]
        refine lat_3_1 (T := []) 2 5 6 7 [64, 67, 68, 14] 1 (CrJd w f1 f2 f3 g1 g2 g3 x1 x2 x3 x4 x5 x6 pl ph ql qh dl dh lfl lfh aal aah bbl bbh rtl rth d1 w6.heap.size b1 b2 w5.heap.size w3.heap.size a1 a2 w2.heap.size (w.heap.size + 1) w.heap.size) (by kernel_rfl) (by kernel_rfl) ?_ ?_ ?_ ?_ ?_ ?_ ?_
        · intro A hA
          obtain ⟨y1, hq1⟩ := put_ex (hA 64 (by simp))
          obtain ⟨y2, hq2⟩ := put_ex (hA 67 (by simp))
          obtain ⟨y3, hq3⟩ := put_ex (hA 68 (by simp))
          obtain ⟨z1, hq4⟩ := put_ex (hA 14 (by simp))
          exact ⟨y1, y2, y3, z1, by rw [hq1, hq2, hq3, hq4], by omega, by omega, by omega, by simp, OwnF.start M.out 1⟩
        · rintro k p a v ⟨y1, y2, y3, z1, _, _, _, _, _, h⟩
          exact ⟨((h.own.nth 6 rfl).six).1, ((h.own.nth 6 rfl).six).2.1, ((h.own.nth 6 rfl).six).2.2.1, ((h.own.nth 6 rfl).six).2.2.2.1, ((h.own.nth 6 rfl).six).2.2.2.2.1, ((h.own.nth 6 rfl).six).2.2.2.2.2, ((h.own.nth 7 rfl).six).1, ((h.own.nth 7 rfl).six).2.1, ((h.own.nth 7 rfl).six).2.2.1, ((h.own.nth 7 rfl).six).2.2.2.1, ((h.own.nth 7 rfl).six).2.2.2.2.1, ((h.own.nth 7 rfl).six).2.2.2.2.2⟩
        · intro p a v hJ
          refine op_step (o := _) rfl (fun K hK => ?_)
          obtain ⟨y1, y2, y3, z1, rfl, gg1, h⟩ := CrJd_0 hJ
          have h := Lib.hid h
          clear hJ
          go_simp
          refine (cAA.out _ _ (h.out.own.nth 8 rfl)).mono ?_
          rintro rr w5 ⟨rfl, hp⟩
          try go_wp2_with fail
          refine hK.out _ _ ⟨.agg #[.float .f64 aal, .float .f64 aah], y2, y3, z1, ?_, fun _ => rfl, by omega, by omega, gg1, h.out.putAt 8 rfl hp⟩
          kernel_rfl
        · intro p a v hJ
          refine op_step (o := _) rfl (fun K hK => ?_)
          obtain ⟨y2, y3, z1, rfl, gg1, h⟩ := CrJd_1 hJ
          have h := Lib.hid h
          clear hJ
          go_simp
          refine (cBB.out _ _ (h.out.own.nth 8 rfl)).mono ?_
          rintro rr w5 ⟨rfl, hp⟩
          try go_wp2_with fail
          refine hK.out _ _ ⟨.agg #[.float .f64 aal, .float .f64 aah], .agg #[.float .f64 bbl, .float .f64 bbh], y3, z1, ?_, fun _ => rfl, fun _ => rfl, by omega, gg1, h.out.putAt 8 rfl hp⟩
          kernel_rfl
        · intro p a v hJ
          refine op_step (o := _) rfl (fun K hK => ?_)
          obtain ⟨y3, z1, rfl, gg1, h⟩ := CrJd_2 hJ
          have h := Lib.hid h
          clear hJ
          go_simp
          refine (cR.out _ _ (h.out.own.nth 8 rfl)).mono ?_
          rintro rr w5 ⟨rfl, hp⟩
          try go_wp2_with fail
          refine hK.out _ _ ⟨.agg #[.float .f64 aal, .float .f64 aah], .agg #[.float .f64 bbl, .float .f64 bbh], .agg #[.float .f64 rtl, .float .f64 rth], z1, ?_, fun _ => rfl, fun _ => rfl, fun _ => rfl, gg1, h.out.putAt 8 rfl hp⟩
          kernel_rfl
        · intro k p a v hp hJ
          refine op_step (o := _) rfl (fun K hK => ?_)
          obtain ⟨y1, y2, y3, z1, rfl, ee1, ee2, ee3, gg1, h⟩ := hJ
          have h := Lib.hid h
          go_simp
          refine hK.out _ _ ⟨v.heap.size, y1, y2, y3, .pointer (some ⟨v.heap.size, 0, none⟩), ?_, ee1, ee2, ee3, fun q hq => ptr_set hq, h.out.alloc hp rfl _⟩
          kernel_rfl
        · intro u1 a v hJ
          obtain ⟨rfl, h⟩ := CrJd_fin hJ
          clear hJ
          replace M := Lib.hid h.fin1
          clear h
          refine tails_one (T := []) (i := 8) (o := _) rfl (by kernel_rfl) (fun K hK => ?_)
          have kc := (M.out.nth 0 rfl).2.1
          have kf := (M.out.nth 0 rfl).2.2
          replace M := Lib.hid (M.out.set2 0 rfl (.float .f64 rtl) (.float .f64 rth))
          go_simp
          refine hK.out _ _ (Or.inr ⟨((M.out.nth 7 rfl).six).1, ((M.out.nth 7 rfl).six).2.1, ((M.out.nth 7 rfl).six).2.2.1, ((M.out.nth 7 rfl).six).2.2.2.1, ((M.out.nth 7 rfl).six).2.2.2.2.1, ((M.out.nth 7 rfl).six).2.2.2.2.2, ((M.out.nth 8 rfl).six).1, ((M.out.nth 8 rfl).six).2.1, ((M.out.nth 8 rfl).six).2.2.1, ((M.out.nth 8 rfl).six).2.2.2.1, ((M.out.nth 8 rfl).six).2.2.2.2.1, ((M.out.nth 8 rfl).six).2.2.2.2.2⟩) (fun hHeld => ?_)
          clear hK K hHeld kc kf
          refine tails_done (by kernel_rfl) ?_ _
          refine NoPanic.normal ?_
          revert M
          generalize ((v.setCell ⟨u1, 0, none⟩ (.float .f64 rtl)).setCell ⟨u1, 1, none⟩ (.float .f64 rth)) = W
          intro M
          clear k1 k2 k3 k4 k5 k6 k7 k8 k9 k10 k11 k12
          obtain ⟨k1, k2⟩ := (M.out.nth 1 rfl).two
          obtain ⟨k3, k4⟩ := (M.out.nth 0 rfl).two
          go_wp2_with fail
          refine (cM.out _).mono ?_
          rintro r w7 ⟨rfl, hb⟩
          replace M := Lib.hid ((M.out.below hb).made #[.float .f64 mtl, .float .f64 mth] 39)
          clear hb k1 k2 k3 k4
          go_upto_region 12 with fail
          revert M
          generalize w7.alloc (.cells #[.float .f64 mtl, .float .f64 mth] 39) = W
          intro M
          replace M := Lib.hid M.out.drew
          obtain ⟨k1, k2, k3, k4, k5, k6⟩ := (M.out.nth 7 rfl).six
          obtain ⟨k7, k8, k9, k10, k11, k12⟩ := (M.out.nth 6 rfl).six
          obtain ⟨k13, k14⟩ := (M.out.nth 4 rfl).two
          obtain ⟨k15, k16⟩ := (M.out.nth 5 rfl).two
          obtain ⟨k17, k18⟩ := (M.out.nth 3 rfl).two
          obtain ⟨k19, k20, k21, k22, k23, k24⟩ := (M.out.nth 9 rfl).six
          obtain ⟨k25, k26, k27, k28, k29, k30⟩ := (M.out.nth 8 rfl).six
          go_region_held3 (fun w' => w'.cell? ⟨w3.heap.size, 0, none⟩ = some (.float .f64 x1) ∧ w'.cell? ⟨w3.heap.size, 1, none⟩ = some (.float .f64 x2) ∧ w'.cell? ⟨w3.heap.size, 2, none⟩ = some (.float .f64 x3) ∧ w'.cell? ⟨w3.heap.size, 3, none⟩ = some (.float .f64 x4) ∧ w'.cell? ⟨w3.heap.size, 4, none⟩ = some (.float .f64 x5) ∧ w'.cell? ⟨w3.heap.size, 5, none⟩ = some (.float .f64 x6) ∧ w'.cell? ⟨w5.heap.size, 0, none⟩ = some (.float .f64 x1) ∧ w'.cell? ⟨w5.heap.size, 1, none⟩ = some (.float .f64 x2) ∧ w'.cell? ⟨w5.heap.size, 2, none⟩ = some (.float .f64 x3) ∧ w'.cell? ⟨w5.heap.size, 3, none⟩ = some (.float .f64 x4) ∧ w'.cell? ⟨w5.heap.size, 4, none⟩ = some (.float .f64 x5) ∧ w'.cell? ⟨w5.heap.size, 5, none⟩ = some (.float .f64 x6) ∧ w'.cell? ⟨b1, 0, none⟩ = some (.float .f64 pl) ∧ w'.cell? ⟨b1, 1, none⟩ = some (.float .f64 ph) ∧ w'.cell? ⟨b2, 0, none⟩ = some (.float .f64 ql) ∧ w'.cell? ⟨b2, 1, none⟩ = some (.float .f64 qh) ∧ w'.cell? ⟨w6.heap.size, 0, none⟩ = some (.float .f64 dl) ∧ w'.cell? ⟨w6.heap.size, 1, none⟩ = some (.float .f64 dh) ∧ w'.cell? ⟨a2, 0, none⟩ = some (.float .f64 g1) ∧ w'.cell? ⟨a2, 1, none⟩ = some (.float .f64 g1) ∧ w'.cell? ⟨a2, 2, none⟩ = some (.float .f64 g2) ∧ w'.cell? ⟨a2, 3, none⟩ = some (.float .f64 g2) ∧ w'.cell? ⟨a2, 4, none⟩ = some (.float .f64 g3) ∧ w'.cell? ⟨a2, 5, none⟩ = some (.float .f64 g3) ∧ w'.cell? ⟨a1, 0, none⟩ = some (.float .f64 f1) ∧ w'.cell? ⟨a1, 1, none⟩ = some (.float .f64 f1) ∧ w'.cell? ⟨a1, 2, none⟩ = some (.float .f64 f2) ∧ w'.cell? ⟨a1, 3, none⟩ = some (.float .f64 f2) ∧ w'.cell? ⟨a1, 4, none⟩ = some (.float .f64 f3) ∧ w'.cell? ⟨a1, 5, none⟩ = some (.float .f64 f3)) (((try dsimp only); (repeat' apply And.intro); all_goals (repeat (first | (with_reducible assumption) | ((with_reducible refine keep_undrew ?_); (with_reducible assumption)) | (with_reducible refine keep_drew ?_)))))
            (first
            | (go_at_call 42; (with_reducible refine (err_any 0 w2.heap.size 0 _ (M.out.nth 10 rfl).pc).mono ?_); rintro rr w8 ⟨rfl, rfl⟩)
            | (go_at_call 60; (with_reducible refine (sameV_any _ _ _ _ _ _ _).mono ?_); rintro rr w8 ⟨rfl, hb⟩; replace M := Lib.hid (M.out.below hb); clear hb k1 k2 k3 k4 k5 k6 k7 k8 k9 k10 k11 k12 k13 k14 k15 k16 k17 k18 k19 k20 k21 k22 k23 k24 k25 k26 k27 k28 k29 k30; obtain ⟨k1, k2, k3, k4, k5, k6⟩ := (M.out.nth 7 rfl).six; obtain ⟨k7, k8, k9, k10, k11, k12⟩ := (M.out.nth 6 rfl).six; obtain ⟨k13, k14⟩ := (M.out.nth 4 rfl).two; obtain ⟨k15, k16⟩ := (M.out.nth 5 rfl).two; obtain ⟨k17, k18⟩ := (M.out.nth 3 rfl).two; obtain ⟨k19, k20, k21, k22, k23, k24⟩ := (M.out.nth 9 rfl).six; obtain ⟨k25, k26, k27, k28, k29, k30⟩ := (M.out.nth 8 rfl).six)
            | (go_at_call 44; (with_reducible refine (cHp.out _).mono ?_); rintro rr w8 ⟨rfl, hb⟩; replace M := Lib.hid (M.out.below hb); clear hb k1 k2 k3 k4 k5 k6 k7 k8 k9 k10 k11 k12 k13 k14 k15 k16 k17 k18 k19 k20 k21 k22 k23 k24 k25 k26 k27 k28 k29 k30; obtain ⟨k1, k2, k3, k4, k5, k6⟩ := (M.out.nth 7 rfl).six; obtain ⟨k7, k8, k9, k10, k11, k12⟩ := (M.out.nth 6 rfl).six; obtain ⟨k13, k14⟩ := (M.out.nth 4 rfl).two; obtain ⟨k15, k16⟩ := (M.out.nth 5 rfl).two; obtain ⟨k17, k18⟩ := (M.out.nth 3 rfl).two; obtain ⟨k19, k20, k21, k22, k23, k24⟩ := (M.out.nth 9 rfl).six; obtain ⟨k25, k26, k27, k28, k29, k30⟩ := (M.out.nth 8 rfl).six)
            | (go_at_call 44; (with_reducible refine (cHq.out _).mono ?_); rintro rr w8 ⟨rfl, hb⟩; replace M := Lib.hid (M.out.below hb); clear hb k1 k2 k3 k4 k5 k6 k7 k8 k9 k10 k11 k12 k13 k14 k15 k16 k17 k18 k19 k20 k21 k22 k23 k24 k25 k26 k27 k28 k29 k30; obtain ⟨k1, k2, k3, k4, k5, k6⟩ := (M.out.nth 7 rfl).six; obtain ⟨k7, k8, k9, k10, k11, k12⟩ := (M.out.nth 6 rfl).six; obtain ⟨k13, k14⟩ := (M.out.nth 4 rfl).two; obtain ⟨k15, k16⟩ := (M.out.nth 5 rfl).two; obtain ⟨k17, k18⟩ := (M.out.nth 3 rfl).two; obtain ⟨k19, k20, k21, k22, k23, k24⟩ := (M.out.nth 9 rfl).six; obtain ⟨k25, k26, k27, k28, k29, k30⟩ := (M.out.nth 8 rfl).six)
            | (go_at_call 67; (with_reducible refine (cBA.out _ _ (M.out.nth 10 rfl)).mono ?_); rintro rr w8 ⟨rfl, hb⟩; replace M := Lib.hid (M.out.putAt 10 rfl hb); clear hb k1 k2 k3 k4 k5 k6 k7 k8 k9 k10 k11 k12 k13 k14 k15 k16 k17 k18 k19 k20 k21 k22 k23 k24 k25 k26 k27 k28 k29 k30; obtain ⟨k1, k2, k3, k4, k5, k6⟩ := (M.out.nth 7 rfl).six; obtain ⟨k7, k8, k9, k10, k11, k12⟩ := (M.out.nth 6 rfl).six; obtain ⟨k13, k14⟩ := (M.out.nth 4 rfl).two; obtain ⟨k15, k16⟩ := (M.out.nth 5 rfl).two; obtain ⟨k17, k18⟩ := (M.out.nth 3 rfl).two; obtain ⟨k19, k20, k21, k22, k23, k24⟩ := (M.out.nth 9 rfl).six; obtain ⟨k25, k26, k27, k28, k29, k30⟩ := (M.out.nth 8 rfl).six)
            | (go_at_call 38; (with_reducible refine (l_same _ _ _).mono ?_); rintro rr w8 ⟨rfl, hb⟩; replace M := Lib.hid (M.out.below hb); clear hb k1 k2 k3 k4 k5 k6 k7 k8 k9 k10 k11 k12 k13 k14 k15 k16 k17 k18 k19 k20 k21 k22 k23 k24 k25 k26 k27 k28 k29 k30; obtain ⟨k1, k2, k3, k4, k5, k6⟩ := (M.out.nth 7 rfl).six; obtain ⟨k7, k8, k9, k10, k11, k12⟩ := (M.out.nth 6 rfl).six; obtain ⟨k13, k14⟩ := (M.out.nth 4 rfl).two; obtain ⟨k15, k16⟩ := (M.out.nth 5 rfl).two; obtain ⟨k17, k18⟩ := (M.out.nth 3 rfl).two; obtain ⟨k19, k20, k21, k22, k23, k24⟩ := (M.out.nth 9 rfl).six; obtain ⟨k25, k26, k27, k28, k29, k30⟩ := (M.out.nth 8 rfl).six)
            | (go_at_call 61; (with_reducible refine (awake5_any _).mono ?_); rintro rr w8 ⟨rfl, hb⟩; replace M := Lib.hid (M.out.below hb); clear hb k1 k2 k3 k4 k5 k6 k7 k8 k9 k10 k11 k12 k13 k14 k15 k16 k17 k18 k19 k20 k21 k22 k23 k24 k25 k26 k27 k28 k29 k30; obtain ⟨k1, k2, k3, k4, k5, k6⟩ := (M.out.nth 7 rfl).six; obtain ⟨k7, k8, k9, k10, k11, k12⟩ := (M.out.nth 6 rfl).six; obtain ⟨k13, k14⟩ := (M.out.nth 4 rfl).two; obtain ⟨k15, k16⟩ := (M.out.nth 5 rfl).two; obtain ⟨k17, k18⟩ := (M.out.nth 3 rfl).two; obtain ⟨k19, k20, k21, k22, k23, k24⟩ := (M.out.nth 9 rfl).six; obtain ⟨k25, k26, k27, k28, k29, k30⟩ := (M.out.nth 8 rfl).six))
          go_wp2
          go_ret
          exact ⟨rfl, M.out.base⟩

end Go.Proofs.Ytmcecchcbfhfcaa

namespace Go.Proofs.Ytmcecchcbfhfcaa
open Go.RowKit

def okN (r g : Bool) : Bool := r && !g
set_option maxRecDepth 100000 in
set_option maxHeartbeats 2000000 in
theorem small_walk (x y z p q s : Nat) (r1 r2 r3 g1 g2 g3 : Bool) (w : World) (c1 : Hid (CalcR x r1)) (c2 : Hid (CalcR y r2)) (c3 : Hid (CalcR z r3)) (a1 : Hid (CalcAbs x p)) (a2 : Hid (CalcAbs y q)) (a3 : Hid (CalcAbs z s))
    (o1 : (FloatKind.f64.format.order p 4895412794951729152 == some Ordering.gt) = g1) (o2 : (FloatKind.f64.format.order q 4895412794951729152 == some Ordering.gt) = g2) (o3 : (FloatKind.f64.format.order s 4895412794951729152 == some Ordering.gt) = g3) :
    Calls Try.prog 59 #[.agg #[.float .f64 x, .float .f64 y, .float .f64 z]] w fun r w' => r = .returned (.bool (okN r1 g1 && okN r2 g2 && okN r3 g3)) ∧ Below w.heap.size w w' := by
  have M := Lib.hid ((Own.nil w).made #[.float .f64 x, .float .f64 y, .float .f64 z] 58)
  obtain ⟨k1, k2, k3⟩ := (M.out.nth 0 rfl).three
  have i0 : ∀ w, (Instr.index 68 (.agg #[.float .f64 x, .float .f64 y, .float .f64 z]) (.int .i64 0)).run Try.prog w = .ok (.float .f64 x) w := fun _ => by kernel_rfl
  have i1 : ∀ w, (Instr.index 68 (.agg #[.float .f64 x, .float .f64 y, .float .f64 z]) (.int .i64 1)).run Try.prog w = .ok (.float .f64 y) w := fun _ => by kernel_rfl
  have i2 : ∀ w, (Instr.index 68 (.agg #[.float .f64 x, .float .f64 y, .float .f64 z]) (.int .i64 2)).run Try.prog w = .ok (.float .f64 z) w := fun _ => by kernel_rfl
  go_enter Try.func59, Try.ntmps59
  go_wp2_with fail
  go_loop [12] (fun v => ∃ k : Nat, k ≤ 3 ∧ v = .int .i64 k ∧ (1 ≤ k → okN r1 g1 = true) ∧ (2 ≤ k → okN r2 g2 = true) ∧ (3 ≤ k → okN r3 g3 = true))
    (fun v => (4 - intOf v).toNat)
  case atStart => exact ⟨0, by omega, rfl, by omega, by omega, by omega⟩
  case round =>
    obtain ⟨k, hk, rfl, h1, h2, h3⟩ := hrel
    have h1 := Lib.hid h1
    have h2 := Lib.hid h2
    have h3 := Lib.hid h3
    rcases (show k = 0 ∨ k = 1 ∨ k = 2 ∨ k = 3 by omega) with rfl | rfl | rfl | rfl
    · clear hk
      go_wp2_with fail
      refine (c1.out _).mono ?_
      rintro r ww ⟨rfl, rfl⟩
      cases r1
      · go_wp2
        go_ret
        exact ⟨rfl, M.out.base⟩
      · go_wp2_with fail
        refine (a1.out _).mono ?_
        rintro r ww ⟨rfl, rfl⟩
        cases g1
        · go_wp2
          go_round
          case rel => exact ⟨1, by omega, rfl, fun _ => rfl, by omega, by omega⟩
          case measure => decide
        · go_wp2
          go_ret
          exact ⟨rfl, M.out.base⟩
    · clear hk
      go_wp2_with fail
      refine (c2.out _).mono ?_
      rintro r ww ⟨rfl, rfl⟩
      cases r2
      · go_wp2
        go_ret
        exact ⟨by (have e1 := h1.out (by decide); simp only [e1]; rfl), M.out.base⟩
      · go_wp2_with fail
        refine (a2.out _).mono ?_
        rintro r ww ⟨rfl, rfl⟩
        cases g2
        · go_wp2
          go_round
          case rel => exact ⟨2, by omega, rfl, fun _ => h1.out (by decide), fun _ => rfl, by omega⟩
          case measure => decide
        · go_wp2
          go_ret
          exact ⟨by (have e1 := h1.out (by decide); simp only [e1]; rfl), M.out.base⟩
    · clear hk
      go_wp2_with fail
      refine (c3.out _).mono ?_
      rintro r ww ⟨rfl, rfl⟩
      cases r3
      · go_wp2
        go_ret
        exact ⟨by (have e1 := h1.out (by decide); have e2 := h2.out (by decide); simp only [e1, e2]; rfl), M.out.base⟩
      · go_wp2_with fail
        refine (a3.out _).mono ?_
        rintro r ww ⟨rfl, rfl⟩
        cases g3
        · go_wp2
          go_round
          case rel => exact ⟨3, by omega, rfl, fun _ => h1.out (by decide), fun _ => h2.out (by decide), fun _ => rfl⟩
          case measure => decide
        · go_wp2
          go_ret
          exact ⟨by (have e1 := h1.out (by decide); have e2 := h2.out (by decide); simp only [e1, e2]; rfl), M.out.base⟩
    · clear hk
      go_wp2
      go_ret
      exact ⟨rfl, M.out.base⟩

def smallN (x : Nat) : Bool := okN (rightB x) (FloatKind.f64.format.order (rung x) 4895412794951729152 == some Ordering.gt)
theorem small_any (x y z : Nat) (w : World) (lx : x < 18446744073709551616) (ly : y < 18446744073709551616) (lz : z < 18446744073709551616) :
    Calls Try.prog 59 #[.agg #[.float .f64 x, .float .f64 y, .float .f64 z]] w fun r w' => r = .returned (.bool (smallN x && smallN y && smallN z)) ∧ Below w.heap.size w w' :=
  small_walk x y z (rung x) (rung y) (rung z) _ _ _ _ _ _ w (Lib.hid fun w => right_any x w lx) (Lib.hid fun w => right_any y w ly) (Lib.hid fun w => right_any z w lz) (Lib.hid fun w => abs_any x w lx) (Lib.hid fun w => abs_any y w ly) (Lib.hid fun w => abs_any z w lz) rfl rfl rfl

set_option maxRecDepth 100000 in
set_option maxHeartbeats 1000000 in
theorem vecCross_bad (f1 f2 f3 g1 g2 g3 : Nat) (b1 b2 : Bool) (w : World) (h : (b1 && b2) = false)
    (cS1 : Hid (∀ w : World, Calls Try.prog 59 #[.agg #[.float .f64 f1, .float .f64 f2, .float .f64 f3]] w fun r w' => r = .returned (.bool b1) ∧ Below w.heap.size w w'))
    (cS2 : Hid (∀ w : World, Calls Try.prog 59 #[.agg #[.float .f64 g1, .float .f64 g2, .float .f64 g3]] w fun r w' => r = .returned (.bool b2) ∧ Below w.heap.size w w')) :
    Calls Try.prog 10 #[.agg #[.float .f64 f1, .float .f64 f2, .float .f64 f3], .agg #[.float .f64 g1, .float .f64 g2, .float .f64 g3]] w fun r w' => r = .returned (.bool true) ∧ Below w.heap.size w w' := by
  have M := Lib.hid (((Own.nil w).made #[.float .f64 f1, .float .f64 f2, .float .f64 f3] 58).made #[.float .f64 g1, .float .f64 g2, .float .f64 g3] 58)
  simp only [World.size_alloc] at M
  obtain ⟨k1, k2, k3⟩ := (M.out.nth 1 rfl).three
  cases b1
  · clear h
    go_enter Try.func10, Try.ntmps10
    go_wp2_with fail
    refine (cS1.out _).mono ?_
    rintro r w1 ⟨rfl, hb⟩
    replace M := Lib.hid (M.out.below hb)
    clear hb k1 k2 k3
    go_wp2_with fail
    refine (awake5_any _).mono ?_
    rintro r w2 ⟨rfl, hb⟩
    replace M := Lib.hid (M.out.below hb)
    clear hb
    go_wp2
    go_ret
    exact ⟨rfl, M.out.base⟩
  · obtain rfl : b2 = false := h
    go_enter Try.func10, Try.ntmps10
    go_wp2_with fail
    refine (cS1.out _).mono ?_
    rintro r w1 ⟨rfl, hb⟩
    replace M := Lib.hid (M.out.below hb)
    clear hb k1 k2 k3
    obtain ⟨k1, k2, k3⟩ := (M.out.nth 0 rfl).three
    go_wp2_with fail
    refine (cS2.out _).mono ?_
    rintro r w2 ⟨rfl, hb⟩
    replace M := Lib.hid (M.out.below hb)
    clear hb k1 k2 k3
    go_wp2_with fail
    refine (awake5_any _).mono ?_
    rintro r w3 ⟨rfl, hb⟩
    replace M := Lib.hid (M.out.below hb)
    clear hb
    go_wp2
    go_ret
    exact ⟨rfl, M.out.base⟩

end Go.Proofs.Ytmcecchcbfhfcaa

namespace Go.Proofs.Ytmcecchcbfhfcaa
open Go.RowKit

theorem small_of {x : Nat} (lx : x < 18446744073709551616) (h : smallN x = true) : Small x := by
  unfold smallN okN at h
  rw [Bool.and_eq_true, Bool.not_eq_true'] at h
  obtain ⟨h1, h2⟩ := h
  obtain ⟨p1, p2⟩ := rung_right x h1
  refine ⟨lx, h1, ?_⟩
  rw [order_gt _ _ p1 (by decide) p2 (by decide)] at h2
  have h3 := of_decide_eq_false h2
  have h4 := (pos_facts (rung x) (right_rung x h1)).2.2.2.2
  have h5 : (val x).natAbs = steps (rung x) := by unfold val; split <;> omega
  omega

/-- An answer with no error behind. -/
theorem put_none {f : FuncId} {args : Array Value} {v : World} {pb : Nat} {e : Int} {x : Ending} (he : e = 0) (h : Calls Try.prog f args v fun r w' => r = x ∧ Put ⟨pb, 0, none⟩ (.int .i64 e) v w') :
    Calls Try.prog f args v fun r w' => r = x ∧ Put ⟨pb, 0, none⟩ (.int .i64 0) v w' := by
  subst he; exact h

theorem vecCross_any (f1 f2 f3 g1 g2 g3 : Nat) (w : World) (l1 : f1 < 18446744073709551616) (l2 : f2 < 18446744073709551616) (l3 : f3 < 18446744073709551616) (l4 : g1 < 18446744073709551616) (l5 : g2 < 18446744073709551616) (l6 : g3 < 18446744073709551616) :
    Calls Try.prog 10 #[.agg #[.float .f64 f1, .float .f64 f2, .float .f64 f3], .agg #[.float .f64 g1, .float .f64 g2, .float .f64 g3]] w fun r w' => r = .returned (.bool true) ∧ Below w.heap.size w w' := by
  have cS1 := fun w => small_any f1 f2 f3 w l1 l2 l3
  have cS2 := fun w => small_any g1 g2 g3 w l4 l5 l6
  cases h : ((smallN f1 && smallN f2 && smallN f3) && (smallN g1 && smallN g2 && smallN g3))
  · exact vecCross_bad f1 f2 f3 g1 g2 g3 _ _ w h (Lib.hid cS1) (Lib.hid cS2)
  · rw [Bool.and_eq_true] at h
    obtain ⟨h1, h2⟩ := h
    rw [h1] at cS1
    rw [h2] at cS2
    simp only [Bool.and_eq_true] at h1 h2
    have ia := point_in (small_of l1 h1.1.1) (small_of l2 h1.1.2) (small_of l3 h1.2)
    have ib := point_in (small_of l4 h2.1.1) (small_of l5 h2.1.2) (small_of l6 h2.2)
    have o := cross_ok ia ib
    obtain ⟨r1, r2, r3⟩ := cross_real o
    have t := cross_turn o
    have cN := fun (pb : Nat) (v : World) (hC : Has1 v (pb, #[.int .i64 0])) => put_none o.fn.z.e (vneg_any 0 o.fy.wd pb v hC)
    rw [t] at cN
    have cM := fun w => meet_any _ _ _ _ w o.fl.lo o.fl.hi o.fr.lo o.fr.hi o.fl.rlo o.fl.rhi o.fr.rlo o.fr.rhi
    rw [r3] at cM
    have cP := fun w => has_any _ _ 0 w o.fp.lo o.fp.hi
    rw [r1] at cP
    have cQ := fun w => has_any _ _ 0 w o.fq.lo o.fq.hi
    rw [r2] at cQ
    have cE := fun (pb : Nat) (v : World) (hC : Has1 v (pb, #[.int .i64 0])) => put_none o.fe.e (dot_any 0 o.fb.wd o.fa.wd pb v hC)
    rw [dot_comm o.fa o.fb o.fd.e o.fe.e] at cE
    exact vecCross_walk f1 f2 f3 g1 g2 g3 _ _ _ _ _ _ _ _ _ _ _ _ _ _ _ _ _ _ _ _ _ _ _ _ _ _ _ _ _ _ _ _ w (Lib.hid cS1) (Lib.hid cS2)
      (Lib.hid fun pb v hC => put_none o.fx.z.e (vcross_any 0 o.fa.wd o.fb.wd pb v hC)) (Lib.hid fun pb v hC => put_none o.fy.z.e (vcross_any 0 o.fb.wd o.fa.wd pb v hC)) (Lib.hid cN)
      (Lib.hid fun pb v hC => put_none o.fp.e (dot_any 0 o.fx.wd o.fa.wd pb v hC)) (Lib.hid fun pb v hC => put_none o.fq.e (dot_any 0 o.fx.wd o.fb.wd pb v hC)) (Lib.hid fun pb v hC => put_none o.fd.e (dot_any 0 o.fa.wd o.fb.wd pb v hC))
      (Lib.hid fun pb v hC => put_none o.fxx.e (dot_any 0 o.fx.wd o.fx.wd pb v hC)) (Lib.hid fun pb v hC => put_none o.fsd.e (ce_sqr 0 o.fd.wd pb v hC)) (Lib.hid fun pb v hC => put_none o.fl.e (ce_add 0 o.fxx.wd o.fsd.wd pb v hC))
      (Lib.hid fun pb v hC => put_none o.faa.e (dot_any 0 o.fa.wd o.fa.wd pb v hC)) (Lib.hid fun pb v hC => put_none o.fbb.e (dot_any 0 o.fb.wd o.fb.wd pb v hC)) (Lib.hid fun pb v hC => put_none o.fr.e (ce_mul 0 o.faa.wd o.fbb.wd pb v hC))
      (Lib.hid cM) (Lib.hid cP) (Lib.hid cQ) (Lib.hid cE)

end Go.Proofs.Ytmcecchcbfhfcaa

namespace Go.Proofs.Ytmcecchcbfhfcaa
open Go.ChangeShapes Go.WideShapes Go.ChangeAt Go.RowKit Go.Joins

theorem Try.own : ownKnob Try.prog.godebug = none := by kernel_rfl
theorem Try.cellsIv : Try.prog.cellsOf 39 = 2 := by kernel_rfl

theorem trod_float {H : Type} {enc : TypeId × Value → H} {P : Program} {w : World} {base : Nat} {spare : Nat → Bool} {held : Bool} {fuel : Nat} {t : TypeId} {k : FloatKind} {v : Value} {x : DataW H × List MemPlace} (ht : P.underlying t = some (.float k)) (h : DataW.trod enc P w base spare held fuel t [v] = some x) :
    ∃ n, v = .float k n ∧ x = (.lit (.float k n), []) ∧ (Lit.float k n).wf = true := by
  cases fuel with
  | zero => simp [DataW.trod] at h
  | succ n =>
    unfold DataW.trod at h
    rw [ht] at h
    split at h <;> simp_all

set_option maxRecDepth 100000 in
theorem open_iv {H : Type} {enc : TypeId × Value → H} {W : World} {base : Nat} {spare : Nat → Bool} {held : Bool} {r : Reach} {b0 : Nat} {v : Value} {d : DataW H} {p : List MemPlace} (hv : Value.okWide Try.prog W r b0 39 v) (h : DataW.Trod enc Try.prog W base spare held 39 v d p) :
    ∃ lo hi, v = .agg #[.float .f64 lo, .float .f64 hi] ∧ d = .agg [.lit (.float .f64 lo), .lit (.float .f64 hi)] ∧ p = [] ∧ (Lit.float .f64 lo).wf = true ∧ (Lit.float .f64 hi).wf = true := by
  obtain ⟨c0, c1, y0, y1, m, rfl, rfl, rfl, hy0, hy1⟩ := open_agg2 Try.underlying39 (by kernel_rfl) Try.cellsIv hv h
  obtain ⟨lo, rfl, rfl, w0⟩ := trod_float Try.underlying22 hy0
  obtain ⟨hi, rfl, rfl, w1⟩ := trod_float Try.underlying22 hy1
  exact ⟨lo, hi, rfl, rfl, rfl, w0, w1⟩

set_option maxRecDepth 100000 in
theorem shut_iv {H : Type} {enc : TypeId × Value → H} {W : World} {base : Nat} {spare : Nat → Bool} {held : Bool} {lo hi : Nat} (w0 : (Lit.float .f64 lo).wf = true) (w1 : (Lit.float .f64 hi).wf = true) :
    DataW.Trod enc Try.prog W base spare held 39 (.agg #[.float .f64 lo, .float .f64 hi]) (.agg [.lit (.float .f64 lo), .lit (.float .f64 hi)]) [] :=
  shut_agg2 (y0 := (.lit (.float .f64 lo), [])) (y1 := (.lit (.float .f64 hi), [])) Try.underlying39 (by kernel_rfl) Try.cellsIv ⟨1, by simp [DataW.trod, Try.underlying22, w0]⟩ ⟨1, by simp [DataW.trod, Try.underlying22, w1]⟩

end Go.Proofs.Ytmcecchcbfhfcaa

namespace Go.Proofs.Ytmcecchcbfhfcaa
open Go.ChangeShapes Go.WideShapes Go.ChangeAt Go.RowKit Go.Joins

theorem Try.cellsF3 : Try.prog.cellsOf 58 = 3 := by kernel_rfl

set_option maxRecDepth 100000 in
theorem open_f3 {H : Type} {enc : TypeId × Value → H} {W : World} {base : Nat} {spare : Nat → Bool} {held : Bool} {r : Reach} {b0 : Nat} {v : Value} {d : DataW H} {p : List MemPlace} (hv : Value.okWide Try.prog W r b0 58 v) (h : DataW.Trod enc Try.prog W base spare held 58 v d p) :
    ∃ x y z, v = .agg #[.float .f64 x, .float .f64 y, .float .f64 z] ∧ d = .agg [.lit (.float .f64 x), .lit (.float .f64 y), .lit (.float .f64 z)] ∧ p = [] ∧ (Lit.float .f64 x).wf = true ∧ (Lit.float .f64 y).wf = true ∧ (Lit.float .f64 z).wf = true := by
  obtain ⟨c0, c1, c2, y0, y1, y2, m, rfl, rfl, rfl, hy0, hy1, hy2⟩ := open_agg3 Try.underlying58 (by kernel_rfl) Try.cellsF3 hv h
  obtain ⟨x, rfl, rfl, w0⟩ := trod_float Try.underlying22 hy0
  obtain ⟨y, rfl, rfl, w1⟩ := trod_float Try.underlying22 hy1
  obtain ⟨z, rfl, rfl, w2⟩ := trod_float Try.underlying22 hy2
  exact ⟨x, y, z, rfl, rfl, rfl, w0, w1, w2⟩

set_option maxRecDepth 100000 in
theorem shut_f3 {H : Type} {enc : TypeId × Value → H} {W : World} {base : Nat} {spare : Nat → Bool} {held : Bool} {x y z : Nat} (w0 : (Lit.float .f64 x).wf = true) (w1 : (Lit.float .f64 y).wf = true) (w2 : (Lit.float .f64 z).wf = true) :
    DataW.Trod enc Try.prog W base spare held 58 (.agg #[.float .f64 x, .float .f64 y, .float .f64 z]) (.agg [.lit (.float .f64 x), .lit (.float .f64 y), .lit (.float .f64 z)]) [] :=
  shut_agg3 (y0 := (.lit (.float .f64 x), [])) (y1 := (.lit (.float .f64 y), [])) (y2 := (.lit (.float .f64 z), [])) Try.underlying58 (by kernel_rfl) Try.cellsF3 ⟨1, by simp [DataW.trod, Try.underlying22, w0]⟩ ⟨1, by simp [DataW.trod, Try.underlying22, w1]⟩ ⟨1, by simp [DataW.trod, Try.underlying22, w2]⟩

end Go.Proofs.Ytmcecchcbfhfcaa

namespace Go.Proofs.Ytmcecchcbfhfcaa
open Go.ChangeShapes Go.WideShapes Go.ChangeAt Go.RowKit

set_option maxRecDepth 100000 in
theorem vecCross_lifted (os : Os) (started : os.Started) (H : Type) (enc : TypeId × Value → H) :
    ReturnsInHanded {} Try.checked os 10 .any (Rows.vecCrossSpec.pre6 enc Try.prog Try.f10 Rows.vecCrossRow.domain false) (Rows.vecCrossSpec.post enc Try.prog Try.f10 false true false false) := by
  refine returnsInHanded_of_change (C := Try.checked) Try.own started (by kernel_rfl) Try.func10
    (ChangeSpec.witness6 (enc := enc) (C := Try.checked) false ⟨#[], #[.agg #[.float .f64 0, .float .f64 0, .float .f64 0], .agg #[.float .f64 0, .float .f64 0, .float .f64 0]], []⟩ 8 (by kernel_rfl) (by kernel_rfl) (by kernel_rfl) (by kernel_rfl)) ?_
  intro W base args ds gs before hval0 hW hcnd _
  have hval : ∀ (j : Nat) t v, Try.f10.params[j]? = some t → args[j]? = some v → Value.okWide Try.prog W .any base t v := hval0
  have hW' := hW
  obtain ⟨p, q, hA0, hV, rfl, hfz, hnd⟩ := hW
  have hA : DataW.TrodAll enc Try.prog W 0 (fun _ => true) true Try.f10.params.toList args.toList ds p := hA0
  rw [Try.params10] at hA hval
  obtain ⟨v0, v1, d0, d1, p0, p1, rfl, rfl, rfl, h0, h1⟩ := trodAll_two hA
  obtain ⟨rfl, rfl⟩ := trodVars_none hV
  obtain ⟨f1, f2, f3, rfl, rfl, rfl, wa, wb, wc⟩ := open_f3 (hval 0 58 v0 rfl rfl) h0
  obtain ⟨g1, g2, g3, rfl, rfl, rfl, wd, we, wf⟩ := open_f3 (hval 1 58 v1 rfl rfl) h1
  clear hA0 hval0
  simp only [List.append_nil] at hW'
  have l1 : f1 < 18446744073709551616 := by simpa [Lit.wf] using wa
  have l2 : f2 < 18446744073709551616 := by simpa [Lit.wf] using wb
  have l3 : f3 < 18446744073709551616 := by simpa [Lit.wf] using wc
  have l4 : g1 < 18446744073709551616 := by simpa [Lit.wf] using wd
  have l5 : g2 < 18446744073709551616 := by simpa [Lit.wf] using we
  have l6 : g3 < 18446744073709551616 := by simpa [Lit.wf] using wf
  refine (vecCross_any f1 f2 f3 g1 g2 g3 W l1 l2 l3 l4 l5 l6).mono fun e W' ⟨he, hw⟩ => ?_
  subst he
  refine ⟨_, rfl, _, _, _, [], [], [], hW', trodAll_mk1 (shut_bool Try.underlying4 _), trodAll_mk2 (shut_f3 wa wb wc) (shut_f3 wd we wf), rfl, hw.frame _, fun h => by cases h⟩

theorem vecCross_holds : Rows.VecCrossSaid :=
  OpenClaim.holds_of_wide 10 Try.f10 rfl rfl rfl rfl rfl rfl rfl ⟨rfl, rfl, rfl, rfl, rfl⟩ rfl rfl rfl rfl rfl (by kernel_rfl) Try.func10 (by kernel_rfl)
    (of_decide_eq_true (by kernel_rfl)) (by unfold Func.isWrapper; first | (rw [if_pos (by decide +kernel)]; kernel_rfl) | (rw [if_neg (by decide +kernel)]; exact ⟨rfl, rfl⟩))
    (fun os started H enc _ => vecCross_lifted os started H enc)

end Go.Proofs.Ytmcecchcbfhfcaa
