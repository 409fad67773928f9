
/- VecUnit of any triple: the law answers true. -/
import Derived.Test.YtlibfeegdjbhcaaQVA
import Derived.Test.YtlibfeegdjbhcaaUnitM
import Derived.Test.YtlibfeegdjbhcaaBase
import Derived.Deep.Draws
import Derived.Deep.RegionHeld3
namespace Go.Proofs.Ytlibfeegdjbhcaa
open Go.RowKit

theorem corner_lo {l h l' h' X Y M : Int} (x1 : l ≤ X) (x2 : X ≤ h) (y1 : l' ≤ Y) (y2 : Y ≤ h') (c1 : M ≤ l * l') (c2 : M ≤ l * h') (c3 : M ≤ h * l') (c4 : M ≤ h * h') : M ≤ X * Y := by
  rcases Int.le_total 0 Y with g | g
  · have k : l * Y ≤ X * Y := Int.mul_le_mul_of_nonneg_right x1 g
    rcases Int.le_total 0 l with g' | g'
    · exact Int.le_trans (Int.le_trans c1 (mul_le_l y1 g')) k
    · exact Int.le_trans (Int.le_trans c2 (mul_le_n y2 g')) k
  · have k : h * Y ≤ X * Y := Int.mul_le_mul_of_nonpos_right x2 g
    rcases Int.le_total 0 h with g' | g'
    · exact Int.le_trans (Int.le_trans c3 (mul_le_l y1 g')) k
    · exact Int.le_trans (Int.le_trans c4 (mul_le_n y2 g')) k
theorem corner_hi {l h l' h' X Y M : Int} (x1 : l ≤ X) (x2 : X ≤ h) (y1 : l' ≤ Y) (y2 : Y ≤ h') (c1 : l * l' ≤ M) (c2 : l * h' ≤ M) (c3 : h * l' ≤ M) (c4 : h * h' ≤ M) : X * Y ≤ M := by
  have k := corner_lo (l := -h) (h := -l) (X := -X) (M := -M) (by omega) (by omega) y1 y2 (by rw [Int.neg_mul]; omega) (by rw [Int.neg_mul]; omega) (by rw [Int.neg_mul]; omega) (by rw [Int.neg_mul]; omega)
  rw [Int.neg_mul] at k
  omega

/-- The interval, in steps of 1 / P of the least one, has T. -/
def HasP (r : Res) (P T : Int) : Prop := val r.lo * P ≤ T ∧ T ≤ val r.hi * P
def SS : Int := ((2 ^ sq : Nat) : Int)
theorem ss_pos : 0 ≤ SS := Int.natCast_nonneg _
theorem HasP.one (x : Nat) : HasP (oneR x) 1 (val x) := ⟨by show val x * 1 ≤ _; omega, by show _ ≤ val x * 1; omega⟩
theorem quad (a b c d : Int) : a * b * (c * d) = a * c * (b * d) := by ac_rfl

theorem HasP.mul {r s : Res} {P Q T U : Int} (hP : 0 ≤ P) (hQ : 0 ≤ Q) (fr : Fit r) (fs : Fit s) (h : HasP r P T) (h' : HasP s Q U) (he : (mulR r s).e = 0) : HasP (mulR r s) (SS * (P * Q)) (T * U) := by
  obtain ⟨T0, U0, ⟨R, _, _⟩, W⟩ := mul_worth r.lo r.hi s.lo s.hi fr.lo fr.hi fs.lo fs.hi fr.iv fs.iv
  obtain ⟨d, u⟩ := W.ends he
  obtain ⟨_, _, d3, _⟩ := d.ok
  obtain ⟨_, _, u3, _⟩ := u.ok
  have hPQ : 0 ≤ P * Q := Int.mul_nonneg hP hQ
  have l1 := fr.le
  have l2 := fs.le
  have c1 := R _ _ (Int.le_refl _) l1 (Int.le_refl _) l2
  have c2 := R _ _ (Int.le_refl _) l1 l2 (Int.le_refl _)
  have c3 := R _ _ l1 (Int.le_refl _) (Int.le_refl _) l2
  have c4 := R _ _ l1 (Int.le_refl _) l2 (Int.le_refl _)
  constructor
  · have k1 : val (mulR r s).lo * (SS * (P * Q)) ≤ T0 * (P * Q) := by
      rw [← Int.mul_assoc (val (mulR r s).lo)]
      exact Int.mul_le_mul_of_nonneg_right d3 hPQ
    refine Int.le_trans k1 (corner_lo h.1 h.2 h'.1 h'.2 ?_ ?_ ?_ ?_)
    · rw [quad]; exact Int.mul_le_mul_of_nonneg_right c1.1 hPQ
    · rw [quad]; exact Int.mul_le_mul_of_nonneg_right c2.1 hPQ
    · rw [quad]; exact Int.mul_le_mul_of_nonneg_right c3.1 hPQ
    · rw [quad]; exact Int.mul_le_mul_of_nonneg_right c4.1 hPQ
  · have k1 : U0 * (P * Q) ≤ val (mulR r s).hi * (SS * (P * Q)) := by
      rw [← Int.mul_assoc (val (mulR r s).hi)]
      exact Int.mul_le_mul_of_nonneg_right u3 hPQ
    refine Int.le_trans (corner_hi h.1 h.2 h'.1 h'.2 ?_ ?_ ?_ ?_) k1
    · rw [quad]; exact Int.mul_le_mul_of_nonneg_right c1.2 hPQ
    · rw [quad]; exact Int.mul_le_mul_of_nonneg_right c2.2 hPQ
    · rw [quad]; exact Int.mul_le_mul_of_nonneg_right c3.2 hPQ
    · rw [quad]; exact Int.mul_le_mul_of_nonneg_right c4.2 hPQ

theorem HasP.add {r s : Res} {P T U : Int} (hP : 0 ≤ P) (fr : Fit r) (fs : Fit s) (h : HasP r P T) (h' : HasP s P U) (he : (addR r s).e = 0) : HasP (addR r s) P (T + U) := by
  obtain ⟨e1, e2, e3⟩ := tight_e he
  have d := add_down r.lo s.lo fr.rlo fs.rlo
  have u := add_up r.hi s.hi fr.rhi fs.rhi
  rw [e1] at d
  rw [e2] at u
  obtain ⟨_, _, d3, _⟩ := d.ok
  obtain ⟨_, _, u3, _⟩ := u.ok
  have m1 : (addR r s).lo = addW r.lo s.lo false := congrArg Res.lo e3
  have m2 : (addR r s).hi = addW r.hi s.hi true := congrArg Res.hi e3
  unfold HasP at h h' ⊢
  rw [m1, m2]
  have k1 : val (addW r.lo s.lo false) * P ≤ (val r.lo + val s.lo) * P := Int.mul_le_mul_of_nonneg_right (by omega) hP
  have k2 : (val r.hi + val s.hi) * P ≤ val (addW r.hi s.hi true) * P := Int.mul_le_mul_of_nonneg_right (by omega) hP
  rw [Int.add_mul] at k1 k2
  omega
theorem HasP.sub {r s : Res} {P T U : Int} (hP : 0 ≤ P) (fr : Fit r) (fs : Fit s) (h : HasP r P T) (h' : HasP s P U) (he : (subR r s).e = 0) : HasP (subR r s) P (T - U) := by
  obtain ⟨e1, e2, e3⟩ := tight_e he
  have d := sub_down r.lo s.hi fr.rlo fs.rhi
  have u := sub_up r.hi s.lo fr.rhi fs.rlo
  rw [e1] at d
  rw [e2] at u
  obtain ⟨_, _, d3, _⟩ := d.ok
  obtain ⟨_, _, u3, _⟩ := u.ok
  have m1 : (subR r s).lo = subW r.lo s.hi false := congrArg Res.lo e3
  have m2 : (subR r s).hi = subW r.hi s.lo true := congrArg Res.hi e3
  unfold HasP at h h' ⊢
  rw [m1, m2]
  have k1 : val (subW r.lo s.hi false) * P ≤ (val r.lo - val s.hi) * P := Int.mul_le_mul_of_nonneg_right (by omega) hP
  have k2 : (val r.hi - val s.lo) * P ≤ val (subW r.hi s.lo true) * P := Int.mul_le_mul_of_nonneg_right (by omega) hP
  rw [Int.sub_mul] at k1 k2
  omega
/-- A square has what the product with itself has. -/
theorem HasP.sqr {r : Res} {P T : Int} (hP : 0 ≤ P) (fr : Fit r) (h : HasP r P T) (he : (sqrR r).e = 0) : HasP (sqrR r) (SS * (P * P)) (T * T) := by
  obtain ⟨_, _, p1, p2, a1, a2⟩ := abs_facts r.lo r.hi fr.lo fr.hi fr.iv
  obtain ⟨e1, e2, e3⟩ := tight_e he
  have d := (mul_dir _ _ p1 p1 false).1 rfl
  have u := (mul_dir _ _ p2 p2 true).2 rfl
  rw [e1] at d
  rw [e2] at u
  obtain ⟨_, _, d3, _⟩ := d.ok
  obtain ⟨_, _, u3, _⟩ := u.ok
  have m1 : (sqrR r).lo = mulW (absLo r.lo r.hi) (absLo r.lo r.hi) false := congrArg Res.lo e3
  have m2 : (sqrR r).hi = mulW (absHi r.lo r.hi) (absHi r.lo r.hi) true := congrArg Res.hi e3
  have hPP : 0 ≤ P * P := Int.mul_nonneg hP hP
  have l1 := fr.le
  obtain ⟨h1, h2⟩ := h
  have b0 : 0 ≤ val (absLo r.lo r.hi) * P := Int.mul_nonneg (by rw [a1]; split <;> (try split) <;> omega) hP
  have n1 : -(val r.hi) * P = -(val r.hi * P) := Int.neg_mul _ _
  have n2 : -(val r.lo) * P = -(val r.lo * P) := Int.neg_mul _ _
  have lowT : val (absLo r.lo r.hi) * P ≤ T ∨ val (absLo r.lo r.hi) * P ≤ -T := by
    rw [a1]
    split
    · exact Or.inl h1
    · split
      · right; omega
      · rw [Int.zero_mul]; omega
  have mx1 : val r.hi * P ≤ val (absHi r.lo r.hi) * P := Int.mul_le_mul_of_nonneg_right (by rw [a2]; omega) hP
  have mx2 : -(val r.lo) * P ≤ val (absHi r.lo r.hi) * P := Int.mul_le_mul_of_nonneg_right (by rw [a2]; omega) hP
  constructor
  · rw [m1, ← Int.mul_assoc]
    refine Int.le_trans (Int.mul_le_mul_of_nonneg_right d3 hPP) ?_
    rw [quad]
    rcases lowT with g | g
    · exact Int.mul_le_mul g g b0 (by omega)
    · have := Int.mul_le_mul g g b0 (by omega)
      rw [Int.neg_mul_neg] at this; exact this
  · rw [m2, ← Int.mul_assoc]
    refine Int.le_trans ?_ (Int.mul_le_mul_of_nonneg_right u3 hPP)
    rw [quad]
    rcases Int.le_total 0 T with g | g
    · exact Int.mul_le_mul (by omega) (by omega) g (by omega)
    · have : -T * -T ≤ val (absHi r.lo r.hi) * P * (val (absHi r.lo r.hi) * P) := Int.mul_le_mul (by omega) (by omega) (by omega) (by omega)
      rw [Int.neg_mul_neg] at this; exact this

theorem down_same {s : Nat} {T : Int} {c c' : Nat} (d : Down s T c 0) (d' : Down s T c' 0) : c = c' := by
  obtain ⟨a1, a2, a3, a4⟩ := d.ok
  obtain ⟨b1, b2, b3, b4⟩ := d'.ok
  have h1 := a4 c' b1 b2 b3
  have h2 := b4 c a1 a2 a3
  exact val_inj a1 b1 a2 b2 (by omega)
theorem up_same {s : Nat} {T : Int} {c c' : Nat} (d : Up s T c 0) (d' : Up s T c' 0) : c = c' := by
  obtain ⟨a1, a2, a3, a4⟩ := d.ok
  obtain ⟨b1, b2, b3, b4⟩ := d'.ok
  have h1 := a4 c' b1 b2 b3
  have h2 := b4 c a1 a2 a3
  exact val_inj a1 b1 a2 b2 (by omega)
theorem res_ext {r s : Res} (h1 : r.e = s.e) (h2 : r.lo = s.lo) (h3 : r.hi = s.hi) : r = s := by
  cases r; cases s; simp at *; exact ⟨h1, h2, h3⟩
/-- A product the other way about is the same. -/
theorem mul_comm_R {a b : Res} (fa : Fit a) (fb : Fit b) (h : (mulR a b).e = 0) : mulR b a = mulR a b := by
  obtain ⟨T, U, R, W⟩ := mul_worth a.lo a.hi b.lo b.hi fa.lo fa.hi fb.lo fb.hi fa.iv fb.iv
  obtain ⟨T', U', R', W'⟩ := mul_worth b.lo b.hi a.lo a.hi fb.lo fb.hi fa.lo fa.hi fb.iv fa.iv
  have R2 := ranged_swap R'
  obtain ⟨g1, g2⟩ := ranged_mono R R2 (Int.le_refl _) (Int.le_refl _) (Int.le_refl _) (Int.le_refl _)
  obtain ⟨g3, g4⟩ := ranged_mono R2 R (Int.le_refl _) (Int.le_refl _) (Int.le_refl _) (Int.le_refl _)
  obtain rfl : T = T' := by omega
  obtain rfl : U = U' := by omega
  obtain ⟨d, u⟩ := W.ends h
  have h' : (mulR b a).e = 0 := W'.there ⟨_, d⟩ ⟨_, u⟩
  obtain ⟨d', u'⟩ := W'.ends h'
  exact res_ext (by rw [h, h']) (down_same d' d) (up_same u' u)
/-- A difference the other way about is turned. -/
theorem sub_turn {V W : Res} (fV : Fit V) (fW : Fit W) (h : (subR V W).e = 0) (h' : (subR W V).e = 0) : negR (subR V W) = subR W V := by
  obtain ⟨e1, e2, e3⟩ := tight_e h
  obtain ⟨g1, g2, g3⟩ := tight_e h'
  have q1 : subR V W = ⟨0, subW V.lo W.hi false, subW V.hi W.lo true⟩ := e3
  have q2 : subR W V = ⟨0, subW W.lo V.hi false, subW W.hi V.lo true⟩ := g3
  have m1 := mirror 1 _ _ _ _ _ (sub_down W.lo V.hi fW.rlo fV.rhi) (by
    have u := sub_up V.hi W.lo fV.rhi fW.rlo
    rw [show val V.hi - val W.lo = -(val W.lo - val V.hi) by omega] at u
    exact u)
  have m2 := mirror 1 _ _ _ _ _ (sub_down V.lo W.hi fV.rlo fW.rhi) (by
    have u := sub_up W.hi V.lo fW.rhi fV.rlo
    rw [show val W.hi - val V.lo = -(val V.lo - val W.hi) by omega] at u
    exact u)
  rw [q2]
  unfold negR negI
  rw [q1]
  refine res_ext rfl ?_ ?_
  · show turnW (subW V.hi W.lo true) = subW W.lo V.hi false
    rcases m1 with ⟨_, _, _, _, m⟩ | ⟨m, _⟩
    · exact m.symm
    · rw [g1] at m; exact absurd m (by decide)
  · show turnW (subW V.lo W.hi false) = subW W.hi V.lo true
    rcases m2 with ⟨_, _, m3, m4, m⟩ | ⟨m, _⟩
    · rw [m, turn_turn _ m3 m4]
    · rw [e1] at m; exact absurd m (by decide)

theorem upright (a1 a2 a3 b1 b2 b3 : Int) : (a2 * b3 - a3 * b2) * a1 + (a3 * b1 - a1 * b3) * a2 + (a1 * b2 - a2 * b1) * a3 = 0 := by grind
theorem upright2 (a1 a2 a3 b1 b2 b3 : Int) : (a2 * b3 - a3 * b2) * b1 + (a3 * b1 - a1 * b3) * b2 + (a1 * b2 - a2 * b1) * b3 = 0 := by grind
theorem lagrange (a1 a2 a3 b1 b2 b3 : Int) : (a2 * b3 - a3 * b2) * (a2 * b3 - a3 * b2) + (a3 * b1 - a1 * b3) * (a3 * b1 - a1 * b3) + (a1 * b2 - a2 * b1) * (a1 * b2 - a2 * b1) + (a1 * b1 + a2 * b2 + a3 * b3) * (a1 * b1 + a2 * b2 + a3 * b3) = (a1 * a1 + a2 * a2 + a3 * a3) * (b1 * b1 + b2 * b2 + b3 * b3) := by grind

end Go.Proofs.Ytlibfeegdjbhcaa

namespace Go.Proofs.Ytlibfeegdjbhcaa
open Go.RowKit

def okN (r g : Bool) : Bool := r && !g
set_option maxRecDepth 100000 in
set_option maxHeartbeats 2000000 in
theorem small_walk (x y z p q s : Nat) (r1 r2 r3 g1 g2 g3 : Bool) (w : World) (c1 : Hid (CalcR x r1)) (c2 : Hid (CalcR y r2)) (c3 : Hid (CalcR z r3)) (a1 : Hid (CalcAbs x p)) (a2 : Hid (CalcAbs y q)) (a3 : Hid (CalcAbs z s))
    (o1 : (FloatKind.f64.format.order p 4895412794951729152 == some Ordering.gt) = g1) (o2 : (FloatKind.f64.format.order q 4895412794951729152 == some Ordering.gt) = g2) (o3 : (FloatKind.f64.format.order s 4895412794951729152 == some Ordering.gt) = g3) :
    Calls Try.prog 6 #[.agg #[.float .f64 x, .float .f64 y, .float .f64 z]] w fun r w' => r = .returned (.bool (okN r1 g1 && okN r2 g2 && okN r3 g3)) ∧ Below w.heap.size w w' := by
  have M := Lib.hid ((Own.nil w).made #[.float .f64 x, .float .f64 y, .float .f64 z] 24)
  obtain ⟨k1, k2, k3⟩ := (M.out.nth 0 rfl).three
  have i0 : ∀ w, (Instr.index 43 (.agg #[.float .f64 x, .float .f64 y, .float .f64 z]) (.int .i64 0)).run Try.prog w = .ok (.float .f64 x) w := fun _ => by kernel_rfl
  have i1 : ∀ w, (Instr.index 43 (.agg #[.float .f64 x, .float .f64 y, .float .f64 z]) (.int .i64 1)).run Try.prog w = .ok (.float .f64 y) w := fun _ => by kernel_rfl
  have i2 : ∀ w, (Instr.index 43 (.agg #[.float .f64 x, .float .f64 y, .float .f64 z]) (.int .i64 2)).run Try.prog w = .ok (.float .f64 z) w := fun _ => by kernel_rfl
  go_enter Try.func6, Try.ntmps6
  go_wp2_with fail
  go_loop [12] (fun v => ∃ k : Nat, k ≤ 3 ∧ v = .int .i64 k ∧ (1 ≤ k → okN r1 g1 = true) ∧ (2 ≤ k → okN r2 g2 = true) ∧ (3 ≤ k → okN r3 g3 = true))
    (fun v => (4 - intOf v).toNat)
  case atStart => exact ⟨0, by omega, rfl, by omega, by omega, by omega⟩
  case round =>
    obtain ⟨k, hk, rfl, h1, h2, h3⟩ := hrel
    have h1 := Lib.hid h1
    have h2 := Lib.hid h2
    have h3 := Lib.hid h3
    rcases (show k = 0 ∨ k = 1 ∨ k = 2 ∨ k = 3 by omega) with rfl | rfl | rfl | rfl
    · clear hk
      go_wp2_with fail
      refine (c1.out _).mono ?_
      rintro r ww ⟨rfl, rfl⟩
      cases r1
      · go_wp2
        go_ret
        exact ⟨rfl, M.out.base⟩
      · go_wp2_with fail
        refine (a1.out _).mono ?_
        rintro r ww ⟨rfl, rfl⟩
        cases g1
        · go_wp2
          go_round
          case rel => exact ⟨1, by omega, rfl, fun _ => rfl, by omega, by omega⟩
          case measure => decide
        · go_wp2
          go_ret
          exact ⟨rfl, M.out.base⟩
    · clear hk
      go_wp2_with fail
      refine (c2.out _).mono ?_
      rintro r ww ⟨rfl, rfl⟩
      cases r2
      · go_wp2
        go_ret
        exact ⟨by (have e1 := h1.out (by decide); simp only [e1]; rfl), M.out.base⟩
      · go_wp2_with fail
        refine (a2.out _).mono ?_
        rintro r ww ⟨rfl, rfl⟩
        cases g2
        · go_wp2
          go_round
          case rel => exact ⟨2, by omega, rfl, fun _ => h1.out (by decide), fun _ => rfl, by omega⟩
          case measure => decide
        · go_wp2
          go_ret
          exact ⟨by (have e1 := h1.out (by decide); simp only [e1]; rfl), M.out.base⟩
    · clear hk
      go_wp2_with fail
      refine (c3.out _).mono ?_
      rintro r ww ⟨rfl, rfl⟩
      cases r3
      · go_wp2
        go_ret
        exact ⟨by (have e1 := h1.out (by decide); have e2 := h2.out (by decide); simp only [e1, e2]; rfl), M.out.base⟩
      · go_wp2_with fail
        refine (a3.out _).mono ?_
        rintro r ww ⟨rfl, rfl⟩
        cases g3
        · go_wp2
          go_round
          case rel => exact ⟨3, by omega, rfl, fun _ => h1.out (by decide), fun _ => h2.out (by decide), fun _ => rfl⟩
          case measure => decide
        · go_wp2
          go_ret
          exact ⟨by (have e1 := h1.out (by decide); have e2 := h2.out (by decide); simp only [e1, e2]; rfl), M.out.base⟩
    · clear hk
      go_wp2
      go_ret
      exact ⟨rfl, M.out.base⟩

def smallN (x : Nat) : Bool := okN (rightB x) (FloatKind.f64.format.order (rung x) 4895412794951729152 == some Ordering.gt)
theorem small_any (x y z : Nat) (w : World) (lx : x < 18446744073709551616) (ly : y < 18446744073709551616) (lz : z < 18446744073709551616) :
    Calls Try.prog 6 #[.agg #[.float .f64 x, .float .f64 y, .float .f64 z]] w fun r w' => r = .returned (.bool (smallN x && smallN y && smallN z)) ∧ Below w.heap.size w w' :=
  small_walk x y z (rung x) (rung y) (rung z) _ _ _ _ _ _ w (Lib.hid fun w => right_any x w lx) (Lib.hid fun w => right_any y w ly) (Lib.hid fun w => right_any z w lz) (Lib.hid fun w => abs_any x w lx) (Lib.hid fun w => abs_any y w ly) (Lib.hid fun w => abs_any z w lz) rfl rfl rfl

end Go.Proofs.Ytlibfeegdjbhcaa

namespace Go.Proofs.Ytlibfeegdjbhcaa
open Go.RowKit

theorem neg_num (r : Nat) (h1 : 1 ≤ r) (h2 : r < 9218868437227405312) : 9223372036854775808 + r < 18446744073709551616 ∧ rightB (9223372036854775808 + r) = true ∧ val (9223372036854775808 + r) = -(steps r : Int) := by
  obtain ⟨f1, f2, f3⟩ := sw_facts true r (by omega)
  rw [sw_true r (by omega)] at f1 f2 f3
  exact ⟨f1, f2, f3⟩

theorem num_nat (m k : Nat) (hm : m ≤ 9007199254740992) (k1 : 53 ≤ k) (k2 : k ≤ 1899) : ∃ r, r < 9218868437227405312 ∧ steps r = m * 2 ^ k := by
  rcases Nat.lt_or_ge m 9007199254740992 with g | g
  · exact num_at m k g k1 (by omega)
  · obtain rfl : m = 9007199254740992 := by omega
    obtain ⟨r, hr, e⟩ := num_at 4503599627370496 (k + 1) (by decide) (by omega) (by omega)
    refine ⟨r, hr, ?_⟩
    rw [e, Nat.pow_succ]; omega
/-- Whole numbers up to 2^53, of either sign, times a power of two. -/
theorem num_int (q : Int) (k : Nat) (h1 : -9007199254740992 ≤ q) (h2 : q ≤ 9007199254740992) (k1 : 53 ≤ k) (k2 : k ≤ 1899) : ∃ d, d < 18446744073709551616 ∧ rightB d = true ∧ val d = q * ((2 ^ k : Nat) : Int) := by
  rcases Int.lt_or_le 0 (-q) with g | g
  · obtain ⟨m, hm⟩ : ∃ m : Nat, -q = (m : Int) := ⟨(-q).toNat, by omega⟩
    obtain ⟨r, hr, e⟩ := num_nat m k (by omega) k1 k2
    have hr1 : 1 ≤ r := by
      rcases Nat.eq_zero_or_pos r with z | z
      · subst z
        have : m * 2 ^ k = 0 := by rw [← e]; rfl
        have hp := Nat.two_pow_pos k
        have := Nat.mul_pos (show 0 < m by omega) hp
        omega
      · exact z
    obtain ⟨f1, f2, f3⟩ := neg_num r hr1 hr
    refine ⟨_, f1, f2, ?_⟩
    rw [f3, e, Int.natCast_mul, ← hm, Int.neg_mul, Int.neg_neg]
  · obtain ⟨m, hm⟩ : ∃ m : Nat, q = (m : Int) := ⟨q.toNat, by omega⟩
    obtain ⟨r, hr, e⟩ := num_nat m k (by omega) k1 k2
    obtain ⟨f1, f2, _, _, f3⟩ := pos_facts r hr
    refine ⟨r, f1, f2, ?_⟩
    rw [f3, e, Int.natCast_mul, ← hm]

section
variable {s : Nat} {T : Int} {c k : Nat} (k1 : 53 ≤ k) (k2 : k ≤ 1899) (hs : 0 < s)
include k1 k2 hs
/-- A result that was rounded down is less than a spacing below the real one. -/
theorem down_gap (h : Down s T c 0) (h1 : -9007199254740992 * ((2 ^ k : Nat) : Int) ≤ val c) (h2 : val c < 9007199254740992 * ((2 ^ k : Nat) : Int)) : T < (val c + ((2 ^ k : Nat) : Int)) * s := by
  obtain ⟨_, _, _, best⟩ := h.ok
  obtain ⟨P, hP⟩ : ∃ P : Int, P = ((2 ^ k : Nat) : Int) := ⟨_, rfl⟩
  have p0 : 0 < P := by rw [hP]; exact Int.natCast_pos.2 (Nat.two_pow_pos k)
  rw [← hP] at h1 h2 ⊢
  have s0 : (0 : Int) < s := Int.natCast_pos.2 hs
  obtain ⟨q, hq⟩ : ∃ q : Int, q = val c / P := ⟨_, rfl⟩
  have q1 : q * P ≤ val c := by rw [hq]; exact Int.ediv_mul_le _ (Int.ne_of_gt p0)
  have q2 : val c < (q + 1) * P := by rw [hq]; exact Int.lt_ediv_add_one_mul_self _ p0
  have g1 : -9007199254740992 ≤ q := by rw [hq, Int.le_ediv_iff_mul_le p0]; exact h1
  have g2 : q < 9007199254740992 := by rw [hq, Int.ediv_lt_iff_lt_mul p0]; exact h2
  obtain ⟨d, d1, d2, d3⟩ := num_int (q + 1) k (by omega) (by omega) k1 k2
  rw [← hP] at d3
  rcases Int.lt_or_le T ((val c + P) * s) with g | g
  · exact g
  · have h3 : val d * (s : Int) ≤ T := by
      refine Int.le_trans (Int.mul_le_mul_of_nonneg_right ?_ (Int.le_of_lt s0)) g
      rw [d3, Int.add_mul, Int.one_mul]; omega
    have := best d d1 d2 h3
    omega
/-- A result that was rounded up is less than a spacing above the real one. -/
theorem up_gap (h : Up s T c 0) (h1 : -9007199254740992 * ((2 ^ k : Nat) : Int) < val c) (h2 : val c ≤ 9007199254740992 * ((2 ^ k : Nat) : Int)) : (val c - ((2 ^ k : Nat) : Int)) * s < T := by
  obtain ⟨_, _, _, best⟩ := h.ok
  obtain ⟨P, hP⟩ : ∃ P : Int, P = ((2 ^ k : Nat) : Int) := ⟨_, rfl⟩
  have p0 : 0 < P := by rw [hP]; exact Int.natCast_pos.2 (Nat.two_pow_pos k)
  rw [← hP] at h1 h2 ⊢
  have s0 : (0 : Int) < s := Int.natCast_pos.2 hs
  obtain ⟨q, hq⟩ : ∃ q : Int, q = (val c - 1) / P := ⟨_, rfl⟩
  have q1 : q * P ≤ val c - 1 := by rw [hq]; exact Int.ediv_mul_le _ (Int.ne_of_gt p0)
  have q2 : val c - 1 < (q + 1) * P := by rw [hq]; exact Int.lt_ediv_add_one_mul_self _ p0
  have g1 : -9007199254740992 ≤ q := by rw [hq, Int.le_ediv_iff_mul_le p0]; omega
  have g2 : q < 9007199254740992 := by rw [hq, Int.ediv_lt_iff_lt_mul p0]; omega
  obtain ⟨d, d1, d2, d3⟩ := num_int q k g1 (by omega) k1 k2
  rw [← hP] at d3
  rcases Int.lt_or_le ((val c - P) * s) T with g | g
  · exact g
  · have h3 : T ≤ val d * (s : Int) := by
      refine Int.le_trans g (Int.mul_le_mul_of_nonneg_right ?_ (Int.le_of_lt s0))
      rw [d3]
      rw [Int.add_mul, Int.one_mul] at q2
      omega
    have := best d d1 d2 h3
    omega
end

end Go.Proofs.Ytlibfeegdjbhcaa

namespace Go.Proofs.Ytlibfeegdjbhcaa
open Go.RowKit

def boxS : Res := ⟨0, 14118784831806504960, 4895412794951729152⟩
def boxP : Res := ⟨0, 4318952042648305664, 4895412794951729152⟩
def boxM : Res := ⟨0, 14118784831806504960, 13542324079503081472⟩
theorem boxS_fit : Fit boxS := .of (by decide +kernel)
theorem boxP_fit : Fit boxP := .of (by decide +kernel)
theorem boxM_fit : Fit boxM := .of (by decide +kernel)
theorem unit_box {A : V3} (fA : FitV A) (h : (normV 0 A).e = 0) (hd : (divR boxS (normV 0 A)).e = 0) {x y z : Nat} (i : InV (at3 x y z) A) (wx : In (oneR x) boxS) (wy : In (oneR y) boxS) (wz : In (oneR z) boxS) :
    Fit (unitN x y z) ∧ Fit (divR (oneR x) (unitN x y z)) ∧ Fit (divR (oneR y) (unitN x y z)) ∧ Fit (divR (oneR z) (unitN x y z)) := by
  obtain ⟨fN, iN⟩ := normV_in h rfl i fA
  exact ⟨iN.fit, (div_in wx boxS_fit iN fN hd).fit, (div_in wy boxS_fit iN fN hd).fit, (div_in wz boxS_fit iN fN hd).fit⟩
theorem val_side {x : Nat} (rx : rightB x = true) : 0 ≤ val (rung x) ∧ (val x = val (rung x) ∨ val x = -val (rung x)) := by
  obtain ⟨_, _, _, _, p5⟩ := pos_facts (rung x) (right_rung x rx)
  rw [p5]
  refine ⟨by omega, ?_⟩
  cases hs : sgnB x
  · exact Or.inl (val_pos hs)
  · exact Or.inr (val_negs hs)
theorem bigs : val 14118784831806504960 = -val 4895412794951729152 ∧ val 13542324079503081472 = -val 4318952042648305664 ∧ 0 < val 4318952042648305664 := by decide +kernel
theorem in_S {x : Nat} (lx : x < 18446744073709551616) (rx : rightB x = true) (h : val (rung x) ≤ val 4895412794951729152) : In (oneR x) boxS := by
  obtain ⟨s1, s2⟩ := val_side rx
  obtain ⟨b1, b2, b3⟩ := bigs
  refine ⟨one_fit lx rx, ?_, ?_⟩
  · show val 14118784831806504960 ≤ val x
    rw [b1]; omega
  · show val x ≤ val 4895412794951729152
    omega
theorem in_PM {x : Nat} (lx : x < 18446744073709551616) (rx : rightB x = true) (h : val (rung x) ≤ val 4895412794951729152) (g : val 4318952042648305664 ≤ val (rung x)) : In (oneR x) boxP ∨ In (oneR x) boxM := by
  obtain ⟨s1, s2⟩ := val_side rx
  obtain ⟨b1, b2, b3⟩ := bigs
  rcases s2 with s | s
  · refine Or.inl ⟨one_fit lx rx, ?_, ?_⟩
    · show val 4318952042648305664 ≤ val x
      omega
    · show val x ≤ val 4895412794951729152
      omega
  · refine Or.inr ⟨one_fit lx rx, ?_, ?_⟩
    · show val 14118784831806504960 ≤ val x
      rw [b1]; omega
    · show val x ≤ val 13542324079503081472
      rw [b2]; omega
theorem most_val {x y z : Nat} (h1 : rightB x = true) (h2 : rightB y = true) (h3 : rightB z = true) : mostW x y z < 18446744073709551616 ∧ rightB (mostW x y z) = true ∧ val (mostW x y z) = max (max (val (rung x)) (val (rung y))) (val (rung z)) := by
  obtain ⟨p1, p2⟩ := rung_right x h1
  obtain ⟨q1, q2⟩ := rung_right y h2
  obtain ⟨s1, s2⟩ := rung_right z h3
  obtain ⟨m1, m2, m3⟩ := max_facts _ _ p1 q1 p2 q2
  obtain ⟨n1, n2, n3⟩ := max_facts _ _ m1 s1 m2 s2
  refine ⟨n1, n2, ?_⟩
  show val (maxW (maxW (rung x) (rung y)) (rung z)) = _
  rw [n3, m3]
theorem unit_fits (x y z : Nat) (lx : x < 18446744073709551616) (ly : y < 18446744073709551616) (lz : z < 18446744073709551616) (hU : hasU x y z = true) :
    Fit (unitN x y z) ∧ Fit (divR (oneR x) (unitN x y z)) ∧ Fit (divR (oneR y) (unitN x y z)) ∧ Fit (divR (oneR z) (unitN x y z)) := by
  unfold hasU leB at hU
  simp only [Bool.and_eq_true, decide_eq_true_eq] at hU
  obtain ⟨⟨⟨h1, h2⟩, h3⟩, g1, g2⟩ := hU
  obtain ⟨_, _, mv⟩ := most_val h1 h2 h3
  rw [mv] at g1 g2
  have wx := in_S lx h1 (by omega)
  have wy := in_S ly h2 (by omega)
  have wz := in_S lz h3 (by omega)
  have big : val 4318952042648305664 ≤ val (rung x) ∨ val 4318952042648305664 ≤ val (rung y) ∨ val 4318952042648305664 ≤ val (rung z) := by omega
  rcases big with g | g | g
  · rcases in_PM lx h1 (by omega) g with i | i
    · exact unit_box (A := ⟨boxP, boxS, boxS⟩) ⟨boxP_fit, boxS_fit, boxS_fit⟩ (by decide +kernel) (by decide +kernel) ⟨i, wy, wz⟩ wx wy wz
    · exact unit_box (A := ⟨boxM, boxS, boxS⟩) ⟨boxM_fit, boxS_fit, boxS_fit⟩ (by decide +kernel) (by decide +kernel) ⟨i, wy, wz⟩ wx wy wz
  · rcases in_PM ly h2 (by omega) g with i | i
    · exact unit_box (A := ⟨boxS, boxP, boxS⟩) ⟨boxS_fit, boxP_fit, boxS_fit⟩ (by decide +kernel) (by decide +kernel) ⟨wx, i, wz⟩ wx wy wz
    · exact unit_box (A := ⟨boxS, boxM, boxS⟩) ⟨boxS_fit, boxM_fit, boxS_fit⟩ (by decide +kernel) (by decide +kernel) ⟨wx, i, wz⟩ wx wy wz
  · rcases in_PM lz h3 (by omega) g with i | i
    · exact unit_box (A := ⟨boxS, boxS, boxP⟩) ⟨boxS_fit, boxS_fit, boxP_fit⟩ (by decide +kernel) (by decide +kernel) ⟨wx, wy, i⟩ wx wy wz
    · exact unit_box (A := ⟨boxS, boxS, boxM⟩) ⟨boxS_fit, boxS_fit, boxM_fit⟩ (by decide +kernel) (by decide +kernel) ⟨wx, wy, i⟩ wx wy wz

end Go.Proofs.Ytlibfeegdjbhcaa

namespace Go.Proofs.Ytlibfeegdjbhcaa
open Go.RowKit

theorem add_parts {r s : Res} (fr : Fit r) (fs : Fit s) (he : (addR r s).e = 0) : Down 1 (val r.lo + val s.lo) (addR r s).lo 0 ∧ Up 1 (val r.hi + val s.hi) (addR r s).hi 0 := by
  obtain ⟨e1, e2, e3⟩ := tight_e he
  have d := add_down r.lo s.lo fr.rlo fs.rlo
  have u := add_up r.hi s.hi fr.rhi fs.rhi
  rw [e1] at d
  rw [e2] at u
  have m1 : (addR r s).lo = addW r.lo s.lo false := congrArg Res.lo e3
  have m2 : (addR r s).hi = addW r.hi s.hi true := congrArg Res.hi e3
  rw [m1, m2]
  exact ⟨d, u⟩
/-- The least and the greatest size of what an interval has. -/
theorem sqr_parts {r : Res} (fr : Fit r) (he : (sqrR r).e = 0) : ∃ m M : Int, m = (if 0 ≤ val r.lo then val r.lo else if val r.hi ≤ 0 then -val r.hi else 0) ∧ M = max (val r.hi) (-val r.lo) ∧ 0 ≤ m ∧ m ≤ M ∧
    Down (2 ^ sq) (m * m) (sqrR r).lo 0 ∧ Up (2 ^ sq) (M * M) (sqrR r).hi 0 := by
  obtain ⟨_, _, p1, p2, a1, a2⟩ := abs_facts r.lo r.hi fr.lo fr.hi fr.iv
  obtain ⟨e1, e2, e3⟩ := tight_e he
  have d := (mul_dir _ _ p1 p1 false).1 rfl
  have u := (mul_dir _ _ p2 p2 true).2 rfl
  rw [e1] at d
  rw [e2] at u
  have m1 : (sqrR r).lo = mulW (absLo r.lo r.hi) (absLo r.lo r.hi) false := congrArg Res.lo e3
  have m2 : (sqrR r).hi = mulW (absHi r.lo r.hi) (absHi r.lo r.hi) true := congrArg Res.hi e3
  rw [m1, m2]
  have l1 := fr.le
  refine ⟨val (absLo r.lo r.hi), val (absHi r.lo r.hi), a1, a2, ?_, ?_, d, u⟩
  · rw [a1]; split <;> (try split) <;> omega
  · rw [a1, a2]; split <;> (try split) <;> omega
theorem sqr_one {x : Nat} (lx : x < 18446744073709551616) (rx : rightB x = true) (he : (sqrR (oneR x)).e = 0) : Down (2 ^ sq) (val x * val x) (sqrR (oneR x)).lo 0 ∧ Up (2 ^ sq) (val x * val x) (sqrR (oneR x)).hi 0 := by
  obtain ⟨m, M, h1, h2, _, _, d, u⟩ := sqr_parts (one_fit lx rx) he
  have h1' : m = (if 0 ≤ val x then val x else if val x ≤ 0 then -val x else 0) := h1
  have h2' : M = max (val x) (-val x) := h2
  rcases Int.le_total 0 (val x) with g | g
  · rw [if_pos g] at h1'
    have : M = val x := by omega
    rw [h1'] at d
    rw [this] at u
    exact ⟨d, u⟩
  · have e1 : m = -val x := by rw [h1']; split <;> (try split) <;> omega
    have e2 : M = -val x := by omega
    rw [e1, Int.neg_mul_neg] at d
    rw [e2, Int.neg_mul_neg] at u
    exact ⟨d, u⟩

theorem word_val {x : Nat} (hx : x ≤ 9218868437227405311) : x < 18446744073709551616 ∧ rightB x = true ∧ val x = (steps x : Int) := by
  have h := sw_facts false x hx
  rw [sw_false] at h
  exact h
/-- A root: the greatest number whose square is not above, and the least one whose square is not below. -/
theorem sqrt_parts {r : Res} (fr : Fit r) (he : (sqrtR r).e = 0) : 0 ≤ val r.lo ∧
    (0 ≤ val (sqrtR r).lo ∧ val (sqrtR r).lo * val (sqrtR r).lo ≤ val r.lo * SS ∧ ∀ d, d < 18446744073709551616 → rightB d = true → 0 ≤ val d → val d * val d ≤ val r.lo * SS → val d ≤ val (sqrtR r).lo) ∧
    (0 ≤ val (sqrtR r).hi ∧ val r.hi * SS ≤ val (sqrtR r).hi * val (sqrtR r).hi ∧ ∀ d, d < 18446744073709551616 → rightB d = true → 0 ≤ val d → val r.hi * SS ≤ val d * val d → val (sqrtR r).hi ≤ val d) := by
  have he' : (sqrtI r.lo r.hi).e = 0 := he
  have hn : ltB r.lo 0 = false := by
    cases h : ltB r.lo 0
    · rfl
    · unfold sqrtI at he'; rw [if_pos h] at he'; exact absurd he' (by decide)
  have hv : 0 ≤ val r.lo := by
    unfold ltB at hn; rw [val_nil] at hn; simp at hn; exact hn
  have l1 := fr.le
  have sa := (sgn_of_val r.lo fr.lo fr.rlo).1 hv
  have sh := (sgn_of_val r.hi fr.hi fr.rhi).1 (by omega)
  obtain ⟨p1, p2, p3, _⟩ := sqrt_rungs r.lo fr.rlo sa false
  obtain ⟨q1, q2, _, q4⟩ := sqrt_rungs r.hi fr.rhi sh true
  have e1 : sqrtR r = ⟨0, sqrtW r.lo false, sqrtW r.hi true⟩ := by
    show sqrtI r.lo r.hi = _
    unfold sqrtI tightR; rw [if_neg (by rw [hn]; exact Bool.false_ne_true), if_pos p1, if_pos q1]
  obtain ⟨w1, w2, w3⟩ := word_val p2
  obtain ⟨z1, z2, z3⟩ := word_val q2
  have va := val_pos sa
  have vh := val_pos sh
  have p3' := p3 rfl
  have q4' := q4 rfl
  have SSe : SS = ((2 ^ sq : Nat) : Int) := rfl
  rw [e1]
  refine ⟨hv, ⟨?_, ?_, ?_⟩, ⟨?_, ?_, ?_⟩⟩
  · show 0 ≤ val (sqrtW r.lo false)
    omega
  · show val (sqrtW r.lo false) * val (sqrtW r.lo false) ≤ val r.lo * SS
    have h := (p3' _).2 (Nat.le_refl _)
    rw [w3, va, SSe, ← Int.natCast_mul, ← Int.natCast_mul]
    exact Int.ofNat_le.2 h
  · intro d d1 d2 d3 d4
    show val d ≤ val (sqrtW r.lo false)
    have hd := pos_word d d1 d2 d3
    obtain ⟨_, _, _, _, vd⟩ := pos_facts d hd
    rw [vd, va, SSe, ← Int.natCast_mul, ← Int.natCast_mul] at d4
    rw [vd, w3]
    exact Int.ofNat_le.2 (steps_le ((p3' d).1 (Int.ofNat_le.1 d4)))
  · show 0 ≤ val (sqrtW r.hi true)
    omega
  · show val r.hi * SS ≤ val (sqrtW r.hi true) * val (sqrtW r.hi true)
    have h := (q4' _).2 (Nat.le_refl _)
    rw [z3, vh, SSe, ← Int.natCast_mul, ← Int.natCast_mul]
    exact Int.ofNat_le.2 h
  · intro d d1 d2 d3 d4
    show val (sqrtW r.hi true) ≤ val d
    have hd := pos_word d d1 d2 d3
    obtain ⟨_, _, _, _, vd⟩ := pos_facts d hd
    rw [vd, vh, SSe, ← Int.natCast_mul, ← Int.natCast_mul] at d4
    rw [vd, z3]
    exact Int.ofNat_le.2 (steps_le ((q4' d).1 (Int.ofNat_le.1 d4)))

/-- A number by an interval above 0. -/
theorem div_parts {x : Nat} {n : Res} (rx : rightB x = true) (fn : Fit n) (hn : 0 < val n.lo) (he : (divR (oneR x) n).e = 0) :
    ∃ s t : Nat, 0 < s ∧ 0 < t ∧ (s : Int) = (if 0 ≤ val x then val n.hi else val n.lo) ∧ (t : Int) = (if 0 ≤ val x then val n.lo else val n.hi) ∧
      Down s (val x * SS) (divR (oneR x) n).lo 0 ∧ Up t (val x * SS) (divR (oneR x) n).hi 0 := by
  have l1 := fn.le
  have hz : hasB n.lo n.hi 0 = false := by
    rw [has_zero fn.lo fn.hi fn.iv]; exact decide_eq_false (by omega)
  have eI : divR (oneR x) n = div1 x x n.lo n.hi := by
    show divI x x n.lo n.hi = _
    unfold divI; rw [if_neg (by rw [hz]; exact Bool.false_ne_true)]
  rw [eI] at he
  have el : lowOf x x n.lo = x := by unfold lowOf; split <;> rfl
  have eh : highOf x x n.lo = x := by unfold highOf; split <;> rfl
  obtain ⟨e1, e2, e3⟩ := tight_e he
  rw [el] at e1
  rw [eh] at e2
  have m1 : (divR (oneR x) n).lo = divW (lowOf x x n.lo) (endW n.lo n.hi (leB 0 (lowOf x x n.lo))) false := by rw [eI]; exact congrArg Res.lo e3
  have m2 : (divR (oneR x) n).hi = divW (highOf x x n.lo) (endW n.lo n.hi (ltB (highOf x x n.lo) 0)) true := by rw [eI]; exact congrArg Res.hi e3
  rw [el] at m1
  rw [eh] at m2
  rw [m1, m2]
  have b1 : leB 0 x = decide (0 ≤ val x) := by unfold leB; rw [val_nil]
  have b2 : ltB x 0 = decide (val x < 0) := by unfold ltB; rw [val_nil]
  rcases Int.lt_or_le (val x) 0 with g | g
  · rw [b1, decide_eq_false (by omega)] at e1 ⊢
    rw [b2, decide_eq_true g] at e2 ⊢
    obtain ⟨s, s1, s2, s3, _⟩ := div_pos x n.lo rx fn.lo fn.rlo hn false
    obtain ⟨t, t1, t2, _, t4⟩ := div_pos x n.hi rx fn.hi fn.rhi (by omega) true
    have d := s3 rfl
    have u := t4 rfl
    have e1' : divE x n.lo false = 0 := e1
    have e2' : divE x n.hi true = 0 := e2
    rw [e1'] at d
    rw [e2'] at u
    exact ⟨s, t, s1, t1, by rw [if_neg (by omega)]; exact s2, by rw [if_neg (by omega)]; exact t2, d, u⟩
  · rw [b1, decide_eq_true g] at e1 ⊢
    rw [b2, decide_eq_false (by omega)] at e2 ⊢
    obtain ⟨s, s1, s2, s3, _⟩ := div_pos x n.hi rx fn.hi fn.rhi (by omega) false
    obtain ⟨t, t1, t2, _, t4⟩ := div_pos x n.lo rx fn.lo fn.rlo hn true
    have d := s3 rfl
    have u := t4 rfl
    have e1' : divE x n.hi false = 0 := e1
    have e2' : divE x n.lo true = 0 := e2
    rw [e1'] at d
    rw [e2'] at u
    exact ⟨s, t, s1, t1, by rw [if_pos g]; exact s2, by rw [if_pos g]; exact t2, d, u⟩

/-- The steps of a length. -/
theorem norm_parts {A : V3} (h : (normV 0 A).e = 0) :
    (sqrR A.x).e = 0 ∧ (sqrR A.y).e = 0 ∧ (sqrR A.z).e = 0 ∧ (addR (sqrR A.x) (sqrR A.y)).e = 0 ∧ (addR (addR (sqrR A.x) (sqrR A.y)) (sqrR A.z)).e = 0 ∧ (sqrtR (addR (addR (sqrR A.x) (sqrR A.y)) (sqrR A.z))).e = 0 ∧
      normV 0 A = sqrtR (addR (addR (sqrR A.x) (sqrR A.y)) (sqrR A.z)) := by
  obtain ⟨h5, _, q6⟩ := st_none (show (stR (nrm5 0 A).e (nrm5 0 A)).e = 0 from h)
  obtain ⟨h4, _, q5⟩ := st_none (show (stA (nrm4 0 A).e (nrm3 0 A) (nrm4 0 A)).e = 0 from h5)
  obtain ⟨h3, _, q4⟩ := st_none (show (stQ (nrm3 0 A).e A.z).e = 0 from h4)
  obtain ⟨h2, _, q3⟩ := st_none (show (stA (nrm2 0 A).e (nrm1 0 A) (nrm2 0 A)).e = 0 from h3)
  obtain ⟨h1, _, q2⟩ := st_none (show (stQ (nrm1 0 A).e A.y).e = 0 from h2)
  obtain ⟨_, _, q1⟩ := st_none (show (stQ 0 A.x).e = 0 from h1)
  have k1 : nrm1 0 A = sqrR A.x := q1
  have k2 : nrm2 0 A = sqrR A.y := q2
  have k3 : nrm3 0 A = addR (nrm1 0 A) (nrm2 0 A) := q3
  have k4 : nrm4 0 A = sqrR A.z := q4
  have k5 : nrm5 0 A = addR (nrm3 0 A) (nrm4 0 A) := q5
  have k6 : normV 0 A = sqrtR (nrm5 0 A) := q6
  rw [k1, k2] at k3
  rw [k3, k4] at k5
  rw [k5] at k6
  rw [k1] at h1
  rw [k2] at h2
  rw [k3] at h3
  rw [k4] at h4
  rw [k5] at h5
  rw [k6] at h
  exact ⟨h1, h2, h4, h3, h5, h, k6⟩

end Go.Proofs.Ytlibfeegdjbhcaa

namespace Go.Proofs.Ytlibfeegdjbhcaa
open Go.RowKit

theorem self_nonneg (x : Int) : 0 ≤ x * x := by
  rcases Int.le_total 0 x with g | g
  · exact Int.mul_nonneg g g
  · rw [← Int.neg_mul_neg]; exact Int.mul_nonneg (by omega) (by omega)

theorem gap_roots {a b G : Int} (hG : 0 < G) (ha : 4503599627370495 * G ≤ a) (hb : 0 ≤ b) (h : a * a < b * b + 90071992547409920 * (G * G)) : a - b < 11 * G := by
  rcases Int.lt_or_le (a - b) (11 * G) with g | g
  · exact g
  · exfalso
    have h1 : b * b ≤ (a - 11 * G) * (a - 11 * G) := Int.mul_le_mul (by omega) (by omega) hb (by omega)
    have h2 : (a - 11 * G) * (a - 11 * G) = a * a - 22 * (a * G) + 121 * (G * G) := by grind
    have h3 : 4503599627370495 * G * G ≤ a * G := Int.mul_le_mul_of_nonneg_right ha (by omega)
    rw [Int.mul_assoc] at h3
    have h4 : 0 < G * G := Int.mul_pos hG hG
    rw [h2] at h1
    generalize a * G = u at *
    generalize a * a = aa at *
    generalize b * b = bb at *
    generalize G * G = gg at *
    omega

theorem sqr_fit {r : Res} (f : Fit r) (he : (sqrR r).e = 0) : Fit (sqrR r) := (sqr_in (.refl f) f he).fit
theorem add_fit {r s : Res} (f : Fit r) (g : Fit s) (he : (addR r s).e = 0) : Fit (addR r s) := (add_in (.refl f) f (.refl g) g he).fit

/-- The length of what is within has squares from the least ones' sum to the greatest ones'. -/
theorem norm_squares {A : V3} (fA : FitV A) (h : (normV 0 A).e = 0) {a b c a' b' c' : Int} (ha : val (sqrR A.x).lo * SS ≤ a) (hb : val (sqrR A.y).lo * SS ≤ b) (hc : val (sqrR A.z).lo * SS ≤ c)
    (ha' : a' ≤ val (sqrR A.x).hi * SS) (hb' : b' ≤ val (sqrR A.y).hi * SS) (hc' : c' ≤ val (sqrR A.z).hi * SS) :
    0 ≤ val (normV 0 A).lo ∧ val (normV 0 A).lo * val (normV 0 A).lo ≤ a + b + c ∧ a' + b' + c' ≤ val (normV 0 A).hi * val (normV 0 A).hi := by
  obtain ⟨e1, e2, e3, e4, e5, e6, eN⟩ := norm_parts h
  have f1 := sqr_fit fA.x e1
  have f2 := sqr_fit fA.y e2
  have f3 := sqr_fit fA.z e3
  have f4 := add_fit f1 f2 e4
  have f5 := add_fit f4 f3 e5
  obtain ⟨d4, u4⟩ := add_parts f1 f2 e4
  obtain ⟨d5, u5⟩ := add_parts f4 f3 e5
  obtain ⟨_, ⟨n1, n2, _⟩, ⟨_, n5, _⟩⟩ := sqrt_parts f5 e6
  obtain ⟨_, _, d4, _⟩ := d4.ok
  obtain ⟨_, _, u4, _⟩ := u4.ok
  obtain ⟨_, _, d5, _⟩ := d5.ok
  obtain ⟨_, _, u5, _⟩ := u5.ok
  rw [eN]
  refine ⟨n1, Int.le_trans n2 ?_, Int.le_trans ?_ n5⟩
  · have := Int.mul_le_mul_of_nonneg_right (show val (addR (addR (sqrR A.x) (sqrR A.y)) (sqrR A.z)).lo ≤ val (sqrR A.x).lo + val (sqrR A.y).lo + val (sqrR A.z).lo by omega) ss_pos
    rw [Int.add_mul, Int.add_mul] at this
    omega
  · have := Int.mul_le_mul_of_nonneg_right (show val (sqrR A.x).hi + val (sqrR A.y).hi + val (sqrR A.z).hi ≤ val (addR (addR (sqrR A.x) (sqrR A.y)) (sqrR A.z)).hi by omega) ss_pos
    rw [Int.add_mul, Int.add_mul] at this
    omega

/-- A root's ends, with numbers between them G apart at most. -/
theorem root_gaps {r : Res} (fr : Fit r) (he : (sqrtR r).e = 0) {k : Nat} (k1 : 53 ≤ k) (k2 : k ≤ 1899) {G : Int} (hG : G = ((2 ^ k : Nat) : Int)) (h1 : G ≤ val (sqrtR r).hi) (h2 : val (sqrtR r).hi < 9007199254740992 * G) (h3 : val (sqrtR r).lo < 9007199254740992 * G) :
    (val (sqrtR r).hi - G) * (val (sqrtR r).hi - G) < val r.hi * SS ∧ val r.lo * SS < (val (sqrtR r).lo + G) * (val (sqrtR r).lo + G) := by
  obtain ⟨_, ⟨n1, _, n3⟩, ⟨n4, _, n6⟩⟩ := sqrt_parts fr he
  have p0 : 0 < G := by rw [hG]; exact Int.natCast_pos.2 (Nat.two_pow_pos k)
  constructor
  · obtain ⟨q, hq⟩ : ∃ q : Int, q = (val (sqrtR r).hi - 1) / G := ⟨_, rfl⟩
    have q1 : q * G ≤ val (sqrtR r).hi - 1 := by rw [hq]; exact Int.ediv_mul_le _ (Int.ne_of_gt p0)
    have q2 : val (sqrtR r).hi - 1 < (q + 1) * G := by rw [hq]; exact Int.lt_ediv_add_one_mul_self _ p0
    have g1 : 0 ≤ q := by rw [hq]; exact Int.ediv_nonneg (by omega) (by omega)
    have g2 : q < 9007199254740992 := by rw [hq, Int.ediv_lt_iff_lt_mul p0]; omega
    obtain ⟨d, d1, d2, d3⟩ := num_int q k (by omega) (by omega) k1 k2
    rw [← hG] at d3
    rw [Int.add_mul, Int.one_mul] at q2
    have dn : 0 ≤ val d := by rw [d3]; exact Int.mul_nonneg g1 (by omega)
    rcases Int.lt_or_le (val d * val d) (val r.hi * SS) with g | g
    · exact Int.lt_of_le_of_lt (Int.mul_le_mul (by omega) (by omega) (by omega) dn) g
    · have := n6 d d1 d2 dn g
      omega
  · obtain ⟨q, hq⟩ : ∃ q : Int, q = val (sqrtR r).lo / G := ⟨_, rfl⟩
    have q1 : q * G ≤ val (sqrtR r).lo := by rw [hq]; exact Int.ediv_mul_le _ (Int.ne_of_gt p0)
    have q2 : val (sqrtR r).lo < (q + 1) * G := by rw [hq]; exact Int.lt_ediv_add_one_mul_self _ p0
    have g1 : 0 ≤ q := by rw [hq]; exact Int.ediv_nonneg n1 (by omega)
    have g2 : q < 9007199254740992 := by rw [hq, Int.ediv_lt_iff_lt_mul p0]; omega
    obtain ⟨d, d1, d2, d3⟩ := num_int (q + 1) k (by omega) (by omega) k1 k2
    rw [← hG] at d3
    have dn : 0 ≤ val d := by rw [d3]; exact Int.mul_nonneg (by omega) (by omega)
    rcases Int.lt_or_le (val r.lo * SS) (val d * val d) with g | g
    · refine Int.lt_of_lt_of_le g (Int.mul_le_mul ?_ ?_ dn (by omega))
      · rw [d3, Int.add_mul, Int.one_mul]; omega
      · rw [d3, Int.add_mul, Int.one_mul]; omega
    · have := n3 d d1 d2 dn g
      omega

theorem up_mul {s : Nat} {T : Int} {c : Nat} (h : Up s T c 0) {E : Int} {k : Nat} (k1 : 53 ≤ k) (k2 : k ≤ 1899) (hs : 0 < s) (hE : E = ((2 ^ k : Nat) : Int)) (h1 : 0 ≤ val c) (h2 : val c < 9007199254740992 * E) : val c * s < T + E * s := by
  have p0 : 0 < E := by rw [hE]; exact Int.natCast_pos.2 (Nat.two_pow_pos k)
  have g := up_gap k1 k2 hs h (by rw [← hE]; omega) (by rw [← hE]; omega)
  rw [← hE, Int.sub_mul] at g
  omega
theorem down_mul {s : Nat} {T : Int} {c : Nat} (h : Down s T c 0) {E : Int} {k : Nat} (k1 : 53 ≤ k) (k2 : k ≤ 1899) (hs : 0 < s) (hE : E = ((2 ^ k : Nat) : Int)) (h1 : 0 ≤ val c) (h2 : val c < 9007199254740992 * E) : T < val c * s + E * s := by
  have p0 : 0 < E := by rw [hE]; exact Int.natCast_pos.2 (Nat.two_pow_pos k)
  have g := down_gap k1 k2 hs h (by rw [← hE]; omega) (by rw [← hE]; omega)
  rw [← hE, Int.add_mul] at g
  omega

/-- The length of a vector of numbers: less than thirteen spacings wide. -/
theorem norm_wide {x y z : Nat} (lx : x < 18446744073709551616) (ly : y < 18446744073709551616) (lz : z < 18446744073709551616) (rx : rightB x = true) (ry : rightB y = true) (rz : rightB z = true)
    (fN : Fit (unitN x y z)) {j : Nat} {G : Int} (hG : G = ((2 ^ j : Nat) : Int)) (j1 : 600 ≤ j) (j2 : j ≤ 1400) (g1 : 4503599627370496 * G ≤ val (unitN x y z).hi) (g2 : val (unitN x y z).hi < 9007199254740992 * G) :
    val (unitN x y z).hi - val (unitN x y z).lo < 13 * G := by
  have h : (normV 0 (at3 x y z)).e = 0 := fN.e
  obtain ⟨e1, e2, e3, e4, e5, e6, eN⟩ := norm_parts h
  have eN' : unitN x y z = sqrtR (addR (addR (sqrR (oneR x)) (sqrR (oneR y))) (sqrR (oneR z))) := eN
  have fx := one_fit lx rx
  have fy := one_fit ly ry
  have fz := one_fit lz rz
  have e1 : (sqrR (oneR x)).e = 0 := e1
  have e2 : (sqrR (oneR y)).e = 0 := e2
  have e3 : (sqrR (oneR z)).e = 0 := e3
  have e4 : (addR (sqrR (oneR x)) (sqrR (oneR y))).e = 0 := e4
  have e5 : (addR (addR (sqrR (oneR x)) (sqrR (oneR y))) (sqrR (oneR z))).e = 0 := e5
  have e6 : (sqrtR (addR (addR (sqrR (oneR x)) (sqrR (oneR y))) (sqrR (oneR z)))).e = 0 := e6
  clear eN h
  obtain ⟨dx, ux⟩ := sqr_one lx rx e1
  obtain ⟨dy, uy⟩ := sqr_one ly ry e2
  obtain ⟨dz, uz⟩ := sqr_one lz rz e3
  have f1 := sqr_fit fx e1
  have f2 := sqr_fit fy e2
  have f3 := sqr_fit fz e3
  generalize sqrR (oneR x) = q1 at *
  generalize sqrR (oneR y) = q2 at *
  generalize sqrR (oneR z) = q3 at *
  have f4 := add_fit f1 f2 e4
  have f5 := add_fit f4 f3 e5
  obtain ⟨d4, u4⟩ := add_parts f1 f2 e4
  obtain ⟨d5, u5⟩ := add_parts f4 f3 e5
  have fN' := fN
  rw [eN'] at g1 g2 fN' ⊢
  generalize addR q1 q2 = s1 at *
  generalize addR s1 q3 = s at *
  obtain ⟨_, ⟨n1, _, _⟩, ⟨n4, n5, _⟩⟩ := sqrt_parts f5 e6
  have p0 : 0 < G := by rw [hG]; exact Int.natCast_pos.2 (Nat.two_pow_pos j)
  have lN := fN'.le
  obtain ⟨r1, r2⟩ := root_gaps f5 e6 (by omega) (by omega) hG (by omega) g2 (by omega)
  -- the spacing of the squares
  obtain ⟨k, hk⟩ : ∃ k : Nat, k + 1074 = 53 + 2 * j := ⟨53 + 2 * j - 1074, by omega⟩
  obtain ⟨E, hE⟩ : ∃ E : Int, E = ((2 ^ k : Nat) : Int) := ⟨_, rfl⟩
  have ES : E * SS = 9007199254740992 * (G * G) := by
    have hn : 2 ^ k * 2 ^ sq = 9007199254740992 * (2 ^ j * 2 ^ j) := by
      rw [show (9007199254740992 : Nat) = 2 ^ 53 by decide, ← Nat.pow_add, ← Nat.pow_add, ← Nat.pow_add, sq_eq, hk]
      congr 1; omega
    rw [hE, hG]
    show ((2 ^ k : Nat) : Int) * ((2 ^ sq : Nat) : Int) = _
    rw [← Int.natCast_mul, hn, Int.natCast_mul, Int.natCast_mul]
    rfl
  have E0 : 0 < E := by rw [hE]; exact Int.natCast_pos.2 (Nat.two_pow_pos k)
  have S0 : 0 < SS := Int.natCast_pos.2 (Nat.two_pow_pos sq)
  -- nothing is below 0
  have z1 : 0 ≤ val q1.lo := by
    have := dx.ok.2.2.2 0 (by decide) right_0 (by rw [val_nil, Int.zero_mul]; exact self_nonneg _)
    rw [val_nil] at this; exact this
  have z2 : 0 ≤ val q2.lo := by
    have := dy.ok.2.2.2 0 (by decide) right_0 (by rw [val_nil, Int.zero_mul]; exact self_nonneg _)
    rw [val_nil] at this; exact this
  have z3 : 0 ≤ val q3.lo := by
    have := dz.ok.2.2.2 0 (by decide) right_0 (by rw [val_nil, Int.zero_mul]; exact self_nonneg _)
    rw [val_nil] at this; exact this
  have z4 : 0 ≤ val s1.lo := by
    have := d4.ok.2.2.2 0 (by decide) right_0 (by rw [val_nil]; omega)
    rw [val_nil] at this; exact this
  have l1 := f1.le
  have l2 := f2.le
  have l3 := f3.le
  have l4 := f4.le
  have l5 := f5.le
  have o4 := u4.ok.2.2.1
  have o5 := u5.ok.2.2.1
  have z5 : 0 ≤ val s.lo := by
    have := d5.ok.2.2.2 0 (by decide) right_0 (by rw [val_nil]; omega)
    rw [val_nil] at this; exact this
  -- the greatest sum is below 2^53 spacings
  have top : val s.hi < 9007199254740992 * E := by
    refine Int.lt_of_mul_lt_mul_right ?_ (Int.le_of_lt S0)
    refine Int.lt_of_le_of_lt n5 ?_
    rw [Int.mul_assoc, ES]
    have a1 : val (sqrtR s).hi * val (sqrtR s).hi ≤ val (sqrtR s).hi * (9007199254740992 * G) := Int.mul_le_mul_of_nonneg_left (by omega) n4
    have a2 : val (sqrtR s).hi * (9007199254740992 * G) < 9007199254740992 * G * (9007199254740992 * G) := Int.mul_lt_mul_of_pos_right g2 (by omega)
    have a3 : 9007199254740992 * G * (9007199254740992 * G) = 9007199254740992 * (9007199254740992 * (G * G)) := by grind
    omega
  have k1 : 53 ≤ k := by omega
  have k2 : k ≤ 1899 := by omega
  have sp : 0 < 2 ^ sq := Nat.two_pow_pos sq
  have b1 := up_mul ux k1 k2 sp hE (by omega) (by omega)
  have b2 := up_mul uy k1 k2 sp hE (by omega) (by omega)
  have b3 := up_mul uz k1 k2 sp hE (by omega) (by omega)
  have b4 := up_mul u4 k1 k2 (by decide) hE (by omega) (by omega)
  have b5 := up_mul u5 k1 k2 (by decide) hE (by omega) (by omega)
  have c1 := down_mul dx k1 k2 sp hE z1 (by omega)
  have c2 := down_mul dy k1 k2 sp hE z2 (by omega)
  have c3 := down_mul dz k1 k2 sp hE z3 (by omega)
  have c4 := down_mul d4 k1 k2 (by decide) hE z4 (by omega)
  have c5 := down_mul d5 k1 k2 (by decide) hE z5 (by omega)
  have b1 : val q1.hi * SS < val x * val x + E * SS := b1
  have b2 : val q2.hi * SS < val y * val y + E * SS := b2
  have b3 : val q3.hi * SS < val z * val z + E * SS := b3
  have c1 : val x * val x < val q1.lo * SS + E * SS := c1
  have c2 : val y * val y < val q2.lo * SS + E * SS := c2
  have c3 : val z * val z < val q3.lo * SS + E * SS := c3
  have t1 : val s.hi * SS ≤ (val q1.hi + val q2.hi + val q3.hi + 2 * E) * SS := Int.mul_le_mul_of_nonneg_right (by omega) (by omega)
  have t2 : (val q1.lo + val q2.lo + val q3.lo) * SS ≤ (val s.lo + 2 * E) * SS := Int.mul_le_mul_of_nonneg_right (by omega) (by omega)
  rw [Int.add_mul, Int.add_mul, Int.add_mul, Int.mul_assoc] at t1
  rw [Int.add_mul, Int.add_mul, Int.add_mul, Int.mul_assoc] at t2
  have wide : val s.hi * SS < val s.lo * SS + 90071992547409920 * (G * G) := by omega
  have := gap_roots (a := val (sqrtR s).hi - G) (b := val (sqrtR s).lo + G) p0 (by omega) (by omega) (by omega)
  omega

end Go.Proofs.Ytlibfeegdjbhcaa

namespace Go.Proofs.Ytlibfeegdjbhcaa
open Go.RowKit

theorem log_size {n t u : Nat} (h1 : 2 ^ t ≤ n) (h2 : n < 2 ^ u) (ht : 52 ≤ t) : ∃ j : Nat, t ≤ j + 52 ∧ j + 52 < u ∧ 4503599627370496 * 2 ^ j ≤ n ∧ n < 9007199254740992 * 2 ^ j := by
  have h0 : n ≠ 0 := by have := Nat.two_pow_pos t; omega
  have l1 : 2 ^ n.log2 ≤ n := Nat.log2_self_le h0
  have l2 : n < 2 ^ (n.log2 + 1) := Nat.lt_log2_self
  have a1 : t < n.log2 + 1 := (Nat.pow_lt_pow_iff_right (by decide : 1 < 2)).1 (by omega)
  have a2 : n.log2 < u := (Nat.pow_lt_pow_iff_right (by decide : 1 < 2)).1 (by omega)
  obtain ⟨j, hj⟩ : ∃ j, n.log2 = j + 52 := ⟨n.log2 - 52, by omega⟩
  rw [hj] at l1 l2 a1 a2
  refine ⟨j, by omega, a2, ?_, ?_⟩
  · rw [Nat.pow_add] at l1; rw [Nat.mul_comm]; exact l1
  · rw [show j + 52 + 1 = j + 53 by omega, Nat.pow_add] at l2; rw [Nat.mul_comm]; exact l2

theorem part_wide {dl dh D G lo hi T : Int} (hD : 0 < D) (hG : 0 < G) (h1 : (dh - D) * lo < T) (h2 : T < (dl + D) * hi) (_d0 : 0 ≤ dl) (d1 : dl ≤ 4503599627370496 * D) (w : hi - lo < 13 * G) (g : 4503599627370496 * G ≤ hi) (l : lo ≤ hi) : dh - dl < 16 * D := by
  rcases Int.lt_or_le (dh - dl) (16 * D) with c | c
  · exact c
  · exfalso
    have a1 : (dl + 15 * D) * lo ≤ (dh - D) * lo := Int.mul_le_mul_of_nonneg_right (by omega) (by omega)
    have a2 : (dl + D) * hi = (dl + D) * lo + (dl + D) * (hi - lo) := by grind
    have a3 : (dl + 15 * D) * lo = (dl + D) * lo + 14 * (D * lo) := by grind
    have a4 : (dl + D) * (hi - lo) ≤ (4503599627370497 * D) * (hi - lo) := Int.mul_le_mul_of_nonneg_right (by omega) (by omega)
    have a5 : (4503599627370497 * D) * (hi - lo) ≤ (4503599627370497 * D) * (13 * G) := Int.mul_le_mul_of_nonneg_left (by omega) (by omega)
    have a6 : (4503599627370497 * D) * (13 * G) = 58546795155816461 * (D * G) := by grind
    have a7 : D * (4503599627370483 * G) ≤ D * lo := Int.mul_le_mul_of_nonneg_left (by omega) (by omega)
    have a8 : D * (4503599627370483 * G) = 4503599627370483 * (D * G) := by grind
    have a9 : 0 < D * G := Int.mul_pos hD hG
    generalize D * G = u at *
    generalize D * lo = v at *
    omega

/-- 2^-52; what is told of 1, -1, 2 and -2. -/
def DD : Int := ((2 ^ 1022 : Nat) : Int)
theorem dd_pos : 0 < DD := Int.natCast_pos.2 (Nat.two_pow_pos 1022)
theorem ss_pow {k : Nat} (hk : k + 52 = sq) : SS = 4503599627370496 * ((2 ^ k : Nat) : Int) := by
  have h : (2 ^ sq : Nat) = 4503599627370496 * 2 ^ k := by
    rw [← hk, Nat.pow_add, Nat.mul_comm]
  show ((2 ^ sq : Nat) : Int) = _
  rw [h, Int.natCast_mul]; rfl
theorem ss_dd : SS = 4503599627370496 * DD := by
  have h := ss_pow (k := 1022) (by rw [sq_eq])
  unfold DD
  exact h
theorem ones : val u1 = SS ∧ val m1 = -SS ∧ val 4611686018427387904 = 2 * SS ∧ val 13835058055282163712 = -(2 * SS) := by decide +kernel

/-- A part of a unit vector: between m and M, of the number's sign. -/
structure PartOf (x : Nat) (n p : Res) (m M : Int) : Prop where
  low : 0 ≤ m
  le : m ≤ M
  top : M ≤ SS
  under : ∃ a : Int, (a = val x ∨ a = -val x) ∧ 0 ≤ a ∧ m * val n.hi ≤ a * SS ∧ (M = SS ∨ a * SS ≤ M * val n.lo)
  wide : M - m ≤ 16 * DD
  side : (0 ≤ val x ∧ val p.lo = m ∧ val p.hi = M) ∨ (val x ≤ 0 ∧ val p.lo = -M ∧ val p.hi = -m)
  nil : val x = 0 → M = 0

theorem bound_ends {r : Res} (f : Fit r) (h1 : val r.lo ≤ SS) (h2 : -SS ≤ val r.hi) : val (boundR r).lo = max (val r.lo) (-SS) ∧ val (boundR r).hi = min (val r.hi) SS := by
  obtain ⟨x1, x2, x3⟩ := max_facts r.lo m1 f.lo (by decide) f.rlo (by decide)
  obtain ⟨y1, y2, y3⟩ := min_facts r.hi u1 f.hi (by decide) f.rhi (by decide)
  obtain ⟨o1, o2, _, _⟩ := ones
  have l := f.le
  have s0 : 0 ≤ SS := ss_pos
  have hb : bothB r.lo r.hi m1 u1 = true := by
    unfold bothB leB
    refine decide_eq_true ?_
    rw [x3, y3, o1, o2]; omega
  have e1 : (boundR r).lo = maxW r.lo m1 := by
    show (if bothB r.lo r.hi m1 u1 then maxW r.lo m1 else 0) = _
    rw [if_pos hb]
  have e2 : (boundR r).hi = minW r.hi u1 := by
    show (if bothB r.lo r.hi m1 u1 then minW r.hi u1 else 0) = _
    rw [if_pos hb]
  rw [e1, e2, x3, y3, o1, o2]
  exact ⟨rfl, rfl⟩

theorem part_of {x : Nat} {n : Res} (rx : rightB x = true) (fn : Fit n) (hn : 0 < val n.lo) (fd : Fit (divR (oneR x) n)) (h1 : val x ≤ val n.hi) (h2 : -val x ≤ val n.hi) {G : Int} (hG : 0 < G) (w : val n.hi - val n.lo < 13 * G) (g : 4503599627370496 * G ≤ val n.hi) :
    ∃ m M : Int, PartOf x n (unitPart x n) m M := by
  obtain ⟨s, t, s0, t0, es, et, d, u⟩ := div_parts rx fn hn fd.e
  obtain ⟨o1, o2, o3, o4⟩ := ones
  have l := fn.le
  have S0 : 0 ≤ SS := ss_pos
  have hS := ss_dd
  have hD := dd_pos
  have lR := fd.le
  have b1022 : (53 : Nat) ≤ 1022 ∧ (1022 : Nat) ≤ 1899 := by decide
  have dle := d.ok.2.2.1
  have ule := u.ok.2.2.1
  have dbest := d.ok.2.2.2
  have ubest := u.ok.2.2.2
  have ug := fun h1 h2 => up_gap b1022.1 b1022.2 t0 u h1 h2
  have dg := fun h1 h2 => down_gap b1022.1 b1022.2 s0 d h1 h2
  have eD : ((2 ^ 1022 : Nat) : Int) = DD := rfl
  rw [eD] at ug dg
  have sp : (0 : Int) < s := Int.natCast_pos.2 s0
  have tp : (0 : Int) < t := Int.natCast_pos.2 t0
  have be := fun h1 h2 => bound_ends fd h1 h2
  have ep : unitPart x n = boundR (divR (oneR x) n) := rfl
  rw [ep]
  generalize boundR (divR (oneR x) n) = p at *
  generalize divR (oneR x) n = q at *
  clear d u fd ep
  rcases Int.le_total 0 (val x) with c | c
  · rw [if_pos c] at es et
    rw [es] at dle dbest dg sp
    rw [et] at ule ubest ug tp
    have xs : 0 ≤ val x * SS := Int.mul_nonneg c S0
    have q0 : 0 ≤ val q.lo := by
      have := dbest 0 (by decide) right_0 (by rw [val_nil, Int.zero_mul]; exact xs)
      rw [val_nil] at this; exact this
    have q1 : val q.lo ≤ SS := by
      refine Int.le_of_mul_le_mul_right (Int.le_trans dle ?_) sp
      rw [Int.mul_comm SS]; exact Int.mul_le_mul_of_nonneg_right h1 S0
    have q2 : val q.hi ≤ 2 * SS := by
      rw [← o3]
      refine ubest _ (by decide) (by decide) ?_
      rw [o3]
      have k1 : val x * SS ≤ (2 * val n.lo) * SS := Int.mul_le_mul_of_nonneg_right (by omega) S0
      have k2 : 2 * SS * val n.lo = (2 * val n.lo) * SS := by grind
      omega
    have wide := part_wide hD hG (ug (by omega) (by omega)) (dg (by omega) (by omega)) q0 (by omega) w g l
    obtain ⟨p1, p2⟩ := be q1 (by omega)
    have nil : val x = 0 → val q.hi ≤ 0 := fun hx => by
      have := ubest 0 (by decide) right_0 (by rw [hx, val_nil, Int.zero_mul, Int.zero_mul]; exact Int.le_refl _)
      rw [val_nil] at this; exact this
    refine ⟨val q.lo, min (val q.hi) SS, ⟨q0, by omega, by omega, ⟨val x, Or.inl rfl, c, dle, ?_⟩, by omega, Or.inl ⟨c, by omega, p2⟩, fun hx => by have := nil hx; omega⟩⟩
    rcases Int.le_total SS (val q.hi) with g | g
    · exact Or.inl (by omega)
    · right
      rw [Int.min_eq_left g]; exact ule
  · have es' : (s : Int) = val n.lo ∨ val x = 0 := by
      rcases Int.lt_or_le (val x) 0 with k | k
      · rw [if_neg (by omega)] at es; exact Or.inl es
      · exact Or.inr (by omega)
    rcases es' with es' | hx
    · rcases Int.lt_or_le (val x) 0 with k | k
      · rw [if_neg (by omega)] at es et
        rw [es] at dle dbest dg sp
        rw [et] at ule ubest ug tp
        have xs : val x * SS ≤ 0 := Int.mul_nonpos_of_nonpos_of_nonneg c S0
        have q0 : val q.hi ≤ 0 := by
          have := ubest 0 (by decide) right_0 (by rw [val_nil, Int.zero_mul]; exact xs)
          rw [val_nil] at this; exact this
        have nx : -val x * SS = -(val x * SS) := Int.neg_mul _ _
        have q1 : -SS ≤ val q.hi := by
          have k1 : -val x * SS ≤ val n.hi * SS := Int.mul_le_mul_of_nonneg_right h2 S0
          have k2 : -val q.hi * val n.hi ≤ SS * val n.hi := by
            rw [Int.neg_mul, Int.mul_comm SS]; omega
          have := Int.le_of_mul_le_mul_right k2 tp
          omega
        have q2 : -(2 * SS) ≤ val q.lo := by
          rw [← o4]
          refine dbest _ (by decide) (by decide) ?_
          rw [o4]
          have k1 : -val x * SS ≤ (2 * val n.lo) * SS := Int.mul_le_mul_of_nonneg_right (by omega) S0
          have k2 : -(2 * SS) * val n.lo = -((2 * val n.lo) * SS) := by grind
          omega
        have g1 := ug (by omega) (by omega)
        have g2 := dg (by omega) (by omega)
        have k1 : (-val q.lo - DD) * val n.lo < -(val x * SS) := by
          have : (-val q.lo - DD) * val n.lo = -((val q.lo + DD) * val n.lo) := by grind
          omega
        have k2 : -(val x * SS) < (-val q.hi + DD) * val n.hi := by
          have : (-val q.hi + DD) * val n.hi = -((val q.hi - DD) * val n.hi) := by grind
          omega
        have wide := part_wide hD hG k1 k2 (by omega) (by omega) w g l
        obtain ⟨p1, p2⟩ := be (by omega) q1
        have m1 : -val q.hi * val n.hi = -(val q.hi * val n.hi) := Int.neg_mul _ _
        have m2 : -val q.lo * val n.lo = -(val q.lo * val n.lo) := Int.neg_mul _ _
        refine ⟨-val q.hi, min (-val q.lo) SS, ⟨by omega, by omega, by omega, ⟨-val x, Or.inr rfl, by omega, by omega, ?_⟩, by omega, Or.inr ⟨c, by omega, by omega⟩, fun hx => by omega⟩⟩
        rcases Int.le_total SS (-val q.lo) with g | g
        · exact Or.inl (by omega)
        · right
          rw [Int.min_eq_left g]; omega
      · have hx : val x = 0 := by omega
        have q0 : 0 ≤ val q.lo := by
          have := dbest 0 (by decide) right_0 (by rw [val_nil, hx, Int.zero_mul, Int.zero_mul]; exact Int.le_refl _)
          rw [val_nil] at this; exact this
        have q1 : val q.hi ≤ 0 := by
          have := ubest 0 (by decide) right_0 (by rw [val_nil, hx, Int.zero_mul, Int.zero_mul]; exact Int.le_refl _)
          rw [val_nil] at this; exact this
        obtain ⟨p1, p2⟩ := be (by omega) (by omega)
        exact ⟨0, 0, ⟨by omega, by omega, by omega, ⟨0, Or.inl hx.symm, by omega, by omega, Or.inr (by omega)⟩, by omega, Or.inl ⟨by omega, by omega, by omega⟩, fun _ => rfl⟩⟩
    · have q0 : 0 ≤ val q.lo := by
        have := dbest 0 (by decide) right_0 (by rw [val_nil, hx, Int.zero_mul, Int.zero_mul]; exact Int.le_refl _)
        rw [val_nil] at this; exact this
      have q1 : val q.hi ≤ 0 := by
        have := ubest 0 (by decide) right_0 (by rw [val_nil, hx, Int.zero_mul, Int.zero_mul]; exact Int.le_refl _)
        rw [val_nil] at this; exact this
      obtain ⟨p1, p2⟩ := be (by omega) (by omega)
      exact ⟨0, 0, ⟨by omega, by omega, by omega, ⟨0, Or.inl hx.symm, by omega, by omega, Or.inr (by omega)⟩, by omega, Or.inl ⟨by omega, by omega, by omega⟩, fun _ => rfl⟩⟩

end Go.Proofs.Ytlibfeegdjbhcaa

namespace Go.Proofs.Ytlibfeegdjbhcaa
open Go.RowKit

def bigV : V3 := ⟨boxS, boxS, boxS⟩
def oneV : V3 := ⟨⟨0, 13830554455654793216, 4607182418800017408⟩, ⟨0, 13830554455654793216, 4607182418800017408⟩, ⟨0, 13830554455654793216, 4607182418800017408⟩⟩
theorem big_facts : (normV 0 bigV).e = 0 ∧ val (normV 0 bigV).hi < val 4906671693080363008 ∧ (normV 0 oneV).e = 0 ∧ 0 < val 4318952042648305664 := by decide +kernel
theorem pow_low : val 4318952042648305664 = ((2 ^ 1010 : Nat) : Int) := by decide +kernel
theorem pow_high : val 4906671693080363008 ≤ ((2 ^ 1160 : Nat) : Int) := by decide +kernel

theorem mul_self_le {a b : Int} (h0 : 0 ≤ a) (h : a ≤ b) : a * a ≤ b * b := Int.mul_le_mul h h h0 (by omega)
theorem le_of_self {a b : Int} (hb : 0 ≤ b) (h : a * a ≤ b * b) : a ≤ b := by
  rcases Int.lt_or_le b a with g | g
  · have k1 : b * b ≤ b * a := Int.mul_le_mul_of_nonneg_left (by omega) hb
    have k2 : b * a < a * a := Int.mul_lt_mul_of_pos_right g (by omega)
    omega
  · exact g
theorem abs_le {a b : Int} (hb : 0 ≤ b) (h : a * a ≤ b * b) : a ≤ b ∧ -a ≤ b := ⟨le_of_self hb h, le_of_self hb (by rw [Int.neg_mul_neg]; exact h)⟩

/-- The length of the numbers: its squares, and its width. -/
theorem unit_norm (x y z : Nat) (lx : x < 18446744073709551616) (ly : y < 18446744073709551616) (lz : z < 18446744073709551616) (hU : hasU x y z = true) :
    0 < val (unitN x y z).lo ∧ val (unitN x y z).lo * val (unitN x y z).lo ≤ val x * val x + val y * val y + val z * val z ∧ val x * val x + val y * val y + val z * val z ≤ val (unitN x y z).hi * val (unitN x y z).hi ∧
      ∃ G : Int, 0 < G ∧ val (unitN x y z).hi - val (unitN x y z).lo < 13 * G ∧ 4503599627370496 * G ≤ val (unitN x y z).hi := by
  obtain ⟨fN, _⟩ := unit_fits x y z lx ly lz hU
  unfold hasU leB at hU
  simp only [Bool.and_eq_true, decide_eq_true_eq] at hU
  obtain ⟨⟨⟨h1, h2⟩, h3⟩, g1, g2⟩ := hU
  obtain ⟨_, _, mv⟩ := most_val h1 h2 h3
  rw [mv] at g1 g2
  obtain ⟨b1, b2, _, b4⟩ := big_facts
  have wx := in_S lx h1 (by omega)
  have wy := in_S ly h2 (by omega)
  have wz := in_S lz h3 (by omega)
  obtain ⟨_, iN⟩ := normV_in (a := at3 x y z) b1 rfl ⟨wx, wy, wz⟩ (show FitV bigV from ⟨boxS_fit, boxS_fit, boxS_fit⟩)
  have iN : val (unitN x y z).hi ≤ val (normV 0 bigV).hi := iN.hi
  have eN : (normV 0 (at3 x y z)).e = 0 := fN.e
  obtain ⟨e1, e2, e3, _⟩ := norm_parts eN
  have dx := sqr_one lx h1 e1
  have dy := sqr_one ly h2 e2
  have dz := sqr_one lz h3 e3
  have sq1 := norm_squares (A := at3 x y z) ⟨one_fit lx h1, one_fit ly h2, one_fit lz h3⟩ eN dx.1.ok.2.2.1 dy.1.ok.2.2.1 dz.1.ok.2.2.1 dx.2.ok.2.2.1 dy.2.ok.2.2.1 dz.2.ok.2.2.1
  obtain ⟨n0, n1, n2⟩ := sq1
  have n0 : 0 ≤ val (unitN x y z).lo := n0
  have n1 : val (unitN x y z).lo * val (unitN x y z).lo ≤ val x * val x + val y * val y + val z * val z := n1
  have n2 : val x * val x + val y * val y + val z * val z ≤ val (unitN x y z).hi * val (unitN x y z).hi := n2
  have lN := fN.le
  -- no less than the greatest of all
  have s1 := self_nonneg (val x)
  have s2 := self_nonneg (val y)
  have s3 := self_nonneg (val z)
  have a1 := abs_le (a := val x) (b := val (unitN x y z).hi) (by omega) (by omega)
  have a2 := abs_le (a := val y) (b := val (unitN x y z).hi) (by omega) (by omega)
  have a3 := abs_le (a := val z) (b := val (unitN x y z).hi) (by omega) (by omega)
  obtain ⟨r1, t1⟩ := val_side h1
  obtain ⟨r2, t2⟩ := val_side h2
  obtain ⟨r3, t3⟩ := val_side h3
  have low : val 4318952042648305664 ≤ val (unitN x y z).hi := by omega
  have high : val (unitN x y z).hi < val 4906671693080363008 := by omega
  obtain ⟨n, hn⟩ : ∃ n : Nat, val (unitN x y z).hi = (n : Int) := ⟨(val (unitN x y z).hi).toNat, by omega⟩
  have p1 := pow_low
  have p2 := pow_high
  have q1 : 2 ^ 1010 ≤ n := Int.ofNat_le.1 (by rw [← hn]; exact p1 ▸ low)
  have q2 : n < 2 ^ 1160 := Int.ofNat_lt.1 (by rw [← hn]; exact Int.lt_of_lt_of_le high p2)
  obtain ⟨j, j1, j2, j3, j4⟩ := log_size q1 q2 (by decide)
  obtain ⟨G, hG⟩ : ∃ G : Int, G = ((2 ^ j : Nat) : Int) := ⟨_, rfl⟩
  have k1 : 4503599627370496 * G ≤ val (unitN x y z).hi := by
    rw [hn, hG]; exact Int.ofNat_le.2 j3
  have k2 : val (unitN x y z).hi < 9007199254740992 * G := by
    rw [hn, hG]; exact Int.ofNat_lt.2 j4
  have G0 : 0 < G := by rw [hG]; exact Int.natCast_pos.2 (Nat.two_pow_pos j)
  have wide := norm_wide lx ly lz h1 h2 h3 fN hG (by omega) (by omega) k1 k2
  exact ⟨by omega, n1, n2, G, G0, wide, k1⟩

theorem one_part {x : Nat} {n p : Res} {m M : Int} (h : PartOf x n p m M) (fp : Fit p) : In p ⟨0, 13830554455654793216, 4607182418800017408⟩ := by
  obtain ⟨o1, o2, _, _⟩ := ones
  have h1 := h.low
  have h2 := h.le
  have h3 := h.top
  refine ⟨fp, ?_, ?_⟩
  · show val m1 ≤ val p.lo
    rw [o2]; rcases h.side with ⟨_, a, b⟩ | ⟨_, a, b⟩ <;> omega
  · show val p.hi ≤ val u1
    rw [o1]; rcases h.side with ⟨_, a, b⟩ | ⟨_, a, b⟩ <;> omega
theorem part_sqr {x : Nat} {n p : Res} {m M : Int} (h : PartOf x n p m M) (fp : Fit p) (he : (sqrR p).e = 0) : val (sqrR p).lo * SS ≤ m * m ∧ M * M ≤ val (sqrR p).hi * SS := by
  obtain ⟨a, A, e1, e2, _, _, d, u⟩ := sqr_parts fp he
  have h1 := h.low
  have h2 := h.le
  have k : a = m ∧ A = M := by
    rcases h.side with ⟨_, g1, g2⟩ | ⟨_, g1, g2⟩
    · rw [g1, g2] at e1 e2
      rw [if_pos h1] at e1
      omega
    · rw [g1, g2] at e1 e2
      refine ⟨?_, by omega⟩
      rw [e1]; split <;> (try split) <;> omega
  rw [k.1] at d
  rw [k.2] at u
  exact ⟨d.ok.2.2.1, u.ok.2.2.1⟩

/-- Squares of parts, times the length's. -/
theorem low_sum {m1 m2 m3 a1 a2 a3 H S : Int} (p1 : 0 ≤ m1) (p2 : 0 ≤ m2) (p3 : 0 ≤ m3) (hH : 0 < H) (h1 : m1 * H ≤ a1 * S) (h2 : m2 * H ≤ a2 * S) (h3 : m3 * H ≤ a3 * S) (hR : a1 * a1 + a2 * a2 + a3 * a3 ≤ H * H) : m1 * m1 + m2 * m2 + m3 * m3 ≤ S * S := by
  have k1 := mul_self_le (Int.mul_nonneg p1 (Int.le_of_lt hH)) h1
  have k2 := mul_self_le (Int.mul_nonneg p2 (Int.le_of_lt hH)) h2
  have k3 := mul_self_le (Int.mul_nonneg p3 (Int.le_of_lt hH)) h3
  have hh : 0 < H * H := Int.mul_pos hH hH
  refine Int.le_of_mul_le_mul_right ?_ hh
  have g1 : (m1 * m1 + m2 * m2 + m3 * m3) * (H * H) = m1 * H * (m1 * H) + m2 * H * (m2 * H) + m3 * H * (m3 * H) := by grind
  have g2 : a1 * S * (a1 * S) + a2 * S * (a2 * S) + a3 * S * (a3 * S) = (a1 * a1 + a2 * a2 + a3 * a3) * (S * S) := by grind
  have g3 := Int.mul_le_mul_of_nonneg_right hR (self_nonneg S)
  have g4 : H * H * (S * S) = S * S * (H * H) := by grind
  omega
theorem high_sum {m1 m2 m3 a1 a2 a3 L S : Int} (hS : 0 ≤ S) (n1 : 0 ≤ a1) (n2 : 0 ≤ a2) (n3 : 0 ≤ a3) (hL : 0 < L) (h1 : m1 = S ∨ a1 * S ≤ m1 * L) (h2 : m2 = S ∨ a2 * S ≤ m2 * L) (h3 : m3 = S ∨ a3 * S ≤ m3 * L) (hR : L * L ≤ a1 * a1 + a2 * a2 + a3 * a3) : S * S ≤ m1 * m1 + m2 * m2 + m3 * m3 := by
  have s1 := self_nonneg m1
  have s2 := self_nonneg m2
  have s3 := self_nonneg m3
  rcases h1 with rfl | h1
  · omega
  rcases h2 with rfl | h2
  · omega
  rcases h3 with rfl | h3
  · omega
  have k1 := mul_self_le (Int.mul_nonneg n1 hS) h1
  have k2 := mul_self_le (Int.mul_nonneg n2 hS) h2
  have k3 := mul_self_le (Int.mul_nonneg n3 hS) h3
  have hh : 0 < L * L := Int.mul_pos hL hL
  refine Int.le_of_mul_le_mul_right ?_ hh
  have g1 : (m1 * m1 + m2 * m2 + m3 * m3) * (L * L) = m1 * L * (m1 * L) + m2 * L * (m2 * L) + m3 * L * (m3 * L) := by grind
  have g2 : a1 * S * (a1 * S) + a2 * S * (a2 * S) + a3 * S * (a3 * S) = (a1 * a1 + a2 * a2 + a3 * a3) * (S * S) := by grind
  have g3 := Int.mul_le_mul_of_nonneg_right hR (self_nonneg S)
  have g4 : L * L * (S * S) = S * S * (L * L) := by grind
  omega

/-- What the law asks of a triple that has one. -/
theorem unit_all (x y z : Nat) (lx : x < 18446744073709551616) (ly : y < 18446744073709551616) (lz : z < 18446744073709551616) (hU : hasU x y z = true) :
    FitV (unitV x y z) ∧ (normV 0 (unitV x y z)).e = 0 ∧ val (normV 0 (unitV x y z)).lo ≤ SS ∧ SS ≤ val (normV 0 (unitV x y z)).hi ∧
      (∃ m M, PartOf x (unitN x y z) (unitV x y z).x m M) ∧ (∃ m M, PartOf y (unitN x y z) (unitV x y z).y m M) ∧ (∃ m M, PartOf z (unitN x y z) (unitV x y z).z m M) := by
  obtain ⟨n0, n1, n2, G, G0, w, g⟩ := unit_norm x y z lx ly lz hU
  obtain ⟨fN, f1, f2, f3⟩ := unit_fits x y z lx ly lz hU
  unfold hasU leB at hU
  simp only [Bool.and_eq_true, decide_eq_true_eq] at hU
  obtain ⟨⟨⟨h1, h2⟩, h3⟩, _, _⟩ := hU
  have lN := fN.le
  have s1 := self_nonneg (val x)
  have s2 := self_nonneg (val y)
  have s3 := self_nonneg (val z)
  have a1 := abs_le (a := val x) (b := val (unitN x y z).hi) (by omega) (by omega)
  have a2 := abs_le (a := val y) (b := val (unitN x y z).hi) (by omega) (by omega)
  have a3 := abs_le (a := val z) (b := val (unitN x y z).hi) (by omega) (by omega)
  obtain ⟨mx, Mx, px⟩ := part_of h1 fN n0 f1 a1.1 a1.2 G0 w g
  obtain ⟨my, My, py⟩ := part_of h2 fN n0 f2 a2.1 a2.2 G0 w g
  obtain ⟨mz, Mz, pz⟩ := part_of h3 fN n0 f3 a3.1 a3.2 G0 w g
  have bx := (bound_facts f1).1
  have bY := (bound_facts f2).1
  have bz := (bound_facts f3).1
  have hV : unitV x y z = ⟨unitPart x (unitN x y z), unitPart y (unitN x y z), unitPart z (unitN x y z)⟩ := rfl
  have fV : FitV (unitV x y z) := ⟨bx, bY, bz⟩
  have i1 : InV (unitV x y z) oneV := ⟨one_part px bx, one_part py bY, one_part pz bz⟩
  have fO : FitV oneV := ⟨.of (by decide +kernel), .of (by decide +kernel), .of (by decide +kernel)⟩
  obtain ⟨_, _, b3, _⟩ := big_facts
  obtain ⟨_, iO⟩ := normV_in (a := unitV x y z) b3 rfl i1 fO
  have eV : (normV 0 (unitV x y z)).e = 0 := iO.fit.e
  obtain ⟨e1, e2, e3, _⟩ := norm_parts eV
  have qx := part_sqr px bx e1
  have qy := part_sqr py bY e2
  have qz := part_sqr pz bz e3
  obtain ⟨_, k1, k2⟩ := norm_squares fV eV qx.1 qy.1 qz.1 qx.2 qy.2 qz.2
  obtain ⟨cx, vx, cx0, ux, tx⟩ := px.under
  obtain ⟨cy, vy, cy0, uy, ty⟩ := py.under
  obtain ⟨cz, vz, cz0, uz, tz⟩ := pz.under
  have rx : cx * cx = val x * val x := by rcases vx with e | e <;> rw [e]; rw [Int.neg_mul_neg]
  have ry : cy * cy = val y * val y := by rcases vy with e | e <;> rw [e]; rw [Int.neg_mul_neg]
  have rz : cz * cz = val z * val z := by rcases vz with e | e <;> rw [e]; rw [Int.neg_mul_neg]
  have lo := low_sum px.low py.low pz.low (by omega) ux uy uz (by rw [rx, ry, rz]; exact n2)
  have hi := high_sum ss_pos cx0 cy0 cz0 n0 tx ty tz (by rw [rx, ry, rz]; exact n1)
  have top : 0 ≤ val (normV 0 (unitV x y z)).hi := by
    have := iO.fit.le
    have k3 := norm_squares fV eV qx.1 qy.1 qz.1 qx.2 qy.2 qz.2
    omega
  exact ⟨fV, eV, le_of_self ss_pos (by omega), le_of_self top (by omega), ⟨mx, Mx, px⟩, ⟨my, My, py⟩, ⟨mz, Mz, pz⟩⟩

end Go.Proofs.Ytlibfeegdjbhcaa

namespace Go.Proofs.Ytlibfeegdjbhcaa
open Go.RowKit

def maxV (a b : Nat) (w : World) : Nat × Nat :=
  match FloatKind.f64.format.order a b with
  | none => (Question.cut (.nanMinMax .f64 true a b) (w.tape w.drawn (.nanMinMax .f64 true a b)), 1)
  | some .lt => (b, 0)
  | some .gt => (a, 0)
  | some .eq => (if (FloatKind.f64.decode a).neg then b else a, 0)
theorem run_max2 (a b : Nat) (w : World) : (Builtin.max2 (.float .f64 a) (.float .f64 b)).run Try.prog w = .ok (.float .f64 (maxV a b w).1) (w.drewN (maxV a b w).2) := by
  cases h : FloatKind.f64.format.order a b with
  | none => simp only [Builtin.max2, maxV, h]; rfl
  | some o => cases o <;> simp only [Builtin.max2, maxV, h] <;> rfl
def maxV3 (a b c : Nat) (w : World) : Nat × Nat := ((maxV (maxV a b w).1 c (w.drewN (maxV a b w).2)).1, (maxV a b w).2 + (maxV (maxV a b w).1 c (w.drewN (maxV a b w).2)).2)
theorem drewN_drewN (w : World) (m n : Nat) : (w.drewN m).drewN n = w.drewN (m + n) := by
  unfold World.drewN
  simp [Nat.add_assoc]
theorem run_maxN (a b c : Nat) (ts : Array TypeId) (t : TypeId) (w : World) : (Builtin.max_ ts t #[.float .f64 a, .float .f64 b, .float .f64 c]).run Try.prog w = .ok (.float .f64 (maxV3 a b c w).1) (w.drewN (maxV3 a b c w).2) := by
  show (Sem.bind (Builtin.max2 (.float .f64 a) (.float .f64 b)) fun r => Sem.bind (Builtin.max2 r (.float .f64 c)) fun s => Sem.pure s).run Try.prog w = _
  have e : ∀ (f : Sem Value) (g : Value → Sem Value), Sem.bind f g = (f >>= g) := fun _ _ => rfl
  rw [e, Sem.run_bind, run_max2]
  show (Sem.bind (Builtin.max2 (.float .f64 (maxV a b w).1) (.float .f64 c)) fun s => Sem.pure s).run Try.prog (w.drewN (maxV a b w).2) = _
  rw [e, Sem.run_bind, run_max2]
  show Result.ok _ _ = _
  rw [drewN_drewN]; rfl
theorem keep_drewN {w : World} {a : Addr} {x : Option Value} (n : Nat) (h : w.cell? a = x) : (w.drewN n).cell? a = x := h

end Go.Proofs.Ytlibfeegdjbhcaa

namespace Go.Proofs.Ytlibfeegdjbhcaa
open Go.RowKit
attribute [local go_sem] run_store_float

set_option maxRecDepth 100000 in
set_option maxHeartbeats 16000000 in
theorem vunit_far (x y z X Y Z : Nat) (w : World)
    (c1 : Hid (∀ w, Calls Try.prog 4 #[.agg #[.float .f64 x, .float .f64 y, .float .f64 z]] w fun r w' => r = .returned (.tuple #[.agg #[.float .f64 0, .float .f64 0, .float .f64 0, .float .f64 0, .float .f64 0, .float .f64 0], .int .i64 50]) ∧ Below w.heap.size w w'))
    (a1 : Hid (CalcAbs x X)) (a2 : Hid (CalcAbs y Y)) (a3 : Hid (CalcAbs z Z))
    (cS : Hid (∀ w, Calls Try.prog 6 #[.agg #[.float .f64 x, .float .f64 y, .float .f64 z]] w fun r w' => r = .returned (.bool false) ∧ Below w.heap.size w w')) :
    Calls Try.prog 3 #[.agg #[.float .f64 x, .float .f64 y, .float .f64 z]] w fun r w' => r = .returned (.bool true) ∧ Below w.heap.size w w' := by
  have M := Lib.hid ((Own.nil w).made #[.float .f64 x, .float .f64 y, .float .f64 z] 24)
  obtain ⟨k1, k2, k3⟩ := (M.out.nth 0 rfl).three
  go_enter Try.func3, Try.ntmps3
  go_wp2_with fail
  refine (c1.out _).mono ?_
  rintro r w1 ⟨rfl, hb⟩
  replace M := Lib.hid ((M.out.below hb).made #[.float .f64 0, .float .f64 0, .float .f64 0, .float .f64 0, .float .f64 0, .float .f64 0] 28)
  clear hb k1 k2 k3 c1
  obtain ⟨k1, k2, k3⟩ := (M.out.nth 1 rfl).three
  go_upto_region 2 with fail
  clear k1 k2 k3
  revert M
  generalize w1.alloc (.cells #[.float .f64 0, .float .f64 0, .float .f64 0, .float .f64 0, .float .f64 0, .float .f64 0] 28) = W
  intro M
  obtain ⟨k1, k2, k3⟩ := (M.out.nth 1 rfl).three
  have hm := run_maxN X Y Z
  go_region_held3 (fun w' => w'.cell? ⟨w.heap.size, 0, none⟩ = some (.float .f64 x) ∧ w'.cell? ⟨w.heap.size, 1, none⟩ = some (.float .f64 y) ∧ w'.cell? ⟨w.heap.size, 2, none⟩ = some (.float .f64 z)) (((try dsimp only); (repeat' apply And.intro); all_goals (repeat (first | (with_reducible assumption) | ((with_reducible refine keep_undrew ?_); (with_reducible assumption)) | (with_reducible refine keep_drew ?_) | (with_reducible refine keep_drewN _ ?_)))))
    (first
      | (go_at_call 5; (with_reducible refine (a1.out _).mono ?_); rintro rr w5 ⟨rfl, rfl⟩)
      | (go_at_call 5; (with_reducible refine (a2.out _).mono ?_); rintro rr w5 ⟨rfl, rfl⟩)
      | (go_at_call 5; (with_reducible refine (a3.out _).mono ?_); rintro rr w5 ⟨rfl, rfl⟩))
  clear k1 k2 k3 a1 a2 a3
  replace M := Lib.hid (M.out.drewN (1 + (maxV3 X Y Z W.drew).2))
  revert M
  generalize (W.drewN (1 + (maxV3 X Y Z W.drew).2)) = W2
  intro M
  generalize (maxV3 X Y Z W.drew).1 = V
  obtain ⟨k1, k2, k3⟩ := (M.out.nth 1 rfl).three
  go_wp2_with fail
  refine (cS.out _).mono ?_
  rintro r w3 ⟨rfl, hb⟩
  replace M := Lib.hid (M.out.below hb)
  clear hb k1 k2 k3
  obtain ⟨k1, k2, k3, k4, k5, k6⟩ := (M.out.nth 0 rfl).six
  go_wp2_with fail
  refine (sameV_any _ _ _ _ _ _ _).mono ?_
  rintro r w4 ⟨rfl, hb⟩
  replace M := Lib.hid (M.out.below hb)
  clear hb k1 k2 k3 k4 k5 k6
  go_wp2_with fail
  refine (awake5_any _).mono ?_
  rintro r w5 ⟨rfl, hb⟩
  replace M := Lib.hid (M.out.below hb)
  go_wp2
  go_ret
  exact ⟨rfl, M.out.base⟩

set_option maxRecDepth 100000 in
set_option maxHeartbeats 16000000 in
theorem vunit_low (x y z X Y Z m : Nat) (w : World)
    (c1 : Hid (∀ w, Calls Try.prog 4 #[.agg #[.float .f64 x, .float .f64 y, .float .f64 z]] w fun r w' => r = .returned (.tuple #[.agg #[.float .f64 0, .float .f64 0, .float .f64 0, .float .f64 0, .float .f64 0, .float .f64 0], .int .i64 50]) ∧ Below w.heap.size w w'))
    (a1 : Hid (CalcAbs x X)) (a2 : Hid (CalcAbs y Y)) (a3 : Hid (CalcAbs z Z))
    (cS : Hid (∀ w, Calls Try.prog 6 #[.agg #[.float .f64 x, .float .f64 y, .float .f64 z]] w fun r w' => r = .returned (.bool true) ∧ Below w.heap.size w w'))
    (hm : ∀ ts t w, (Builtin.max_ ts t #[.float .f64 X, .float .f64 Y, .float .f64 Z]).run Try.prog w = .ok (.float .f64 m) w) (o : (FloatKind.f64.format.order m 4318952042648305664 == some Ordering.lt) = true) :
    Calls Try.prog 3 #[.agg #[.float .f64 x, .float .f64 y, .float .f64 z]] w fun r w' => r = .returned (.bool true) ∧ Below w.heap.size w w' := by
  have M := Lib.hid ((Own.nil w).made #[.float .f64 x, .float .f64 y, .float .f64 z] 24)
  obtain ⟨k1, k2, k3⟩ := (M.out.nth 0 rfl).three
  go_enter Try.func3, Try.ntmps3
  go_wp2_with fail
  refine (c1.out _).mono ?_
  rintro r w1 ⟨rfl, hb⟩
  replace M := Lib.hid ((M.out.below hb).made #[.float .f64 0, .float .f64 0, .float .f64 0, .float .f64 0, .float .f64 0, .float .f64 0] 28)
  clear hb k1 k2 k3 c1
  obtain ⟨k1, k2, k3⟩ := (M.out.nth 1 rfl).three
  go_upto_region 2 with fail
  clear k1 k2 k3
  revert M
  generalize w1.alloc (.cells #[.float .f64 0, .float .f64 0, .float .f64 0, .float .f64 0, .float .f64 0, .float .f64 0] 28) = W
  intro M
  obtain ⟨k1, k2, k3⟩ := (M.out.nth 1 rfl).three
  go_region_held3 (fun w' => w'.cell? ⟨w.heap.size, 0, none⟩ = some (.float .f64 x) ∧ w'.cell? ⟨w.heap.size, 1, none⟩ = some (.float .f64 y) ∧ w'.cell? ⟨w.heap.size, 2, none⟩ = some (.float .f64 z)) (((try dsimp only); (repeat' apply And.intro); all_goals (repeat (first | (with_reducible assumption) | ((with_reducible refine keep_undrew ?_); (with_reducible assumption)) | (with_reducible refine keep_drew ?_) | (with_reducible refine keep_drewN _ ?_)))))
    (first
      | (go_at_call 5; (with_reducible refine (a1.out _).mono ?_); rintro rr w5 ⟨rfl, rfl⟩)
      | (go_at_call 5; (with_reducible refine (a2.out _).mono ?_); rintro rr w5 ⟨rfl, rfl⟩)
      | (go_at_call 5; (with_reducible refine (a3.out _).mono ?_); rintro rr w5 ⟨rfl, rfl⟩))
  clear k1 k2 k3 a1 a2 a3
  replace M := Lib.hid M.out.drew
  revert M
  generalize W.drew = W2
  intro M
  obtain ⟨k1, k2, k3⟩ := (M.out.nth 1 rfl).three
  go_wp2_with fail
  refine (cS.out _).mono ?_
  rintro r w3 ⟨rfl, hb⟩
  replace M := Lib.hid (M.out.below hb)
  clear hb k1 k2 k3
  obtain ⟨k1, k2, k3, k4, k5, k6⟩ := (M.out.nth 0 rfl).six
  go_wp2_with fail
  refine (sameV_any _ _ _ _ _ _ _).mono ?_
  rintro r w4 ⟨rfl, hb⟩
  replace M := Lib.hid (M.out.below hb)
  clear hb k1 k2 k3 k4 k5 k6
  go_wp2_with fail
  refine (awake5_any _).mono ?_
  rintro r w5 ⟨rfl, hb⟩
  replace M := Lib.hid (M.out.below hb)
  go_wp2
  go_ret
  exact ⟨rfl, M.out.base⟩

/-- What holds at each round's head. -/
def VuRel (w : World) (l : RowL) (i : Value) (v : World) : Prop := ∃ k : Nat, k ≤ 3 ∧ i = .int .i64 k ∧ Own w l v
/-- What the law asks of a part. -/
structure Asked1 (x lo hi wd : Nat) : Prop where
  o1 : (FloatKind.f64.format.order lo 13830554455654793216 == some Ordering.lt) = false
  o2 : (FloatKind.f64.format.order hi 4607182418800017408 == some Ordering.gt) = false
  o3 : (FloatKind.f64.format.order wd 4391009636686233600 == some Ordering.gt) = false
  side : ((FloatKind.f64.format.order x 0 == some Ordering.gt) = true ∧ (FloatKind.f64.format.order x 0 == some Ordering.lt) = false ∧ (FloatKind.f64.format.order x 0 == some Ordering.eq) = false ∧ (FloatKind.f64.format.order lo 0 == some Ordering.lt) = false) ∨
    ((FloatKind.f64.format.order x 0 == some Ordering.gt) = false ∧ (FloatKind.f64.format.order x 0 == some Ordering.lt) = true ∧ (FloatKind.f64.format.order x 0 == some Ordering.eq) = false ∧ (FloatKind.f64.format.order hi 0 == some Ordering.gt) = false) ∨
    ((FloatKind.f64.format.order x 0 == some Ordering.gt) = false ∧ (FloatKind.f64.format.order x 0 == some Ordering.lt) = false ∧ (FloatKind.f64.format.order x 0 == some Ordering.eq) = true ∧ Op.floatEq .f64 lo 0 = true ∧ Op.floatEq .f64 hi 0 = true)

set_option maxRecDepth 100000 in
set_option maxHeartbeats 16000000 in
theorem vunit_law (x y z X Y Z m xa xb ya yb za zb nl nh d1 d2 d3 : Nat) (w : World)
    (c1 : Hid (∀ w, Calls Try.prog 4 #[.agg #[.float .f64 x, .float .f64 y, .float .f64 z]] w fun r w' => r = .returned (.tuple #[.agg #[.float .f64 xa, .float .f64 xb, .float .f64 ya, .float .f64 yb, .float .f64 za, .float .f64 zb], .int .i64 0]) ∧ Below w.heap.size w w'))
    (a1 : Hid (CalcAbs x X)) (a2 : Hid (CalcAbs y Y)) (a3 : Hid (CalcAbs z Z))
    (cS : Hid (∀ w, Calls Try.prog 6 #[.agg #[.float .f64 x, .float .f64 y, .float .f64 z]] w fun r w' => r = .returned (.bool true) ∧ Below w.heap.size w w'))
    (hm : ∀ ts t w, (Builtin.max_ ts t #[.float .f64 X, .float .f64 Y, .float .f64 Z]).run Try.prog w = .ok (.float .f64 m) w) (o : (FloatKind.f64.format.order m 4318952042648305664 == some Ordering.lt) = false)
    (cN : Hid (∀ (pb : Nat) (v : World), Has1 v (pb, #[.int .i64 0]) → Calls Try.prog 9 #[.pointer (some ⟨pb, 0, none⟩), .agg #[.float .f64 xa, .float .f64 xb, .float .f64 ya, .float .f64 yb, .float .f64 za, .float .f64 zb]] v fun r w' => r = .returned (.agg #[.float .f64 nl, .float .f64 nh]) ∧ Put ⟨pb, 0, none⟩ (.int .i64 0) v w'))
    (cH : Hid (∀ w, Calls Try.prog 11 #[.agg #[.float .f64 nl, .float .f64 nh], .float .f64 4607182418800017408] w fun r w' => r = .returned (.bool true) ∧ Below w.heap.size w w'))
    (cW1 : Hid (∀ w, Calls Try.prog 12 #[.agg #[.float .f64 xa, .float .f64 xb]] w fun r w' => r = .returned (.tuple #[.float .f64 d1, .int .i64 0]) ∧ Below w.heap.size w w'))
    (cR1 : Hid (∀ w, Calls Try.prog 13 #[.agg #[.float .f64 xa, .float .f64 xb]] w fun r w' => r = .returned (.bool true) ∧ Below w.heap.size w w'))
    (q1 : Hid (Asked1 x xa xb d1))
    (cW2 : Hid (∀ w, Calls Try.prog 12 #[.agg #[.float .f64 ya, .float .f64 yb]] w fun r w' => r = .returned (.tuple #[.float .f64 d2, .int .i64 0]) ∧ Below w.heap.size w w'))
    (cR2 : Hid (∀ w, Calls Try.prog 13 #[.agg #[.float .f64 ya, .float .f64 yb]] w fun r w' => r = .returned (.bool true) ∧ Below w.heap.size w w'))
    (q2 : Hid (Asked1 y ya yb d2))
    (cW3 : Hid (∀ w, Calls Try.prog 12 #[.agg #[.float .f64 za, .float .f64 zb]] w fun r w' => r = .returned (.tuple #[.float .f64 d3, .int .i64 0]) ∧ Below w.heap.size w w'))
    (cR3 : Hid (∀ w, Calls Try.prog 13 #[.agg #[.float .f64 za, .float .f64 zb]] w fun r w' => r = .returned (.bool true) ∧ Below w.heap.size w w'))
    (q3 : Hid (Asked1 z za zb d3)) :
    Calls Try.prog 3 #[.agg #[.float .f64 x, .float .f64 y, .float .f64 z]] w fun r w' => r = .returned (.bool true) ∧ Below w.heap.size w w' := by
  have M := Lib.hid ((Own.nil w).made #[.float .f64 x, .float .f64 y, .float .f64 z] 24)
  obtain ⟨k1, k2, k3⟩ := (M.out.nth 0 rfl).three
  go_enter Try.func3, Try.ntmps3
  go_wp2_with fail
  refine (c1.out _).mono ?_
  rintro r w1 ⟨rfl, hb⟩
  replace M := Lib.hid ((M.out.below hb).made #[.float .f64 xa, .float .f64 xb, .float .f64 ya, .float .f64 yb, .float .f64 za, .float .f64 zb] 28)
  clear hb k1 k2 k3 c1
  obtain ⟨k1, k2, k3⟩ := (M.out.nth 1 rfl).three
  go_upto_region 2 with fail
  clear k1 k2 k3
  revert M
  generalize w1.alloc (.cells #[.float .f64 xa, .float .f64 xb, .float .f64 ya, .float .f64 yb, .float .f64 za, .float .f64 zb] 28) = W
  intro M
  obtain ⟨k1, k2, k3⟩ := (M.out.nth 1 rfl).three
  go_region_held3 (fun w' => w'.cell? ⟨w.heap.size, 0, none⟩ = some (.float .f64 x) ∧ w'.cell? ⟨w.heap.size, 1, none⟩ = some (.float .f64 y) ∧ w'.cell? ⟨w.heap.size, 2, none⟩ = some (.float .f64 z)) (((try dsimp only); (repeat' apply And.intro); all_goals (repeat (first | (with_reducible assumption) | ((with_reducible refine keep_undrew ?_); (with_reducible assumption)) | (with_reducible refine keep_drew ?_) | (with_reducible refine keep_drewN _ ?_)))))
    (first
      | (go_at_call 5; (with_reducible refine (a1.out _).mono ?_); rintro rr w5 ⟨rfl, rfl⟩)
      | (go_at_call 5; (with_reducible refine (a2.out _).mono ?_); rintro rr w5 ⟨rfl, rfl⟩)
      | (go_at_call 5; (with_reducible refine (a3.out _).mono ?_); rintro rr w5 ⟨rfl, rfl⟩))
  clear k1 k2 k3 a1 a2 a3
  replace M := Lib.hid M.out.drew
  revert M
  generalize W.drew = W2
  intro M
  obtain ⟨k1, k2, k3⟩ := (M.out.nth 1 rfl).three
  go_wp2_with fail
  refine (cS.out _).mono ?_
  rintro r w3 ⟨rfl, hb⟩
  replace M := Lib.hid (M.out.below hb)
  clear hb k1 k2 k3
  replace M := Lib.hid (M.out.made #[.int .i64 0] 37)
  obtain ⟨k1, k2, k3, k4, k5, k6⟩ := (M.out.nth 1 rfl).six
  go_wp2_with fail
  refine (cN.out _ _ (M.out.nth 0 rfl)).mono ?_
  rintro r w4 ⟨rfl, hp⟩
  replace M := Lib.hid ((M.out.putAt 0 rfl hp).made #[.float .f64 nl, .float .f64 nh] 26)
  clear hp k1 k2 k3 k4 k5 k6
  go_wp2_with fail
  refine (err_any 0 _ 0 _ (M.out.nth 1 rfl).pc).mono ?_
  rintro r w5 ⟨rfl, rfl⟩
  obtain ⟨k1, k2⟩ := (M.out.nth 0 rfl).two
  go_wp2_with fail
  refine (cH.out _).mono ?_
  rintro r w6 ⟨rfl, hb⟩
  replace M := Lib.hid (M.out.below hb).tail.tail
  clear hb k1 k2
  obtain ⟨k1, k2, k3, k4, k5, k6⟩ := (M.out.nth 0 rfl).six
  have j0 : ∀ w, (Instr.index 42 (.agg #[.float .f64 xa, .float .f64 xb, .float .f64 ya, .float .f64 yb, .float .f64 za, .float .f64 zb]) (.int .i64 0)).run Try.prog w = .ok (.agg #[.float .f64 xa, .float .f64 xb]) w := fun _ => by kernel_rfl
  have i0 : ∀ w, (Instr.index 43 (.agg #[.float .f64 x, .float .f64 y, .float .f64 z]) (.int .i64 0)).run Try.prog w = .ok (.float .f64 x) w := fun _ => by kernel_rfl
  have j1 : ∀ w, (Instr.index 42 (.agg #[.float .f64 xa, .float .f64 xb, .float .f64 ya, .float .f64 yb, .float .f64 za, .float .f64 zb]) (.int .i64 1)).run Try.prog w = .ok (.agg #[.float .f64 ya, .float .f64 yb]) w := fun _ => by kernel_rfl
  have i1 : ∀ w, (Instr.index 43 (.agg #[.float .f64 x, .float .f64 y, .float .f64 z]) (.int .i64 1)).run Try.prog w = .ok (.float .f64 y) w := fun _ => by kernel_rfl
  have j2 : ∀ w, (Instr.index 42 (.agg #[.float .f64 xa, .float .f64 xb, .float .f64 ya, .float .f64 yb, .float .f64 za, .float .f64 zb]) (.int .i64 2)).run Try.prog w = .ok (.agg #[.float .f64 za, .float .f64 zb]) w := fun _ => by kernel_rfl
  have i2 : ∀ w, (Instr.index 43 (.agg #[.float .f64 x, .float .f64 y, .float .f64 z]) (.int .i64 2)).run Try.prog w = .ok (.float .f64 z) w := fun _ => by kernel_rfl
  go_wp2_with fail
  clear k1 k2 k3 k4 k5 k6
  go_loopw [65] (VuRel w [(w1.heap.size, #[.float .f64 xa, .float .f64 xb, .float .f64 ya, .float .f64 yb, .float .f64 za, .float .f64 zb]), (w.heap.size, #[.float .f64 x, .float .f64 y, .float .f64 z])]) (fun i _ => 4 - (intOf i).toNat)
  case atStart => exact ⟨0, Nat.zero_le _, rfl, M.out⟩
  case round =>
    clear M
    obtain ⟨k, hk, rfl, hM⟩ := hrel
    rcases (show k = 0 ∨ k = 1 ∨ k = 2 ∨ k = 3 by omega) with rfl | rfl | rfl | rfl
    · clear hk
      have M := Lib.hid (hM.made #[.float .f64 xa, .float .f64 xb] 26)
      clear hM
      obtain ⟨k1, k2, k3⟩ := (M.out.nth 2 rfl).three
      obtain ⟨l1, l2⟩ := (M.out.nth 0 rfl).two
      go_wp2_with fail
      refine (cW1.out _).mono ?_
      rintro rr w8 ⟨rfl, hb⟩
      replace M := Lib.hid (M.out.below hb)
      clear hb k1 k2 k3 l1 l2
      obtain ⟨l1, l2⟩ := (M.out.nth 0 rfl).two
      go_wp2_with fail
      refine (cR1.out _).mono ?_
      rintro rr w9 ⟨rfl, hb⟩
      replace M := Lib.hid (M.out.below hb)
      clear hb l1 l2
      obtain ⟨l1, l2⟩ := (M.out.nth 0 rfl).two
      have hq := run_eq_iv
      obtain ⟨p1, p2, p3, p4⟩ := q1.out
      rcases p4 with ⟨g1, g2, g3, g4⟩ | ⟨g1, g2, g3, g4⟩ | ⟨g1, g2, g3, g4, g5⟩
      · go_wp2
        go_roundw
        case rel => exact ⟨1, by omega, rfl, M.out.tail⟩
        case measure => decide
      · go_wp2
        go_roundw
        case rel => exact ⟨1, by omega, rfl, M.out.tail⟩
        case measure => decide
      · go_wp2
        go_roundw
        case rel => exact ⟨1, by omega, rfl, M.out.tail⟩
        case measure => decide
    · clear hk
      have M := Lib.hid (hM.made #[.float .f64 ya, .float .f64 yb] 26)
      clear hM
      obtain ⟨k1, k2, k3⟩ := (M.out.nth 2 rfl).three
      obtain ⟨l1, l2⟩ := (M.out.nth 0 rfl).two
      go_wp2_with fail
      refine (cW2.out _).mono ?_
      rintro rr w8 ⟨rfl, hb⟩
      replace M := Lib.hid (M.out.below hb)
      clear hb k1 k2 k3 l1 l2
      obtain ⟨l1, l2⟩ := (M.out.nth 0 rfl).two
      go_wp2_with fail
      refine (cR2.out _).mono ?_
      rintro rr w9 ⟨rfl, hb⟩
      replace M := Lib.hid (M.out.below hb)
      clear hb l1 l2
      obtain ⟨l1, l2⟩ := (M.out.nth 0 rfl).two
      have hq := run_eq_iv
      obtain ⟨p1, p2, p3, p4⟩ := q2.out
      rcases p4 with ⟨g1, g2, g3, g4⟩ | ⟨g1, g2, g3, g4⟩ | ⟨g1, g2, g3, g4, g5⟩
      · go_wp2
        go_roundw
        case rel => exact ⟨2, by omega, rfl, M.out.tail⟩
        case measure => decide
      · go_wp2
        go_roundw
        case rel => exact ⟨2, by omega, rfl, M.out.tail⟩
        case measure => decide
      · go_wp2
        go_roundw
        case rel => exact ⟨2, by omega, rfl, M.out.tail⟩
        case measure => decide
    · clear hk
      have M := Lib.hid (hM.made #[.float .f64 za, .float .f64 zb] 26)
      clear hM
      obtain ⟨k1, k2, k3⟩ := (M.out.nth 2 rfl).three
      obtain ⟨l1, l2⟩ := (M.out.nth 0 rfl).two
      go_wp2_with fail
      refine (cW3.out _).mono ?_
      rintro rr w8 ⟨rfl, hb⟩
      replace M := Lib.hid (M.out.below hb)
      clear hb k1 k2 k3 l1 l2
      obtain ⟨l1, l2⟩ := (M.out.nth 0 rfl).two
      go_wp2_with fail
      refine (cR3.out _).mono ?_
      rintro rr w9 ⟨rfl, hb⟩
      replace M := Lib.hid (M.out.below hb)
      clear hb l1 l2
      obtain ⟨l1, l2⟩ := (M.out.nth 0 rfl).two
      have hq := run_eq_iv
      obtain ⟨p1, p2, p3, p4⟩ := q3.out
      rcases p4 with ⟨g1, g2, g3, g4⟩ | ⟨g1, g2, g3, g4⟩ | ⟨g1, g2, g3, g4, g5⟩
      · go_wp2
        go_roundw
        case rel => exact ⟨3, by omega, rfl, M.out.tail⟩
        case measure => decide
      · go_wp2
        go_roundw
        case rel => exact ⟨3, by omega, rfl, M.out.tail⟩
        case measure => decide
      · go_wp2
        go_roundw
        case rel => exact ⟨3, by omega, rfl, M.out.tail⟩
        case measure => decide
    · clear hk
      go_wp2_with fail
      refine (awake5_any _).mono ?_
      rintro rr w8 ⟨rfl, hb⟩
      have M := Lib.hid (hM.below hb)
      go_wp2
      go_ret
      exact ⟨rfl, M.out.base⟩

end Go.Proofs.Ytlibfeegdjbhcaa

namespace Go.Proofs.Ytlibfeegdjbhcaa
open Go.RowKit

theorem eq_zero {x : Nat} (lx : x < 18446744073709551616) (rx : rightB x = true) : Op.floatEq .f64 x 0 = decide (val x = 0) := by
  show (FloatKind.f64.format.order x 0 == some Ordering.eq) = _
  rw [order_val x 0 lx (by decide) (right_rung x rx) (by decide), val_nil]
  rcases Int.lt_trichotomy (val x) 0 with g | g | g
  · rw [Int.compare_eq_lt.2 g, decide_eq_false (by omega)]; rfl
  · rw [Int.compare_eq_eq.2 g, decide_eq_true g]; rfl
  · rw [Int.compare_eq_gt.2 g, decide_eq_false (by omega)]; rfl
theorem eq_zero' {x : Nat} (lx : x < 18446744073709551616) (rx : rightB x = true) : (FloatKind.f64.format.order x 0 == some Ordering.eq) = decide (val x = 0) := eq_zero lx rx
theorem lits : val 13830554455654793216 = -SS ∧ val 4607182418800017408 = SS ∧ val 4391009636686233600 = 16 * DD ∧ val 4895412794951729152 = val 4895412794951729152 := by decide +kernel

theorem asked_of {x : Nat} {n p : Res} {m M : Int} (h : PartOf x n p m M) (lx : x < 18446744073709551616) (rx : rightB x = true) (f : Fit p) : Asked1 x p.lo p.hi (widthW p.lo p.hi) ∧ widthE p.lo p.hi = 0 := by
  obtain ⟨v1, v2, v3, _⟩ := lits
  have h1 := h.low
  have h2 := h.le
  have h3 := h.top
  have h4 := h.wide
  have d0 := dd_pos
  have u := sub_up p.hi p.lo f.rhi f.rlo
  have e1 : widthW p.lo p.hi = subW p.hi p.lo true := if_pos f.iv
  have e2 : widthE p.lo p.hi = subE p.hi p.lo true := if_pos f.iv
  rw [← e1, ← e2] at u
  have wd : val p.hi - val p.lo ≤ 16 * DD := by rcases h.side with ⟨_, a, b⟩ | ⟨_, a, b⟩ <;> omega
  have up : widthE p.lo p.hi = 0 ∧ widthW p.lo p.hi < 18446744073709551616 ∧ rightB (widthW p.lo p.hi) = true ∧ val (widthW p.lo p.hi) ≤ 16 * DD := by
    rcases u with ⟨a1, a2, a3, _, a5⟩ | ⟨_, _, a3⟩
    · refine ⟨a1, a2, a3, ?_⟩
      have := a5 4391009636686233600 (by decide) (by decide) (by rw [v3]; omega)
      rw [v3] at this; exact this
    · have := a3 4391009636686233600 (by decide) (by decide)
      rw [v3] at this; omega
  obtain ⟨p1, p2, p3, p4⟩ := up
  refine ⟨⟨?_, ?_, ?_, ?_⟩, p1⟩
  · rw [order_lt _ _ f.lo (by decide) f.rlo (by decide), v1]
    exact decide_eq_false (by rcases h.side with ⟨_, a, b⟩ | ⟨_, a, b⟩ <;> omega)
  · rw [order_gt _ _ f.hi (by decide) f.rhi (by decide), v2]
    exact decide_eq_false (by rcases h.side with ⟨_, a, b⟩ | ⟨_, a, b⟩ <;> omega)
  · rw [order_gt _ _ p2 (by decide) p3 (by decide), v3]
    exact decide_eq_false (by omega)
  · rw [order_gt x 0 lx (by decide) rx right_0, order_lt x 0 lx (by decide) rx right_0, eq_zero' lx rx, order_lt p.lo 0 f.lo (by decide) f.rlo right_0, order_gt p.hi 0 f.hi (by decide) f.rhi right_0, eq_zero f.lo f.rlo, eq_zero f.hi f.rhi, val_nil]
    rcases Int.lt_trichotomy (val x) 0 with g | g | g
    · refine Or.inr (Or.inl ⟨decide_eq_false (by omega), decide_eq_true g, decide_eq_false (by omega), decide_eq_false ?_⟩)
      rcases h.side with ⟨_, a, b⟩ | ⟨_, a, b⟩ <;> omega
    · have hM := h.nil g
      refine Or.inr (Or.inr ⟨decide_eq_false (by omega), decide_eq_false (by omega), decide_eq_true g, decide_eq_true ?_, decide_eq_true ?_⟩)
      · rcases h.side with ⟨_, a, b⟩ | ⟨_, a, b⟩ <;> omega
      · rcases h.side with ⟨_, a, b⟩ | ⟨_, a, b⟩ <;> omega
    · refine Or.inl ⟨decide_eq_true g, decide_eq_false (by omega), decide_eq_false (by omega), decide_eq_false ?_⟩
      rcases h.side with ⟨_, a, b⟩ | ⟨_, a, b⟩ <;> omega

theorem small_val {x : Nat} (_lx : x < 18446744073709551616) (h : smallN x = true) : rightB x = true ∧ val (rung x) ≤ val 4895412794951729152 := by
  unfold smallN okN at h
  rw [Bool.and_eq_true] at h
  obtain ⟨h1, h2⟩ := h
  obtain ⟨p1, p2⟩ := rung_right x h1
  rw [order_gt _ _ p1 (by decide) p2 (by decide)] at h2
  simp at h2
  exact ⟨h1, h2⟩
theorem small_of {x : Nat} (h1 : rightB x = true) (h2 : val (rung x) ≤ val 4895412794951729152) : smallN x = true := by
  obtain ⟨p1, p2⟩ := rung_right x h1
  unfold smallN okN
  rw [order_gt _ _ p1 (by decide) p2 (by decide), h1, decide_eq_false (by omega)]; rfl

set_option maxRecDepth 100000 in
theorem vecUnit_any (x y z : Nat) (w : World) (lx : x < 18446744073709551616) (ly : y < 18446744073709551616) (lz : z < 18446744073709551616) :
    Calls Try.prog 3 #[.agg #[.float .f64 x, .float .f64 y, .float .f64 z]] w fun r w' => r = .returned (.bool true) ∧ Below w.heap.size w w' := by
  have a1 := Lib.hid (fun w => abs_any x w lx)
  have a2 := Lib.hid (fun w => abs_any y w ly)
  have a3 := Lib.hid (fun w => abs_any z w lz)
  have cS := Lib.hid (fun w => small_any x y z w lx ly lz)
  cases hs : (smallN x && smallN y && smallN z)
  · rw [hs] at cS
    have hU : hasU x y z = false := by
      cases hU : hasU x y z
      · rfl
      · exfalso
        unfold hasU leB at hU
        simp only [Bool.and_eq_true, decide_eq_true_eq] at hU
        obtain ⟨⟨⟨h1, h2⟩, h3⟩, g1, g2⟩ := hU
        obtain ⟨_, _, mv⟩ := most_val h1 h2 h3
        rw [mv] at g2
        rw [small_of h1 (by omega), small_of h2 (by omega), small_of h3 (by omega)] at hs
        exact absurd hs (by decide)
    exact vunit_far x y z _ _ _ w (Lib.hid fun w => unit_bad x y z w lx ly lz hU) a1 a2 a3 cS
  · rw [hs] at cS
    rw [Bool.and_eq_true, Bool.and_eq_true] at hs
    obtain ⟨⟨k1, k2⟩, k3⟩ := hs
    obtain ⟨h1, g1⟩ := small_val lx k1
    obtain ⟨h2, g2⟩ := small_val ly k2
    obtain ⟨h3, g3⟩ := small_val lz k3
    obtain ⟨m1, m2, mv⟩ := most_val h1 h2 h3
    obtain ⟨p1, p2⟩ := rung_right x h1
    obtain ⟨q1, q2⟩ := rung_right y h2
    obtain ⟨s1, s2⟩ := rung_right z h3
    have o := order_lt (mostW x y z) 4318952042648305664 m1 (by decide) m2 (by decide)
    have hm : ∀ ts t w, (Builtin.max_ ts t #[.float .f64 (rung x), .float .f64 (rung y), .float .f64 (rung z)]).run Try.prog w = .ok (.float .f64 (mostW x y z)) w := fun ts t w => run_max3 _ _ _ p1 q1 s1 p2 q2 s2 ts t w
    rcases Int.lt_or_le (val (mostW x y z)) (val 4318952042648305664) with g | g
    · rw [decide_eq_true g] at o
      have hU : hasU x y z = false := by
        unfold hasU leB
        rw [decide_eq_false (show ¬ val 4318952042648305664 ≤ val (mostW x y z) by omega), Bool.false_and, Bool.and_false]
      exact vunit_low x y z _ _ _ _ w (Lib.hid fun w => unit_bad x y z w lx ly lz hU) a1 a2 a3 cS hm o
    · rw [decide_eq_false (by omega)] at o
      have hU : hasU x y z = true := by
        unfold hasU leB
        rw [h1, h2, h3, decide_eq_true g, decide_eq_true (show val (mostW x y z) ≤ val 4895412794951729152 by rw [mv]; omega)]; rfl
      obtain ⟨fN, f1, f2, f3⟩ := unit_fits x y z lx ly lz hU
      obtain ⟨fV, eV, n1, n2, ⟨_, _, px⟩, ⟨_, _, py⟩, ⟨_, _, pz⟩⟩ := unit_all x y z lx ly lz hU
      have iO : Fit (normV 0 (unitV x y z)) := (normV_in (a := unitV x y z) eV rfl (.refl fV) fV).1
      obtain ⟨qx, wx⟩ := asked_of px lx h1 fV.x
      obtain ⟨qy, wy⟩ := asked_of py ly h2 fV.y
      obtain ⟨qz, wz⟩ := asked_of pz lz h3 fV.z
      have cW : ∀ {p : Res}, Fit p → widthE p.lo p.hi = 0 → ∀ w, Calls Try.prog 12 #[.agg #[.float .f64 p.lo, .float .f64 p.hi]] w fun r w' => r = .returned (.tuple #[.float .f64 (widthW p.lo p.hi), .int .i64 0]) ∧ Below w.heap.size w w' := fun f he w => by
        have h := width_any _ _ w f.lo f.hi
        rw [he] at h; exact h
      have cR : ∀ {p : Res}, Fit p → ∀ w, Calls Try.prog 13 #[.agg #[.float .f64 p.lo, .float .f64 p.hi]] w fun r w' => r = .returned (.bool true) ∧ Below w.heap.size w w' := fun f w => by
        have h := ivRight_any _ _ w f.lo f.hi
        rw [f.iv] at h; exact h
      have hN := fun pb v hC => norm_any (a := unitV x y z) 0 ⟨fV.x.wd, fV.y.wd, fV.z.wd⟩ pb v hC
      rw [eV] at hN
      have cH : ∀ w, Calls Try.prog 11 #[.agg #[.float .f64 (normV 0 (unitV x y z)).lo, .float .f64 (normV 0 (unitV x y z)).hi], .float .f64 4607182418800017408] w fun r w' => r = .returned (.bool true) ∧ Below w.heap.size w w' := fun w => by
        have h := has_any (normV 0 (unitV x y z)).lo (normV 0 (unitV x y z)).hi 4607182418800017408 w iO.lo iO.hi
        have e : hasB (normV 0 (unitV x y z)).lo (normV 0 (unitV x y z)).hi 4607182418800017408 = true := by
          obtain ⟨_, v2, _⟩ := lits
          have l1 : rawLe (normV 0 (unitV x y z)).lo 4607182418800017408 = leB _ _ := order_le _ _ iO.lo (by decide) iO.rlo (by decide)
          have l2 : rawLe 4607182418800017408 (normV 0 (unitV x y z)).hi = leB _ _ := order_le _ _ (by decide) iO.hi (by decide) iO.rhi
          unfold hasB
          rw [iO.iv, l1, l2]
          unfold leB
          rw [v2, decide_eq_true n1, decide_eq_true n2]; rfl
        rw [e] at h; exact h
      exact vunit_law x y z _ _ _ _ _ _ _ _ _ _ _ _ _ _ _ w (Lib.hid fun w => unit_any x y z w lx ly lz hU fN f1 f2 f3) a1 a2 a3 cS hm o (Lib.hid hN) (Lib.hid cH)
        (Lib.hid (cW fV.x wx)) (Lib.hid (cR fV.x)) (Lib.hid qx) (Lib.hid (cW fV.y wy)) (Lib.hid (cR fV.y)) (Lib.hid qy) (Lib.hid (cW fV.z wz)) (Lib.hid (cR fV.z)) (Lib.hid qz)

end Go.Proofs.Ytlibfeegdjbhcaa
