
/- Package ggx: the mathematics: what its results are, parts, boxes, what real numbers they have. No program is named here. -/
import Derived.Test.YtdppppaoflhgdaaQO2
import Derived.Test.YtdppppaoflhgdaaLmM
namespace Go.Proofs.Ytdppppaoflhgdaa
open Go.RowKit

def uh : Nat := 4602678819172646912
theorem uh_fit : Fit (oneR uh) := one_fit (by decide) (by decide)
/-- Alphas: from 2^-5 to 1, from 2^-3 to 1; cosines: from 2^-8 to 1. -/
def aI : Res := ⟨0, 4584664420663164928, u1⟩
def aJ : Res := ⟨0, 4593671619917905920, u1⟩
def cI8 : Res := ⟨0, 4571153621781053440, u1⟩
theorem aI_fit : Fit aI := .of (by decide +kernel)
theorem aJ_fit : Fit aJ := .of (by decide +kernel)
theorem cI8_fit : Fit cI8 := .of (by decide +kernel)
/-- An end below 0 becomes 0. -/
def nnR (r : Res) : Res := ⟨r.e, maxW r.lo 0, maxW r.hi 0⟩
theorem nn_fit {a : Res} (h : Fit a) : Fit (nnR a) := by
  obtain ⟨l1, l2, l3⟩ := max_facts a.lo 0 h.lo (by decide) h.rlo (by decide)
  obtain ⟨k1, k2, k3⟩ := max_facts a.hi 0 h.hi (by decide) h.rhi (by decide)
  have hle := h.le
  refine ⟨h.e, l1, k1, ?_⟩
  show ivR (maxW a.lo 0) (maxW a.hi 0) = true
  unfold ivR leB
  rw [l2, k2, decide_eq_true (show val (maxW a.lo 0) ≤ val (maxW a.hi 0) by rw [l3, k3]; omega)]; rfl
theorem nn_in {a A : Res} (h : In a A) (fA : Fit A) : In (nnR a) (nnR A) := by
  obtain ⟨_, _, l3⟩ := max_facts a.lo 0 h.fit.lo (by decide) h.fit.rlo (by decide)
  obtain ⟨_, _, k3⟩ := max_facts a.hi 0 h.fit.hi (by decide) h.fit.rhi (by decide)
  obtain ⟨_, _, m3⟩ := max_facts A.lo 0 fA.lo (by decide) fA.rlo (by decide)
  obtain ⟨_, _, n3⟩ := max_facts A.hi 0 fA.hi (by decide) fA.rhi (by decide)
  have h1 := h.lo
  have h2 := h.hi
  refine ⟨nn_fit h.fit, ?_, ?_⟩
  · show val (maxW A.lo 0) ≤ val (maxW a.lo 0)
    rw [l3, m3]; omega
  · show val (maxW a.hi 0) ≤ val (maxW A.hi 0)
    rw [k3, n3]; omega
/-- What is not below 0 stays. -/
theorem nn_id {a : Res} (h : Fit a) (p : 0 ≤ val a.lo) : nnR a = a := by
  have hle := h.le
  have key : ∀ {x : Nat}, x < 18446744073709551616 → rightB x = true → 0 ≤ val x → maxW x 0 = x := fun {x} l r p => by
    obtain ⟨l1, l2, l3⟩ := max_facts x 0 l (by decide) r (by decide)
    exact val_inj l1 l l2 r (by rw [l3, v00]; omega)
  unfold nnR
  rw [key h.lo h.rlo p, key h.hi h.rhi (by omega)]

def Gx.a2 (a : Res) : Res := sqrR a
def Gx.s1 (a : Res) : Res := subR (Gx.a2 a) (oneR u1)
def Gx.c2 (c : Res) : Res := sqrR c
def Gx.pm (c a : Res) : Res := mulR (Gx.s1 a) (Gx.c2 c)
def Gx.sp (c a : Res) : Res := addR (Gx.pm c a) (oneR u1)
def Gx.sq (c a : Res) : Res := sqrR (Gx.sp c a)
def Gx.pq (c a : Res) : Res := mulR piR (Gx.sq c a)
def Gx.D (c a : Res) : Res := divR (Gx.a2 a) (Gx.pq c a)
def Gx.n (c : Res) : Res := subR (oneR u1) (Gx.c2 c)
def Gx.F (c a : Res) : Res := divR (Gx.n c) (Gx.sp c a)
def Gx.t (c : Res) : Res := divR (Gx.n c) (Gx.c2 c)
def Gx.m (c a : Res) : Res := mulR (Gx.a2 a) (Gx.t c)
def Gx.p (c a : Res) : Res := addR (oneR u1) (Gx.m c a)
def Gx.r (c a : Res) : Res := sqrtR (Gx.p c a)
def Gx.d (c a : Res) : Res := subR (Gx.r c a) (oneR u1)
def Gx.h (c a : Res) : Res := mulR (oneR uh) (Gx.d c a)
def Gx.l (c a : Res) : Res := nnR (Gx.h c a)
def Gx.q (c a : Res) : Res := addR (oneR u1) (Gx.l c a)
def Gx.v (c a : Res) : Res := divR (oneR u1) (Gx.q c a)
/-- The visible part for two. -/
def Gx.q2 (i o a : Res) : Res := addR (Gx.q i a) (Gx.l o a)
def Gx.w (i o a : Res) : Res := divR (oneR u1) (Gx.q2 i o a)

structure GF (c a : Res) : Prop where
  a2 : Fit (Gx.a2 a)
  s1 : Fit (Gx.s1 a)
  c2 : Fit (Gx.c2 c)
  pm : Fit (Gx.pm c a)
  sp : Fit (Gx.sp c a)
  sq : Fit (Gx.sq c a)
  pq : Fit (Gx.pq c a)
  D : Fit (Gx.D c a)
  n : Fit (Gx.n c)
  F : Fit (Gx.F c a)
structure LF (c a : Res) : Prop where
  t : Fit (Gx.t c)
  m : Fit (Gx.m c a)
  p : Fit (Gx.p c a)
  r : Fit (Gx.r c a)
  d : Fit (Gx.d c a)
  h : Fit (Gx.h c a)
  l : Fit (Gx.l c a)
  q : Fit (Gx.q c a)
  v : Fit (Gx.v c a)
structure GI (c a C A : Res) : Prop where
  a2 : In (Gx.a2 a) (Gx.a2 A)
  s1 : In (Gx.s1 a) (Gx.s1 A)
  c2 : In (Gx.c2 c) (Gx.c2 C)
  pm : In (Gx.pm c a) (Gx.pm C A)
  sp : In (Gx.sp c a) (Gx.sp C A)
  sq : In (Gx.sq c a) (Gx.sq C A)
  pq : In (Gx.pq c a) (Gx.pq C A)
  D : In (Gx.D c a) (Gx.D C A)
  n : In (Gx.n c) (Gx.n C)
  F : In (Gx.F c a) (Gx.F C A)
structure LI (c a C A : Res) : Prop where
  t : In (Gx.t c) (Gx.t C)
  m : In (Gx.m c a) (Gx.m C A)
  p : In (Gx.p c a) (Gx.p C A)
  r : In (Gx.r c a) (Gx.r C A)
  d : In (Gx.d c a) (Gx.d C A)
  h : In (Gx.h c a) (Gx.h C A)
  l : In (Gx.l c a) (Gx.l C A)
  q : In (Gx.q c a) (Gx.q C A)
  v : In (Gx.v c a) (Gx.v C A)
section
variable {c a C A : Res}
theorem gi_of (K : GF C A) (fc : Fit C) (fa : Fit A) (hc : In c C) (ha : In a A) : GI c a C A := by
  have i_a2 : In (Gx.a2 a) (Gx.a2 A) := sqr_in ha fa K.a2.e
  have i_s1 : In (Gx.s1 a) (Gx.s1 A) := sub_in i_a2 K.a2 (.refl u1_fit) u1_fit K.s1.e
  have i_c2 : In (Gx.c2 c) (Gx.c2 C) := sqr_in hc fc K.c2.e
  have i_pm : In (Gx.pm c a) (Gx.pm C A) := mul_in i_s1 K.s1 i_c2 K.c2 K.pm.e
  have i_sp : In (Gx.sp c a) (Gx.sp C A) := add_in i_pm K.pm (.refl u1_fit) u1_fit K.sp.e
  have i_sq : In (Gx.sq c a) (Gx.sq C A) := sqr_in i_sp K.sp K.sq.e
  have i_pq : In (Gx.pq c a) (Gx.pq C A) := mul_in (.refl big_fit.1) big_fit.1 i_sq K.sq K.pq.e
  have i_D : In (Gx.D c a) (Gx.D C A) := div_in i_a2 K.a2 i_pq K.pq K.D.e
  have i_n : In (Gx.n c) (Gx.n C) := sub_in (.refl u1_fit) u1_fit i_c2 K.c2 K.n.e
  have i_F : In (Gx.F c a) (Gx.F C A) := div_in i_n K.n i_sp K.sp K.F.e
  exact ⟨i_a2, i_s1, i_c2, i_pm, i_sp, i_sq, i_pq, i_D, i_n, i_F⟩
theorem li_of (K : GF C A) (L : LF C A) (fc : Fit C) (fa : Fit A) (hc : In c C) (ha : In a A) : LI c a C A := by
  have I := gi_of K fc fa hc ha
  have i_t : In (Gx.t c) (Gx.t C) := div_in I.n K.n I.c2 K.c2 L.t.e
  have i_m : In (Gx.m c a) (Gx.m C A) := mul_in I.a2 K.a2 i_t L.t L.m.e
  have i_p : In (Gx.p c a) (Gx.p C A) := add_in (.refl u1_fit) u1_fit i_m L.m L.p.e
  have i_r : In (Gx.r c a) (Gx.r C A) := sqrt_in i_p L.p L.r.e
  have i_d : In (Gx.d c a) (Gx.d C A) := sub_in i_r L.r (.refl u1_fit) u1_fit L.d.e
  have i_h : In (Gx.h c a) (Gx.h C A) := mul_in (.refl uh_fit) uh_fit i_d L.d L.h.e
  have i_l : In (Gx.l c a) (Gx.l C A) := nn_in i_h L.h
  have i_q : In (Gx.q c a) (Gx.q C A) := add_in (.refl u1_fit) u1_fit i_l L.l L.q.e
  have i_v : In (Gx.v c a) (Gx.v C A) := div_in (.refl u1_fit) u1_fit i_q L.q L.v.e
  exact ⟨i_t, i_m, i_p, i_r, i_d, i_h, i_l, i_q, i_v⟩
theorem GI.fits (h : GI c a C A) : GF c a := ⟨h.a2.fit, h.s1.fit, h.c2.fit, h.pm.fit, h.sp.fit, h.sq.fit, h.pq.fit, h.D.fit, h.n.fit, h.F.fit⟩
theorem LI.fits (h : LI c a C A) : LF c a := ⟨h.t.fit, h.m.fit, h.p.fit, h.r.fit, h.d.fit, h.h.fit, h.l.fit, h.q.fit, h.v.fit⟩
def okG (C A : Res) : Bool := fitB (Gx.a2 A) && fitB (Gx.s1 A) && fitB (Gx.c2 C) && fitB (Gx.pm C A) && fitB (Gx.sp C A) && fitB (Gx.sq C A) && fitB (Gx.pq C A) && fitB (Gx.D C A) && fitB (Gx.n C) && fitB (Gx.F C A)
def okL (C A : Res) : Bool := fitB (Gx.t C) && fitB (Gx.m C A) && fitB (Gx.p C A) && fitB (Gx.r C A) && fitB (Gx.d C A) && fitB (Gx.h C A) && fitB (Gx.l C A) && fitB (Gx.q C A) && fitB (Gx.v C A)
theorem gf_of (h : okG C A = true) : GF C A := by
  unfold okG at h
  simp only [Bool.and_eq_true] at h
  obtain ⟨⟨⟨⟨⟨⟨⟨⟨⟨h_a2, h_s1⟩, h_c2⟩, h_pm⟩, h_sp⟩, h_sq⟩, h_pq⟩, h_D⟩, h_n⟩, h_F⟩ := h
  exact ⟨.of h_a2, .of h_s1, .of h_c2, .of h_pm, .of h_sp, .of h_sq, .of h_pq, .of h_D, .of h_n, .of h_F⟩
theorem lf_of (h : okL C A = true) : LF C A := by
  unfold okL at h
  simp only [Bool.and_eq_true] at h
  obtain ⟨⟨⟨⟨⟨⟨⟨⟨h_t, h_m⟩, h_p⟩, h_r⟩, h_d⟩, h_h⟩, h_l⟩, h_q⟩, h_v⟩ := h
  exact ⟨.of h_t, .of h_m, .of h_p, .of h_r, .of h_d, .of h_h, .of h_l, .of h_q, .of h_v⟩
end
theorem gf_box : GF ouI aI := gf_of (by decide +kernel)
theorem lf_box : LF cI8 aI := lf_of (by decide +kernel)
theorem gf_box8 : GF cI8 aI := gf_of (by decide +kernel)
theorem lf_one : LF (oneR u1) aI := lf_of (by decide +kernel)
theorem gf_one : GF (oneR u1) aI := gf_of (by decide +kernel)
theorem gf_nil : GF (oneR 0) aI := gf_of (by decide +kernel)
theorem gx_lows : 0 < val (Gx.sp ouI aI).lo ∧ 0 < val (Gx.pq ouI aI).lo ∧ 0 < val (Gx.c2 cI8).lo ∧ 0 ≤ val (Gx.h cI8 aI).lo ∧ 0 < val (Gx.q cI8 aI).lo := by decide +kernel
/-- At the ends Facing is 1 and 0; straight above all is seen. -/
theorem at_ends : ((Gx.F (oneR 0) aI).lo = u1 ∧ (Gx.F (oneR 0) aI).hi = u1) ∧ ((Gx.F (oneR u1) aI).lo = 0 ∧ (Gx.F (oneR u1) aI).hi = 0) ∧ (Gx.v (oneR u1) aI).lo = u1 ∧ (Gx.v (oneR u1) aI).hi = u1 := by decide +kernel
theorem in_point {r R : Res} {x : Nat} (h : In r R) (e : R.lo = x ∧ R.hi = x) (lx : x < 18446744073709551616) (rx : rightB x = true) : r.lo = x ∧ r.hi = x := by
  have h1 : val x ≤ val r.lo := by rw [← e.1]; exact h.lo
  have h2 : val r.hi ≤ val x := by rw [← e.2]; exact h.hi
  have h3 := h.fit.le
  exact ⟨val_inj h.fit.lo lx h.fit.rlo rx (by omega), val_inj h.fit.hi lx h.fit.rhi rx (by omega)⟩
theorem u1_in : In (oneR u1) ouI := ⟨u1_fit, by decide +kernel, by decide +kernel⟩
theorem nil_in : In (oneR 0) ouI := ⟨Or.z_fit, by decide +kernel, by decide +kernel⟩
theorem a1_in : In (oneR u1) aI := ⟨u1_fit, by decide +kernel, by decide +kernel⟩
theorem cI8_in : In cI8 ouI := ⟨cI8_fit, by decide +kernel, by decide +kernel⟩
theorem aJ_in : In aJ aI := ⟨aJ_fit, by decide +kernel, by decide +kernel⟩
section
variable {c a : Res}
theorem g_in (hc : In c ouI) (ha : In a aI) : GI c a ouI aI := gi_of gf_box ou_fit aI_fit hc ha
theorem g8_in (hc : In c cI8) (ha : In a aI) : GI c a cI8 aI := gi_of gf_box8 cI8_fit aI_fit hc ha
theorem l8_in (hc : In c cI8) (ha : In a aI) : LI c a cI8 aI := li_of gf_box8 lf_box cI8_fit aI_fit hc ha
theorem face_0 (ha : In a aI) : (Gx.F (oneR 0) a).lo = u1 ∧ (Gx.F (oneR 0) a).hi = u1 := by
  have h := (gi_of gf_nil Or.z_fit aI_fit (.refl Or.z_fit) ha).F
  exact in_point h at_ends.1 (by decide) (by decide)
theorem face_1 (ha : In a aI) : (Gx.F (oneR u1) a).lo = 0 ∧ (Gx.F (oneR u1) a).hi = 0 := by
  have h := (gi_of gf_one u1_fit aI_fit (.refl u1_fit) ha).F
  exact in_point h at_ends.2.1 (by decide) (by decide)
theorem seen_1 (ha : In a aI) : (Gx.v (oneR u1) a).lo = u1 ∧ (Gx.v (oneR u1) a).hi = u1 := by
  have h := (li_of gf_one lf_one u1_fit aI_fit (.refl u1_fit) ha).v
  exact in_point h at_ends.2.2 (by decide) (by decide)
/-- Lambda's root is of what is at least 1: its clamp changes nothing. -/
theorem lam_h (hc : In c cI8) (ha : In a aI) : Gx.l c a = Gx.h c a := by
  have I := l8_in hc ha
  exact nn_id I.h.fit (by have := I.h.lo; have := gx_lows.2.2.2.1; omega)

/-- The real numbers. -/
theorem one_has : HasQ (oneR u1) 1 := by have h := rv_has u1; rw [rv_1] at h; exact h
theorem half_has : HasQ (oneR uh) (1 / 2) := by
  refine (HasQ.ofV (r := oneR uh) (P := 2) (T := 1) ⟨by decide, by decide +kernel, by decide +kernel⟩).turn ?_
  rfl
def spQ (c a : Rat) : Rat := (a * a - 1) * (c * c) + 1
section
variable {x y : Rat}
theorem sp_has (K : GF c a) (fc : Fit c) (fa : Fit a) (hx : HasQ c x) (hy : HasQ a y) : HasQ (Gx.sp c a) (spQ x y) := by
  have k1 := HasQ.sqr fa hy K.a2.e
  have k2 := HasQ.sub K.a2 u1_fit k1 one_has K.s1.e
  have k3 := HasQ.sqr fc hx K.c2.e
  have k4 := HasQ.mul K.s1 K.c2 k2 k3 K.pm.e
  exact HasQ.add K.pm u1_fit k4 one_has K.sp.e
theorem D_has (hc : In c ouI) (ha : In a aI) (hx : HasQ c x) (hy : HasQ a y) : HasQ (Gx.D c a) (y * y / (Qp * (spQ x y * spQ x y))) := by
  have I := g_in hc ha
  have K := I.fits
  have k1 := sp_has K hc.fit ha.fit hx hy
  have k2 := HasQ.sqr K.sp k1 K.sq.e
  have k3 := HasQ.mul big_fit.1 K.sq pi_has k2 K.pq.e
  have k4 := HasQ.sqr ha.fit hy K.a2.e
  exact HasQ.div K.a2 K.pq k4 k3 (by have := I.pq.lo; have := gx_lows.2.1; omega) K.D.e
theorem n_has (K : GF c a) (fc : Fit c) (hx : HasQ c x) : HasQ (Gx.n c) (1 - x * x) :=
  HasQ.sub u1_fit K.c2 one_has (HasQ.sqr fc hx K.c2.e) K.n.e
theorem F_has (hc : In c ouI) (ha : In a aI) (hx : HasQ c x) (hy : HasQ a y) : HasQ (Gx.F c a) ((1 - x * x) / spQ x y) := by
  have I := g_in hc ha
  have K := I.fits
  exact HasQ.div K.n K.sp (n_has K hc.fit hx) (sp_has K hc.fit ha.fit hx hy) (by have := I.sp.lo; have := gx_lows.1; omega) K.F.e
end
end

/-- Of two real numbers: what Facing falls by between them, and D. -/
theorem spQ_pos {x y : Rat} (y0 : 0 < y) (x0 : 0 ≤ x) (x1 : x ≤ 1) : 0 < spQ x y := by
  have a := Rat.mul_nonneg (by grind : 0 ≤ 1 - x) (by grind : 0 ≤ 1 + x)
  have b := Rat.mul_pos y0 y0
  have c := Rat.mul_nonneg x0 x0
  unfold spQ
  by_cases g : x * x = 1
  · rw [g]; grind
  · have d := Rat.mul_nonneg (Rat.le_of_lt b) c
    grind
theorem spQ_falls {x z y : Rat} (_y0 : 0 < y) (y1 : y ≤ 1) (x0 : 0 ≤ x) (h : x ≤ z) : spQ z y ≤ spQ x y := by
  have a := Rat.mul_nonneg (by grind : 0 ≤ z - x) (by grind : 0 ≤ z + x)
  have b := Rat.mul_nonneg (by grind : 0 ≤ 1 - y) (by grind : 0 ≤ 1 + y)
  have c := Rat.mul_nonneg a b
  unfold spQ
  grind
end Go.Proofs.Ytdppppaoflhgdaa
