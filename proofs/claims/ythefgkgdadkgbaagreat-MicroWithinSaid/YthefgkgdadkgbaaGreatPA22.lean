/- What the claim stands on, part 23: GgB. -/
import Derived.Test.YthefgkgdadkgbaaGreatPA21
import Derived.Test.YthefgkgdadkgbaaGreatPA19
namespace Go.Proofs.YthefgkgdadkgbaaGreat
open Go.RowKit

structure Wr (a : Res) : Prop where
  lo : a.lo < 18446744073709551616
  hi : a.hi < 18446744073709551616
  rlo : rightB a.lo = true
  rhi : rightB a.hi = true
theorem Fit.wr {a : Res} (h : Fit a) : Wr a := ⟨h.lo, h.hi, h.rlo, h.rhi⟩
theorem wr_nil {r : Res} (h : Nil0 r) (he : r.e ≠ 0) : Wr r := by
  obtain ⟨h1, h2⟩ := h he
  exact ⟨by rw [h1]; decide, by rw [h2]; decide, by rw [h1]; decide, by rw [h2]; decide⟩
def stD (e : Int) (a b : Res) : Res := stepI e (ivR a.lo a.hi && ivR b.lo b.hi) (divR a b)
def stU (e : Int) (x : Nat) : Res := stepI e true (ofI x)
theorem st2_wr {j : Nat} (hj : j < 6) (e : Int) {a b : Res} (ha : Wr a) (hb : Wr b) : Wr (stepI e (ivR a.lo a.hi && ivR b.lo b.hi) (askI a.lo a.hi b.lo b.hi j)) := by
  by_cases h : (stepI e (ivR a.lo a.hi && ivR b.lo b.hi) (askI a.lo a.hi b.lo b.hi j)).e = 0
  · obtain ⟨_, h2, h3⟩ := st_none h
    rw [Bool.and_eq_true] at h2
    rw [h3] at h ⊢
    obtain ⟨n1, n2, n3, n4⟩ := ask_nums a.lo a.hi b.lo b.hi j (by omega) ha.lo ha.hi hb.lo hb.hi h2.1 h2.2 h
    exact ⟨n1, n3, n2, n4⟩
  · refine wr_nil ?_ h
    have hn := ask_nil e a.lo a.hi b.lo b.hi j (by omega)
    rcases (show j = 0 ∨ j = 1 ∨ j = 2 ∨ j = 3 ∨ j = 4 ∨ j = 5 by omega) with rfl | rfl | rfl | rfl | rfl | rfl <;> exact hn
theorem st1_wr {j : Nat} (hj : j = 6 ∨ j = 7) (e : Int) {a : Res} (ha : Wr a) : Wr (stepI e (ivR a.lo a.hi) (askI a.lo a.hi a.lo a.hi j)) := by
  by_cases h : (stepI e (ivR a.lo a.hi) (askI a.lo a.hi a.lo a.hi j)).e = 0
  · obtain ⟨_, h2, h3⟩ := st_none h
    rw [h3] at h ⊢
    obtain ⟨n1, n2, n3, n4⟩ := ask_nums a.lo a.hi a.lo a.hi j (by omega) ha.lo ha.hi ha.lo ha.hi h2 h2 h
    exact ⟨n1, n3, n2, n4⟩
  · refine wr_nil ?_ h
    have hn := ask_nil e a.lo a.hi a.lo a.hi j (by omega)
    rcases hj with rfl | rfl <;> exact hn
theorem stU_wr (e : Int) {x : Nat} (f : Fit (oneR x)) : Wr (stU e x) := by
  unfold stU stepI ofI
  have rx : rightB x = true := f.rlo
  have lx : x < 18446744073709551616 := f.lo
  rw [if_pos rfl, if_pos rx]
  split
  · exact ⟨lx, lx, rx, rx⟩
  · exact ⟨show 0 < 18446744073709551616 by decide, show 0 < 18446744073709551616 by decide, right_0, right_0⟩
theorem nn_wr {a : Res} (h : Wr a) : Wr (nnR a) := by
  obtain ⟨l1, l2, _⟩ := max_facts a.lo 0 h.lo (by decide) h.rlo (by decide)
  obtain ⟨k1, k2, _⟩ := max_facts a.hi 0 h.hi (by decide) h.rhi (by decide)
  exact ⟨l1, k1, l2, k2⟩
section
variable {a b : Res} (e : Int) (ha : Wr a) (hb : Wr b)
include ha hb in
theorem stA_wr : Wr (stA e a b) := st2_wr (j := 0) (by decide) e ha hb
include ha hb in
theorem stS_wr : Wr (stS e a b) := st2_wr (j := 1) (by decide) e ha hb
include ha hb in
theorem stM_wr : Wr (stM e a b) := st2_wr (j := 2) (by decide) e ha hb
include ha hb in
theorem stD_wr : Wr (stD e a b) := st2_wr (j := 3) (by decide) e ha hb
include ha in
theorem stQ_wr : Wr (stQ e a) := st1_wr (j := 6) (by decide) e ha
include ha in
theorem stR_wr : Wr (stR e a) := st1_wr (j := 7) (by decide) e ha
end

abbrev C0 (f : FuncId) (pb : Nat) (e : Int) (xs : Array Value) (R : Res) : Prop := ∀ v : World, v.cell? ⟨pb, 0, none⟩ = some (.int .i64 e) → v.frozen? ⟨pb, 0, none⟩ = false →
  Calls Tryz.prog f (#[.pointer (some ⟨pb, 0, none⟩)] ++ xs) v fun r w' => r = .returned (.agg #[.float .f64 R.lo, .float .f64 R.hi]) ∧ Put ⟨pb, 0, none⟩ (.int .i64 R.e) v w'
section
variable {a b : Res} (e : Int) (ha : Wr a) (hb : Wr b) (pb : Nat)
theorem s_num {x : Nat} (f : Fit (oneR x)) : C0 21 pb e #[.float .f64 x] (stU e x) := fun v hc hf => told_e (cNum_any e x pb 0 v f.lo hc hf)
include ha hb in
theorem s_add : C0 60 pb e #[.agg #[.float .f64 a.lo, .float .f64 a.hi], .agg #[.float .f64 b.lo, .float .f64 b.hi]] (stA e a b) := fun v hc hf => told_e (cAdd_any e a.lo a.hi b.lo b.hi pb 0 v ha.lo ha.hi hb.lo hb.hi hc hf)
include ha hb in
theorem s_sub : C0 76 pb e #[.agg #[.float .f64 a.lo, .float .f64 a.hi], .agg #[.float .f64 b.lo, .float .f64 b.hi]] (stS e a b) := fun v hc hf => told_e (cSub_any e a.lo a.hi b.lo b.hi pb 0 v ha.lo ha.hi hb.lo hb.hi hc hf)
include ha hb in
theorem s_mul : C0 23 pb e #[.agg #[.float .f64 a.lo, .float .f64 a.hi], .agg #[.float .f64 b.lo, .float .f64 b.hi]] (stM e a b) := fun v hc hf => told_e (cMul_any e a.lo a.hi b.lo b.hi pb 0 v ha.lo ha.hi hb.lo hb.hi hc hf)
include ha hb in
theorem s_div : C0 22 pb e #[.agg #[.float .f64 a.lo, .float .f64 a.hi], .agg #[.float .f64 b.lo, .float .f64 b.hi]] (stD e a b) := fun v hc hf => told_e (cDiv_any e a.lo a.hi b.lo b.hi pb 0 v ha.lo ha.hi hb.lo hb.hi hc hf)
include ha in
theorem s_sqr : C0 61 pb e #[.agg #[.float .f64 a.lo, .float .f64 a.hi]] (stQ e a) := fun v hc hf => told_e (cSqr_any e a.lo a.hi pb 0 v ha.lo ha.hi hc hf)
include ha in
theorem s_sqrt : C0 59 pb e #[.agg #[.float .f64 a.lo, .float .f64 a.hi]] (stR e a) := fun v hc hf => told_e (cSqrt_any e a.lo a.hi pb 0 v ha.lo ha.hi hc hf)
end
theorem stU_plain {x : Nat} (f : Fit (oneR x)) : stU 0 x = oneR x := by
  unfold stU stepI ofI
  rw [if_pos rfl, if_pos rfl, if_pos (show rightB x = true from f.rlo)]; rfl

abbrev sur (e : Int) (a i o : Res) : Array Value := #[.int .i64 e, .float .f64 a.lo, .float .f64 a.hi, .float .f64 i.lo, .float .f64 i.hi, .float .f64 o.lo, .float .f64 o.hi]
abbrev Met1 (f : FuncId) (e e' : Int) (a i o r : Res) : Prop := ∀ (pb : Nat) (v : World), Has1 v (pb, sur e a i o) → Calls Tryz.prog f #[.pointer (some ⟨pb, 0, none⟩)] v fun x w' => x = .returned (.agg #[.float .f64 r.lo, .float .f64 r.hi]) ∧ Put ⟨pb, 0, none⟩ (.int .i64 e') v w'

def Lt.k1 (e : Int) : Res := stU e u1
def Lt.k2 (e : Int) (c : Res) : Res := stQ (Lt.k1 e).e c
def Lt.k3 (e : Int) (c : Res) : Res := stS (Lt.k2 e c).e (Lt.k1 e) (Lt.k2 e c)
def Lt.k4 (e : Int) (c : Res) : Res := stQ (Lt.k3 e c).e c
def Lt.k5 (e : Int) (c : Res) : Res := stD (Lt.k4 e c).e (Lt.k3 e c) (Lt.k4 e c)
def Lt.k6 (e : Int) (c : Res) : Res := stU (Lt.k5 e c).e uh
def Lt.k7 (e : Int) (c a : Res) : Res := stQ (Lt.k6 e c).e a
def Lt.k8 (e : Int) (c a : Res) : Res := stM (Lt.k7 e c a).e (Lt.k7 e c a) (Lt.k5 e c)
def Lt.k9 (e : Int) (c a : Res) : Res := stA (Lt.k8 e c a).e (Lt.k1 e) (Lt.k8 e c a)
def Lt.k10 (e : Int) (c a : Res) : Res := stR (Lt.k9 e c a).e (Lt.k9 e c a)
def Lt.k11 (e : Int) (c a : Res) : Res := stS (Lt.k10 e c a).e (Lt.k10 e c a) (Lt.k1 e)
def Lt.k12 (e : Int) (c a : Res) : Res := stM (Lt.k11 e c a).e (Lt.k6 e c) (Lt.k11 e c a)
theorem not_call {r : Res} (h : Wr r) (w : World) : Calls Tryz.prog 77 #[.agg #[.float .f64 r.lo, .float .f64 r.hi]] w fun x w' => x = .returned (.agg #[.float .f64 (nnR r).lo, .float .f64 (nnR r).hi]) ∧ Below w.heap.size w w' :=
  gnot_walk w (m_yl := fun ts t w => (run_less r.lo 0 h.lo (by decide) h.rlo (by decide) ts t w).2) (m_yh := fun ts t w => (run_less r.hi 0 h.hi (by decide) h.rhi (by decide) ts t w).2)
section
variable {c a i o : Res}
theorem a2_call (e : Int) (wa : Wr a) : Met1 64 e (stQ e a).e a i o (stQ e a) := fun pb v h => ga2_walk v (hC := Lib.hid h) (d1 := Lib.hid (s_sqr e wa pb))
theorem lam_wr (e : Int) (wc : Wr c) (wa : Wr a) : Wr (Lt.k1 e) ∧ Wr (Lt.k2 e c) ∧ Wr (Lt.k3 e c) ∧ Wr (Lt.k5 e c) ∧ Wr (Lt.k6 e c) ∧ Wr (Lt.k7 e c a) ∧ Wr (Lt.k8 e c a) ∧ Wr (Lt.k9 e c a) ∧ Wr (Lt.k10 e c a) ∧ Wr (Lt.k11 e c a) ∧ Wr (Lt.k12 e c a) ∧ Wr (Lt.k4 e c) := by
  have w1 : Wr (Lt.k1 e) := stU_wr e u1_fit
  have w2 : Wr (Lt.k2 e c) := stQ_wr _ wc
  have w3 : Wr (Lt.k3 e c) := stS_wr _ w1 w2
  have w4 : Wr (Lt.k4 e c) := stQ_wr _ wc
  have w5 : Wr (Lt.k5 e c) := stD_wr _ w3 w4
  have w6 : Wr (Lt.k6 e c) := stU_wr _ uh_fit
  have w7 : Wr (Lt.k7 e c a) := stQ_wr _ wa
  have w8 : Wr (Lt.k8 e c a) := stM_wr _ w7 w5
  have w9 : Wr (Lt.k9 e c a) := stA_wr _ w1 w8
  have w10 : Wr (Lt.k10 e c a) := stR_wr _ w9
  have w11 : Wr (Lt.k11 e c a) := stS_wr _ w10 w1
  exact ⟨w1, w2, w3, w5, w6, w7, w8, w9, w10, w11, stM_wr _ w6 w11, w4⟩
theorem lam_call (e : Int) (wc : Wr c) (wa : Wr a) (pb : Nat) (v : World) (h : Has1 v (pb, sur e a i o)) :
    Calls Tryz.prog 67 #[.pointer (some ⟨pb, 0, none⟩), .agg #[.float .f64 c.lo, .float .f64 c.hi]] v fun x w' => x = .returned (.agg #[.float .f64 (nnR (Lt.k12 e c a)).lo, .float .f64 (nnR (Lt.k12 e c a)).hi]) ∧ Put ⟨pb, 0, none⟩ (.int .i64 (Lt.k12 e c a).e) v w' := by
  obtain ⟨w1, w2, w3, w5, w6, w7, w8, w9, w10, w11, w12, w4⟩ := lam_wr e wc wa
  exact glambda_walk v (hC := Lib.hid h) (d1 := Lib.hid (s_num e pb u1_fit)) (d2 := Lib.hid (s_sqr (Lt.k1 e).e wc pb)) (d3 := Lib.hid (s_sub (Lt.k2 e c).e w1 w2 pb)) (d4 := Lib.hid (s_sqr (Lt.k3 e c).e wc pb)) (d5 := Lib.hid (s_div (Lt.k4 e c).e w3 w4 pb))
    (d6 := Lib.hid (s_num (Lt.k5 e c).e pb uh_fit)) (d7 := Lib.hid fun v h => a2_call (Lt.k6 e c).e wa pb v h) (d8 := Lib.hid (s_mul (Lt.k7 e c a).e w7 w5 pb)) (d9 := Lib.hid (s_add (Lt.k8 e c a).e w1 w8 pb)) (d10 := Lib.hid (s_sqrt (Lt.k9 e c a).e w9 pb)) (d11 := Lib.hid (s_sub (Lt.k10 e c a).e w10 w1 pb)) (d12 := Lib.hid (s_mul (Lt.k11 e c a).e w6 w11 pb))
    (c13 := Lib.hid fun w => not_call w12 w)
structure LF0 (c a : Res) : Prop where
  t : Fit (Gx.t c)
  m : Fit (Gx.m c a)
  p : Fit (Gx.p c a)
  r : Fit (Gx.r c a)
  d : Fit (Gx.d c a)
  h : Fit (Gx.h c a)
  l : Fit (Gx.l c a)
theorem LF.zero (L : LF c a) : LF0 c a := ⟨L.t, L.m, L.p, L.r, L.d, L.h, L.l⟩
theorem lam_plain {e : Int} (he : e = 0) (K : GF c a) (L : LF0 c a) (fc : Fit c) (fa : Fit a) : Lt.k12 e c a = Gx.h c a := by
  subst he
  have e1 : Lt.k1 0 = oneR u1 := stU_plain u1_fit
  have e2 : Lt.k2 0 c = Gx.c2 c := by unfold Lt.k2; rw [e1]; exact step_one fc _
  have e3 : Lt.k3 0 c = Gx.n c := by unfold Lt.k3; rw [e1, e2, K.c2.e]; exact step_two u1_fit K.c2 _
  have e4 : Lt.k4 0 c = Gx.c2 c := by unfold Lt.k4; rw [e3, K.n.e]; exact step_one fc _
  have e5 : Lt.k5 0 c = Gx.t c := by unfold Lt.k5; rw [e3, e4, K.c2.e]; exact step_two K.n K.c2 _
  have e6 : Lt.k6 0 c = oneR uh := by unfold Lt.k6; rw [e5, L.t.e]; exact stU_plain uh_fit
  have e7 : Lt.k7 0 c a = Gx.a2 a := by unfold Lt.k7; rw [e6]; exact step_one fa _
  have e8 : Lt.k8 0 c a = Gx.m c a := by unfold Lt.k8; rw [e7, e5, K.a2.e]; exact step_two K.a2 L.t _
  have e9 : Lt.k9 0 c a = Gx.p c a := by unfold Lt.k9; rw [e8, e1, L.m.e]; exact step_two u1_fit L.m _
  have e10 : Lt.k10 0 c a = Gx.r c a := by unfold Lt.k10; rw [e9, L.p.e]; exact step_one L.p _
  have e11 : Lt.k11 0 c a = Gx.d c a := by unfold Lt.k11; rw [e10, e1, L.r.e]; exact step_two L.r u1_fit _
  unfold Lt.k12
  rw [e11, e6, L.d.e]
  exact step_two uh_fit L.d _
theorem lam_none {e : Int} (h : (Lt.k12 e c a).e = 0) (K : GF c a) (fc : Fit c) (fa : Fit a) : e = 0 ∧ LF0 c a := by
  have h11 := (st_none h).1
  have h10 := (st_none h11).1
  have h9 := (st_none h10).1
  have h8 := (st_none h9).1
  have h7 := (st_none h8).1
  have h6 := (st_none h7).1
  have h5 := (st_none h6).1
  have h4 := (st_none h5).1
  have h3 := (st_none h4).1
  have h2 := (st_none h3).1
  have h1 := (st_none h2).1
  have h0 := (st_none h1).1
  subst h0
  have e1 : Lt.k1 0 = oneR u1 := stU_plain u1_fit
  have e2 : Lt.k2 0 c = Gx.c2 c := by unfold Lt.k2; rw [e1]; exact step_one fc _
  have e3 : Lt.k3 0 c = Gx.n c := by unfold Lt.k3; rw [e1, e2, K.c2.e]; exact step_two u1_fit K.c2 _
  have e4 : Lt.k4 0 c = Gx.c2 c := by unfold Lt.k4; rw [e3, K.n.e]; exact step_one fc _
  have e5 : Lt.k5 0 c = Gx.t c := by unfold Lt.k5; rw [e3, e4, K.c2.e]; exact step_two K.n K.c2 _
  rw [e5] at h5
  have ft : Fit (Gx.t c) := ask_fit (Gx.n c) (Gx.c2 c) 3 (by decide) K.n K.c2 h5
  have e6 : Lt.k6 0 c = oneR uh := by unfold Lt.k6; rw [e5, h5]; exact stU_plain uh_fit
  have e7 : Lt.k7 0 c a = Gx.a2 a := by unfold Lt.k7; rw [e6]; exact step_one fa _
  have e8 : Lt.k8 0 c a = Gx.m c a := by unfold Lt.k8; rw [e7, e5, K.a2.e]; exact step_two K.a2 ft _
  rw [e8] at h8
  have fm : Fit (Gx.m c a) := ask_fit (Gx.a2 a) (Gx.t c) 2 (by decide) K.a2 ft h8
  have e9 : Lt.k9 0 c a = Gx.p c a := by unfold Lt.k9; rw [e8, e1, h8]; exact step_two u1_fit fm _
  rw [e9] at h9
  have fp : Fit (Gx.p c a) := ask_fit (oneR u1) (Gx.m c a) 0 (by decide) u1_fit fm h9
  have e10 : Lt.k10 0 c a = Gx.r c a := by unfold Lt.k10; rw [e9, h9]; exact step_one fp _
  rw [e10] at h10
  have fr : Fit (Gx.r c a) := ask_fit (Gx.p c a) (Gx.p c a) 7 (by decide) fp fp h10
  have e11 : Lt.k11 0 c a = Gx.d c a := by unfold Lt.k11; rw [e10, e1, h10]; exact step_two fr u1_fit _
  rw [e11] at h11
  have fd : Fit (Gx.d c a) := ask_fit (Gx.r c a) (oneR u1) 1 (by decide) fr u1_fit h11
  have e12 : Lt.k12 0 c a = Gx.h c a := by unfold Lt.k12; rw [e11, e6, h11]; exact step_two uh_fit fd _
  rw [e12] at h
  have fh : Fit (Gx.h c a) := ask_fit (oneR uh) (Gx.d c a) 2 (by decide) uh_fit fd h
  exact ⟨rfl, ft, fm, fp, fr, fd, fh, nn_fit fh⟩
end

section
variable {c a i o : Res}
theorem spread_call (K : GF o a) (fo : Fit o) (fa : Fit a) : Met1 66 0 0 a i o (Gx.sp o a) := fun pb v h => by
  have e1 : stU 0 u1 = oneR u1 := stU_plain u1_fit
  have e2 : stQ 0 a = Gx.a2 a := step_one fa _
  have e3 : stS 0 (Gx.a2 a) (oneR u1) = Gx.s1 a := step_two K.a2 u1_fit _
  have e4 : stQ 0 o = Gx.c2 o := step_one fo _
  have e5 : stM 0 (Gx.s1 a) (Gx.c2 o) = Gx.pm o a := step_two K.s1 K.c2 _
  have e6 : stA 0 (Gx.pm o a) (oneR u1) = Gx.sp o a := step_two K.pm u1_fit _
  have d1 := s_num 0 pb u1_fit
  have d2 := fun v h => a2_call (i := i) (o := o) 0 fa.wr pb v h
  have d3 := s_sub 0 K.a2.wr u1_fit.wr pb
  have d4 := s_sqr 0 fo.wr pb
  have d5 := s_mul 0 K.s1.wr K.c2.wr pb
  have d6 := s_add 0 K.pm.wr u1_fit.wr pb
  rw [e1] at d1
  rw [e2, K.a2.e] at d2
  rw [e3] at d3
  rw [e4] at d4
  rw [e5] at d5
  rw [e6] at d6
  have x3 := K.s1.e
  have x4 := K.c2.e
  have x5 := K.pm.e
  have x6 := K.sp.e
  unfold C0 at d1 d3 d4 d5 d6
  rw [x3] at d3
  rw [x4] at d4
  rw [x5] at d5
  rw [x6] at d6
  exact gspread_walk v (hC := Lib.hid h) (d1 := Lib.hid d1) (d2 := Lib.hid d2) (d3 := Lib.hid d3) (d4 := Lib.hid d4) (d5 := Lib.hid d5) (d6 := Lib.hid d6)
theorem dist_call (K : GF o a) (fo : Fit o) (fa : Fit a) : Met1 40 0 0 a i o (Gx.D o a) := fun pb v h => by
  have e2 : stQ 0 a = Gx.a2 a := step_one fa _
  have e4 : stQ 0 (Gx.sp o a) = Gx.sq o a := step_one K.sp _
  have e5 : stM 0 piR (Gx.sq o a) = Gx.pq o a := step_two big_fit.1 K.sq _
  have e6 : stD 0 (Gx.a2 a) (Gx.pq o a) = Gx.D o a := step_two K.a2 K.pq _
  have d1 := fun v h => a2_call (i := i) (o := o) 0 fa.wr pb v h
  have d4 := s_sqr 0 K.sp.wr pb
  have d5 := s_mul 0 big_fit.1.wr K.sq.wr pb
  have d6 := s_div 0 K.a2.wr K.pq.wr pb
  rw [e2, K.a2.e] at d1
  rw [e4] at d4
  rw [e5] at d5
  rw [e6] at d6
  have x4 := K.sq.e
  have x5 := K.pq.e
  have x6 := K.D.e
  unfold C0 at d4 d5 d6
  rw [x4] at d4
  rw [x5] at d5
  rw [x6] at d6
  exact gdist_walk v (hC := Lib.hid h) (d1 := Lib.hid d1) (c2 := Lib.hid fun w => pi_any w) (d3 := Lib.hid fun v h => spread_call K fo fa pb v h) (d4 := Lib.hid d4) (d5 := Lib.hid d5) (d6 := Lib.hid d6)
def Vt.k3 (o a : Res) : Res := stA (Lt.k12 0 o a).e (oneR u1) (nnR (Lt.k12 0 o a))
def Vt.k4 (o a : Res) : Res := stD (Vt.k3 o a).e (oneR u1) (Vt.k3 o a)
def Wt.y (i o a : Res) : Res := Lt.k12 (Vt.k3 i a).e o a
def Wt.k4 (i o a : Res) : Res := stA (Wt.y i o a).e (Vt.k3 i a) (nnR (Wt.y i o a))
def Wt.k5 (i o a : Res) : Res := stD (Wt.k4 i o a).e (oneR u1) (Wt.k4 i o a)
theorem lam_last (e : Int) (wc : Wr c) (wa : Wr a) : Wr (Lt.k12 e c a) := (lam_wr e wc wa).2.2.2.2.2.2.2.2.2.2.1
theorem visible_call (wo : Wr o) (wa : Wr a) : Met1 42 0 (Vt.k4 o a).e a i o (Vt.k4 o a) := fun pb v h => by
  have e1 : stU 0 u1 = oneR u1 := stU_plain u1_fit
  have d1 := s_num 0 pb u1_fit
  rw [e1] at d1
  have w := nn_wr (lam_last 0 wo wa)
  have w3 : Wr (Vt.k3 o a) := stA_wr _ u1_fit.wr w
  exact gvisible_walk v (hC := Lib.hid h) (d1 := Lib.hid d1) (d2 := Lib.hid d1) (d3 := Lib.hid fun v h => lam_call 0 wo wa pb v h) (d4 := Lib.hid (s_add (Lt.k12 0 o a).e u1_fit.wr w pb)) (d5 := Lib.hid (s_div (Vt.k3 o a).e u1_fit.wr w3 pb))
theorem two_call (wi : Wr i) (wo : Wr o) (wa : Wr a) : Met1 41 0 (Wt.k5 i o a).e a i o (Wt.k5 i o a) := fun pb v h => by
  have e1 : stU 0 u1 = oneR u1 := stU_plain u1_fit
  have d1 := s_num 0 pb u1_fit
  rw [e1] at d1
  have w := nn_wr (lam_last 0 wi wa)
  have w3 : Wr (Vt.k3 i a) := stA_wr _ u1_fit.wr w
  have w' : Wr (nnR (Wt.y i o a)) := nn_wr (lam_last _ wo wa)
  have w4 : Wr (Wt.k4 i o a) := stA_wr _ w3 w'
  exact gtwo_walk v (hC := Lib.hid h) (d1 := Lib.hid d1) (d2 := Lib.hid d1) (d3 := Lib.hid fun v h => lam_call 0 wi wa pb v h) (d4 := Lib.hid (s_add (Lt.k12 0 i a).e u1_fit.wr w pb)) (d5 := Lib.hid fun v h => lam_call (Vt.k3 i a).e wo wa pb v h) (d6 := Lib.hid (s_add (Wt.y i o a).e w3 w' pb)) (d7 := Lib.hid (s_div (Wt.k4 i o a).e u1_fit.wr w4 pb))

theorem within_call {r R : Res} (h : In r R) (fR : Fit R) (w : World) : Calls Tryz.prog 75 #[.agg #[.float .f64 r.lo, .float .f64 r.hi], .float .f64 R.lo, .float .f64 R.hi] w fun x w' => x = .returned (.bool true) ∧ Below w.heap.size w w' :=
  gwithin_walk w ((order_le _ _ fR.lo h.fit.lo fR.rlo h.fit.rlo).trans (decide_eq_true h.lo)) ((order_le _ _ h.fit.hi fR.hi h.fit.rhi fR.rhi).trans (decide_eq_true h.hi))
theorem gcheck_call (hi : In i ouI) (ho : In o ouI) (ha : In a aI) (e : Int) (pb : Nat) (v : World) (h : Has1 v (pb, sur e a i o)) :
    Calls Tryz.prog 63 #[.pointer (some ⟨pb, 0, none⟩)] v fun x w' => x = .returned (.int .i64 0) ∧ Below v.heap.size v w' :=
  gcheck_walk v (hC := Lib.hid h) (c1 := Lib.hid (right_in hi.fit)) (c2 := Lib.hid (right_in ho.fit)) (c3 := Lib.hid (right_in ha.fit)) (c4 := Lib.hid fun w => within_call hi ou_fit w) (c5 := Lib.hid fun w => within_call ho ou_fit w) (c6 := Lib.hid fun w => within_call ha aI_fit w)

abbrev Top2 (f : FuncId) (c a r : Res) (e : Int) : Prop := ∀ w, Calls Tryz.prog f #[.agg #[.float .f64 c.lo, .float .f64 c.hi], .agg #[.float .f64 a.lo, .float .f64 a.hi]] w fun x w' => x = .returned (.tuple #[.agg #[.float .f64 r.lo, .float .f64 r.hi], .int .i64 e]) ∧ Below w.heap.size w w'
theorem D_any (hc : In c ouI) (ha : In a aI) : Top2 18 c a (Gx.D c a) 0 := fun w =>
  gD_walk w (c1 := Lib.hid fun q v h => ganswer_distribution v (hC := Lib.hid h) (cK := Lib.hid fun v h => gcheck_call nil_in hc ha 0 q v h) (d2 := Lib.hid fun v h => dist_call (i := oneR 0) (g_in hc ha).fits hc.fit ha.fit q v h))
theorem G1_any (hc : In c ouI) (ha : In a aI) : Top2 20 c a (Vt.k4 c a) (Vt.k4 c a).e := fun w =>
  gG1_walk w (c1 := Lib.hid fun q v h => ganswer_visible v (hC := Lib.hid h) (cK := Lib.hid fun v h => gcheck_call nil_in hc ha 0 q v h) (d2 := Lib.hid fun v h => visible_call (i := oneR 0) hc.fit.wr ha.fit.wr q v h))
theorem G2_any (hi : In i ouI) (ho : In o ouI) (ha : In a aI) (w : World) : Calls Tryz.prog 19 #[.agg #[.float .f64 i.lo, .float .f64 i.hi], .agg #[.float .f64 o.lo, .float .f64 o.hi], .agg #[.float .f64 a.lo, .float .f64 a.hi]] w fun x w' => x = .returned (.tuple #[.agg #[.float .f64 (Wt.k5 i o a).lo, .float .f64 (Wt.k5 i o a).hi], .int .i64 (Wt.k5 i o a).e]) ∧ Below w.heap.size w w' :=
  gG2_walk w (c1 := Lib.hid fun q v h => ganswer_visibleForTwo v (hC := Lib.hid h) (cK := Lib.hid fun v h => gcheck_call hi ho ha 0 q v h) (d2 := Lib.hid fun v h => two_call hi.fit.wr ho.fit.wr ha.fit.wr q v h))
theorem q_plain (K : GF c a) (L : LF0 c a) (fc : Fit c) (fa : Fit a) : Vt.k3 c a = Gx.q c a := by
  unfold Vt.k3
  rw [lam_plain rfl K L fc fa, L.h.e]
  exact step_two u1_fit L.l _
theorem G1_plain (K : GF c a) (L : LF c a) (fc : Fit c) (fa : Fit a) : Vt.k3 c a = Gx.q c a ∧ Vt.k4 c a = Gx.v c a := by
  have e3 := q_plain K L.zero fc fa
  refine ⟨e3, ?_⟩
  unfold Vt.k4
  rw [e3, L.q.e]
  exact step_two u1_fit L.q _
theorem G2_plain (Ki : GF i a) (Li : LF0 i a) (fq : Fit (Gx.q i a)) (Ko : GF o a) (Lo : LF0 o a) (fi : Fit i) (fo : Fit o) (fa : Fit a) (f2 : Fit (Gx.q2 i o a)) : Wt.k5 i o a = Gx.w i o a := by
  have e3 := q_plain Ki Li fi fa
  have ey : Wt.y i o a = Gx.h o a := by unfold Wt.y; exact lam_plain (by rw [e3]; exact fq.e) Ko Lo fo fa
  have e4 : Wt.k4 i o a = Gx.q2 i o a := by unfold Wt.k4; rw [ey, e3, Lo.h.e]; exact step_two fq Lo.l _
  unfold Wt.k5
  rw [e4, f2.e]
  exact step_two u1_fit f2 _
theorem G2_none (hi : In i ouI) (ho : In o ouI) (ha : In a aI) (h : (Wt.k5 i o a).e = 0) : LF0 i a ∧ Fit (Gx.q i a) ∧ LF0 o a ∧ Fit (Gx.q2 i o a) ∧ Fit (Gx.w i o a) ∧ Wt.k5 i o a = Gx.w i o a := by
  have Ki := (g_in hi ha).fits
  have Ko := (g_in ho ha).fits
  have h4 := (st_none h).1
  have hy := (st_none h4).1
  obtain ⟨h3, Lo⟩ := lam_none hy Ko ho.fit ha.fit
  obtain ⟨_, Li⟩ := lam_none (st_none h3).1 Ki hi.fit ha.fit
  have e3 := q_plain Ki Li hi.fit ha.fit
  rw [e3] at h3
  have fq : Fit (Gx.q i a) := ask_fit (oneR u1) (Gx.l i a) 0 (by decide) u1_fit Li.l h3
  have ey : Wt.y i o a = Gx.h o a := by unfold Wt.y; exact lam_plain (by rw [e3]; exact fq.e) Ko Lo ho.fit ha.fit
  have e4 : Wt.k4 i o a = Gx.q2 i o a := by unfold Wt.k4; rw [ey, e3, Lo.h.e]; exact step_two fq Lo.l _
  rw [e4] at h4
  have f2 : Fit (Gx.q2 i o a) := ask_fit (Gx.q i a) (Gx.l o a) 0 (by decide) fq Lo.l h4
  have e5 := G2_plain Ki Li fq Ko Lo hi.fit ho.fit ha.fit f2
  rw [e5] at h
  exact ⟨Li, fq, Lo, f2, ask_fit (oneR u1) (Gx.q2 i o a) 3 (by decide) u1_fit f2 h, e5⟩
theorem li0_of {C A : Res} (K : GF C A) (L : LF0 C A) (fc : Fit C) (fa : Fit A) (hc : In c C) (ha : In a A) : LF0 c a ∧ In (Gx.l c a) (Gx.l C A) := by
  have I := gi_of K fc fa hc ha
  have i1 : In (Gx.t c) (Gx.t C) := div_in I.n K.n I.c2 K.c2 L.t.e
  have i2 : In (Gx.m c a) (Gx.m C A) := mul_in I.a2 K.a2 i1 L.t L.m.e
  have i3 : In (Gx.p c a) (Gx.p C A) := add_in (.refl u1_fit) u1_fit i2 L.m L.p.e
  have i4 : In (Gx.r c a) (Gx.r C A) := sqrt_in i3 L.p L.r.e
  have i5 : In (Gx.d c a) (Gx.d C A) := sub_in i4 L.r (.refl u1_fit) u1_fit L.d.e
  have i6 : In (Gx.h c a) (Gx.h C A) := mul_in (.refl uh_fit) uh_fit i5 L.d L.h.e
  have i7 : In (Gx.l c a) (Gx.l C A) := nn_in i6 L.h
  exact ⟨⟨i1.fit, i2.fit, i3.fit, i4.fit, i5.fit, i6.fit, i7.fit⟩, i7⟩
end
end Go.Proofs.YthefgkgdadkgbaaGreat
