/- What the claim stands on, part 22: GgB, MiSL. -/
import Derived.Test.YthefgkgdadkgbaaPA20
import Derived.Test.YthefgkgdadkgbaaPA14
import Derived.Test.YthefgkgdadkgbaaPA13
import Derived.Deep.RegionHeld3
namespace Go.Proofs.Ythefgkgdadkgbaa
open Go.RowKit

structure Wr (a : Res) : Prop where
  lo : a.lo < 18446744073709551616
  hi : a.hi < 18446744073709551616
  rlo : rightB a.lo = true
  rhi : rightB a.hi = true
theorem Fit.wr {a : Res} (h : Fit a) : Wr a := ⟨h.lo, h.hi, h.rlo, h.rhi⟩
theorem wr_nil {r : Res} (h : Nil0 r) (he : r.e ≠ 0) : Wr r := by
  obtain ⟨h1, h2⟩ := h he
  exact ⟨by rw [h1]; decide, by rw [h2]; decide, by rw [h1]; decide, by rw [h2]; decide⟩
def stD (e : Int) (a b : Res) : Res := stepI e (ivR a.lo a.hi && ivR b.lo b.hi) (divR a b)
def stU (e : Int) (x : Nat) : Res := stepI e true (ofI x)
theorem st2_wr {j : Nat} (hj : j < 6) (e : Int) {a b : Res} (ha : Wr a) (hb : Wr b) : Wr (stepI e (ivR a.lo a.hi && ivR b.lo b.hi) (askI a.lo a.hi b.lo b.hi j)) := by
  by_cases h : (stepI e (ivR a.lo a.hi && ivR b.lo b.hi) (askI a.lo a.hi b.lo b.hi j)).e = 0
  · obtain ⟨_, h2, h3⟩ := st_none h
    rw [Bool.and_eq_true] at h2
    rw [h3] at h ⊢
    obtain ⟨n1, n2, n3, n4⟩ := ask_nums a.lo a.hi b.lo b.hi j (by omega) ha.lo ha.hi hb.lo hb.hi h2.1 h2.2 h
    exact ⟨n1, n3, n2, n4⟩
  · refine wr_nil ?_ h
    have hn := ask_nil e a.lo a.hi b.lo b.hi j (by omega)
    rcases (show j = 0 ∨ j = 1 ∨ j = 2 ∨ j = 3 ∨ j = 4 ∨ j = 5 by omega) with rfl | rfl | rfl | rfl | rfl | rfl <;> exact hn
theorem st1_wr {j : Nat} (hj : j = 6 ∨ j = 7) (e : Int) {a : Res} (ha : Wr a) : Wr (stepI e (ivR a.lo a.hi) (askI a.lo a.hi a.lo a.hi j)) := by
  by_cases h : (stepI e (ivR a.lo a.hi) (askI a.lo a.hi a.lo a.hi j)).e = 0
  · obtain ⟨_, h2, h3⟩ := st_none h
    rw [h3] at h ⊢
    obtain ⟨n1, n2, n3, n4⟩ := ask_nums a.lo a.hi a.lo a.hi j (by omega) ha.lo ha.hi ha.lo ha.hi h2 h2 h
    exact ⟨n1, n3, n2, n4⟩
  · refine wr_nil ?_ h
    have hn := ask_nil e a.lo a.hi a.lo a.hi j (by omega)
    rcases hj with rfl | rfl <;> exact hn
theorem stU_wr (e : Int) {x : Nat} (f : Fit (oneR x)) : Wr (stU e x) := by
  unfold stU stepI ofI
  have rx : rightB x = true := f.rlo
  have lx : x < 18446744073709551616 := f.lo
  rw [if_pos rfl, if_pos rx]
  split
  · exact ⟨lx, lx, rx, rx⟩
  · exact ⟨show 0 < 18446744073709551616 by decide, show 0 < 18446744073709551616 by decide, right_0, right_0⟩
theorem nn_wr {a : Res} (h : Wr a) : Wr (nnR a) := by
  obtain ⟨l1, l2, _⟩ := max_facts a.lo 0 h.lo (by decide) h.rlo (by decide)
  obtain ⟨k1, k2, _⟩ := max_facts a.hi 0 h.hi (by decide) h.rhi (by decide)
  exact ⟨l1, k1, l2, k2⟩
section
variable {a b : Res} (e : Int) (ha : Wr a) (hb : Wr b)
include ha hb in
theorem stA_wr : Wr (stA e a b) := st2_wr (j := 0) (by decide) e ha hb
include ha hb in
theorem stS_wr : Wr (stS e a b) := st2_wr (j := 1) (by decide) e ha hb
include ha hb in
theorem stM_wr : Wr (stM e a b) := st2_wr (j := 2) (by decide) e ha hb
include ha hb in
theorem stD_wr : Wr (stD e a b) := st2_wr (j := 3) (by decide) e ha hb
include ha in
theorem stQ_wr : Wr (stQ e a) := st1_wr (j := 6) (by decide) e ha
include ha in
theorem stR_wr : Wr (stR e a) := st1_wr (j := 7) (by decide) e ha
end

abbrev C0 (f : FuncId) (pb : Nat) (e : Int) (xs : Array Value) (R : Res) : Prop := ∀ v : World, v.cell? ⟨pb, 0, none⟩ = some (.int .i64 e) → v.frozen? ⟨pb, 0, none⟩ = false →
  Calls Try.prog f (#[.pointer (some ⟨pb, 0, none⟩)] ++ xs) v fun r w' => r = .returned (.agg #[.float .f64 R.lo, .float .f64 R.hi]) ∧ Put ⟨pb, 0, none⟩ (.int .i64 R.e) v w'
section
variable {a b : Res} (e : Int) (ha : Wr a) (hb : Wr b) (pb : Nat)
theorem s_num {x : Nat} (f : Fit (oneR x)) : C0 15 pb e #[.float .f64 x] (stU e x) := fun v hc hf => told_e (cNum_any e x pb 0 v f.lo hc hf)
include ha hb in
theorem s_add : C0 13 pb e #[.agg #[.float .f64 a.lo, .float .f64 a.hi], .agg #[.float .f64 b.lo, .float .f64 b.hi]] (stA e a b) := fun v hc hf => told_e (cAdd_any e a.lo a.hi b.lo b.hi pb 0 v ha.lo ha.hi hb.lo hb.hi hc hf)
include ha hb in
theorem s_sub : C0 81 pb e #[.agg #[.float .f64 a.lo, .float .f64 a.hi], .agg #[.float .f64 b.lo, .float .f64 b.hi]] (stS e a b) := fun v hc hf => told_e (cSub_any e a.lo a.hi b.lo b.hi pb 0 v ha.lo ha.hi hb.lo hb.hi hc hf)
include ha hb in
theorem s_mul : C0 14 pb e #[.agg #[.float .f64 a.lo, .float .f64 a.hi], .agg #[.float .f64 b.lo, .float .f64 b.hi]] (stM e a b) := fun v hc hf => told_e (cMul_any e a.lo a.hi b.lo b.hi pb 0 v ha.lo ha.hi hb.lo hb.hi hc hf)
include ha hb in
theorem s_div : C0 16 pb e #[.agg #[.float .f64 a.lo, .float .f64 a.hi], .agg #[.float .f64 b.lo, .float .f64 b.hi]] (stD e a b) := fun v hc hf => told_e (cDiv_any e a.lo a.hi b.lo b.hi pb 0 v ha.lo ha.hi hb.lo hb.hi hc hf)
include ha in
theorem s_sqr : C0 19 pb e #[.agg #[.float .f64 a.lo, .float .f64 a.hi]] (stQ e a) := fun v hc hf => told_e (cSqr_any e a.lo a.hi pb 0 v ha.lo ha.hi hc hf)
include ha in
theorem s_sqrt : C0 61 pb e #[.agg #[.float .f64 a.lo, .float .f64 a.hi]] (stR e a) := fun v hc hf => told_e (cSqrt_any e a.lo a.hi pb 0 v ha.lo ha.hi hc hf)
end
theorem stU_plain {x : Nat} (f : Fit (oneR x)) : stU 0 x = oneR x := by
  unfold stU stepI ofI
  rw [if_pos rfl, if_pos rfl, if_pos (show rightB x = true from f.rlo)]; rfl

abbrev sur (e : Int) (a i o : Res) : Array Value := #[.int .i64 e, .float .f64 a.lo, .float .f64 a.hi, .float .f64 i.lo, .float .f64 i.hi, .float .f64 o.lo, .float .f64 o.hi]
abbrev Met1 (f : FuncId) (e e' : Int) (a i o r : Res) : Prop := ∀ (pb : Nat) (v : World), Has1 v (pb, sur e a i o) → Calls Try.prog f #[.pointer (some ⟨pb, 0, none⟩)] v fun x w' => x = .returned (.agg #[.float .f64 r.lo, .float .f64 r.hi]) ∧ Put ⟨pb, 0, none⟩ (.int .i64 e') v w'

def Lt.k1 (e : Int) : Res := stU e u1
def Lt.k2 (e : Int) (c : Res) : Res := stQ (Lt.k1 e).e c
def Lt.k3 (e : Int) (c : Res) : Res := stS (Lt.k2 e c).e (Lt.k1 e) (Lt.k2 e c)
def Lt.k4 (e : Int) (c : Res) : Res := stQ (Lt.k3 e c).e c
def Lt.k5 (e : Int) (c : Res) : Res := stD (Lt.k4 e c).e (Lt.k3 e c) (Lt.k4 e c)
def Lt.k6 (e : Int) (c : Res) : Res := stU (Lt.k5 e c).e uh
def Lt.k7 (e : Int) (c a : Res) : Res := stQ (Lt.k6 e c).e a
def Lt.k8 (e : Int) (c a : Res) : Res := stM (Lt.k7 e c a).e (Lt.k7 e c a) (Lt.k5 e c)
def Lt.k9 (e : Int) (c a : Res) : Res := stA (Lt.k8 e c a).e (Lt.k1 e) (Lt.k8 e c a)
def Lt.k10 (e : Int) (c a : Res) : Res := stR (Lt.k9 e c a).e (Lt.k9 e c a)
def Lt.k11 (e : Int) (c a : Res) : Res := stS (Lt.k10 e c a).e (Lt.k10 e c a) (Lt.k1 e)
def Lt.k12 (e : Int) (c a : Res) : Res := stM (Lt.k11 e c a).e (Lt.k6 e c) (Lt.k11 e c a)
theorem not_call {r : Res} (h : Wr r) (w : World) : Calls Try.prog 82 #[.agg #[.float .f64 r.lo, .float .f64 r.hi]] w fun x w' => x = .returned (.agg #[.float .f64 (nnR r).lo, .float .f64 (nnR r).hi]) ∧ Below w.heap.size w w' :=
  gnot_walk w (m_yl := fun ts t w => (run_less r.lo 0 h.lo (by decide) h.rlo (by decide) ts t w).2) (m_yh := fun ts t w => (run_less r.hi 0 h.hi (by decide) h.rhi (by decide) ts t w).2)
section
variable {c a i o : Res}
theorem a2_call (e : Int) (wa : Wr a) : Met1 70 e (stQ e a).e a i o (stQ e a) := fun pb v h => ga2_walk v (hC := Lib.hid h) (d1 := Lib.hid (s_sqr e wa pb))
theorem lam_wr (e : Int) (wc : Wr c) (wa : Wr a) : Wr (Lt.k1 e) ∧ Wr (Lt.k2 e c) ∧ Wr (Lt.k3 e c) ∧ Wr (Lt.k5 e c) ∧ Wr (Lt.k6 e c) ∧ Wr (Lt.k7 e c a) ∧ Wr (Lt.k8 e c a) ∧ Wr (Lt.k9 e c a) ∧ Wr (Lt.k10 e c a) ∧ Wr (Lt.k11 e c a) ∧ Wr (Lt.k12 e c a) ∧ Wr (Lt.k4 e c) := by
  have w1 : Wr (Lt.k1 e) := stU_wr e u1_fit
  have w2 : Wr (Lt.k2 e c) := stQ_wr _ wc
  have w3 : Wr (Lt.k3 e c) := stS_wr _ w1 w2
  have w4 : Wr (Lt.k4 e c) := stQ_wr _ wc
  have w5 : Wr (Lt.k5 e c) := stD_wr _ w3 w4
  have w6 : Wr (Lt.k6 e c) := stU_wr _ uh_fit
  have w7 : Wr (Lt.k7 e c a) := stQ_wr _ wa
  have w8 : Wr (Lt.k8 e c a) := stM_wr _ w7 w5
  have w9 : Wr (Lt.k9 e c a) := stA_wr _ w1 w8
  have w10 : Wr (Lt.k10 e c a) := stR_wr _ w9
  have w11 : Wr (Lt.k11 e c a) := stS_wr _ w10 w1
  exact ⟨w1, w2, w3, w5, w6, w7, w8, w9, w10, w11, stM_wr _ w6 w11, w4⟩
theorem lam_call (e : Int) (wc : Wr c) (wa : Wr a) (pb : Nat) (v : World) (h : Has1 v (pb, sur e a i o)) :
    Calls Try.prog 68 #[.pointer (some ⟨pb, 0, none⟩), .agg #[.float .f64 c.lo, .float .f64 c.hi]] v fun x w' => x = .returned (.agg #[.float .f64 (nnR (Lt.k12 e c a)).lo, .float .f64 (nnR (Lt.k12 e c a)).hi]) ∧ Put ⟨pb, 0, none⟩ (.int .i64 (Lt.k12 e c a).e) v w' := by
  obtain ⟨w1, w2, w3, w5, w6, w7, w8, w9, w10, w11, w12, w4⟩ := lam_wr e wc wa
  exact glambda_walk v (hC := Lib.hid h) (d1 := Lib.hid (s_num e pb u1_fit)) (d2 := Lib.hid (s_sqr (Lt.k1 e).e wc pb)) (d3 := Lib.hid (s_sub (Lt.k2 e c).e w1 w2 pb)) (d4 := Lib.hid (s_sqr (Lt.k3 e c).e wc pb)) (d5 := Lib.hid (s_div (Lt.k4 e c).e w3 w4 pb))
    (d6 := Lib.hid (s_num (Lt.k5 e c).e pb uh_fit)) (d7 := Lib.hid fun v h => a2_call (Lt.k6 e c).e wa pb v h) (d8 := Lib.hid (s_mul (Lt.k7 e c a).e w7 w5 pb)) (d9 := Lib.hid (s_add (Lt.k8 e c a).e w1 w8 pb)) (d10 := Lib.hid (s_sqrt (Lt.k9 e c a).e w9 pb)) (d11 := Lib.hid (s_sub (Lt.k10 e c a).e w10 w1 pb)) (d12 := Lib.hid (s_mul (Lt.k11 e c a).e w6 w11 pb))
    (c13 := Lib.hid fun w => not_call w12 w)
structure LF0 (c a : Res) : Prop where
  t : Fit (Gx.t c)
  m : Fit (Gx.m c a)
  p : Fit (Gx.p c a)
  r : Fit (Gx.r c a)
  d : Fit (Gx.d c a)
  h : Fit (Gx.h c a)
  l : Fit (Gx.l c a)
theorem LF.zero (L : LF c a) : LF0 c a := ⟨L.t, L.m, L.p, L.r, L.d, L.h, L.l⟩
theorem lam_plain {e : Int} (he : e = 0) (K : GF c a) (L : LF0 c a) (fc : Fit c) (fa : Fit a) : Lt.k12 e c a = Gx.h c a := by
  subst he
  have e1 : Lt.k1 0 = oneR u1 := stU_plain u1_fit
  have e2 : Lt.k2 0 c = Gx.c2 c := by unfold Lt.k2; rw [e1]; exact step_one fc _
  have e3 : Lt.k3 0 c = Gx.n c := by unfold Lt.k3; rw [e1, e2, K.c2.e]; exact step_two u1_fit K.c2 _
  have e4 : Lt.k4 0 c = Gx.c2 c := by unfold Lt.k4; rw [e3, K.n.e]; exact step_one fc _
  have e5 : Lt.k5 0 c = Gx.t c := by unfold Lt.k5; rw [e3, e4, K.c2.e]; exact step_two K.n K.c2 _
  have e6 : Lt.k6 0 c = oneR uh := by unfold Lt.k6; rw [e5, L.t.e]; exact stU_plain uh_fit
  have e7 : Lt.k7 0 c a = Gx.a2 a := by unfold Lt.k7; rw [e6]; exact step_one fa _
  have e8 : Lt.k8 0 c a = Gx.m c a := by unfold Lt.k8; rw [e7, e5, K.a2.e]; exact step_two K.a2 L.t _
  have e9 : Lt.k9 0 c a = Gx.p c a := by unfold Lt.k9; rw [e8, e1, L.m.e]; exact step_two u1_fit L.m _
  have e10 : Lt.k10 0 c a = Gx.r c a := by unfold Lt.k10; rw [e9, L.p.e]; exact step_one L.p _
  have e11 : Lt.k11 0 c a = Gx.d c a := by unfold Lt.k11; rw [e10, e1, L.r.e]; exact step_two L.r u1_fit _
  unfold Lt.k12
  rw [e11, e6, L.d.e]
  exact step_two uh_fit L.d _
end

section
variable {c a i o : Res}
theorem spread_call (K : GF o a) (fo : Fit o) (fa : Fit a) : Met1 72 0 0 a i o (Gx.sp o a) := fun pb v h => by
  have e1 : stU 0 u1 = oneR u1 := stU_plain u1_fit
  have e2 : stQ 0 a = Gx.a2 a := step_one fa _
  have e3 : stS 0 (Gx.a2 a) (oneR u1) = Gx.s1 a := step_two K.a2 u1_fit _
  have e4 : stQ 0 o = Gx.c2 o := step_one fo _
  have e5 : stM 0 (Gx.s1 a) (Gx.c2 o) = Gx.pm o a := step_two K.s1 K.c2 _
  have e6 : stA 0 (Gx.pm o a) (oneR u1) = Gx.sp o a := step_two K.pm u1_fit _
  have d1 := s_num 0 pb u1_fit
  have d2 := fun v h => a2_call (i := i) (o := o) 0 fa.wr pb v h
  have d3 := s_sub 0 K.a2.wr u1_fit.wr pb
  have d4 := s_sqr 0 fo.wr pb
  have d5 := s_mul 0 K.s1.wr K.c2.wr pb
  have d6 := s_add 0 K.pm.wr u1_fit.wr pb
  rw [e1] at d1
  rw [e2, K.a2.e] at d2
  rw [e3] at d3
  rw [e4] at d4
  rw [e5] at d5
  rw [e6] at d6
  have x3 := K.s1.e
  have x4 := K.c2.e
  have x5 := K.pm.e
  have x6 := K.sp.e
  unfold C0 at d1 d3 d4 d5 d6
  rw [x3] at d3
  rw [x4] at d4
  rw [x5] at d5
  rw [x6] at d6
  exact gspread_walk v (hC := Lib.hid h) (d1 := Lib.hid d1) (d2 := Lib.hid d2) (d3 := Lib.hid d3) (d4 := Lib.hid d4) (d5 := Lib.hid d5) (d6 := Lib.hid d6)
theorem dist_call (K : GF o a) (fo : Fit o) (fa : Fit a) : Met1 59 0 0 a i o (Gx.D o a) := fun pb v h => by
  have e2 : stQ 0 a = Gx.a2 a := step_one fa _
  have e4 : stQ 0 (Gx.sp o a) = Gx.sq o a := step_one K.sp _
  have e5 : stM 0 piR (Gx.sq o a) = Gx.pq o a := step_two big_fit.1 K.sq _
  have e6 : stD 0 (Gx.a2 a) (Gx.pq o a) = Gx.D o a := step_two K.a2 K.pq _
  have d1 := fun v h => a2_call (i := i) (o := o) 0 fa.wr pb v h
  have d4 := s_sqr 0 K.sp.wr pb
  have d5 := s_mul 0 big_fit.1.wr K.sq.wr pb
  have d6 := s_div 0 K.a2.wr K.pq.wr pb
  rw [e2, K.a2.e] at d1
  rw [e4] at d4
  rw [e5] at d5
  rw [e6] at d6
  have x4 := K.sq.e
  have x5 := K.pq.e
  have x6 := K.D.e
  unfold C0 at d4 d5 d6
  rw [x4] at d4
  rw [x5] at d5
  rw [x6] at d6
  exact gdist_walk v (hC := Lib.hid h) (d1 := Lib.hid d1) (c2 := Lib.hid fun w => pi_any w) (d3 := Lib.hid fun v h => spread_call K fo fa pb v h) (d4 := Lib.hid d4) (d5 := Lib.hid d5) (d6 := Lib.hid d6)
def Vt.k3 (o a : Res) : Res := stA (Lt.k12 0 o a).e (oneR u1) (nnR (Lt.k12 0 o a))
def Vt.k4 (o a : Res) : Res := stD (Vt.k3 o a).e (oneR u1) (Vt.k3 o a)
def Wt.y (i o a : Res) : Res := Lt.k12 (Vt.k3 i a).e o a
def Wt.k4 (i o a : Res) : Res := stA (Wt.y i o a).e (Vt.k3 i a) (nnR (Wt.y i o a))
def Wt.k5 (i o a : Res) : Res := stD (Wt.k4 i o a).e (oneR u1) (Wt.k4 i o a)
theorem lam_last (e : Int) (wc : Wr c) (wa : Wr a) : Wr (Lt.k12 e c a) := (lam_wr e wc wa).2.2.2.2.2.2.2.2.2.2.1
theorem visible_call (wo : Wr o) (wa : Wr a) : Met1 52 0 (Vt.k4 o a).e a i o (Vt.k4 o a) := fun pb v h => by
  have e1 : stU 0 u1 = oneR u1 := stU_plain u1_fit
  have d1 := s_num 0 pb u1_fit
  rw [e1] at d1
  have w := nn_wr (lam_last 0 wo wa)
  have w3 : Wr (Vt.k3 o a) := stA_wr _ u1_fit.wr w
  exact gvisible_walk v (hC := Lib.hid h) (d1 := Lib.hid d1) (d2 := Lib.hid d1) (d3 := Lib.hid fun v h => lam_call 0 wo wa pb v h) (d4 := Lib.hid (s_add (Lt.k12 0 o a).e u1_fit.wr w pb)) (d5 := Lib.hid (s_div (Vt.k3 o a).e u1_fit.wr w3 pb))
theorem two_call (wi : Wr i) (wo : Wr o) (wa : Wr a) : Met1 51 0 (Wt.k5 i o a).e a i o (Wt.k5 i o a) := fun pb v h => by
  have e1 : stU 0 u1 = oneR u1 := stU_plain u1_fit
  have d1 := s_num 0 pb u1_fit
  rw [e1] at d1
  have w := nn_wr (lam_last 0 wi wa)
  have w3 : Wr (Vt.k3 i a) := stA_wr _ u1_fit.wr w
  have w' : Wr (nnR (Wt.y i o a)) := nn_wr (lam_last _ wo wa)
  have w4 : Wr (Wt.k4 i o a) := stA_wr _ w3 w'
  exact gtwo_walk v (hC := Lib.hid h) (d1 := Lib.hid d1) (d2 := Lib.hid d1) (d3 := Lib.hid fun v h => lam_call 0 wi wa pb v h) (d4 := Lib.hid (s_add (Lt.k12 0 i a).e u1_fit.wr w pb)) (d5 := Lib.hid fun v h => lam_call (Vt.k3 i a).e wo wa pb v h) (d6 := Lib.hid (s_add (Wt.y i o a).e w3 w' pb)) (d7 := Lib.hid (s_div (Wt.k4 i o a).e u1_fit.wr w4 pb))

theorem within_call {r R : Res} (h : In r R) (fR : Fit R) (w : World) : Calls Try.prog 80 #[.agg #[.float .f64 r.lo, .float .f64 r.hi], .float .f64 R.lo, .float .f64 R.hi] w fun x w' => x = .returned (.bool true) ∧ Below w.heap.size w w' :=
  gwithin_walk w ((order_le _ _ fR.lo h.fit.lo fR.rlo h.fit.rlo).trans (decide_eq_true h.lo)) ((order_le _ _ h.fit.hi fR.hi h.fit.rhi fR.rhi).trans (decide_eq_true h.hi))
theorem gcheck_call (hi : In i ouI) (ho : In o ouI) (ha : In a aI) (e : Int) (pb : Nat) (v : World) (h : Has1 v (pb, sur e a i o)) :
    Calls Try.prog 67 #[.pointer (some ⟨pb, 0, none⟩)] v fun x w' => x = .returned (.int .i64 0) ∧ Below v.heap.size v w' :=
  gcheck_walk v (hC := Lib.hid h) (c1 := Lib.hid (right_in hi.fit)) (c2 := Lib.hid (right_in ho.fit)) (c3 := Lib.hid (right_in ha.fit)) (c4 := Lib.hid fun w => within_call hi ou_fit w) (c5 := Lib.hid fun w => within_call ho ou_fit w) (c6 := Lib.hid fun w => within_call ha aI_fit w)

abbrev Top2 (f : FuncId) (c a r : Res) (e : Int) : Prop := ∀ w, Calls Try.prog f #[.agg #[.float .f64 c.lo, .float .f64 c.hi], .agg #[.float .f64 a.lo, .float .f64 a.hi]] w fun x w' => x = .returned (.tuple #[.agg #[.float .f64 r.lo, .float .f64 r.hi], .int .i64 e]) ∧ Below w.heap.size w w'
theorem D_any (hc : In c ouI) (ha : In a aI) : Top2 28 c a (Gx.D c a) 0 := fun w =>
  gD_walk w (c1 := Lib.hid fun q v h => ganswer_distribution v (hC := Lib.hid h) (cK := Lib.hid fun v h => gcheck_call nil_in hc ha 0 q v h) (d2 := Lib.hid fun v h => dist_call (i := oneR 0) (g_in hc ha).fits hc.fit ha.fit q v h))
theorem G1_any (hc : In c ouI) (ha : In a aI) : Top2 21 c a (Vt.k4 c a) (Vt.k4 c a).e := fun w =>
  gG1_walk w (c1 := Lib.hid fun q v h => ganswer_visible v (hC := Lib.hid h) (cK := Lib.hid fun v h => gcheck_call nil_in hc ha 0 q v h) (d2 := Lib.hid fun v h => visible_call (i := oneR 0) hc.fit.wr ha.fit.wr q v h))
theorem G2_any (hi : In i ouI) (ho : In o ouI) (ha : In a aI) (w : World) : Calls Try.prog 20 #[.agg #[.float .f64 i.lo, .float .f64 i.hi], .agg #[.float .f64 o.lo, .float .f64 o.hi], .agg #[.float .f64 a.lo, .float .f64 a.hi]] w fun x w' => x = .returned (.tuple #[.agg #[.float .f64 (Wt.k5 i o a).lo, .float .f64 (Wt.k5 i o a).hi], .int .i64 (Wt.k5 i o a).e]) ∧ Below w.heap.size w w' :=
  gG2_walk w (c1 := Lib.hid fun q v h => ganswer_visibleForTwo v (hC := Lib.hid h) (cK := Lib.hid fun v h => gcheck_call hi ho ha 0 q v h) (d2 := Lib.hid fun v h => two_call hi.fit.wr ho.fit.wr ha.fit.wr q v h))
theorem q_plain (K : GF c a) (L : LF0 c a) (fc : Fit c) (fa : Fit a) : Vt.k3 c a = Gx.q c a := by
  unfold Vt.k3
  rw [lam_plain rfl K L fc fa, L.h.e]
  exact step_two u1_fit L.l _
theorem G1_plain (K : GF c a) (L : LF c a) (fc : Fit c) (fa : Fit a) : Vt.k3 c a = Gx.q c a ∧ Vt.k4 c a = Gx.v c a := by
  have e3 := q_plain K L.zero fc fa
  refine ⟨e3, ?_⟩
  unfold Vt.k4
  rw [e3, L.q.e]
  exact step_two u1_fit L.q _
theorem G1_ok (hc : In c ouI) (ha : In a aI) (L : LF c a) : Top2 21 c a (Gx.v c a) 0 := fun w => by
  have k := G1_any hc ha w
  rw [(G1_plain (g_in hc ha).fits L hc.fit ha.fit).2, L.v.e] at k
  exact k
theorem G2_plain (Ki : GF i a) (Li : LF0 i a) (fq : Fit (Gx.q i a)) (Ko : GF o a) (Lo : LF0 o a) (fi : Fit i) (fo : Fit o) (fa : Fit a) (f2 : Fit (Gx.q2 i o a)) : Wt.k5 i o a = Gx.w i o a := by
  have e3 := q_plain Ki Li fi fa
  have ey : Wt.y i o a = Gx.h o a := by unfold Wt.y; exact lam_plain (by rw [e3]; exact fq.e) Ko Lo fo fa
  have e4 : Wt.k4 i o a = Gx.q2 i o a := by unfold Wt.k4; rw [ey, e3, Lo.h.e]; exact step_two fq Lo.l _
  unfold Wt.k5
  rw [e4, f2.e]
  exact step_two u1_fit f2 _
theorem G2_ok (hi : In i ouI) (ho : In o ouI) (ha : In a aI) (Li : LF0 i a) (fq : Fit (Gx.q i a)) (Lo : LF0 o a) (f2 : Fit (Gx.q2 i o a)) (fw : Fit (Gx.w i o a)) (w : World) : Calls Try.prog 20 #[.agg #[.float .f64 i.lo, .float .f64 i.hi], .agg #[.float .f64 o.lo, .float .f64 o.hi], .agg #[.float .f64 a.lo, .float .f64 a.hi]] w fun x w' => x = .returned (.tuple #[.agg #[.float .f64 (Gx.w i o a).lo, .float .f64 (Gx.w i o a).hi], .int .i64 0]) ∧ Below w.heap.size w w' := by
  have k := G2_any hi ho ha w
  rw [G2_plain (g_in hi ha).fits Li fq (g_in ho ha).fits Lo hi.fit ho.fit ha.fit f2, fw.e] at k
  exact k
end
end Go.Proofs.Ythefgkgdadkgbaa

namespace Go.Proofs.Ythefgkgdadkgbaa
open Go.RowKit
attribute [local go_sem] run_store_float

section
variable {P : Program} {ops : Array Oper} {Q : Exit → Act → World → Prop} {md : Region.Mode} {S : World → Prop}
theorem lpx_ccc_2 {a0 : Act} {B v : World} {l : List (Nat × Array Value)} {x : Nat × Array Value} (_ : Hid (Own B (x :: l) v)) {w0 : World} {L0 : Array Bool} (c1 c2 c3 m1 m2 : Nat) (slots : List Nat) (N : Nat) (J : List (Nat × Array Value) → Act → Nat → List (Option Nat) → Act → World → Prop) (hok : latOkP [false, false, false] md ops L0 [c1, c2, c3] [m1, m2] = true)
    (hsl : (slots.all fun s => decide (s < a0.tmps.size)) = true) (h0 : ∀ A : Act, (∀ s, s ∈ slots → s < A.tmps.size) → J l A 0 (List.replicate 2 none) A w0)
    (hS : ∀ k p a w, J l a0 k p a w → S w)
    (k1 : ∀ p a w, J l a0 0 p a w → wpOp P ops Q c1 (fun b v => J l a0 1 p b v) a w)
    (k2 : ∀ p a w, J l a0 1 p a w → wpOp P ops Q c2 (fun b v => J l a0 2 p b v) a w)
    (k3 : ∀ p a w, J l a0 2 p a w → wpOp P ops Q c3 (fun b v => J l a0 3 p b v) a w)
    (n1 : ∀ k p a w, p[0]? = some none → J l a0 k p a w → wpOp P ops Q m1 (fun b v => ∃ q, J l a0 k (p.set 0 (some q)) b v) a w)
    (n2 : ∀ k p a w, p[1]? = some none → J l a0 k p a w → wpOp P ops Q m2 (fun b v => ∃ q, J l a0 k (p.set 1 (some q)) b v) a w)
    (fin : ∀ q1 q2 a w, J l a0 3 [some q1, some q2] a w → wpAnyV P md ops Q S [] N (lstOf L0 [c1, c2, c3] [m1, m2] 3 [true, true]) a w) :
    wpAnyV P md ops Q S [] (N + 5) L0 a0 w0 := by
  refine latP_from (pl := [false, false, false]) [c1, c2, c3] [m1, m2] slots N 5 (J l) hok rfl hsl h0 hS (fun k i p a w hk hn hJ => ?_) (fun k i p a w hk hn hJ => ?_) (fun k m i p a w hm hp hJ => ?_) (fun p a w hp hall hJ => ?_)
  · rcases k with _ | _ | _ | k
    · obtain rfl : c1 = i := by simpa using hk
      exact k1 p a w hJ
    · obtain rfl : c2 = i := by simpa using hk
      exact k2 p a w hJ
    · obtain rfl : c3 = i := by simpa using hk
      exact k3 p a w hJ
    · simp at hk
  · rcases k with _ | _ | _ | k
    · exact absurd hn (by decide)
    · exact absurd hn (by decide)
    · exact absurd hn (by decide)
    · simp at hk
  · rcases m with _ | _ | m
    · obtain rfl : m1 = i := by simpa using hm
      exact n1 k p a w hp hJ
    · obtain rfl : m2 = i := by simpa using hm
      exact n2 k p a w hp hJ
    · simp at hm
  · obtain ⟨q1, q2, rfl⟩ := fin_two hp hall
    exact fin q1 q2 a w hJ
end

def msJ9 (w : World) (pb : Nat) (sl sh tl th rl rh : Nat) (l : RowL) (a0 : Act) (k : Nat) (p : List (Option Nat)) (a : Act) (v : World) : Prop :=
  ∃ y1 y2 y3 z1 z2 : Value, a = (((((a0.put (some 63) y1).put (some 65) y2).put (some 70) y3).put (some 16) z1).put (some 17) z2) ∧ (0 < k → y1 = .agg #[.float .f64 sl, .float .f64 sh]) ∧ (1 < k → y2 = .agg #[.float .f64 tl, .float .f64 th]) ∧ (2 < k → y3 = .agg #[.float .f64 rl, .float .f64 rh]) ∧ (∀ q, p[0]? = some (some q) → z1 = .pointer (some ⟨q, 0, none⟩)) ∧ (∀ q, p[1]? = some (some q) → z2 = .pointer (some ⟨q, 0, none⟩)) ∧ OwnF w ((pb, #[.int .i64 0]) :: l) [#[.float .f64 0, .float .f64 0], #[.float .f64 0, .float .f64 0]] p v
section
variable {w v : World} {pb : Nat} {sl sh tl th rl rh : Nat} {l : RowL} {a0 a : Act} {p : List (Option Nat)}
theorem msJ9_0 (h : msJ9 w pb sl sh tl th rl rh l a0 0 p a v) : ∃ y1 y2 y3 z1 z2 : Value, a = (((((a0.put (some 63) y1).put (some 65) y2).put (some 70) y3).put (some 16) z1).put (some 17) z2) ∧ (∀ q, p[0]? = some (some q) → z1 = .pointer (some ⟨q, 0, none⟩)) ∧ (∀ q, p[1]? = some (some q) → z2 = .pointer (some ⟨q, 0, none⟩)) ∧ OwnF w ((pb, #[.int .i64 0]) :: l) [#[.float .f64 0, .float .f64 0], #[.float .f64 0, .float .f64 0]] p v := by
  obtain ⟨y1, y2, y3, z1, z2, ha, E1, E2, E3, G1, G2, h⟩ := h
  exact ⟨y1, y2, y3, z1, z2, ha, G1, G2, h⟩
theorem msJ9_1 (h : msJ9 w pb sl sh tl th rl rh l a0 1 p a v) : ∃ y2 y3 z1 z2 : Value, a = (((((a0.put (some 63) (.agg #[.float .f64 sl, .float .f64 sh])).put (some 65) y2).put (some 70) y3).put (some 16) z1).put (some 17) z2) ∧ (∀ q, p[0]? = some (some q) → z1 = .pointer (some ⟨q, 0, none⟩)) ∧ (∀ q, p[1]? = some (some q) → z2 = .pointer (some ⟨q, 0, none⟩)) ∧ OwnF w ((pb, #[.int .i64 0]) :: l) [#[.float .f64 0, .float .f64 0], #[.float .f64 0, .float .f64 0]] p v := by
  obtain ⟨y1, y2, y3, z1, z2, ha, E1, E2, E3, G1, G2, h⟩ := h
  obtain rfl := E1 (by decide)
  exact ⟨y2, y3, z1, z2, ha, G1, G2, h⟩
theorem msJ9_2 (h : msJ9 w pb sl sh tl th rl rh l a0 2 p a v) : ∃ y3 z1 z2 : Value, a = (((((a0.put (some 63) (.agg #[.float .f64 sl, .float .f64 sh])).put (some 65) (.agg #[.float .f64 tl, .float .f64 th])).put (some 70) y3).put (some 16) z1).put (some 17) z2) ∧ (∀ q, p[0]? = some (some q) → z1 = .pointer (some ⟨q, 0, none⟩)) ∧ (∀ q, p[1]? = some (some q) → z2 = .pointer (some ⟨q, 0, none⟩)) ∧ OwnF w ((pb, #[.int .i64 0]) :: l) [#[.float .f64 0, .float .f64 0], #[.float .f64 0, .float .f64 0]] p v := by
  obtain ⟨y1, y2, y3, z1, z2, ha, E1, E2, E3, G1, G2, h⟩ := h
  obtain rfl := E1 (by decide)
  obtain rfl := E2 (by decide)
  exact ⟨y3, z1, z2, ha, G1, G2, h⟩
theorem msJ9_fin {q1 q2 : Nat} (h : msJ9 w pb sl sh tl th rl rh l a0 3 [some q1, some q2] a v) : a = (((((a0.put (some 63) (.agg #[.float .f64 sl, .float .f64 sh])).put (some 65) (.agg #[.float .f64 tl, .float .f64 th])).put (some 70) (.agg #[.float .f64 rl, .float .f64 rh])).put (some 16) (.pointer (some ⟨q1, 0, none⟩))).put (some 17) (.pointer (some ⟨q2, 0, none⟩))) ∧ OwnF w ((pb, #[.int .i64 0]) :: l) [#[.float .f64 0, .float .f64 0], #[.float .f64 0, .float .f64 0]] [some q1, some q2] v := by
  obtain ⟨y1, y2, y3, z1, z2, ha, E1, E2, E3, G1, G2, h⟩ := h
  obtain rfl := E1 (by decide)
  obtain rfl := E2 (by decide)
  obtain rfl := E3 (by decide)
  obtain rfl := G1 _ rfl
  obtain rfl := G2 _ rfl
  exact ⟨ha, h⟩
end

set_option maxRecDepth 100000 in
set_option maxHeartbeats 16000000 in
theorem mshare_law {u0 u1 u2 u3 u4 u5 v0 a0 a1 a2 a3 a4 a5 b0 b1 b2 b3 b4 b5 al x0 x1 x2 x3 x4 x5 x6 x7 gl gh fl fh sl sh tl th rl rh pl ph ql : Nat} (w : World)
    (c1 : Hid (∀ w, Calls Try.prog 6 #[.agg #[.int .u32 u0, .int .u32 u1, .int .u32 u2, .int .u32 u3, .int .u32 u4, .int .u32 u5]] w fun r w' => r = .returned (.tuple #[.agg #[.float .f64 a0, .float .f64 a1, .float .f64 a2, .float .f64 a3, .float .f64 a4, .float .f64 a5], .agg #[.float .f64 b0, .float .f64 b1, .float .f64 b2, .float .f64 b3, .float .f64 b4, .float .f64 b5], .bool true]) ∧ Below w.heap.size w w'))
    (c2 : Hid (∀ w, Calls Try.prog 8 #[.float .f64 4584664420663164928, .float .f64 4607182418800017408, .int .u32 v0] w fun r w' => r = .returned (.float .f64 al) ∧ w = w'))
    (c3 : Hid (∀ w, Calls Try.prog 7 #[.float .f64 al] w fun r w' => r = .returned (.agg #[.float .f64 al, .float .f64 al]) ∧ Below w.heap.size w w'))
    (c4 : Hid (∀ w, Calls Try.prog 9 #[.agg #[.float .f64 a0, .float .f64 a1, .float .f64 a2, .float .f64 a3, .float .f64 a4, .float .f64 a5], .agg #[.float .f64 b0, .float .f64 b1, .float .f64 b2, .float .f64 b3, .float .f64 b4, .float .f64 b5], .agg #[.float .f64 al, .float .f64 al]] w fun r w' => r = .returned (.tuple #[.agg #[.float .f64 x0, .float .f64 x1, .float .f64 x2, .float .f64 x3, .float .f64 x4, .float .f64 x5, .float .f64 x6, .float .f64 x7], .int .i64 0]) ∧ Below w.heap.size w w'))
    (c5 : Hid (∀ w, Calls Try.prog 20 #[.agg #[.float .f64 a4, .float .f64 a5], .agg #[.float .f64 b4, .float .f64 b5], .agg #[.float .f64 al, .float .f64 al]] w fun r w' => r = .returned (.tuple #[.agg #[.float .f64 gl, .float .f64 gh], .int .i64 0]) ∧ Below w.heap.size w w'))
    (c6 : Hid (∀ w, Calls Try.prog 21 #[.agg #[.float .f64 b4, .float .f64 b5], .agg #[.float .f64 al, .float .f64 al]] w fun r w' => r = .returned (.tuple #[.agg #[.float .f64 fl, .float .f64 fh], .int .i64 0]) ∧ Below w.heap.size w w'))
    (d7 : Hid (K2 14 0 0 x4 x5 a4 a5 sl sh))
    (d8 : Hid (K2 14 0 0 sl sh fl fh tl th))
    (d9 : Hid (K2 14 0 0 x6 x7 gl gh rl rh))
    (c10 : Hid (∀ w, Calls Try.prog 12 #[.agg #[.float .f64 b0, .float .f64 b1, .float .f64 b2, .float .f64 b3, .float .f64 b4, .float .f64 b5], .agg #[.float .f64 b0, .float .f64 b1, .float .f64 b2, .float .f64 b3, .float .f64 b4, .float .f64 b5]] w fun r w' => r = .returned (.tuple #[.agg #[.float .f64 pl, .float .f64 ph], .agg #[.float .f64 ql, .float .f64 4607182418800017408], .int .i64 0]) ∧ Below w.heap.size w w'))
    (c12 : Hid (∀ w, Calls Try.prog 10 #[.agg #[.float .f64 tl, .float .f64 th], .agg #[.float .f64 rl, .float .f64 rh]] w fun r w' => r = .returned (.bool true) ∧ Below w.heap.size w w'))
    (c13 : Hid (∀ w, Calls Try.prog 10 #[.agg #[.float .f64 pl, .float .f64 ph], .agg #[.float .f64 b4, .float .f64 b5]] w fun r w' => r = .returned (.bool true) ∧ Below w.heap.size w w'))
    (o_eql418800017408_418800017408 : ((FloatKind.f64.format.order 4607182418800017408 4607182418800017408 == some Ordering.eq) = true))
    (o_geqql_418800009216 : (((FloatKind.f64.format.order ql 4607182418800009216 == some Ordering.gt) || (FloatKind.f64.format.order ql 4607182418800009216 == some Ordering.eq)) = true))
    (c14 : Hid (∀ w, Calls Try.prog 11 #[] w fun r w' => r = .returned (.bool true) ∧ Below w.heap.size w w')) :
    Calls Try.prog 5 #[.agg #[.int .u32 u0, .int .u32 u1, .int .u32 u2, .int .u32 u3, .int .u32 u4, .int .u32 u5], .int .u32 v0] w fun r w' => r = .returned (.bool true) ∧ Below w.heap.size w w' := by
  have M := Lib.hid ((Own.nil w).made #[.int .u32 u0, .int .u32 u1, .int .u32 u2, .int .u32 u3, .int .u32 u4, .int .u32 u5] 23)
  have eqF := eq_floats
  go_enter Try.func5, Try.ntmps5
  obtain ⟨k1, k2, k3, k4, k5, k6⟩ := (M.out.nth 0 rfl).six
  go_wp2_with fail
  refine (c1.out _).mono ?_
  rintro r w1_ ⟨rfl, hb⟩
  replace M := Lib.hid (M.out.below hb)
  clear hb
  clear k1 k2 k3 k4 k5 k6
  replace M := Lib.hid (M.out.made #[.float .f64 a0, .float .f64 a1, .float .f64 a2, .float .f64 a3, .float .f64 a4, .float .f64 a5] 28)
  replace M := Lib.hid (M.out.made #[.float .f64 b0, .float .f64 b1, .float .f64 b2, .float .f64 b3, .float .f64 b4, .float .f64 b5] 28)
  simp only [World.size_alloc] at M
  go_wp2_with fail
  refine (c2.out _).mono ?_
  rintro r w2_ ⟨rfl, rfl⟩
  go_wp2_with fail
  refine (c3.out _).mono ?_
  rintro r w3_ ⟨rfl, hb⟩
  replace M := Lib.hid (M.out.below hb)
  clear hb
  replace M := Lib.hid (M.out.made #[.float .f64 al, .float .f64 al] 26)
  obtain ⟨k1, k2, k3, k4, k5, k6⟩ := (M.out.nth 2 rfl).six
  obtain ⟨k7, k8, k9, k10, k11, k12⟩ := (M.out.nth 1 rfl).six
  go_wp2_with fail
  refine (c4.out _).mono ?_
  rintro r w4_ ⟨rfl, hb⟩
  replace M := Lib.hid (M.out.below hb)
  clear hb
  clear k1 k2 k3 k4 k5 k6 k7 k8 k9 k10 k11 k12
  replace M := Lib.hid (M.out.made #[.float .f64 x0, .float .f64 x1, .float .f64 x2, .float .f64 x3, .float .f64 x4, .float .f64 x5, .float .f64 x6, .float .f64 x7] 34)
  obtain ⟨k1, k2, k3, k4, k5, k6⟩ := (M.out.nth 3 rfl).six
  obtain ⟨k7, k8, k9, k10, k11, k12⟩ := (M.out.nth 2 rfl).six
  obtain ⟨k13, k14⟩ := (M.out.nth 1 rfl).two
  go_wp2_with fail
  refine (c5.out _).mono ?_
  rintro r w5_ ⟨rfl, hb⟩
  replace M := Lib.hid (M.out.below hb)
  clear hb
  clear k1 k2 k3 k4 k5 k6 k7 k8 k9 k10 k11 k12 k13 k14
  replace M := Lib.hid (M.out.made #[.float .f64 gl, .float .f64 gh] 26)
  obtain ⟨k1, k2, k3, k4, k5, k6⟩ := (M.out.nth 3 rfl).six
  obtain ⟨k7, k8⟩ := (M.out.nth 2 rfl).two
  go_wp2_with fail
  refine (c6.out _).mono ?_
  rintro r w6_ ⟨rfl, hb⟩
  replace M := Lib.hid (M.out.below hb)
  clear hb
  clear k1 k2 k3 k4 k5 k6 k7 k8
  replace M := Lib.hid (M.out.made #[.float .f64 fl, .float .f64 fh] 26)
  replace M := Lib.hid (M.out.made #[.int .i64 0] 45)
  simp only [World.size_alloc] at M
  go_upto_region 9 with fail
  replace M := Lib.hid M.out.drew
  revert M
  generalize ((w6_.alloc (.cells #[.float .f64 fl, .float .f64 fh] 26)).alloc (.cells #[.int .i64 0] 45)) = W7_
  intro M
  refine wp_region_noPanic ?_
  refine tails_region (S := fun w' => (w'.cell? ⟨w4_.heap.size, 0, none⟩ = some (.float .f64 x0) ∧ w'.cell? ⟨w4_.heap.size, 1, none⟩ = some (.float .f64 x1) ∧ w'.cell? ⟨w4_.heap.size, 2, none⟩ = some (.float .f64 x2) ∧ w'.cell? ⟨w4_.heap.size, 3, none⟩ = some (.float .f64 x3) ∧ w'.cell? ⟨w4_.heap.size, 4, none⟩ = some (.float .f64 x4) ∧ w'.cell? ⟨w4_.heap.size, 5, none⟩ = some (.float .f64 x5) ∧ w'.cell? ⟨w4_.heap.size, 6, none⟩ = some (.float .f64 x6) ∧ w'.cell? ⟨w4_.heap.size, 7, none⟩ = some (.float .f64 x7)) ∧ (w'.cell? ⟨w1_.heap.size, 0, none⟩ = some (.float .f64 a0) ∧ w'.cell? ⟨w1_.heap.size, 1, none⟩ = some (.float .f64 a1) ∧ w'.cell? ⟨w1_.heap.size, 2, none⟩ = some (.float .f64 a2) ∧ w'.cell? ⟨w1_.heap.size, 3, none⟩ = some (.float .f64 a3) ∧ w'.cell? ⟨w1_.heap.size, 4, none⟩ = some (.float .f64 a4) ∧ w'.cell? ⟨w1_.heap.size, 5, none⟩ = some (.float .f64 a5)) ∧ (w'.cell? ⟨w6_.heap.size, 0, none⟩ = some (.float .f64 fl) ∧ w'.cell? ⟨w6_.heap.size, 1, none⟩ = some (.float .f64 fh)) ∧ (w'.cell? ⟨w5_.heap.size, 0, none⟩ = some (.float .f64 gl) ∧ w'.cell? ⟨w5_.heap.size, 1, none⟩ = some (.float .f64 gh))) [] (by kernel_rfl) ?_ (fun hS => ?_)
  · exact ⟨(M.out.nth 3 rfl).eight, (M.out.nth 6 rfl).six, (M.out.nth 1 rfl).two, (M.out.nth 2 rfl).two⟩
  refine tk (x := ?_) 0 rfl (by kernel_rfl) ⟨by kernel_rfl, ?_⟩ (fun _ _ _ h => h) hS ?_
  rotate_left; focus (intro w hSw; (try dsimp only at hSw); go_simp; try with_reducible rfl)
  refine tk (x := ?_) 1 rfl (by kernel_rfl) ⟨by kernel_rfl, ?_⟩ (fun _ _ _ h => h) hS ?_
  rotate_left; focus (intro w hSw; (try dsimp only at hSw); go_simp; try with_reducible rfl)
  refine tk (x := ?_) 2 rfl (by kernel_rfl) ⟨by kernel_rfl, ?_⟩ (fun _ _ _ h => h) hS ?_
  rotate_left; focus (intro w hSw; (try dsimp only at hSw); go_simp; try with_reducible rfl)
  refine tk (x := ?_) 3 rfl (by kernel_rfl) ⟨by kernel_rfl, ?_⟩ (fun _ _ _ h => h) hS ?_
  rotate_left; focus (intro w hSw; (try dsimp only at hSw); go_simp; try with_reducible rfl)
  refine tk (x := ?_) 4 rfl (by kernel_rfl) ⟨by kernel_rfl, ?_⟩ (fun _ _ _ h => h) hS ?_
  rotate_left; focus (intro w hSw; (try dsimp only at hSw); go_simp; try with_reducible rfl)
  refine tk (x := ?_) 5 rfl (by kernel_rfl) ⟨by kernel_rfl, ?_⟩ (fun _ _ _ h => h) hS ?_
  rotate_left; focus (intro w hSw; (try dsimp only at hSw); go_simp; try with_reducible rfl)
  refine tk (x := ?_) 7 rfl (by kernel_rfl) ⟨by kernel_rfl, ?_⟩ (fun _ _ _ h => h) hS ?_
  rotate_left; focus (intro w hSw; (try dsimp only at hSw); go_simp; try with_reducible rfl)
  refine tk (x := ?_) 9 rfl (by kernel_rfl) ⟨by kernel_rfl, ?_⟩ (fun _ _ _ h => h) hS ?_
  rotate_left; focus (intro w hSw; (try dsimp only at hSw); go_simp; try with_reducible rfl)
  refine tk (x := ?_) 10 rfl (by kernel_rfl) ⟨by kernel_rfl, ?_⟩ (fun _ _ _ h => h) hS ?_
  rotate_left; focus (intro w hSw; (try dsimp only at hSw); go_simp; try with_reducible rfl)
  refine tk (x := ?_) 11 rfl (by kernel_rfl) ⟨by kernel_rfl, ?_⟩ (fun _ _ _ h => h) hS ?_
  rotate_left; focus (intro w hSw; (try dsimp only at hSw); go_simp; try with_reducible rfl)
  refine tk (x := ?_) 12 rfl (by kernel_rfl) ⟨by kernel_rfl, ?_⟩ (fun _ _ _ h => h) hS ?_
  rotate_left; focus (intro w hSw; (try dsimp only at hSw); go_simp; try with_reducible rfl)
  conv => arg 9; simp only [Act.put, go_sem]
  refine lpx_ccc_2 M 6 8 13 14 15 [63, 65, 70, 16, 17] 2 (msJ9 w (w6_.heap.size + 1) sl sh tl th rl rh) (by kernel_rfl) (by kernel_rfl) ?_ ?_ ?_ ?_ ?_ ?_ ?_ ?_
  · intro A hA
    obtain ⟨y1, hq1⟩ := put_ex (hA 63 (by simp))
    obtain ⟨y2, hq2⟩ := put_ex (hA 65 (by simp))
    obtain ⟨y3, hq3⟩ := put_ex (hA 70 (by simp))
    obtain ⟨z1, hq4⟩ := put_ex (hA 16 (by simp))
    obtain ⟨z2, hq5⟩ := put_ex (hA 17 (by simp))
    exact ⟨y1, y2, y3, z1, z2, by rw [hq1, hq2, hq3, hq4, hq5], by omega, by omega, by omega, by simp, by simp, OwnF.start M.out 2⟩
  · rintro k p a v ⟨y1, y2, y3, z1, z2, _, _, _, _, _, _, h⟩
    exact ⟨(h.own.nth 3 rfl).eight, (h.own.nth 6 rfl).six, (h.own.nth 1 rfl).two, (h.own.nth 2 rfl).two⟩
  · intro p a v hJ
    refine op_step (o := _) rfl (fun K hK => ?_)
    obtain ⟨y1, y2, y3, z1, z2, ha, gg1, gg2, h⟩ := msJ9_0 hJ
    have h := Lib.hid h
    clear hJ
    subst ha
    go_simp
    refine (d7.out _ _ (h.out.own.nth 0 rfl)).mono ?_
    rintro rr w5 ⟨rfl, hp⟩
    try go_wp2_with fail
    refine hK.out _ _ ⟨_, y2, y3, z1, z2, ?_, fun _ => rfl, by omega, by omega, gg1, gg2, h.out.putHead hp⟩
    kernel_rfl
  · intro p a v hJ
    refine op_step (o := _) rfl (fun K hK => ?_)
    obtain ⟨y2, y3, z1, z2, ha, gg1, gg2, h⟩ := msJ9_1 hJ
    have h := Lib.hid h
    clear hJ
    subst ha
    go_simp
    refine (d8.out _ _ (h.out.own.nth 0 rfl)).mono ?_
    rintro rr w5 ⟨rfl, hp⟩
    try go_wp2_with fail
    refine hK.out _ _ ⟨_, _, y3, z1, z2, ?_, fun _ => rfl, fun _ => rfl, by omega, gg1, gg2, h.out.putHead hp⟩
    kernel_rfl
  · intro p a v hJ
    refine op_step (o := _) rfl (fun K hK => ?_)
    obtain ⟨y3, z1, z2, ha, gg1, gg2, h⟩ := msJ9_2 hJ
    have h := Lib.hid h
    clear hJ
    subst ha
    go_simp
    refine (d9.out _ _ (h.out.own.nth 0 rfl)).mono ?_
    rintro rr w5 ⟨rfl, hp⟩
    try go_wp2_with fail
    refine hK.out _ _ ⟨_, _, _, z1, z2, ?_, fun _ => rfl, fun _ => rfl, fun _ => rfl, gg1, gg2, h.out.putHead hp⟩
    kernel_rfl
  · intro k p a v hp hJ
    refine op_step (o := _) rfl (fun K hK => ?_)
    obtain ⟨y1, y2, y3, z1, z2, ha, ee1, ee2, ee3, gg1, gg2, h⟩ := hJ
    have h := Lib.hid h
    subst ha
    go_simp
    refine hK.out _ _ ⟨v.heap.size, y1, y2, y3, .pointer (some ⟨v.heap.size, 0, none⟩), z2, ?_, ee1, ee2, ee3, fun q hq => ptr_set hq, ptr_keep 1 (by decide) gg2, h.out.alloc hp rfl _⟩
    kernel_rfl
  · intro k p a v hp hJ
    refine op_step (o := _) rfl (fun K hK => ?_)
    obtain ⟨y1, y2, y3, z1, z2, ha, ee1, ee2, ee3, gg1, gg2, h⟩ := hJ
    have h := Lib.hid h
    subst ha
    go_simp
    refine hK.out _ _ ⟨v.heap.size, y1, y2, y3, z1, .pointer (some ⟨v.heap.size, 0, none⟩), ?_, ee1, ee2, ee3, ptr_keep 0 (by decide) gg1, fun q hq => ptr_set hq, h.out.alloc hp rfl _⟩
    kernel_rfl
  intro p9_1 p9_2 a v hJ
  obtain ⟨rfl, h⟩ := msJ9_fin hJ
  clear hJ
  replace M := Lib.hid h.fin2
  clear h
  refine tails_one (T := []) (i := 16) (o := _) rfl (by kernel_rfl) (fun K hK => ?_)
  have kc := (M.out.nth 0 rfl).2.1
  have kf := (M.out.nth 0 rfl).2.2
  replace M : Hid (Own w [(p9_1, #[.float .f64 tl, .float .f64 th]), (p9_2, #[.float .f64 0, .float .f64 0]), ((w6_.heap.size + 1), #[.int .i64 0]), (w6_.heap.size, #[.float .f64 fl, .float .f64 fh]), (w5_.heap.size, #[.float .f64 gl, .float .f64 gh]), (w4_.heap.size, #[.float .f64 x0, .float .f64 x1, .float .f64 x2, .float .f64 x3, .float .f64 x4, .float .f64 x5, .float .f64 x6, .float .f64 x7]), (w3_.heap.size, #[.float .f64 al, .float .f64 al]), ((w1_.heap.size + 1), #[.float .f64 b0, .float .f64 b1, .float .f64 b2, .float .f64 b3, .float .f64 b4, .float .f64 b5]), (w1_.heap.size, #[.float .f64 a0, .float .f64 a1, .float .f64 a2, .float .f64 a3, .float .f64 a4, .float .f64 a5]), (w.heap.size, #[.int .u32 u0, .int .u32 u1, .int .u32 u2, .int .u32 u3, .int .u32 u4, .int .u32 u5])] _) := Lib.hid (M.out.set2 0 rfl (.float .f64 tl) (.float .f64 th))
  go_simp
  refine hK.out _ _ (Or.inr ⟨(M.out.nth 5 rfl).eight, (M.out.nth 8 rfl).six, (M.out.nth 3 rfl).two, (M.out.nth 4 rfl).two⟩) (fun hHeld => ?_)
  clear hK K hHeld kc kf
  refine tails_one (T := []) (i := 17) (o := _) rfl (by kernel_rfl) (fun K hK => ?_)
  have kc := (M.out.nth 1 rfl).2.1
  have kf := (M.out.nth 1 rfl).2.2
  replace M : Hid (Own w [(p9_1, #[.float .f64 tl, .float .f64 th]), (p9_2, #[.float .f64 rl, .float .f64 rh]), ((w6_.heap.size + 1), #[.int .i64 0]), (w6_.heap.size, #[.float .f64 fl, .float .f64 fh]), (w5_.heap.size, #[.float .f64 gl, .float .f64 gh]), (w4_.heap.size, #[.float .f64 x0, .float .f64 x1, .float .f64 x2, .float .f64 x3, .float .f64 x4, .float .f64 x5, .float .f64 x6, .float .f64 x7]), (w3_.heap.size, #[.float .f64 al, .float .f64 al]), ((w1_.heap.size + 1), #[.float .f64 b0, .float .f64 b1, .float .f64 b2, .float .f64 b3, .float .f64 b4, .float .f64 b5]), (w1_.heap.size, #[.float .f64 a0, .float .f64 a1, .float .f64 a2, .float .f64 a3, .float .f64 a4, .float .f64 a5]), (w.heap.size, #[.int .u32 u0, .int .u32 u1, .int .u32 u2, .int .u32 u3, .int .u32 u4, .int .u32 u5])] _) := Lib.hid (M.out.set2 1 rfl (.float .f64 rl) (.float .f64 rh))
  go_simp
  refine hK.out _ _ (Or.inr ⟨(M.out.nth 5 rfl).eight, (M.out.nth 8 rfl).six, (M.out.nth 3 rfl).two, (M.out.nth 4 rfl).two⟩) (fun hHeld => ?_)
  clear hK K hHeld kc kf
  refine tails_done (by kernel_rfl) ?_ _
  refine NoPanic.normal ?_
  clear hS
  replace M : Hid (Own w [((w6_.heap.size + 1), #[.int .i64 0]), (p9_1, #[.float .f64 tl, .float .f64 th]), (p9_2, #[.float .f64 rl, .float .f64 rh]), (w6_.heap.size, #[.float .f64 fl, .float .f64 fh]), (w5_.heap.size, #[.float .f64 gl, .float .f64 gh]), (w4_.heap.size, #[.float .f64 x0, .float .f64 x1, .float .f64 x2, .float .f64 x3, .float .f64 x4, .float .f64 x5, .float .f64 x6, .float .f64 x7]), (w3_.heap.size, #[.float .f64 al, .float .f64 al]), ((w1_.heap.size + 1), #[.float .f64 b0, .float .f64 b1, .float .f64 b2, .float .f64 b3, .float .f64 b4, .float .f64 b5]), (w1_.heap.size, #[.float .f64 a0, .float .f64 a1, .float .f64 a2, .float .f64 a3, .float .f64 a4, .float .f64 a5]), (w.heap.size, #[.int .u32 u0, .int .u32 u1, .int .u32 u2, .int .u32 u3, .int .u32 u4, .int .u32 u5])] _) := Lib.hid M.out.front2
  revert M
  generalize ((((v.setCell ⟨p9_1, 0, none⟩ (.float .f64 tl)).setCell ⟨p9_1, 1, none⟩ (.float .f64 th)).setCell ⟨p9_2, 0, none⟩ (.float .f64 rl)).setCell ⟨p9_2, 1, none⟩ (.float .f64 rh)) = W8_
  intro M
  obtain ⟨k1, k2, k3, k4, k5, k6⟩ := (M.out.nth 7 rfl).six
  go_wp2_with fail
  refine (c10.out _).mono ?_
  rintro r w9_ ⟨rfl, hb⟩
  replace M := Lib.hid (M.out.below hb)
  clear hb
  clear k1 k2 k3 k4 k5 k6
  replace M := Lib.hid (M.out.made #[.float .f64 pl, .float .f64 ph] 26).front
  replace M := Lib.hid (M.out.made #[.float .f64 ql, .float .f64 4607182418800017408] 26).front
  simp only [World.size_alloc] at M
  go_wp2_with fail
  refine (err_any 0 _ 0 _ (M.out.nth 0 rfl).pc).mono ?_
  rintro r w10_ ⟨rfl, rfl⟩
  obtain ⟨k1, k2⟩ := (M.out.nth 3 rfl).two
  obtain ⟨k3, k4⟩ := (M.out.nth 4 rfl).two
  go_wp2_with fail
  refine (c12.out _).mono ?_
  rintro r w11_ ⟨rfl, hb⟩
  replace M := Lib.hid (M.out.below hb)
  clear hb
  clear k1 k2 k3 k4
  obtain ⟨k1, k2⟩ := (M.out.nth 2 rfl).two
  obtain ⟨k3, k4, k5, k6, k7, k8⟩ := (M.out.nth 9 rfl).six
  go_wp2_with fail
  refine (c13.out _).mono ?_
  rintro r w12_ ⟨rfl, hb⟩
  replace M := Lib.hid (M.out.below hb)
  clear hb
  clear k1 k2 k3 k4 k5 k6 k7 k8
  obtain ⟨k1, k2⟩ := (M.out.nth 1 rfl).two
  go_wp2_with fail
  refine (c14.out _).mono ?_
  rintro r w13_ ⟨rfl, hb⟩
  replace M := Lib.hid (M.out.below hb)
  clear hb
  clear k1 k2
  go_wp2
  go_ret
  exact ⟨rfl, M.out.base⟩

end Go.Proofs.Ythefgkgdadkgbaa
