/- What the claim stands on, part 23: MiB, MiD, MiE, MiBD, MiHD, MiSD. -/
import Derived.Test.YthefgkgdadkgbaaPA15
import Derived.Test.YthefgkgdadkgbaaPA17
import Derived.Test.YthefgkgdadkgbaaPA19
import Derived.Test.YthefgkgdadkgbaaPA21
import Derived.Test.YthefgkgdadkgbaaPA14
namespace Go.Proofs.Ythefgkgdadkgbaa
open Go.RowKit

def dU : V3 := ⟨⟨0, m1, u1⟩, ⟨0, m1, u1⟩, ouI⟩
theorem dU_fit : FitV dU := ⟨.of (by decide +kernel), .of (by decide +kernel), .of (by decide +kernel)⟩
theorem InV.fitV {A B : V3} (h : InV A B) : FitV A := ⟨h.x.fit, h.y.fit, h.z.fit⟩
abbrev agV (A : V3) : Value := .agg #[.float .f64 A.x.lo, .float .f64 A.x.hi, .float .f64 A.y.lo, .float .f64 A.y.hi, .float .f64 A.z.lo, .float .f64 A.z.hi]

def arI {r R : Res} (i : In r R) : Ar := ⟨r.lo, r.hi, R.lo, R.hi, fun w => by
  have k := ivRight_any r.lo r.hi w i.fit.lo i.fit.hi
  rw [i.fit.iv] at k
  exact k⟩
theorem arI_ok {r R : Res} (i : In r R) (fR : Fit R) : bad (arI i) = false := by
  have h1 := order_lt r.lo R.lo i.fit.lo fR.lo i.fit.rlo fR.rlo
  have h2 := order_gt r.hi R.hi i.fit.hi fR.hi i.fit.rhi fR.rhi
  have l := i.lo
  have g := i.hi
  rw [decide_eq_false (by omega)] at h1 h2
  show ((FloatKind.f64.format.order r.lo R.lo == some Ordering.lt) || (FloatKind.f64.format.order r.hi R.hi == some Ordering.gt)) = false
  rw [h1, h2]; rfl

theorem clampR_any {a : Res} (h : Wr a) (w : World) : Calls Try.prog 34 #[.agg #[.float .f64 a.lo, .float .f64 a.hi]] w fun x w' => x = .returned (.agg #[.float .f64 (clampR a).lo, .float .f64 (clampR a).hi]) ∧ Below w.heap.size w w' := by
  obtain ⟨l1, l2, _⟩ := max_facts a.lo 0 h.lo (by decide) h.rlo (by decide)
  obtain ⟨k1, k2, _⟩ := max_facts a.hi 0 h.hi (by decide) h.rhi (by decide)
  exact mclamped_walk w (m_yl := fun ts t w => (run_less a.lo 0 h.lo (by decide) h.rlo (by decide) ts t w).2) (m_zl := fun ts t w => (run_less _ u1 l1 (by decide) l2 (by decide) ts t w).1)
    (m_yh := fun ts t w => (run_less a.hi 0 h.hi (by decide) h.rhi (by decide) ts t w).2) (m_zh := fun ts t w => (run_less _ u1 k1 (by decide) k2 (by decide) ts t w).1)

def Hf.s (A B : V3) : V3 := addV 0 A B
def Hf.n (A B : V3) : Res := normV (Hf.s A B).z.e (Hf.s A B)
def Hf.u (A B : V3) : Res := stU (Hf.n A B).e uh
def Hf.m (A B : V3) : Res := stM (Hf.u A B).e (Hf.u A B) (Hf.n A B)
def Hf.k (A B : V3) : Res := stD (Hf.m A B).e (Hf.s A B).z (Hf.n A B)
abbrev HalfC (A B : V3) (p q : Res) (e : Int) : Prop := ∀ w, Calls Try.prog 12 #[agV A, agV B] w fun r w' => r = .returned (.tuple #[.agg #[.float .f64 p.lo, .float .f64 p.hi], .agg #[.float .f64 q.lo, .float .f64 q.hi], .int .i64 e]) ∧ Below w.heap.size w w'
theorem six_ok {a b c d e f : Ar} (h1 : bad a = false) (h2 : bad b = false) (h3 : bad c = false) (h4 : bad d = false) (h5 : bad e = false) (h6 : bad f = false) : (if [a, b, c, d, e, f].any bad = true then (2 : Int) else 0) = 0 := by
  simp only [List.any_cons, List.any_nil, h1, h2, h3, h4, h5, h6]; rfl
theorem seven_any {a b c d e f g : Ar} (h1 : bad a = false) (h2 : bad b = false) (h3 : bad c = false) (h4 : bad d = false) (h5 : bad e = false) (h6 : bad f = false) : (if [a, b, c, d, e, f, g].any bad = true then (2 : Int) else 0) = if bad g = true then 2 else 0 := by
  simp only [List.any_cons, List.any_nil, h1, h2, h3, h4, h5, h6, Bool.false_or, Bool.or_false]
section
variable {A B : V3} (iA : InV A dU) (iB : InV B dU)
include iA iB
theorem hf_wr : (Wr (Hf.s A B).x ∧ Wr (Hf.s A B).y ∧ Wr (Hf.s A B).z) ∧ Wr (Hf.n A B) ∧ Wr (Hf.u A B) ∧ Wr (Hf.m A B) ∧ Wr (Hf.k A B) := by
  have sx : Wr (Hf.s A B).x := stA_wr 0 iA.x.fit.wr iB.x.fit.wr
  have sy : Wr (Hf.s A B).y := stA_wr (stA 0 A.x B.x).e iA.y.fit.wr iB.y.fit.wr
  have sz : Wr (Hf.s A B).z := stA_wr (stA (stA 0 A.x B.x).e A.y B.y).e iA.z.fit.wr iB.z.fit.wr
  have n : Wr (Hf.n A B) := stR_wr _ (stA_wr _ (stA_wr _ (stQ_wr _ sx) (stQ_wr _ sy)) (stQ_wr _ sz))
  have u : Wr (Hf.u A B) := stU_wr _ uh_fit
  exact ⟨⟨sx, sy, sz⟩, n, u, stM_wr _ u n, stD_wr _ sz n⟩
theorem half_all : ((Hf.k A B).e = 0 → HalfC A B (clampR (Hf.k A B)) (clampR (Hf.m A B)) 0) ∧ ((Hf.k A B).e ≠ 0 → HalfC A B (oneR 0) (oneR 0) (Hf.k A B).e) := by
  obtain ⟨⟨wx, wy, wz⟩, wn, wu, wm, wk⟩ := hf_wr iA iB
  have cA := Lib.hid fun w => args0_any (e1 := arI iA.x) (e2 := arI iA.y) (e3 := arI iA.z) (e4 := arI iB.x) (e5 := arI iB.y) (e6 := arI iB.z) ⟨rfl, rfl⟩ ⟨rfl, rfl⟩ ⟨rfl, rfl⟩ ⟨rfl, rfl⟩ ⟨rfl, rfl⟩ ⟨rfl, rfl⟩ w
  have cK := Lib.hid fun lb w (h : Gd [arI iA.x, arI iA.y, arI iA.z, arI iB.x, arI iB.y, arI iB.z] 6 lb w) => check_all lb w h
  rw [six_ok (arI_ok iA.x dU_fit.x) (arI_ok iA.y dU_fit.y) (arI_ok iA.z dU_fit.z) (arI_ok iB.x dU_fit.x) (arI_ok iB.y dU_fit.y) (arI_ok iB.z dU_fit.z)] at cK
  have d3 := Lib.hid fun pb v h => vadd_any 0 iA.fitV.wd iB.fitV.wd pb v h
  have d4 := Lib.hid fun pb v h => norm_any (a := Hf.s A B) (Hf.s A B).z.e ⟨⟨wx.lo, wx.hi⟩, ⟨wy.lo, wy.hi⟩, ⟨wz.lo, wz.hi⟩⟩ pb v h
  have d5 := Lib.hid fun pb v (h : Has1 v (pb, #[.int .i64 (Hf.n A B).e])) => s_num (Hf.n A B).e pb uh_fit v h.pc h.pf
  have d6 := Lib.hid fun pb v (h : Has1 v (pb, #[.int .i64 (Hf.u A B).e])) => s_mul (Hf.u A B).e wu wn pb v h.pc h.pf
  have d8 := Lib.hid fun pb v (h : Has1 v (pb, #[.int .i64 (Hf.m A B).e])) => s_div (Hf.m A B).e wz wn pb v h.pc h.pf
  have c7 := Lib.hid fun w => clampR_any wm w
  have c9 := Lib.hid fun w => clampR_any wk w
  refine ⟨fun h w => ?_, fun h w => ?_⟩
  · exact mhalf_ok w cA cK d3 d4 d5 d6 c7 d8 c9 (by simpa [Hf.k] using h)
  · exact mhalf_bad w cA cK d3 d4 d5 d6 c7 d8 c9 (by simpa [Hf.k] using h)
theorem hf_plain (M : MF A B) : Hf.n A B = Mi.n A B ∧ Hf.m A B = Mi.h A B ∧ Hf.k A B = Mi.l A B := by
  have fA := iA.fitV
  have fB := iB.fitV
  have a1 : stA 0 A.x B.x = Mi.sx A B := step_two fA.x fB.x _
  have a2 : stA 0 A.y B.y = Mi.sy A B := step_two fA.y fB.y _
  have a3 : stA 0 A.z B.z = Mi.sz A B := step_two fA.z fB.z _
  have s : Hf.s A B = ⟨Mi.sx A B, Mi.sy A B, Mi.sz A B⟩ := by
    unfold Hf.s addV bothV
    rw [a1, M.sx.e, a2, M.sy.e, a3]
  have q1 : stQ 0 (Mi.sx A B) = Mi.n1 A B := step_one M.sx _
  have q2 : stQ 0 (Mi.sy A B) = Mi.n2 A B := step_one M.sy _
  have q3 : stA 0 (Mi.n1 A B) (Mi.n2 A B) = Mi.n3 A B := step_two M.n1 M.n2 _
  have q4 : stQ 0 (Mi.sz A B) = Mi.n4 A B := step_one M.sz _
  have q5 : stA 0 (Mi.n3 A B) (Mi.n4 A B) = Mi.n5 A B := step_two M.n3 M.n4 _
  have q6 : stR 0 (Mi.n5 A B) = Mi.n A B := step_one M.n5 _
  have n : Hf.n A B = Mi.n A B := by
    unfold Hf.n
    rw [s]
    show normV (Mi.sz A B).e ⟨Mi.sx A B, Mi.sy A B, Mi.sz A B⟩ = _
    rw [M.sz.e]
    unfold normV nrm5 nrm4 nrm3 nrm2 nrm1
    simp only [q1, M.n1.e, q2, M.n2.e, q3, M.n3.e, q4, M.n4.e, q5, M.n5.e, q6]
  have u : Hf.u A B = oneR uh := by unfold Hf.u; rw [n, M.n.e]; exact stU_plain uh_fit
  have m : Hf.m A B = Mi.h A B := by
    unfold Hf.m; rw [u, n]
    exact step_two uh_fit M.n _
  refine ⟨n, m, ?_⟩
  unfold Hf.k
  rw [m, M.h.e, n, s]
  exact step_two M.sz M.n _
theorem half_good (M : MF A B) : HalfC A B (Mi.lean A B) (Mi.half A B) 0 := fun w => by
  obtain ⟨_, e2, e3⟩ := hf_plain iA iB M
  have k := (half_all iA iB).1 (by rw [e3]; exact M.l.e) w
  rw [e2, e3] at k
  exact k
end
end Go.Proofs.Ythefgkgdadkgbaa

namespace Go.Proofs.Ythefgkgdadkgbaa
open Go.RowKit

def Lk.w : Res := stU 0 w4
def Lk.r (D g : Res) : Res := stM Lk.w.e D g
def Lk.s (D g i : Res) : Res := stM (Lk.r D g).e Lk.w i
def Lk.t (D g i o : Res) : Res := stM (Lk.s D g i).e (Lk.s D g i) o
def Lk.u (D g i o : Res) : Res := stD (Lk.t D g i o).e (Lk.r D g) (Lk.t D g i o)
def Lk.z (D g f i o : Res) : Res := stM (Lk.u D g i o).e f D
def Lk.x (D g f i o : Res) : Res := stM (Lk.z D g f i o).e Lk.w o
def Lk.y (D g f i o : Res) : Res := stD (Lk.x D g f i o).e (Lk.z D g f i o) (Lk.x D g f i o)
abbrev LookC (A B : V3) (a p q v d : Res) (e : Int) : Prop := ∀ w, Calls Try.prog 9 #[agV A, agV B, .agg #[.float .f64 a.lo, .float .f64 a.hi]] w fun r w' => r = .returned (.tuple #[.agg #[.float .f64 p.lo, .float .f64 p.hi, .float .f64 q.lo, .float .f64 q.hi, .float .f64 v.lo, .float .f64 v.hi, .float .f64 d.lo, .float .f64 d.hi], .int .i64 e]) ∧ Below w.heap.size w w'
theorem lk_w : Lk.w = oneR w4 := stU_plain w4_fit
theorem G1_wr {o a : Res} (ho : In o ouI) (ha : In a aI) : Wr (Vt.k4 o a) := stD_wr _ u1_fit.wr (stA_wr _ u1_fit.wr (nn_wr (lam_last 0 ho.fit.wr ha.fit.wr)))
theorem G2_wr {i o a : Res} (hi : In i ouI) (ho : In o ouI) (ha : In a aI) : Wr (Wt.k5 i o a) := by
  have h3 : Wr (Vt.k3 i a) := stA_wr _ u1_fit.wr (nn_wr (lam_last 0 hi.fit.wr ha.fit.wr))
  have hy : Wr (Wt.y i o a) := lam_last _ ho.fit.wr ha.fit.wr
  exact stD_wr _ u1_fit.wr (stA_wr _ h3 (nn_wr hy))
section
variable {A B : V3} {a : Res} (iA : InV A dU) (iB : InV B dU)
include iA iB
variable (ha : In a aI)
include ha
theorem look_all {p q : Res} {e : Int} (hH : HalfC A B p q e) (hp : In p ouI) :
    let D := Gx.D p a; let g := Wt.k5 A.z B.z a; let f := Vt.k4 B.z a
    (or5 e 0 g.e f.e (Lk.y D g f A.z B.z).e = 0 → LookC A B a p q (Lk.u D g A.z B.z) (Lk.y D g f A.z B.z) 0) ∧
    (or5 e 0 g.e f.e (Lk.y D g f A.z B.z).e ≠ 0 → LookC A B a (oneR 0) (oneR 0) (oneR 0) (oneR 0) (or5 e 0 g.e f.e (Lk.y D g f A.z B.z).e)) := by
  intro D g f
  have wD : Wr D := (g_in hp ha).D.fit.wr
  have wg : Wr g := G2_wr iA.z iB.z ha
  have wf : Wr f := G1_wr iB.z ha
  have wi := iA.z.fit.wr
  have wo := iB.z.fit.wr
  have ww : Wr Lk.w := stU_wr _ w4_fit
  have wr' : Wr (Lk.r D g) := stM_wr _ wD wg
  have ws : Wr (Lk.s D g A.z) := stM_wr _ ww wi
  have wt : Wr (Lk.t D g A.z B.z) := stM_wr _ ws wo
  have wu : Wr (Lk.u D g A.z B.z) := stD_wr _ wr' wt
  have wz : Wr (Lk.z D g f A.z B.z) := stM_wr _ wf wD
  have wx : Wr (Lk.x D g f A.z B.z) := stM_wr _ ww wo
  have cA := Lib.hid fun (q : Nat) (w : World) (hq : Has1 w (q, #[.float .f64 a.lo, .float .f64 a.hi])) => args1_any (e1 := arI iA.x) (e2 := arI iA.y) (e3 := arI iA.z) (e4 := arI iB.x) (e5 := arI iB.y) (e6 := arI iB.z) (e7 := arI ha) ⟨rfl, rfl⟩ ⟨rfl, rfl⟩ ⟨rfl, rfl⟩ ⟨rfl, rfl⟩ ⟨rfl, rfl⟩ ⟨rfl, rfl⟩ ⟨rfl, rfl⟩ q w hq
  have cK := Lib.hid fun lb w (h : Gd [arI iA.x, arI iA.y, arI iA.z, arI iB.x, arI iB.y, arI iB.z, arI ha] 7 lb w) => check_all lb w h
  rw [seven_any (arI_ok iA.x dU_fit.x) (arI_ok iA.y dU_fit.y) (arI_ok iA.z dU_fit.z) (arI_ok iB.x dU_fit.x) (arI_ok iB.y dU_fit.y) (arI_ok iB.z dU_fit.z), arI_ok ha aI_fit, if_neg Bool.false_ne_true] at cK
  have c4 := Lib.hid (D_any hp ha)
  have c5 := Lib.hid (G2_any iA.z iB.z ha)
  have c6 := Lib.hid (G1_any iB.z ha)
  have d7 := Lib.hid fun pb v (h : Has1 v (pb, #[.int .i64 0])) => s_num 0 pb w4_fit v h.pc h.pf
  have d8 := Lib.hid fun pb v (h : Has1 v (pb, #[.int .i64 Lk.w.e])) => s_mul Lk.w.e wD wg pb v h.pc h.pf
  have d9 := Lib.hid fun pb v (h : Has1 v (pb, #[.int .i64 (Lk.r D g).e])) => s_mul (Lk.r D g).e ww wi pb v h.pc h.pf
  have d10 := Lib.hid fun pb v (h : Has1 v (pb, #[.int .i64 (Lk.s D g A.z).e])) => s_mul (Lk.s D g A.z).e ws wo pb v h.pc h.pf
  have d11 := Lib.hid fun pb v (h : Has1 v (pb, #[.int .i64 (Lk.t D g A.z B.z).e])) => s_div (Lk.t D g A.z B.z).e wr' wt pb v h.pc h.pf
  have d12 := Lib.hid fun pb v (h : Has1 v (pb, #[.int .i64 (Lk.u D g A.z B.z).e])) => s_mul (Lk.u D g A.z B.z).e wf wD pb v h.pc h.pf
  have d13 := Lib.hid fun pb v (h : Has1 v (pb, #[.int .i64 (Lk.z D g f A.z B.z).e])) => s_mul (Lk.z D g f A.z B.z).e ww wo pb v h.pc h.pf
  have d14 := Lib.hid fun pb v (h : Has1 v (pb, #[.int .i64 (Lk.x D g f A.z B.z).e])) => s_div (Lk.x D g f A.z B.z).e wz wx pb v h.pc h.pf
  have cO := Lib.hid fun q w h => cmpOr_any e 0 g.e f.e (Lk.y D g f A.z B.z).e q w h
  refine ⟨fun h w => ?_, fun h w => ?_⟩
  · exact mlook_ok w cA cK (Lib.hid hH) c4 c5 c6 d7 d8 d9 d10 d11 d12 d13 d14 cO (by rw [h]; rfl)
  · exact mlook_bad w cA cK (Lib.hid hH) c4 c5 c6 d7 d8 d9 d10 d11 d12 d13 d14 cO (by simpa using h)
end
end Go.Proofs.Ythefgkgdadkgbaa

namespace Go.Proofs.Ythefgkgdadkgbaa
open Go.RowKit
attribute [local go_sem] run_store_float

section
variable {l i o a : Res}
theorem lk_plain (K : VF l i o a) (fi : Fit i) (fo : Fit o) : Lk.u (Gx.D l a) (Gx.w i o a) i o = Mi.val l i o a ∧ Lk.y (Gx.D l a) (Gx.w i o a) (Gx.v o a) i o = Mi.den l o a := by
  have e0 : Lk.w.e = 0 := by rw [lk_w]; rfl
  have r : Lk.r (Gx.D l a) (Gx.w i o a) = Mi.v1 l i o a := by unfold Lk.r; rw [e0]; exact step_two K.D K.w _
  have s : Lk.s (Gx.D l a) (Gx.w i o a) i = Mi.v2 i := by unfold Lk.s; rw [r, K.v1.e, lk_w]; exact step_two w4_fit fi _
  have t : Lk.t (Gx.D l a) (Gx.w i o a) i o = Mi.v3 i o := by unfold Lk.t; rw [s, K.v2.e]; exact step_two K.v2 fo _
  have u : Lk.u (Gx.D l a) (Gx.w i o a) i o = Mi.val l i o a := by unfold Lk.u; rw [t, K.v3.e, r]; exact step_two K.v1 K.v3 _
  have z : Lk.z (Gx.D l a) (Gx.w i o a) (Gx.v o a) i o = Mi.p1 l o a := by unfold Lk.z; rw [u, K.val.e]; exact step_two K.v K.D _
  have x : Lk.x (Gx.D l a) (Gx.w i o a) (Gx.v o a) i o = Mi.v2 o := by unfold Lk.x; rw [z, K.p1.e, lk_w]; exact step_two w4_fit fo _
  refine ⟨u, ?_⟩
  unfold Lk.y
  rw [x, K.v2'.e, z]
  exact step_two K.p1 K.v2' _
end
structure KF (A B : V3) (a : Res) : Prop where
  M : MF A B
  i : LF0 A.z a
  q : Fit (Gx.q A.z a)
  o : LF B.z a
  q2 : Fit (Gx.q2 A.z B.z a)
  K : VF (Mi.lean A B) A.z B.z a
abbrev LookG (A B : V3) (a : Res) : Prop := LookC A B a (Mi.lean A B) (Mi.half A B) (Mi.val (Mi.lean A B) A.z B.z a) (Mi.den (Mi.lean A B) B.z a) 0
section
variable {A B : V3} {a : Res} (iA : InV A dU) (iB : InV B dU) (ha : In a aI)
include iA iB ha
theorem look_good (k : KF A B a) : LookG A B a := by
  have e2 := G2_plain (g_in iA.z ha).fits k.i k.q (g_in iB.z ha).fits k.o.zero iA.z.fit iB.z.fit ha.fit k.q2
  have e1 := (G1_plain (g_in iB.z ha).fits k.o iB.z.fit ha.fit).2
  obtain ⟨u, y⟩ := lk_plain k.K iA.z.fit iB.z.fit
  have h := (look_all iA iB ha (half_good iA iB k.M) (lean_u k.M).1).1
  rw [e2, e1, u, y, k.K.w.e, k.K.v.e, k.K.den.e] at h
  exact h rfl
end
theorem In.via {a B C : Res} (h : In a B) (k : In B C) : In a C := ⟨h.fit, Int.le_trans k.lo h.lo, Int.le_trans h.hi k.hi⟩
theorem z7_c8 : In zI7 cI8 ∧ In zI7 ouI := ⟨⟨.of (by decide +kernel), by decide +kernel, by decide +kernel⟩, ⟨.of (by decide +kernel), by decide +kernel, by decide +kernel⟩⟩
theorem dB_dU {A : V3} (h : InV A dB) : InV A dU := ⟨h.x, h.y, h.z.via z7_c8.2⟩
theorem kf_dirs {A B : V3} {a : Res} (iA : InV A dB) (iB : InV B dB) (ha : In a aI) : KF A B a := by
  have hi := iA.z.via z7_c8.1
  have ho := iB.z.via z7_c8.1
  have V := vd_in (lean_c8 iA iB) hi ho ha
  have Li := l8_in hi ha
  have Lo := l8_in ho ha
  exact ⟨(md_in iA iB).fits, Li.fits.zero, Li.q.fit, Lo.fits, (q2_in hi ho ha).fit, ⟨(g8_in (lean_c8 iA iB) ha).D.fit, (w_in hi ho ha).fit, Lo.v.fit, V.v1.fit, V.v2.fit, V.v2'.fit, V.v3.fit, V.val.fit, V.p1.fit, V.den.fit⟩⟩
theorem look_dirs {A B : V3} {a : Res} (iA : InV A dB) (iB : InV B dB) (ha : In a aI) : LookG A B a := look_good (dB_dU iA) (dB_dU iB) ha (kf_dirs iA iB ha)

set_option maxRecDepth 100000 in
theorem p10_any (x : Nat) (lx : x < 18446744073709551616) (rx : rightB x = true) (w : World) :
    Calls Try.prog 7 #[.float .f64 x] w fun r w' => r = .returned (.agg #[.float .f64 x, .float .f64 x]) ∧ Below w.heap.size w w' := by
  have cP := Lib.hid fun w => point_walk x w (fun w => run_float_arith w .add 24 .f64 _ _ _ (add_self0 lx rx))
  clear lx rx
  have M := Lib.hid ((Own.nil w).made #[.float .f64 0, .float .f64 0] 26)
  go_enter Try.func7, Try.ntmps7
  go_wp2_with fail
  refine (cP.out _).mono ?_
  rintro r w1 ⟨rfl, hb⟩
  replace M := Lib.hid (M.out.below hb)
  have kc := (M.out.nth 0 rfl).2.1
  have kf := (M.out.nth 0 rfl).2.2
  replace M := Lib.hid (M.out.set2 0 rfl (.float .f64 x) (.float .f64 x))
  go_wp2
  obtain ⟨f1, f2⟩ := (M.out.nth 0 rfl).two
  exact bodyPost_ret (v := .agg #[.float .f64 x, .float .f64 x]) (by simp [results, Try.results7, go_sem, f1, f2]) rfl ⟨rfl, M.out.base⟩
theorem p10_lit (x : Nat) (h : (decide (x < 18446744073709551616) && rightB x) = true) (w : World) :
    Calls Try.prog 7 #[.float .f64 x] w fun r w' => r = .returned (.agg #[.float .f64 x, .float .f64 x]) ∧ Below w.heap.size w w' := by
  simp only [Bool.and_eq_true, decide_eq_true_eq] at h
  exact p10_any x h.1 h.2 w
theorem near10_any {a : Res} {l g : Nat} (fa : Fit a) (hl : l < 18446744073709551616) (hg : g < 18446744073709551616) (rl : rightB l = true) (rg : rightB g = true) (h1 : val l ≤ val a.lo) (h2 : val a.hi ≤ val g) (w : World) :
    Calls Try.prog 31 #[.agg #[.float .f64 a.lo, .float .f64 a.hi], .float .f64 l, .float .f64 g] w fun r w' => r = .returned (.bool true) ∧ Below w.heap.size w w' := by
  refine near10_walk w ?_ ?_ ?_
  · rw [order_gt _ _ fa.lo hl fa.rlo rl, order_eq _ _ fa.lo hl fa.rlo rl]
    by_cases e : val a.lo = val l
    · rw [decide_eq_true e, Bool.or_true]
    · rw [decide_eq_true (by omega : val l < val a.lo), Bool.true_or]
  · exact (order_le _ _ fa.hi hg fa.rhi rg).trans (decide_eq_true h2)
  · exact (order_le _ _ fa.lo fa.hi fa.rlo fa.rhi).trans (decide_eq_true fa.le)

def wf : Nat := 4602678819172646912
def upV : V3 := ⟨oneR 0, oneR 0, oneR u1⟩
def eaV : V3 := ⟨oneR u1, oneR 0, oneR 0⟩
def weV : V3 := ⟨oneR m1, oneR 0, oneR 0⟩
theorem upV_in : InV upV dB := ⟨⟨.of (by decide +kernel), by decide +kernel, by decide +kernel⟩, ⟨.of (by decide +kernel), by decide +kernel, by decide +kernel⟩, ⟨.of (by decide +kernel), by decide +kernel, by decide +kernel⟩⟩
theorem eaV_in : InV eaV dU := ⟨⟨.of (by decide +kernel), by decide +kernel, by decide +kernel⟩, ⟨.of (by decide +kernel), by decide +kernel, by decide +kernel⟩, ⟨.of (by decide +kernel), by decide +kernel, by decide +kernel⟩⟩
theorem weV_in : InV weV dU := ⟨⟨.of (by decide +kernel), by decide +kernel, by decide +kernel⟩, ⟨.of (by decide +kernel), by decide +kernel, by decide +kernel⟩, ⟨.of (by decide +kernel), by decide +kernel, by decide +kernel⟩⟩
theorem wf_in : In (oneR wf) aI := ⟨.of (by decide +kernel), by decide +kernel, by decide +kernel⟩
theorem w2_in : In (oneR w2) (oneR w2) := ⟨.of (by decide +kernel), by decide +kernel, by decide +kernel⟩
theorem ex10 : (Hf.k eaV weV).e = 11 ∧ (Mi.lean upV upV).lo = u1 ∧ (Mi.lean upV upV).hi = u1 ∧ (Mi.half upV upV).lo = u1 ∧ (Mi.half upV upV).hi = u1 := by decide +kernel
theorem ex10_near : (val 4599405781053817700 ≤ val (Mi.val (Mi.lean upV upV) (oneR u1) (oneR u1) (oneR wf)).lo ∧ val (Mi.val (Mi.lean upV upV) (oneR u1) (oneR u1) (oneR wf)).hi ≤ val 4599405781071832099) ∧ val 4599405781053817700 ≤ val (Mi.den (Mi.lean upV upV) (oneR u1) (oneR wf)).lo ∧ val (Mi.den (Mi.lean upV upV) (oneR u1) (oneR wf)).hi ≤ val 4599405781071832099 := by decide +kernel
def ar2 : Ar := ⟨w2, w2, 4584664420663164928, u1, (arI w2_in).r⟩
theorem ar2_bad : bad ar2 = true := by
  show ((FloatKind.f64.format.order w2 4584664420663164928 == some Ordering.lt) || (FloatKind.f64.format.order w2 u1 == some Ordering.gt)) = true
  decide +kernel
theorem look_two (w : World) : Calls Try.prog 9 #[agV upV, agV upV, .agg #[.float .f64 w2, .float .f64 w2]] w fun r w' => r = .returned (.tuple #[.agg #[.float .f64 0, .float .f64 0, .float .f64 0, .float .f64 0, .float .f64 0, .float .f64 0, .float .f64 0, .float .f64 0], .int .i64 2]) ∧ Below w.heap.size w w' := by
  have iA := dB_dU upV_in
  have cA := Lib.hid fun (q : Nat) (w : World) (hq : Has1 w (q, #[.float .f64 w2, .float .f64 w2])) => args1_any (e1 := arI iA.x) (e2 := arI iA.y) (e3 := arI iA.z) (e4 := arI iA.x) (e5 := arI iA.y) (e6 := arI iA.z) (e7 := ar2) ⟨rfl, rfl⟩ ⟨rfl, rfl⟩ ⟨rfl, rfl⟩ ⟨rfl, rfl⟩ ⟨rfl, rfl⟩ ⟨rfl, rfl⟩ ⟨rfl, rfl⟩ q w hq
  have cK := Lib.hid fun lb w (h : Gd [arI iA.x, arI iA.y, arI iA.z, arI iA.x, arI iA.y, arI iA.z, ar2] 7 lb w) => check_all lb w h
  rw [seven_any (arI_ok iA.x dU_fit.x) (arI_ok iA.y dU_fit.y) (arI_ok iA.z dU_fit.z) (arI_ok iA.x dU_fit.x) (arI_ok iA.y dU_fit.y) (arI_ok iA.z dU_fit.z), ar2_bad, if_pos rfl] at cK
  exact mlook_arg w cA cK
set_option maxRecDepth 100000 in
theorem awake10_any (w : World) : Calls Try.prog 11 #[] w fun r w' => r = .returned (.bool true) ∧ Below w.heap.size w w' := by
  obtain ⟨h1, l1, l2, q1, q2⟩ := ex10
  obtain ⟨⟨n1, n2⟩, n3, n4⟩ := ex10_near
  have V := vd_in (lean_c8 upV_in upV_in) (upV_in.z.via z7_c8.1) (upV_in.z.via z7_c8.1) wf_in
  have fv := V.val.fit
  have fd := V.den.fit
  have c4 := look_dirs upV_in upV_in wf_in
  have c7 := (half_all eaV_in weV_in).2 (by rw [h1]; decide)
  rw [h1] at c7
  unfold LookG LookC at c4
  rw [l1, l2, q1, q2] at c4
  have cU := fun w => up10_walk w (c1 := Lib.hid (p10_lit u1 (by decide +kernel)))
  exact awake10_walk w (c1 := Lib.hid cU) (c3 := Lib.hid (p10_lit wf (by decide +kernel))) (c4 := Lib.hid c4) (c5 := Lib.hid (p10_lit u1 (by decide +kernel))) (c6 := Lib.hid (p10_lit m1 (by decide +kernel))) (c7 := Lib.hid c7) (c10 := Lib.hid (p10_lit w2 (by decide +kernel))) (c11 := Lib.hid look_two)
    (e_418800017408_418800017408 := by decide +kernel) (c14 := Lib.hid (near10_any fv (by decide) (by decide) (by decide) (by decide) n1 n2)) (c15 := Lib.hid (near10_any fd (by decide) (by decide) (by decide) (by decide) n3 n4))

structure Dd (V : V3) : Prop where
  b : InV V dB
  s : ∃ f g h : Nat → Rat, HasS V.x f ∧ HasS V.y g ∧ HasS V.z h ∧ Eqv (fun m => f m * f m + (g m * g m + h m * h m)) (fun _ => 1) ∧ ∀ m, 0 ≤ h m
  x : val V.x.hi - val V.x.lo ≤ 16 * DD
  y : val V.y.hi - val V.y.lo ≤ 16 * DD
  z : val V.z.hi - val V.z.lo ≤ 16 * DD
theorem dir_any (u v t : Nat) (hu : u < 4294967296) (hv : v < 4294967296) (ht : t < 4294967296) : ∃ (x y z : Nat) (V : V3), Dd V ∧ (∀ w, Calls Try.prog 23 #[.int .u32 u, .int .u32 v, .int .u32 t] w fun r w' => r = .returned (.agg #[.float .f64 x, .float .f64 y, .float .f64 z]) ∧ Below w.heap.size w w') ∧
    ∀ w, Calls Try.prog 22 #[.agg #[.float .f64 x, .float .f64 y, .float .f64 z]] w fun r w' => r = .returned (.tuple #[agV V, .int .i64 0]) ∧ Below w.heap.size w w' := by
  obtain ⟨x, hx, cx⟩ := between8_any 13830554455654793216 4607182418800017408 u (by decide) (by decide) (by decide) (by decide) (by decide +kernel) (by decide +kernel) (by decide +kernel) hu
  obtain ⟨y, hy, cy⟩ := between8_any 13830554455654793216 4607182418800017408 v (by decide) (by decide) (by decide) (by decide) (by decide +kernel) (by decide +kernel) (by decide +kernel) hv
  obtain ⟨z, hz, cz⟩ := between8_any 4580160821035794432 4607182418800017408 t (by decide) (by decide) (by decide) (by decide) (by decide +kernel) (by decide +kernel) (by decide +kernel) ht
  have hU := dir_has hx.right hy.right hz.right hx.lo hx.hi hy.lo hy.hi hz.lo hz.hi
  obtain ⟨i, s⟩ := dir_in hx.lt hy.lt hz.lt hx.right hy.right hz.right hx.lo hx.hi hy.lo hy.hi hz.lo hz.hi
  obtain ⟨_, _, _, _, ⟨mx, Mx, px⟩, ⟨my, My, py⟩, ⟨mz, Mz, pz⟩⟩ := unit_all x y z hx.lt hy.lt hz.lt hU
  obtain ⟨fN, f1, f2, f3⟩ := unit_fits x y z hx.lt hy.lt hz.lt hU
  exact ⟨x, y, z, unitV x y z, ⟨i, s, part_width px, part_width py, part_width pz⟩, fun w => dir_walk w (Lib.hid cx) (Lib.hid cy) (Lib.hid cz), fun w => unit_any x y z w hx.lt hy.lt hz.lt hU fN f1 f2 f3⟩
theorem above {V : V3} (h : InV V dB) : (FloatKind.f64.format.order V.z.lo 0 == some Ordering.gt) = true := by
  have e : 0 < val zI7.lo ∧ val 0 = 0 := by decide +kernel
  have l : val zI7.lo ≤ val V.z.lo := h.z.lo
  rw [order_gt _ _ h.z.fit.lo (by decide) h.z.fit.rlo (by decide)]
  exact decide_eq_true (by omega)
theorem two_any (u0 u1' u2 u3 u4 u5 : Nat) (g0 : u0 < 4294967296) (g1 : u1' < 4294967296) (g2 : u2 < 4294967296) (g3 : u3 < 4294967296) (g4 : u4 < 4294967296) (g5 : u5 < 4294967296) : ∃ A B : V3, Dd A ∧ Dd B ∧
    ∀ w, Calls Try.prog 6 #[.agg #[.int .u32 u0, .int .u32 u1', .int .u32 u2, .int .u32 u3, .int .u32 u4, .int .u32 u5]] w fun r w' => r = .returned (.tuple #[agV A, agV B, .bool true]) ∧ Below w.heap.size w w' := by
  obtain ⟨x, y, z, A, dA, c1, c2⟩ := dir_any u0 u1' u2 g0 g1 g2
  obtain ⟨p, q, s, B, dB', c3, c4⟩ := dir_any u3 u4 u5 g3 g4 g5
  exact ⟨A, B, dA, dB', fun w => two10_walk w (Lib.hid c1) (Lib.hid c2) (Lib.hid c3) (Lib.hid c4) (above dA.b) (above dB'.b)⟩
theorem btw10_a (n : Nat) (hn : n < 4294967296) : ∃ x, In (oneR x) aI ∧ (∀ w, Calls Try.prog 8 #[.float .f64 4584664420663164928, .float .f64 4607182418800017408, .int .u32 n] w fun r w' => r = .returned (.float .f64 x) ∧ w = w') ∧ ∀ w, Calls Try.prog 7 #[.float .f64 x] w fun r w' => r = .returned (.agg #[.float .f64 x, .float .f64 x]) ∧ Below w.heap.size w w' := by
  obtain ⟨x, h, c⟩ := between8_any 4584664420663164928 4607182418800017408 n (by decide) (by decide) (by decide) (by decide) (by decide +kernel) (by decide +kernel) (by decide +kernel) hn
  exact ⟨x, ⟨one_fit h.lt h.right, h.lo, h.hi⟩, c, p10_any x h.lt h.right⟩
end Go.Proofs.Ythefgkgdadkgbaa

namespace Go.Proofs.Ythefgkgdadkgbaa
open Go.RowKit

set_option maxRecDepth 100000 in
set_option maxHeartbeats 1000000 in
theorem mback_any (u0 u1' u2 u3 u4 u5 v0 : Nat) (w : World) (g0 : u0 < 4294967296) (g1 : u1' < 4294967296) (g2 : u2 < 4294967296) (g3 : u3 < 4294967296) (g4 : u4 < 4294967296) (g5 : u5 < 4294967296) (h0 : v0 < 4294967296) :
    Calls Try.prog 3 #[.agg #[.int .u32 u0, .int .u32 u1', .int .u32 u2, .int .u32 u3, .int .u32 u4, .int .u32 u5], .int .u32 v0] w fun r w' => r = .returned (.bool true) ∧ Below w.heap.size w w' := by
  obtain ⟨A, B, dA, dB', c1⟩ := two_any u0 u1' u2 u3 u4 u5 g0 g1 g2 g3 g4 g5
  obtain ⟨x, ha, cx, cp⟩ := btw10_a v0 h0
  have iA := dA.b
  have iB := dB'.b
  have c4 := look_dirs iA iB ha
  have c5 := look_dirs iB iA ha
  obtain ⟨e1, e2⟩ := half_swap iA iB
  have hl := lean_c8 iA iB
  have hi := iA.z.via z7_c8.1
  have ho := iB.z.via z7_c8.1
  have V := vd_in hl hi ho ha
  have V' := vd_in hl ho hi ha
  have K := (kf_dirs iA iB ha).M
  have fl := clamp_fit K.l
  have fh := clamp_fit K.h
  have b := back_meets hl hi ho ha
  obtain ⟨_, _, z1, z2, _⟩ := v_lows
  have l1 := V.val.lo
  have l2 := V.den.lo
  have fv := V.val.fit
  have fd := V.den.fit
  have fv' := V'.val.fit
  unfold LookG LookC at c4 c5
  rw [e1, e2] at c5
  have p1 : 0 ≤ val (Mi.val (Mi.lean A B) A.z B.z (oneR x)).lo := by omega
  have p2 : 0 ≤ val (Mi.den (Mi.lean A B) B.z (oneR x)).lo := by omega
  have fl : Fit (Mi.lean A B) := fl
  have fh : Fit (Mi.half A B) := fh
  clear V V' K z1 z2 l1 l2 hl hi ho iA iB dA dB' e1 e2
  generalize Mi.lean A B = L at *
  generalize Mi.half A B = H at *
  generalize Mi.val L A.z B.z (oneR x) = X at *
  generalize Mi.val L B.z A.z (oneR x) = Y at *
  generalize Mi.den L B.z (oneR x) = D at *
  generalize Mi.den L A.z (oneR x) = E at *
  exact mback_law w (c1 := Lib.hid c1) (c2 := Lib.hid cx) (c3 := Lib.hid cp) (c4 := Lib.hid c4) (c5 := Lib.hid c5) (c6 := Lib.hid (meets8 fv fv' b)) (c7 := Lib.hid (meets8 fl fl ⟨fl.le, fl.le⟩)) (c8 := Lib.hid (meets8 fh fh ⟨fh.le, fh.le⟩))
    (o_geqx4_0 := (geq_0 fv.lo fv.rlo).trans (decide_eq_true p1)) (o_geqx6_0 := (geq_0 fd.lo fd.rlo).trans (decide_eq_true p2)) (c9 := Lib.hid awake10_any)
end Go.Proofs.Ythefgkgdadkgbaa

namespace Go.Proofs.Ythefgkgdadkgbaa
open Go.RowKit

theorem leq_1 {x : Nat} (lx : x < 18446744073709551616) (rx : rightB x = true) (h : val x ≤ val u1) : ((FloatKind.f64.format.order x 4607182418800017408 == some Ordering.lt) || (FloatKind.f64.format.order x 4607182418800017408 == some Ordering.eq)) = true :=
  (order_le x u1 lx (by decide) rx (by decide)).trans (decide_eq_true h)
theorem dot_has {A B : V3} (iA : InV A dB) (iB : InV B dB) : dotV 0 A B = Mi.d5 A B ∧ (Mi.d5 A B).e = 0 := by
  have N := nd_in iA iB
  have a1 : stM 0 A.x B.x = Mi.d1 A B := step_two iA.x.fit iB.x.fit _
  have a2 : stM 0 A.y B.y = Mi.d2 A B := step_two iA.y.fit iB.y.fit _
  have a3 : stA 0 (Mi.d1 A B) (Mi.d2 A B) = Mi.d3 A B := step_two N.d1.fit N.d2.fit _
  have a4 : stM 0 A.z B.z = Mi.d4 A B := step_two iA.z.fit iB.z.fit _
  have a5 : stA 0 (Mi.d3 A B) (Mi.d4 A B) = Mi.d5 A B := step_two N.d3.fit N.d4.fit _
  refine ⟨?_, N.d5.fit.e⟩
  unfold dotV dot4 dot3 dot2 dot1
  simp only [a1, N.d1.fit.e, a2, N.d2.fit.e, a3, N.d3.fit.e, a4, N.d4.fit.e, a5]
set_option maxRecDepth 100000 in
set_option maxHeartbeats 1000000 in
theorem mhalf_any (u0 u1' u2 u3 u4 u5 : Nat) (w : World) (g0 : u0 < 4294967296) (g1 : u1' < 4294967296) (g2 : u2 < 4294967296) (g3 : u3 < 4294967296) (g4 : u4 < 4294967296) (g5 : u5 < 4294967296) :
    Calls Try.prog 4 #[.agg #[.int .u32 u0, .int .u32 u1', .int .u32 u2, .int .u32 u3, .int .u32 u4, .int .u32 u5]] w fun r w' => r = .returned (.bool true) ∧ Below w.heap.size w w' := by
  obtain ⟨A, B, dA, dB', c1⟩ := two_any u0 u1' u2 u3 u4 u5 g0 g1 g2 g3 g4 g5
  have iA := dA.b
  have iB := dB'.b
  have M := md_in iA iB
  have K := M.fits
  have N := nd_in iA iB
  obtain ⟨f, g, h, a1, a2, a3, uA, pA⟩ := dA.s
  obtain ⟨f', g', h', b1, b2, b3, uB, pB⟩ := dB'.s
  obtain ⟨m1', m2'⟩ := half_meets iA iB a1 a2 a3 b1 b2 b3 uA uB pA pB
  have c2 := half_good (dB_dU iA) (dB_dU iB) K
  obtain ⟨i1, i2⟩ := lean_u K
  obtain ⟨d1, d2⟩ := dot_has iA iB
  have d8 := fun pb v h => dot_any (a := A) (b := B) 0 iA.fitV.wd iB.fitV.wd pb v h
  rw [d1, d2] at d8
  have o1 : val ouI.lo = 0 ∧ val ouI.hi = val u1 := by decide +kernel
  have l1 := i1.lo
  have l2 := i1.hi
  have l3 := i2.hi
  have d3 : K2 13 0 0 A.z.lo A.z.hi B.z.lo B.z.hi (Mi.sz A B).lo (Mi.sz A B).hi := fun pb => calc_add iA.z.fit iB.z.fit K.sz pb
  have d5 : K2 14 0 0 w2 w2 (Mi.half A B).lo (Mi.half A B).hi (Mi.t A B).lo (Mi.t A B).hi := fun pb => calc_mul w2_fit i2.fit N.t.fit pb
  have d6 : K2 14 0 0 (Mi.t A B).lo (Mi.t A B).hi (Mi.lean A B).lo (Mi.lean A B).hi (Mi.u A B).lo (Mi.u A B).hi := fun pb => calc_mul N.t.fit i1.fit N.u.fit pb
  have d9 : K2 13 0 0 u1 u1 (Mi.d5 A B).lo (Mi.d5 A B).hi (Mi.q A B).lo (Mi.q A B).hi := fun pb => calc_add u1_fit N.d5.fit N.q.fit pb
  have d11 : K2 16 0 0 (Mi.q A B).lo (Mi.q A B).hi w2 w2 (Mi.r A B).lo (Mi.r A B).hi := fun pb => calc_div N.q.fit w2_fit N.r.fit pb
  have d14 : K1 19 0 0 (Mi.half A B).lo (Mi.half A B).hi (Mi.w A B).lo (Mi.w A B).hi := fun pb => calc_sqr i2.fit N.w.fit pb
  have c13 := meets8 K.sz N.u.fit m1'
  have c15 := meets8 N.w.fit N.r.fit m2'
  have p1 := (geq_0 i1.fit.lo i1.fit.rlo).trans (decide_eq_true (by omega))
  have p2 := leq_1 i1.fit.hi i1.fit.rhi (by omega)
  have p3 := leq_1 i2.fit.hi i2.fit.rhi (by omega)
  exact mhalf_law w (c1 := Lib.hid c1) (c2 := Lib.hid c2) (d3 := Lib.hid d3) (d4 := Lib.hid fun pb => calc_num w2_fit pb) (d5 := Lib.hid d5) (d6 := Lib.hid d6) (d7 := Lib.hid fun pb => calc_num u1_fit pb) (d8 := Lib.hid d8) (d9 := Lib.hid d9) (d11 := Lib.hid d11)
    (c13 := Lib.hid c13) (d14 := Lib.hid d14) (c15 := Lib.hid c15) (o_geqpl_0 := p1) (o_leqph_418800017408 := p2) (o_leqqh_418800017408 := p3) (c16 := Lib.hid awake10_any)
end Go.Proofs.Ythefgkgdadkgbaa

namespace Go.Proofs.Ythefgkgdadkgbaa
open Go.RowKit

set_option maxRecDepth 100000 in
set_option maxHeartbeats 1000000 in
theorem mshare_any (u0 u1' u2 u3 u4 u5 v0 : Nat) (w : World) (g0 : u0 < 4294967296) (g1 : u1' < 4294967296) (g2 : u2 < 4294967296) (g3 : u3 < 4294967296) (g4 : u4 < 4294967296) (g5 : u5 < 4294967296) (h0 : v0 < 4294967296) :
    Calls Try.prog 5 #[.agg #[.int .u32 u0, .int .u32 u1', .int .u32 u2, .int .u32 u3, .int .u32 u4, .int .u32 u5], .int .u32 v0] w fun r w' => r = .returned (.bool true) ∧ Below w.heap.size w w' := by
  obtain ⟨A, B, dA, dB', c1⟩ := two_any u0 u1' u2 u3 u4 u5 g0 g1 g2 g3 g4 g5
  obtain ⟨x, ha, cx, cp⟩ := btw10_a v0 h0
  have iA := dA.b
  have iB := dB'.b
  have c4 := look_dirs iA iB ha
  have k := kf_dirs iA iB ha
  have hl := lean_c8 iA iB
  have hi := iA.z.via z7_c8.1
  have ho := iB.z.via z7_c8.1
  have V := vd_in hl hi ho ha
  have W := w_in hi ho ha
  have jo := iB.z.via z7_c8.2
  have ji := iA.z.via z7_c8.2
  have c5 := fun w => G2_ok ji jo ha k.i k.q k.o.zero k.q2 k.K.w w
  have c6 := G1_ok jo ha k.o
  have K := (md_in iB iB).fits
  have c10 := half_good (dB_dU iB) (dB_dU iB) K
  obtain ⟨f', g', h', b1, b2, b3, uB, pB⟩ := dB'.s
  obtain ⟨m1', e1, n4⟩ := self_half iB b1 b2 b3 uB pB
  have near := self_near iB dB'.x dB'.y dB'.z n4
  have sh := share_meets hl hi ho ha
  have fl : Fit (Mi.lean B B) := clamp_fit K.l
  have fh : Fit (Mi.half B B) := clamp_fit K.h
  unfold HalfC at c10
  rw [e1] at c10
  have d7 : K2 14 0 0 (Mi.val (Mi.lean A B) A.z B.z (oneR x)).lo (Mi.val (Mi.lean A B) A.z B.z (oneR x)).hi A.z.lo A.z.hi (Mi.s1 (Mi.lean A B) A.z B.z (oneR x)).lo (Mi.s1 (Mi.lean A B) A.z B.z (oneR x)).hi := fun pb => calc_mul V.val.fit iA.z.fit V.s1.fit pb
  have d8 : K2 14 0 0 (Mi.s1 (Mi.lean A B) A.z B.z (oneR x)).lo (Mi.s1 (Mi.lean A B) A.z B.z (oneR x)).hi (Gx.v B.z (oneR x)).lo (Gx.v B.z (oneR x)).hi (Mi.s2 (Mi.lean A B) A.z B.z (oneR x)).lo (Mi.s2 (Mi.lean A B) A.z B.z (oneR x)).hi := fun pb => calc_mul V.s1.fit k.o.v V.s2.fit pb
  have d9 : K2 14 0 0 (Mi.den (Mi.lean A B) B.z (oneR x)).lo (Mi.den (Mi.lean A B) B.z (oneR x)).hi (Gx.w A.z B.z (oneR x)).lo (Gx.w A.z B.z (oneR x)).hi (Mi.s3 (Mi.lean A B) A.z B.z (oneR x)).lo (Mi.s3 (Mi.lean A B) A.z B.z (oneR x)).hi := fun pb => calc_mul V.den.fit W.fit V.s3.fit pb
  have c12 := meets8 V.s2.fit V.s3.fit sh
  have c13 := meets8 fl iB.z.fit m1'
  have p1 : ((FloatKind.f64.format.order (Mi.half B B).lo 4607182418800009216 == some Ordering.gt) || (FloatKind.f64.format.order (Mi.half B B).lo 4607182418800009216 == some Ordering.eq)) = true := by
    have t1 := order_gt (Mi.half B B).lo nearOne fh.lo (by decide) fh.rlo (by decide)
    have t2 := order_eq (Mi.half B B).lo nearOne fh.lo (by decide) fh.rlo (by decide)
    rw [show (4607182418800009216 : Nat) = nearOne from rfl, t1, t2]
    by_cases e : val (Mi.half B B).lo = val nearOne
    · rw [decide_eq_true e, Bool.or_true]
    · rw [decide_eq_true (by omega : val nearOne < val (Mi.half B B).lo), Bool.true_or]
  unfold LookG LookC at c4
  exact mshare_law w (c1 := Lib.hid c1) (c2 := Lib.hid cx) (c3 := Lib.hid cp) (c4 := Lib.hid c4) (c5 := Lib.hid c5) (c6 := Lib.hid c6) (d7 := Lib.hid d7) (d8 := Lib.hid d8) (d9 := Lib.hid d9) (c10 := Lib.hid c10) (c12 := Lib.hid c12) (c13 := Lib.hid c13)
    (o_eql418800017408_418800017408 := by decide +kernel) (o_geqql_418800009216 := p1) (c14 := Lib.hid awake10_any)
end Go.Proofs.Ythefgkgdadkgbaa
