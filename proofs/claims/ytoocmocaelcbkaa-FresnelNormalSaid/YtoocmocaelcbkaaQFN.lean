
/- Fresnel's formula of a conductor, at the cosine 1: its width. No program is named here. -/
import Derived.Test.YtoocmocaelcbkaaQBW
namespace Go.Proofs.Ytoocmocaelcbkaa
open Go.RowKit

/-- The conductor's formula at the cosine 1. -/
abbrev c1 : Res := oneR 4607182418800017408
theorem m_facts : 16 * val 4589168020290535424 = SS ∧ val 4625196817309499392 = 16 * SS := by decide +kernel
theorem co_lows : 0 < val (Co.d27 c1 bigM bigM).lo ∧ 0 < val (Co.d33 c1 bigM bigM).lo ∧ (Co.r33 c1 bigM bigM).e = 0 := by decide +kernel

structure CoAt (x y : Nat) : Prop where
  fits : Co.Fits c1 (oneR x) (oneR y)
  parts : Co.Parts c1 (oneR x) (oneR y) c1 bigM bigM
  last : Co.Last c1 (oneR x) (oneR y)
  noe : (Co.r33 c1 (oneR x) (oneR y)).e = 0
theorem co_big1 : Co.Fits c1 bigM bigM := (Co.parts Co.big i_one (.refl (.of (by decide +kernel))) (.refl (.of (by decide +kernel)))).fits f_one (.of (by decide +kernel)) (.of (by decide +kernel))
theorem co_at {x y : Nat} (i : In (oneR x) bigM) (j : In (oneR y) bigM) : CoAt x y := by
  have P := Co.parts co_big1 (.refl f_one) i j
  have D := P.fits f_one i.fit j.fit
  have e := (Co.last_in co_big1 P co_lows.2.2).1
  exact ⟨D, P, D.last e, e⟩

/-- Straight on: ((eta - 1)^2 + k^2) / ((eta + 1)^2 + k^2). -/
theorem co_point {x y : Nat} (i : In (oneR x) bigM) (j : In (oneR y) bigM) :
    HasV (Co.a18 c1 (oneR x) (oneR y)) (SS * SS) (2 * (val x * val x)) ∧
    HasV (Co.f c1 (oneR x) (oneR y)) (val x * val x + val y * val y + SS * SS + 2 * (val x * SS)) (val x * val x + val y * val y + SS * SS - 2 * (val x * SS)) := by
  obtain ⟨D, P, L, ne⟩ := co_at i j
  have d0 : 0 < val (Co.d27 c1 (oneR x) (oneR y)).lo := by have := co_lows.1; have := P.d27'.lo; omega
  have b0 : 0 < val (Co.d33 c1 (oneR x) (oneR y)).lo := by have := co_lows.2.1; have := P.d33'.lo; omega
  have s0 := SS0
  have x0 : 0 < val x := by have h : val 4589168020290535424 ≤ val x := i.lo; have := m_facts.1; omega
  have y0 : 0 < val y := by have h : val 4589168020290535424 ≤ val y := j.lo; have := m_facts.1; omega
  have h_h : HasV (oneR x) SS (val x) := .one x
  have h_k : HasV (oneR y) SS (val y) := .one y
  generalize val x = X at *
  generalize val y = Y at *
  have s2 : 0 < SS * SS := Int.mul_pos s0 s0
  have f4 : Fit (oneR 4616189618054758400) := one_fit (by decide) (by decide)
  have f2 : Fit (oneR 4611686018427387904) := one_fit (by decide) (by decide)
  have h_c2 : HasV (Co.c2 c1 (oneR x) (oneR y)) 1 1 := HasV.sqr f_one v_one D.c2'.e
  have h_s3 : HasV (Co.s3 c1 (oneR x) (oneR y)) 1 0 := HasV.sub f_one D.c2' v_one h_c2 D.s3'.e
  have h_s2 : HasV (Co.s2 c1 (oneR x) (oneR y)) 1 0 := HasV.clamp D.s3' h_s3 (by omega) (by omega)
  have h_e2 : HasV (Co.e2 c1 (oneR x) (oneR y)) (SS * SS) (X * X) := HasV.sqr i.fit h_h D.e2'.e
  have h_k2 : HasV (Co.k2 c1 (oneR x) (oneR y)) (SS * SS) (Y * Y) := HasV.sqr j.fit h_k D.k2'.e
  have h_ek : HasV (Co.ek c1 (oneR x) (oneR y)) (SS * SS * (SS * SS)) (X * X * (Y * Y)) := HasV.mul D.e2' D.k2' h_e2 h_k2 D.ek'.e
  have h_t11 : HasV (Co.t11 c1 (oneR x) (oneR y)) (SS * SS) (X * X - Y * Y) := (HasV.sub D.e2' D.k2' h_e2 h_k2 D.t11'.e).to s2 (by grind)
  have h_t0 : HasV (Co.t0 c1 (oneR x) (oneR y)) (SS * SS) (X * X - Y * Y) := (HasV.sub D.t11' D.s2' h_t11 h_s2 D.t0'.e).to s2 (by grind)
  have h_q13 : HasV (Co.q13 c1 (oneR x) (oneR y)) (SS * SS * (SS * SS)) ((X * X - Y * Y) * (X * X - Y * Y)) := HasV.sqr D.t0' h_t0 D.q13'.e
  have h_m15 : HasV (Co.m15 c1 (oneR x) (oneR y)) (SS * SS * (SS * SS)) (4 * (X * X * (Y * Y))) := (HasV.mul f4 D.ek' v_four h_ek D.m15'.e).turn (by omega) rfl
  have h_a16 : HasV (Co.a16 c1 (oneR x) (oneR y)) (SS * SS * (SS * SS)) ((X * X + Y * Y) * (X * X + Y * Y)) := (HasV.add D.q13' D.m15' h_q13 h_m15 D.a16'.e).to (Int.mul_pos s2 s2) (by grind)
  have xx : 0 < X * X := Int.mul_pos x0 x0
  have yy : 0 < Y * Y := Int.mul_pos y0 y0
  have xs : 0 < X * SS := Int.mul_pos x0 s0
  have h_ab : HasV (Co.ab c1 (oneR x) (oneR y)) (SS * SS) (X * X + Y * Y) := HasV.sqrt D.a16' h_a16 D.ab'.e s2 (by omega) rfl
  have h_a18 : HasV (Co.a18 c1 (oneR x) (oneR y)) (SS * SS) (2 * (X * X)) := (HasV.add D.ab' D.t0' h_ab h_t0 D.a18'.e).to s2 (by grind)
  have h_x20 : HasV (Co.x20 c1 (oneR x) (oneR y)) (SS * SS) (2 * (X * X)) := HasV.max0 D.a18' h_a18 (by omega)
  have h_m21 : HasV (Co.m21 c1 (oneR x) (oneR y)) (SS * SS) (X * X) := (HasV.mul f_half D.x20' v_half h_x20 D.m21'.e).to s2 (by grind)
  have h_a : HasV (Co.a c1 (oneR x) (oneR y)) SS X := HasV.sqrt D.m21' h_m21 D.a'.e s0 (by omega) rfl
  have h_t1 : HasV (Co.t1 c1 (oneR x) (oneR y)) (SS * SS) (X * X + Y * Y + SS * SS) := (HasV.add D.ab' D.c2' h_ab h_c2 D.t1'.e).turn (by omega) (by omega)
  have h_m25 : HasV (Co.m25 c1 (oneR x) (oneR y)) SS (2 * X) := (HasV.mul f2 D.a' v_two h_a D.m25'.e).turn (by omega) rfl
  have h_t2 : HasV (Co.t2 c1 (oneR x) (oneR y)) (SS * SS) (2 * (X * SS)) := (HasV.mul D.m25' f_one h_m25 v_one D.t2'.e).to s2 (by grind)
  have h_n27 : HasV (Co.n27 c1 (oneR x) (oneR y)) (SS * SS) (X * X + Y * Y + SS * SS - 2 * (X * SS)) := (HasV.sub D.t1' D.t2' h_t1 h_t2 D.n27'.e).to s2 (by grind)
  have h_d27 : HasV (Co.d27 c1 (oneR x) (oneR y)) (SS * SS) (X * X + Y * Y + SS * SS + 2 * (X * SS)) := (HasV.add D.t1' D.t2' h_t1 h_t2 D.d27'.e).to s2 (by grind)
  have pp : 0 < X * X + Y * Y + SS * SS + 2 * (X * SS) := by omega
  have h_r27 : HasV (Co.r27 c1 (oneR x) (oneR y)) (X * X + Y * Y + SS * SS + 2 * (X * SS)) (X * X + Y * Y + SS * SS - 2 * (X * SS)) := (HasV.div D.n27' D.d27' h_n27 h_d27 d0 D.r27'.e).2.to pp (by grind)
  have tt : 0 ≤ X * X + Y * Y + SS * SS - 2 * (X * SS) := by
    have e : X * X + Y * Y + SS * SS - 2 * (X * SS) = (X - SS) * (X - SS) + Y * Y := by grind
    have := self_nonneg (X - SS)
    omega
  have h_rs : HasV (Co.rs c1 (oneR x) (oneR y)) (X * X + Y * Y + SS * SS + 2 * (X * SS)) (X * X + Y * Y + SS * SS - 2 * (X * SS)) := HasV.clamp D.r27' h_r27 tt (by omega)
  have h_m29 : HasV (Co.m29 c1 (oneR x) (oneR y)) (SS * SS) (X * X + Y * Y) := (HasV.mul D.c2' D.ab' h_c2 h_ab D.m29'.e).turn (by omega) (by omega)
  have h_q30 : HasV (Co.q30 c1 (oneR x) (oneR y)) 1 0 := HasV.sqr D.s2' h_s2 D.q30'.e
  have h_t3 : HasV (Co.t3 c1 (oneR x) (oneR y)) (SS * SS) (X * X + Y * Y) := (HasV.add D.m29' D.q30' h_m29 h_q30 D.t3'.e).turn (by omega) (by omega)
  have h_t4 : HasV (Co.t4 c1 (oneR x) (oneR y)) (SS * SS) 0 := (HasV.mul D.t2' D.s2' h_t2 h_s2 D.t4'.e).turn (by omega) (by omega)
  have h_n33 : HasV (Co.n33 c1 (oneR x) (oneR y)) (SS * SS) (X * X + Y * Y) := (HasV.sub D.t3' D.t4' h_t3 h_t4 D.n33'.e).to s2 (by grind)
  have h_d33 : HasV (Co.d33 c1 (oneR x) (oneR y)) (SS * SS) (X * X + Y * Y) := (HasV.add D.t3' D.t4' h_t3 h_t4 D.d33'.e).to s2 (by grind)
  have h_r33 : HasV (Co.r33 c1 (oneR x) (oneR y)) 1 1 := (HasV.div D.n33' D.d33' h_n33 h_d33 b0 ne).2.to (by omega) (by grind)
  have h_m34 : HasV (Co.m34 c1 (oneR x) (oneR y)) (X * X + Y * Y + SS * SS + 2 * (X * SS)) (X * X + Y * Y + SS * SS - 2 * (X * SS)) := (HasV.mul D.rs' L.r33' h_rs h_r33 L.m34'.e).turn (by omega) (by omega)
  have h_rp : HasV (Co.rp c1 (oneR x) (oneR y)) (X * X + Y * Y + SS * SS + 2 * (X * SS)) (X * X + Y * Y + SS * SS - 2 * (X * SS)) := HasV.clamp L.m34' h_m34 tt (by omega)
  have h_a36 : HasV (Co.a36 c1 (oneR x) (oneR y)) (X * X + Y * Y + SS * SS + 2 * (X * SS)) (2 * (X * X + Y * Y + SS * SS - 2 * (X * SS))) := (HasV.add D.rs' L.rp' h_rs h_rp L.a36'.e).to pp (by grind)
  exact ⟨h_a18, (HasV.mul f_half L.a36' v_half h_a36 L.f'.e).to pp (by grind)⟩

end Go.Proofs.Ytoocmocaelcbkaa

namespace Go.Proofs.Ytoocmocaelcbkaa
open Go.RowKit

namespace Cw
def z : BW := ⟨clampR (subR c1 (sqrR c1)), 0⟩
def o2 : BW := ⟨sqrR c1, 0⟩
def half : BW := BW.one 4602678819172646912
def two : BW := BW.one 4611686018427387904
def four : BW := BW.one 4616189618054758400
def e2 (H _K : Res) : BW := BW.sqr ⟨H, 0⟩
def k2 (_H K : Res) : BW := BW.sqr ⟨K, 0⟩
def ek (H K : Res) : BW := (e2 H K).mul (k2 H K)
def t11 (H K : Res) : BW := (e2 H K).sub (k2 H K)
def t0 (H K : Res) : BW := (t11 H K).sub z
def q13 (H K : Res) : BW := (t0 H K).sqr
def m15 (H K : Res) : BW := four.mul (ek H K)
def a16 (H K : Res) : BW := (q13 H K).add (m15 H K)
def ab (H K : Res) : BW := (a16 H K).sqrt
def a18 (H K : Res) : BW := (ab H K).add (t0 H K)
def x20 (H K : Res) : BW := ⟨⟨0, (e2 H K).R.lo, (a18 H K).R.hi⟩, (a18 H K).w⟩
def m21 (H K : Res) : BW := half.mul (x20 H K)
def a (H K : Res) : BW := (m21 H K).sqrt
def t1 (H K : Res) : BW := (ab H K).add o2
def m25 (H K : Res) : BW := two.mul (a H K)
def t2 (H K : Res) : BW := (m25 H K).mul (BW.one 4607182418800017408)
def n27 (H K : Res) : BW := (t1 H K).sub (t2 H K)
def d27 (H K : Res) : BW := (t1 H K).add (t2 H K)
def r27 (H K : Res) : BW := (n27 H K).div (d27 H K)
def rs (H K : Res) : BW := (r27 H K).clamp
def m29 (H K : Res) : BW := o2.mul (ab H K)
def q30 : BW := z.sqr
def t3 (H K : Res) : BW := (m29 H K).add q30
def t4 (H K : Res) : BW := (t2 H K).mul z
def n33 (H K : Res) : BW := (t3 H K).sub (t4 H K)
def d33 (H K : Res) : BW := (t3 H K).add (t4 H K)
def r33 (H K : Res) : BW := (n33 H K).div (d33 H K)
def m34 (H K : Res) : BW := (rs H K).mul (r33 H K)
def rp (H K : Res) : BW := (m34 H K).clamp
def a36 (H K : Res) : BW := (rs H K).add (rp H K)
def f (H K : Res) : BW := half.mul (a36 H K)
end Cw
def wd (i : Nat) : Nat := 4589168020290535424 + i * 4503599627370496
def bx (i : Nat) : Res := ⟨0, wd i, wd (i + 1)⟩
theorem Snd.max0 {r : Res} {x : BW} {c : Nat} (h : Snd r x) (fx : Fit ⟨0, c, x.R.hi⟩) (lc : val c ≤ val r.lo) (pc : 0 ≤ val c) (fm : Fit (maxR r (oneR 0))) : Snd (maxR r (oneR 0)) ⟨⟨0, c, x.R.hi⟩, x.w⟩ := by
  have f := h.wid.has.fit
  obtain ⟨_, _, x3⟩ := max_facts r.lo 0 f.lo (by decide) f.rlo right_0
  obtain ⟨_, _, y3⟩ := max_facts r.hi 0 f.hi (by decide) f.rhi right_0
  rw [val_nil] at x3 y3
  have e1 : (maxR r (oneR 0)).lo = maxW r.lo 0 := rfl
  have e2 : (maxR r (oneR 0)).hi = maxW r.hi 0 := rfl
  have l := f.le
  have hh := h.wid.has.hi
  have ww := h.wid.wide
  refine ⟨⟨⟨fm, ?_, ?_⟩, ?_⟩, fx⟩
  · show val c ≤ val (maxR r (oneR 0)).lo
    rw [e1, x3]; omega
  · show val (maxR r (oneR 0)).hi ≤ val x.R.hi
    rw [e2, y3]; omega
  · show val (maxR r (oneR 0)).hi - val (maxR r (oneR 0)).lo ≤ x.w
    rw [e1, e2, x3, y3]; omega

theorem o2_snd : Snd (sqrR c1) Cw.o2 := .exact (.of (by decide +kernel)) (by decide +kernel)
theorem z_snd : Snd (clampR (subR c1 (sqrR c1))) Cw.z := .exact (.of (by decide +kernel)) (by decide +kernel)
def Cw.chk (H K : Res) : Bool := bok (Cw.e2 H K) && bok (Cw.k2 H K) && bok (Cw.ek H K) && bok (Cw.t11 H K) && bok (Cw.t0 H K) && bok (Cw.q13 H K) && bok (Cw.m15 H K) && bok (Cw.a16 H K) && bok (Cw.ab H K) && bok (Cw.a18 H K) && bok (Cw.m21 H K) && bok (Cw.a H K) && bok (Cw.t1 H K) && bok (Cw.m25 H K) && bok (Cw.t2 H K) && bok (Cw.n27 H K) && bok (Cw.d27 H K) && bok (Cw.r27 H K) && bok (Cw.m29 H K) && bok Cw.q30 && bok (Cw.t3 H K) && bok (Cw.t4 H K) && bok (Cw.n33 H K) && bok (Cw.d33 H K) && bok (Cw.r33 H K) && bok (Cw.m34 H K) && bok (Cw.a36 H K) && bok (Cw.f H K) && decide (0 < val (Cw.ab H K).R.lo) && decide (0 < val (Cw.a H K).R.lo) && decide (0 < val (Cw.d27 H K).R.lo) && decide (0 < val (Cw.d33 H K).R.lo) && decide ((Cw.a18 H K).w * SS ≤ val H.lo * val H.lo) && decide (0 < val (Cw.e2 H K).R.lo) && fitB ⟨0, (Cw.e2 H K).R.lo, (Cw.a18 H K).R.hi⟩ && decide ((Cw.f H K).w ≤ val 4445052832214679552)

set_option maxRecDepth 100000 in
theorem co_box {H K : Res} {x y : Nat} (i : In (oneR x) bigM) (j : In (oneR y) bigM) (hx : Snd (oneR x) ⟨H, 0⟩) (hy : Snd (oneR y) ⟨K, 0⟩) (h0 : 0 ≤ val H.lo) (ok : Cw.chk H K = true) :
    val (Co.f c1 (oneR x) (oneR y)).hi - val (Co.f c1 (oneR x) (oneR y)).lo ≤ val 4445052832214679552 := by
  unfold Cw.chk at ok
  simp only [Bool.and_eq_true, decide_eq_true_eq] at ok
  obtain ⟨⟨⟨⟨⟨⟨⟨⟨⟨⟨⟨⟨⟨⟨⟨⟨⟨⟨⟨⟨⟨⟨⟨⟨⟨⟨⟨⟨⟨⟨⟨⟨⟨⟨⟨b_e2, b_k2⟩, b_ek⟩, b_t11⟩, b_t0⟩, b_q13⟩, b_m15⟩, b_a16⟩, b_ab⟩, b_a18⟩, b_m21⟩, b_a⟩, b_t1⟩, b_m25⟩, b_t2⟩, b_n27⟩, b_d27⟩, b_r27⟩, b_m29⟩, b_q30⟩, b_t3⟩, b_t4⟩, b_n33⟩, b_d33⟩, b_r33⟩, b_m34⟩, b_a36⟩, b_f⟩, l1⟩, l2⟩, l3⟩, l4⟩, rf⟩, ep⟩, fx⟩, fin⟩ := ok
  have one : Snd (oneR 4607182418800017408) (BW.one 4607182418800017408) := .one (by decide) (by decide)
  have half : Snd (oneR 4602678819172646912) Cw.half := .one (by decide) (by decide)
  have two : Snd (oneR 4611686018427387904) Cw.two := .one (by decide) (by decide)
  have four : Snd (oneR 4616189618054758400) Cw.four := .one (by decide) (by decide)
  have j_c2 : Snd (Co.c2 c1 (oneR x) (oneR y)) Cw.o2 := o2_snd
  have j_s2 : Snd (Co.s2 c1 (oneR x) (oneR y)) Cw.z := z_snd
  have j_e2 : Snd (Co.e2 c1 (oneR x) (oneR y)) (Cw.e2 H K) := hx.sqr b_e2
  have j_k2 : Snd (Co.k2 c1 (oneR x) (oneR y)) (Cw.k2 H K) := hy.sqr b_k2
  have j_ek : Snd (Co.ek c1 (oneR x) (oneR y)) (Cw.ek H K) := j_e2.mul j_k2 b_ek
  have j_t11 : Snd (Co.t11 c1 (oneR x) (oneR y)) (Cw.t11 H K) := j_e2.sub j_k2 b_t11
  have j_t0 : Snd (Co.t0 c1 (oneR x) (oneR y)) (Cw.t0 H K) := j_t11.sub j_s2 b_t0
  have j_q13 : Snd (Co.q13 c1 (oneR x) (oneR y)) (Cw.q13 H K) := j_t0.sqr b_q13
  have j_m15 : Snd (Co.m15 c1 (oneR x) (oneR y)) (Cw.m15 H K) := four.mul j_ek b_m15
  have j_a16 : Snd (Co.a16 c1 (oneR x) (oneR y)) (Cw.a16 H K) := j_q13.add j_m15 b_a16
  have j_ab : Snd (Co.ab c1 (oneR x) (oneR y)) (Cw.ab H K) := j_a16.sqrt b_ab l1
  have j_a18 : Snd (Co.a18 c1 (oneR x) (oneR y)) (Cw.a18 H K) := j_ab.add j_t0 b_a18
  have low := (co_point i j).1
  have f18 := j_a18.wid.has.fit
  have lo18 : val (Cw.e2 H K).R.lo ≤ val (Co.a18 c1 (oneR x) (oneR y)).lo := by
    have e := (sqr_parts hx.fit (bok_parts b_e2).1.e)
    obtain ⟨m, M, em, _, m0, _, d, _⟩ := e
    have em' : m = val H.lo := by rw [em]; exact if_pos h0
    have d1 : val (Cw.e2 H K).R.lo * SS ≤ m * m := d.ok.2.2.1
    rw [em'] at d1
    have g0 : val H.lo ≤ val x := hx.wid.has.lo
    have g1 : val H.lo * val H.lo ≤ val x * val x := Int.mul_le_mul g0 g0 h0 (by omega)
    have wid := j_a18.wid.wide
    have hi := low.high
    have s0 := SS0
    refine Int.le_of_mul_le_mul_right ?_ s0
    -- the upper end is no less than twice the square
    have k1 : 2 * (val x * val x) ≤ val (Co.a18 c1 (oneR x) (oneR y)).hi * SS := by
      refine Int.le_of_mul_le_mul_right ?_ s0
      have e1 : val (Co.a18 c1 (oneR x) (oneR y)).hi * SS * SS = val (Co.a18 c1 (oneR x) (oneR y)).hi * (SS * SS) := by grind
      rw [e1]; exact hi
    have k2 : (val (Co.a18 c1 (oneR x) (oneR y)).hi - (Cw.a18 H K).w) * SS ≤ val (Co.a18 c1 (oneR x) (oneR y)).lo * SS := Int.mul_le_mul_of_nonneg_right (by omega) (Int.le_of_lt s0)
    rw [Int.sub_mul] at k2
    omega
  have j_x20 : Snd (Co.x20 c1 (oneR x) (oneR y)) (Cw.x20 H K) := Snd.max0 j_a18 (.of fx) lo18 (Int.le_of_lt ep) (co_at i j).fits.x20'
  have j_m21 : Snd (Co.m21 c1 (oneR x) (oneR y)) (Cw.m21 H K) := half.mul j_x20 b_m21
  have j_a : Snd (Co.a c1 (oneR x) (oneR y)) (Cw.a H K) := j_m21.sqrt b_a l2
  have j_t1 : Snd (Co.t1 c1 (oneR x) (oneR y)) (Cw.t1 H K) := j_ab.add j_c2 b_t1
  have j_m25 : Snd (Co.m25 c1 (oneR x) (oneR y)) (Cw.m25 H K) := two.mul j_a b_m25
  have j_t2 : Snd (Co.t2 c1 (oneR x) (oneR y)) (Cw.t2 H K) := j_m25.mul one b_t2
  have j_n27 : Snd (Co.n27 c1 (oneR x) (oneR y)) (Cw.n27 H K) := j_t1.sub j_t2 b_n27
  have j_d27 : Snd (Co.d27 c1 (oneR x) (oneR y)) (Cw.d27 H K) := j_t1.add j_t2 b_d27
  have j_r27 : Snd (Co.r27 c1 (oneR x) (oneR y)) (Cw.r27 H K) := j_n27.div j_d27 b_r27 l3
  have j_rs : Snd (Co.rs c1 (oneR x) (oneR y)) (Cw.rs H K) := j_r27.clamp
  have j_m29 : Snd (Co.m29 c1 (oneR x) (oneR y)) (Cw.m29 H K) := j_c2.mul j_ab b_m29
  have j_q30 : Snd (Co.q30 c1 (oneR x) (oneR y)) (Cw.q30) := j_s2.sqr b_q30
  have j_t3 : Snd (Co.t3 c1 (oneR x) (oneR y)) (Cw.t3 H K) := j_m29.add j_q30 b_t3
  have j_t4 : Snd (Co.t4 c1 (oneR x) (oneR y)) (Cw.t4 H K) := j_t2.mul j_s2 b_t4
  have j_n33 : Snd (Co.n33 c1 (oneR x) (oneR y)) (Cw.n33 H K) := j_t3.sub j_t4 b_n33
  have j_d33 : Snd (Co.d33 c1 (oneR x) (oneR y)) (Cw.d33 H K) := j_t3.add j_t4 b_d33
  have j_r33 : Snd (Co.r33 c1 (oneR x) (oneR y)) (Cw.r33 H K) := j_n33.div j_d33 b_r33 l4
  have j_m34 : Snd (Co.m34 c1 (oneR x) (oneR y)) (Cw.m34 H K) := j_rs.mul j_r33 b_m34
  have j_rp : Snd (Co.rp c1 (oneR x) (oneR y)) (Cw.rp H K) := j_m34.clamp
  have j_a36 : Snd (Co.a36 c1 (oneR x) (oneR y)) (Cw.a36 H K) := j_rs.add j_rp b_a36
  have j_f : Snd (Co.f c1 (oneR x) (oneR y)) (Cw.f H K) := half.mul j_a36 b_f
  exact Int.le_trans j_f.wid.wide fin

set_option maxHeartbeats 4000000 in
theorem chk_0 : ∀ j, j < 8 → Cw.chk (bx 0) (bx j) = true := by decide +kernel
set_option maxHeartbeats 4000000 in
theorem chk_1 : ∀ j, j < 8 → Cw.chk (bx 1) (bx j) = true := by decide +kernel
set_option maxHeartbeats 4000000 in
theorem chk_2 : ∀ j, j < 8 → Cw.chk (bx 2) (bx j) = true := by decide +kernel
set_option maxHeartbeats 4000000 in
theorem chk_3 : ∀ j, j < 8 → Cw.chk (bx 3) (bx j) = true := by decide +kernel
set_option maxHeartbeats 4000000 in
theorem chk_4 : ∀ j, j < 8 → Cw.chk (bx 4) (bx j) = true := by decide +kernel
set_option maxHeartbeats 4000000 in
theorem chk_5 : ∀ j, j < 8 → Cw.chk (bx 5) (bx j) = true := by decide +kernel
set_option maxHeartbeats 4000000 in
theorem chk_6 : ∀ j, j < 8 → Cw.chk (bx 6) (bx j) = true := by decide +kernel
set_option maxHeartbeats 4000000 in
theorem chk_7 : ∀ j, j < 8 → Cw.chk (bx 7) (bx j) = true := by decide +kernel
theorem chk_all (i : Nat) (hi : i < 8) (j : Nat) (hj : j < 8) : Cw.chk (bx i) (bx j) = true := by
  rcases (show i = 0 ∨ i = 1 ∨ i = 2 ∨ i = 3 ∨ i = 4 ∨ i = 5 ∨ i = 6 ∨ i = 7 by omega) with rfl | rfl | rfl | rfl | rfl | rfl | rfl | rfl
  · exact chk_0 j hj
  · exact chk_1 j hj
  · exact chk_2 j hj
  · exact chk_3 j hj
  · exact chk_4 j hj
  · exact chk_5 j hj
  · exact chk_6 j hj
  · exact chk_7 j hj
theorem bx_fit : ∀ i, i < 8 → fitB (bx i) = true ∧ 0 ≤ val (bx i).lo := by decide +kernel
theorem wd_ends : val (wd 0) = val bigM.lo ∧ val (wd 8) = val bigM.hi := by decide +kernel
theorem which {v : Int} (f : Nat → Int) : ∀ n, f 0 ≤ v → v ≤ f n → n ≠ 0 → ∃ i, i < n ∧ f i ≤ v ∧ v ≤ f (i + 1)
  | 0, _, _, h => absurd rfl h
  | n + 1, h0, h1, _ => by
    rcases Int.le_total (f n) v with g | g
    · exact ⟨n, by omega, g, h1⟩
    · rcases Nat.eq_zero_or_pos n with z | z
      · subst z; exact ⟨0, by omega, h0, h1⟩
      · obtain ⟨i, a, b, c⟩ := which f n h0 g (by omega)
        exact ⟨i, by omega, b, c⟩
/-- No wider than 2^-36. -/
theorem co_narrow {x y : Nat} (i : In (oneR x) bigM) (j : In (oneR y) bigM) : val (Co.f c1 (oneR x) (oneR y)).hi - val (Co.f c1 (oneR x) (oneR y)).lo ≤ val 4445052832214679552 := by
  obtain ⟨e0, e8⟩ := wd_ends
  obtain ⟨p, p8, p1, p2⟩ := which (v := val x) (fun k => val (wd k)) 8 (by show val (wd 0) ≤ _; rw [e0]; exact i.lo) (by show _ ≤ val (wd 8); rw [e8]; exact i.hi) (by decide)
  obtain ⟨q, q8, q1, q2⟩ := which (v := val y) (fun k => val (wd k)) 8 (by show val (wd 0) ≤ _; rw [e0]; exact j.lo) (by show _ ≤ val (wd 8); rw [e8]; exact j.hi) (by decide)
  exact co_box i j (.box (.of (bx_fit p p8).1) i.fit p1 p2) (.box (.of (bx_fit q q8).1) j.fit q1 q2) (bx_fit p p8).2 (chk_all p p8 q q8)

end Go.Proofs.Ytoocmocaelcbkaa
