
/- Package oren: real values and widths; numbers between any two. No program is named here. -/
import Derived.Test.YtdppppaoflhgdaaQM
namespace Go.Proofs.Ytdppppaoflhgdaa
open Go.RowKit

theorem HasV.to {r : Res} {P T P' T' : Int} (h : HasV r P T) (hP : 0 < P') (e : T * P' = T' * P) : HasV r P' T' := by
  have p := h.pos
  refine ⟨hP, ?_, ?_⟩
  · refine Int.le_of_mul_le_mul_right ?_ p
    have k := Int.mul_le_mul_of_nonneg_right h.low (Int.le_of_lt hP)
    have e1 : val r.lo * P' * P = val r.lo * P * P' := by grind
    have e2 : T' * SS * P = T * SS * P' := by grind
    rw [e1, e2]; exact k
  · refine Int.le_of_mul_le_mul_right ?_ p
    have k := Int.mul_le_mul_of_nonneg_right h.high (Int.le_of_lt hP)
    have e1 : val r.hi * P' * P = val r.hi * P * P' := by grind
    have e2 : T' * SS * P = T * SS * P' := by grind
    rw [e1, e2]; exact k
theorem HasV.low_end {r : Res} (f : Fit r) : HasV r SS (val r.lo) := by
  refine ⟨SS0, Int.le_refl _, Int.mul_le_mul_of_nonneg_right f.le (Int.le_of_lt SS0)⟩
theorem lit_vals : val 4607182418800017408 = SS ∧ val 4602678819172646912 * 2 = SS ∧ val 4611686018427387904 = 2 * SS ∧ val 4616189618054758400 = 4 * SS ∧ val 4607463893776728064 * 16 = 17 * SS := by decide +kernel
theorem v_one : HasV (oneR 4607182418800017408) 1 1 := .lit (by decide) (by rw [lit_vals.1]; omega)
theorem v_half : HasV (oneR 4602678819172646912) 2 1 := .lit (by decide) (by rw [lit_vals.2.1]; omega)
theorem v_two : HasV (oneR 4611686018427387904) 1 2 := .lit (by decide) (by rw [lit_vals.2.2.1]; omega)
theorem v_four : HasV (oneR 4616189618054758400) 1 4 := .lit (by decide) (by rw [lit_vals.2.2.2.1]; omega)
theorem v_zero : HasV (oneR 0) 1 0 := .lit (by decide) (by rw [val_nil]; omega)
theorem f_one : Fit (oneR 4607182418800017408) := one_fit (by decide) (by decide)
theorem f_half : Fit (oneR 4602678819172646912) := one_fit (by decide) (by decide)
theorem i_one : In (oneR 4607182418800017408) bigC := ⟨f_one, by decide +kernel, by decide +kernel⟩
theorem i_zero : In (oneR 0) bigC := ⟨one_fit (by decide) (by decide), by decide +kernel, by decide +kernel⟩
theorem di_lows : 0 < val (Di.more bigC bigN).lo ∧ 0 < val (Di.under bigC bigN).lo := by decide +kernel

/-- Straight on: the square of (n - 1) / (n + 1). -/
theorem di_point {x : Nat} (i : In (oneR x) bigN) : HasV (Di.out (oneR 4607182418800017408) (oneR x)) ((val x + SS) * (val x + SS)) ((val x - SS) * (val x - SS)) := by
  have P := Di.parts Di.big i_one i
  have D := P.fits f_one i.fit
  have X1 : SS ≤ val x := by
    have h : val 4607463893776728064 ≤ val x := i.lo
    have := lit_vals.2.2.2.2
    have := SS0
    omega
  have m0 : 0 < val (Di.more (oneR 4607182418800017408) (oneR x)).lo := by have := di_lows.1; have := P.more'.lo; omega
  have u0 : 0 < val (Di.under (oneR 4607182418800017408) (oneR x)).lo := by have := di_lows.2; have := P.under'.lo; omega
  have s0 := SS0
  generalize hX : val x = X at *
  have h_n : HasV (oneR x) SS X := by rw [← hX]; exact .one x
  have h_s2 : HasV (Di.s2 (oneR 4607182418800017408) (oneR x)) (SS * SS) (X * X) := HasV.sqr i.fit h_n D.s2'.e
  have h_s3 : HasV (Di.s3 (oneR 4607182418800017408) (oneR x)) (SS * SS) (X * X - SS * SS) := (HasV.sub D.s2' f_one h_s2 v_one D.s3'.e).turn (by omega) (by omega)
  have h_s4 : HasV (Di.s4 (oneR 4607182418800017408) (oneR x)) 1 1 := HasV.sqr f_one v_one D.s4'.e
  have h_s5 : HasV (Di.s5 (oneR 4607182418800017408) (oneR x)) (SS * SS) (X * X) := (HasV.add D.s3' D.s4' h_s3 h_s4 D.s5'.e).turn (by omega) (by omega)
  have h_g : HasV (Di.g (oneR 4607182418800017408) (oneR x)) SS X := HasV.sqrt D.s5' h_s5 D.g'.e s0 (by omega) rfl
  have h_more : HasV (Di.more (oneR 4607182418800017408) (oneR x)) SS (X + SS) := (HasV.add D.g' f_one h_g v_one D.more'.e).turn (by omega) (by omega)
  have h_less : HasV (Di.less (oneR 4607182418800017408) (oneR x)) SS (X - SS) := (HasV.sub D.g' f_one h_g v_one D.less'.e).turn (by omega) (by omega)
  have h_pq : HasV (Di.pq (oneR 4607182418800017408) (oneR x)) (X + SS) (X - SS) := (HasV.div D.less' D.more' h_less h_more m0 D.pq'.e).2.to (by omega) (by grind)
  have h_p : HasV (Di.p (oneR 4607182418800017408) (oneR x)) ((X + SS) * (X + SS)) ((X - SS) * (X - SS)) := HasV.sqr D.pq' h_pq D.p'.e
  have h_m11 : HasV (Di.m11 (oneR 4607182418800017408) (oneR x)) SS (X + SS) := (HasV.mul f_one D.more' v_one h_more D.m11'.e).turn (by omega) (by omega)
  have h_over : HasV (Di.over (oneR 4607182418800017408) (oneR x)) SS X := (HasV.sub D.m11' f_one h_m11 v_one D.over'.e).turn (by omega) (by omega)
  have h_m13 : HasV (Di.m13 (oneR 4607182418800017408) (oneR x)) SS (X - SS) := (HasV.mul f_one D.less' v_one h_less D.m13'.e).turn (by omega) (by omega)
  have h_under : HasV (Di.under (oneR 4607182418800017408) (oneR x)) SS X := (HasV.add D.m13' f_one h_m13 v_one D.under'.e).turn (by omega) (by omega)
  have h_qq : HasV (Di.qq (oneR 4607182418800017408) (oneR x)) 1 1 := (HasV.div D.over' D.under' h_over h_under u0 D.qq'.e).2.to (by omega) (by grind)
  have h_q : HasV (Di.q (oneR 4607182418800017408) (oneR x)) 1 1 := HasV.sqr D.qq' h_qq D.q'.e
  have h_hp : HasV (Di.hp (oneR 4607182418800017408) (oneR x)) (2 * ((X + SS) * (X + SS))) (1 * ((X - SS) * (X - SS))) := HasV.mul f_half D.p' v_half h_p D.hp'.e
  have h_oq : HasV (Di.oq (oneR 4607182418800017408) (oneR x)) 1 2 := HasV.add f_one D.q' v_one h_q D.oq'.e
  have pp : 0 < (X + SS) * (X + SS) := Int.mul_pos (by omega) (by omega)
  have h_f : HasV (Di.f (oneR 4607182418800017408) (oneR x)) ((X + SS) * (X + SS)) ((X - SS) * (X - SS)) := (HasV.mul D.hp' D.oq' h_hp h_oq D.f'.e).to pp (by grind)
  exact HasV.clamp D.f' h_f (self_nonneg _) (Int.mul_le_mul (by omega) (by omega) (by omega) (by omega))

/-- Along the surface: all. -/
theorem di_all {x : Nat} (i : In (oneR x) bigN) : HasV (Di.out (oneR 0) (oneR x)) 1 1 := by
  have P := Di.parts Di.big i_zero i
  have fz : Fit (oneR 0) := i_zero.fit
  have D := P.fits fz i.fit
  have m0 : 0 < val (Di.more (oneR 0) (oneR x)).lo := by have := di_lows.1; have := P.more'.lo; omega
  have u0 : 0 < val (Di.under (oneR 0) (oneR x)).lo := by have := di_lows.2; have := P.under'.lo; omega
  have s0 := SS0
  have h_g : HasV (Di.g (oneR 0) (oneR x)) SS (val (Di.g (oneR 0) (oneR x)).lo) := .low_end D.g'
  generalize val (Di.g (oneR 0) (oneR x)).lo = X at h_g
  have h_more : HasV (Di.more (oneR 0) (oneR x)) SS X := (HasV.add D.g' fz h_g v_zero D.more'.e).turn (by omega) (by omega)
  have h_less : HasV (Di.less (oneR 0) (oneR x)) SS X := (HasV.sub D.g' fz h_g v_zero D.less'.e).turn (by omega) (by omega)
  have h_pq : HasV (Di.pq (oneR 0) (oneR x)) 1 1 := (HasV.div D.less' D.more' h_less h_more m0 D.pq'.e).2.to (by omega) (by grind)
  have h_p : HasV (Di.p (oneR 0) (oneR x)) 1 1 := HasV.sqr D.pq' h_pq D.p'.e
  have h_m11 : HasV (Di.m11 (oneR 0) (oneR x)) 1 0 := (HasV.mul fz D.more' v_zero h_more D.m11'.e).to (by omega) (by grind)
  have h_over : HasV (Di.over (oneR 0) (oneR x)) 1 (-1) := HasV.sub D.m11' f_one h_m11 v_one D.over'.e
  have h_m13 : HasV (Di.m13 (oneR 0) (oneR x)) 1 0 := (HasV.mul fz D.less' v_zero h_less D.m13'.e).to (by omega) (by grind)
  have h_under : HasV (Di.under (oneR 0) (oneR x)) 1 1 := HasV.add D.m13' f_one h_m13 v_one D.under'.e
  have h_qq : HasV (Di.qq (oneR 0) (oneR x)) 1 (-1) := (HasV.div D.over' D.under' h_over h_under u0 D.qq'.e).2
  have h_q : HasV (Di.q (oneR 0) (oneR x)) 1 1 := HasV.sqr D.qq' h_qq D.q'.e
  have h_hp : HasV (Di.hp (oneR 0) (oneR x)) 2 1 := HasV.mul f_half D.p' v_half h_p D.hp'.e
  have h_oq : HasV (Di.oq (oneR 0) (oneR x)) 1 2 := HasV.add f_one D.q' v_one h_q D.oq'.e
  have h_f : HasV (Di.f (oneR 0) (oneR x)) 1 1 := (HasV.mul D.hp' D.oq' h_hp h_oq D.f'.e).to (by omega) (by omega)
  exact HasV.clamp D.f' h_f (by omega) (by omega)

/-- How wide, of the widest. -/
def wAdd (r : Res) (wa wb : Int) : Int := wa + wb + 2 * gapP r
def wMul (r A B : Res) (wa wb : Int) : Int := (wa * magn B + magn A * wb) / SS + 2 * gapP r
def wDiv (r A B : Res) (wa wb : Int) : Int := SS * (wa * magn B + magn A * wb) / (val B.lo * val B.lo) + 2 * gapP r
def wSqr (r A : Res) (wa : Int) : Int := wa * (2 * magn A) / SS + 2 * gapP r
def wSqrt (r : Res) (wa : Int) : Int := wa * SS / (2 * val r.lo) + 2 * gapP r

def Di.w2 (_C N : Res) (wn : Int) : Int := wSqr (Di.s2 _C N) N wn
def Di.w3 (C N : Res) (wn : Int) : Int := wAdd (Di.s3 C N) (Di.w2 C N wn) 0
def Di.w5 (C N : Res) (wn : Int) : Int := wAdd (Di.s5 C N) (Di.w3 C N wn) (wSqr (Di.s4 C N) C 0)
def Di.wg (C N : Res) (wn : Int) : Int := wSqrt (Di.g C N) (Di.w5 C N wn)
def Di.wmore (C N : Res) (wn : Int) : Int := wAdd (Di.more C N) (Di.wg C N wn) 0
def Di.wless (C N : Res) (wn : Int) : Int := wAdd (Di.less C N) (Di.wg C N wn) 0
def Di.wpq (C N : Res) (wn : Int) : Int := wDiv (Di.pq C N) (Di.less C N) (Di.more C N) (Di.wless C N wn) (Di.wmore C N wn)
def Di.wp (C N : Res) (wn : Int) : Int := wSqr (Di.p C N) (Di.pq C N) (Di.wpq C N wn)
def Di.w11 (C N : Res) (wn : Int) : Int := wMul (Di.m11 C N) C (Di.more C N) 0 (Di.wmore C N wn)
def Di.wover (C N : Res) (wn : Int) : Int := wAdd (Di.over C N) (Di.w11 C N wn) 0
def Di.w13 (C N : Res) (wn : Int) : Int := wMul (Di.m13 C N) C (Di.less C N) 0 (Di.wless C N wn)
def Di.wunder (C N : Res) (wn : Int) : Int := wAdd (Di.under C N) (Di.w13 C N wn) 0
def Di.wqq (C N : Res) (wn : Int) : Int := wDiv (Di.qq C N) (Di.over C N) (Di.under C N) (Di.wover C N wn) (Di.wunder C N wn)
def Di.wq (C N : Res) (wn : Int) : Int := wSqr (Di.q C N) (Di.qq C N) (Di.wqq C N wn)
def Di.whp (C N : Res) (wn : Int) : Int := wMul (Di.hp C N) (oneR 4602678819172646912) (Di.p C N) 0 (Di.wp C N wn)
def Di.woq (C N : Res) (wn : Int) : Int := wAdd (Di.oq C N) 0 (Di.wq C N wn)
def Di.wf (C N : Res) (wn : Int) : Int := wMul (Di.f C N) (Di.hp C N) (Di.oq C N) (Di.whp C N wn) (Di.woq C N wn)
def kOk (r : Res) : Bool := decide (gapK r ≤ 1899)
def Di.ok (C N : Res) : Bool := kOk (Di.s2 C N) && kOk (Di.s3 C N) && kOk (Di.s4 C N) && kOk (Di.s5 C N) && kOk (Di.g C N) && kOk (Di.more C N) && kOk (Di.less C N) && kOk (Di.pq C N) && kOk (Di.p C N) && kOk (Di.m11 C N) && kOk (Di.over C N) && kOk (Di.m13 C N) && kOk (Di.under C N) && kOk (Di.qq C N) && kOk (Di.q C N) && kOk (Di.hp C N) && kOk (Di.oq C N) && kOk (Di.f C N)
  && decide (0 < val (Di.g C N).lo) && decide (0 < val (Di.more C N).lo) && decide (0 < val (Di.under C N).lo)

theorem di_wide {c n C N : Res} {wn : Int} (D : Di.Fits C N) (hc : Wid c C 0) (hn : Wid n N wn) (ok : Di.ok C N = true) : Wid (Di.f c n) (Di.f C N) (Di.wf C N wn) := by
  unfold Di.ok kOk at ok
  simp only [Bool.and_eq_true, decide_eq_true_eq] at ok
  obtain ⟨⟨⟨⟨⟨⟨⟨⟨⟨⟨⟨⟨⟨⟨⟨⟨⟨⟨⟨⟨k1, k2⟩, k3⟩, k4⟩, k5⟩, k6⟩, k7⟩, k8⟩, k9⟩, k10⟩, k11⟩, k12⟩, k13⟩, k14⟩, k15⟩, k16⟩, k17⟩, k18⟩, l1⟩, l2⟩, l3⟩ := ok
  have one : Wid (oneR 4607182418800017408) (oneR 4607182418800017408) 0 := .one (.refl f_one)
  have half : Wid (oneR 4602678819172646912) (oneR 4602678819172646912) 0 := .one (.refl f_half)
  have j2 : Wid (Di.s2 c n) (Di.s2 C N) (Di.w2 C N wn) := Wid.sqr hn D.fn D.s2'.e k1
  have j3 : Wid (Di.s3 c n) (Di.s3 C N) (Di.w3 C N wn) := Wid.sub j2 D.s2' one f_one D.s3'.e k2
  have j4 : Wid (Di.s4 c n) (Di.s4 C N) (wSqr (Di.s4 C N) C 0) := Wid.sqr hc D.fc D.s4'.e k3
  have j5 : Wid (Di.s5 c n) (Di.s5 C N) (Di.w5 C N wn) := Wid.add j3 D.s3' j4 D.s4' D.s5'.e k4
  have jg : Wid (Di.g c n) (Di.g C N) (Di.wg C N wn) := Wid.sqrt j5 D.s5' l1 D.g'.e k5
  have jm : Wid (Di.more c n) (Di.more C N) (Di.wmore C N wn) := Wid.add jg D.g' hc D.fc D.more'.e k6
  have jl : Wid (Di.less c n) (Di.less C N) (Di.wless C N wn) := Wid.sub jg D.g' hc D.fc D.less'.e k7
  have jpq : Wid (Di.pq c n) (Di.pq C N) (Di.wpq C N wn) := Wid.div jl D.less' jm D.more' l2 D.pq'.e k8
  have jp : Wid (Di.p c n) (Di.p C N) (Di.wp C N wn) := Wid.sqr jpq D.pq' D.p'.e k9
  have j11 : Wid (Di.m11 c n) (Di.m11 C N) (Di.w11 C N wn) := Wid.mul hc D.fc jm D.more' D.m11'.e k10
  have jo : Wid (Di.over c n) (Di.over C N) (Di.wover C N wn) := Wid.sub j11 D.m11' one f_one D.over'.e k11
  have j13 : Wid (Di.m13 c n) (Di.m13 C N) (Di.w13 C N wn) := Wid.mul hc D.fc jl D.less' D.m13'.e k12
  have ju : Wid (Di.under c n) (Di.under C N) (Di.wunder C N wn) := Wid.add j13 D.m13' one f_one D.under'.e k13
  have jqq : Wid (Di.qq c n) (Di.qq C N) (Di.wqq C N wn) := Wid.div jo D.over' ju D.under' l3 D.qq'.e k14
  have jq : Wid (Di.q c n) (Di.q C N) (Di.wq C N wn) := Wid.sqr jqq D.qq' D.q'.e k15
  have jhp : Wid (Di.hp c n) (Di.hp C N) (Di.whp C N wn) := Wid.mul half f_half jp D.p' D.hp'.e k16
  have joq : Wid (Di.oq c n) (Di.oq C N) (Di.woq C N wn) := Wid.add one f_one jq D.q' D.oq'.e k17
  exact Wid.mul jhp D.hp' joq D.oq' D.f'.e k18

theorem clamp_wide {r : Res} (f : Fit r) : val (clampR r).hi - val (clampR r).lo ≤ val r.hi - val r.lo := by
  obtain ⟨_, _, x3⟩ := clamp_facts f.lo f.rlo
  obtain ⟨_, _, y3⟩ := clamp_facts f.hi f.rhi
  have e1 : (clampR r).lo = clampW r.lo := rfl
  have e2 : (clampR r).hi = clampW r.hi := rfl
  have u : val u1 = SS := by decide +kernel
  have l := f.le
  have := SS0
  rw [e1, e2, x3, y3, u]
  omega

/-- Of indices from one number to another one: no wider than 2^-43. -/
def Di.slim (a b : Nat) : Bool := Di.ok (oneR 4607182418800017408) ⟨0, a, b⟩ && Di.ok (oneR 0) ⟨0, a, b⟩ && decide (Di.wf (oneR 4607182418800017408) ⟨0, a, b⟩ 0 ≤ val 4413527634823086080) && decide (Di.wf (oneR 0) ⟨0, a, b⟩ 0 ≤ val 4413527634823086080)
theorem di_box {a b x : Nat} (hB : In ⟨0, a, b⟩ bigN) (hs : Di.slim a b = true) (f : Fit (oneR x)) (h1 : val a ≤ val x) (h2 : val x ≤ val b) :
    val (Di.out (oneR 4607182418800017408) (oneR x)).hi - val (Di.out (oneR 4607182418800017408) (oneR x)).lo ≤ val 4413527634823086080 ∧ val (Di.out (oneR 0) (oneR x)).hi - val (Di.out (oneR 0) (oneR x)).lo ≤ val 4413527634823086080 := by
  unfold Di.slim at hs
  simp only [Bool.and_eq_true, decide_eq_true_eq] at hs
  obtain ⟨⟨⟨o1, o0⟩, w1⟩, w0⟩ := hs
  have i : In (oneR x) ⟨0, a, b⟩ := ⟨f, h1, h2⟩
  have D1 := (Di.parts Di.big i_one hB).fits f_one hB.fit
  have D0 := (Di.parts Di.big i_zero hB).fits i_zero.fit hB.fit
  have W1 := di_wide D1 (.one (.refl f_one)) (.one i) o1
  have W0 := di_wide D0 (.one (.refl i_zero.fit)) (.one i) o0
  have c1 := clamp_wide W1.has.fit
  have c0 := clamp_wide W0.has.fit
  have x1 := W1.wide
  have x0 := W0.wide
  exact ⟨Int.le_trans c1 (Int.le_trans x1 w1), Int.le_trans c0 (Int.le_trans x0 w0)⟩
theorem slim_0 : In ⟨0, 4607463893776728064, 4607745368753438720⟩ bigN ∧ Di.slim 4607463893776728064 4607745368753438720 = true := ⟨⟨.of (by decide +kernel), by decide +kernel, by decide +kernel⟩, by decide +kernel⟩
theorem slim_1 : In ⟨0, 4607745368753438720, 4608308318706860032⟩ bigN ∧ Di.slim 4607745368753438720 4608308318706860032 = true := ⟨⟨.of (by decide +kernel), by decide +kernel, by decide +kernel⟩, by decide +kernel⟩
theorem slim_2 : In ⟨0, 4608308318706860032, 4609434218613702656⟩ bigN ∧ Di.slim 4608308318706860032 4609434218613702656 = true := ⟨⟨.of (by decide +kernel), by decide +kernel, by decide +kernel⟩, by decide +kernel⟩
theorem slim_3 : In ⟨0, 4609434218613702656, 4611686018427387904⟩ bigN ∧ Di.slim 4609434218613702656 4611686018427387904 = true := ⟨⟨.of (by decide +kernel), by decide +kernel, by decide +kernel⟩, by decide +kernel⟩
theorem slim_4 : In ⟨0, 4611686018427387904, 4613937818241073152⟩ bigN ∧ Di.slim 4611686018427387904 4613937818241073152 = true := ⟨⟨.of (by decide +kernel), by decide +kernel, by decide +kernel⟩, by decide +kernel⟩
theorem slim_5 : In ⟨0, 4613937818241073152, 4616189618054758400⟩ bigN ∧ Di.slim 4613937818241073152 4616189618054758400 = true := ⟨⟨.of (by decide +kernel), by decide +kernel, by decide +kernel⟩, by decide +kernel⟩
theorem di_narrow {x : Nat} (i : In (oneR x) bigN) :
    val (Di.out (oneR 4607182418800017408) (oneR x)).hi - val (Di.out (oneR 4607182418800017408) (oneR x)).lo ≤ val 4413527634823086080 ∧ val (Di.out (oneR 0) (oneR x)).hi - val (Di.out (oneR 0) (oneR x)).lo ≤ val 4413527634823086080 := by
  have f := i.fit
  have h0 : val 4607463893776728064 ≤ val x := i.lo
  have h6 : val x ≤ val 4616189618054758400 := i.hi
  rcases Int.le_total (val x) (val 4607745368753438720) with g | h1
  · exact di_box slim_0.1 slim_0.2 f h0 g
  rcases Int.le_total (val x) (val 4608308318706860032) with g | h2
  · exact di_box slim_1.1 slim_1.2 f h1 g
  rcases Int.le_total (val x) (val 4609434218613702656) with g | h3
  · exact di_box slim_2.1 slim_2.2 f h2 g
  rcases Int.le_total (val x) (val 4611686018427387904) with g | h4
  · exact di_box slim_3.1 slim_3.2 f h3 g
  rcases Int.le_total (val x) (val 4613937818241073152) with g | h5
  · exact di_box slim_4.1 slim_4.2 f h4 g
  exact di_box slim_5.1 slim_5.2 f h5 h6

end Go.Proofs.Ytdppppaoflhgdaa

namespace Go.Proofs.Ytdppppaoflhgdaa
open Go.RowKit

structure BW where
  R : Res
  w : Int
/-- r lies within the box, and is no wider. -/
structure Snd (r : Res) (x : BW) : Prop where
  wid : Wid r x.R x.w
  fit : Fit x.R
def bok (x : BW) : Bool := fitB x.R && kOk x.R
def BW.add (x y : BW) : BW := ⟨addR x.R y.R, wAdd (addR x.R y.R) x.w y.w⟩
def BW.sub (x y : BW) : BW := ⟨subR x.R y.R, wAdd (subR x.R y.R) x.w y.w⟩
def BW.mul (x y : BW) : BW := ⟨mulR x.R y.R, wMul (mulR x.R y.R) x.R y.R x.w y.w⟩
def BW.div (x y : BW) : BW := ⟨divR x.R y.R, wDiv (divR x.R y.R) x.R y.R x.w y.w⟩
def BW.sqr (x : BW) : BW := ⟨sqrR x.R, wSqr (sqrR x.R) x.R x.w⟩
def BW.sqrt (x : BW) : BW := ⟨sqrtR x.R, wSqrt (sqrtR x.R) x.w⟩
def BW.clamp (x : BW) : BW := ⟨clampR x.R, x.w⟩
def BW.one (x : Nat) : BW := ⟨oneR x, 0⟩
theorem bok_parts {x : BW} (h : bok x = true) : Fit x.R ∧ gapK x.R ≤ 1899 := by
  unfold bok kOk at h
  simp only [Bool.and_eq_true, decide_eq_true_eq] at h
  exact ⟨.of h.1, h.2⟩

section
variable {r s : Res} {x y : BW} (h : Snd r x) (g : Snd s y)
include h
theorem Snd.sqr (ok : bok x.sqr = true) : Snd (sqrR r) x.sqr := by
  obtain ⟨f, k⟩ := bok_parts ok
  exact ⟨Wid.sqr h.wid h.fit f.e k, f⟩
theorem Snd.sqrt (ok : bok x.sqrt = true) (l : 0 < val x.sqrt.R.lo) : Snd (sqrtR r) x.sqrt := by
  obtain ⟨f, k⟩ := bok_parts ok
  exact ⟨Wid.sqrt h.wid h.fit l f.e k, f⟩
theorem Snd.clamp : Snd (clampR r) x.clamp :=
  ⟨⟨clamp_in h.wid.has h.fit, Int.le_trans (clamp_wide h.wid.has.fit) h.wid.wide⟩, clamp_fit h.fit⟩
include g
theorem Snd.add (ok : bok (x.add y) = true) : Snd (addR r s) (x.add y) := by
  obtain ⟨f, k⟩ := bok_parts ok
  exact ⟨Wid.add h.wid h.fit g.wid g.fit f.e k, f⟩
theorem Snd.sub (ok : bok (x.sub y) = true) : Snd (subR r s) (x.sub y) := by
  obtain ⟨f, k⟩ := bok_parts ok
  exact ⟨Wid.sub h.wid h.fit g.wid g.fit f.e k, f⟩
theorem Snd.mul (ok : bok (x.mul y) = true) : Snd (mulR r s) (x.mul y) := by
  obtain ⟨f, k⟩ := bok_parts ok
  exact ⟨Wid.mul h.wid h.fit g.wid g.fit f.e k, f⟩
theorem Snd.div (ok : bok (x.div y) = true) (l : 0 < val y.R.lo) : Snd (divR r s) (x.div y) := by
  obtain ⟨f, k⟩ := bok_parts ok
  exact ⟨Wid.div h.wid h.fit g.wid g.fit l f.e k, f⟩
end
theorem Snd.one {x : Nat} (lx : x < 18446744073709551616) (rx : rightB x = true) : Snd (oneR x) (BW.one x) := ⟨.one (.refl (one_fit lx rx)), one_fit lx rx⟩
theorem Snd.box {x a b : Nat} (fB : Fit ⟨0, a, b⟩) (f : Fit (oneR x)) (h1 : val a ≤ val x) (h2 : val x ≤ val b) : Snd (oneR x) ⟨⟨0, a, b⟩, 0⟩ := ⟨.one ⟨f, h1, h2⟩, fB⟩
/-- What is exact. -/
theorem Snd.exact {r : Res} (f : Fit r) (h : val r.hi ≤ val r.lo) : Snd r ⟨r, 0⟩ := ⟨⟨.refl f, by show val r.hi - val r.lo ≤ 0; omega⟩, f⟩

end Go.Proofs.Ytdppppaoflhgdaa

namespace Go.Proofs.Ytdppppaoflhgdaa
open Go.RowKit

/-- It goes to nothing. -/
def Nul (f : Nat → Rat) : Prop := ∀ e : Rat, 0 < e → ∃ M : Nat, ∀ m, M ≤ m → -e ≤ f m ∧ f m ≤ e
/-- From some place on it stays within bounds. -/
def Bd (f : Nat → Rat) : Prop := ∃ B : Rat, 0 < B ∧ ∃ M : Nat, ∀ m, M ≤ m → -B ≤ f m ∧ f m ≤ B
def Eqv (f g : Nat → Rat) : Prop := Nul fun m => f m - g m
/-- From some place on it is no less than d. -/
def Abv (d : Rat) (f : Nat → Rat) : Prop := ∃ M : Nat, ∀ m, M ≤ m → d ≤ f m

theorem rat_mul {x y B e : Rat} (h1 : -B ≤ x) (h2 : x ≤ B) (h3 : -e ≤ y) (h4 : y ≤ e) : -(B * e) ≤ x * y ∧ x * y ≤ B * e := by
  have a := Rat.mul_nonneg (by grind : 0 ≤ B - x) (by grind : 0 ≤ e + y)
  have b := Rat.mul_nonneg (by grind : 0 ≤ B + x) (by grind : 0 ≤ e - y)
  have c := Rat.mul_nonneg (by grind : 0 ≤ B - x) (by grind : 0 ≤ e - y)
  have d := Rat.mul_nonneg (by grind : 0 ≤ B + x) (by grind : 0 ≤ e + y)
  constructor <;> grind

section
variable {f g f' g' : Nat → Rat}
theorem Nul.add (h : Nul f) (k : Nul g) : Nul fun m => f m + g m := fun e he => by
  obtain ⟨M, hM⟩ := h (e / 2) (by grind)
  obtain ⟨N, hN⟩ := k (e / 2) (by grind)
  refine ⟨M + N, fun m hm => ?_⟩
  have a := hM m (by omega)
  have b := hN m (by omega)
  constructor <;> grind
theorem Nul.neg (h : Nul f) : Nul fun m => -f m := fun e he => by
  obtain ⟨M, hM⟩ := h e he
  refine ⟨M, fun m hm => ?_⟩
  have a := hM m hm
  constructor <;> grind
theorem Nul.zero : Nul fun _ => 0 := fun e he => ⟨0, fun _ _ => by constructor <;> grind⟩
theorem Nul.of (h : Nul f) (e : ∀ m, f m = g m) : Nul g := by
  have : f = g := funext e
  rw [← this]; exact h
theorem Nul.mul (k : Bd f) (h : Nul g) : Nul fun m => f m * g m := fun e he => by
  obtain ⟨B, hB, N, hN⟩ := k
  have hd : 0 < e / B := by
    have := Rat.mul_pos he (Rat.inv_pos.2 hB)
    rw [Rat.div_def]; exact this
  obtain ⟨M, hM⟩ := h (e / B) hd
  refine ⟨M + N, fun m hm => ?_⟩
  have a := hM m (by omega)
  have b := hN m (by omega)
  have c := rat_mul b.1 b.2 a.1 a.2
  have e1 : B * (e / B) = e := by grind
  rw [e1] at c
  exact c
theorem Nul.bd (h : Nul f) : Bd f := by
  obtain ⟨M, hM⟩ := h 1 (by grind)
  exact ⟨1, by grind, M, hM⟩
theorem Bd.add (h : Bd f) (k : Bd g) : Bd fun m => f m + g m := by
  obtain ⟨B, hB, M, hM⟩ := h
  obtain ⟨C, hC, N, hN⟩ := k
  refine ⟨B + C, by grind, M + N, fun m hm => ?_⟩
  have a := hM m (by omega)
  have b := hN m (by omega)
  constructor <;> grind
theorem Bd.neg (h : Bd f) : Bd fun m => -f m := by
  obtain ⟨B, hB, M, hM⟩ := h
  refine ⟨B, hB, M, fun m hm => ?_⟩
  have a := hM m hm
  constructor <;> grind
theorem Bd.sub (h : Bd f) (k : Bd g) : Bd fun m => f m - g m := by
  obtain ⟨B, hB, M, hM⟩ := h.add k.neg
  refine ⟨B, hB, M, fun m hm => ?_⟩
  have a := hM m hm
  constructor <;> grind
theorem Bd.mul (h : Bd f) (k : Bd g) : Bd fun m => f m * g m := by
  obtain ⟨B, hB, M, hM⟩ := h
  obtain ⟨C, hC, N, hN⟩ := k
  refine ⟨B * C, Rat.mul_pos hB hC, M + N, fun m hm => ?_⟩
  have a := hM m (by omega)
  have b := hN m (by omega)
  exact rat_mul a.1 a.2 b.1 b.2
theorem Bd.const (c : Rat) : Bd fun _ => c := by
  rcases Rat.le_total (a := 0) (b := c) with h | h
  · exact ⟨c + 1, by grind, 0, fun _ _ => by constructor <;> grind⟩
  · exact ⟨1 - c, by grind, 0, fun _ _ => by constructor <;> grind⟩
theorem Eqv.rfl : Eqv f f := Nul.zero.of fun m => by grind
theorem Eqv.symm (h : Eqv f g) : Eqv g f := (Nul.neg h).of fun m => by grind
theorem Eqv.trans {k : Nat → Rat} (h : Eqv f g) (h' : Eqv g k) : Eqv f k := (Nul.add h h').of fun m => by grind
theorem Eqv.of (e : ∀ m, f m = g m) : Eqv f g := Nul.zero.of fun m => by rw [e m]; grind
theorem Eqv.bd (h : Eqv f g) (k : Bd f) : Bd g := by
  obtain ⟨B, hB, M, hM⟩ := k.sub (Nul.bd h)
  refine ⟨B, hB, M, fun m hm => ?_⟩
  have a := hM m hm
  constructor <;> grind
theorem Eqv.add (h : Eqv f f') (k : Eqv g g') : Eqv (fun m => f m + g m) fun m => f' m + g' m := (Nul.add h k).of fun m => by grind
theorem Eqv.neg (h : Eqv f f') : Eqv (fun m => -f m) fun m => -f' m := (Nul.neg h).of fun m => by grind
theorem Eqv.sub (h : Eqv f f') (k : Eqv g g') : Eqv (fun m => f m - g m) fun m => f' m - g' m := (Nul.add h (Nul.neg k)).of fun m => by grind
theorem Eqv.mul (h : Eqv f f') (k : Eqv g g') (bf : Bd f) (bg : Bd g) : Eqv (fun m => f m * g m) fun m => f' m * g' m :=
  (Nul.add (Nul.mul (h.bd bf) k) (Nul.mul bg h)).of fun m => by grind
theorem Abv.of_eqv {d d' : Rat} (h : Abv d f) (k : Eqv f g) (hd : d' < d) : Abv d' g := by
  obtain ⟨M, hM⟩ := h
  obtain ⟨N, hN⟩ := k (d - d') (by grind)
  refine ⟨M + N, fun m hm => ?_⟩
  have a := hM m (by omega)
  have b := hN m (by omega)
  grind
theorem Abv.inv {d : Rat} (h0 : 0 < d) (h : Abv d f) : Bd fun m => (f m)⁻¹ := by
  obtain ⟨M, hM⟩ := h
  refine ⟨d⁻¹, Rat.inv_pos.2 h0, M, fun m hm => ?_⟩
  have a := hM m hm
  have p : 0 < f m := by grind
  have i := Rat.inv_pos.2 p
  have j := Rat.inv_pos.2 h0
  constructor
  · grind
  · refine Rat.le_of_mul_le_mul_right (c := f m) ?_ p
    have e1 : (f m)⁻¹ * f m = 1 := by grind
    have e2 := Rat.mul_le_mul_of_nonneg_left a (by grind : 0 ≤ d⁻¹)
    have e3 : d⁻¹ * d = 1 := by grind
    rw [e1]; grind
theorem Eqv.inv {d : Rat} (h0 : 0 < d) (lf : Abv d f) (lg : Abv d g) (h : Eqv f g) : Eqv (fun m => (f m)⁻¹) fun m => (g m)⁻¹ := by
  have k := Nul.mul ((lf.inv h0).mul (lg.inv h0)) (Nul.neg h)
  obtain ⟨M, hM⟩ := lf
  obtain ⟨N, hN⟩ := lg
  intro e he
  obtain ⟨L, hL⟩ := k e he
  refine ⟨L + M + N, fun m hm => ?_⟩
  have a := hL m (by omega)
  have b := hM m (by omega)
  have c := hN m (by omega)
  have e1 : (f m)⁻¹ * (g m)⁻¹ * -(f m - g m) = (f m)⁻¹ - (g m)⁻¹ := by
    have p : f m ≠ 0 := by grind
    have q : g m ≠ 0 := by grind
    grind
  dsimp only at a ⊢
  rw [e1] at a
  exact a
theorem Eqv.div {d : Rat} (h0 : 0 < d) (lg : Abv d g) (lg' : Abv d g') (h : Eqv f f') (k : Eqv g g') (bf : Bd f) : Eqv (fun m => f m / g m) fun m => f' m / g' m := by
  have r := Eqv.mul h (Eqv.inv h0 lg lg' k) bf (lg.inv h0)
  exact r.symm.symm.trans (Eqv.of fun m => (Rat.div_def _ _).symm) |> fun t => (Eqv.of fun m => Rat.div_def _ _).trans t
/-- Of two that are not below d together, whose squares are the same. -/
theorem root_same {d : Rat} (h0 : 0 < d) (l : Abv d fun m => f m + g m) (h : Eqv (fun m => f m * f m) fun m => g m * g m) : Eqv f g := by
  have k := Nul.mul (l.inv h0) h
  obtain ⟨M, hM⟩ := l
  intro e he
  obtain ⟨L, hL⟩ := k e he
  refine ⟨L + M, fun m hm => ?_⟩
  have a := hL m (by omega)
  have b := hM m (by omega)
  dsimp only at b
  have e1 : (f m + g m)⁻¹ * (f m * f m - g m * g m) = f m - g m := by
    have p : f m + g m ≠ 0 := by grind
    grind
  dsimp only at a ⊢
  rw [e1] at a
  exact a
end

/-- An interval has a rational number. -/
structure HasQ (r : Res) (x : Rat) : Prop where
  low : ((val r.lo : Int) : Rat) ≤ x * ((SS : Int) : Rat)
  high : x * ((SS : Int) : Rat) ≤ ((val r.hi : Int) : Rat)
theorem ssQ : (0 : Rat) < ((SS : Int) : Rat) := Rat.intCast_pos.2 SS0
theorem HasQ.ofV {r : Res} {P T : Int} (h : HasV r P T) : HasQ r ((T : Rat) / (P : Rat)) := by
  have p : (0 : Rat) < (P : Rat) := Rat.intCast_pos.2 h.pos
  have a := Rat.intCast_le_intCast.2 h.low
  have b := Rat.intCast_le_intCast.2 h.high
  rw [Rat.intCast_mul, Rat.intCast_mul] at a b
  have e : (T : Rat) / (P : Rat) * ((SS : Int) : Rat) * (P : Rat) = (T : Rat) * ((SS : Int) : Rat) := by grind
  exact ⟨Rat.le_of_mul_le_mul_right (by rw [e]; exact a) p, Rat.le_of_mul_le_mul_right (by rw [e]; exact b) p⟩
theorem num_den (x : Rat) : (x.num : Rat) / (((x.den : Nat) : Int) : Rat) = x := by rw [← Rat.divInt_eq_div]; exact Rat.num_divInt_den x
theorem HasQ.toV {r : Res} {x : Rat} (h : HasQ r x) : HasV r x.den x.num := by
  have d0 : (0 : Int) < ((x.den : Nat) : Int) := Int.natCast_pos.2 x.den_pos
  have p : (0 : Rat) < (((x.den : Nat) : Int) : Rat) := Rat.intCast_pos.2 d0
  have e := num_den x
  have e' : x * (((x.den : Nat) : Int) : Rat) = (x.num : Rat) := by rw [← e]; grind
  refine ⟨d0, ?_, ?_⟩
  · refine Rat.intCast_le_intCast.1 ?_
    rw [Rat.intCast_mul, Rat.intCast_mul, ← e']
    have := Rat.mul_le_mul_of_nonneg_right h.low (Rat.le_of_lt p)
    grind
  · refine Rat.intCast_le_intCast.1 ?_
    rw [Rat.intCast_mul, Rat.intCast_mul, ← e']
    have := Rat.mul_le_mul_of_nonneg_right h.high (Rat.le_of_lt p)
    grind
theorem HasQ.turn {r : Res} {x y : Rat} (h : HasQ r x) (e : x = y) : HasQ r y := e ▸ h
section
variable {r s : Res} {x y : Rat}
theorem den_ne (x : Rat) : (((x.den : Nat) : Int) : Rat) ≠ 0 := by
  have := Rat.intCast_pos.2 (Int.natCast_pos.2 x.den_pos)
  grind
theorem HasQ.add (fr : Fit r) (fs : Fit s) (h : HasQ r x) (k : HasQ s y) (he : (addR r s).e = 0) : HasQ (addR r s) (x + y) := by
  refine (HasQ.ofV (HasV.add fr fs h.toV k.toV he)).turn ?_
  have a := num_den x
  have b := num_den y
  have p := den_ne x
  have q := den_ne y
  rw [Rat.intCast_add, Rat.intCast_mul, Rat.intCast_mul, Rat.intCast_mul]
  generalize (x.num : Rat) = X at *
  generalize (y.num : Rat) = Y at *
  generalize (((x.den : Nat) : Int) : Rat) = P at *
  generalize (((y.den : Nat) : Int) : Rat) = Q at *
  subst a b
  grind
theorem HasQ.sub (fr : Fit r) (fs : Fit s) (h : HasQ r x) (k : HasQ s y) (he : (subR r s).e = 0) : HasQ (subR r s) (x - y) := by
  refine (HasQ.ofV (HasV.sub fr fs h.toV k.toV he)).turn ?_
  have a := num_den x
  have b := num_den y
  have p := den_ne x
  have q := den_ne y
  rw [Rat.intCast_sub, Rat.intCast_mul, Rat.intCast_mul, Rat.intCast_mul]
  generalize (x.num : Rat) = X at *
  generalize (y.num : Rat) = Y at *
  generalize (((x.den : Nat) : Int) : Rat) = P at *
  generalize (((y.den : Nat) : Int) : Rat) = Q at *
  subst a b
  grind
theorem HasQ.mul (fr : Fit r) (fs : Fit s) (h : HasQ r x) (k : HasQ s y) (he : (mulR r s).e = 0) : HasQ (mulR r s) (x * y) := by
  refine (HasQ.ofV (HasV.mul fr fs h.toV k.toV he)).turn ?_
  have a := num_den x
  have b := num_den y
  have p := den_ne x
  have q := den_ne y
  rw [Rat.intCast_mul, Rat.intCast_mul]
  generalize (x.num : Rat) = X at *
  generalize (y.num : Rat) = Y at *
  generalize (((x.den : Nat) : Int) : Rat) = P at *
  generalize (((y.den : Nat) : Int) : Rat) = Q at *
  subst a b
  grind
theorem HasQ.sqr (fr : Fit r) (h : HasQ r x) (he : (sqrR r).e = 0) : HasQ (sqrR r) (x * x) := by
  refine (HasQ.ofV (HasV.sqr fr h.toV he)).turn ?_
  have a := num_den x
  have p := den_ne x
  rw [Rat.intCast_mul, Rat.intCast_mul]
  generalize (x.num : Rat) = X at *
  generalize (((x.den : Nat) : Int) : Rat) = P at *
  subst a
  grind
theorem HasQ.div (fr : Fit r) (fs : Fit s) (h : HasQ r x) (k : HasQ s y) (hs : 0 < val s.lo) (he : (divR r s).e = 0) : HasQ (divR r s) (x / y) := by
  obtain ⟨u, v⟩ := HasV.div fr fs h.toV k.toV hs he
  refine (HasQ.ofV v).turn ?_
  have a := num_den x
  have b := num_den y
  have p := den_ne x
  have q := den_ne y
  have w : (y.num : Rat) ≠ 0 := by have := Rat.intCast_pos.2 u; grind
  rw [Rat.intCast_mul, Rat.intCast_mul]
  generalize (x.num : Rat) = X at *
  generalize (y.num : Rat) = Y at *
  generalize (((x.den : Nat) : Int) : Rat) = P at *
  generalize (((y.den : Nat) : Int) : Rat) = Q at *
  subst a b
  grind
end
theorem HasQ.one (x : Nat) : HasQ (oneR x) (((val x : Int) : Rat) / ((SS : Int) : Rat)) := HasQ.ofV (HasV.one x)
theorem HasQ.lit {x : Nat} {k : Int} {q : Rat} (h : val x = k * SS) (hq : q = (k : Rat)) : HasQ (oneR x) q := by
  have e : ((val x : Int) : Rat) = q * ((SS : Int) : Rat) := by rw [h, Rat.intCast_mul, hq]
  exact ⟨by show ((val x : Int) : Rat) ≤ _; rw [e]; exact Rat.le_refl, by show _ ≤ ((val x : Int) : Rat); rw [e]; exact Rat.le_refl⟩

/-- An interval has a sequence: one that differs by what goes to nothing lies within it. -/
def HasS (r : Res) (f : Nat → Rat) : Prop := ∃ f', (∀ m, HasQ r (f' m)) ∧ Eqv f' f
section
variable {r s : Res} {f g : Nat → Rat}
theorem HasS.turn (h : HasS r f) (e : Eqv f g) : HasS r g := by
  obtain ⟨f', a, b⟩ := h
  exact ⟨f', a, b.trans e⟩
theorem HasS.const {x : Rat} (h : HasQ r x) : HasS r fun _ => x := ⟨fun _ => x, fun _ => h, Eqv.rfl⟩
theorem hasQ_bd {f : Nat → Rat} (h : ∀ m, HasQ r (f m)) : Bd f := by
  have s := ssQ
  obtain ⟨B, hB⟩ : ∃ B : Rat, B = (((max (val r.lo).natAbs (val r.hi).natAbs : Nat) : Int) : Rat) / ((SS : Int) : Rat) := ⟨_, rfl⟩
  have e : B * ((SS : Int) : Rat) = (((max (val r.lo).natAbs (val r.hi).natAbs : Nat) : Int) : Rat) := by rw [hB]; grind
  have l : (((-(max (val r.lo).natAbs (val r.hi).natAbs : Nat) : Int)) : Rat) ≤ ((val r.lo : Int) : Rat) := Rat.intCast_le_intCast.2 (by omega)
  have u : ((val r.hi : Int) : Rat) ≤ (((max (val r.lo).natAbs (val r.hi).natAbs : Nat) : Int) : Rat) := Rat.intCast_le_intCast.2 (by omega)
  have b0 : (0 : Rat) ≤ (((max (val r.lo).natAbs (val r.hi).natAbs : Nat) : Int) : Rat) := Rat.intCast_nonneg.2 (by omega)
  rw [Rat.intCast_neg] at l
  rw [← e] at l u b0
  have B0 : 0 ≤ B := Rat.le_of_mul_le_mul_right (by rw [Rat.zero_mul]; exact b0) s
  refine ⟨B + 1, by grind, 0, fun m _ => ?_⟩
  have k := h m
  have k1 : f m ≤ B := Rat.le_of_mul_le_mul_right (Rat.le_trans k.high u) s
  have k2 : -B ≤ f m := Rat.le_of_mul_le_mul_right (by have := Rat.le_trans l k.low; grind) s
  constructor <;> grind
theorem HasS.bd (h : HasS r f) : Bd f := by
  obtain ⟨f', a, b⟩ := h
  exact b.bd (hasQ_bd a)
theorem HasS.add (fr : Fit r) (fs : Fit s) (h : HasS r f) (k : HasS s g) (he : (addR r s).e = 0) : HasS (addR r s) fun m => f m + g m := by
  obtain ⟨f', a, b⟩ := h
  obtain ⟨g', c, d⟩ := k
  exact ⟨_, fun m => (a m).add fr fs (c m) he, b.add d⟩
theorem HasS.sub (fr : Fit r) (fs : Fit s) (h : HasS r f) (k : HasS s g) (he : (subR r s).e = 0) : HasS (subR r s) fun m => f m - g m := by
  obtain ⟨f', a, b⟩ := h
  obtain ⟨g', c, d⟩ := k
  exact ⟨_, fun m => (a m).sub fr fs (c m) he, b.sub d⟩
theorem HasS.mul (fr : Fit r) (fs : Fit s) (h : HasS r f) (k : HasS s g) (he : (mulR r s).e = 0) : HasS (mulR r s) fun m => f m * g m := by
  obtain ⟨f', a, b⟩ := h
  obtain ⟨g', c, d⟩ := k
  exact ⟨_, fun m => (a m).mul fr fs (c m) he, b.mul d (hasQ_bd a) (hasQ_bd c)⟩
theorem HasS.sqr (fr : Fit r) (h : HasS r f) (he : (sqrR r).e = 0) : HasS (sqrR r) fun m => f m * f m := by
  obtain ⟨f', a, b⟩ := h
  exact ⟨_, fun m => (a m).sqr fr he, b.mul b (hasQ_bd a) (hasQ_bd a)⟩
/-- Half of its least end bounds what an interval above 0 has. -/
theorem HasS.abv (h : HasS r f) (hs : 0 < val r.lo) : ∃ d : Rat, 0 < d ∧ Abv d f := by
  obtain ⟨f', a, b⟩ := h
  have s := ssQ
  have p : (0 : Rat) < ((val r.lo : Int) : Rat) := Rat.intCast_pos.2 hs
  obtain ⟨B, hB⟩ : ∃ B : Rat, B = ((val r.lo : Int) : Rat) / ((SS : Int) : Rat) := ⟨_, rfl⟩
  have e : B * ((SS : Int) : Rat) = ((val r.lo : Int) : Rat) := by rw [hB]; grind
  have B0 : 0 < B := by
    rw [hB, Rat.div_def]
    exact Rat.mul_pos p (Rat.inv_pos.2 s)
  refine ⟨B / 2, by grind, Abv.of_eqv (d := B) ⟨0, fun m _ => ?_⟩ b (by grind)⟩
  exact Rat.le_of_mul_le_mul_right (by rw [e]; exact (a m).low) s
theorem HasS.div (fr : Fit r) (fs : Fit s) (h : HasS r f) (k : HasS s g) (hs : 0 < val s.lo) (he : (divR r s).e = 0) : HasS (divR r s) fun m => f m / g m := by
  obtain ⟨d1, p1, q1⟩ := k.abv hs
  obtain ⟨f', a, b⟩ := h
  obtain ⟨g', c, d⟩ := k
  obtain ⟨d2, p2, q2⟩ := HasS.abv (⟨g', c, Eqv.rfl⟩ : HasS s g') hs
  have low : ∀ {x y : Rat} {k : Nat → Rat}, x ≤ y → Abv y k → Abv x k := fun hxy ⟨M, hM⟩ => ⟨M, fun m hm => Rat.le_trans hxy (hM m hm)⟩
  rcases Rat.le_total (a := d1) (b := d2) with t | t
  · exact ⟨_, fun m => (a m).div fr fs (c m) hs he, b.div p1 (low t q2) q1 d (hasQ_bd a)⟩
  · exact ⟨_, fun m => (a m).div fr fs (c m) hs he, b.div p2 q2 (low t q1) d (hasQ_bd a)⟩
/-- Two that have the same have a number in common. -/
theorem HasS.meet (h : HasS r f) (k : HasS s f) : val r.lo ≤ val s.hi ∧ val s.lo ≤ val r.hi := by
  have key : ∀ {r s : Res}, HasS r f → HasS s f → val r.lo ≤ val s.hi := fun {r s} h k => by
    obtain ⟨f', a, b⟩ := h
    obtain ⟨g', c, d⟩ := k
    have S := ssQ
    obtain ⟨E, hE⟩ : ∃ E : Rat, E = (1 / 2) / ((SS : Int) : Rat) := ⟨_, rfl⟩
    have e : E * ((SS : Int) : Rat) = 1 / 2 := by rw [hE]; grind
    have E0 : 0 < E := by
      rw [hE, Rat.div_def]
      exact Rat.mul_pos (by grind) (Rat.inv_pos.2 S)
    obtain ⟨M, hM⟩ := (b.trans d.symm) E E0
    have m1 := hM M (Nat.le_refl _)
    have l := (a M).low
    have u := (c M).high
    have t := Rat.mul_le_mul_of_nonneg_right (by grind : f' M ≤ g' M + E) (Rat.le_of_lt S)
    rw [Rat.add_mul, e] at t
    clear hE e E0 hM m1
    generalize ((SS : Int) : Rat) = S' at *
    have n : ((val r.lo : Int) : Rat) ≤ ((val s.hi : Int) : Rat) + 1 / 2 := by grind
    have n' : ((val r.lo : Int) : Rat) < (((val s.hi + 1 : Int)) : Rat) := by
      rw [Rat.intCast_add]
      grind
    have := Rat.intCast_lt_intCast.1 n'
    omega
  exact ⟨key h k, key k h⟩
end

/-- A root, but for e. -/
theorem root_near {x e : Rat} (hx : 0 ≤ x) (he : 0 < e) : ∃ y : Rat, 0 ≤ y ∧ y * y ≤ x ∧ x ≤ y * y + e := by
  obtain ⟨h, h0, h1, h2⟩ : ∃ h : Rat, 0 < h ∧ h ≤ 1 ∧ (2 * x + 3) * h ≤ e := by
    have p : 0 < 2 * x + 3 := by grind
    have q : 0 < e / (2 * x + 3) := by rw [Rat.div_def]; exact Rat.mul_pos he (Rat.inv_pos.2 p)
    rcases Rat.le_total (a := e / (2 * x + 3)) (b := 1) with g | g
    · refine ⟨_, q, g, ?_⟩
      have e1 : (2 * x + 3) * (e / (2 * x + 3)) = e := by grind
      rw [e1]; exact Rat.le_refl
    · refine ⟨1, by grind, by grind, ?_⟩
      have t := Rat.mul_le_mul_of_nonneg_right g (Rat.le_of_lt p)
      have e1 : e / (2 * x + 3) * (2 * x + 3) = e := by grind
      rw [e1] at t
      grind
  have step : ∀ K : Nat, x < ((K : Rat) * h) * ((K : Rat) * h) → ∃ k : Nat, ((k : Rat) * h) * ((k : Rat) * h) ≤ x ∧ x < (((k + 1 : Nat) : Rat) * h) * (((k + 1 : Nat) : Rat) * h) := by
    intro K
    induction K with
    | zero => intro hK; have e0 : ((0 : Nat) : Rat) = 0 := rfl; rw [e0] at hK; grind
    | succ K ih =>
      intro hK
      rcases Rat.le_total (a := ((K : Rat) * h) * ((K : Rat) * h)) (b := x) with g | g
      · exact ⟨K, g, hK⟩
      · by_cases g' : ((K : Rat) * h) * ((K : Rat) * h) = x
        · exact ⟨K, by grind, hK⟩
        · exact ih (by grind)
  have big : ∃ K : Nat, x < ((K : Rat) * h) * ((K : Rat) * h) := by
    refine ⟨((x + 1) / h).ceil.toNat, ?_⟩
    have c := Rat.le_ceil (x := (x + 1) / h)
    have q : 0 < (x + 1) / h := by rw [Rat.div_def]; exact Rat.mul_pos (by grind) (Rat.inv_pos.2 h0)
    have c0 : 0 < ((x + 1) / h).ceil := Rat.intCast_pos.1 (by grind)
    have cn : ((((x + 1) / h).ceil.toNat : Nat) : Rat) = ((((x + 1) / h).ceil : Int) : Rat) := by
      rw [← Rat.intCast_natCast, Int.toNat_of_nonneg (Int.le_of_lt c0)]
    rw [cn]
    generalize ((((x + 1) / h).ceil : Int) : Rat) = C at *
    have t := Rat.mul_le_mul_of_nonneg_right c (Rat.le_of_lt h0)
    have t1 : (x + 1) / h * h = x + 1 := by grind
    rw [t1] at t
    have t2 := Rat.mul_nonneg (by grind : 0 ≤ C * h - (x + 1)) (by grind : 0 ≤ C * h + (x + 1))
    have t3 := Rat.mul_nonneg hx hx
    grind
  obtain ⟨K, hK⟩ := big
  obtain ⟨k, k1, k2⟩ := step K hK
  have ek : ((k + 1 : Nat) : Rat) = (k : Rat) + 1 := by rw [Rat.natCast_add]; rfl
  rw [ek] at k2
  have k0 : (0 : Rat) ≤ (k : Rat) := Rat.natCast_nonneg
  generalize (k : Rat) = c at *
  have y0 := Rat.mul_nonneg k0 (Rat.le_of_lt h0)
  refine ⟨c * h, y0, k1, ?_⟩
  have e2 : (c + 1) * h * ((c + 1) * h) = c * h * (c * h) + (2 * (c * h) + h) * h := by grind
  rw [e2] at k2
  generalize c * h = y at *
  have yx : y ≤ x + 1 := by
    rcases Rat.le_total (a := y) (b := x + 1) with g | g
    · exact g
    · have := Rat.mul_nonneg (by grind : 0 ≤ y - (x + 1)) (by grind : 0 ≤ y + (x + 1))
      have := Rat.mul_nonneg hx hx
      grind
  have t := Rat.mul_le_mul_of_nonneg_right (by grind : 2 * y + h ≤ 2 * x + 3) (Rat.le_of_lt h0)
  grind

theorem rows_nil {f : Nat → Rat} (h : ∀ m : Nat, -(((m : Rat) + 1)⁻¹) ≤ f m ∧ f m ≤ ((m : Rat) + 1)⁻¹) : Nul f := fun e he => by
  refine ⟨(e⁻¹).ceil.toNat, fun m hm => ?_⟩
  have i0 := Rat.inv_pos.2 he
  have c := Rat.le_ceil (x := e⁻¹)
  have c0 : 0 < (e⁻¹).ceil := Rat.intCast_pos.1 (by grind)
  have cm : ((e⁻¹).ceil : Int) ≤ (m : Int) := by omega
  have cq : (((e⁻¹).ceil : Int) : Rat) ≤ (m : Rat) := by
    have := Rat.intCast_le_intCast.2 cm
    rw [Rat.intCast_natCast] at this; exact this
  have mp : 0 < (m : Rat) + 1 := by
    have : (0 : Rat) ≤ (m : Rat) := Rat.natCast_nonneg
    grind
  have k := h m
  have key : ((m : Rat) + 1)⁻¹ ≤ e := by
    refine Rat.le_of_mul_le_mul_right (c := (m : Rat) + 1) ?_ mp
    have e1 : ((m : Rat) + 1)⁻¹ * ((m : Rat) + 1) = 1 := by grind
    have e2 := Rat.mul_le_mul_of_nonneg_left (by grind : e⁻¹ ≤ (m : Rat) + 1) (Rat.le_of_lt he)
    have e3 : e * e⁻¹ = 1 := by grind
    rw [e1]; grind
  constructor <;> grind

theorem HasQ.root_fit {r : Res} (fr : Fit r) (he : (sqrtR r).e = 0) : Fit (sqrtR r) := (root_in (.refl fr) fr he).fit
/-- Within the interval of the root of what has x, near a root of x. -/
theorem rootQ_in {r : Res} {x e : Rat} (fr : Fit r) (h : HasQ r x) (he : (sqrtR r).e = 0) (h0 : 0 < e) : ∃ y : Rat, HasQ (sqrtR r) y ∧ 0 ≤ y ∧ -e ≤ y * y - x ∧ y * y - x ≤ e := by
  obtain ⟨p0, ⟨p1, p2, _⟩, q1, q2, _⟩ := sqrt_parts fr he
  have S := ssQ
  have l0 := Rat.intCast_nonneg.2 p0
  have a1 := Rat.intCast_nonneg.2 p1
  have b1 := Rat.intCast_nonneg.2 q1
  have a2 := Rat.intCast_le_intCast.2 p2
  have b2 := Rat.intCast_le_intCast.2 q2
  rw [Rat.intCast_mul, Rat.intCast_mul] at a2 b2
  have fs : val (sqrtR r).lo ≤ val (sqrtR r).hi := (HasQ.root_fit fr he).le
  have fs' := Rat.intCast_le_intCast.2 fs
  have hl := h.low
  have hh := h.high
  have x0 : 0 ≤ x := by
    refine Rat.le_of_mul_le_mul_right (c := ((SS : Int) : Rat)) ?_ S
    rw [Rat.zero_mul]; exact Rat.le_trans l0 hl
  obtain ⟨y, y0, y1, y2⟩ := root_near x0 h0
  generalize hL : ((val (sqrtR r).lo : Int) : Rat) = L at *
  generalize hU : ((val (sqrtR r).hi : Int) : Rat) = U at *
  generalize ((val r.lo : Int) : Rat) = lo at *
  generalize ((val r.hi : Int) : Rat) = hi at *
  generalize hS : ((SS : Int) : Rat) = s at *
  -- the ends' squares lie about x
  have t1 : L * L ≤ x * s * s := Rat.le_trans a2 (Rat.mul_le_mul_of_nonneg_right hl (Rat.le_of_lt S))
  have t2 : x * s * s ≤ U * U := Rat.le_trans (Rat.mul_le_mul_of_nonneg_right hh (Rat.le_of_lt S)) b2
  have div : ∀ T : Rat, T / s * s = T := fun T => by grind
  have le_of : ∀ {A B : Rat}, A * (s * s) ≤ B * (s * s) → A ≤ B := fun h => Rat.le_of_mul_le_mul_right h (Rat.mul_pos S S)
  rcases Rat.le_total (a := y * s) (b := L) with g | g
  · refine ⟨L / s, ⟨by rw [hS, hL, div]; exact Rat.le_refl, by rw [hS, hU, div]; exact fs'⟩, ?_, ?_, ?_⟩
    · refine Rat.le_of_mul_le_mul_right (c := s) ?_ S
      rw [Rat.zero_mul, div]; exact a1
    · have k : y * y ≤ L / s * (L / s) := le_of (by
        have e1 : L / s * (L / s) * (s * s) = L * L := by grind
        rw [e1]
        have := Rat.mul_nonneg (by grind : 0 ≤ L - y * s) (by have := Rat.mul_nonneg y0 (Rat.le_of_lt S); grind : 0 ≤ L + y * s)
        grind)
      grind
    · have k : L / s * (L / s) ≤ x := le_of (by
        have e1 : L / s * (L / s) * (s * s) = L * L := by grind
        rw [e1]; grind)
      grind
  · rcases Rat.le_total (a := y * s) (b := U) with g' | g'
    · exact ⟨y, ⟨by rw [hS, hL]; exact g, by rw [hS, hU]; exact g'⟩, y0, by grind, by grind⟩
    · refine ⟨U / s, ⟨by rw [hS, hL, div]; exact fs', by rw [hS, hU, div]; exact Rat.le_refl⟩, ?_, ?_, ?_⟩
      · refine Rat.le_of_mul_le_mul_right (c := s) ?_ S
        rw [Rat.zero_mul, div]; exact b1
      · have k : x ≤ U / s * (U / s) := le_of (by
          have e1 : U / s * (U / s) * (s * s) = U * U := by grind
          rw [e1]; grind)
        grind
      · have k : U / s * (U / s) ≤ y * y := le_of (by
          have e1 : U / s * (U / s) * (s * s) = U * U := by grind
          rw [e1]
          have := Rat.mul_nonneg (by grind : 0 ≤ y * s - U) (by grind : 0 ≤ y * s + U)
          grind)
        grind
theorem HasS.sqrt {r : Res} {f : Nat → Rat} (fr : Fit r) (h : HasS r f) (he : (sqrtR r).e = 0) : ∃ y : Nat → Rat, HasS (sqrtR r) y ∧ (∀ m, 0 ≤ y m) ∧ Eqv (fun m => y m * y m) f := by
  obtain ⟨f', a, b⟩ := h
  have ex : ∀ m : Nat, ∃ y : Rat, HasQ (sqrtR r) y ∧ 0 ≤ y ∧ -(((m : Rat) + 1)⁻¹) ≤ y * y - f' m ∧ y * y - f' m ≤ ((m : Rat) + 1)⁻¹ := fun m =>
    rootQ_in fr (a m) he (Rat.inv_pos.2 (by have : (0 : Rat) ≤ (m : Rat) := Rat.natCast_nonneg; grind))
  refine ⟨fun m => Classical.choose (ex m), ⟨_, fun m => (Classical.choose_spec (ex m)).1, Eqv.rfl⟩, fun m => (Classical.choose_spec (ex m)).2.1, Eqv.trans ?_ b⟩
  exact rows_nil fun m => (Classical.choose_spec (ex m)).2.2
end Go.Proofs.Ytdppppaoflhgdaa

namespace Go.Proofs.Ytdppppaoflhgdaa
open Go.RowKit

/-- What of a rational number is from 0 to 1. -/
def clampQ (x : Rat) : Rat := if x ≤ 0 then 0 else if 1 ≤ x then 1 else x
theorem HasQ.clamp {r : Res} {x : Rat} (fr : Fit r) (h : HasQ r x) : HasQ (clampR r) (clampQ x) := by
  obtain ⟨_, _, x3⟩ := clamp_facts fr.lo fr.rlo
  obtain ⟨_, _, y3⟩ := clamp_facts fr.hi fr.rhi
  have e1 : (clampR r).lo = clampW r.lo := rfl
  have e2 : (clampR r).hi = clampW r.hi := rfl
  have us : val u1 = SS := by decide +kernel
  have S := ssQ
  have s0 := SS0
  rw [us] at x3 y3
  have hl := h.low
  have hh := h.high
  unfold clampQ
  by_cases g : x ≤ 0
  · rw [if_pos g]
    have t := Rat.mul_le_mul_of_nonneg_right g (Rat.le_of_lt S)
    rw [Rat.zero_mul] at t
    have l0 : val r.lo ≤ 0 := Rat.intCast_le_intCast.1 (by exact Rat.le_trans hl t)
    refine ⟨?_, ?_⟩
    · rw [e1, x3, Rat.zero_mul]; exact Rat.intCast_le_intCast.2 (by omega : min (max (val r.lo) 0) SS ≤ 0)
    · rw [e2, y3, Rat.zero_mul]; exact Rat.intCast_le_intCast.2 (by omega : 0 ≤ min (max (val r.hi) 0) SS)
  · rw [if_neg g]
    by_cases k : 1 ≤ x
    · rw [if_pos k]
      have t := Rat.mul_le_mul_of_nonneg_right k (Rat.le_of_lt S)
      rw [Rat.one_mul] at t
      have l0 : SS ≤ val r.hi := Rat.intCast_le_intCast.1 (by exact Rat.le_trans t hh)
      refine ⟨?_, ?_⟩
      · rw [e1, x3, Rat.one_mul]; exact Rat.intCast_le_intCast.2 (by omega : min (max (val r.lo) 0) SS ≤ SS)
      · rw [e2, y3, Rat.one_mul]; exact Rat.intCast_le_intCast.2 (by omega : SS ≤ min (max (val r.hi) 0) SS)
    · rw [if_neg k]
      have g0 : 0 ≤ x := by grind
      have t0 := Rat.mul_nonneg g0 (Rat.le_of_lt S)
      have t1 := Rat.mul_le_mul_of_nonneg_right (by grind : x ≤ 1) (Rat.le_of_lt S)
      rw [Rat.one_mul] at t1
      refine ⟨?_, ?_⟩
      · rw [e1, x3]
        rcases Int.le_total (val r.lo) 0 with c | c
        · rw [show min (max (val r.lo) 0) SS = 0 by omega]; exact t0
        · refine Rat.le_trans (Rat.intCast_le_intCast.2 (by omega : min (max (val r.lo) 0) SS ≤ val r.lo)) hl
      · rw [e2, y3]
        rcases Int.le_total SS (val r.hi) with c | c
        · rw [show min (max (val r.hi) 0) SS = SS by omega]; exact t1
        · refine Rat.le_trans hh (Rat.intCast_le_intCast.2 (by omega : val r.hi ≤ min (max (val r.hi) 0) SS))
theorem HasS.clamp {r : Res} {f : Nat → Rat} (fr : Fit r) (h : HasS r f) (h0 : ∀ m, 0 ≤ f m) (h1 : ∀ m, f m ≤ 1) : HasS (clampR r) f := by
  obtain ⟨f', a, b⟩ := h
  refine ⟨fun m => clampQ (f' m), fun m => (a m).clamp fr, fun e he => ?_⟩
  obtain ⟨M, hM⟩ := b e he
  refine ⟨M, fun m hm => ?_⟩
  have k := hM m hm
  have k0 := h0 m
  have k1 := h1 m
  dsimp only at k ⊢
  unfold clampQ
  split
  · constructor <;> grind
  · split <;> constructor <;> grind
/-- A square of a quotient that is no more than 1. -/
theorem quo_sqr {a b : Rat} (h1 : a ≤ b) (h2 : -b ≤ a) : a / b * (a / b) ≤ 1 := by
  by_cases h : b = 0
  · have : a = 0 := by grind
    subst this
    rw [h]
    have : (0 : Rat) / 0 = 0 := by grind
    rw [this]; grind
  · have b0 : 0 < b := by grind
    have bb := Rat.mul_pos b0 b0
    refine Rat.le_of_mul_le_mul_right (c := b * b) ?_ bb
    have e : a / b * (a / b) * (b * b) = a * a := by grind
    rw [e, Rat.one_mul]
    have := Rat.mul_nonneg (by grind : 0 ≤ b - a) (by grind : 0 ≤ b + a)
    grind
theorem sqr_nonneg (a : Rat) : 0 ≤ a * a := by
  rcases Rat.le_total (a := 0) (b := a) with g | g
  · exact Rat.mul_nonneg g g
  · have := Rat.mul_nonneg (by grind : 0 ≤ -a) (by grind : 0 ≤ -a)
    grind

/-- The intervals of the law. -/
def Sn.a (c : Res) : Res := sqrR c
def Sn.b (c : Res) : Res := subR (oneR 4607182418800017408) (Sn.a c)
def Sn.d (n : Res) : Res := sqrR n
def Sn.g (c n : Res) : Res := divR (Sn.b c) (Sn.d n)
def Sn.i (c n : Res) : Res := subR (oneR 4607182418800017408) (Sn.g c n)
def Sn.s (c n : Res) : Res := sqrtR (Sn.i c n)
def Sn.j (c n : Res) : Res := mulR n (Sn.s c n)
def Sn.k (c n : Res) : Res := subR c (Sn.j c n)
def Sn.l (c n : Res) : Res := addR c (Sn.j c n)
def Sn.m (c n : Res) : Res := divR (Sn.k c n) (Sn.l c n)
def Sn.o (c n : Res) : Res := sqrR (Sn.m c n)
def Sn.q (c n : Res) : Res := mulR n c
def Sn.r (c n : Res) : Res := subR (Sn.q c n) (Sn.s c n)
def Sn.t (c n : Res) : Res := addR (Sn.q c n) (Sn.s c n)
def Sn.u (c n : Res) : Res := divR (Sn.r c n) (Sn.t c n)
def Sn.v (c n : Res) : Res := sqrR (Sn.u c n)
def Sn.x (c n : Res) : Res := addR (Sn.o c n) (Sn.v c n)
def Sn.y (c n : Res) : Res := mulR (oneR 4602678819172646912) (Sn.x c n)
structure Sn.Ins (c n C N : Res) : Prop where
  a' : In (Sn.a c) (Sn.a C)
  b' : In (Sn.b c) (Sn.b C)
  d' : In (Sn.d n) (Sn.d N)
  g' : In (Sn.g c n) (Sn.g C N)
  i' : In (Sn.i c n) (Sn.i C N)
  s' : In (Sn.s c n) (Sn.s C N)
  j' : In (Sn.j c n) (Sn.j C N)
  k' : In (Sn.k c n) (Sn.k C N)
  l' : In (Sn.l c n) (Sn.l C N)
  m' : In (Sn.m c n) (Sn.m C N)
  o' : In (Sn.o c n) (Sn.o C N)
  q' : In (Sn.q c n) (Sn.q C N)
  r' : In (Sn.r c n) (Sn.r C N)
  t' : In (Sn.t c n) (Sn.t C N)
  u' : In (Sn.u c n) (Sn.u C N)
  v' : In (Sn.v c n) (Sn.v C N)
  x' : In (Sn.x c n) (Sn.x C N)
  y' : In (Sn.y c n) (Sn.y C N)
def Sn.ok (C N : Res) : Bool := fitB (Sn.a C) && fitB (Sn.b C) && fitB (Sn.d N) && fitB (Sn.g C N) && fitB (Sn.i C N) && fitB (Sn.s C N) && fitB (Sn.j C N) && fitB (Sn.k C N) && fitB (Sn.l C N) && fitB (Sn.m C N) && fitB (Sn.o C N) && fitB (Sn.q C N) && fitB (Sn.r C N) && fitB (Sn.t C N) && fitB (Sn.u C N) && fitB (Sn.v C N) && fitB (Sn.x C N) && fitB (Sn.y C N)
theorem sn_ok : Sn.ok bigC bigN = true := by decide +kernel
theorem sn_lows : 0 < val (Sn.d bigN).lo ∧ 0 < val (Sn.l bigC bigN).lo ∧ 0 < val (Sn.t bigC bigN).lo ∧ 0 < val (Di.g bigC bigN).lo := by decide +kernel
theorem Sn.ins {c n : Res} (ic : In c bigC) (i_n : In n bigN) : Sn.Ins c n bigC bigN := by
  have ok := sn_ok
  unfold Sn.ok at ok
  simp only [Bool.and_eq_true] at ok
  obtain ⟨⟨⟨⟨⟨⟨⟨⟨⟨⟨⟨⟨⟨⟨⟨⟨⟨a, b⟩, d⟩, g⟩, i⟩, s⟩, j⟩, k⟩, l⟩, m⟩, o⟩, q⟩, r⟩, t⟩, u⟩, v⟩, x⟩, y⟩ := ok
  have fC : Fit bigC := .of (by decide +kernel)
  have fN : Fit bigN := .of (by decide +kernel)
  have one : Fit (oneR 4607182418800017408) := one_fit (by decide) (by decide)
  have half : Fit (oneR 4602678819172646912) := one_fit (by decide) (by decide)
  have a' : In (Sn.a c) (Sn.a bigC) := sqr_in ic fC (Fit.of a).e
  have b' : In (Sn.b c) (Sn.b bigC) := sub_in (.refl one) one a' (.of a) (Fit.of b).e
  have d' : In (Sn.d n) (Sn.d bigN) := sqr_in i_n fN (Fit.of d).e
  have g' : In (Sn.g c n) (Sn.g bigC bigN) := div_in b' (.of b) d' (.of d) (Fit.of g).e
  have i' : In (Sn.i c n) (Sn.i bigC bigN) := sub_in (.refl one) one g' (.of g) (Fit.of i).e
  have s' : In (Sn.s c n) (Sn.s bigC bigN) := root_in i' (.of i) (Fit.of s).e
  have j' : In (Sn.j c n) (Sn.j bigC bigN) := mul_in i_n fN s' (.of s) (Fit.of j).e
  have k' : In (Sn.k c n) (Sn.k bigC bigN) := sub_in ic fC j' (.of j) (Fit.of k).e
  have l' : In (Sn.l c n) (Sn.l bigC bigN) := add_in ic fC j' (.of j) (Fit.of l).e
  have m' : In (Sn.m c n) (Sn.m bigC bigN) := div_in k' (.of k) l' (.of l) (Fit.of m).e
  have o' : In (Sn.o c n) (Sn.o bigC bigN) := sqr_in m' (.of m) (Fit.of o).e
  have q' : In (Sn.q c n) (Sn.q bigC bigN) := mul_in i_n fN ic fC (Fit.of q).e
  have r' : In (Sn.r c n) (Sn.r bigC bigN) := sub_in q' (.of q) s' (.of s) (Fit.of r).e
  have t' : In (Sn.t c n) (Sn.t bigC bigN) := add_in q' (.of q) s' (.of s) (Fit.of t).e
  have u' : In (Sn.u c n) (Sn.u bigC bigN) := div_in r' (.of r) t' (.of t) (Fit.of u).e
  have v' : In (Sn.v c n) (Sn.v bigC bigN) := sqr_in u' (.of u) (Fit.of v).e
  have x' : In (Sn.x c n) (Sn.x bigC bigN) := add_in o' (.of o) v' (.of v) (Fit.of x).e
  exact ⟨a', b', d', g', i', s', j', k', l', m', o', q', r', t', u', v', x', mul_in (.refl half) half x' (.of x) (Fit.of y).e⟩

theorem near_eq (C N x : Rat) : C * (x * x - (N * N - 1 + C * C)) = (x - C) * (C * (x + C) - 1) - (N * N * C - x) := by grind
theorem near_eq' (C N x : Rat) : C * (x * x - (N * N - 1 + C * C)) = (x + C) * (C * (x - C) + 1) - (N * N * C + x) := by grind
theorem Bd.of {f g : Nat → Rat} (h : Bd f) (e : ∀ m, f m = g m) : Bd g := by
  have : f = g := funext e
  rw [← this]; exact h
theorem sn_eq {N : Rat} (h : N ≠ 0) (C x : Rat) : N * N * (x * x - (1 - (1 - C * C) / (N * N))) = N * x * (N * x) - (N * N - 1 + C * C) := by grind
theorem by_eq {N : Rat} (h : N ≠ 0) (x y : Rat) : N⁻¹ * (N * x - y) = x - y / N := by grind
theorem div_div (a b c d : Rat) : a * b / (c * d) = a / c * (b / d) := by
  by_cases hc : c = 0
  · subst hc
    rw [Rat.zero_mul]; grind
  · by_cases hd : d = 0
    · subst hd
      rw [Rat.mul_zero]; grind
    · grind
theorem eq1 {N : Rat} (h : N ≠ 0) (C x : Rat) : (C - N * (x / N)) / (C + N * (x / N)) = -((x - C) / (x + C)) := by
  have e2 : N * (x / N) = x := by grind
  rw [e2, show C - x = -(x - C) by grind, show C + x = x + C by grind, Rat.div_def, Rat.div_def]
  grind
theorem eq3 {N : Rat} (h : N ≠ 0) (C x : Rat) : (N * C - x / N) / (N * C + x / N) = (N * N * C - x) / (N * N * C + x) := by
  have a1 : N * N * C - x = (N * C - x / N) * N := by grind
  have a2 : N * N * C + x = (N * C + x / N) * N := by grind
  rw [a1, a2, div_div]
  have e : N / N = 1 := by grind
  rw [e, Rat.mul_one]
theorem fin_eq (P Q A : Rat) : 1 / 2 * (P * Q * (P * Q) - A * A) = 1 / 2 * (P * P) * (1 + Q * Q) - 1 / 2 * (-P * -P + A * A) := by grind
/-- Both have the same sequence. -/
theorem snell_meet {c n : Nat} (ic : In (oneR c) bigC) (i_n : In (oneR n) bigN) :
    val (Di.out (oneR c) (oneR n)).lo ≤ val (Sn.y (oneR c) (oneR n)).hi ∧ val (Sn.y (oneR c) (oneR n)).lo ≤ val (Di.out (oneR c) (oneR n)).hi := by
  have P := Di.parts Di.big ic i_n
  have D := P.fits ic.fit i_n.fit
  have I := Sn.ins ic i_n
  obtain ⟨l1, l2, l3, l4⟩ := sn_lows
  obtain ⟨w1, w2⟩ := di_lows
  have one : Fit (oneR 4607182418800017408) := one_fit (by decide) (by decide)
  have half : Fit (oneR 4602678819172646912) := one_fit (by decide) (by decide)
  have S := ssQ
  have hc := HasQ.one c
  have hn := HasQ.one n
  have h1 : HasQ (oneR 4607182418800017408) 1 := HasQ.lit (k := 1) (by decide +kernel) rfl
  have h2 : HasQ (oneR 4602678819172646912) (1 / 2) := by
    refine (HasQ.ofV (r := oneR 4602678819172646912) (P := 2) (T := 1) ⟨by decide, by decide +kernel, by decide +kernel⟩).turn ?_
    rfl
  have c0 : 0 ≤ ((val c : Int) : Rat) / ((SS : Int) : Rat) := by
    rw [Rat.div_def]
    exact Rat.mul_nonneg (Rat.intCast_nonneg.2 (by have h : val bigC.lo ≤ val c := ic.lo; have e : val bigC.lo = 0 := (by decide +kernel); omega)) (Rat.le_of_lt (Rat.inv_pos.2 S))
  have c1 : ((val c : Int) : Rat) / ((SS : Int) : Rat) ≤ 1 := by
    refine Rat.le_of_mul_le_mul_right (c := ((SS : Int) : Rat)) ?_ S
    have e : ((val c : Int) : Rat) / ((SS : Int) : Rat) * ((SS : Int) : Rat) = ((val c : Int) : Rat) := by grind
    rw [e, Rat.one_mul]
    exact Rat.intCast_le_intCast.2 (by have h : val c ≤ val bigC.hi := ic.hi; have e : val bigC.hi = SS := (by decide +kernel); omega)
  have n0 : 0 < ((val n : Int) : Rat) / ((SS : Int) : Rat) := by
    rw [Rat.div_def]
    exact Rat.mul_pos (Rat.intCast_pos.2 (by have h : val bigN.lo ≤ val n := i_n.lo; have e : 0 < val bigN.lo := (by decide +kernel); omega)) (Rat.inv_pos.2 S)
  generalize ((val c : Int) : Rat) / ((SS : Int) : Rat) = C at *
  generalize ((val n : Int) : Rat) / ((SS : Int) : Rat) = N at *
  -- the program's
  have q2 := HasQ.sqr i_n.fit hn D.s2'.e
  have q3 := HasQ.sub D.s2' one q2 h1 D.s3'.e
  have q4 := HasQ.sqr ic.fit hc D.s4'.e
  have q5 := HasQ.add D.s3' D.s4' q3 q4 D.s5'.e
  obtain ⟨g, hg, g0, gg⟩ := HasS.sqrt D.s5' (HasS.const q5) D.g'.e
  have sc := HasS.const hc
  have sn := HasS.const hn
  have s1 := HasS.const h1
  have sh := HasS.const h2
  have more := HasS.add D.g' D.fc hg sc D.more'.e
  have less := HasS.sub D.g' D.fc hg sc D.less'.e
  have m0 : 0 < val (Di.more (oneR c) (oneR n)).lo := by have := P.more'.lo; omega
  have u0 : 0 < val (Di.under (oneR c) (oneR n)).lo := by have := P.under'.lo; omega
  have pq := HasS.div D.less' D.more' less more m0 D.pq'.e
  have p := HasS.sqr D.pq' pq D.p'.e
  have m11 := HasS.mul D.fc D.more' sc more D.m11'.e
  have over := HasS.sub D.m11' one m11 s1 D.over'.e
  have m13 := HasS.mul D.fc D.less' sc less D.m13'.e
  have under := HasS.add D.m13' one m13 s1 D.under'.e
  have qq := HasS.div D.over' D.under' over under u0 D.qq'.e
  have q := HasS.sqr D.qq' qq D.q'.e
  have hp := HasS.mul half D.p' sh p D.hp'.e
  have oq := HasS.add one D.q' s1 q D.oq'.e
  have f := HasS.mul D.hp' D.oq' hp oq D.f'.e
  have out := HasS.clamp D.f' f (fun m => by
      have a := sqr_nonneg ((g m - C) / (g m + C))
      have b := sqr_nonneg ((C * (g m + C) - 1) / (C * (g m - C) + 1))
      exact Rat.mul_nonneg (Rat.mul_nonneg (by grind) a) (by grind)) (fun m => by
      have k := g0 m
      have a := quo_sqr (a := g m - C) (b := g m + C) (by grind) (by grind)
      have cg := Rat.mul_nonneg c0 k
      have cc := Rat.mul_nonneg (by grind : 0 ≤ 1 - C) (by grind : 0 ≤ 1 + C)
      have b := quo_sqr (a := C * (g m + C) - 1) (b := C * (g m - C) + 1) (by grind) (by grind)
      have a' := sqr_nonneg ((g m - C) / (g m + C))
      try dsimp only
      generalize (g m - C) / (g m + C) * ((g m - C) / (g m + C)) = x at *
      generalize (C * (g m + C) - 1) / (C * (g m - C) + 1) * ((C * (g m + C) - 1) / (C * (g m - C) + 1)) = y at *
      have := Rat.mul_nonneg a' (by grind : 0 ≤ 1 - y)
      grind)
  -- the law's
  have qa := HasQ.sqr ic.fit hc I.a'.fit.e
  have qb := HasQ.sub one I.a'.fit h1 qa I.b'.fit.e
  have qd := HasQ.sqr i_n.fit hn I.d'.fit.e
  have qg := HasQ.div I.b'.fit I.d'.fit qb qd (by have := I.d'.lo; omega) I.g'.fit.e
  have qi := HasQ.sub one I.g'.fit h1 qg I.i'.fit.e
  obtain ⟨s, hs, s0, ss⟩ := HasS.sqrt I.i'.fit (HasS.const qi) I.s'.fit.e
  have nn : N ≠ 0 := fun e => by rw [e] at n0; exact Rat.lt_irrefl n0
  -- the root is n times the other one
  obtain ⟨d, d0, gd⟩ := HasS.abv hg (by show 0 < val (Di.g (oneR c) (oneR n)).lo; have := P.g'.lo; omega)
  have same : Eqv g fun m => N * s m := by
    refine root_same d0 ?_ ?_
    · obtain ⟨M, hM⟩ := gd
      refine ⟨M, fun m hm => ?_⟩
      have a := hM m hm
      have b := Rat.mul_nonneg (Rat.le_of_lt n0) (s0 m)
      dsimp only
      grind
    · have k := Nul.mul (Bd.const (N * N)) ss
      exact gg.trans (Eqv.symm (Nul.of k fun m => sn_eq nn C (s m)))
  have by_n : Eqv s fun m => g m / N := by
    have k := Nul.mul (Bd.const N⁻¹) (Eqv.symm same)
    exact Nul.of k fun m => by_eq nn (s m) (g m)
  have hs' := hs.turn by_n
  have j := HasS.mul i_n.fit I.s'.fit sn hs' I.j'.fit.e
  have k := HasS.sub ic.fit I.j'.fit sc j I.k'.fit.e
  have l := HasS.add ic.fit I.j'.fit sc j I.l'.fit.e
  have m := HasS.div I.k'.fit I.l'.fit k l (by have := I.l'.lo; omega) I.m'.fit.e
  have o := HasS.sqr I.m'.fit m I.o'.fit.e
  have qq' := HasS.mul i_n.fit ic.fit sn sc I.q'.fit.e
  have r := HasS.sub I.q'.fit I.s'.fit qq' hs' I.r'.fit.e
  have t := HasS.add I.q'.fit I.s'.fit qq' hs' I.t'.fit.e
  have u := HasS.div I.r'.fit I.t'.fit r t (by have := I.t'.lo; omega) I.u'.fit.e
  have v := HasS.sqr I.u'.fit u I.v'.fit.e
  have x := HasS.add I.o'.fit I.v'.fit o v I.x'.fit.e
  have y := HasS.mul half I.x'.fit sh x I.y'.fit.e
  refine HasS.meet out (y.turn (Eqv.symm ?_))
  -- the same, but for what goes to nothing
  have bg := hg.bd
  have bc := Bd.const C
  have near : Eqv (fun m => (g m - C) * (C * (g m + C) - 1)) fun m => N * N * C - g m := (Nul.mul bc gg).of fun m => near_eq C N (g m)
  have near' : Eqv (fun m => (g m + C) * (C * (g m - C) + 1)) fun m => N * N * C + g m := (Nul.mul bc gg).of fun m => near_eq' C N (g m)
  have low : Abv d fun m => N * N * C + g m := by
    obtain ⟨M, hM⟩ := gd
    refine ⟨M, fun m hm => ?_⟩
    have a := hM m hm
    have b := Rat.mul_nonneg (Rat.mul_nonneg (Rat.le_of_lt n0) (Rat.le_of_lt n0)) c0
    dsimp only
    grind
  have d2 : 0 < d / 2 := by grind
  have low2 : Abv (d / 2) fun m => N * N * C + g m := low.of_eqv Eqv.rfl (by grind)
  have low' := low.of_eqv near'.symm (by grind : d / 2 < d)
  have ba := (bg.sub bc).mul ((bc.mul (bg.add bc)).sub (Bd.const 1))
  have quo := Eqv.div d2 low' low2 near near' ba
  have bq : Bd fun m => (g m - C) * (C * (g m + C) - 1) / ((g m + C) * (C * (g m - C) + 1)) := Bd.of (Bd.mul ba (low'.inv d2)) fun m => (Rat.div_def _ _).symm
  have sq := Eqv.mul quo quo bq bq
  have e := Nul.mul (Bd.const (1 / 2)) sq
  refine Nul.of e fun m => ?_
  dsimp only
  rw [eq1 nn, eq3 nn, div_div]
  exact fin_eq _ _ _
end Go.Proofs.Ytdppppaoflhgdaa

namespace Go.Proofs.Ytdppppaoflhgdaa
open Go.RowKit

def w2 : Nat := 4611686018427387904
def w3 : Nat := 4613937818241073152
theorem w2_fit : Fit (oneR w2) := one_fit (by decide) (by decide)
theorem w3_fit : Fit (oneR w3) := one_fit (by decide) (by decide)
theorem Or.v0 : val 0 = 0 := by decide +kernel
theorem Or.z_fit : Fit (oneR 0) := one_fit (by decide) (by decide)

theorem HasQ.fst {r : Res} (fr : Fit r) : HasQ r (((val r.lo : Int) : Rat) / ((SS : Int) : Rat)) := by
  have S := ssQ
  have e : ((val r.lo : Int) : Rat) / ((SS : Int) : Rat) * ((SS : Int) : Rat) = ((val r.lo : Int) : Rat) := by grind
  exact ⟨by rw [e]; exact Rat.le_refl, by rw [e]; exact Rat.intCast_le_intCast.2 fr.le⟩
/-- The pair. -/
def Or.x : Res := divR piR (oneR w2)
def Or.t : Res := divR (oneR w2) (oneR w3)
def Or.g : Res := subR Or.x Or.t
def Or.m (s : Res) : Res := mulR Or.g s
def Or.q (s : Res) : Res := addR piR (Or.m s)
def Or.a (s : Res) : Res := divR (oneR u1) (Or.q s)
def Or.b (s : Res) : Res := mulR s (Or.a s)
/-- From 0 to 1; from -1 to 1. -/
def ouI : Res := ⟨0, 0, u1⟩
def oeI : Res := ⟨0, m1, u1⟩
theorem ou_fit : Fit ouI := .of (by decide +kernel)
theorem oe_fit : Fit oeI := .of (by decide +kernel)
theorem Or.consts : Fit Or.x ∧ Fit Or.t ∧ Fit Or.g := ⟨.of (by decide +kernel), .of (by decide +kernel), .of (by decide +kernel)⟩
theorem Or.bigs : Fit (Or.m ouI) ∧ Fit (Or.q ouI) ∧ Fit (Or.a ouI) ∧ Fit (Or.b ouI) ∧ 0 < val (Or.q ouI).lo ∧ 0 ≤ val (Or.b ouI).lo := ⟨.of (by decide +kernel), .of (by decide +kernel), .of (by decide +kernel), .of (by decide +kernel), by decide +kernel, by decide +kernel⟩
structure PairIn (s S : Res) : Prop where
  m : In (Or.m s) (Or.m S)
  q : In (Or.q s) (Or.q S)
  a : In (Or.a s) (Or.a S)
  b : In (Or.b s) (Or.b S)
theorem pair_in {s : Res} (h : In s ouI) : PairIn s ouI := by
  obtain ⟨c1, c2, c3⟩ := Or.consts
  obtain ⟨b1, b2, b3, b4, _, _⟩ := Or.bigs
  have m := mul_in (.refl c3) c3 h ou_fit b1.e
  have q := add_in (.refl big_fit.1) big_fit.1 m b1 b2.e
  have a := div_in (.refl u1_fit) u1_fit q b2 b3.e
  exact ⟨m, q, a, mul_in h ou_fit a b3 b4.e⟩
theorem pair_part {s S : Res} (h : In s S) (k : PairIn S ouI) (fS : Fit S) : PairIn s S := by
  obtain ⟨c1, c2, c3⟩ := Or.consts
  have m := mul_in (.refl c3) c3 h fS k.m.fit.e
  have q := add_in (.refl big_fit.1) big_fit.1 m k.m.fit k.q.fit.e
  have a := div_in (.refl u1_fit) u1_fit q k.q.fit k.a.fit.e
  exact ⟨m, q, a, mul_in h fS a k.a.fit k.b.fit.e⟩

/-- The slope. -/
def Or.p (i o : Res) : Res := mulR i o
def Or.s (i o d : Res) : Res := subR d (Or.p i o)
def Or.top (i o : Res) : Res := maxR i o
def posR (r : Res) : Res := ⟨0, maxW r.lo 0, r.hi⟩
def Or.r (i o d : Res) : Res := divR (posR (Or.s i o d)) (Or.top i o)
def midR (s r : Res) : Res := ⟨0, minW s.lo r.lo, maxW 0 r.hi⟩
def Or.st (i o d : Res) : Res :=
  if 0 < val (Or.s i o d).hi then (if (Or.r i o d).e = 0 then (if 0 ≤ val (Or.s i o d).lo then Or.r i o d else midR (Or.s i o d) (Or.r i o d)) else Or.r i o d) else Or.s i o d
def edgeW (x : Nat) : Nat := minW (maxW x m1) u1
def edgeR (r : Res) : Res := ⟨r.e, edgeW r.lo, edgeW r.hi⟩
theorem edgeR_lo (r : Res) : (edgeR r).lo = edgeW r.lo := by rw [edgeR]
theorem edgeR_hi (r : Res) : (edgeR r).hi = edgeW r.hi := by rw [edgeR]
theorem edgeR_e (r : Res) : (edgeR r).e = r.e := by rw [edgeR]
def Or.slope (i o d : Res) : Res := edgeR (Or.st i o d)
theorem edge_facts {x : Nat} (lx : x < 18446744073709551616) (rx : rightB x = true) : edgeW x < 18446744073709551616 ∧ rightB (edgeW x) = true ∧ val (edgeW x) = min (max (val x) (-SS)) SS := by
  obtain ⟨p1, p2, p3⟩ := max_facts x m1 lx (by decide) rx (by decide)
  obtain ⟨n1, n2, n3⟩ := min_facts (maxW x m1) u1 p1 (by decide) p2 (by decide)
  refine ⟨n1, n2, ?_⟩
  have e1 : val m1 = -SS := by decide +kernel
  have e2 : val u1 = SS := by decide +kernel
  show val (minW (maxW x m1) u1) = _
  rw [n3, p3, e1, e2]
theorem edge_fit {a : Res} (h : Fit a) : Fit (edgeR a) := by
  obtain ⟨l1, l2, l3⟩ := edge_facts h.lo h.rlo
  obtain ⟨k1, k2, k3⟩ := edge_facts h.hi h.rhi
  have hle := h.le
  refine ⟨by rw [edgeR_e]; exact h.e, by rw [edgeR_lo]; exact l1, by rw [edgeR_hi]; exact k1, ?_⟩
  rw [edgeR_lo, edgeR_hi]
  unfold ivR leB
  rw [l2, k2, decide_eq_true (show val (edgeW a.lo) ≤ val (edgeW a.hi) by rw [l3, k3]; omega)]; rfl
theorem edge_in {a A : Res} (h : In a A) (fA : Fit A) : In (edgeR a) (edgeR A) := by
  refine ⟨edge_fit h.fit, ?_, ?_⟩
  · rw [edgeR_lo, edgeR_lo, (edge_facts h.fit.lo h.fit.rlo).2.2, (edge_facts fA.lo fA.rlo).2.2]
    have := h.lo
    omega
  · rw [edgeR_hi, edgeR_hi, (edge_facts h.fit.hi h.fit.rhi).2.2, (edge_facts fA.hi fA.rhi).2.2]
    have := h.hi
    omega
theorem edge_unit {a : Res} (h : Fit a) : In (edgeR a) oeI := by
  have e1 : val m1 = -SS := by decide +kernel
  have e2 : val u1 = SS := by decide +kernel
  have s0 := SS0
  refine ⟨edge_fit h, ?_, ?_⟩
  · rw [edgeR_lo, show oeI.lo = m1 from rfl, (edge_facts h.lo h.rlo).2.2, e1]; omega
  · rw [edgeR_hi, show oeI.hi = u1 from rfl, (edge_facts h.hi h.rhi).2.2, e2]; omega

/-- What a slope is worked out of, as far as it has no error. -/
structure Dirs (i o d : Res) : Prop where
  i : In i ouI
  o : In o ouI
  d : In d oeI
theorem Or.bigS : Fit (Or.p ouI ouI) ∧ Fit (Or.s ouI ouI oeI) ∧ Fit (Or.top ouI ouI) := ⟨.of (by decide +kernel), .of (by decide +kernel), .of (by decide +kernel)⟩
structure SlopeIn (i o d I O D : Res) : Prop where
  p : In (Or.p i o) (Or.p I O)
  s : In (Or.s i o d) (Or.s I O D)
  top : In (Or.top i o) (Or.top I O)
theorem slope_fits {i o d : Res} (h : Dirs i o d) : SlopeIn i o d ouI ouI oeI := by
  obtain ⟨b1, b2, b3⟩ := Or.bigS
  have p := mul_in h.i ou_fit h.o ou_fit b1.e
  exact ⟨p, sub_in h.d oe_fit p b1 b2.e, max_in h.i ou_fit h.o ou_fit b3.e⟩
theorem slope_parts {i o d I O D : Res} (h : Dirs I O D) (hi : In i I) (ho : In o O) (hd : In d D) : SlopeIn i o d I O D := by
  have k := slope_fits h
  have p := mul_in hi h.i.fit ho h.o.fit k.p.fit.e
  exact ⟨p, sub_in hd h.d.fit p k.p.fit k.s.fit.e, max_in hi h.i.fit ho h.o.fit k.top.fit.e⟩
theorem Dirs.part {i o d I O D : Res} (h : Dirs I O D) (hi : In i I) (ho : In o O) (hd : In d D) : Dirs i o d :=
  ⟨⟨hi.fit, Int.le_trans h.i.lo hi.lo, Int.le_trans hi.hi h.i.hi⟩, ⟨ho.fit, Int.le_trans h.o.lo ho.lo, Int.le_trans ho.hi h.o.hi⟩, ⟨hd.fit, Int.le_trans h.d.lo hd.lo, Int.le_trans hd.hi h.d.hi⟩⟩
theorem pos_fit {r : Res} (f : Fit r) (h : 0 < val r.hi) : Fit (posR r) := by
  obtain ⟨x1, x2, x3⟩ := max_facts r.lo 0 f.lo (by decide) f.rlo (by decide)
  have l := f.le
  refine ⟨rfl, x1, f.hi, ?_⟩
  show ivR (maxW r.lo 0) r.hi = true
  unfold ivR leB
  rw [x2, f.rhi, decide_eq_true (by rw [x3, Or.v0]; omega)]; rfl
theorem pos_in {r R : Res} (i : In r R) (fR : Fit R) (h : 0 < val r.hi) : In (posR r) (posR R) := by
  obtain ⟨_, _, x3⟩ := max_facts r.lo 0 i.fit.lo (by decide) i.fit.rlo (by decide)
  obtain ⟨_, _, y3⟩ := max_facts R.lo 0 fR.lo (by decide) fR.rlo (by decide)
  have l := i.lo
  refine ⟨pos_fit i.fit h, ?_, i.hi⟩
  show val (maxW R.lo 0) ≤ val (maxW r.lo 0)
  rw [x3, y3]; omega
theorem mid_fit {s r : Res} (fs : Fit s) (fr : Fit r) (h : val s.lo < 0) : Fit (midR s r) := by
  obtain ⟨x1, x2, x3⟩ := min_facts s.lo r.lo fs.lo fr.lo fs.rlo fr.rlo
  obtain ⟨y1, y2, y3⟩ := max_facts 0 r.hi (by decide) fr.hi (by decide) fr.rhi
  refine ⟨rfl, x1, y1, ?_⟩
  show ivR (minW s.lo r.lo) (maxW 0 r.hi) = true
  unfold ivR leB
  rw [x2, y2, decide_eq_true (by rw [x3, y3, Or.v0]; omega)]; rfl
/-- A quotient without an error fits. -/
theorem quo_fit {a b : Res} (fa : Fit a) (fb : Fit b) (h : (divR a b).e = 0) : Fit (divR a b) := ask_fit a b 3 (by decide) fa fb h
theorem st_fit {i o d : Res} (h : Dirs i o d) (he : (Or.st i o d).e = 0) : Fit (Or.st i o d) := by
  have k := slope_fits h
  unfold Or.st at he ⊢
  by_cases g : 0 < val (Or.s i o d).hi
  · rw [if_pos g] at he ⊢
    by_cases e : (Or.r i o d).e = 0
    · have fr : Fit (Or.r i o d) := quo_fit (pos_fit k.s.fit g) k.top.fit e
      rw [if_pos e] at he ⊢
      by_cases l : 0 ≤ val (Or.s i o d).lo
      · rw [if_pos l]; exact fr
      · rw [if_neg l]; exact mid_fit k.s.fit fr (by omega)
    · rw [if_neg e] at he; exact absurd he e
  · rw [if_neg g]; exact k.s.fit
theorem max_lo {i o : Res} (hi : In i ouI) (ho : In o ouI) : val (Or.top i o).lo = max (val i.lo) (val o.lo) := (max_facts i.lo o.lo hi.fit.lo ho.fit.lo hi.fit.rlo ho.fit.rlo).2.2
/-- Where there is no error the greater cosine is above 0. -/
theorem top_pos {i o d : Res} (h : Dirs i o d) (e : (Or.r i o d).e = 0) : 0 < val (Or.top i o).lo := by
  have k := slope_fits h
  have m := max_lo h.i h.o
  have il : 0 ≤ val i.lo := by have t : val 0 ≤ val i.lo := h.i.lo; rw [Or.v0] at t; exact t
  rcases Int.lt_or_le 0 (val (Or.top i o).lo) with g | g
  · exact g
  · exfalso
    have fl := k.top.fit.le
    have z : hasB (Or.top i o).lo (Or.top i o).hi 0 = true := by
      rw [has_zero k.top.fit.lo k.top.fit.hi k.top.fit.iv]; exact decide_eq_true (by omega)
    have e' : (divI (posR (Or.s i o d)).lo (posR (Or.s i o d)).hi (Or.top i o).lo (Or.top i o).hi).e = 0 := e
    unfold divI at e'
    rw [z, if_pos rfl] at e'
    exact absurd e' (by decide)
theorem st_in {i o d I O D : Res} (h : Dirs I O D) (hi : In i I) (ho : In o O) (hd : In d D) (he : (Or.st I O D).e = 0) : (Or.st i o d).e = 0 ∧ In (Or.st i o d) (Or.st I O D) := by
  have h' := h.part hi ho hd
  have K := slope_fits h
  have k := slope_parts h hi ho hd
  have F := st_fit h he
  have s1 := k.s.lo
  have s2 := k.s.hi
  have s3 := k.s.fit.le
  by_cases g : 0 < val (Or.s i o d).hi
  · have G : 0 < val (Or.s I O D).hi := by omega
    have E : (Or.r I O D).e = 0 := by
      unfold Or.st at he
      rw [if_pos G] at he
      by_cases e : (Or.r I O D).e = 0
      · exact e
      · rw [if_neg e] at he; exact he
    have fR : Fit (Or.r I O D) := quo_fit (pos_fit K.s.fit G) K.top.fit E
    have r : In (Or.r i o d) (Or.r I O D) := div_in (pos_in k.s K.s.fit g) (pos_fit K.s.fit G) k.top K.top.fit E
    have e := r.fit.e
    unfold Or.st
    rw [if_pos g, if_pos G, if_pos e, if_pos E]
    obtain ⟨_, _, x3⟩ := min_facts (Or.s I O D).lo (Or.r I O D).lo K.s.fit.lo fR.lo K.s.fit.rlo fR.rlo
    obtain ⟨_, _, y3⟩ := max_facts 0 (Or.r I O D).hi (by decide) fR.hi (by decide) fR.rhi
    obtain ⟨_, _, z3⟩ := min_facts (Or.s i o d).lo (Or.r i o d).lo k.s.fit.lo r.fit.lo k.s.fit.rlo r.fit.rlo
    obtain ⟨_, _, w3'⟩ := max_facts 0 (Or.r i o d).hi (by decide) r.fit.hi (by decide) r.fit.rhi
    have r1 := r.lo
    have r2 := r.hi
    by_cases l : 0 ≤ val (Or.s I O D).lo
    · have l' : 0 ≤ val (Or.s i o d).lo := by omega
      rw [if_pos l, if_pos l']
      exact ⟨e, r⟩
    · rw [if_neg l]
      by_cases l' : 0 ≤ val (Or.s i o d).lo
      · rw [if_pos l']
        refine ⟨e, r.fit, ?_, ?_⟩
        · show val (minW _ _) ≤ _; rw [x3]; omega
        · show _ ≤ val (maxW _ _); rw [y3]; omega
      · rw [if_neg l']
        refine ⟨rfl, mid_fit k.s.fit r.fit (by omega), ?_, ?_⟩
        · show val (minW _ _) ≤ val (minW _ _); rw [x3, z3]; omega
        · show val (maxW _ _) ≤ val (maxW _ _); rw [y3, w3']; omega
  · have st' : Or.st i o d = Or.s i o d := by unfold Or.st; rw [if_neg g]
    rw [st']
    refine ⟨k.s.fit.e, k.s.fit, ?_, ?_⟩
    · by_cases G : 0 < val (Or.s I O D).hi
      · have E : (Or.r I O D).e = 0 := by
          unfold Or.st at he
          rw [if_pos G] at he
          by_cases e : (Or.r I O D).e = 0
          · exact e
          · rw [if_neg e] at he; exact he
        have fR : Fit (Or.r I O D) := quo_fit (pos_fit K.s.fit G) K.top.fit E
        have tp := top_pos h E
        unfold Or.st
        rw [if_pos G, if_pos E]
        obtain ⟨_, _, x3⟩ := min_facts (Or.s I O D).lo (Or.r I O D).lo K.s.fit.lo fR.lo K.s.fit.rlo fR.rlo
        obtain ⟨_, _, p3⟩ := max_facts (Or.s I O D).lo 0 K.s.fit.lo (by decide) K.s.fit.rlo (by decide)
        rw [Or.v0] at p3
        by_cases l : 0 ≤ val (Or.s I O D).lo
        · rw [if_pos l]
          have z : HasQ (posR (Or.s I O D)) 0 := by
            refine ⟨?_, ?_⟩
            · rw [Rat.zero_mul]; exact Rat.intCast_le_intCast.2 (by show val (maxW (Or.s I O D).lo 0) ≤ 0; rw [p3]; omega)
            · rw [Rat.zero_mul]; exact Rat.intCast_le_intCast.2 (by show 0 ≤ val (Or.s I O D).hi; omega)
          have q := HasQ.div (pos_fit K.s.fit G) K.top.fit z (HasQ.fst K.top.fit) tp E
          have e0 : (0 : Rat) / (((val (Or.top I O).lo : Int) : Rat) / ((SS : Int) : Rat)) = 0 := by rw [Rat.div_def, Rat.zero_mul]
          have q' := q.low
          rw [e0, Rat.zero_mul] at q'
          have q0 : val (Or.r I O D).lo ≤ 0 := Rat.intCast_le_intCast.1 q'
          omega
        · rw [if_neg l]
          show val (minW _ _) ≤ _
          rw [x3]; omega
      · unfold Or.st
        rw [if_neg G]; exact s1
    · by_cases G : 0 < val (Or.s I O D).hi
      · have E : (Or.r I O D).e = 0 := by
          unfold Or.st at he
          rw [if_pos G] at he
          by_cases e : (Or.r I O D).e = 0
          · exact e
          · rw [if_neg e] at he; exact he
        have fR : Fit (Or.r I O D) := quo_fit (pos_fit K.s.fit G) K.top.fit E
        have tp := top_pos h E
        have P := pos_fit K.s.fit G
        unfold Or.st
        rw [if_pos G, if_pos E]
        obtain ⟨_, _, y3⟩ := max_facts 0 (Or.r I O D).hi (by decide) fR.hi (by decide) fR.rhi
        rw [Or.v0] at y3
        by_cases l : 0 ≤ val (Or.s I O D).lo
        · rw [if_pos l]
          obtain ⟨_, _, p3⟩ := max_facts (Or.s I O D).lo 0 K.s.fit.lo (by decide) K.s.fit.rlo (by decide)
          rw [Or.v0] at p3
          have z : HasQ (posR (Or.s I O D)) 0 := by
            refine ⟨?_, ?_⟩
            · rw [Rat.zero_mul]; exact Rat.intCast_le_intCast.2 (by show val (maxW (Or.s I O D).lo 0) ≤ 0; rw [p3]; omega)
            · rw [Rat.zero_mul]; exact Rat.intCast_le_intCast.2 (by show 0 ≤ val (Or.s I O D).hi; omega)
          have q := HasQ.div P K.top.fit z (HasQ.fst K.top.fit) tp E
          have e0 : (0 : Rat) / (((val (Or.top I O).lo : Int) : Rat) / ((SS : Int) : Rat)) = 0 := by rw [Rat.div_def, Rat.zero_mul]
          have q' := q.high
          rw [e0, Rat.zero_mul] at q'
          have q0 : 0 ≤ val (Or.r I O D).hi := Rat.intCast_le_intCast.1 q'
          omega
        · rw [if_neg l]
          show _ ≤ val (maxW _ _)
          rw [y3]; omega
      · unfold Or.st
        rw [if_neg G]; exact s2

/-- The value. -/
def Or.n (s t : Res) : Res := mulR (Or.b s) t
def Or.k (s t : Res) : Res := addR (Or.a s) (Or.n s t)
def Or.l (r s t : Res) : Res := mulR r (Or.k s t)
def Or.val (r s t : Res) : Res := clampR (Or.l r s t)
theorem Or.bigV : Fit (Or.n ouI oeI) ∧ Fit (Or.k ouI oeI) ∧ Fit (Or.l ouI ouI oeI) := ⟨.of (by decide +kernel), .of (by decide +kernel), .of (by decide +kernel)⟩
structure ValIn (r s t R S T : Res) : Prop where
  n : In (Or.n s t) (Or.n S T)
  k : In (Or.k s t) (Or.k S T)
  l : In (Or.l r s t) (Or.l R S T)
theorem val_fits {r s t : Res} (hr : In r ouI) (hs : In s ouI) (ht : In t oeI) : ValIn r s t ouI ouI oeI := by
  obtain ⟨_, _, b3, b4, _, _⟩ := Or.bigs
  obtain ⟨c1, c2, c3⟩ := Or.bigV
  have P := pair_in hs
  have n := mul_in P.b b4 ht oe_fit c1.e
  have k := add_in P.a b3 n c1 c2.e
  exact ⟨n, k, mul_in hr ou_fit k c2 c3.e⟩
theorem val_parts {r s t R S T : Res} (hR : In R ouI) (hS : In S ouI) (hT : In T oeI) (hr : In r R) (hs : In s S) (ht : In t T) : ValIn r s t R S T := by
  have P := pair_in hS
  have p := pair_part hs P hS.fit
  have V := val_fits hR hS hT
  have n := mul_in p.b P.b.fit ht hT.fit V.n.fit.e
  have k := add_in p.a P.a.fit n V.n.fit V.k.fit.e
  exact ⟨n, k, mul_in hr hR.fit k V.k.fit V.l.fit.e⟩

/-- The other way about it is the same. -/
theorem max_turn {i o : Res} (hi : In i ouI) (ho : In o ouI) : maxR i o = maxR o i := by
  have key : ∀ {a b : Nat}, a < 18446744073709551616 → b < 18446744073709551616 → rightB a = true → rightB b = true → maxW a b = maxW b a := fun {a b} la lb ra rb => by
    obtain ⟨x1, x2, x3⟩ := max_facts a b la lb ra rb
    obtain ⟨y1, y2, y3⟩ := max_facts b a lb la rb ra
    exact val_inj x1 y1 x2 y2 (by rw [x3, y3]; omega)
  have e1 : maxR i o = ⟨0, maxW i.lo o.lo, maxW i.hi o.hi⟩ := rfl
  have e2 : maxR o i = ⟨0, maxW o.lo i.lo, maxW o.hi i.hi⟩ := rfl
  rw [e1, e2, key hi.fit.lo ho.fit.lo hi.fit.rlo ho.fit.rlo, key hi.fit.hi ho.fit.hi hi.fit.rhi ho.fit.rhi]
end Go.Proofs.Ytdppppaoflhgdaa

namespace Go.Proofs.Ytdppppaoflhgdaa
open Go.RowKit

/-- What of a rational number is from -1 to 1. -/
def edgeQ (x : Rat) : Rat := if x ≤ -1 then -1 else if 1 ≤ x then 1 else x
theorem HasQ.edge {r : Res} {x : Rat} (fr : Fit r) (h : HasQ r x) : HasQ (edgeR r) (edgeQ x) := by
  obtain ⟨_, _, x3⟩ := edge_facts fr.lo fr.rlo
  obtain ⟨_, _, y3⟩ := edge_facts fr.hi fr.rhi
  have S := ssQ
  have s0 := SS0
  have hl := h.low
  have hh := h.high
  have neg : (((-SS : Int)) : Rat) = -((SS : Int) : Rat) := Rat.intCast_neg _
  unfold edgeQ
  by_cases g : x ≤ -1
  · rw [if_pos g]
    have t := Rat.mul_le_mul_of_nonneg_right g (Rat.le_of_lt S)
    have l0 : val r.lo ≤ -SS := Rat.intCast_le_intCast.1 (by rw [neg]; grind)
    refine ⟨?_, ?_⟩
    · rw [edgeR_lo, x3, show min (max (val r.lo) (-SS)) SS = -SS by omega, neg]; grind
    · rw [edgeR_hi, y3]
      refine Rat.le_trans ?_ (Rat.intCast_le_intCast.2 (by omega : -SS ≤ min (max (val r.hi) (-SS)) SS))
      rw [neg]; grind
  · rw [if_neg g]
    by_cases k : 1 ≤ x
    · rw [if_pos k]
      have t := Rat.mul_le_mul_of_nonneg_right k (Rat.le_of_lt S)
      rw [Rat.one_mul] at t
      have l0 : SS ≤ val r.hi := Rat.intCast_le_intCast.1 (by exact Rat.le_trans t hh)
      refine ⟨?_, ?_⟩
      · rw [edgeR_lo, x3, Rat.one_mul]; exact Rat.intCast_le_intCast.2 (by omega : min (max (val r.lo) (-SS)) SS ≤ SS)
      · rw [edgeR_hi, y3, Rat.one_mul]; exact Rat.intCast_le_intCast.2 (by omega : SS ≤ min (max (val r.hi) (-SS)) SS)
    · rw [if_neg k]
      have t0 := Rat.mul_le_mul_of_nonneg_right (by grind : -1 ≤ x) (Rat.le_of_lt S)
      have t1 := Rat.mul_le_mul_of_nonneg_right (by grind : x ≤ 1) (Rat.le_of_lt S)
      rw [Rat.one_mul] at t1
      refine ⟨?_, ?_⟩
      · rw [edgeR_lo, x3]
        rcases Int.le_total (val r.lo) (-SS) with c | c
        · rw [show min (max (val r.lo) (-SS)) SS = -SS by omega, neg]; grind
        · refine Rat.le_trans (Rat.intCast_le_intCast.2 (by omega : min (max (val r.lo) (-SS)) SS ≤ val r.lo)) hl
      · rw [edgeR_hi, y3]
        rcases Int.le_total SS (val r.hi) with c | c
        · rw [show min (max (val r.hi) (-SS)) SS = SS by omega]; exact t1
        · refine Rat.le_trans hh (Rat.intCast_le_intCast.2 (by omega : val r.hi ≤ min (max (val r.hi) (-SS)) SS))
theorem edgeQ_mono {x y : Rat} (h : x ≤ y) : edgeQ x ≤ edgeQ y := by
  unfold edgeQ
  split <;> split <;> (try split) <;> (try split) <;> grind
theorem edgeQ_unit (x : Rat) : -1 ≤ edgeQ x ∧ edgeQ x ≤ 1 := by
  unfold edgeQ
  split
  · constructor <;> grind
  · split <;> constructor <;> grind
theorem clampQ_mono {x y : Rat} (h : x ≤ y) : clampQ x ≤ clampQ y := by
  unfold clampQ
  split <;> split <;> (try split) <;> (try split) <;> grind
/-- The real number of a word. -/
def rv (x : Nat) : Rat := ((val x : Int) : Rat) / ((SS : Int) : Rat)
theorem rv_has (x : Nat) : HasQ (oneR x) (rv x) := HasQ.one x
theorem rv_le {x y : Nat} : rv x ≤ rv y ↔ val x ≤ val y := by
  have S := ssQ
  unfold rv
  constructor
  · intro h
    have k := Rat.mul_le_mul_of_nonneg_right h (Rat.le_of_lt S)
    have e1 : ((val x : Int) : Rat) / ((SS : Int) : Rat) * ((SS : Int) : Rat) = ((val x : Int) : Rat) := by grind
    have e2 : ((val y : Int) : Rat) / ((SS : Int) : Rat) * ((SS : Int) : Rat) = ((val y : Int) : Rat) := by grind
    rw [e1, e2] at k
    exact Rat.intCast_le_intCast.1 k
  · intro h
    refine Rat.le_of_mul_le_mul_right (c := ((SS : Int) : Rat)) ?_ S
    have e1 : ((val x : Int) : Rat) / ((SS : Int) : Rat) * ((SS : Int) : Rat) = ((val x : Int) : Rat) := by grind
    have e2 : ((val y : Int) : Rat) / ((SS : Int) : Rat) * ((SS : Int) : Rat) = ((val y : Int) : Rat) := by grind
    rw [e1, e2]
    exact Rat.intCast_le_intCast.2 h
theorem rv_0 : rv 0 = 0 := by
  unfold rv
  rw [Or.v0, Rat.div_def]
  exact Rat.zero_mul _
theorem rv_1 : rv u1 = 1 := by
  have e : val u1 = SS := by decide +kernel
  have S := ssQ
  unfold rv
  rw [e]; grind
theorem rv_m1 : rv m1 = -1 := by
  have e : val m1 = -SS := by decide +kernel
  have S := ssQ
  unfold rv
  rw [e, Rat.intCast_neg]; grind
/-- Of real numbers, one no less than the other one, the ends are in order. -/
theorem has_le {r s : Res} {x y : Rat} (h : HasQ r x) (k : HasQ s y) (l : x ≤ y) : val r.lo ≤ val s.hi :=
  Rat.intCast_le_intCast.1 (Rat.le_trans h.low (Rat.le_trans (Rat.mul_le_mul_of_nonneg_right l (Rat.le_of_lt ssQ)) k.high))

/-- The slope of real numbers. -/
def slopeQ (i o d : Rat) : Rat := edgeQ (if d - i * o ≤ 0 then d - i * o else (d - i * o) / (if i ≤ o then o else i))
theorem slopeQ_mono {i o d d' : Rat} (hm : 0 < if i ≤ o then o else i) (h : d ≤ d') : slopeQ i o d ≤ slopeQ i o d' := by
  unfold slopeQ
  refine edgeQ_mono ?_
  generalize (if i ≤ o then o else i) = M at *
  have hi := Rat.inv_pos.2 hm
  by_cases g : d - i * o ≤ 0
  · rw [if_pos g]
    by_cases k : d' - i * o ≤ 0
    · rw [if_pos k]; grind
    · rw [if_neg k]
      have : 0 ≤ (d' - i * o) / M := by rw [Rat.div_def]; exact Rat.mul_nonneg (by grind) (Rat.le_of_lt hi)
      grind
  · rw [if_neg g, if_neg (by grind : ¬ d' - i * o ≤ 0), Rat.div_def, Rat.div_def]
    exact Rat.mul_le_mul_of_nonneg_right (by grind) (Rat.le_of_lt hi)
theorem max_real {i o : Nat} (hi : In (oneR i) ouI) (ho : In (oneR o) ouI) : rv (maxW i o) = if rv i ≤ rv o then rv o else rv i := by
  obtain ⟨_, _, m⟩ := max_facts i o hi.fit.lo ho.fit.lo hi.fit.rlo ho.fit.rlo
  have key : ∀ {a b : Nat}, val a = val b → rv a = rv b := fun {a b} e => by unfold rv; rw [e]
  by_cases g : val i ≤ val o
  · rw [if_pos (rv_le.2 g)]
    exact key (by omega)
  · rw [if_neg (fun h => g (rv_le.1 h))]
    exact key (by omega)
/-- A slope of numbers has the slope of the real numbers. -/
theorem slope_has {i o d : Nat} (h : Dirs (oneR i) (oneR o) (oneR d)) (he : (Or.st (oneR i) (oneR o) (oneR d)).e = 0) : HasQ (Or.slope (oneR i) (oneR o) (oneR d)) (slopeQ (rv i) (rv o) (rv d)) := by
  have k := slope_fits h
  have F := st_fit h he
  have hp := HasQ.mul h.i.fit h.o.fit (rv_has i) (rv_has o) k.p.fit.e
  have hs : HasQ (Or.s (oneR i) (oneR o) (oneR d)) (rv d - rv i * rv o) := HasQ.sub h.d.fit k.p.fit (rv_has d) hp k.s.fit.e
  refine HasQ.edge F ?_
  have S := ssQ
  have mr := max_real h.i h.o
  have ht : HasQ (Or.top (oneR i) (oneR o)) (rv (maxW i o)) := rv_has (maxW i o)
  rw [mr] at ht
  generalize (if rv i ≤ rv o then rv o else rv i) = M at *
  generalize rv d - rv i * rv o = s at *
  by_cases g : 0 < val (Or.s (oneR i) (oneR o) (oneR d)).hi
  · have e : (Or.r (oneR i) (oneR o) (oneR d)).e = 0 := by
      unfold Or.st at he
      rw [if_pos g] at he
      by_cases e : (Or.r (oneR i) (oneR o) (oneR d)).e = 0
      · exact e
      · rw [if_neg e] at he; exact he
    have P := pos_fit k.s.fit g
    have fr : Fit (Or.r (oneR i) (oneR o) (oneR d)) := quo_fit P k.top.fit e
    have tp := top_pos h e
    obtain ⟨_, _, p3⟩ := max_facts (Or.s (oneR i) (oneR o) (oneR d)).lo 0 k.s.fit.lo (by decide) k.s.fit.rlo (by decide)
    rw [Or.v0] at p3
    have hpos : ∀ x : Rat, 0 ≤ x → HasQ (Or.s (oneR i) (oneR o) (oneR d)) x → HasQ (Or.r (oneR i) (oneR o) (oneR d)) (x / M) := fun x x0 hx => by
      refine HasQ.div P k.top.fit ⟨?_, hx.high⟩ ht tp e
      show ((val (maxW _ 0) : Int) : Rat) ≤ _
      rw [p3]
      rcases Int.le_total (val (Or.s (oneR i) (oneR o) (oneR d)).lo) 0 with c | c
      · rw [Int.max_eq_right c]; exact Rat.mul_nonneg x0 (Rat.le_of_lt S)
      · rw [Int.max_eq_left c]; exact hx.low
    have est : Or.st (oneR i) (oneR o) (oneR d) = if 0 ≤ val (Or.s (oneR i) (oneR o) (oneR d)).lo then Or.r (oneR i) (oneR o) (oneR d) else midR (Or.s (oneR i) (oneR o) (oneR d)) (Or.r (oneR i) (oneR o) (oneR d)) := by
      unfold Or.st
      rw [if_pos g, if_pos e]
    rw [est]
    obtain ⟨_, _, x3⟩ := min_facts (Or.s (oneR i) (oneR o) (oneR d)).lo (Or.r (oneR i) (oneR o) (oneR d)).lo k.s.fit.lo fr.lo k.s.fit.rlo fr.rlo
    obtain ⟨_, _, y3⟩ := max_facts 0 (Or.r (oneR i) (oneR o) (oneR d)).hi (by decide) fr.hi (by decide) fr.rhi
    rw [Or.v0] at y3
    by_cases l : 0 ≤ val (Or.s (oneR i) (oneR o) (oneR d)).lo
    · rw [if_pos l]
      have s0 : 0 ≤ s := by
        refine Rat.le_of_mul_le_mul_right (c := ((SS : Int) : Rat)) ?_ S
        rw [Rat.zero_mul]
        exact Rat.le_trans (Rat.intCast_nonneg.2 l) hs.low
      have q := hpos s s0 hs
      by_cases z : s ≤ 0
      · rw [if_pos z]
        have e0 : s = 0 := by grind
        rw [e0] at q ⊢
        rw [Rat.div_def, Rat.zero_mul] at q
        exact q
      · rw [if_neg z]; exact q
    · rw [if_neg l]
      by_cases z : s ≤ 0
      · rw [if_pos z]
        refine ⟨?_, ?_⟩
        · show ((val (minW _ _) : Int) : Rat) ≤ _
          rw [x3]
          exact Rat.le_trans (Rat.intCast_le_intCast.2 (by omega)) hs.low
        · show _ ≤ ((val (maxW _ _) : Int) : Rat)
          rw [y3]
          have := Rat.mul_le_mul_of_nonneg_right z (Rat.le_of_lt S)
          rw [Rat.zero_mul] at this
          exact Rat.le_trans this (Rat.intCast_nonneg.2 (by omega))
      · rw [if_neg z]
        have q := hpos s (by grind) hs
        refine ⟨?_, ?_⟩
        · show ((val (minW _ _) : Int) : Rat) ≤ _
          rw [x3]
          exact Rat.le_trans (Rat.intCast_le_intCast.2 (by omega)) q.low
        · show _ ≤ ((val (maxW _ _) : Int) : Rat)
          rw [y3]
          exact Rat.le_trans q.high (Rat.intCast_le_intCast.2 (by omega))
  · have est : Or.st (oneR i) (oneR o) (oneR d) = Or.s (oneR i) (oneR o) (oneR d) := by
      unfold Or.st
      rw [if_neg g]
    rw [est]
    have z : s ≤ 0 := by
      refine Rat.le_of_mul_le_mul_right (c := ((SS : Int) : Rat)) ?_ S
      rw [Rat.zero_mul]
      exact Rat.le_trans hs.high (Rat.intCast_le_intCast.2 (by omega : _ ≤ (0 : Int)))
    rw [if_pos z]; exact hs

/-- A number next to pi. -/
def Qp : Rat := rv piR.lo
theorem pi_has : HasQ piR Qp := HasQ.fst big_fit.1
theorem qp_3 : 3 ≤ Qp := by
  have S := ssQ
  have e : 3 * SS ≤ val piR.lo := by decide +kernel
  have k : (((3 * SS : Int)) : Rat) ≤ ((val piR.lo : Int) : Rat) := Rat.intCast_le_intCast.2 e
  rw [Rat.intCast_mul] at k
  refine Rat.le_of_mul_le_mul_right (c := ((SS : Int) : Rat)) ?_ S
  have e2 : Qp * ((SS : Int) : Rat) = ((val piR.lo : Int) : Rat) := by unfold Qp rv; grind
  rw [e2]; exact k
def gQ : Rat := Qp / 2 - 2 / 3
theorem g_pos : 0 < gQ := by have := qp_3; unfold gQ; grind
theorem h_two : HasQ (oneR w2) 2 := HasQ.lit (k := 2) (by decide +kernel) rfl
theorem h_three : HasQ (oneR w3) 3 := HasQ.lit (k := 3) (by decide +kernel) rfl
theorem h_one : HasQ (oneR u1) 1 := HasQ.lit (k := 1) (by decide +kernel) rfl
theorem two_pos : 0 < val (oneR w2).lo ∧ 0 < val (oneR w3).lo ∧ 0 < val piR.lo := by decide +kernel
theorem g_has : HasQ Or.g gQ := by
  obtain ⟨c1, c2, c3⟩ := Or.consts
  exact HasQ.sub c1 c2 (HasQ.div big_fit.1 w2_fit pi_has h_two two_pos.1 c1.e) (HasQ.div w2_fit w3_fit h_two h_three two_pos.2.1 c2.e) c3.e
/-- The pair of real numbers. -/
def aQ (s : Rat) : Rat := 1 / (Qp + gQ * s)
def bQ (s : Rat) : Rat := s * aQ s
theorem den_pos {s : Rat} (h : 0 ≤ s) : 0 < Qp + gQ * s := by
  have := qp_3
  have := Rat.mul_nonneg (Rat.le_of_lt g_pos) h
  grind
theorem pair_has {s : Res} (hs : In s ouI) {x : Rat} (h : HasQ s x) : HasQ (Or.a s) (aQ x) ∧ HasQ (Or.b s) (bQ x) := by
  obtain ⟨c1, c2, c3⟩ := Or.consts
  have P := pair_in hs
  have m := HasQ.mul c3 hs.fit g_has h P.m.fit.e
  have q := HasQ.add big_fit.1 P.m.fit pi_has m P.q.fit.e
  have lq : 0 < val (Or.q s).lo := by have := P.q.lo; have := Or.bigs.2.2.2.2.1; omega
  have a := HasQ.div u1_fit P.q.fit h_one q lq P.a.fit.e
  exact ⟨a, HasQ.mul hs.fit P.a.fit h a P.b.fit.e⟩
theorem aQ_pos {s : Rat} (h : 0 ≤ s) : 0 < aQ s := by
  unfold aQ
  rw [Rat.div_def, Rat.one_mul]
  exact Rat.inv_pos.2 (den_pos h)
theorem inv_anti {x y : Rat} (hx : 0 < x) (h : x ≤ y) : 1 / y ≤ 1 / x := by
  have hy : 0 < y := by grind
  have i := Rat.inv_pos.2 hx
  have j := Rat.inv_pos.2 hy
  rw [Rat.div_def, Rat.div_def, Rat.one_mul, Rat.one_mul]
  have k := Rat.mul_le_mul_of_nonneg_right h (Rat.le_of_lt (Rat.mul_pos i j))
  have e1 : x * (x⁻¹ * y⁻¹) = y⁻¹ := by grind
  have e2 : y * (x⁻¹ * y⁻¹) = x⁻¹ := by grind
  rw [e1, e2] at k
  exact k
theorem aQ_falls {s t : Rat} (h0 : 0 ≤ s) (h : s ≤ t) : aQ t ≤ aQ s := by
  unfold aQ
  have := Rat.mul_le_mul_of_nonneg_left h (Rat.le_of_lt g_pos)
  exact inv_anti (den_pos h0) (by grind)
theorem bQ_eq {s : Rat} (h : 0 ≤ s) : gQ * bQ s = 1 - Qp * aQ s := by
  have d := den_pos h
  unfold bQ aQ
  generalize hD : Qp + gQ * s = D at *
  have e1 : gQ * (s * (1 / D)) = (gQ * s) * (1 / D) := by grind
  have e2 : gQ * s = D - Qp := by grind
  rw [e1, e2]
  have e3 : D * (1 / D) = 1 := by grind
  have e4 : (D - Qp) * (1 / D) = D * (1 / D) - Qp * (1 / D) := by grind
  rw [e4, e3]
theorem bQ_rises {s t : Rat} (h0 : 0 ≤ s) (h : s ≤ t) : bQ s ≤ bQ t := by
  have e1 := bQ_eq h0
  have e2 := bQ_eq (by grind : 0 ≤ t)
  have a := Rat.mul_le_mul_of_nonneg_left (aQ_falls h0 h) (by have := qp_3; grind : 0 ≤ Qp)
  refine Rat.le_of_mul_le_mul_right (c := gQ) ?_ g_pos
  grind
/-- Both together. -/
theorem pair_one {s : Rat} (h : 0 ≤ s) : Qp * aQ s + gQ * bQ s = 1 := by rw [bQ_eq h]; grind

/-- The value of real numbers. -/
def valQ (r s t : Rat) : Rat := clampQ (r * (aQ s + bQ s * t))
theorem val_has {r s t : Res} (hr : In r ouI) (hs : In s ouI) (ht : In t oeI) {x y z : Rat} (h1 : HasQ r x) (h2 : HasQ s y) (h3 : HasQ t z) : HasQ (Or.val r s t) (valQ x y z) := by
  have V := val_fits hr hs ht
  have P := pair_in hs
  obtain ⟨pa, pb⟩ := pair_has hs h2
  have n := HasQ.mul P.b.fit ht.fit pb h3 V.n.fit.e
  have k := HasQ.add P.a.fit V.n.fit pa n V.k.fit.e
  exact HasQ.clamp V.l.fit (HasQ.mul hr.fit V.k.fit h1 k V.l.fit.e)
theorem inner_nonneg {s t : Rat} (h0 : 0 ≤ s) (h1 : s ≤ 1) (ht : -1 ≤ t) : 0 ≤ aQ s + bQ s * t := by
  have a := aQ_pos h0
  have e : aQ s + bQ s * t = aQ s * (1 + s * t) := by unfold bQ; grind
  rw [e]
  refine Rat.mul_nonneg (Rat.le_of_lt a) ?_
  have := Rat.mul_nonneg h0 (by grind : 0 ≤ t + 1)
  grind
theorem valQ_dot {r s t u : Rat} (hr : 0 ≤ r) (h0 : 0 ≤ s) (h : t ≤ u) : valQ r s t ≤ valQ r s u := by
  have a := aQ_pos h0
  have b : 0 ≤ bQ s := by unfold bQ; exact Rat.mul_nonneg h0 (Rat.le_of_lt a)
  unfold valQ
  refine clampQ_mono (Rat.mul_le_mul_of_nonneg_left ?_ hr)
  have := Rat.mul_le_mul_of_nonneg_left h b
  grind
theorem valQ_rho {r r' s t : Rat} (h0 : 0 ≤ s) (h1 : s ≤ 1) (ht : -1 ≤ t) (h : r ≤ r') : valQ r s t ≤ valQ r' s t := by
  unfold valQ
  exact clampQ_mono (Rat.mul_le_mul_of_nonneg_right h (inner_nonneg h0 h1 ht))

/-- Widths. -/
def BW.self (r : Res) : BW := ⟨r, val r.hi - val r.lo⟩
theorem Snd.self {r : Res} (f : Fit r) : Snd r (BW.self r) := ⟨⟨.refl f, Int.le_refl _⟩, f⟩
def Ow.m : BW := (BW.self Or.g).mul ⟨ouI, 0⟩
def Ow.q : BW := (BW.self piR).add Ow.m
def Ow.a : BW := (BW.one u1).div Ow.q
def Ow.b : BW := (BW.mk ouI 0).mul Ow.a
theorem ow_ok : bok Ow.m && bok Ow.q && bok Ow.a && bok Ow.b && decide (0 < val Ow.q.R.lo) = true := by decide +kernel
theorem pair_snd {s : Nat} (h : In (oneR s) ouI) : Snd (Or.a (oneR s)) Ow.a ∧ Snd (Or.b (oneR s)) Ow.b := by
  have o := ow_ok
  simp only [Bool.and_eq_true, decide_eq_true_eq] at o
  obtain ⟨⟨⟨⟨o1, o2⟩, o3⟩, o4⟩, o5⟩ := o
  have ss : Snd (oneR s) ⟨ouI, 0⟩ := ⟨.one h, ou_fit⟩
  have m := (Snd.self Or.consts.2.2).mul ss o1
  have q := (Snd.self big_fit.1).add m o2
  have a := (Snd.one (x := u1) (by decide) (by decide)).div q o3 o5
  exact ⟨a, ss.mul a o4⟩
/-- pi A and the rest times B. -/
def Ow.one : BW := ((BW.self piR).mul Ow.a).add ((BW.self Or.g).mul Ow.b)
theorem ow_one : bok ((BW.self piR).mul Ow.a) && bok ((BW.self Or.g).mul Ow.b) && bok Ow.one && decide (Ow.one.w ≤ val 4404520435568345088) = true := by decide +kernel
theorem one_snd {s : Nat} (h : In (oneR s) ouI) : Fit (mulR piR (Or.a (oneR s))) ∧ Fit (mulR Or.g (Or.b (oneR s))) ∧ Fit (addR (mulR piR (Or.a (oneR s))) (mulR Or.g (Or.b (oneR s)))) ∧
    val (addR (mulR piR (Or.a (oneR s))) (mulR Or.g (Or.b (oneR s)))).hi - val (addR (mulR piR (Or.a (oneR s))) (mulR Or.g (Or.b (oneR s)))).lo ≤ val 4404520435568345088 ∧ HasQ (addR (mulR piR (Or.a (oneR s))) (mulR Or.g (Or.b (oneR s)))) 1 := by
  have o := ow_one
  simp only [Bool.and_eq_true, decide_eq_true_eq] at o
  obtain ⟨⟨⟨o1, o2⟩, o3⟩, o4⟩ := o
  obtain ⟨a, b⟩ := pair_snd h
  have x := (Snd.self big_fit.1).mul a o1
  have y := (Snd.self Or.consts.2.2).mul b o2
  have z := x.add y o3
  obtain ⟨qa, qb⟩ := pair_has h (rv_has s)
  have s0 : 0 ≤ rv s := by rw [← rv_0]; exact rv_le.2 h.lo
  have hx := HasQ.mul big_fit.1 a.wid.has.fit pi_has qa x.wid.has.fit.e
  have hy := HasQ.mul Or.consts.2.2 b.wid.has.fit g_has qb y.wid.has.fit.e
  have hz := HasQ.add x.wid.has.fit y.wid.has.fit hx hy z.wid.has.fit.e
  rw [pair_one s0] at hz
  exact ⟨x.wid.has.fit, y.wid.has.fit, z.wid.has.fit, Int.le_trans z.wid.wide o4, hz⟩

/-- Cosines above 2^-8. -/
def c8I : Res := ⟨0, 4571153621781053440, u1⟩
theorem c8_fit : Fit c8I := .of (by decide +kernel)
def Ow.p : BW := (BW.mk c8I 0).mul ⟨c8I, 0⟩
def Ow.s : BW := (BW.mk oeI 0).sub Ow.p
def Ow.pos : BW := ⟨⟨0, 0, Ow.s.R.hi⟩, Ow.s.w⟩
/-- The greater cosine, by powers of two. -/
def half (k : Nat) : Nat := 4607182418800017408 - k * 4503599627370496
def Ow.r (k : Nat) : BW := Ow.pos.div ⟨⟨0, half (k + 1), half k⟩, 0⟩
def Ow.t (k : Nat) : BW := ⟨oeI, (Ow.r k).w + Ow.s.w⟩
def Ow.n (k : Nat) : BW := Ow.b.mul (Ow.t k)
def Ow.k (k : Nat) : BW := Ow.a.add (Ow.n k)
def Ow.l (k : Nat) : BW := (BW.mk ouI 0).mul (Ow.k k)
def Ow.ok (k : Nat) : Bool := fitB ⟨0, half (k + 1), half k⟩ && bok (Ow.r k) && bok (Ow.n k) && bok (Ow.k k) && bok (Ow.l k) && decide (0 ≤ (Ow.r k).w) && decide (0 ≤ val (Ow.r k).R.lo) && decide ((Ow.l k).w ≤ val 4427038433705197568) && decide (0 < val (half (k + 1)))
theorem ow_all : ∀ k, k < 8 → Ow.ok k = true := by decide +kernel
theorem ow_s : bok Ow.p && bok Ow.s && fitB Ow.pos.R && decide (0 ≤ Ow.s.w) = true := by decide +kernel
theorem ow_half : half 0 = u1 ∧ half 8 = 4571153621781053440 := by decide
theorem half_of {x : Nat} (h : In (oneR x) c8I) : ∃ k, k < 8 ∧ val (half (k + 1)) ≤ val x ∧ val x ≤ val (half k) := by
  have l : val (half 8) ≤ val x := by rw [ow_half.2]; exact h.lo
  have u : val x ≤ val (half 0) := by rw [ow_half.1]; exact h.hi
  by_cases g1 : val (half 1) ≤ val x
  · exact ⟨0, by decide, g1, u⟩
  by_cases g2 : val (half 2) ≤ val x
  · exact ⟨1, by decide, g2, by show val x ≤ val (half 1); omega⟩
  by_cases g3 : val (half 3) ≤ val x
  · exact ⟨2, by decide, g3, by show val x ≤ val (half 2); omega⟩
  by_cases g4 : val (half 4) ≤ val x
  · exact ⟨3, by decide, g4, by show val x ≤ val (half 3); omega⟩
  by_cases g5 : val (half 5) ≤ val x
  · exact ⟨4, by decide, g5, by show val x ≤ val (half 4); omega⟩
  by_cases g6 : val (half 6) ≤ val x
  · exact ⟨5, by decide, g6, by show val x ≤ val (half 5); omega⟩
  by_cases g7 : val (half 7) ≤ val x
  · exact ⟨6, by decide, g7, by show val x ≤ val (half 6); omega⟩
  exact ⟨7, by decide, l, by show val x ≤ val (half 7); omega⟩
theorem c8_ou {x : Nat} (h : In (oneR x) c8I) : In (oneR x) ouI := ⟨h.fit, Int.le_trans (by decide +kernel : val 0 ≤ val 4571153621781053440) h.lo, h.hi⟩
theorem pos_snd {r : Res} {x : BW} (s : Snd r x) (g : 0 < val r.hi) (f : Fit ⟨0, 0, x.R.hi⟩) : Snd (posR r) ⟨⟨0, 0, x.R.hi⟩, x.w⟩ := by
  obtain ⟨_, _, p3⟩ := max_facts r.lo 0 s.wid.has.fit.lo (by decide) s.wid.has.fit.rlo (by decide)
  rw [Or.v0] at p3
  have w := s.wid.wide
  refine ⟨⟨⟨pos_fit s.wid.has.fit g, ?_, s.wid.has.hi⟩, ?_⟩, f⟩
  · show val 0 ≤ val (maxW r.lo 0)
    rw [p3, Or.v0]; omega
  · show val r.hi - val (maxW r.lo 0) ≤ x.w
    rw [p3]; omega
theorem edge_snd {r : Res} {W : Int} (f : Fit r) (w : val r.hi - val r.lo ≤ W) : Snd (edgeR r) ⟨oeI, W⟩ := by
  refine ⟨⟨edge_unit f, ?_⟩, oe_fit⟩
  have l := f.le
  rw [edgeR_lo, edgeR_hi, (edge_facts f.lo f.rlo).2.2, (edge_facts f.hi f.rhi).2.2]
  have s0 := SS0
  show _ ≤ W
  omega
theorem st_wide {i o d : Res} (h : Dirs i o d) {ws wr : Int} (w1 : val (Or.s i o d).hi - val (Or.s i o d).lo ≤ ws) (hr : 0 < val (Or.s i o d).hi → Fit (Or.r i o d) ∧ 0 ≤ val (Or.r i o d).lo ∧ val (Or.r i o d).hi - val (Or.r i o d).lo ≤ wr) (r0 : 0 ≤ wr) :
    (Or.st i o d).e = 0 ∧ Fit (Or.st i o d) ∧ val (Or.st i o d).hi - val (Or.st i o d).lo ≤ wr + ws := by
  have K := slope_fits h
  have sl := K.s.fit.le
  by_cases g : 0 < val (Or.s i o d).hi
  · have P := pos_fit K.s.fit g
    obtain ⟨fr, rl, rw'⟩ := hr g
    have e := fr.e
    obtain ⟨_, _, p3⟩ := max_facts (Or.s i o d).lo 0 K.s.fit.lo (by decide) K.s.fit.rlo (by decide)
    rw [Or.v0] at p3
    have est : Or.st i o d = if 0 ≤ val (Or.s i o d).lo then Or.r i o d else midR (Or.s i o d) (Or.r i o d) := by
      unfold Or.st
      rw [if_pos g, if_pos e]
    rw [est]
    by_cases l : 0 ≤ val (Or.s i o d).lo
    · rw [if_pos l]
      exact ⟨e, fr, by omega⟩
    · rw [if_neg l]
      obtain ⟨_, _, x3⟩ := min_facts (Or.s i o d).lo (Or.r i o d).lo K.s.fit.lo fr.lo K.s.fit.rlo fr.rlo
      obtain ⟨_, _, y3⟩ := max_facts 0 (Or.r i o d).hi (by decide) fr.hi (by decide) fr.rhi
      rw [Or.v0] at y3
      have tp := top_pos h e
      have z : HasQ (posR (Or.s i o d)) 0 := by
        refine ⟨?_, ?_⟩
        · rw [Rat.zero_mul]; exact Rat.intCast_le_intCast.2 (by show val (maxW (Or.s i o d).lo 0) ≤ 0; rw [p3]; omega)
        · rw [Rat.zero_mul]; exact Rat.intCast_le_intCast.2 (by show 0 ≤ val (Or.s i o d).hi; omega)
      have q := HasQ.div P K.top.fit z (HasQ.fst K.top.fit) tp e
      have q' := q.low
      have e0 : (0 : Rat) / (((val (Or.top i o).lo : Int) : Rat) / ((SS : Int) : Rat)) = 0 := by rw [Rat.div_def, Rat.zero_mul]
      rw [e0, Rat.zero_mul] at q'
      have q0 : val (Or.r i o d).lo ≤ 0 := Rat.intCast_le_intCast.1 q'
      refine ⟨rfl, mid_fit K.s.fit fr (by omega), ?_⟩
      show val (maxW 0 (Or.r i o d).hi) - val (minW (Or.s i o d).lo (Or.r i o d).lo) ≤ _
      rw [x3, y3]; omega
  · have est : Or.st i o d = Or.s i o d := by
      unfold Or.st
      rw [if_neg g]
    rw [est]
    exact ⟨K.s.fit.e, K.s.fit, by omega⟩
/-- Of such cosines a slope has no error, and is so narrow. -/
theorem slope_snd {i o d : Nat} (hi : In (oneR i) c8I) (ho : In (oneR o) c8I) (hd : In (oneR d) oeI) :
    (Or.st (oneR i) (oneR o) (oneR d)).e = 0 ∧ ∃ k, k < 8 ∧ Snd (Or.slope (oneR i) (oneR o) (oneR d)) (Ow.t k) := by
  have h : Dirs (oneR i) (oneR o) (oneR d) := ⟨c8_ou hi, c8_ou ho, hd⟩
  have o' := ow_s
  simp only [Bool.and_eq_true, decide_eq_true_eq] at o'
  obtain ⟨⟨⟨o1, o2⟩, o3⟩, _⟩ := o'
  have p : Snd (Or.p (oneR i) (oneR o)) Ow.p := Snd.mul (x := ⟨c8I, 0⟩) (y := ⟨c8I, 0⟩) ⟨.one hi, c8_fit⟩ ⟨.one ho, c8_fit⟩ o1
  have s : Snd (Or.s (oneR i) (oneR o) (oneR d)) Ow.s := Snd.sub (x := ⟨oeI, 0⟩) ⟨.one hd, oe_fit⟩ p o2
  obtain ⟨mx1, mx2, mx3⟩ := max_facts i o hi.fit.lo ho.fit.lo hi.fit.rlo ho.fit.rlo
  have ht : In (oneR (maxW i o)) c8I := by
    have a1 := hi.lo
    have a2 := hi.hi
    have b1 := ho.lo
    have b2 := ho.hi
    refine ⟨one_fit mx1 mx2, ?_, ?_⟩
    · show val c8I.lo ≤ val (maxW i o)
      rw [mx3]
      exact Int.le_trans a1 (Int.le_max_left _ _)
    · show val (maxW i o) ≤ val c8I.hi
      rw [mx3]
      exact Int.max_le.2 ⟨a2, b2⟩
  obtain ⟨k, k8, t1, t2⟩ := half_of ht
  have ok := ow_all k k8
  unfold Ow.ok at ok
  simp only [Bool.and_eq_true, decide_eq_true_eq] at ok
  obtain ⟨⟨⟨⟨⟨⟨⟨⟨q1, q2⟩, _⟩, _⟩, _⟩, q6⟩, q7⟩, _⟩, q9⟩ := ok
  have tt : Snd (Or.top (oneR i) (oneR o)) ⟨⟨0, half (k + 1), half k⟩, 0⟩ := ⟨.one ⟨ht.fit, t1, t2⟩, .of q1⟩
  obtain ⟨e, f, w⟩ := st_wide h s.wid.wide (fun g => by
    have r : Snd (Or.r (oneR i) (oneR o) (oneR d)) (Ow.r k) := (pos_snd s g (.of o3)).div tt q2 q9
    exact ⟨r.wid.has.fit, Int.le_trans q7 r.wid.has.lo, r.wid.wide⟩) q6
  exact ⟨e, k, k8, edge_snd f w⟩
theorem value_narrow {r s i o d : Nat} (hr : In (oneR r) ouI) (hs : In (oneR s) ouI) (hi : In (oneR i) c8I) (ho : In (oneR o) c8I) (hd : In (oneR d) oeI) :
    val (Or.val (oneR r) (oneR s) (Or.slope (oneR i) (oneR o) (oneR d))).hi - val (Or.val (oneR r) (oneR s) (Or.slope (oneR i) (oneR o) (oneR d))).lo ≤ val 4427038433705197568 := by
  obtain ⟨_, k, k8, t⟩ := slope_snd hi ho hd
  have ok := ow_all k k8
  unfold Ow.ok at ok
  simp only [Bool.and_eq_true, decide_eq_true_eq] at ok
  obtain ⟨⟨⟨⟨⟨⟨⟨⟨_, _⟩, q3⟩, q4⟩, q5⟩, _⟩, _⟩, q8⟩, _⟩ := ok
  obtain ⟨a, b⟩ := pair_snd hs
  have n := b.mul t q3
  have kk := a.add n q4
  have l : Snd (Or.l (oneR r) (oneR s) (Or.slope (oneR i) (oneR o) (oneR d))) (Ow.l k) := Snd.mul (x := ⟨ouI, 0⟩) ⟨.one hr, ou_fit⟩ kk q5
  exact Int.le_trans (clamp_wide l.wid.has.fit) (Int.le_trans l.wid.wide q8)
end Go.Proofs.Ytdppppaoflhgdaa
