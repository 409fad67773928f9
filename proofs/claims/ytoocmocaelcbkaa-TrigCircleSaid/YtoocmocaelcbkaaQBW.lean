
/- Boxes with widths: what is worked out of them bounds what is worked out of anything within. No program is named here. -/
import Derived.Test.YtoocmocaelcbkaaQM
namespace Go.Proofs.Ytoocmocaelcbkaa
open Go.RowKit

theorem HasV.to {r : Res} {P T P' T' : Int} (h : HasV r P T) (hP : 0 < P') (e : T * P' = T' * P) : HasV r P' T' := by
  have p := h.pos
  refine ⟨hP, ?_, ?_⟩
  · refine Int.le_of_mul_le_mul_right ?_ p
    have k := Int.mul_le_mul_of_nonneg_right h.low (Int.le_of_lt hP)
    have e1 : val r.lo * P' * P = val r.lo * P * P' := by grind
    have e2 : T' * SS * P = T * SS * P' := by grind
    rw [e1, e2]; exact k
  · refine Int.le_of_mul_le_mul_right ?_ p
    have k := Int.mul_le_mul_of_nonneg_right h.high (Int.le_of_lt hP)
    have e1 : val r.hi * P' * P = val r.hi * P * P' := by grind
    have e2 : T' * SS * P = T * SS * P' := by grind
    rw [e1, e2]; exact k
theorem HasV.low_end {r : Res} (f : Fit r) : HasV r SS (val r.lo) := by
  refine ⟨SS0, Int.le_refl _, Int.mul_le_mul_of_nonneg_right f.le (Int.le_of_lt SS0)⟩
theorem lit_vals : val 4607182418800017408 = SS ∧ val 4602678819172646912 * 2 = SS ∧ val 4611686018427387904 = 2 * SS ∧ val 4616189618054758400 = 4 * SS ∧ val 4607463893776728064 * 16 = 17 * SS := by decide +kernel
theorem v_one : HasV (oneR 4607182418800017408) 1 1 := .lit (by decide) (by rw [lit_vals.1]; omega)
theorem v_half : HasV (oneR 4602678819172646912) 2 1 := .lit (by decide) (by rw [lit_vals.2.1]; omega)
theorem v_two : HasV (oneR 4611686018427387904) 1 2 := .lit (by decide) (by rw [lit_vals.2.2.1]; omega)
theorem v_four : HasV (oneR 4616189618054758400) 1 4 := .lit (by decide) (by rw [lit_vals.2.2.2.1]; omega)
theorem v_zero : HasV (oneR 0) 1 0 := .lit (by decide) (by rw [val_nil]; omega)
theorem f_one : Fit (oneR 4607182418800017408) := one_fit (by decide) (by decide)
theorem f_half : Fit (oneR 4602678819172646912) := one_fit (by decide) (by decide)
theorem i_one : In (oneR 4607182418800017408) bigC := ⟨f_one, by decide +kernel, by decide +kernel⟩
theorem i_zero : In (oneR 0) bigC := ⟨one_fit (by decide) (by decide), by decide +kernel, by decide +kernel⟩
theorem di_lows : 0 < val (Di.more bigC bigN).lo ∧ 0 < val (Di.under bigC bigN).lo := by decide +kernel

/-- Straight on: the square of (n - 1) / (n + 1). -/
theorem di_point {x : Nat} (i : In (oneR x) bigN) : HasV (Di.out (oneR 4607182418800017408) (oneR x)) ((val x + SS) * (val x + SS)) ((val x - SS) * (val x - SS)) := by
  have P := Di.parts Di.big i_one i
  have D := P.fits f_one i.fit
  have X1 : SS ≤ val x := by
    have h : val 4607463893776728064 ≤ val x := i.lo
    have := lit_vals.2.2.2.2
    have := SS0
    omega
  have m0 : 0 < val (Di.more (oneR 4607182418800017408) (oneR x)).lo := by have := di_lows.1; have := P.more'.lo; omega
  have u0 : 0 < val (Di.under (oneR 4607182418800017408) (oneR x)).lo := by have := di_lows.2; have := P.under'.lo; omega
  have s0 := SS0
  generalize hX : val x = X at *
  have h_n : HasV (oneR x) SS X := by rw [← hX]; exact .one x
  have h_s2 : HasV (Di.s2 (oneR 4607182418800017408) (oneR x)) (SS * SS) (X * X) := HasV.sqr i.fit h_n D.s2'.e
  have h_s3 : HasV (Di.s3 (oneR 4607182418800017408) (oneR x)) (SS * SS) (X * X - SS * SS) := (HasV.sub D.s2' f_one h_s2 v_one D.s3'.e).turn (by omega) (by omega)
  have h_s4 : HasV (Di.s4 (oneR 4607182418800017408) (oneR x)) 1 1 := HasV.sqr f_one v_one D.s4'.e
  have h_s5 : HasV (Di.s5 (oneR 4607182418800017408) (oneR x)) (SS * SS) (X * X) := (HasV.add D.s3' D.s4' h_s3 h_s4 D.s5'.e).turn (by omega) (by omega)
  have h_g : HasV (Di.g (oneR 4607182418800017408) (oneR x)) SS X := HasV.sqrt D.s5' h_s5 D.g'.e s0 (by omega) rfl
  have h_more : HasV (Di.more (oneR 4607182418800017408) (oneR x)) SS (X + SS) := (HasV.add D.g' f_one h_g v_one D.more'.e).turn (by omega) (by omega)
  have h_less : HasV (Di.less (oneR 4607182418800017408) (oneR x)) SS (X - SS) := (HasV.sub D.g' f_one h_g v_one D.less'.e).turn (by omega) (by omega)
  have h_pq : HasV (Di.pq (oneR 4607182418800017408) (oneR x)) (X + SS) (X - SS) := (HasV.div D.less' D.more' h_less h_more m0 D.pq'.e).2.to (by omega) (by grind)
  have h_p : HasV (Di.p (oneR 4607182418800017408) (oneR x)) ((X + SS) * (X + SS)) ((X - SS) * (X - SS)) := HasV.sqr D.pq' h_pq D.p'.e
  have h_m11 : HasV (Di.m11 (oneR 4607182418800017408) (oneR x)) SS (X + SS) := (HasV.mul f_one D.more' v_one h_more D.m11'.e).turn (by omega) (by omega)
  have h_over : HasV (Di.over (oneR 4607182418800017408) (oneR x)) SS X := (HasV.sub D.m11' f_one h_m11 v_one D.over'.e).turn (by omega) (by omega)
  have h_m13 : HasV (Di.m13 (oneR 4607182418800017408) (oneR x)) SS (X - SS) := (HasV.mul f_one D.less' v_one h_less D.m13'.e).turn (by omega) (by omega)
  have h_under : HasV (Di.under (oneR 4607182418800017408) (oneR x)) SS X := (HasV.add D.m13' f_one h_m13 v_one D.under'.e).turn (by omega) (by omega)
  have h_qq : HasV (Di.qq (oneR 4607182418800017408) (oneR x)) 1 1 := (HasV.div D.over' D.under' h_over h_under u0 D.qq'.e).2.to (by omega) (by grind)
  have h_q : HasV (Di.q (oneR 4607182418800017408) (oneR x)) 1 1 := HasV.sqr D.qq' h_qq D.q'.e
  have h_hp : HasV (Di.hp (oneR 4607182418800017408) (oneR x)) (2 * ((X + SS) * (X + SS))) (1 * ((X - SS) * (X - SS))) := HasV.mul f_half D.p' v_half h_p D.hp'.e
  have h_oq : HasV (Di.oq (oneR 4607182418800017408) (oneR x)) 1 2 := HasV.add f_one D.q' v_one h_q D.oq'.e
  have pp : 0 < (X + SS) * (X + SS) := Int.mul_pos (by omega) (by omega)
  have h_f : HasV (Di.f (oneR 4607182418800017408) (oneR x)) ((X + SS) * (X + SS)) ((X - SS) * (X - SS)) := (HasV.mul D.hp' D.oq' h_hp h_oq D.f'.e).to pp (by grind)
  exact HasV.clamp D.f' h_f (self_nonneg _) (Int.mul_le_mul (by omega) (by omega) (by omega) (by omega))

/-- Along the surface: all. -/
theorem di_all {x : Nat} (i : In (oneR x) bigN) : HasV (Di.out (oneR 0) (oneR x)) 1 1 := by
  have P := Di.parts Di.big i_zero i
  have fz : Fit (oneR 0) := i_zero.fit
  have D := P.fits fz i.fit
  have m0 : 0 < val (Di.more (oneR 0) (oneR x)).lo := by have := di_lows.1; have := P.more'.lo; omega
  have u0 : 0 < val (Di.under (oneR 0) (oneR x)).lo := by have := di_lows.2; have := P.under'.lo; omega
  have s0 := SS0
  have h_g : HasV (Di.g (oneR 0) (oneR x)) SS (val (Di.g (oneR 0) (oneR x)).lo) := .low_end D.g'
  generalize val (Di.g (oneR 0) (oneR x)).lo = X at h_g
  have h_more : HasV (Di.more (oneR 0) (oneR x)) SS X := (HasV.add D.g' fz h_g v_zero D.more'.e).turn (by omega) (by omega)
  have h_less : HasV (Di.less (oneR 0) (oneR x)) SS X := (HasV.sub D.g' fz h_g v_zero D.less'.e).turn (by omega) (by omega)
  have h_pq : HasV (Di.pq (oneR 0) (oneR x)) 1 1 := (HasV.div D.less' D.more' h_less h_more m0 D.pq'.e).2.to (by omega) (by grind)
  have h_p : HasV (Di.p (oneR 0) (oneR x)) 1 1 := HasV.sqr D.pq' h_pq D.p'.e
  have h_m11 : HasV (Di.m11 (oneR 0) (oneR x)) 1 0 := (HasV.mul fz D.more' v_zero h_more D.m11'.e).to (by omega) (by grind)
  have h_over : HasV (Di.over (oneR 0) (oneR x)) 1 (-1) := HasV.sub D.m11' f_one h_m11 v_one D.over'.e
  have h_m13 : HasV (Di.m13 (oneR 0) (oneR x)) 1 0 := (HasV.mul fz D.less' v_zero h_less D.m13'.e).to (by omega) (by grind)
  have h_under : HasV (Di.under (oneR 0) (oneR x)) 1 1 := HasV.add D.m13' f_one h_m13 v_one D.under'.e
  have h_qq : HasV (Di.qq (oneR 0) (oneR x)) 1 (-1) := (HasV.div D.over' D.under' h_over h_under u0 D.qq'.e).2
  have h_q : HasV (Di.q (oneR 0) (oneR x)) 1 1 := HasV.sqr D.qq' h_qq D.q'.e
  have h_hp : HasV (Di.hp (oneR 0) (oneR x)) 2 1 := HasV.mul f_half D.p' v_half h_p D.hp'.e
  have h_oq : HasV (Di.oq (oneR 0) (oneR x)) 1 2 := HasV.add f_one D.q' v_one h_q D.oq'.e
  have h_f : HasV (Di.f (oneR 0) (oneR x)) 1 1 := (HasV.mul D.hp' D.oq' h_hp h_oq D.f'.e).to (by omega) (by omega)
  exact HasV.clamp D.f' h_f (by omega) (by omega)

/-- How wide, of the widest. -/
def wAdd (r : Res) (wa wb : Int) : Int := wa + wb + 2 * gapP r
def wMul (r A B : Res) (wa wb : Int) : Int := (wa * magn B + magn A * wb) / SS + 2 * gapP r
def wDiv (r A B : Res) (wa wb : Int) : Int := SS * (wa * magn B + magn A * wb) / (val B.lo * val B.lo) + 2 * gapP r
def wSqr (r A : Res) (wa : Int) : Int := wa * (2 * magn A) / SS + 2 * gapP r
def wSqrt (r : Res) (wa : Int) : Int := wa * SS / (2 * val r.lo) + 2 * gapP r

def Di.w2 (_C N : Res) (wn : Int) : Int := wSqr (Di.s2 _C N) N wn
def Di.w3 (C N : Res) (wn : Int) : Int := wAdd (Di.s3 C N) (Di.w2 C N wn) 0
def Di.w5 (C N : Res) (wn : Int) : Int := wAdd (Di.s5 C N) (Di.w3 C N wn) (wSqr (Di.s4 C N) C 0)
def Di.wg (C N : Res) (wn : Int) : Int := wSqrt (Di.g C N) (Di.w5 C N wn)
def Di.wmore (C N : Res) (wn : Int) : Int := wAdd (Di.more C N) (Di.wg C N wn) 0
def Di.wless (C N : Res) (wn : Int) : Int := wAdd (Di.less C N) (Di.wg C N wn) 0
def Di.wpq (C N : Res) (wn : Int) : Int := wDiv (Di.pq C N) (Di.less C N) (Di.more C N) (Di.wless C N wn) (Di.wmore C N wn)
def Di.wp (C N : Res) (wn : Int) : Int := wSqr (Di.p C N) (Di.pq C N) (Di.wpq C N wn)
def Di.w11 (C N : Res) (wn : Int) : Int := wMul (Di.m11 C N) C (Di.more C N) 0 (Di.wmore C N wn)
def Di.wover (C N : Res) (wn : Int) : Int := wAdd (Di.over C N) (Di.w11 C N wn) 0
def Di.w13 (C N : Res) (wn : Int) : Int := wMul (Di.m13 C N) C (Di.less C N) 0 (Di.wless C N wn)
def Di.wunder (C N : Res) (wn : Int) : Int := wAdd (Di.under C N) (Di.w13 C N wn) 0
def Di.wqq (C N : Res) (wn : Int) : Int := wDiv (Di.qq C N) (Di.over C N) (Di.under C N) (Di.wover C N wn) (Di.wunder C N wn)
def Di.wq (C N : Res) (wn : Int) : Int := wSqr (Di.q C N) (Di.qq C N) (Di.wqq C N wn)
def Di.whp (C N : Res) (wn : Int) : Int := wMul (Di.hp C N) (oneR 4602678819172646912) (Di.p C N) 0 (Di.wp C N wn)
def Di.woq (C N : Res) (wn : Int) : Int := wAdd (Di.oq C N) 0 (Di.wq C N wn)
def Di.wf (C N : Res) (wn : Int) : Int := wMul (Di.f C N) (Di.hp C N) (Di.oq C N) (Di.whp C N wn) (Di.woq C N wn)
def kOk (r : Res) : Bool := decide (gapK r ≤ 1899)
def Di.ok (C N : Res) : Bool := kOk (Di.s2 C N) && kOk (Di.s3 C N) && kOk (Di.s4 C N) && kOk (Di.s5 C N) && kOk (Di.g C N) && kOk (Di.more C N) && kOk (Di.less C N) && kOk (Di.pq C N) && kOk (Di.p C N) && kOk (Di.m11 C N) && kOk (Di.over C N) && kOk (Di.m13 C N) && kOk (Di.under C N) && kOk (Di.qq C N) && kOk (Di.q C N) && kOk (Di.hp C N) && kOk (Di.oq C N) && kOk (Di.f C N)
  && decide (0 < val (Di.g C N).lo) && decide (0 < val (Di.more C N).lo) && decide (0 < val (Di.under C N).lo)

theorem di_wide {c n C N : Res} {wn : Int} (D : Di.Fits C N) (hc : Wid c C 0) (hn : Wid n N wn) (ok : Di.ok C N = true) : Wid (Di.f c n) (Di.f C N) (Di.wf C N wn) := by
  unfold Di.ok kOk at ok
  simp only [Bool.and_eq_true, decide_eq_true_eq] at ok
  obtain ⟨⟨⟨⟨⟨⟨⟨⟨⟨⟨⟨⟨⟨⟨⟨⟨⟨⟨⟨⟨k1, k2⟩, k3⟩, k4⟩, k5⟩, k6⟩, k7⟩, k8⟩, k9⟩, k10⟩, k11⟩, k12⟩, k13⟩, k14⟩, k15⟩, k16⟩, k17⟩, k18⟩, l1⟩, l2⟩, l3⟩ := ok
  have one : Wid (oneR 4607182418800017408) (oneR 4607182418800017408) 0 := .one (.refl f_one)
  have half : Wid (oneR 4602678819172646912) (oneR 4602678819172646912) 0 := .one (.refl f_half)
  have j2 : Wid (Di.s2 c n) (Di.s2 C N) (Di.w2 C N wn) := Wid.sqr hn D.fn D.s2'.e k1
  have j3 : Wid (Di.s3 c n) (Di.s3 C N) (Di.w3 C N wn) := Wid.sub j2 D.s2' one f_one D.s3'.e k2
  have j4 : Wid (Di.s4 c n) (Di.s4 C N) (wSqr (Di.s4 C N) C 0) := Wid.sqr hc D.fc D.s4'.e k3
  have j5 : Wid (Di.s5 c n) (Di.s5 C N) (Di.w5 C N wn) := Wid.add j3 D.s3' j4 D.s4' D.s5'.e k4
  have jg : Wid (Di.g c n) (Di.g C N) (Di.wg C N wn) := Wid.sqrt j5 D.s5' l1 D.g'.e k5
  have jm : Wid (Di.more c n) (Di.more C N) (Di.wmore C N wn) := Wid.add jg D.g' hc D.fc D.more'.e k6
  have jl : Wid (Di.less c n) (Di.less C N) (Di.wless C N wn) := Wid.sub jg D.g' hc D.fc D.less'.e k7
  have jpq : Wid (Di.pq c n) (Di.pq C N) (Di.wpq C N wn) := Wid.div jl D.less' jm D.more' l2 D.pq'.e k8
  have jp : Wid (Di.p c n) (Di.p C N) (Di.wp C N wn) := Wid.sqr jpq D.pq' D.p'.e k9
  have j11 : Wid (Di.m11 c n) (Di.m11 C N) (Di.w11 C N wn) := Wid.mul hc D.fc jm D.more' D.m11'.e k10
  have jo : Wid (Di.over c n) (Di.over C N) (Di.wover C N wn) := Wid.sub j11 D.m11' one f_one D.over'.e k11
  have j13 : Wid (Di.m13 c n) (Di.m13 C N) (Di.w13 C N wn) := Wid.mul hc D.fc jl D.less' D.m13'.e k12
  have ju : Wid (Di.under c n) (Di.under C N) (Di.wunder C N wn) := Wid.add j13 D.m13' one f_one D.under'.e k13
  have jqq : Wid (Di.qq c n) (Di.qq C N) (Di.wqq C N wn) := Wid.div jo D.over' ju D.under' l3 D.qq'.e k14
  have jq : Wid (Di.q c n) (Di.q C N) (Di.wq C N wn) := Wid.sqr jqq D.qq' D.q'.e k15
  have jhp : Wid (Di.hp c n) (Di.hp C N) (Di.whp C N wn) := Wid.mul half f_half jp D.p' D.hp'.e k16
  have joq : Wid (Di.oq c n) (Di.oq C N) (Di.woq C N wn) := Wid.add one f_one jq D.q' D.oq'.e k17
  exact Wid.mul jhp D.hp' joq D.oq' D.f'.e k18

theorem clamp_wide {r : Res} (f : Fit r) : val (clampR r).hi - val (clampR r).lo ≤ val r.hi - val r.lo := by
  obtain ⟨_, _, x3⟩ := clamp_facts f.lo f.rlo
  obtain ⟨_, _, y3⟩ := clamp_facts f.hi f.rhi
  have e1 : (clampR r).lo = clampW r.lo := rfl
  have e2 : (clampR r).hi = clampW r.hi := rfl
  have u : val u1 = SS := by decide +kernel
  have l := f.le
  have := SS0
  rw [e1, e2, x3, y3, u]
  omega

/-- Of indices from one number to another one: no wider than 2^-43. -/
def Di.slim (a b : Nat) : Bool := Di.ok (oneR 4607182418800017408) ⟨0, a, b⟩ && Di.ok (oneR 0) ⟨0, a, b⟩ && decide (Di.wf (oneR 4607182418800017408) ⟨0, a, b⟩ 0 ≤ val 4413527634823086080) && decide (Di.wf (oneR 0) ⟨0, a, b⟩ 0 ≤ val 4413527634823086080)
theorem di_box {a b x : Nat} (hB : In ⟨0, a, b⟩ bigN) (hs : Di.slim a b = true) (f : Fit (oneR x)) (h1 : val a ≤ val x) (h2 : val x ≤ val b) :
    val (Di.out (oneR 4607182418800017408) (oneR x)).hi - val (Di.out (oneR 4607182418800017408) (oneR x)).lo ≤ val 4413527634823086080 ∧ val (Di.out (oneR 0) (oneR x)).hi - val (Di.out (oneR 0) (oneR x)).lo ≤ val 4413527634823086080 := by
  unfold Di.slim at hs
  simp only [Bool.and_eq_true, decide_eq_true_eq] at hs
  obtain ⟨⟨⟨o1, o0⟩, w1⟩, w0⟩ := hs
  have i : In (oneR x) ⟨0, a, b⟩ := ⟨f, h1, h2⟩
  have D1 := (Di.parts Di.big i_one hB).fits f_one hB.fit
  have D0 := (Di.parts Di.big i_zero hB).fits i_zero.fit hB.fit
  have W1 := di_wide D1 (.one (.refl f_one)) (.one i) o1
  have W0 := di_wide D0 (.one (.refl i_zero.fit)) (.one i) o0
  have c1 := clamp_wide W1.has.fit
  have c0 := clamp_wide W0.has.fit
  have x1 := W1.wide
  have x0 := W0.wide
  exact ⟨Int.le_trans c1 (Int.le_trans x1 w1), Int.le_trans c0 (Int.le_trans x0 w0)⟩
theorem slim_0 : In ⟨0, 4607463893776728064, 4607745368753438720⟩ bigN ∧ Di.slim 4607463893776728064 4607745368753438720 = true := ⟨⟨.of (by decide +kernel), by decide +kernel, by decide +kernel⟩, by decide +kernel⟩
theorem slim_1 : In ⟨0, 4607745368753438720, 4608308318706860032⟩ bigN ∧ Di.slim 4607745368753438720 4608308318706860032 = true := ⟨⟨.of (by decide +kernel), by decide +kernel, by decide +kernel⟩, by decide +kernel⟩
theorem slim_2 : In ⟨0, 4608308318706860032, 4609434218613702656⟩ bigN ∧ Di.slim 4608308318706860032 4609434218613702656 = true := ⟨⟨.of (by decide +kernel), by decide +kernel, by decide +kernel⟩, by decide +kernel⟩
theorem slim_3 : In ⟨0, 4609434218613702656, 4611686018427387904⟩ bigN ∧ Di.slim 4609434218613702656 4611686018427387904 = true := ⟨⟨.of (by decide +kernel), by decide +kernel, by decide +kernel⟩, by decide +kernel⟩
theorem slim_4 : In ⟨0, 4611686018427387904, 4613937818241073152⟩ bigN ∧ Di.slim 4611686018427387904 4613937818241073152 = true := ⟨⟨.of (by decide +kernel), by decide +kernel, by decide +kernel⟩, by decide +kernel⟩
theorem slim_5 : In ⟨0, 4613937818241073152, 4616189618054758400⟩ bigN ∧ Di.slim 4613937818241073152 4616189618054758400 = true := ⟨⟨.of (by decide +kernel), by decide +kernel, by decide +kernel⟩, by decide +kernel⟩
theorem di_narrow {x : Nat} (i : In (oneR x) bigN) :
    val (Di.out (oneR 4607182418800017408) (oneR x)).hi - val (Di.out (oneR 4607182418800017408) (oneR x)).lo ≤ val 4413527634823086080 ∧ val (Di.out (oneR 0) (oneR x)).hi - val (Di.out (oneR 0) (oneR x)).lo ≤ val 4413527634823086080 := by
  have f := i.fit
  have h0 : val 4607463893776728064 ≤ val x := i.lo
  have h6 : val x ≤ val 4616189618054758400 := i.hi
  rcases Int.le_total (val x) (val 4607745368753438720) with g | h1
  · exact di_box slim_0.1 slim_0.2 f h0 g
  rcases Int.le_total (val x) (val 4608308318706860032) with g | h2
  · exact di_box slim_1.1 slim_1.2 f h1 g
  rcases Int.le_total (val x) (val 4609434218613702656) with g | h3
  · exact di_box slim_2.1 slim_2.2 f h2 g
  rcases Int.le_total (val x) (val 4611686018427387904) with g | h4
  · exact di_box slim_3.1 slim_3.2 f h3 g
  rcases Int.le_total (val x) (val 4613937818241073152) with g | h5
  · exact di_box slim_4.1 slim_4.2 f h4 g
  exact di_box slim_5.1 slim_5.2 f h5 h6

end Go.Proofs.Ytoocmocaelcbkaa

namespace Go.Proofs.Ytoocmocaelcbkaa
open Go.RowKit

structure BW where
  R : Res
  w : Int
/-- r lies within the box, and is no wider. -/
structure Snd (r : Res) (x : BW) : Prop where
  wid : Wid r x.R x.w
  fit : Fit x.R
def bok (x : BW) : Bool := fitB x.R && kOk x.R
def BW.add (x y : BW) : BW := ⟨addR x.R y.R, wAdd (addR x.R y.R) x.w y.w⟩
def BW.sub (x y : BW) : BW := ⟨subR x.R y.R, wAdd (subR x.R y.R) x.w y.w⟩
def BW.mul (x y : BW) : BW := ⟨mulR x.R y.R, wMul (mulR x.R y.R) x.R y.R x.w y.w⟩
def BW.div (x y : BW) : BW := ⟨divR x.R y.R, wDiv (divR x.R y.R) x.R y.R x.w y.w⟩
def BW.sqr (x : BW) : BW := ⟨sqrR x.R, wSqr (sqrR x.R) x.R x.w⟩
def BW.sqrt (x : BW) : BW := ⟨sqrtR x.R, wSqrt (sqrtR x.R) x.w⟩
def BW.clamp (x : BW) : BW := ⟨clampR x.R, x.w⟩
def BW.one (x : Nat) : BW := ⟨oneR x, 0⟩
theorem bok_parts {x : BW} (h : bok x = true) : Fit x.R ∧ gapK x.R ≤ 1899 := by
  unfold bok kOk at h
  simp only [Bool.and_eq_true, decide_eq_true_eq] at h
  exact ⟨.of h.1, h.2⟩

section
variable {r s : Res} {x y : BW} (h : Snd r x) (g : Snd s y)
include h
theorem Snd.sqr (ok : bok x.sqr = true) : Snd (sqrR r) x.sqr := by
  obtain ⟨f, k⟩ := bok_parts ok
  exact ⟨Wid.sqr h.wid h.fit f.e k, f⟩
theorem Snd.sqrt (ok : bok x.sqrt = true) (l : 0 < val x.sqrt.R.lo) : Snd (sqrtR r) x.sqrt := by
  obtain ⟨f, k⟩ := bok_parts ok
  exact ⟨Wid.sqrt h.wid h.fit l f.e k, f⟩
theorem Snd.clamp : Snd (clampR r) x.clamp :=
  ⟨⟨clamp_in h.wid.has h.fit, Int.le_trans (clamp_wide h.wid.has.fit) h.wid.wide⟩, clamp_fit h.fit⟩
include g
theorem Snd.add (ok : bok (x.add y) = true) : Snd (addR r s) (x.add y) := by
  obtain ⟨f, k⟩ := bok_parts ok
  exact ⟨Wid.add h.wid h.fit g.wid g.fit f.e k, f⟩
theorem Snd.sub (ok : bok (x.sub y) = true) : Snd (subR r s) (x.sub y) := by
  obtain ⟨f, k⟩ := bok_parts ok
  exact ⟨Wid.sub h.wid h.fit g.wid g.fit f.e k, f⟩
theorem Snd.mul (ok : bok (x.mul y) = true) : Snd (mulR r s) (x.mul y) := by
  obtain ⟨f, k⟩ := bok_parts ok
  exact ⟨Wid.mul h.wid h.fit g.wid g.fit f.e k, f⟩
theorem Snd.div (ok : bok (x.div y) = true) (l : 0 < val y.R.lo) : Snd (divR r s) (x.div y) := by
  obtain ⟨f, k⟩ := bok_parts ok
  exact ⟨Wid.div h.wid h.fit g.wid g.fit l f.e k, f⟩
end
theorem Snd.one {x : Nat} (lx : x < 18446744073709551616) (rx : rightB x = true) : Snd (oneR x) (BW.one x) := ⟨.one (.refl (one_fit lx rx)), one_fit lx rx⟩
theorem Snd.box {x a b : Nat} (fB : Fit ⟨0, a, b⟩) (f : Fit (oneR x)) (h1 : val a ≤ val x) (h2 : val x ≤ val b) : Snd (oneR x) ⟨⟨0, a, b⟩, 0⟩ := ⟨.one ⟨f, h1, h2⟩, fB⟩
/-- What is exact. -/
theorem Snd.exact {r : Res} (f : Fit r) (h : val r.hi ≤ val r.lo) : Snd r ⟨r, 0⟩ := ⟨⟨.refl f, by show val r.hi - val r.lo ≤ 0; omega⟩, f⟩

end Go.Proofs.Ytoocmocaelcbkaa
