
/- FresnelSnell: the mathematics: both formulas have the same sequence; widths. No program is named here. -/
import Derived.Test.YtoocmocaelcbkaaRs
import Derived.Test.YtoocmocaelcbkaaQBW
namespace Go.Proofs.Ytoocmocaelcbkaa
open Go.RowKit

/-- What of a rational number is from 0 to 1. -/
def clampQ (x : Rat) : Rat := if x ≤ 0 then 0 else if 1 ≤ x then 1 else x
theorem HasQ.clamp {r : Res} {x : Rat} (fr : Fit r) (h : HasQ r x) : HasQ (clampR r) (clampQ x) := by
  obtain ⟨_, _, x3⟩ := clamp_facts fr.lo fr.rlo
  obtain ⟨_, _, y3⟩ := clamp_facts fr.hi fr.rhi
  have e1 : (clampR r).lo = clampW r.lo := rfl
  have e2 : (clampR r).hi = clampW r.hi := rfl
  have us : val u1 = SS := by decide +kernel
  have S := ssQ
  have s0 := SS0
  rw [us] at x3 y3
  have hl := h.low
  have hh := h.high
  unfold clampQ
  by_cases g : x ≤ 0
  · rw [if_pos g]
    have t := Rat.mul_le_mul_of_nonneg_right g (Rat.le_of_lt S)
    rw [Rat.zero_mul] at t
    have l0 : val r.lo ≤ 0 := Rat.intCast_le_intCast.1 (by exact Rat.le_trans hl t)
    refine ⟨?_, ?_⟩
    · rw [e1, x3, Rat.zero_mul]; exact Rat.intCast_le_intCast.2 (by omega : min (max (val r.lo) 0) SS ≤ 0)
    · rw [e2, y3, Rat.zero_mul]; exact Rat.intCast_le_intCast.2 (by omega : 0 ≤ min (max (val r.hi) 0) SS)
  · rw [if_neg g]
    by_cases k : 1 ≤ x
    · rw [if_pos k]
      have t := Rat.mul_le_mul_of_nonneg_right k (Rat.le_of_lt S)
      rw [Rat.one_mul] at t
      have l0 : SS ≤ val r.hi := Rat.intCast_le_intCast.1 (by exact Rat.le_trans t hh)
      refine ⟨?_, ?_⟩
      · rw [e1, x3, Rat.one_mul]; exact Rat.intCast_le_intCast.2 (by omega : min (max (val r.lo) 0) SS ≤ SS)
      · rw [e2, y3, Rat.one_mul]; exact Rat.intCast_le_intCast.2 (by omega : SS ≤ min (max (val r.hi) 0) SS)
    · rw [if_neg k]
      have g0 : 0 ≤ x := by grind
      have t0 := Rat.mul_nonneg g0 (Rat.le_of_lt S)
      have t1 := Rat.mul_le_mul_of_nonneg_right (by grind : x ≤ 1) (Rat.le_of_lt S)
      rw [Rat.one_mul] at t1
      refine ⟨?_, ?_⟩
      · rw [e1, x3]
        rcases Int.le_total (val r.lo) 0 with c | c
        · rw [show min (max (val r.lo) 0) SS = 0 by omega]; exact t0
        · refine Rat.le_trans (Rat.intCast_le_intCast.2 (by omega : min (max (val r.lo) 0) SS ≤ val r.lo)) hl
      · rw [e2, y3]
        rcases Int.le_total SS (val r.hi) with c | c
        · rw [show min (max (val r.hi) 0) SS = SS by omega]; exact t1
        · refine Rat.le_trans hh (Rat.intCast_le_intCast.2 (by omega : val r.hi ≤ min (max (val r.hi) 0) SS))
theorem HasS.clamp {r : Res} {f : Nat → Rat} (fr : Fit r) (h : HasS r f) (h0 : ∀ m, 0 ≤ f m) (h1 : ∀ m, f m ≤ 1) : HasS (clampR r) f := by
  obtain ⟨f', a, b⟩ := h
  refine ⟨fun m => clampQ (f' m), fun m => (a m).clamp fr, fun e he => ?_⟩
  obtain ⟨M, hM⟩ := b e he
  refine ⟨M, fun m hm => ?_⟩
  have k := hM m hm
  have k0 := h0 m
  have k1 := h1 m
  dsimp only at k ⊢
  unfold clampQ
  split
  · constructor <;> grind
  · split <;> constructor <;> grind
/-- A square of a quotient that is no more than 1. -/
theorem quo_sqr {a b : Rat} (h1 : a ≤ b) (h2 : -b ≤ a) : a / b * (a / b) ≤ 1 := by
  by_cases h : b = 0
  · have : a = 0 := by grind
    subst this
    rw [h]
    have : (0 : Rat) / 0 = 0 := by grind
    rw [this]; grind
  · have b0 : 0 < b := by grind
    have bb := Rat.mul_pos b0 b0
    refine Rat.le_of_mul_le_mul_right (c := b * b) ?_ bb
    have e : a / b * (a / b) * (b * b) = a * a := by grind
    rw [e, Rat.one_mul]
    have := Rat.mul_nonneg (by grind : 0 ≤ b - a) (by grind : 0 ≤ b + a)
    grind
theorem sqr_nonneg (a : Rat) : 0 ≤ a * a := by
  rcases Rat.le_total (a := 0) (b := a) with g | g
  · exact Rat.mul_nonneg g g
  · have := Rat.mul_nonneg (by grind : 0 ≤ -a) (by grind : 0 ≤ -a)
    grind

/-- The intervals of the law. -/
def Sn.a (c : Res) : Res := sqrR c
def Sn.b (c : Res) : Res := subR (oneR 4607182418800017408) (Sn.a c)
def Sn.d (n : Res) : Res := sqrR n
def Sn.g (c n : Res) : Res := divR (Sn.b c) (Sn.d n)
def Sn.i (c n : Res) : Res := subR (oneR 4607182418800017408) (Sn.g c n)
def Sn.s (c n : Res) : Res := sqrtR (Sn.i c n)
def Sn.j (c n : Res) : Res := mulR n (Sn.s c n)
def Sn.k (c n : Res) : Res := subR c (Sn.j c n)
def Sn.l (c n : Res) : Res := addR c (Sn.j c n)
def Sn.m (c n : Res) : Res := divR (Sn.k c n) (Sn.l c n)
def Sn.o (c n : Res) : Res := sqrR (Sn.m c n)
def Sn.q (c n : Res) : Res := mulR n c
def Sn.r (c n : Res) : Res := subR (Sn.q c n) (Sn.s c n)
def Sn.t (c n : Res) : Res := addR (Sn.q c n) (Sn.s c n)
def Sn.u (c n : Res) : Res := divR (Sn.r c n) (Sn.t c n)
def Sn.v (c n : Res) : Res := sqrR (Sn.u c n)
def Sn.x (c n : Res) : Res := addR (Sn.o c n) (Sn.v c n)
def Sn.y (c n : Res) : Res := mulR (oneR 4602678819172646912) (Sn.x c n)
structure Sn.Ins (c n C N : Res) : Prop where
  a' : In (Sn.a c) (Sn.a C)
  b' : In (Sn.b c) (Sn.b C)
  d' : In (Sn.d n) (Sn.d N)
  g' : In (Sn.g c n) (Sn.g C N)
  i' : In (Sn.i c n) (Sn.i C N)
  s' : In (Sn.s c n) (Sn.s C N)
  j' : In (Sn.j c n) (Sn.j C N)
  k' : In (Sn.k c n) (Sn.k C N)
  l' : In (Sn.l c n) (Sn.l C N)
  m' : In (Sn.m c n) (Sn.m C N)
  o' : In (Sn.o c n) (Sn.o C N)
  q' : In (Sn.q c n) (Sn.q C N)
  r' : In (Sn.r c n) (Sn.r C N)
  t' : In (Sn.t c n) (Sn.t C N)
  u' : In (Sn.u c n) (Sn.u C N)
  v' : In (Sn.v c n) (Sn.v C N)
  x' : In (Sn.x c n) (Sn.x C N)
  y' : In (Sn.y c n) (Sn.y C N)
def Sn.ok (C N : Res) : Bool := fitB (Sn.a C) && fitB (Sn.b C) && fitB (Sn.d N) && fitB (Sn.g C N) && fitB (Sn.i C N) && fitB (Sn.s C N) && fitB (Sn.j C N) && fitB (Sn.k C N) && fitB (Sn.l C N) && fitB (Sn.m C N) && fitB (Sn.o C N) && fitB (Sn.q C N) && fitB (Sn.r C N) && fitB (Sn.t C N) && fitB (Sn.u C N) && fitB (Sn.v C N) && fitB (Sn.x C N) && fitB (Sn.y C N)
theorem sn_ok : Sn.ok bigC bigN = true := by decide +kernel
theorem sn_lows : 0 < val (Sn.d bigN).lo ∧ 0 < val (Sn.l bigC bigN).lo ∧ 0 < val (Sn.t bigC bigN).lo ∧ 0 < val (Di.g bigC bigN).lo := by decide +kernel
theorem Sn.ins {c n : Res} (ic : In c bigC) (i_n : In n bigN) : Sn.Ins c n bigC bigN := by
  have ok := sn_ok
  unfold Sn.ok at ok
  simp only [Bool.and_eq_true] at ok
  obtain ⟨⟨⟨⟨⟨⟨⟨⟨⟨⟨⟨⟨⟨⟨⟨⟨⟨a, b⟩, d⟩, g⟩, i⟩, s⟩, j⟩, k⟩, l⟩, m⟩, o⟩, q⟩, r⟩, t⟩, u⟩, v⟩, x⟩, y⟩ := ok
  have fC : Fit bigC := .of (by decide +kernel)
  have fN : Fit bigN := .of (by decide +kernel)
  have one : Fit (oneR 4607182418800017408) := one_fit (by decide) (by decide)
  have half : Fit (oneR 4602678819172646912) := one_fit (by decide) (by decide)
  have a' : In (Sn.a c) (Sn.a bigC) := sqr_in ic fC (Fit.of a).e
  have b' : In (Sn.b c) (Sn.b bigC) := sub_in (.refl one) one a' (.of a) (Fit.of b).e
  have d' : In (Sn.d n) (Sn.d bigN) := sqr_in i_n fN (Fit.of d).e
  have g' : In (Sn.g c n) (Sn.g bigC bigN) := div_in b' (.of b) d' (.of d) (Fit.of g).e
  have i' : In (Sn.i c n) (Sn.i bigC bigN) := sub_in (.refl one) one g' (.of g) (Fit.of i).e
  have s' : In (Sn.s c n) (Sn.s bigC bigN) := root_in i' (.of i) (Fit.of s).e
  have j' : In (Sn.j c n) (Sn.j bigC bigN) := mul_in i_n fN s' (.of s) (Fit.of j).e
  have k' : In (Sn.k c n) (Sn.k bigC bigN) := sub_in ic fC j' (.of j) (Fit.of k).e
  have l' : In (Sn.l c n) (Sn.l bigC bigN) := add_in ic fC j' (.of j) (Fit.of l).e
  have m' : In (Sn.m c n) (Sn.m bigC bigN) := div_in k' (.of k) l' (.of l) (Fit.of m).e
  have o' : In (Sn.o c n) (Sn.o bigC bigN) := sqr_in m' (.of m) (Fit.of o).e
  have q' : In (Sn.q c n) (Sn.q bigC bigN) := mul_in i_n fN ic fC (Fit.of q).e
  have r' : In (Sn.r c n) (Sn.r bigC bigN) := sub_in q' (.of q) s' (.of s) (Fit.of r).e
  have t' : In (Sn.t c n) (Sn.t bigC bigN) := add_in q' (.of q) s' (.of s) (Fit.of t).e
  have u' : In (Sn.u c n) (Sn.u bigC bigN) := div_in r' (.of r) t' (.of t) (Fit.of u).e
  have v' : In (Sn.v c n) (Sn.v bigC bigN) := sqr_in u' (.of u) (Fit.of v).e
  have x' : In (Sn.x c n) (Sn.x bigC bigN) := add_in o' (.of o) v' (.of v) (Fit.of x).e
  exact ⟨a', b', d', g', i', s', j', k', l', m', o', q', r', t', u', v', x', mul_in (.refl half) half x' (.of x) (Fit.of y).e⟩

theorem near_eq (C N x : Rat) : C * (x * x - (N * N - 1 + C * C)) = (x - C) * (C * (x + C) - 1) - (N * N * C - x) := by grind
theorem near_eq' (C N x : Rat) : C * (x * x - (N * N - 1 + C * C)) = (x + C) * (C * (x - C) + 1) - (N * N * C + x) := by grind
theorem Bd.of {f g : Nat → Rat} (h : Bd f) (e : ∀ m, f m = g m) : Bd g := by
  have : f = g := funext e
  rw [← this]; exact h
theorem sn_eq {N : Rat} (h : N ≠ 0) (C x : Rat) : N * N * (x * x - (1 - (1 - C * C) / (N * N))) = N * x * (N * x) - (N * N - 1 + C * C) := by grind
theorem by_eq {N : Rat} (h : N ≠ 0) (x y : Rat) : N⁻¹ * (N * x - y) = x - y / N := by grind
theorem div_div (a b c d : Rat) : a * b / (c * d) = a / c * (b / d) := by
  by_cases hc : c = 0
  · subst hc
    rw [Rat.zero_mul]; grind
  · by_cases hd : d = 0
    · subst hd
      rw [Rat.mul_zero]; grind
    · grind
theorem eq1 {N : Rat} (h : N ≠ 0) (C x : Rat) : (C - N * (x / N)) / (C + N * (x / N)) = -((x - C) / (x + C)) := by
  have e2 : N * (x / N) = x := by grind
  rw [e2, show C - x = -(x - C) by grind, show C + x = x + C by grind, Rat.div_def, Rat.div_def]
  grind
theorem eq3 {N : Rat} (h : N ≠ 0) (C x : Rat) : (N * C - x / N) / (N * C + x / N) = (N * N * C - x) / (N * N * C + x) := by
  have a1 : N * N * C - x = (N * C - x / N) * N := by grind
  have a2 : N * N * C + x = (N * C + x / N) * N := by grind
  rw [a1, a2, div_div]
  have e : N / N = 1 := by grind
  rw [e, Rat.mul_one]
theorem fin_eq (P Q A : Rat) : 1 / 2 * (P * Q * (P * Q) - A * A) = 1 / 2 * (P * P) * (1 + Q * Q) - 1 / 2 * (-P * -P + A * A) := by grind
/-- Both have the same sequence. -/
theorem snell_meet {c n : Nat} (ic : In (oneR c) bigC) (i_n : In (oneR n) bigN) :
    val (Di.out (oneR c) (oneR n)).lo ≤ val (Sn.y (oneR c) (oneR n)).hi ∧ val (Sn.y (oneR c) (oneR n)).lo ≤ val (Di.out (oneR c) (oneR n)).hi := by
  have P := Di.parts Di.big ic i_n
  have D := P.fits ic.fit i_n.fit
  have I := Sn.ins ic i_n
  obtain ⟨l1, l2, l3, l4⟩ := sn_lows
  obtain ⟨w1, w2⟩ := di_lows
  have one : Fit (oneR 4607182418800017408) := one_fit (by decide) (by decide)
  have half : Fit (oneR 4602678819172646912) := one_fit (by decide) (by decide)
  have S := ssQ
  have hc := HasQ.one c
  have hn := HasQ.one n
  have h1 : HasQ (oneR 4607182418800017408) 1 := HasQ.lit (k := 1) (by decide +kernel) rfl
  have h2 : HasQ (oneR 4602678819172646912) (1 / 2) := by
    refine (HasQ.ofV (r := oneR 4602678819172646912) (P := 2) (T := 1) ⟨by decide, by decide +kernel, by decide +kernel⟩).turn ?_
    rfl
  have c0 : 0 ≤ ((val c : Int) : Rat) / ((SS : Int) : Rat) := by
    rw [Rat.div_def]
    exact Rat.mul_nonneg (Rat.intCast_nonneg.2 (by have h : val bigC.lo ≤ val c := ic.lo; have e : val bigC.lo = 0 := (by decide +kernel); omega)) (Rat.le_of_lt (Rat.inv_pos.2 S))
  have c1 : ((val c : Int) : Rat) / ((SS : Int) : Rat) ≤ 1 := by
    refine Rat.le_of_mul_le_mul_right (c := ((SS : Int) : Rat)) ?_ S
    have e : ((val c : Int) : Rat) / ((SS : Int) : Rat) * ((SS : Int) : Rat) = ((val c : Int) : Rat) := by grind
    rw [e, Rat.one_mul]
    exact Rat.intCast_le_intCast.2 (by have h : val c ≤ val bigC.hi := ic.hi; have e : val bigC.hi = SS := (by decide +kernel); omega)
  have n0 : 0 < ((val n : Int) : Rat) / ((SS : Int) : Rat) := by
    rw [Rat.div_def]
    exact Rat.mul_pos (Rat.intCast_pos.2 (by have h : val bigN.lo ≤ val n := i_n.lo; have e : 0 < val bigN.lo := (by decide +kernel); omega)) (Rat.inv_pos.2 S)
  generalize ((val c : Int) : Rat) / ((SS : Int) : Rat) = C at *
  generalize ((val n : Int) : Rat) / ((SS : Int) : Rat) = N at *
  -- the program's
  have q2 := HasQ.sqr i_n.fit hn D.s2'.e
  have q3 := HasQ.sub D.s2' one q2 h1 D.s3'.e
  have q4 := HasQ.sqr ic.fit hc D.s4'.e
  have q5 := HasQ.add D.s3' D.s4' q3 q4 D.s5'.e
  obtain ⟨g, hg, g0, gg⟩ := HasS.sqrt D.s5' (HasS.const q5) D.g'.e
  have sc := HasS.const hc
  have sn := HasS.const hn
  have s1 := HasS.const h1
  have sh := HasS.const h2
  have more := HasS.add D.g' D.fc hg sc D.more'.e
  have less := HasS.sub D.g' D.fc hg sc D.less'.e
  have m0 : 0 < val (Di.more (oneR c) (oneR n)).lo := by have := P.more'.lo; omega
  have u0 : 0 < val (Di.under (oneR c) (oneR n)).lo := by have := P.under'.lo; omega
  have pq := HasS.div D.less' D.more' less more m0 D.pq'.e
  have p := HasS.sqr D.pq' pq D.p'.e
  have m11 := HasS.mul D.fc D.more' sc more D.m11'.e
  have over := HasS.sub D.m11' one m11 s1 D.over'.e
  have m13 := HasS.mul D.fc D.less' sc less D.m13'.e
  have under := HasS.add D.m13' one m13 s1 D.under'.e
  have qq := HasS.div D.over' D.under' over under u0 D.qq'.e
  have q := HasS.sqr D.qq' qq D.q'.e
  have hp := HasS.mul half D.p' sh p D.hp'.e
  have oq := HasS.add one D.q' s1 q D.oq'.e
  have f := HasS.mul D.hp' D.oq' hp oq D.f'.e
  have out := HasS.clamp D.f' f (fun m => by
      have a := sqr_nonneg ((g m - C) / (g m + C))
      have b := sqr_nonneg ((C * (g m + C) - 1) / (C * (g m - C) + 1))
      exact Rat.mul_nonneg (Rat.mul_nonneg (by grind) a) (by grind)) (fun m => by
      have k := g0 m
      have a := quo_sqr (a := g m - C) (b := g m + C) (by grind) (by grind)
      have cg := Rat.mul_nonneg c0 k
      have cc := Rat.mul_nonneg (by grind : 0 ≤ 1 - C) (by grind : 0 ≤ 1 + C)
      have b := quo_sqr (a := C * (g m + C) - 1) (b := C * (g m - C) + 1) (by grind) (by grind)
      have a' := sqr_nonneg ((g m - C) / (g m + C))
      try dsimp only
      generalize (g m - C) / (g m + C) * ((g m - C) / (g m + C)) = x at *
      generalize (C * (g m + C) - 1) / (C * (g m - C) + 1) * ((C * (g m + C) - 1) / (C * (g m - C) + 1)) = y at *
      have := Rat.mul_nonneg a' (by grind : 0 ≤ 1 - y)
      grind)
  -- the law's
  have qa := HasQ.sqr ic.fit hc I.a'.fit.e
  have qb := HasQ.sub one I.a'.fit h1 qa I.b'.fit.e
  have qd := HasQ.sqr i_n.fit hn I.d'.fit.e
  have qg := HasQ.div I.b'.fit I.d'.fit qb qd (by have := I.d'.lo; omega) I.g'.fit.e
  have qi := HasQ.sub one I.g'.fit h1 qg I.i'.fit.e
  obtain ⟨s, hs, s0, ss⟩ := HasS.sqrt I.i'.fit (HasS.const qi) I.s'.fit.e
  have nn : N ≠ 0 := fun e => by rw [e] at n0; exact Rat.lt_irrefl n0
  -- the root is n times the other one
  obtain ⟨d, d0, gd⟩ := HasS.abv hg (by show 0 < val (Di.g (oneR c) (oneR n)).lo; have := P.g'.lo; omega)
  have same : Eqv g fun m => N * s m := by
    refine root_same d0 ?_ ?_
    · obtain ⟨M, hM⟩ := gd
      refine ⟨M, fun m hm => ?_⟩
      have a := hM m hm
      have b := Rat.mul_nonneg (Rat.le_of_lt n0) (s0 m)
      dsimp only
      grind
    · have k := Nul.mul (Bd.const (N * N)) ss
      exact gg.trans (Eqv.symm (Nul.of k fun m => sn_eq nn C (s m)))
  have by_n : Eqv s fun m => g m / N := by
    have k := Nul.mul (Bd.const N⁻¹) (Eqv.symm same)
    exact Nul.of k fun m => by_eq nn (s m) (g m)
  have hs' := hs.turn by_n
  have j := HasS.mul i_n.fit I.s'.fit sn hs' I.j'.fit.e
  have k := HasS.sub ic.fit I.j'.fit sc j I.k'.fit.e
  have l := HasS.add ic.fit I.j'.fit sc j I.l'.fit.e
  have m := HasS.div I.k'.fit I.l'.fit k l (by have := I.l'.lo; omega) I.m'.fit.e
  have o := HasS.sqr I.m'.fit m I.o'.fit.e
  have qq' := HasS.mul i_n.fit ic.fit sn sc I.q'.fit.e
  have r := HasS.sub I.q'.fit I.s'.fit qq' hs' I.r'.fit.e
  have t := HasS.add I.q'.fit I.s'.fit qq' hs' I.t'.fit.e
  have u := HasS.div I.r'.fit I.t'.fit r t (by have := I.t'.lo; omega) I.u'.fit.e
  have v := HasS.sqr I.u'.fit u I.v'.fit.e
  have x := HasS.add I.o'.fit I.v'.fit o v I.x'.fit.e
  have y := HasS.mul half I.x'.fit sh x I.y'.fit.e
  refine HasS.meet out (y.turn (Eqv.symm ?_))
  -- the same, but for what goes to nothing
  have bg := hg.bd
  have bc := Bd.const C
  have near : Eqv (fun m => (g m - C) * (C * (g m + C) - 1)) fun m => N * N * C - g m := (Nul.mul bc gg).of fun m => near_eq C N (g m)
  have near' : Eqv (fun m => (g m + C) * (C * (g m - C) + 1)) fun m => N * N * C + g m := (Nul.mul bc gg).of fun m => near_eq' C N (g m)
  have low : Abv d fun m => N * N * C + g m := by
    obtain ⟨M, hM⟩ := gd
    refine ⟨M, fun m hm => ?_⟩
    have a := hM m hm
    have b := Rat.mul_nonneg (Rat.mul_nonneg (Rat.le_of_lt n0) (Rat.le_of_lt n0)) c0
    dsimp only
    grind
  have d2 : 0 < d / 2 := by grind
  have low2 : Abv (d / 2) fun m => N * N * C + g m := low.of_eqv Eqv.rfl (by grind)
  have low' := low.of_eqv near'.symm (by grind : d / 2 < d)
  have ba := (bg.sub bc).mul ((bc.mul (bg.add bc)).sub (Bd.const 1))
  have quo := Eqv.div d2 low' low2 near near' ba
  have bq : Bd fun m => (g m - C) * (C * (g m + C) - 1) / ((g m + C) * (C * (g m - C) + 1)) := Bd.of (Bd.mul ba (low'.inv d2)) fun m => (Rat.div_def _ _).symm
  have sq := Eqv.mul quo quo bq bq
  have e := Nul.mul (Bd.const (1 / 2)) sq
  refine Nul.of e fun m => ?_
  dsimp only
  rw [eq1 nn, eq3 nn, div_div]
  exact fin_eq _ _ _
end Go.Proofs.Ytoocmocaelcbkaa
