
/- FresnelComplex: the mathematics, and the law for all that it is given. -/
import Derived.Test.YtoocmocaelcbkaaFcL
import Derived.Test.YtoocmocaelcbkaaFsM
import Derived.Test.YtoocmocaelcbkaaFnE
namespace Go.Proofs.Ytoocmocaelcbkaa
open Go.RowKit

def C8 : Res := ⟨0, 4571153621781053440, 4607182418800017408⟩
/-- The law's intervals. -/
def Lc.a (c _h _k : Res) : Res := sqrR c
def Lc.b (c h k : Res) : Res := subR (oneR 4607182418800017408) (Lc.a c h k)
def Lc.d (_c h _k : Res) : Res := sqrR h
def Lc.g (_c _h k : Res) : Res := sqrR k
def Lc.i (c h k : Res) : Res := subR (Lc.d c h k) (Lc.g c h k)
def Lc.j (_c h k : Res) : Res := mulR h k
def Lc.kk (c h k : Res) : Res := mulR (oneR 4611686018427387904) (Lc.j c h k)
def Lc.l (c h k : Res) : Res := subR (Lc.i c h k) (Lc.b c h k)
def Lc.m (c h k : Res) : Res := sqrR (Lc.l c h k)
def Lc.n (c h k : Res) : Res := sqrR (Lc.kk c h k)
def Lc.o (c h k : Res) : Res := addR (Lc.m c h k) (Lc.n c h k)
def Lc.q (c h k : Res) : Res := sqrtR (Lc.o c h k)
def Lc.r (c h k : Res) : Res := addR (Lc.q c h k) (Lc.l c h k)
def Lc.s (c h k : Res) : Res := divR (Lc.r c h k) (oneR 4611686018427387904)
def Lc.t (c h k : Res) : Res := maxR (Lc.s c h k) (oneR 0)
def Lc.u (c h k : Res) : Res := sqrtR (Lc.t c h k)
def Lc.v (c h k : Res) : Res := subR (Lc.q c h k) (Lc.l c h k)
def Lc.x (c h k : Res) : Res := divR (Lc.v c h k) (oneR 4611686018427387904)
def Lc.y (c h k : Res) : Res := maxR (Lc.x c h k) (oneR 0)
def Lc.z (c h k : Res) : Res := sqrtR (Lc.y c h k)
def Lc.ca (c h k : Res) : Res := subR c (Lc.u c h k)
def Lc.cb (c h k : Res) : Res := sqrR (Lc.ca c h k)
def Lc.cc (c h k : Res) : Res := sqrR (Lc.z c h k)
def Lc.cd (c h k : Res) : Res := addR (Lc.cb c h k) (Lc.cc c h k)
def Lc.ce (c h k : Res) : Res := addR c (Lc.u c h k)
def Lc.cf (c h k : Res) : Res := sqrR (Lc.ce c h k)
def Lc.cg (c h k : Res) : Res := addR (Lc.cf c h k) (Lc.cc c h k)
def Lc.ch (c h k : Res) : Res := divR (Lc.cd c h k) (Lc.cg c h k)
def Lc.da (c h k : Res) : Res := mulR (Lc.i c h k) c
def Lc.db (c h k : Res) : Res := mulR (Lc.kk c h k) c
def Lc.dc (c h k : Res) : Res := subR (Lc.da c h k) (Lc.u c h k)
def Lc.dd (c h k : Res) : Res := sqrR (Lc.dc c h k)
def Lc.de (c h k : Res) : Res := subR (Lc.db c h k) (Lc.z c h k)
def Lc.df (c h k : Res) : Res := sqrR (Lc.de c h k)
def Lc.dg (c h k : Res) : Res := addR (Lc.dd c h k) (Lc.df c h k)
def Lc.dh (c h k : Res) : Res := addR (Lc.da c h k) (Lc.u c h k)
def Lc.di (c h k : Res) : Res := sqrR (Lc.dh c h k)
def Lc.dj (c h k : Res) : Res := addR (Lc.db c h k) (Lc.z c h k)
def Lc.dk (c h k : Res) : Res := sqrR (Lc.dj c h k)
def Lc.dl (c h k : Res) : Res := addR (Lc.di c h k) (Lc.dk c h k)
def Lc.dm (c h k : Res) : Res := divR (Lc.dg c h k) (Lc.dl c h k)
def Lc.ea (c h k : Res) : Res := addR (Lc.ch c h k) (Lc.dm c h k)
def Lc.eb (c h k : Res) : Res := divR (Lc.ea c h k) (oneR 4611686018427387904)
structure Lc.Ins (c h k C H K : Res) : Prop where
  a' : In (Lc.a c h k) (Lc.a C H K)
  b' : In (Lc.b c h k) (Lc.b C H K)
  d' : In (Lc.d c h k) (Lc.d C H K)
  g' : In (Lc.g c h k) (Lc.g C H K)
  i' : In (Lc.i c h k) (Lc.i C H K)
  j' : In (Lc.j c h k) (Lc.j C H K)
  kk' : In (Lc.kk c h k) (Lc.kk C H K)
  l' : In (Lc.l c h k) (Lc.l C H K)
  m' : In (Lc.m c h k) (Lc.m C H K)
  n' : In (Lc.n c h k) (Lc.n C H K)
  o' : In (Lc.o c h k) (Lc.o C H K)
  q' : In (Lc.q c h k) (Lc.q C H K)
  r' : In (Lc.r c h k) (Lc.r C H K)
  s' : In (Lc.s c h k) (Lc.s C H K)
  t' : In (Lc.t c h k) (Lc.t C H K)
  u' : In (Lc.u c h k) (Lc.u C H K)
  v' : In (Lc.v c h k) (Lc.v C H K)
  x' : In (Lc.x c h k) (Lc.x C H K)
  y' : In (Lc.y c h k) (Lc.y C H K)
  z' : In (Lc.z c h k) (Lc.z C H K)
  ca' : In (Lc.ca c h k) (Lc.ca C H K)
  cb' : In (Lc.cb c h k) (Lc.cb C H K)
  cc' : In (Lc.cc c h k) (Lc.cc C H K)
  cd' : In (Lc.cd c h k) (Lc.cd C H K)
  ce' : In (Lc.ce c h k) (Lc.ce C H K)
  cf' : In (Lc.cf c h k) (Lc.cf C H K)
  cg' : In (Lc.cg c h k) (Lc.cg C H K)
  ch' : In (Lc.ch c h k) (Lc.ch C H K)
  da' : In (Lc.da c h k) (Lc.da C H K)
  db' : In (Lc.db c h k) (Lc.db C H K)
  dc' : In (Lc.dc c h k) (Lc.dc C H K)
  dd' : In (Lc.dd c h k) (Lc.dd C H K)
  de' : In (Lc.de c h k) (Lc.de C H K)
  df' : In (Lc.df c h k) (Lc.df C H K)
  dg' : In (Lc.dg c h k) (Lc.dg C H K)
  dh' : In (Lc.dh c h k) (Lc.dh C H K)
  di' : In (Lc.di c h k) (Lc.di C H K)
  dj' : In (Lc.dj c h k) (Lc.dj C H K)
  dk' : In (Lc.dk c h k) (Lc.dk C H K)
  dl' : In (Lc.dl c h k) (Lc.dl C H K)
  dm' : In (Lc.dm c h k) (Lc.dm C H K)
  ea' : In (Lc.ea c h k) (Lc.ea C H K)
  eb' : In (Lc.eb c h k) (Lc.eb C H K)
def Lc.ok (C H K : Res) : Bool := fitB (Lc.a C H K) && fitB (Lc.b C H K) && fitB (Lc.d C H K) && fitB (Lc.g C H K) && fitB (Lc.i C H K) && fitB (Lc.j C H K) && fitB (Lc.kk C H K) && fitB (Lc.l C H K) && fitB (Lc.m C H K) && fitB (Lc.n C H K) && fitB (Lc.o C H K) && fitB (Lc.q C H K) && fitB (Lc.r C H K) && fitB (Lc.s C H K) && fitB (Lc.t C H K) && fitB (Lc.u C H K) && fitB (Lc.v C H K) && fitB (Lc.x C H K) && fitB (Lc.y C H K) && fitB (Lc.z C H K) && fitB (Lc.ca C H K) && fitB (Lc.cb C H K) && fitB (Lc.cc C H K) && fitB (Lc.cd C H K) && fitB (Lc.ce C H K) && fitB (Lc.cf C H K) && fitB (Lc.cg C H K) && fitB (Lc.ch C H K) && fitB (Lc.da C H K) && fitB (Lc.db C H K) && fitB (Lc.dc C H K) && fitB (Lc.dd C H K) && fitB (Lc.de C H K) && fitB (Lc.df C H K) && fitB (Lc.dg C H K) && fitB (Lc.dh C H K) && fitB (Lc.di C H K) && fitB (Lc.dj C H K) && fitB (Lc.dk C H K) && fitB (Lc.dl C H K) && fitB (Lc.dm C H K) && fitB (Lc.ea C H K) && fitB (Lc.eb C H K)
theorem lc_ok : Lc.ok C8 bigM bigM = true := by decide +kernel
theorem Lc.ins {c h k : Res} (ic : In c C8) (ih : In h bigM) (ik : In k bigM) : Lc.Ins c h k C8 bigM bigM := by
  have ok := lc_ok
  unfold Lc.ok at ok
  simp only [Bool.and_eq_true] at ok
  obtain ⟨⟨⟨⟨⟨⟨⟨⟨⟨⟨⟨⟨⟨⟨⟨⟨⟨⟨⟨⟨⟨⟨⟨⟨⟨⟨⟨⟨⟨⟨⟨⟨⟨⟨⟨⟨⟨⟨⟨⟨⟨⟨h_a, h_b⟩, h_d⟩, h_g⟩, h_i⟩, h_j⟩, h_kk⟩, h_l⟩, h_m⟩, h_n⟩, h_o⟩, h_q⟩, h_r⟩, h_s⟩, h_t⟩, h_u⟩, h_v⟩, h_x⟩, h_y⟩, h_z⟩, h_ca⟩, h_cb⟩, h_cc⟩, h_cd⟩, h_ce⟩, h_cf⟩, h_cg⟩, h_ch⟩, h_da⟩, h_db⟩, h_dc⟩, h_dd⟩, h_de⟩, h_df⟩, h_dg⟩, h_dh⟩, h_di⟩, h_dj⟩, h_dk⟩, h_dl⟩, h_dm⟩, h_ea⟩, h_eb⟩ := ok
  have fC : Fit C8 := .of (by decide +kernel)
  have fM : Fit bigM := .of (by decide +kernel)
  have f1 : Fit (oneR 4607182418800017408) := one_fit (by decide) (by decide)
  have f2 : Fit (oneR 4611686018427387904) := one_fit (by decide) (by decide)
  have f0 : Fit (oneR 0) := one_fit (by decide) (by decide)
  have i_a : In (Lc.a c h k) (Lc.a C8 bigM bigM) := sqr_in ic fC (Fit.of h_a).e
  have i_b : In (Lc.b c h k) (Lc.b C8 bigM bigM) := sub_in (.refl f1) f1 i_a (.of h_a) (Fit.of h_b).e
  have i_d : In (Lc.d c h k) (Lc.d C8 bigM bigM) := sqr_in ih fM (Fit.of h_d).e
  have i_g : In (Lc.g c h k) (Lc.g C8 bigM bigM) := sqr_in ik fM (Fit.of h_g).e
  have i_i : In (Lc.i c h k) (Lc.i C8 bigM bigM) := sub_in i_d (.of h_d) i_g (.of h_g) (Fit.of h_i).e
  have i_j : In (Lc.j c h k) (Lc.j C8 bigM bigM) := mul_in ih fM ik fM (Fit.of h_j).e
  have i_kk : In (Lc.kk c h k) (Lc.kk C8 bigM bigM) := mul_in (.refl f2) f2 i_j (.of h_j) (Fit.of h_kk).e
  have i_l : In (Lc.l c h k) (Lc.l C8 bigM bigM) := sub_in i_i (.of h_i) i_b (.of h_b) (Fit.of h_l).e
  have i_m : In (Lc.m c h k) (Lc.m C8 bigM bigM) := sqr_in i_l (.of h_l) (Fit.of h_m).e
  have i_n : In (Lc.n c h k) (Lc.n C8 bigM bigM) := sqr_in i_kk (.of h_kk) (Fit.of h_n).e
  have i_o : In (Lc.o c h k) (Lc.o C8 bigM bigM) := add_in i_m (.of h_m) i_n (.of h_n) (Fit.of h_o).e
  have i_q : In (Lc.q c h k) (Lc.q C8 bigM bigM) := sqrt_in i_o (.of h_o) (Fit.of h_q).e
  have i_r : In (Lc.r c h k) (Lc.r C8 bigM bigM) := add_in i_q (.of h_q) i_l (.of h_l) (Fit.of h_r).e
  have i_s : In (Lc.s c h k) (Lc.s C8 bigM bigM) := div_in i_r (.of h_r) (.refl f2) f2 (Fit.of h_s).e
  have i_t : In (Lc.t c h k) (Lc.t C8 bigM bigM) := max_in i_s (.of h_s) (.refl f0) f0 (Fit.of h_t).e
  have i_u : In (Lc.u c h k) (Lc.u C8 bigM bigM) := sqrt_in i_t (.of h_t) (Fit.of h_u).e
  have i_v : In (Lc.v c h k) (Lc.v C8 bigM bigM) := sub_in i_q (.of h_q) i_l (.of h_l) (Fit.of h_v).e
  have i_x : In (Lc.x c h k) (Lc.x C8 bigM bigM) := div_in i_v (.of h_v) (.refl f2) f2 (Fit.of h_x).e
  have i_y : In (Lc.y c h k) (Lc.y C8 bigM bigM) := max_in i_x (.of h_x) (.refl f0) f0 (Fit.of h_y).e
  have i_z : In (Lc.z c h k) (Lc.z C8 bigM bigM) := sqrt_in i_y (.of h_y) (Fit.of h_z).e
  have i_ca : In (Lc.ca c h k) (Lc.ca C8 bigM bigM) := sub_in ic fC i_u (.of h_u) (Fit.of h_ca).e
  have i_cb : In (Lc.cb c h k) (Lc.cb C8 bigM bigM) := sqr_in i_ca (.of h_ca) (Fit.of h_cb).e
  have i_cc : In (Lc.cc c h k) (Lc.cc C8 bigM bigM) := sqr_in i_z (.of h_z) (Fit.of h_cc).e
  have i_cd : In (Lc.cd c h k) (Lc.cd C8 bigM bigM) := add_in i_cb (.of h_cb) i_cc (.of h_cc) (Fit.of h_cd).e
  have i_ce : In (Lc.ce c h k) (Lc.ce C8 bigM bigM) := add_in ic fC i_u (.of h_u) (Fit.of h_ce).e
  have i_cf : In (Lc.cf c h k) (Lc.cf C8 bigM bigM) := sqr_in i_ce (.of h_ce) (Fit.of h_cf).e
  have i_cg : In (Lc.cg c h k) (Lc.cg C8 bigM bigM) := add_in i_cf (.of h_cf) i_cc (.of h_cc) (Fit.of h_cg).e
  have i_ch : In (Lc.ch c h k) (Lc.ch C8 bigM bigM) := div_in i_cd (.of h_cd) i_cg (.of h_cg) (Fit.of h_ch).e
  have i_da : In (Lc.da c h k) (Lc.da C8 bigM bigM) := mul_in i_i (.of h_i) ic fC (Fit.of h_da).e
  have i_db : In (Lc.db c h k) (Lc.db C8 bigM bigM) := mul_in i_kk (.of h_kk) ic fC (Fit.of h_db).e
  have i_dc : In (Lc.dc c h k) (Lc.dc C8 bigM bigM) := sub_in i_da (.of h_da) i_u (.of h_u) (Fit.of h_dc).e
  have i_dd : In (Lc.dd c h k) (Lc.dd C8 bigM bigM) := sqr_in i_dc (.of h_dc) (Fit.of h_dd).e
  have i_de : In (Lc.de c h k) (Lc.de C8 bigM bigM) := sub_in i_db (.of h_db) i_z (.of h_z) (Fit.of h_de).e
  have i_df : In (Lc.df c h k) (Lc.df C8 bigM bigM) := sqr_in i_de (.of h_de) (Fit.of h_df).e
  have i_dg : In (Lc.dg c h k) (Lc.dg C8 bigM bigM) := add_in i_dd (.of h_dd) i_df (.of h_df) (Fit.of h_dg).e
  have i_dh : In (Lc.dh c h k) (Lc.dh C8 bigM bigM) := add_in i_da (.of h_da) i_u (.of h_u) (Fit.of h_dh).e
  have i_di : In (Lc.di c h k) (Lc.di C8 bigM bigM) := sqr_in i_dh (.of h_dh) (Fit.of h_di).e
  have i_dj : In (Lc.dj c h k) (Lc.dj C8 bigM bigM) := add_in i_db (.of h_db) i_z (.of h_z) (Fit.of h_dj).e
  have i_dk : In (Lc.dk c h k) (Lc.dk C8 bigM bigM) := sqr_in i_dj (.of h_dj) (Fit.of h_dk).e
  have i_dl : In (Lc.dl c h k) (Lc.dl C8 bigM bigM) := add_in i_di (.of h_di) i_dk (.of h_dk) (Fit.of h_dl).e
  have i_dm : In (Lc.dm c h k) (Lc.dm C8 bigM bigM) := div_in i_dg (.of h_dg) i_dl (.of h_dl) (Fit.of h_dm).e
  have i_ea : In (Lc.ea c h k) (Lc.ea C8 bigM bigM) := add_in i_ch (.of h_ch) i_dm (.of h_dm) (Fit.of h_ea).e
  have i_eb : In (Lc.eb c h k) (Lc.eb C8 bigM bigM) := div_in i_ea (.of h_ea) (.refl f2) f2 (Fit.of h_eb).e
  exact ⟨i_a, i_b, i_d, i_g, i_i, i_j, i_kk, i_l, i_m, i_n, i_o, i_q, i_r, i_s, i_t, i_u, i_v, i_x, i_y, i_z, i_ca, i_cb, i_cc, i_cd, i_ce, i_cf, i_cg, i_ch, i_da, i_db, i_dc, i_dd, i_de, i_df, i_dg, i_dh, i_di, i_dj, i_dk, i_dl, i_dm, i_ea, i_eb⟩
theorem lc_lows : 0 < val (Lc.cg C8 bigM bigM).lo ∧ 0 < val (Lc.dl C8 bigM bigM).lo := by decide +kernel
theorem c8_big : In C8 bigC := ⟨.of (by decide +kernel), by decide +kernel, by decide +kernel⟩
theorem co8 : Co.Fits C8 bigM bigM := (Co.parts Co.big c8_big (.refl (.of (by decide +kernel))) (.refl (.of (by decide +kernel)))).fits (.of (by decide +kernel)) (.of (by decide +kernel)) (.of (by decide +kernel))
theorem co8_lows : 0 < val (Co.d27 C8 bigM bigM).lo ∧ 0 < val (Co.d33 C8 bigM bigM).lo ∧ (Co.r33 C8 bigM bigM).e = 0 := by decide +kernel

theorem HasQ.max0 {r : Res} {x : Rat} (fr : Fit r) (h : HasQ r x) (h0 : 0 ≤ x) : HasQ (maxR r (oneR 0)) x :=
  (HasQ.ofV (HasV.max0 fr h.toV (Rat.num_nonneg.2 h0))).turn (num_den x)
/-- The greater of it and 0 is itself, where it stays above 0. -/
theorem HasS.max0 {r : Res} {f : Nat → Rat} {d : Rat} (fr : Fit r) (d0 : 0 < d) (l : Abv d f) (h : HasS r f) : HasS (maxR r (oneR 0)) f := by
  obtain ⟨f', a, b⟩ := h
  have l' := l.of_eqv b.symm (by grind : d / 2 < d)
  obtain ⟨M, hM⟩ := l'
  have hM0 : ∀ m, M ≤ m → 0 ≤ f' m := fun m hm => by have := hM m hm; grind
  refine ⟨fun m => if M ≤ m then f' m else f' M, fun m => ?_, fun e he => ?_⟩
  · dsimp only
    split
    · exact (a m).max0 fr (hM0 m ‹_›)
    · exact (a M).max0 fr (hM0 M (Nat.le_refl _))
  · obtain ⟨N, hN⟩ := b e he
    refine ⟨M + N, fun m hm => ?_⟩
    have k := hN m (by omega)
    dsimp only at k ⊢
    rw [if_pos (by omega)]
    exact k
/-- Numbers whose square is no less than d, up to 1. -/
theorem root_abv {d : Rat} {f : Nat → Rat} (d1 : d ≤ 1) (f0 : ∀ m, 0 ≤ f m) (h : Abv d fun m => f m * f m) : Abv d f := by
  obtain ⟨M, hM⟩ := h
  refine ⟨M, fun m hm => ?_⟩
  have a := hM m hm
  have b := f0 m
  dsimp only at a
  rcases Rat.le_total (a := f m) (b := 1) with g | g
  · have := Rat.mul_nonneg b (by grind : 0 ≤ 1 - f m)
    grind
  · grind
/-- What the size of X + iJ is above. -/
theorem size_abv {X J : Rat} {S : Nat → Rat} (hJ : 0 < J) (s0 : ∀ m, 0 ≤ S m) (h : Eqv (fun m => S m * S m) fun _ => X * X + J * J) :
    ∃ d : Rat, 0 < d ∧ d ≤ 1 ∧ (Abv d fun m => S m + X) ∧ (Abv d fun m => S m - X) ∧ Abv d S := by
  obtain ⟨W, w0, w1, w2, w3⟩ : ∃ W : Rat, 0 ≤ W ∧ X ≤ W ∧ -X ≤ W ∧ W * W = X * X := by
    rcases Rat.le_total (a := 0) (b := X) with g | g
    · exact ⟨X, g, Rat.le_refl, by grind, rfl⟩
    · exact ⟨-X, by grind, by grind, Rat.le_refl, by grind⟩
  have jj := Rat.mul_pos hJ hJ
  obtain ⟨d, d0, d1, d2⟩ : ∃ d : Rat, 0 < d ∧ d ≤ 1 ∧ (2 * W + 1) * d ≤ J * J / 4 := by
    have p : 0 < 2 * W + 1 := by grind
    have q : 0 < J * J / 4 / (2 * W + 1) := by rw [Rat.div_def]; exact Rat.mul_pos (by grind) (Rat.inv_pos.2 p)
    rcases Rat.le_total (a := J * J / 4 / (2 * W + 1)) (b := 1) with g | g
    · refine ⟨_, q, g, ?_⟩
      have e1 : (2 * W + 1) * (J * J / 4 / (2 * W + 1)) = J * J / 4 := by grind
      rw [e1]; exact Rat.le_refl
    · refine ⟨1, by grind, by grind, ?_⟩
      have t := Rat.mul_le_mul_of_nonneg_right g (Rat.le_of_lt p)
      have e1 : J * J / 4 / (2 * W + 1) * (2 * W + 1) = J * J / 4 := by grind
      rw [e1] at t
      grind
  obtain ⟨M, hM⟩ := h (J * J / 4) (by grind)
  have key : ∀ m, M ≤ m → W + d ≤ S m := fun m hm => by
    have a := (hM m hm).1
    have b := s0 m
    dsimp only at a
    generalize S m = s at *
    rcases Rat.le_total (a := W + d) (b := s) with g | g
    · exact g
    · have k1 := Rat.mul_nonneg (by grind : 0 ≤ W + d - s) (by grind : 0 ≤ W + d + s)
      have k2 := Rat.mul_nonneg (Rat.le_of_lt d0) (by grind : 0 ≤ 1 - d)
      generalize J * J = j at *
      grind
  refine ⟨d, d0, d1, ⟨M, fun m hm => ?_⟩, ⟨M, fun m hm => ?_⟩, ⟨M, fun m hm => ?_⟩⟩
  · have := key m hm; dsimp only; grind
  · have := key m hm; dsimp only; grind
  · have := key m hm; grind
theorem quo_unit {u v : Rat} (h0 : 0 ≤ u) (h : u ≤ v) : 0 ≤ u / v ∧ u / v ≤ 1 := by
  by_cases g : v = 0
  · subst g
    rw [Rat.div_def, Rat.inv_zero, Rat.mul_zero]
    constructor <;> grind
  · have v0 : 0 < v := by grind
    refine ⟨?_, ?_⟩
    · rw [Rat.div_def]; exact Rat.mul_nonneg h0 (Rat.le_of_lt (Rat.inv_pos.2 v0))
    · refine Rat.le_of_mul_le_mul_right (c := v) ?_ v0
      have e : u / v * v = u := by grind
      rw [e, Rat.one_mul]; exact h
theorem fc_n1 (A B C : Rat) : ((A * A - B * B + (1 - C * C)) * C - A) * ((A * A - B * B + (1 - C * C)) * C - A) + (2 * A * B * C - B) * (2 * A * B * C - B) =
    (A * A + B * B + C * C - 2 * A * C) * (C * C * (A * A + B * B) + (1 - C * C) * (1 - C * C) - 2 * A * C * (1 - C * C)) := by grind
theorem fc_n2 (A B C : Rat) : ((A * A - B * B + (1 - C * C)) * C + A) * ((A * A - B * B + (1 - C * C)) * C + A) + (2 * A * B * C + B) * (2 * A * B * C + B) =
    (A * A + B * B + C * C + 2 * A * C) * (C * C * (A * A + B * B) + (1 - C * C) * (1 - C * C) + 2 * A * C * (1 - C * C)) := by grind
theorem fc_m1 (A B C : Rat) : (C - A) * (C - A) + B * B = A * A + B * B + C * C - 2 * A * C := by grind
theorem fc_m2 (A B C : Rat) : (C + A) * (C + A) + B * B = A * A + B * B + C * C + 2 * A * C := by grind
theorem fc_last (x y : Rat) : (x + y) / 2 = 1 / 2 * (x + y) := by grind
theorem fc_unit1 {A C : Rat} (B : Rat) (hA : 0 ≤ A) (hC : 0 ≤ C) : 0 ≤ (A * A + B * B + C * C - 2 * A * C) / (A * A + B * B + C * C + 2 * A * C) ∧ (A * A + B * B + C * C - 2 * A * C) / (A * A + B * B + C * C + 2 * A * C) ≤ 1 := by
  have a := sqr_nonneg (C - A)
  have b := sqr_nonneg B
  have c := Rat.mul_nonneg hA hC
  exact quo_unit (by grind) (by grind)
theorem fc_unit2 {A C s : Rat} (B : Rat) (hA : 0 ≤ A) (hC : 0 ≤ C) (hs : 0 ≤ s) : 0 ≤ (C * C * (A * A + B * B) + s * s - 2 * A * C * s) / (C * C * (A * A + B * B) + s * s + 2 * A * C * s) ∧ (C * C * (A * A + B * B) + s * s - 2 * A * C * s) / (C * C * (A * A + B * B) + s * s + 2 * A * C * s) ≤ 1 := by
  have c := Rat.mul_nonneg (Rat.mul_nonneg hA hC) hs
  have a := sqr_nonneg (C * A - s)
  have b := sqr_nonneg (C * B)
  exact quo_unit (by grind) (by grind)
theorem unit_mul {x y : Rat} (h : 0 ≤ x ∧ x ≤ 1) (k : 0 ≤ y ∧ y ≤ 1) : 0 ≤ x * y ∧ x * y ≤ 1 := by
  refine ⟨Rat.mul_nonneg h.1 k.1, ?_⟩
  have := Rat.mul_nonneg h.1 (by grind : 0 ≤ 1 - y)
  grind
theorem clampQ_id {x : Rat} (h0 : 0 ≤ x) (h1 : x ≤ 1) : clampQ x = x := by
  unfold clampQ
  split
  · grind
  · split <;> grind
theorem fc_half (x y : Rat) : (x + y) / 2 + (x - y) / 2 = x := by grind
theorem fc_half' (x y : Rat) : (x + y) / 2 - (x - y) / 2 = y := by grind
theorem fc_im (S X J A B : Rat) : -(4 * (A * A * (B * B) - (S + X) / 2 * ((S - X) / 2))) + -(S * S - (X * X + J * J)) = J * J - 2 * A * B * (2 * A * B) := by grind
theorem fc_two (x y : Rat) : x + y + (x - y) = 2 * x := by grind
/-- The root's parts: of sequences whose squares are nearly half of S + X and half of S - X. -/
theorem parts_near {X J d : Rat} {S A B : Nat → Rat} (J0 : 0 < J) (d0 : 0 < d) (d1 : d ≤ 1) (A0 : ∀ m, 0 ≤ A m) (B0 : ∀ m, 0 ≤ B m) (bA : Bd A) (bB : Bd B)
    (dp : Abv d fun m => S m + X) (Ss : Eqv (fun m => S m * S m) fun _ => X * X + J * J) (As : Eqv (fun m => A m * A m) fun m => (S m + X) / 2) (Bs : Eqv (fun m => B m * B m) fun m => (S m - X) / 2) :
    Eqv S (fun m => A m * A m + B m * B m) ∧ Eqv (fun _ => X) (fun m => A m * A m - B m * B m) ∧ Eqv (fun _ => J) (fun m => 2 * A m * B m) ∧ Abv (d / 4) A ∧ Abv (d / 4) fun m => 2 * (A m * A m) := by
  have low : Abv (d / 4) fun m => A m * A m := by
    refine Abv.of_eqv (d := d / 2) ?_ As.symm (by grind)
    obtain ⟨M, hM⟩ := dp
    refine ⟨M, fun m hm => ?_⟩
    have := hM m hm
    dsimp only at this ⊢
    grind
  refine ⟨?_, ?_, ?_, root_abv (by grind) A0 low, ?_⟩
  · exact Eqv.symm ((As.add Bs).trans (Eqv.of fun m => fc_half (S m) X))
  · exact Eqv.symm ((As.sub Bs).trans (Eqv.of fun m => fc_half' (S m) X))
  · refine root_same J0 ⟨0, fun m _ => ?_⟩ ?_
    · have := Rat.mul_nonneg (A0 m) (B0 m)
      dsimp only
      grind
    · have k := Eqv.mul As Bs (bA.mul bA) (bB.mul bB)
      exact (Nul.add (Nul.neg (Nul.mul (Bd.const 4) k)) (Nul.neg Ss)).of fun m => fc_im (S m) X J (A m) (B m)
  · obtain ⟨M, hM⟩ := low
    refine ⟨M, fun m hm => ?_⟩
    have := hM m hm
    dsimp only at this ⊢
    grind
/-- Both have the same sequence. -/
theorem complex_meet {c h k : Nat} (ic : In (oneR c) C8) (ih : In (oneR h) bigM) (ik : In (oneR k) bigM) :
    val (Co.f (oneR c) (oneR h) (oneR k)).lo ≤ val (Lc.eb (oneR c) (oneR h) (oneR k)).hi ∧ val (Lc.eb (oneR c) (oneR h) (oneR k)).lo ≤ val (Co.f (oneR c) (oneR h) (oneR k)).hi := by
  have P := Co.parts co8 ic ih ik
  have D := P.fits ic.fit ih.fit ik.fit
  obtain ⟨z1, z2, z3⟩ := co8_lows
  have ne := (Co.last_in co8 P z3).1
  have L := D.last ne
  have I := Lc.ins ic ih ik
  obtain ⟨l1, l2⟩ := lc_lows
  have one : Fit (oneR 4607182418800017408) := one_fit (by decide) (by decide)
  have half : Fit (oneR 4602678819172646912) := one_fit (by decide) (by decide)
  have two : Fit (oneR 4611686018427387904) := one_fit (by decide) (by decide)
  have four : Fit (oneR 4616189618054758400) := one_fit (by decide) (by decide)
  have t0 : 0 < val (oneR 4611686018427387904).lo := by decide +kernel
  have S := ssQ
  have hc := HasQ.one c
  have hh := HasQ.one h
  have hk := HasQ.one k
  have h1 : HasQ (oneR 4607182418800017408) 1 := HasQ.lit (k := 1) (by decide +kernel) rfl
  have h2 : HasQ (oneR 4611686018427387904) 2 := HasQ.lit (k := 2) (by decide +kernel) rfl
  have h4 : HasQ (oneR 4616189618054758400) 4 := HasQ.lit (k := 4) (by decide +kernel) rfl
  have hf : HasQ (oneR 4602678819172646912) (1 / 2) := by
    refine (HasQ.ofV (r := oneR 4602678819172646912) (P := 2) (T := 1) ⟨by decide, by decide +kernel, by decide +kernel⟩).turn ?_
    rfl
  have pos : ∀ {x : Nat} {B : Res}, In (oneR x) B → 0 < val B.lo → 0 < ((val x : Int) : Rat) / ((SS : Int) : Rat) := fun {x B} i b => by
    rw [Rat.div_def]
    exact Rat.mul_pos (Rat.intCast_pos.2 (by have h : val B.lo ≤ val x := i.lo; omega)) (Rat.inv_pos.2 S)
  have C0 := pos ic (by decide +kernel)
  have E0 := pos ih (by decide +kernel)
  have K0 := pos ik (by decide +kernel)
  have C1 : ((val c : Int) : Rat) / ((SS : Int) : Rat) ≤ 1 := by
    refine Rat.le_of_mul_le_mul_right (c := ((SS : Int) : Rat)) ?_ S
    have e : ((val c : Int) : Rat) / ((SS : Int) : Rat) * ((SS : Int) : Rat) = ((val c : Int) : Rat) := by grind
    rw [e, Rat.one_mul]
    exact Rat.intCast_le_intCast.2 (by have h : val c ≤ val C8.hi := ic.hi; have e : val C8.hi = SS := (by decide +kernel); omega)
  generalize ((val c : Int) : Rat) / ((SS : Int) : Rat) = C at *
  generalize ((val h : Int) : Rat) / ((SS : Int) : Rat) = E at *
  generalize ((val k : Int) : Rat) / ((SS : Int) : Rat) = K at *
  have C0' := Rat.le_of_lt C0
  have s0 : 0 ≤ 1 - C * C := by have := Rat.mul_nonneg (by grind : 0 ≤ 1 - C) (by grind : 0 ≤ 1 + C); grind
  have s1 : 1 - C * C ≤ 1 := by have := Rat.mul_nonneg C0' C0'; grind
  have sc := HasS.const hc
  -- the program's, up to its first root
  have q_c2 := HasQ.sqr ic.fit hc D.c2'.e
  have q_s3 := HasQ.sub one D.c2' h1 q_c2 D.s3'.e
  have q_s2 : HasQ (Co.s2 (oneR c) (oneR h) (oneR k)) (1 - C * C) := (HasQ.clamp D.s3' q_s3).turn (clampQ_id s0 s1)
  have q_e2 := HasQ.sqr ih.fit hh D.e2'.e
  have q_k2 := HasQ.sqr ik.fit hk D.k2'.e
  have q_ek := HasQ.mul D.e2' D.k2' q_e2 q_k2 D.ek'.e
  have q_t11 := HasQ.sub D.e2' D.k2' q_e2 q_k2 D.t11'.e
  have q_t0 := HasQ.sub D.t11' D.s2' q_t11 q_s2 D.t0'.e
  have q_q13 := HasQ.sqr D.t0' q_t0 D.q13'.e
  have q_m15 := HasQ.mul four D.ek' h4 q_ek D.m15'.e
  have q_a16 := HasQ.add D.q13' D.m15' q_q13 q_m15 D.a16'.e
  -- the law's, up to its first root
  have q_a := HasQ.sqr ic.fit hc I.a'.fit.e
  have q_b := HasQ.sub one I.a'.fit h1 q_a I.b'.fit.e
  have q_d := HasQ.sqr ih.fit hh I.d'.fit.e
  have q_g := HasQ.sqr ik.fit hk I.g'.fit.e
  have q_i := HasQ.sub I.d'.fit I.g'.fit q_d q_g I.i'.fit.e
  have q_j := HasQ.mul ih.fit ik.fit hh hk I.j'.fit.e
  have q_kk := HasQ.mul two I.j'.fit h2 q_j I.kk'.fit.e
  have q_l := HasQ.sub I.i'.fit I.b'.fit q_i q_b I.l'.fit.e
  have q_m := HasQ.sqr I.l'.fit q_l I.m'.fit.e
  have q_n := HasQ.sqr I.kk'.fit q_kk I.n'.fit.e
  have q_o := HasQ.add I.m'.fit I.n'.fit q_m q_n I.o'.fit.e
  have J0 : 0 < 2 * (E * K) := by have := Rat.mul_pos E0 K0; grind
  have eJ : 4 * (E * E * (K * K)) = 2 * (E * K) * (2 * (E * K)) := by grind
  rw [eJ] at q_a16
  have eX : E * E - K * K = E * E - K * K - (1 - C * C) + (1 - C * C) := by grind
  replace q_i := q_i.turn eX
  generalize 2 * (E * K) = J at *
  generalize E * E - K * K - (1 - C * C) = X at *
  obtain ⟨S1, hS1, S10, S1s⟩ := HasS.sqrt D.a16' (HasS.const q_a16) D.ab'.e
  obtain ⟨S2, hS2, S20, S2s⟩ := HasS.sqrt I.o'.fit (HasS.const q_o) I.q'.fit.e
  obtain ⟨d, d0, d1, dp, dm, ds⟩ := size_abv J0 S20 S2s
  have sames : Eqv S1 S2 := by
    refine root_same d0 ?_ (S1s.trans S2s.symm)
    obtain ⟨M, hM⟩ := ds
    exact ⟨M, fun m hm => by have a := hM m hm; have b := S10 m; dsimp only; grind⟩
  have half_abv : ∀ {f : Nat → Rat}, Abv d f → Abv (d / 2) fun m => f m / 2 := fun {f} h => by
    obtain ⟨M, hM⟩ := h
    exact ⟨M, fun m hm => by have a := hM m hm; dsimp only; grind⟩
  have s2c := HasS.const h2
  have slX := HasS.const q_l
  have r := HasS.add I.q'.fit I.l'.fit hS2 slX I.r'.fit.e
  have s := HasS.div I.r'.fit two r s2c t0 I.s'.fit.e
  have t := HasS.max0 I.s'.fit (by grind : 0 < d / 2) (half_abv dp) s
  obtain ⟨A, hA, A0, As⟩ := HasS.sqrt I.t'.fit t I.u'.fit.e
  have v := HasS.sub I.q'.fit I.l'.fit hS2 slX I.v'.fit.e
  have x := HasS.div I.v'.fit two v s2c t0 I.x'.fit.e
  have y := HasS.max0 I.x'.fit (by grind : 0 < d / 2) (half_abv dm) x
  obtain ⟨B, hB, B0, Bs⟩ := HasS.sqrt I.y'.fit y I.z'.fit.e
  obtain ⟨nS, nX, nJ, lowA, lowA2⟩ := parts_near J0 d0 d1 A0 B0 hA.bd hB.bd dp S2s As Bs
  -- the program's, in the law's roots
  have d4 : 0 < d / 4 := by grind
  have hab := hS1.turn (sames.trans nS)
  have a18 := (HasS.add D.ab' D.t0' hab (HasS.const q_t0) D.a18'.e).turn ((Eqv.add Eqv.rfl nX).trans (Eqv.of fun m => fc_two (A m * A m) (B m * B m)))
  have x20 := HasS.max0 D.a18' d4 lowA2 a18
  have m21 := HasS.mul half D.x20' (HasS.const hf) x20 D.m21'.e
  obtain ⟨A1, hA1, A10, A1s⟩ := HasS.sqrt D.m21' m21 D.a'.e
  have sameA : Eqv A1 A := by
    refine root_same d4 ?_ (A1s.trans (Eqv.of fun m => by grind))
    obtain ⟨M, hM⟩ := lowA
    exact ⟨M, fun m hm => by have a := hM m hm; have b := A10 m; dsimp only; grind⟩
  have ha := hA1.turn sameA
  have sc2 := HasS.const q_c2
  have ss2 := HasS.const q_s2
  have t1 := HasS.add D.ab' D.c2' hab sc2 D.t1'.e
  have m25 := HasS.mul two D.a' s2c ha D.m25'.e
  have t2 := HasS.mul D.m25' D.fc m25 sc D.t2'.e
  have n27 := HasS.sub D.t1' D.t2' t1 t2 D.n27'.e
  have d27 := HasS.add D.t1' D.t2' t1 t2 D.d27'.e
  have r27 := HasS.div D.n27' D.d27' n27 d27 (by have := P.d27'.lo; omega) D.r27'.e
  have u1' := fun m => fc_unit1 (B m) (A0 m) C0'
  have rs := HasS.clamp D.r27' r27 (fun m => (u1' m).1) (fun m => (u1' m).2)
  have m29 := HasS.mul D.c2' D.ab' sc2 hab D.m29'.e
  have q30 := HasS.sqr D.s2' ss2 D.q30'.e
  have t3 := HasS.add D.m29' D.q30' m29 q30 D.t3'.e
  have t4 := HasS.mul D.t2' D.s2' t2 ss2 D.t4'.e
  have n33 := HasS.sub D.t3' D.t4' t3 t4 D.n33'.e
  have d33 := HasS.add D.t3' D.t4' t3 t4 D.d33'.e
  have r33 := HasS.div D.n33' D.d33' n33 d33 (by have := P.d33'.lo; omega) ne
  have m34 := HasS.mul D.rs' L.r33' rs r33 L.m34'.e
  have u2' := fun m => unit_mul (u1' m) (fc_unit2 (B m) (A0 m) C0' s0)
  have rp := HasS.clamp L.m34' m34 (fun m => (u2' m).1) (fun m => (u2' m).2)
  have a36 := HasS.add D.rs' L.rp' rs rp L.a36'.e
  have f := HasS.mul half L.a36' (HasS.const hf) a36 L.f'.e
  -- the law's
  have ca := HasS.sub ic.fit I.u'.fit sc hA I.ca'.fit.e
  have cb := HasS.sqr I.ca'.fit ca I.cb'.fit.e
  have cc := HasS.sqr I.z'.fit hB I.cc'.fit.e
  have cd := HasS.add I.cb'.fit I.cc'.fit cb cc I.cd'.fit.e
  have ce := HasS.add ic.fit I.u'.fit sc hA I.ce'.fit.e
  have cf := HasS.sqr I.ce'.fit ce I.cf'.fit.e
  have cg := HasS.add I.cf'.fit I.cc'.fit cf cc I.cg'.fit.e
  have ch := HasS.div I.cd'.fit I.cg'.fit cd cg (by have := I.cg'.lo; omega) I.ch'.fit.e
  have hi := (HasS.const q_i).turn (nX.add Eqv.rfl)
  have hkk := (HasS.const q_kk).turn nJ
  have da := HasS.mul I.i'.fit ic.fit hi sc I.da'.fit.e
  have db := HasS.mul I.kk'.fit ic.fit hkk sc I.db'.fit.e
  have dc := HasS.sub I.da'.fit I.u'.fit da hA I.dc'.fit.e
  have dd := HasS.sqr I.dc'.fit dc I.dd'.fit.e
  have de := HasS.sub I.db'.fit I.z'.fit db hB I.de'.fit.e
  have df := HasS.sqr I.de'.fit de I.df'.fit.e
  have dg := HasS.add I.dd'.fit I.df'.fit dd df I.dg'.fit.e
  have dh := HasS.add I.da'.fit I.u'.fit da hA I.dh'.fit.e
  have di := HasS.sqr I.dh'.fit dh I.di'.fit.e
  have dj := HasS.add I.db'.fit I.z'.fit db hB I.dj'.fit.e
  have dk := HasS.sqr I.dj'.fit dj I.dk'.fit.e
  have dl := HasS.add I.di'.fit I.dk'.fit di dk I.dl'.fit.e
  have dm' := HasS.div I.dg'.fit I.dl'.fit dg dl (by have := I.dl'.lo; omega) I.dm'.fit.e
  have ea := HasS.add I.ch'.fit I.dm'.fit ch dm' I.ea'.fit.e
  have eb := HasS.div I.ea'.fit two ea s2c t0 I.eb'.fit.e
  refine HasS.meet f (eb.turn (Eqv.of fun m => ?_))
  rw [fc_m1, fc_m2, fc_n1, fc_n2, div_div]
  exact fc_last _ _
end Go.Proofs.Ytoocmocaelcbkaa

namespace Go.Proofs.Ytoocmocaelcbkaa
open Go.RowKit

theorem co_within {c h k : Res} (D : Co.Fits c h k) (L : Co.Last c h k) : 0 ≤ val (Co.f c h k).lo ∧ val (Co.f c h k).hi ≤ val 4607182418800017408 := by
  have r1 : In (Co.rs c h k) unitR := clamp_unit D.r27'
  have r2 : In (Co.rp c h k) unitR := clamp_unit L.m34'
  have hf : Fit (oneR 4602678819172646912) := one_fit (by decide) (by decide)
  have fs : Fit (addR unitR unitR) := .of (by decide +kernel)
  have a : In (Co.a36 c h k) (addR unitR unitR) := add_in r1 unit_fit r2 unit_fit fs.e
  have f : In (Co.f c h k) (mulR (oneR 4602678819172646912) (addR unitR unitR)) := mul_in (.refl hf) hf a fs (by decide +kernel)
  have z : val (mulR (oneR 4602678819172646912) (addR unitR unitR)).lo = 0 ∧ val (mulR (oneR 4602678819172646912) (addR unitR unitR)).hi = val 4607182418800017408 := by decide +kernel
  have u := f.lo
  have v := f.hi
  omega

set_option maxRecDepth 100000 in
theorem complex_any (u v t : Nat) (w : World) (hu : u < 4294967296) (hv : v < 4294967296) (ht : t < 4294967296) :
    Calls Try.prog 9 #[.int .u32 u, .int .u32 v, .int .u32 t] w fun r w' => r = .returned (.bool true) ∧ Below w.heap.size w w' := by
  have z0 : val 0 = 0 := by decide +kernel
  obtain ⟨c, ac, cc⟩ := between6_any 4571153621781053440 4607182418800017408 u (by decide) (by decide) (by decide) (by decide) (by decide +kernel) (by decide +kernel) (by decide +kernel) hu
  obtain ⟨h, ah, ch⟩ := between6_any 4589168020290535424 4625196817309499392 v (by decide) (by decide) (by decide) (by decide) (by decide +kernel) (by decide +kernel) (by decide +kernel) hv
  obtain ⟨k, ak, ck⟩ := between6_any 4589168020290535424 4625196817309499392 t (by decide) (by decide) (by decide) (by decide) (by decide +kernel) (by decide +kernel) (by decide +kernel) ht
  have ic : In (oneR c) C8 := ⟨one_fit ac.lt ac.right, ac.lo, ac.hi⟩
  have ih : In (oneR h) bigM := ⟨one_fit ah.lt ah.right, ah.lo, ah.hi⟩
  have ik : In (oneR k) bigM := ⟨one_fit ak.lt ak.right, ak.lo, ak.hi⟩
  have pc : 0 ≤ val c := Int.le_trans (by decide +kernel : (0 : Int) ≤ val 4571153621781053440) ac.lo
  have ph : 0 ≤ val h := Int.le_trans (by decide +kernel : (0 : Int) ≤ val 4589168020290535424) ah.lo
  have pk : 0 ≤ val k := Int.le_trans (by decide +kernel : (0 : Int) ≤ val 4589168020290535424) ak.lo
  have ib : In (oneR c) bigC := ⟨ic.fit, Int.le_trans c8_big.lo ic.lo, Int.le_trans ic.hi c8_big.hi⟩
  have P := Co.parts co8 ic ih ik
  have D := P.fits ic.fit ih.fit ik.fit
  have ne := (Co.last_in co8 P co8_lows.2.2).1
  have L := D.last ne
  have I := Lc.ins ic ih ik
  have one : Fit (oneR 4607182418800017408) := one_fit (by decide) (by decide)
  have two : Fit (oneR 4611686018427387904) := one_fit (by decide) (by decide)
  have nil : Fit (oneR 0) := one_fit (by decide) (by decide)
  have fo : Fit (Co.f (oneR c) (oneR h) (oneR k)) := L.f'
  obtain ⟨lo, hi⟩ := co_within D L
  have le := fo.le
  have M := complex_meet ic ih ik
  exact complex_law (u0 := u) (v0 := v) (w0 := t) (pc := c) (pe := h) (pk := k) w
    (c1 := Lib.hid cc) (c2 := Lib.hid fun w => p6_in ac.lt ac.right pc w) (c3 := Lib.hid ch) (c4 := Lib.hid fun w => p6_in ah.lt ah.right ph w) (c5 := Lib.hid ck) (c6 := Lib.hid fun w => p6_in ak.lt ak.right pk w)
    (c7 := Lib.hid fun w => cond_some ib ih ik w ne)
    (o_lssfl_0 := (order_lt _ _ fo.lo (by decide) fo.rlo (by decide)).trans (decide_eq_false (by rw [z0]; omega)))
    (o_gtrfh_418800017408 := (order_gt _ _ fo.hi (by decide) fo.rhi (by decide)).trans (decide_eq_false (by omega)))
    (o_gtrfl_fh := (order_gt _ _ fo.lo fo.hi fo.rlo fo.rhi).trans (decide_eq_false (by omega)))
    (d8 := Lib.hid fun pb => calc_num two pb) (d9 := Lib.hid fun pb => calc_num nil pb) (d10 := Lib.hid fun pb => calc_num one pb) (d11 := Lib.hid fun pb => calc_sqr ic.fit I.a'.fit pb)
    (d12 := Lib.hid fun pb => calc_sub one I.a'.fit I.b'.fit pb) (d13 := Lib.hid fun pb => calc_sqr ih.fit I.d'.fit pb) (d14 := Lib.hid fun pb => calc_sqr ik.fit I.g'.fit pb) (d15 := Lib.hid fun pb => calc_sub I.d'.fit I.g'.fit I.i'.fit pb)
    (d16 := Lib.hid fun pb => calc_mul ih.fit ik.fit I.j'.fit pb) (d17 := Lib.hid fun pb => calc_mul two I.j'.fit I.kk'.fit pb) (d18 := Lib.hid fun pb => calc_sub I.i'.fit I.b'.fit I.l'.fit pb) (d19 := Lib.hid fun pb => calc_sqr I.l'.fit I.m'.fit pb)
    (d20 := Lib.hid fun pb => calc_sqr I.kk'.fit I.n'.fit pb) (d21 := Lib.hid fun pb => calc_add I.m'.fit I.n'.fit I.o'.fit pb) (d22 := Lib.hid fun pb => calc_sqrt I.o'.fit I.q'.fit pb) (d23 := Lib.hid fun pb => calc_add I.q'.fit I.l'.fit I.r'.fit pb)
    (d24 := Lib.hid fun pb => calc_div I.r'.fit two I.s'.fit pb) (d25 := Lib.hid fun pb => calc_max I.s'.fit nil I.t'.fit pb) (d26 := Lib.hid fun pb => calc_sqrt I.t'.fit I.u'.fit pb) (d27 := Lib.hid fun pb => calc_sub I.q'.fit I.l'.fit I.v'.fit pb)
    (d28 := Lib.hid fun pb => calc_div I.v'.fit two I.x'.fit pb) (d29 := Lib.hid fun pb => calc_max I.x'.fit nil I.y'.fit pb) (d30 := Lib.hid fun pb => calc_sqrt I.y'.fit I.z'.fit pb) (d31 := Lib.hid fun pb => calc_sub ic.fit I.u'.fit I.ca'.fit pb)
    (d32 := Lib.hid fun pb => calc_sqr I.ca'.fit I.cb'.fit pb) (d33 := Lib.hid fun pb => calc_sqr I.z'.fit I.cc'.fit pb) (d34 := Lib.hid fun pb => calc_add I.cb'.fit I.cc'.fit I.cd'.fit pb) (d35 := Lib.hid fun pb => calc_add ic.fit I.u'.fit I.ce'.fit pb)
    (d36 := Lib.hid fun pb => calc_sqr I.ce'.fit I.cf'.fit pb) (d38 := Lib.hid fun pb => calc_add I.cf'.fit I.cc'.fit I.cg'.fit pb) (d39 := Lib.hid fun pb => calc_div I.cd'.fit I.cg'.fit I.ch'.fit pb) (d40 := Lib.hid fun pb => calc_mul I.i'.fit ic.fit I.da'.fit pb)
    (d41 := Lib.hid fun pb => calc_mul I.kk'.fit ic.fit I.db'.fit pb) (d42 := Lib.hid fun pb => calc_sub I.da'.fit I.u'.fit I.dc'.fit pb) (d43 := Lib.hid fun pb => calc_sqr I.dc'.fit I.dd'.fit pb) (d44 := Lib.hid fun pb => calc_sub I.db'.fit I.z'.fit I.de'.fit pb)
    (d45 := Lib.hid fun pb => calc_sqr I.de'.fit I.df'.fit pb) (d46 := Lib.hid fun pb => calc_add I.dd'.fit I.df'.fit I.dg'.fit pb) (d47 := Lib.hid fun pb => calc_add I.da'.fit I.u'.fit I.dh'.fit pb) (d48 := Lib.hid fun pb => calc_sqr I.dh'.fit I.di'.fit pb)
    (d49 := Lib.hid fun pb => calc_add I.db'.fit I.z'.fit I.dj'.fit pb) (d50 := Lib.hid fun pb => calc_sqr I.dj'.fit I.dk'.fit pb) (d51 := Lib.hid fun pb => calc_add I.di'.fit I.dk'.fit I.dl'.fit pb) (d52 := Lib.hid fun pb => calc_div I.dg'.fit I.dl'.fit I.dm'.fit pb)
    (d53 := Lib.hid fun pb => calc_add I.ch'.fit I.dm'.fit I.ea'.fit pb) (d54 := Lib.hid fun pb => calc_div I.ea'.fit two I.eb'.fit pb)
    (c56 := Lib.hid fun w => meets6_any fo I.eb'.fit M w) (c57 := Lib.hid awake6_any)

end Go.Proofs.Ytoocmocaelcbkaa
