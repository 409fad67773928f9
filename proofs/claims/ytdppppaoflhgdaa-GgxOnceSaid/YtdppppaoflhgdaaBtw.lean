
/- What laws draw: numbers between any two, spans; Meets and In of file burnishlow. -/
/- Law file 8: its small functions, of what is drawn; numbers between any two. -/
import Derived.Test.YtdppppaoflhgdaaQO2
import Derived.Test.YtdppppaoflhgdaaQO1
import Derived.Deep.RegionHeld3
import Derived.Test.YtdppppaoflhgdaaQFD
namespace Go.Proofs.Ytdppppaoflhgdaa
open Go.RowKit

theorem nil_ou : In (oneR 0) ouI := ⟨Or.z_fit, by decide +kernel, by decide +kernel⟩
theorem nil_oe : In (oneR 0) oeI := ⟨Or.z_fit, by decide +kernel, by decide +kernel⟩

theorem kc2 {f : FuncId} {al ah bl bh rl rh pb : Nat} (h : Calc2 f pb al ah bl bh rl rh) : ∀ v, Has1 v (pb, #[.int .i64 0]) → Calls Try.prog f #[.pointer (some ⟨pb, 0, none⟩), .agg #[.float .f64 al, .float .f64 ah], .agg #[.float .f64 bl, .float .f64 bh]] v fun r w' => r = .returned (.agg #[.float .f64 rl, .float .f64 rh]) ∧ Below v.heap.size v w' :=
  fun v hv => kb_of hv (h v hv)
theorem kcn {x pb : Nat} (h : CalcN pb x) : ∀ v, Has1 v (pb, #[.int .i64 0]) → Calls Try.prog 19 #[.pointer (some ⟨pb, 0, none⟩), .float .f64 x] v fun r w' => r = .returned (.agg #[.float .f64 x, .float .f64 x]) ∧ Below v.heap.size v w' :=
  fun v hv => kb_of hv (h v hv)
theorem pos_lo (r : Res) : (posR r).lo = maxW r.lo 0 := rfl
theorem pos_hi (r : Res) : (posR r).hi = r.hi := rfl
theorem geq_0 {x : Nat} (lx : x < 18446744073709551616) (rx : rightB x = true) : ((FloatKind.f64.format.order x 0 == some Ordering.gt) || (FloatKind.f64.format.order x 0 == some Ordering.eq)) = decide (0 ≤ val x) := by
  rw [order_gt x 0 lx (by decide) rx (by decide), order_eq x 0 lx (by decide) rx (by decide), Or.v0]
  by_cases h : 0 < val x
  · rw [decide_eq_true h, decide_eq_true (by omega : 0 ≤ val x)]; rfl
  · by_cases g : val x = 0
    · rw [decide_eq_true g, Bool.or_true, decide_eq_true (by omega : 0 ≤ val x)]
    · rw [decide_eq_false h, decide_eq_false g, decide_eq_false (by omega : ¬ 0 ≤ val x)]; rfl
theorem quo_zero {a b : Res} (h : (divR a b).e ≠ 0) : (divR a b).lo = 0 ∧ (divR a b).hi = 0 := by
  have k : (divI a.lo a.hi b.lo b.hi).e ≠ 0 := h
  show (divI a.lo a.hi b.lo b.hi).lo = 0 ∧ (divI a.lo a.hi b.lo b.hi).hi = 0
  unfold divI at k ⊢
  cases hb : hasB b.lo b.hi 0
  · rw [hb, if_neg Bool.false_ne_true] at k
    rw [if_neg Bool.false_ne_true]
    unfold div1 at k ⊢
    unfold tightR at k ⊢
    split at k
    · rename_i h1
      rw [if_pos h1]
      split at k
      · exact absurd rfl k
      · rename_i h2
        rw [if_neg h2]; exact ⟨rfl, rfl⟩
    · rename_i h1
      rw [if_neg h1]; exact ⟨rfl, rfl⟩
  · rw [if_pos rfl]; exact ⟨rfl, rfl⟩
theorem edge_0 : edgeW 0 = 0 := by decide +kernel
theorem slope_nil {i o d : Res} (he : (Or.st i o d).e ≠ 0) (h : Dirs i o d) : (Or.st i o d).lo = 0 ∧ (Or.st i o d).hi = 0 := by
  have k := slope_fits h
  by_cases g : 0 < val (Or.s i o d).hi
  · by_cases e : (Or.r i o d).e = 0
    · exfalso
      apply he
      unfold Or.st
      rw [if_pos g, if_pos e]
      split
      · exact e
      · rfl
    · have est : Or.st i o d = Or.r i o d := by
        unfold Or.st
        rw [if_pos g, if_neg e]
      rw [est]
      exact quo_zero e
  · exfalso
    apply he
    unfold Or.st
    rw [if_neg g]; exact k.s.fit.e
theorem slope_words {i o d : Res} (h : Dirs i o d) : (Or.st i o d).lo < 18446744073709551616 ∧ (Or.st i o d).hi < 18446744073709551616 ∧ rightB (Or.st i o d).lo = true ∧ rightB (Or.st i o d).hi = true := by
  by_cases he : (Or.st i o d).e = 0
  · have f := st_fit h he
    exact ⟨f.lo, f.hi, f.rlo, f.rhi⟩
  · obtain ⟨h1, h2⟩ := slope_nil he h
    rw [h1, h2]; decide
theorem slope_unit {i o d : Res} (h : Dirs i o d) (he : (Or.st i o d).e = 0) : In (Or.slope i o d) oeI := edge_unit (st_fit h he)
theorem clamp_0 : clampW 0 = 0 := by decide +kernel
theorem mul_bad {e : Int} (he : (e == 0) = false) (al ah bl bh : Nat) (la : al < 18446744073709551616) (ha : ah < 18446744073709551616) (lb : bl < 18446744073709551616) (hb : bh < 18446744073709551616) (pb : Nat) (v : World) (hv : Has1 v (pb, #[.int .i64 e])) :
    Calls Try.prog 18 #[.pointer (some ⟨pb, 0, none⟩), .agg #[.float .f64 al, .float .f64 ah], .agg #[.float .f64 bl, .float .f64 bh]] v fun r w' => r = .returned (.agg #[.float .f64 0, .float .f64 0]) ∧ Put ⟨pb, 0, none⟩ (.int .i64 e) v w' := by
  have c := cMul_any e al ah bl bh pb 0 v la ha lb hb hv.pc hv.pf
  rw [stepI_err _ _ _ he] at c
  exact c
theorem add_bad {e : Int} (he : (e == 0) = false) (al ah bl bh : Nat) (la : al < 18446744073709551616) (ha : ah < 18446744073709551616) (lb : bl < 18446744073709551616) (hb : bh < 18446744073709551616) (pb : Nat) (v : World) (hv : Has1 v (pb, #[.int .i64 e])) :
    Calls Try.prog 23 #[.pointer (some ⟨pb, 0, none⟩), .agg #[.float .f64 al, .float .f64 ah], .agg #[.float .f64 bl, .float .f64 bh]] v fun r w' => r = .returned (.agg #[.float .f64 0, .float .f64 0]) ∧ Put ⟨pb, 0, none⟩ (.int .i64 e) v w' := by
  have c := cAdd_any e al ah bl bh pb 0 v la ha lb hb hv.pc hv.pf
  rw [stepI_err _ _ _ he] at c
  exact c
theorem slope_zero {i o d : Res} (he : (Or.st i o d).e ≠ 0) (h : Dirs i o d) : (Or.slope i o d).lo = 0 ∧ (Or.slope i o d).hi = 0 := by
  obtain ⟨h1, h2⟩ := slope_nil he h
  unfold Or.slope
  rw [edgeR_lo, edgeR_hi, h1, h2, edge_0]; exact ⟨rfl, rfl⟩
end Go.Proofs.Ytdppppaoflhgdaa

namespace Go.Proofs.Ytdppppaoflhgdaa
open Go.RowKit
attribute [local go_sem] run_store_float

end Go.Proofs.Ytdppppaoflhgdaa

namespace Go.Proofs.Ytdppppaoflhgdaa
open Go.RowKit
attribute [local go_sem] run_store_float

theorem sub_small {a b y0 : Nat} (ha : a < 18446744073709551616) (hb : b < 18446744073709551616) (ra : rightB a = true) (rb : rightB b = true) (pb : 0 ≤ val b) (hab : val b ≤ val a) (ly : y0 < 18446744073709551616) (ry : rightB y0 = true) (hy : val a - val b ≤ val y0) :
    ∃ r, floatBits .sub .f64 a b = some r ∧ r < 18446744073709551616 ∧ rightB r = true ∧ 0 ≤ val r ∧ val r ≤ val y0 := by
  have z0 : val 0 = 0 := by decide +kernel
  obtain ⟨r, h1, h2, h3, h4, h5⟩ := sub_near ha hb ra rb pb hab
  obtain ⟨r', k1, k2⟩ := sub_beside a b ha hb ra rb
  obtain rfl : r = r' := by
    have : some r = some r' := h1.symm.trans k1
    simpa using this
  obtain ⟨n1, n2, n3, n4⟩ := near_between (x0 := 0) (y0 := y0) (by decide) (sub_down a b ra rb) (sub_up a b ra rb) k2 (by decide) (by decide) (by rw [z0]; omega) ly ry (by omega)
  exact ⟨r, h1, h2, h3, h4, n4⟩
theorem add_nil6 {x : Nat} (lx : x < 18446744073709551616) (rx : rightB x = true) (px : 0 ≤ val x) : floatBits .add .f64 x 0 = some x := by
  have z0 : val 0 = 0 := by decide +kernel
  obtain ⟨r, h1, h2, h3, h4, h5⟩ := add_near lx (by decide : (0 : Nat) < 18446744073709551616) rx (by decide) px (by rw [z0]; exact Int.le_refl _) (y0 := x) lx rx (by rw [z0]; omega)
  rw [h1, val_inj h2 lx h3 rx (Int.le_antisymm h5 h4)]
set_option maxRecDepth 100000 in
theorem lMeets6_any (al ah bl bh : Nat) (w : World) (o1 : ((FloatKind.f64.format.order al bh == some Ordering.lt) || (FloatKind.f64.format.order al bh == some Ordering.eq)) = true) (o2 : ((FloatKind.f64.format.order bl ah == some Ordering.lt) || (FloatKind.f64.format.order bl ah == some Ordering.eq)) = true) :
    Calls Try.prog 27 #[.agg #[.float .f64 al, .float .f64 ah], .agg #[.float .f64 bl, .float .f64 bh]] w fun r w' => r = .returned (.bool true) ∧ Below w.heap.size w w' := by
  have M := Lib.hid (((Own.nil w).made #[.float .f64 al, .float .f64 ah] 27).made #[.float .f64 bl, .float .f64 bh] 27)
  simp only [World.size_alloc] at M
  obtain ⟨k1, k2⟩ := (M.out.nth 1 rfl).two
  obtain ⟨k3, k4⟩ := (M.out.nth 0 rfl).two
  go_enter Try.func27, Try.ntmps27
  go_wp2
  go_ret
  exact ⟨by rw [← o2]; rfl, M.out.base⟩
theorem meets6_any {a b : Res} (fa : Fit a) (fb : Fit b) (h : val a.lo ≤ val b.hi ∧ val b.lo ≤ val a.hi) (w : World) : Calls Try.prog 27 #[.agg #[.float .f64 a.lo, .float .f64 a.hi], .agg #[.float .f64 b.lo, .float .f64 b.hi]] w fun r w' => r = .returned (.bool true) ∧ Below w.heap.size w w' :=
  lMeets6_any a.lo a.hi b.lo b.hi w ((order_le _ _ fa.lo fb.hi fa.rlo fb.rhi).trans (decide_eq_true h.1)) ((order_le _ _ fb.lo fa.hi fb.rlo fa.rhi).trans (decide_eq_true h.2))
end Go.Proofs.Ytdppppaoflhgdaa

namespace Go.Proofs.Ytdppppaoflhgdaa
open Go.RowKit
attribute [local go_sem] run_store_float

theorem word_neg {r : Nat} (h : val r ≠ 0) (hr : rung r < 9218868437227405312) : rightB r = true := by
  have hn : r ≠ 9223372036854775808 := by
    intro e
    subst e
    exact h (by decide +kernel)
  unfold rightB
  unfold rung at hr
  rw [decide_eq_true hr, decide_eq_false hn]; rfl
theorem sub_all {a b y0 : Nat} (ha : a < 18446744073709551616) (hb : b < 18446744073709551616) (ra : rightB a = true) (rb : rightB b = true) (hab : val b ≤ val a) (ly : y0 < 18446744073709551616) (ry : rightB y0 = true) (hy : val a - val b ≤ val y0) :
    ∃ r, floatBits .sub .f64 a b = some r ∧ r < 18446744073709551616 ∧ rightB r = true ∧ 0 ≤ val r ∧ val r ≤ val y0 := by
  have hst : (sgnB a && !sgnB b) = false := by
    cases sa : sgnB a
    · rfl
    · have n := (val_neg a ha ra).2 sa
      have m := (val_neg b hb rb).1 (by omega)
      rw [m]; rfl
  obtain ⟨r, h1, h2⟩ := sub_beside a b ha hb ra rb
  obtain ⟨n1, n2, n3, n4⟩ := near_between (x0 := 0) (y0 := y0) (by decide) (sub_down a b ra rb) (sub_up a b ra rb) h2 (by decide) (by decide) (by rw [show val 0 = 0 from by decide +kernel]; omega) ly ry (by omega)
  rw [show val 0 = 0 from by decide +kernel] at n3
  have h3 : ((Ieee.double.read a).sum (Ieee.double.read b).opposite).map Ieee.double.write = some r := h1
  rw [read_num a ha (right_rung a ra), read_num b hb (right_rung b rb)] at h3
  exact ⟨r, h1, n1, word_right (sum_plain (sgnB a) (!sgnB b) a b (expo_in a ra).1 (expo_in b rb).1 hst (by rw [neg_sg, ← val_sg, ← val_sg]; omega) r h3) n2, n3, n4⟩
theorem add_all {a b y0 : Nat} (ha : a < 18446744073709551616) (hb : b < 18446744073709551616) (ra : rightB a = true) (rb : rightB b = true) (pb : 0 ≤ val b) (ly : y0 < 18446744073709551616) (ry : rightB y0 = true) (hy : val a + val b ≤ val y0) :
    ∃ r, floatBits .add .f64 a b = some r ∧ r < 18446744073709551616 ∧ rightB r = true ∧ val a ≤ val r ∧ val r ≤ val y0 := by
  have sb := plain_sgn hb rb pb
  obtain ⟨r, h1, h2⟩ := add_beside a b ha hb ra rb
  obtain ⟨n1, n2, n3, n4⟩ := near_between (x0 := a) (y0 := y0) (by decide) (add_down a b ra rb) (add_up a b ra rb) h2 ha ra (by omega) ly ry (by omega)
  by_cases g : 0 ≤ val a + val b
  · have h3 : ((Ieee.double.read a).sum (Ieee.double.read b)).map Ieee.double.write = some r := h1
    rw [read_num a ha (right_rung a ra), read_num b hb (right_rung b rb)] at h3
    exact ⟨r, h1, n1, word_right (sum_plain _ _ a b (expo_in a ra).1 (expo_in b rb).1 (by rw [sb, Bool.and_false]) (by rw [← val_sg, ← val_sg]; omega) r h3) n2, n3, n4⟩
  · have e1 : val 9223372036854775809 = -1 := by decide +kernel
    obtain ⟨_, _, _, k4⟩ := near_between (x0 := a) (y0 := 9223372036854775809) (by decide) (add_down a b ra rb) (add_up a b ra rb) h2 ha ra (by omega) (by decide) (by decide) (by rw [e1]; omega)
    exact ⟨r, h1, n1, word_neg (by rw [e1] at k4; omega) n2, n3, n4⟩
theorem add_self0 {x : Nat} (lx : x < 18446744073709551616) (rx : rightB x = true) : floatBits .add .f64 x 0 = some x := by
  have z0 : val 0 = 0 := by decide +kernel
  obtain ⟨r, h1, h2, h3, h4, h5⟩ := add_all lx (by decide : (0 : Nat) < 18446744073709551616) rx (by decide) (by rw [z0]; exact Int.le_refl _) (y0 := x) lx rx (by rw [z0]; omega)
  rw [h1, val_inj h2 lx h3 rx (Int.le_antisymm h5 h4)]

theorem between8_any (lo hi n : Nat) (hl : lo < 18446744073709551616) (hh : hi < 18446744073709551616) (rl : rightB lo = true) (rh : rightB hi = true) (h0 : -SS ≤ val lo) (hle : val lo ≤ val hi) (hs : val hi ≤ SS) (hn : n < 4294967296) :
    ∃ x, Amid lo hi x ∧ ∀ w, Calls Try.prog 16 #[.float .f64 lo, .float .f64 hi, .int .u32 n] w fun r w' => r = .returned (.float .f64 x) ∧ w = w' := by
  have v2 : val w2 = 2 * SS := by decide +kernel
  have v3 : val w3 = 3 * SS := by decide +kernel
  obtain ⟨f, f1, f2, f3, f4, f5⟩ := frac_word n hn
  obtain ⟨d, d1, d2, d3, d4, d5⟩ := sub_all hh hl rh rl hle (y0 := w2) (by decide) (by decide) (by rw [v2]; omega)
  have eU : val u1 = ((2 ^ sq : Nat) : Int) := by decide +kernel
  obtain ⟨m, m1', m2, m3, m4, m5⟩ := mul_near d2 f2 d3 f3 d4 f4 d2 d3 (by rw [← eU]; exact Int.mul_le_mul_of_nonneg_left f5 d4)
  obtain ⟨x, x1, x2, x3, x4, x5⟩ := add_all hl m2 rl m3 m4 (y0 := w3) (by decide) (by decide) (by rw [v3]; rw [v2] at d5; omega)
  have o1 : (FloatKind.f64.format.order x lo == some Ordering.lt) = false := by
    rw [order_lt x lo x2 hl x3 rl]; exact decide_eq_false (by omega)
  have cw := fun w => between6_walk lo hi n f d m x _ w (Lib.hid fun w => frac_walk n f w (fun w => run_float_arith w .quo 22 .f64 _ _ _ f1)) (fun w => run_float_arith w .sub 22 .f64 _ _ _ d1) (fun w => run_float_arith w .mul 22 .f64 _ _ _ m1') (fun w => run_float_arith w .add 22 .f64 _ _ _ x1) o1 rfl
  refine ⟨_, ?_, cw⟩
  rw [order_gt x hi x2 hh x3 rh]
  by_cases g : val hi < val x
  · rw [decide_eq_true g, if_pos rfl]; exact ⟨hh, rh, hle, Int.le_refl _⟩
  · rw [decide_eq_false g, if_neg Bool.false_ne_true]; exact ⟨x2, x3, x4, by omega⟩
theorem span8_any (lo hi p q : Nat) (hl : lo < 18446744073709551616) (hh : hi < 18446744073709551616) (rl : rightB lo = true) (rh : rightB hi = true) (h0 : -SS ≤ val lo) (hle : val lo ≤ val hi) (hs : val hi ≤ SS) (hp : p < 4294967296) (hq : q < 4294967296) :
    ∃ a : Res, In a ⟨0, lo, hi⟩ ∧ ∀ w, Calls Try.prog 29 #[.float .f64 lo, .float .f64 hi, .int .u32 p, .int .u32 q] w fun r w' => r = .returned (.agg #[.float .f64 a.lo, .float .f64 a.hi]) ∧ Below w.heap.size w w' := by
  obtain ⟨a, a1, a2⟩ := between8_any lo hi p hl hh rl rh h0 hle hs hp
  obtain ⟨b, b1, b2⟩ := between8_any lo hi q hl hh rl rh h0 hle hs hq
  refine ⟨⟨0, if (FloatKind.f64.format.order a b == some Ordering.gt) = true then b else a, if (FloatKind.f64.format.order a b == some Ordering.gt) = true then a else b⟩, ?_, fun w => span_walk lo hi p q a b _ w (Lib.hid a2) (Lib.hid b2) rfl⟩
  have key : ∀ x y, Amid lo hi x → Amid lo hi y → val x ≤ val y → In ⟨0, x, y⟩ ⟨0, lo, hi⟩ := fun x y hx hy hxy =>
    ⟨⟨rfl, hx.lt, hy.lt, by show ivR x y = true; unfold ivR leB; rw [hx.right, hy.right, decide_eq_true hxy]; rfl⟩, hx.lo, hy.hi⟩
  rw [order_gt a b a1.lt b1.lt a1.right b1.right]
  by_cases g : val b < val a
  · rw [decide_eq_true g, if_pos rfl, if_pos rfl]; exact key b a b1 a1 (by omega)
  · rw [decide_eq_false g, if_neg Bool.false_ne_true, if_neg Bool.false_ne_true]; exact key a b a1 b1 (by omega)
theorem unit_ends : val u1 = SS ∧ val m1 = -SS ∧ 0 < SS := ⟨by decide +kernel, by decide +kernel, SS0⟩
theorem span_u (p q : Nat) (hp : p < 4294967296) (hq : q < 4294967296) :
    ∃ a : Res, In a ouI ∧ ∀ w, Calls Try.prog 29 #[.float .f64 0, .float .f64 4607182418800017408, .int .u32 p, .int .u32 q] w fun r w' => r = .returned (.agg #[.float .f64 a.lo, .float .f64 a.hi]) ∧ Below w.heap.size w w' :=
  span8_any 0 4607182418800017408 p q (by decide) (by decide) (by decide) (by decide) (by decide +kernel) (by decide +kernel) (by decide +kernel) hp hq
theorem span_e (p q : Nat) (hp : p < 4294967296) (hq : q < 4294967296) :
    ∃ a : Res, In a oeI ∧ ∀ w, Calls Try.prog 29 #[.float .f64 13830554455654793216, .float .f64 4607182418800017408, .int .u32 p, .int .u32 q] w fun r w' => r = .returned (.agg #[.float .f64 a.lo, .float .f64 a.hi]) ∧ Below w.heap.size w w' :=
  span8_any 13830554455654793216 4607182418800017408 p q (by decide) (by decide) (by decide) (by decide) (by decide +kernel) (by decide +kernel) (by decide +kernel) hp hq
theorem span_in {A : Res} (fA : Fit A) (h1 : val m1 ≤ val A.lo) (h2 : val A.hi ≤ val u1) (p q : Nat) (hp : p < 4294967296) (hq : q < 4294967296) :
    ∃ a : Res, In a A ∧ ∀ w, Calls Try.prog 29 #[.float .f64 A.lo, .float .f64 A.hi, .int .u32 p, .int .u32 q] w fun r w' => r = .returned (.agg #[.float .f64 a.lo, .float .f64 a.hi]) ∧ Below w.heap.size w w' := by
  obtain ⟨e1, e2, _⟩ := unit_ends
  obtain ⟨a, i, c⟩ := span8_any A.lo A.hi p q fA.lo fA.hi fA.rlo fA.rhi (by omega) fA.le (by omega) hp hq
  exact ⟨a, ⟨i.fit, i.lo, i.hi⟩, c⟩

theorem right_u (x : Nat) (h : (fitB (oneR x) && leB 0 x && leB x u1) = true) : In (oneR x) ouI := by
  simp only [Bool.and_eq_true] at h
  exact ⟨.of h.1.1, of_decide_eq_true h.1.2, of_decide_eq_true h.2⟩
theorem right_e (x : Nat) (h : (fitB (oneR x) && leB m1 x && leB x u1) = true) : In (oneR x) oeI := by
  simp only [Bool.and_eq_true] at h
  exact ⟨.of h.1.1, of_decide_eq_true h.1.2, of_decide_eq_true h.2⟩
def w05 : Nat := 4602678819172646912
def w025 : Nat := 4598175219545276416
def w0625 : Nat := 4603804719079489536
def n025 : Nat := 13821547256400052224
def n05 : Nat := 13826050856027422720
theorem d_of (i o d : Nat) (h : (fitB (oneR i) && leB 0 i && leB i u1 && (fitB (oneR o) && leB 0 o && leB o u1) && (fitB (oneR d) && leB m1 d && leB d u1)) = true) : Dirs (oneR i) (oneR o) (oneR d) := by
  rw [Bool.and_eq_true, Bool.and_eq_true] at h
  exact ⟨right_u _ h.1.1, right_u _ h.1.2, right_e _ h.2⟩
theorem eq_of_val8 {x y : Nat} (lx : x < 18446744073709551616) (ly : y < 18446744073709551616) (rx : rightB x = true) (ry : rightB y = true) (h : val x = val y) : Op.floatEq .f64 x y = true :=
  (order_eq x y lx ly rx ry).trans (decide_eq_true h)
theorem lIn8_any (al ah bl bh : Nat) (w : World) (o1 : ((FloatKind.f64.format.order bl al == some Ordering.lt) || (FloatKind.f64.format.order bl al == some Ordering.eq)) = true) (o2 : ((FloatKind.f64.format.order ah bh == some Ordering.lt) || (FloatKind.f64.format.order ah bh == some Ordering.eq)) = true) :
    Calls Try.prog 31 #[.agg #[.float .f64 al, .float .f64 ah], .agg #[.float .f64 bl, .float .f64 bh]] w fun r w' => r = .returned (.bool true) ∧ Below w.heap.size w w' := by
  have M := Lib.hid (((Own.nil w).made #[.float .f64 al, .float .f64 ah] 27).made #[.float .f64 bl, .float .f64 bh] 27)
  simp only [World.size_alloc] at M
  obtain ⟨k1, k2⟩ := (M.out.nth 1 rfl).two
  obtain ⟨k3, k4⟩ := (M.out.nth 0 rfl).two
  go_enter Try.func31, Try.ntmps31
  go_wp2
  go_ret
  exact ⟨by rw [← o2]; rfl, M.out.base⟩
theorem in8 {a A : Res} (i : In a A) (fA : Fit A) (w : World) : Calls Try.prog 31 #[.agg #[.float .f64 a.lo, .float .f64 a.hi], .agg #[.float .f64 A.lo, .float .f64 A.hi]] w fun r w' => r = .returned (.bool true) ∧ Below w.heap.size w w' :=
  lIn8_any a.lo a.hi A.lo A.hi w ((order_le A.lo a.lo fA.lo i.fit.lo fA.rlo i.fit.rlo).trans (decide_eq_true i.lo)) ((order_le a.hi A.hi i.fit.hi fA.hi i.fit.rhi fA.rhi).trans (decide_eq_true i.hi))
theorem meets8 {a b : Res} (fa : Fit a) (fb : Fit b) (h : val a.lo ≤ val b.hi ∧ val b.lo ≤ val a.hi) (w : World) : Calls Try.prog 27 #[.agg #[.float .f64 a.lo, .float .f64 a.hi], .agg #[.float .f64 b.lo, .float .f64 b.hi]] w fun r w' => r = .returned (.bool true) ∧ Below w.heap.size w w' := meets6_any fa fb h w
end Go.Proofs.Ytdppppaoflhgdaa
