/- OrenTells: for all that it is given. -/
import Derived.Test.YtoiaefgpegiieaaGreatKOtA
import Derived.Test.YtoiaefgpegiieaaGreatKOtB
import Derived.Test.YtoiaefgpegiieaaGreatKQO4
import Derived.Test.YtoiaefgpegiieaaGreatKQRcZ
namespace Go.Proofs.YtoiaefgpegiieaaGreat
open Go.RowKit
attribute [local go_sem] run_store_float

set_option maxRecDepth 100000 in
theorem end_e (x : Nat) (w : World) (hx : x < 18446744073709551616) (rx : rightB x = true) :
    Calls Tryz.prog 52 #[.float .f64 x, .float .f64 13830554455654793216, .float .f64 4607182418800017408] w fun r w' => r = .returned (.float .f64 (edgeW x)) ∧ Below w.heap.size w w' := by
  have o1 : (FloatKind.f64.format.order x 13830554455654793216 == some Ordering.lt) = decide (val x < val m1) := order_lt x m1 hx (by decide) rx (by decide)
  have o2 : (FloatKind.f64.format.order x 4607182418800017408 == some Ordering.gt) = decide (val u1 < val x) := order_gt x u1 hx (by decide) rx (by decide)
  have e : edgeW x = if val x < val m1 then m1 else if val u1 < val x then u1 else x := by
    have hz : ¬ val u1 < val m1 := by decide +kernel
    unfold edgeW maxW minW
    by_cases g : val x < val m1
    · rw [if_pos g, if_pos g, if_neg hz]
    · rw [if_neg g, if_neg g]
  rw [e]
  clear e
  by_cases g1 : val x < val m1
  · rw [if_pos g1]
    rw [decide_eq_true g1] at o1
    clear o2 g1
    go_enter Tryz.func52, Tryz.ntmps52
    go_wp2
    go_ret
    exact ⟨rfl, Below.refl _ _⟩
  · rw [if_neg g1]
    rw [decide_eq_false g1] at o1
    by_cases g2 : val u1 < val x
    · rw [if_pos g2]
      rw [decide_eq_true g2] at o2
      clear g1 g2
      go_enter Tryz.func52, Tryz.ntmps52
      go_wp2
      go_ret
      exact ⟨rfl, Below.refl _ _⟩
    · rw [if_neg g2]
      rw [decide_eq_false g2] at o2
      clear g1 g2
      go_enter Tryz.func52, Tryz.ntmps52
      go_wp2
      go_ret
      exact ⟨rfl, Below.refl _ _⟩

set_option maxRecDepth 100000 in
theorem kept_ewalk (a b x y : Nat) (w : World) (c1 : Hid (∀ w, Calls Tryz.prog 52 #[.float .f64 a, .float .f64 13830554455654793216, .float .f64 4607182418800017408] w fun r w' => r = .returned (.float .f64 x) ∧ Below w.heap.size w w'))
    (c2 : Hid (∀ w, Calls Tryz.prog 52 #[.float .f64 b, .float .f64 13830554455654793216, .float .f64 4607182418800017408] w fun r w' => r = .returned (.float .f64 y) ∧ Below w.heap.size w w')) :
    Calls Tryz.prog 27 #[.agg #[.float .f64 a, .float .f64 b], .float .f64 13830554455654793216, .float .f64 4607182418800017408] w fun r w' => r = .returned (.agg #[.float .f64 x, .float .f64 y]) ∧ Below w.heap.size w w' := by
  have M := Lib.hid (((Own.nil w).made #[.float .f64 a, .float .f64 b] 24).made #[.float .f64 0, .float .f64 0] 24)
  simp only [World.size_alloc] at M
  go_enter Tryz.func27, Tryz.ntmps27
  go_upto_region 1 with fail
  replace M := Lib.hid M.out.drew
  revert M
  generalize ((w.alloc (.cells #[.float .f64 a, .float .f64 b] 24)).alloc (.cells #[.float .f64 0, .float .f64 0] 24)) = W
  intro M
  obtain ⟨k1, k2⟩ := (M.out.nth 1 rfl).two
  have kc := (M.out.nth 0 rfl).2.1
  have kf := (M.out.nth 0 rfl).2.2
  go_region_held3 (fun w' => w'.cell? ⟨w.heap.size, 0, none⟩ = some (.float .f64 a) ∧ w'.cell? ⟨w.heap.size, 1, none⟩ = some (.float .f64 b)) (((try dsimp only); (repeat' apply And.intro); all_goals (repeat (first | (with_reducible assumption) | ((with_reducible refine keep_undrew ?_); (with_reducible assumption)) | (with_reducible refine keep_drew ?_) | (with_reducible refine keep_set _ (by first | (with_reducible assumption) | omega) ?_)))))
    (first
      | (go_at_call 52; (with_reducible refine (c1.out _).mono ?_); rintro rr w5 ⟨rfl, hb⟩; replace M := Lib.hid (M.out.below hb); clear hb k1 k2 kc kf; obtain ⟨k1, k2⟩ := (M.out.nth 1 rfl).two; have kc := (M.out.nth 0 rfl).2.1; have kf := (M.out.nth 0 rfl).2.2)
      | (go_at_call 52; (with_reducible refine (c2.out _).mono ?_); rintro rr w5 ⟨rfl, hb⟩; replace M := Lib.hid (M.out.below hb); clear hb k1 k2 kc kf; obtain ⟨k1, k2⟩ := (M.out.nth 1 rfl).two; have kc := (M.out.nth 0 rfl).2.1; have kf := (M.out.nth 0 rfl).2.2))
  replace M := Lib.hid (M.out.set2 0 rfl (.float .f64 x) (.float .f64 y))
  go_wp2
  obtain ⟨f1, f2⟩ := (M.out.nth 0 rfl).two
  exact bodyPost_ret (v := .agg #[.float .f64 x, .float .f64 y]) (by simp [results, Tryz.results27, go_sem, f1, f2]) rfl ⟨rfl, M.out.base⟩
theorem kept_e (a b : Nat) (w : World) (ha : a < 18446744073709551616) (hb : b < 18446744073709551616) (ra : rightB a = true) (rb : rightB b = true) :
    Calls Tryz.prog 27 #[.agg #[.float .f64 a, .float .f64 b], .float .f64 13830554455654793216, .float .f64 4607182418800017408] w fun r w' => r = .returned (.agg #[.float .f64 (edgeW a), .float .f64 (edgeW b)]) ∧ Below w.heap.size w w' :=
  kept_ewalk a b _ _ w (Lib.hid fun w => end_e a w ha ra) (Lib.hid fun w => end_e b w hb rb)

theorem told_put {R : Res} {e1 : Int} {l h : Nat} {f : FuncId} {args : Array Value} {pb : Nat} {w : World} (k : Calls Tryz.prog f args w (Told R pb 0 w)) (he : R.e = e1) (hl : R.lo = l) (hh : R.hi = h) :
    Calls Tryz.prog f args w fun r w' => r = .returned (.agg #[.float .f64 l, .float .f64 h]) ∧ Put ⟨pb, 0, none⟩ (.int .i64 e1) w w' := by
  subst he hl hh
  exact k.mono fun _ _ ⟨h1, h2⟩ => ⟨h1, h2⟩
theorem step_fit {R : Res} (b : Bool) (hb : b = true) : stepI 0 b R = R := by subst hb; rfl
section
variable {a b : Res}
theorem radd_is (fa : Fit a) (fb : Fit b) (f : Fit (addR a b)) (pb : Nat) (v : World) (hC : Has1 v (pb, #[.int .i64 0])) :
    Calls Tryz.prog 22 #[.pointer (some ⟨pb, 0, none⟩), .agg #[.float .f64 a.lo, .float .f64 a.hi], .agg #[.float .f64 b.lo, .float .f64 b.hi]] v fun r w' => r = .returned (.agg #[.float .f64 (addR a b).lo, .float .f64 (addR a b).hi]) ∧ Put ⟨pb, 0, none⟩ (.int .i64 0) v w' := by
  have k := rAdd_any 0 a.lo a.hi b.lo b.hi pb v fa.lo fa.hi fb.lo fb.hi hC
  rw [step_fit _ (by rw [fa.iv, fb.iv]; rfl)] at k
  exact told_put k f.e rfl rfl
theorem rsub_is (fa : Fit a) (fb : Fit b) (f : Fit (subR a b)) (pb : Nat) (v : World) (hC : Has1 v (pb, #[.int .i64 0])) :
    Calls Tryz.prog 19 #[.pointer (some ⟨pb, 0, none⟩), .agg #[.float .f64 a.lo, .float .f64 a.hi], .agg #[.float .f64 b.lo, .float .f64 b.hi]] v fun r w' => r = .returned (.agg #[.float .f64 (subR a b).lo, .float .f64 (subR a b).hi]) ∧ Put ⟨pb, 0, none⟩ (.int .i64 0) v w' := by
  have k := rSub_any 0 a.lo a.hi b.lo b.hi pb v fa.lo fa.hi fb.lo fb.hi hC
  rw [step_fit _ (by rw [fa.iv, fb.iv]; rfl)] at k
  exact told_put k f.e rfl rfl
theorem rmul_is (fa : Fit a) (fb : Fit b) (f : Fit (mulR a b)) (pb : Nat) (v : World) (hC : Has1 v (pb, #[.int .i64 0])) :
    Calls Tryz.prog 23 #[.pointer (some ⟨pb, 0, none⟩), .agg #[.float .f64 a.lo, .float .f64 a.hi], .agg #[.float .f64 b.lo, .float .f64 b.hi]] v fun r w' => r = .returned (.agg #[.float .f64 (mulR a b).lo, .float .f64 (mulR a b).hi]) ∧ Put ⟨pb, 0, none⟩ (.int .i64 0) v w' := by
  have k := rMul_any 0 a.lo a.hi b.lo b.hi pb v fa.lo fa.hi fb.lo fb.hi hC
  rw [step_fit _ (by rw [fa.iv, fb.iv]; rfl)] at k
  exact told_put k f.e rfl rfl
theorem rmax_is (fa : Fit a) (fb : Fit b) (f : Fit (maxR a b)) (pb : Nat) (v : World) (hC : Has1 v (pb, #[.int .i64 0])) :
    Calls Tryz.prog 25 #[.pointer (some ⟨pb, 0, none⟩), .agg #[.float .f64 a.lo, .float .f64 a.hi], .agg #[.float .f64 b.lo, .float .f64 b.hi]] v fun r w' => r = .returned (.agg #[.float .f64 (maxR a b).lo, .float .f64 (maxR a b).hi]) ∧ Put ⟨pb, 0, none⟩ (.int .i64 0) v w' := by
  have k := rMax_any 0 a.lo a.hi b.lo b.hi pb v fa.lo fa.hi fb.lo fb.hi hC
  rw [step_fit _ (by rw [fa.iv, fb.iv]; rfl)] at k
  exact told_put k f.e rfl rfl
theorem rdiv_told (fa : Fit a) (fb : Fit b) (pb : Nat) (v : World) (hC : Has1 v (pb, #[.int .i64 0])) :
    Calls Tryz.prog 20 #[.pointer (some ⟨pb, 0, none⟩), .agg #[.float .f64 a.lo, .float .f64 a.hi], .agg #[.float .f64 b.lo, .float .f64 b.hi]] v fun r w' => r = .returned (.agg #[.float .f64 (divR a b).lo, .float .f64 (divR a b).hi]) ∧ Put ⟨pb, 0, none⟩ (.int .i64 (divR a b).e) v w' := by
  have k := rDiv_any 0 a.lo a.hi b.lo b.hi pb v fa.lo fa.hi fb.lo fb.hi hC
  rw [step_fit _ (by rw [fa.iv, fb.iv]; rfl)] at k
  exact told_put k rfl rfl rfl
theorem rdiv_is (fa : Fit a) (fb : Fit b) (f : Fit (divR a b)) (pb : Nat) (v : World) (hC : Has1 v (pb, #[.int .i64 0])) :
    Calls Tryz.prog 20 #[.pointer (some ⟨pb, 0, none⟩), .agg #[.float .f64 a.lo, .float .f64 a.hi], .agg #[.float .f64 b.lo, .float .f64 b.hi]] v fun r w' => r = .returned (.agg #[.float .f64 (divR a b).lo, .float .f64 (divR a b).hi]) ∧ Put ⟨pb, 0, none⟩ (.int .i64 0) v w' := by
  have k := rdiv_told fa fb pb v hC
  rw [f.e] at k
  exact k
theorem rnum_is (x : Nat) (h : (decide (x < 18446744073709551616) && rightB x) = true) (pb : Nat) (v : World) (hC : Has1 v (pb, #[.int .i64 0])) :
    Calls Tryz.prog 21 #[.pointer (some ⟨pb, 0, none⟩), .float .f64 x] v fun r w' => r = .returned (.agg #[.float .f64 x, .float .f64 x]) ∧ Put ⟨pb, 0, none⟩ (.int .i64 0) v w' := by
  simp only [Bool.and_eq_true, decide_eq_true_eq] at h
  have k := rNum_any 0 x pb v h.1 hC
  rw [step_fit _ rfl] at k
  have e : ofI x = ⟨0, x, x⟩ := by unfold ofI; rw [h.2]; rfl
  rw [e] at k
  exact told_put k rfl rfl rfl
theorem rright_is (f : Fit a) (w : World) : Calls Tryz.prog 16 #[.agg #[.float .f64 a.lo, .float .f64 a.hi]] w fun r w' => r = .returned (.bool true) ∧ Below w.heap.size w w' := by
  have k := rRight_any a.lo a.hi w f.lo f.hi
  rw [f.iv] at k
  exact k
theorem rwithin_u (f : Fit a) (b : Bool) (hb : okB 0 4607182418800017408 a.lo a.hi = b) (w : World) : Calls Tryz.prog 17 #[.agg #[.float .f64 a.lo, .float .f64 a.hi], .float .f64 0, .float .f64 4607182418800017408] w fun r w' => r = .returned (.bool b) ∧ Below w.heap.size w w' := by
  have k := within6_any a.lo a.hi 0 4607182418800017408 w f.lo f.hi f.rlo f.rhi (by decide) (by decide) (by decide) (by decide)
  rw [hb] at k
  exact k
theorem rwithin_e (f : Fit a) (b : Bool) (hb : okB 13830554455654793216 4607182418800017408 a.lo a.hi = b) (w : World) : Calls Tryz.prog 17 #[.agg #[.float .f64 a.lo, .float .f64 a.hi], .float .f64 13830554455654793216, .float .f64 4607182418800017408] w fun r w' => r = .returned (.bool b) ∧ Below w.heap.size w w' := by
  have k := within6_any a.lo a.hi 13830554455654793216 4607182418800017408 w f.lo f.hi f.rlo f.rhi (by decide) (by decide) (by decide) (by decide)
  rw [hb] at k
  exact k
end
theorem okIn8 {lo hi l h : Nat} (f : Fit ⟨0, l, h⟩) (k : okB lo hi l h = true) : In ⟨0, l, h⟩ ⟨0, lo, hi⟩ := by
  unfold okB at k
  rw [Bool.and_eq_true] at k
  exact ⟨f, of_decide_eq_true k.1, of_decide_eq_true k.2⟩
theorem ok_of {lo hi : Nat} {a : Res} (i : In a ⟨0, lo, hi⟩) : okB lo hi a.lo a.hi = true := by
  unfold okB
  rw [Bool.and_eq_true]
  exact ⟨decide_eq_true i.lo, decide_eq_true i.hi⟩
theorem bad_ends {lo hi l h : Nat} (lo64 : lo < 18446744073709551616) (hi64 : hi < 18446744073709551616) (rlo : rightB lo = true) (rhi : rightB hi = true) (ll : l < 18446744073709551616) (lh : h < 18446744073709551616) (r : ivR l h = true) :
    okB lo hi l h = !((FloatKind.f64.format.order l lo == some Ordering.lt) || (FloatKind.f64.format.order h hi == some Ordering.gt)) := by
  obtain ⟨r1, r2, _⟩ := ivR_parts r
  rw [order_lt l lo ll lo64 r1 rlo, order_gt h hi lh hi64 r2 rhi]
  unfold okB
  by_cases g1 : val lo ≤ val l
  · by_cases g2 : val h ≤ val hi
    · rw [decide_eq_true g1, decide_eq_true g2, decide_eq_false (by omega), decide_eq_false (by omega)]; rfl
    · rw [decide_eq_true g1, decide_eq_false g2, decide_eq_false (by omega : ¬ val l < val lo), decide_eq_true (by omega : val hi < val h)]; rfl
  · rw [decide_eq_false g1, decide_eq_true (by omega : val l < val lo)]; rfl
theorem ten_bools : ∀ p0 g0 p1 g1 p2 g2 p3 g3 p4 g4 : Bool, (if (p0 || g0 || p1 || g1 || p2 || g2 || p3 || g3 || p4 || g4) = true then (2 : Int) else 0) = if (!(p0 || g0) && !(p1 || g1) && !(p2 || g2) && !(p3 || g3) && !(p4 || g4)) = true then 0 else 2 := by decide +kernel
def errO (a0 b0 a1 b1 a2 b2 a3 b3 a4 b4 : Nat) : Int :=
  if (ivR a0 b0 && ivR a1 b1 && ivR a2 b2 && ivR a3 b3 && ivR a4 b4) = true then (if (okB 0 4607182418800017408 a0 b0 && okB 0 4607182418800017408 a1 b1 && okB 0 4607182418800017408 a2 b2 && okB 0 4607182418800017408 a3 b3 && okB 13830554455654793216 4607182418800017408 a4 b4) = true then 0 else 2) else 20
theorem ocheck_words (a0 b0 a1 b1 a2 b2 a3 b3 a4 b4 : Nat) (l0 : a0 < 18446744073709551616) (h0 : b0 < 18446744073709551616) (l1 : a1 < 18446744073709551616) (h1 : b1 < 18446744073709551616) (l2 : a2 < 18446744073709551616) (h2 : b2 < 18446744073709551616) (l3 : a3 < 18446744073709551616) (h3 : b3 < 18446744073709551616) (l4 : a4 < 18446744073709551616) (h4 : b4 < 18446744073709551616) (w : World) :
    Calls Tryz.prog 13 #[.agg #[.float .f64 a0, .float .f64 b0, .float .f64 a1, .float .f64 b1, .float .f64 a2, .float .f64 b2, .float .f64 a3, .float .f64 b3, .float .f64 a4, .float .f64 b4]] w fun r w' => r = .returned (.int .i64 (errO a0 b0 a1 b1 a2 b2 a3 b3 a4 b4)) ∧ Below w.heap.size w w' := by
  have k := ocheck_walk a0 b0 a1 b1 a2 b2 a3 b3 a4 b4 _ _ _ _ _ _ _ _ _ _ _ _ _ _ _ w (Lib.hid fun w => ivRight_any a0 b0 w l0 h0) (Lib.hid fun w => ivRight_any a1 b1 w l1 h1) (Lib.hid fun w => ivRight_any a2 b2 w l2 h2) (Lib.hid fun w => ivRight_any a3 b3 w l3 h3) (Lib.hid fun w => ivRight_any a4 b4 w l4 h4) rfl rfl rfl rfl rfl rfl rfl rfl rfl rfl (Lib.hid olimits_walk)
  unfold errO
  cases r : (ivR a0 b0 && ivR a1 b1 && ivR a2 b2 && ivR a3 b3 && ivR a4 b4)
  · rw [r, if_neg Bool.false_ne_true] at k
    rw [if_neg Bool.false_ne_true]
    exact k
  · rw [r, if_pos rfl, ten_bools] at k
    simp only [Bool.and_eq_true] at r
    rw [if_pos rfl, bad_ends (by decide) (by decide) (by decide) (by decide) l0 h0 r.1.1.1.1, bad_ends (by decide) (by decide) (by decide) (by decide) l1 h1 r.1.1.1.2, bad_ends (by decide) (by decide) (by decide) (by decide) l2 h2 r.1.1.2, bad_ends (by decide) (by decide) (by decide) (by decide) l3 h3 r.1.2, bad_ends (by decide) (by decide) (by decide) (by decide) l4 h4 r.2]
    exact k
theorem eq_nil : Op.floatEq .f64 0 0 = true := by decide +kernel
theorem eq_fit {a : Res} (f : Fit a) : Op.floatEq .f64 a.lo a.lo = true ∧ Op.floatEq .f64 a.hi a.hi = true :=
  ⟨(order_eq _ _ f.lo f.lo f.rlo f.rlo).trans (decide_eq_true rfl), (order_eq _ _ f.hi f.hi f.rhi f.rhi).trans (decide_eq_true rfl)⟩

theorem pair_ref {s : Res} (hs : In s ouI) (w : World) : Calls Tryz.prog 6 #[.agg #[.float .f64 s.lo, .float .f64 s.hi]] w fun r w' =>
    r = .returned (.tuple #[.agg #[.float .f64 (Or.a s).lo, .float .f64 (Or.a s).hi], .agg #[.float .f64 (Or.b s).lo, .float .f64 (Or.b s).hi], .int .i64 0]) ∧ Below w.heap.size w w' := by
  obtain ⟨c1, c2, c3⟩ := Or.consts
  have P := pair_in hs
  have k5 := rdiv_is big_fit.1 w2_fit c1
  have k8 := rdiv_is w2_fit w3_fit c2
  have k9 := rsub_is c1 c2 c3
  have k11 := rmul_is c3 hs.fit P.m.fit
  have k12 := radd_is big_fit.1 P.m.fit P.q.fit
  have k13 := rdiv_is u1_fit P.q.fit P.a.fit
  exact refPair_ok w (Lib.hid (rright_is hs.fit)) (Lib.hid (rwithin_u hs.fit true (ok_of hs))) (Lib.hid rPi_any) (Lib.hid (rnum_is _ (by decide))) (Lib.hid k5)
    (Lib.hid (rnum_is _ (by decide))) (Lib.hid k8) (Lib.hid k9) (Lib.hid (rnum_is _ (by decide))) (Lib.hid k11) (Lib.hid k12) (Lib.hid k13)
    (Lib.hid (rmul_is hs.fit P.a.fit P.b.fit))
theorem pos_self {r : Res} (l : 0 ≤ val r.lo) : (posR r).lo = r.lo := by
  show maxW r.lo 0 = r.lo
  unfold maxW
  rw [if_neg (by rw [Or.v0]; omega)]
theorem pos_zero {r : Res} (l : ¬ 0 ≤ val r.lo) : (posR r).lo = 0 := by
  show maxW r.lo 0 = 0
  unfold maxW
  rw [if_pos (by rw [Or.v0]; omega)]
theorem slope_ref {i o d : Res} (h : Dirs i o d) (w : World) : Calls Tryz.prog 8 #[.agg #[.float .f64 i.lo, .float .f64 i.hi], .agg #[.float .f64 o.lo, .float .f64 o.hi], .agg #[.float .f64 d.lo, .float .f64 d.hi]] w fun r w' =>
    r = .returned (.tuple #[.agg #[.float .f64 (Or.slope i o d).lo, .float .f64 (Or.slope i o d).hi], .int .i64 (Or.st i o d).e]) ∧ Below w.heap.size w w' := by
  have k := slope_fits h
  have gt := order_gt (Or.s i o d).hi 0 k.s.fit.hi (by decide) k.s.fit.rhi (by decide)
  rw [Or.v0] at gt
  have c1 := Lib.hid (rright_is h.i.fit)
  have c2 := Lib.hid (rright_is h.o.fit)
  have c3 := Lib.hid (rright_is h.d.fit)
  have c4 := Lib.hid (rwithin_u h.i.fit true (ok_of h.i))
  have c5 := Lib.hid (rwithin_u h.o.fit true (ok_of h.o))
  have c6 := Lib.hid (rwithin_e h.d.fit true (ok_of h.d))
  have d7 := Lib.hid (rmul_is h.i.fit h.o.fit k.p.fit)
  have d8 := Lib.hid (rsub_is h.d.fit k.p.fit k.s.fit)
  by_cases g : 0 < val (Or.s i o d).hi
  · rw [decide_eq_true g] at gt
    have P := pos_fit k.s.fit g
    have d9 := Lib.hid (rmax_is h.i.fit h.o.fit k.top.fit)
    have dd := rdiv_told P k.top.fit
    have er : divR (posR (Or.s i o d)) (Or.top i o) = Or.r i o d := rfl
    have hg := geq_0 k.s.fit.lo k.s.fit.rlo
    rw [er, pos_hi] at dd
    by_cases l : 0 ≤ val (Or.s i o d).lo
    · rw [decide_eq_true l] at hg
      rw [pos_self l] at dd
      have est : Or.st i o d = Or.r i o d := by
        unfold Or.st
        rw [if_pos g, if_pos l]
        split <;> rfl
      by_cases e : (Or.r i o d).e = 0
      · have fr : Fit (Or.r i o d) := quo_fit P k.top.fit e
        rw [e] at dd
        rw [est, e]
        unfold Or.slope
        rw [est, edgeR_lo, edgeR_hi]
        exact refSlope_pos w c1 c2 c3 c4 c5 c6 d7 d8 gt d9 hg (Lib.hid dd) (Lib.hid fun w => kept_e _ _ w fr.lo fr.hi fr.rlo fr.rhi)
      · obtain ⟨z1, z2⟩ := slope_zero (by rw [est]; exact e) h
        rw [z1, z2, est]
        exact refSlope_perr w c1 c2 c3 c4 c5 c6 d7 d8 gt d9 hg (Lib.hid dd) (by simpa using e)
    · rw [decide_eq_false l] at hg
      rw [pos_zero l] at dd
      by_cases e : (Or.r i o d).e = 0
      · have est : Or.st i o d = midR (Or.s i o d) (Or.r i o d) := by
          unfold Or.st
          rw [if_pos g, if_pos e, if_neg l]
        have fr : Fit (Or.r i o d) := quo_fit P k.top.fit e
        have fm : Fit (midR (Or.s i o d) (Or.r i o d)) := mid_fit k.s.fit fr (by omega)
        rw [e] at dd
        unfold Or.slope
        rw [est, edgeR_lo, edgeR_hi]
        exact refSlope_mid w c1 c2 c3 c4 c5 c6 d7 d8 gt d9 hg (Lib.hid dd) (Lib.hid fun w => rHull_any (Or.s i o d).lo 0 (Or.r i o d).lo (Or.r i o d).hi w k.s.fit.lo (by decide) fr.lo fr.hi k.s.fit.rlo (by decide) fr.rlo fr.rhi) (Lib.hid fun w => kept_e _ _ w fm.lo fm.hi fm.rlo fm.rhi)
      · have est : Or.st i o d = Or.r i o d := by
          unfold Or.st
          rw [if_pos g, if_neg e]
        obtain ⟨z1, z2⟩ := slope_zero (by rw [est]; exact e) h
        obtain ⟨q1, q2⟩ := quo_zero (a := posR (Or.s i o d)) (b := Or.top i o) (by rw [er]; exact e)
        rw [er] at q1 q2
        rw [z1, z2, est]
        rw [q1, q2] at dd
        exact refSlope_merr w c1 c2 c3 c4 c5 c6 d7 d8 gt d9 hg (Lib.hid dd) (Lib.hid fun w => rHull_any (Or.s i o d).lo 0 0 0 w k.s.fit.lo (by decide) (by decide) (by decide) k.s.fit.rlo (by decide) (by decide) (by decide)) (by simpa using e)
  · rw [decide_eq_false g] at gt
    have est : Or.st i o d = Or.s i o d := by
      unfold Or.st
      rw [if_neg g]
    unfold Or.slope
    rw [est, edgeR_lo, edgeR_hi, k.s.fit.e]
    exact refSlope_low w c1 c2 c3 c4 c5 c6 d7 d8 gt (Lib.hid fun w => kept_e _ _ w k.s.fit.lo k.s.fit.hi k.s.fit.rlo k.s.fit.rhi)
theorem value_ref {r s i o d : Res} (hr : In r ouI) (hs : In s ouI) (h : Dirs i o d) (he : (Or.st i o d).e = 0) (w : World) :
    Calls Tryz.prog 10 #[.agg #[.float .f64 r.lo, .float .f64 r.hi], .agg #[.float .f64 s.lo, .float .f64 s.hi], .agg #[.float .f64 i.lo, .float .f64 i.hi], .agg #[.float .f64 o.lo, .float .f64 o.hi], .agg #[.float .f64 d.lo, .float .f64 d.hi]] w fun x w' =>
    x = .returned (.tuple #[.agg #[.float .f64 (Or.val r s (Or.slope i o d)).lo, .float .f64 (Or.val r s (Or.slope i o d)).hi], .int .i64 0]) ∧ Below w.heap.size w w' := by
  have t := slope_unit h he
  have V := val_fits hr hs t
  have P := pair_in hs
  have c8 := fun w => slope_ref h w
  rw [he] at c8
  exact refValue_ok w (Lib.hid (rright_is hr.fit)) (Lib.hid (rright_is hs.fit)) (Lib.hid (rright_is h.i.fit)) (Lib.hid (rright_is h.o.fit)) (Lib.hid (rright_is h.d.fit)) (Lib.hid (rwithin_u hr.fit true (ok_of hr))) (Lib.hid (pair_ref hs)) (Lib.hid c8)
    (Lib.hid (rmul_is P.b.fit t.fit V.n.fit)) (Lib.hid (radd_is P.a.fit V.n.fit V.k.fit)) (Lib.hid (rmul_is hr.fit V.k.fit V.l.fit)) (Lib.hid fun w => kept_any _ _ w V.l.fit.lo V.l.fit.hi V.l.fit.rlo V.l.fit.rhi)
theorem value_ref_bad {r s i o d : Res} (hr : In r ouI) (hs : In s ouI) (h : Dirs i o d) (he : (Or.st i o d).e ≠ 0) (w : World) :
    Calls Tryz.prog 10 #[.agg #[.float .f64 r.lo, .float .f64 r.hi], .agg #[.float .f64 s.lo, .float .f64 s.hi], .agg #[.float .f64 i.lo, .float .f64 i.hi], .agg #[.float .f64 o.lo, .float .f64 o.hi], .agg #[.float .f64 d.lo, .float .f64 d.hi]] w fun x w' =>
    x = .returned (.tuple #[.agg #[.float .f64 0, .float .f64 0], .int .i64 (Or.st i o d).e]) ∧ Below w.heap.size w w' :=
  refValue_slope w (Lib.hid (rright_is hr.fit)) (Lib.hid (rright_is hs.fit)) (Lib.hid (rright_is h.i.fit)) (Lib.hid (rright_is h.o.fit)) (Lib.hid (rright_is h.d.fit)) (Lib.hid (rwithin_u hr.fit true (ok_of hr))) (Lib.hid (pair_ref hs)) (Lib.hid (slope_ref h)) (by simpa using he)

theorem pair_words (l h : Nat) (ll : l < 18446744073709551616) (lh : h < 18446744073709551616) :
    ∃ (e : Int) (x y z t : Nat), Op.floatEq .f64 x x = true ∧ Op.floatEq .f64 y y = true ∧ Op.floatEq .f64 z z = true ∧ Op.floatEq .f64 t t = true ∧
      (∀ w, Calls Tryz.prog 5 #[.agg #[.float .f64 l, .float .f64 h]] w fun r w' => r = .returned (.tuple #[.agg #[.float .f64 x, .float .f64 y], .agg #[.float .f64 z, .float .f64 t], .int .i64 e]) ∧ Below w.heap.size w w') ∧
      (∀ w, Calls Tryz.prog 6 #[.agg #[.float .f64 l, .float .f64 h]] w fun r w' => r = .returned (.tuple #[.agg #[.float .f64 x, .float .f64 y], .agg #[.float .f64 z, .float .f64 t], .int .i64 e]) ∧ Below w.heap.size w w') ∧ (e = if ivR l h = true then (if okB 0 4607182418800017408 l h = true then 0 else 2) else 20) ∧ (e ≠ 0 → x = 0 ∧ y = 0 ∧ z = 0 ∧ t = 0) := by
  have ck := ocheck_words 0 0 l h 0 0 0 0 0 0 (by decide) (by decide) ll lh (by decide) (by decide) (by decide) (by decide) (by decide) (by decide)
  have rR := fun w => rRight_any l h w ll lh
  have i0 : ivR 0 0 = true := by decide +kernel
  have k0 : okB 0 4607182418800017408 0 0 = true := by decide +kernel
  have k1 : okB 13830554455654793216 4607182418800017408 0 0 = true := by decide +kernel
  unfold errO at ck
  rw [i0, k0, k1] at ck
  simp only [Bool.true_and, Bool.and_true] at ck
  cases r : ivR l h
  · simp only [r] at ck rR
    exact ⟨20, 0, 0, 0, 0, eq_nil, eq_nil, eq_nil, eq_nil, fun w => oPair_bad w (Lib.hid ck) rfl, fun w => refPair_iv w (Lib.hid rR), by simp, fun _ => ⟨rfl, rfl, rfl, rfl⟩⟩
  · have f : Fit ⟨0, l, h⟩ := ⟨rfl, ll, lh, r⟩
    simp only [r] at ck rR
    cases k : okB 0 4607182418800017408 l h
    · simp only [k] at ck
      exact ⟨2, 0, 0, 0, 0, eq_nil, eq_nil, eq_nil, eq_nil, fun w => oPair_bad w (Lib.hid ck) rfl, fun w => refPair_arg w (Lib.hid rR) (Lib.hid fun w => rwithin_u f false k w), by simp, fun _ => ⟨rfl, rfl, rfl, rfl⟩⟩
    · have i := okIn8 f k
      have P := pair_in i
      obtain ⟨e1, e2⟩ := eq_fit P.a.fit
      obtain ⟨e3, e4⟩ := eq_fit P.b.fit
      exact ⟨0, _, _, _, _, e1, e2, e3, e4, fun w => pair8 i w, fun w => pair_ref i w, by simp, fun h => absurd rfl h⟩

theorem slope_bad3 {il ih ol oh dl dh : Nat} {e : Int} (ck : ∀ w, Calls Tryz.prog 13 #[.agg #[.float .f64 0, .float .f64 0, .float .f64 0, .float .f64 0, .float .f64 il, .float .f64 ih, .float .f64 ol, .float .f64 oh, .float .f64 dl, .float .f64 dh]] w fun r w' => r = .returned (.int .i64 e) ∧ Below w.heap.size w w') (he : e ≠ 0)
    (rf : ∀ w, Calls Tryz.prog 8 #[.agg #[.float .f64 il, .float .f64 ih], .agg #[.float .f64 ol, .float .f64 oh], .agg #[.float .f64 dl, .float .f64 dh]] w fun r w' => r = .returned (.tuple #[.agg #[.float .f64 0, .float .f64 0], .int .i64 e]) ∧ Below w.heap.size w w') :
    ∃ (e : Int) (x y : Nat), Op.floatEq .f64 x x = true ∧ Op.floatEq .f64 y y = true ∧
      (∀ w, Calls Tryz.prog 7 #[.agg #[.float .f64 il, .float .f64 ih], .agg #[.float .f64 ol, .float .f64 oh], .agg #[.float .f64 dl, .float .f64 dh]] w fun r w' => r = .returned (.tuple #[.agg #[.float .f64 x, .float .f64 y], .int .i64 e]) ∧ Below w.heap.size w w') ∧
      (∀ w, Calls Tryz.prog 8 #[.agg #[.float .f64 il, .float .f64 ih], .agg #[.float .f64 ol, .float .f64 oh], .agg #[.float .f64 dl, .float .f64 dh]] w fun r w' => r = .returned (.tuple #[.agg #[.float .f64 x, .float .f64 y], .int .i64 e]) ∧ Below w.heap.size w w') :=
  ⟨e, 0, 0, eq_nil, eq_nil, fun w => oSlope_bad w (Lib.hid ck) (by simpa using he), rf⟩
theorem slope_tells (il ih ol oh dl dh : Nat) (l1 : il < 18446744073709551616) (l2 : ih < 18446744073709551616) (l3 : ol < 18446744073709551616) (l4 : oh < 18446744073709551616) (l5 : dl < 18446744073709551616) (l6 : dh < 18446744073709551616) :
    ∃ (e : Int) (x y : Nat), Op.floatEq .f64 x x = true ∧ Op.floatEq .f64 y y = true ∧
      (∀ w, Calls Tryz.prog 7 #[.agg #[.float .f64 il, .float .f64 ih], .agg #[.float .f64 ol, .float .f64 oh], .agg #[.float .f64 dl, .float .f64 dh]] w fun r w' => r = .returned (.tuple #[.agg #[.float .f64 x, .float .f64 y], .int .i64 e]) ∧ Below w.heap.size w w') ∧
      (∀ w, Calls Tryz.prog 8 #[.agg #[.float .f64 il, .float .f64 ih], .agg #[.float .f64 ol, .float .f64 oh], .agg #[.float .f64 dl, .float .f64 dh]] w fun r w' => r = .returned (.tuple #[.agg #[.float .f64 x, .float .f64 y], .int .i64 e]) ∧ Below w.heap.size w w') := by
  have ck := ocheck_words 0 0 0 0 il ih ol oh dl dh (by decide) (by decide) (by decide) (by decide) l1 l2 l3 l4 l5 l6
  have ri := fun w => rRight_any il ih w l1 l2
  have ro := fun w => rRight_any ol oh w l3 l4
  have rd := fun w => rRight_any dl dh w l5 l6
  have i0 : ivR 0 0 = true := by decide +kernel
  have k0 : okB 0 4607182418800017408 0 0 = true := by decide +kernel
  unfold errO at ck
  rw [i0, k0] at ck
  simp only [Bool.true_and] at ck
  cases a : ivR il ih
  · simp only [a] at ck ri
    exact slope_bad3 (e := 20) ck (by decide) fun w => refSlope_iv0 w (Lib.hid ri)
  cases b : ivR ol oh
  · simp only [a, b] at ck ri ro
    exact slope_bad3 (e := 20) ck (by decide) fun w => refSlope_iv1 w (Lib.hid ri) (Lib.hid ro)
  cases c : ivR dl dh
  · simp only [a, b, c] at ck ri ro rd
    exact slope_bad3 (e := 20) ck (by decide) fun w => refSlope_iv2 w (Lib.hid ri) (Lib.hid ro) (Lib.hid rd)
  simp only [a, b, c] at ck ri ro rd
  have fi : Fit ⟨0, il, ih⟩ := ⟨rfl, l1, l2, a⟩
  have fo : Fit ⟨0, ol, oh⟩ := ⟨rfl, l3, l4, b⟩
  have fd : Fit ⟨0, dl, dh⟩ := ⟨rfl, l5, l6, c⟩
  cases p : okB 0 4607182418800017408 il ih
  · simp only [p] at ck
    exact slope_bad3 (e := 2) ck (by decide) fun w => refSlope_arg0 w (Lib.hid ri) (Lib.hid ro) (Lib.hid rd) (Lib.hid fun w => rwithin_u fi false p w)
  cases q : okB 0 4607182418800017408 ol oh
  · simp only [p, q] at ck
    exact slope_bad3 (e := 2) ck (by decide) fun w => refSlope_arg1 w (Lib.hid ri) (Lib.hid ro) (Lib.hid rd) (Lib.hid fun w => rwithin_u fi true p w) (Lib.hid fun w => rwithin_u fo false q w)
  cases t : okB 13830554455654793216 4607182418800017408 dl dh
  · simp only [p, q, t] at ck
    exact slope_bad3 (e := 2) ck (by decide) fun w => refSlope_arg2 w (Lib.hid ri) (Lib.hid ro) (Lib.hid rd) (Lib.hid fun w => rwithin_u fi true p w) (Lib.hid fun w => rwithin_u fo true q w) (Lib.hid fun w => rwithin_e fd false t w)
  have D : Dirs ⟨0, il, ih⟩ ⟨0, ol, oh⟩ ⟨0, dl, dh⟩ := ⟨okIn8 fi p, okIn8 fo q, okIn8 fd t⟩
  by_cases he : (Or.st ⟨0, il, ih⟩ ⟨0, ol, oh⟩ ⟨0, dl, dh⟩).e = 0
  · obtain ⟨e1, e2⟩ := eq_fit (slope_unit D he).fit
    exact ⟨_, _, _, e1, e2, fun w => slope8 D w, fun w => slope_ref D w⟩
  · obtain ⟨z1, z2⟩ := slope_zero he D
    exact ⟨_, _, _, by rw [z1]; exact eq_nil, by rw [z2]; exact eq_nil, fun w => slope8 D w, fun w => slope_ref D w⟩

theorem value_bad5 {rl rh sl sh il ih ol oh dl dh : Nat} {e : Int} (ck : ∀ w, Calls Tryz.prog 13 #[.agg #[.float .f64 rl, .float .f64 rh, .float .f64 sl, .float .f64 sh, .float .f64 il, .float .f64 ih, .float .f64 ol, .float .f64 oh, .float .f64 dl, .float .f64 dh]] w fun r w' => r = .returned (.int .i64 e) ∧ Below w.heap.size w w') (he : e ≠ 0)
    (rf : ∀ w, Calls Tryz.prog 10 #[.agg #[.float .f64 rl, .float .f64 rh], .agg #[.float .f64 sl, .float .f64 sh], .agg #[.float .f64 il, .float .f64 ih], .agg #[.float .f64 ol, .float .f64 oh], .agg #[.float .f64 dl, .float .f64 dh]] w fun r w' => r = .returned (.tuple #[.agg #[.float .f64 0, .float .f64 0], .int .i64 e]) ∧ Below w.heap.size w w') :
    ∃ (e : Int) (x y : Nat), Op.floatEq .f64 x x = true ∧ Op.floatEq .f64 y y = true ∧
      (∀ w, Calls Tryz.prog 9 #[.agg #[.float .f64 rl, .float .f64 rh, .float .f64 sl, .float .f64 sh, .float .f64 il, .float .f64 ih, .float .f64 ol, .float .f64 oh, .float .f64 dl, .float .f64 dh]] w fun r w' => r = .returned (.tuple #[.agg #[.float .f64 x, .float .f64 y], .int .i64 e]) ∧ Below w.heap.size w w') ∧
      (∀ w, Calls Tryz.prog 10 #[.agg #[.float .f64 rl, .float .f64 rh], .agg #[.float .f64 sl, .float .f64 sh], .agg #[.float .f64 il, .float .f64 ih], .agg #[.float .f64 ol, .float .f64 oh], .agg #[.float .f64 dl, .float .f64 dh]] w fun r w' => r = .returned (.tuple #[.agg #[.float .f64 x, .float .f64 y], .int .i64 e]) ∧ Below w.heap.size w w') :=
  ⟨e, 0, 0, eq_nil, eq_nil, fun w => ask_walk w (Lib.hid fun w => oValue_bad w (Lib.hid ck) (by simpa using he)), rf⟩
theorem value_tells (rl rh sl sh il ih ol oh dl dh : Nat) (l0 : rl < 18446744073709551616) (l1 : rh < 18446744073709551616) (l2 : sl < 18446744073709551616) (l3 : sh < 18446744073709551616) (l4 : il < 18446744073709551616) (l5 : ih < 18446744073709551616) (l6 : ol < 18446744073709551616) (l7 : oh < 18446744073709551616) (l8 : dl < 18446744073709551616) (l9 : dh < 18446744073709551616) :
    ∃ (e : Int) (x y : Nat), Op.floatEq .f64 x x = true ∧ Op.floatEq .f64 y y = true ∧
      (∀ w, Calls Tryz.prog 9 #[.agg #[.float .f64 rl, .float .f64 rh, .float .f64 sl, .float .f64 sh, .float .f64 il, .float .f64 ih, .float .f64 ol, .float .f64 oh, .float .f64 dl, .float .f64 dh]] w fun r w' => r = .returned (.tuple #[.agg #[.float .f64 x, .float .f64 y], .int .i64 e]) ∧ Below w.heap.size w w') ∧
      (∀ w, Calls Tryz.prog 10 #[.agg #[.float .f64 rl, .float .f64 rh], .agg #[.float .f64 sl, .float .f64 sh], .agg #[.float .f64 il, .float .f64 ih], .agg #[.float .f64 ol, .float .f64 oh], .agg #[.float .f64 dl, .float .f64 dh]] w fun r w' => r = .returned (.tuple #[.agg #[.float .f64 x, .float .f64 y], .int .i64 e]) ∧ Below w.heap.size w w') := by
  have ck := ocheck_words rl rh sl sh il ih ol oh dl dh l0 l1 l2 l3 l4 l5 l6 l7 l8 l9
  have rr := fun w => rRight_any rl rh w l0 l1
  have rs := fun w => rRight_any sl sh w l2 l3
  have ri := fun w => rRight_any il ih w l4 l5
  have ro := fun w => rRight_any ol oh w l6 l7
  have rd := fun w => rRight_any dl dh w l8 l9
  unfold errO at ck
  cases vr : ivR rl rh
  · simp only [vr, Bool.false_and] at ck rr
    exact value_bad5 (e := 20) ck (by decide) fun w => refValue_iv0 w (Lib.hid rr)
  cases vs : ivR sl sh
  · simp only [vr, vs, Bool.and_false, Bool.false_and] at ck rr rs
    exact value_bad5 (e := 20) ck (by decide) fun w => refValue_iv1 w (Lib.hid rr) (Lib.hid rs)
  cases vi : ivR il ih
  · simp only [vr, vs, vi, Bool.and_false, Bool.false_and, Bool.and_true] at ck rr rs ri
    exact value_bad5 (e := 20) ck (by decide) fun w => refValue_iv2 w (Lib.hid rr) (Lib.hid rs) (Lib.hid ri)
  cases vo : ivR ol oh
  · simp only [vr, vs, vi, vo, Bool.and_false, Bool.false_and, Bool.and_true] at ck rr rs ri ro
    exact value_bad5 (e := 20) ck (by decide) fun w => refValue_iv3 w (Lib.hid rr) (Lib.hid rs) (Lib.hid ri) (Lib.hid ro)
  cases vd : ivR dl dh
  · simp only [vr, vs, vi, vo, vd, Bool.and_false, Bool.and_true] at ck rr rs ri ro rd
    exact value_bad5 (e := 20) ck (by decide) fun w => refValue_iv4 w (Lib.hid rr) (Lib.hid rs) (Lib.hid ri) (Lib.hid ro) (Lib.hid rd)
  simp only [vr, vs, vi, vo, vd] at ck rr rs ri ro rd
  have fr : Fit ⟨0, rl, rh⟩ := ⟨rfl, l0, l1, vr⟩
  have fs : Fit ⟨0, sl, sh⟩ := ⟨rfl, l2, l3, vs⟩
  have fi : Fit ⟨0, il, ih⟩ := ⟨rfl, l4, l5, vi⟩
  have fo : Fit ⟨0, ol, oh⟩ := ⟨rfl, l6, l7, vo⟩
  have fd : Fit ⟨0, dl, dh⟩ := ⟨rfl, l8, l9, vd⟩
  cases kr : okB 0 4607182418800017408 rl rh
  · simp only [kr] at ck
    exact value_bad5 (e := 2) ck (by decide) fun w => refValue_arg w (Lib.hid rr) (Lib.hid rs) (Lib.hid ri) (Lib.hid ro) (Lib.hid rd) (Lib.hid fun w => rwithin_u fr false kr w)
  cases ks : okB 0 4607182418800017408 sl sh
  · simp only [kr, ks] at ck
    exact value_bad5 (e := 2) ck (by decide) fun w => refValue_pair w (Lib.hid rr) (Lib.hid rs) (Lib.hid ri) (Lib.hid ro) (Lib.hid rd) (Lib.hid fun w => rwithin_u fr true kr w) (Lib.hid fun w => refPair_arg w (Lib.hid rs) (Lib.hid fun w => rwithin_u fs false ks w)) rfl
  have is : In ⟨0, sl, sh⟩ ouI := okIn8 fs ks
  have ir : In ⟨0, rl, rh⟩ ouI := okIn8 fr kr
  have pr := pair_ref is
  cases ki : okB 0 4607182418800017408 il ih
  · simp only [kr, ks, ki] at ck
    exact value_bad5 (e := 2) ck (by decide) fun w => refValue_slope w (Lib.hid rr) (Lib.hid rs) (Lib.hid ri) (Lib.hid ro) (Lib.hid rd) (Lib.hid fun w => rwithin_u fr true kr w) (Lib.hid pr) (Lib.hid fun w => refSlope_arg0 w (Lib.hid ri) (Lib.hid ro) (Lib.hid rd) (Lib.hid fun w => rwithin_u fi false ki w)) rfl
  cases ko : okB 0 4607182418800017408 ol oh
  · simp only [kr, ks, ki, ko] at ck
    exact value_bad5 (e := 2) ck (by decide) fun w => refValue_slope w (Lib.hid rr) (Lib.hid rs) (Lib.hid ri) (Lib.hid ro) (Lib.hid rd) (Lib.hid fun w => rwithin_u fr true kr w) (Lib.hid pr) (Lib.hid fun w => refSlope_arg1 w (Lib.hid ri) (Lib.hid ro) (Lib.hid rd) (Lib.hid fun w => rwithin_u fi true ki w) (Lib.hid fun w => rwithin_u fo false ko w)) rfl
  cases kd : okB 13830554455654793216 4607182418800017408 dl dh
  · simp only [kr, ks, ki, ko, kd] at ck
    exact value_bad5 (e := 2) ck (by decide) fun w => refValue_slope w (Lib.hid rr) (Lib.hid rs) (Lib.hid ri) (Lib.hid ro) (Lib.hid rd) (Lib.hid fun w => rwithin_u fr true kr w) (Lib.hid pr) (Lib.hid fun w => refSlope_arg2 w (Lib.hid ri) (Lib.hid ro) (Lib.hid rd) (Lib.hid fun w => rwithin_u fi true ki w) (Lib.hid fun w => rwithin_u fo true ko w) (Lib.hid fun w => rwithin_e fd false kd w)) rfl
  have D : Dirs ⟨0, il, ih⟩ ⟨0, ol, oh⟩ ⟨0, dl, dh⟩ := ⟨okIn8 fi ki, okIn8 fo ko, okIn8 fd kd⟩
  by_cases he : (Or.st ⟨0, il, ih⟩ ⟨0, ol, oh⟩ ⟨0, dl, dh⟩).e = 0
  · obtain ⟨e1, e2⟩ := eq_fit (clamp_fit (val_fits ir is (slope_unit D he)).l.fit)
    exact ⟨_, _, _, e1, e2, fun w => ask_walk w (Lib.hid fun w => value8 ir is D he w), fun w => value_ref ir is D he w⟩
  · exact ⟨_, _, _, eq_nil, eq_nil, fun w => ask_walk w (Lib.hid fun w => value8_bad ir is D he w), fun w => value_ref_bad ir is D he w⟩

theorem tells8_any (rl rh sl sh il ih ol oh dl dh u0 u1 u2 u3 u4 u5 u6 u7 u8 u9 : Nat) (w : World) (l0 : rl < 18446744073709551616) (l1 : rh < 18446744073709551616) (l2 : sl < 18446744073709551616) (l3 : sh < 18446744073709551616) (l4 : il < 18446744073709551616) (l5 : ih < 18446744073709551616) (l6 : ol < 18446744073709551616) (l7 : oh < 18446744073709551616) (l8 : dl < 18446744073709551616) (l9 : dh < 18446744073709551616) (g0 : u0 < 4294967296) (g1 : u1 < 4294967296) (g2 : u2 < 4294967296) (g3 : u3 < 4294967296) (g4 : u4 < 4294967296) (g5 : u5 < 4294967296) (g6 : u6 < 4294967296) (g7 : u7 < 4294967296) (g8 : u8 < 4294967296) (g9 : u9 < 4294967296) :
    Calls Tryz.prog 3 #[.agg #[.float .f64 rl, .float .f64 rh, .float .f64 sl, .float .f64 sh, .float .f64 il, .float .f64 ih, .float .f64 ol, .float .f64 oh, .float .f64 dl, .float .f64 dh], .agg #[.int .u32 u0, .int .u32 u1, .int .u32 u2, .int .u32 u3, .int .u32 u4, .int .u32 u5, .int .u32 u6, .int .u32 u7, .int .u32 u8, .int .u32 u9]] w fun r w' => r = .returned (.bool true) ∧ Below w.heap.size w w' := by
  cases ev : ((u0 : Int) % 2 == 0)
  · obtain ⟨e, x, y, z, t, f1, f2, f3, f4, a1, a2, _, _⟩ := pair_words sl sh l2 l3
    obtain ⟨e', x', y', f1', f2', b1, b2⟩ := slope_tells il ih ol oh dl dh l4 l5 l6 l7 l8 l9
    obtain ⟨e'', x'', y'', f1'', f2'', c1, c2⟩ := value_tells rl rh sl sh il ih ol oh dl dh l0 l1 l2 l3 l4 l5 l6 l7 l8 l9
    exact oren_tells_odd w (c1 := Lib.hid a1) (c2 := Lib.hid a2) (c3 := Lib.hid b1) (c4 := Lib.hid b2) (c5 := Lib.hid c1) (c6 := Lib.hid c2) (e_xl_xl := f1) (e_xh_xh := f2) (e_yl_yl := f3) (e_yh_yh := f4) (e_zl_zl := f1') (e_zh_zh := f2') (e_vl_vl := f1'') (e_vh_vh := f2'') (c7 := Lib.hid awake8_any) (t := ev)
  · obtain ⟨r, s, i, o, d, ir, is, D, k⟩ := asks8 u0 u1 u2 u3 u4 u5 u6 u7 u8 u9 g0 g1 g2 g3 g4 g5 g6 g7 g8 g9
    obtain ⟨e, x, y, z, t, f1, f2, f3, f4, a1, a2, _, _⟩ := pair_words s.lo s.hi is.fit.lo is.fit.hi
    obtain ⟨e', x', y', f1', f2', b1, b2⟩ := slope_tells i.lo i.hi o.lo o.hi d.lo d.hi D.i.fit.lo D.i.fit.hi D.o.fit.lo D.o.fit.hi D.d.fit.lo D.d.fit.hi
    obtain ⟨e'', x'', y'', f1'', f2'', c1, c2⟩ := value_tells r.lo r.hi s.lo s.hi i.lo i.hi o.lo o.hi d.lo d.hi ir.fit.lo ir.fit.hi is.fit.lo is.fit.hi D.i.fit.lo D.i.fit.hi D.o.fit.lo D.o.fit.hi D.d.fit.lo D.d.fit.hi
    exact oren_tells_even w (c1 := Lib.hid k) (c2 := Lib.hid a1) (c3 := Lib.hid a2) (c4 := Lib.hid b1) (c5 := Lib.hid b2) (c6 := Lib.hid c1) (c7 := Lib.hid c2) (e_xl_xl := f1) (e_xh_xh := f2) (e_yl_yl := f3) (e_yh_yh := f4) (e_zl_zl := f1') (e_zh_zh := f2') (e_vl_vl := f1'') (e_vh_vh := f2'') (c8 := Lib.hid awake8_any) (t := ev)
end Go.Proofs.YtoiaefgpegiieaaGreat
