/- Law file 8: its small functions, of what is drawn; numbers between any two. -/
import Derived.Test.YtoiaefgpegiieaaGreatKQO3
import Derived.Test.YtoiaefgpegiieaaGreatKQO2
import Derived.Test.YtoiaefgpegiieaaGreatKQO1
import Derived.Deep.RegionHeld3
import Derived.Test.YtoiaefgpegiieaaGreatKQFD
namespace Go.Proofs.YtoiaefgpegiieaaGreat
open Go.RowKit

theorem moved_any (l g x : Nat) (w : World) (ll : l < 18446744073709551616) (lg : g < 18446744073709551616) (lx : x < 18446744073709551616) (rl : rightB l = true) (rg : rightB g = true) (rx : rightB x = true) :
    Calls Tryz.prog 82 #[.agg #[.float .f64 l, .float .f64 g], .float .f64 x] w fun r w' => r = .returned (.float .f64 (minW (maxW x l) g)) ∧ Below w.heap.size w w' := by
  obtain ⟨m1', m2', _⟩ := max_facts x l lx ll rx rl
  exact moved_walk w (fun ts t w => (run_less x l lx ll rx rl ts t w).2) (fun ts t w => (run_less (maxW x l) g m1' lg m2' rg ts t w).1)
theorem unit_call {a : Res} (f : Fit a) (w : World) :
    Calls Tryz.prog 49 #[.agg #[.float .f64 0, .float .f64 4607182418800017408], .agg #[.float .f64 a.lo, .float .f64 a.hi]] w fun r w' => r = .returned (.agg #[.float .f64 (clampR a).lo, .float .f64 (clampR a).hi]) ∧ Below w.heap.size w w' :=
  oclamped_walk w (Lib.hid fun w => moved_any 0 u1 a.lo w (by decide) (by decide) f.lo (by decide) (by decide) f.rlo) (Lib.hid fun w => moved_any 0 u1 a.hi w (by decide) (by decide) f.hi (by decide) (by decide) f.rhi)
theorem ocheck_ok {r s i o d : Res} (hr : In r ouI) (hs : In s ouI) (hi : In i ouI) (ho : In o ouI) (hd : In d oeI) (w : World) :
    Calls Tryz.prog 13 #[.agg #[.float .f64 r.lo, .float .f64 r.hi, .float .f64 s.lo, .float .f64 s.hi, .float .f64 i.lo, .float .f64 i.hi, .float .f64 o.lo, .float .f64 o.hi, .float .f64 d.lo, .float .f64 d.hi]] w fun r w' => r = .returned (.int .i64 0) ∧ Below w.heap.size w w' :=
  ocheck_walk r.lo r.hi s.lo s.hi i.lo i.hi o.lo o.hi d.lo d.hi true true true true true false false false false false false false false false false w
    (Lib.hid (right_in hr.fit)) (Lib.hid (right_in hs.fit)) (Lib.hid (right_in hi.fit)) (Lib.hid (right_in ho.fit)) (Lib.hid (right_in hd.fit))
    (lt_in hr ou_fit) (gt_in hr ou_fit) (lt_in hs ou_fit) (gt_in hs ou_fit) (lt_in hi ou_fit) (gt_in hi ou_fit) (lt_in ho ou_fit) (gt_in ho ou_fit) (lt_in hd oe_fit) (gt_in hd oe_fit) (Lib.hid olimits_walk)
theorem nil_ou : In (oneR 0) ouI := ⟨Or.z_fit, by decide +kernel, by decide +kernel⟩
theorem nil_oe : In (oneR 0) oeI := ⟨Or.z_fit, by decide +kernel, by decide +kernel⟩

theorem kc2 {f : FuncId} {al ah bl bh rl rh pb : Nat} (h : Calc2 f pb al ah bl bh rl rh) : ∀ v, Has1 v (pb, #[.int .i64 0]) → Calls Tryz.prog f #[.pointer (some ⟨pb, 0, none⟩), .agg #[.float .f64 al, .float .f64 ah], .agg #[.float .f64 bl, .float .f64 bh]] v fun r w' => r = .returned (.agg #[.float .f64 rl, .float .f64 rh]) ∧ Below v.heap.size v w' :=
  fun v hv => kb_of hv (h v hv)
theorem kcn {x pb : Nat} (h : CalcN pb x) : ∀ v, Has1 v (pb, #[.int .i64 0]) → Calls Tryz.prog 33 #[.pointer (some ⟨pb, 0, none⟩), .float .f64 x] v fun r w' => r = .returned (.agg #[.float .f64 x, .float .f64 x]) ∧ Below v.heap.size v w' :=
  fun v hv => kb_of hv (h v hv)
theorem pair_call {s : Res} (hs : In s ouI) (pb : Nat) (v : World) (hv : Has1 v (pb, #[.int .i64 0])) :
    Calls Tryz.prog 14 #[.pointer (some ⟨pb, 0, none⟩), .agg #[.float .f64 s.lo, .float .f64 s.hi]] v fun r w' => r = .returned (.tuple #[.agg #[.float .f64 (Or.a s).lo, .float .f64 (Or.a s).hi], .agg #[.float .f64 (Or.b s).lo, .float .f64 (Or.b s).hi]]) ∧ Below v.heap.size v w' := by
  obtain ⟨c1, c2, c3⟩ := Or.consts
  have P := pair_in hs
  exact opair_walk v (Lib.hid hv) (Lib.hid (kcn (calc_num w2_fit pb))) (Lib.hid pi_any) (Lib.hid (kc2 (calc_div big_fit.1 w2_fit c1 pb))) (Lib.hid (kcn (calc_num w3_fit pb))) (Lib.hid (kc2 (calc_div w2_fit w3_fit c2 pb)))
    (Lib.hid (kc2 (calc_sub c1 c2 c3 pb))) (Lib.hid (kcn (calc_num u1_fit pb))) (Lib.hid (kc2 (calc_mul c3 hs.fit P.m.fit pb))) (Lib.hid (kc2 (calc_add big_fit.1 P.m.fit P.q.fit pb))) (Lib.hid (kc2 (calc_div u1_fit P.q.fit P.a.fit pb)))
    (Lib.hid (kc2 (calc_mul hs.fit P.a.fit P.b.fit pb)))
theorem pos_lo (r : Res) : (posR r).lo = maxW r.lo 0 := rfl
theorem pos_hi (r : Res) : (posR r).hi = r.hi := rfl
theorem geq_0 {x : Nat} (lx : x < 18446744073709551616) (rx : rightB x = true) : ((FloatKind.f64.format.order x 0 == some Ordering.gt) || (FloatKind.f64.format.order x 0 == some Ordering.eq)) = decide (0 ≤ val x) := by
  rw [order_gt x 0 lx (by decide) rx (by decide), order_eq x 0 lx (by decide) rx (by decide), Or.v0]
  by_cases h : 0 < val x
  · rw [decide_eq_true h, decide_eq_true (by omega : 0 ≤ val x)]; rfl
  · by_cases g : val x = 0
    · rw [decide_eq_true g, Bool.or_true, decide_eq_true (by omega : 0 ≤ val x)]
    · rw [decide_eq_false h, decide_eq_false g, decide_eq_false (by omega : ¬ 0 ≤ val x)]; rfl
theorem quo_zero {a b : Res} (h : (divR a b).e ≠ 0) : (divR a b).lo = 0 ∧ (divR a b).hi = 0 := by
  have k : (divI a.lo a.hi b.lo b.hi).e ≠ 0 := h
  show (divI a.lo a.hi b.lo b.hi).lo = 0 ∧ (divI a.lo a.hi b.lo b.hi).hi = 0
  unfold divI at k ⊢
  cases hb : hasB b.lo b.hi 0
  · rw [hb, if_neg Bool.false_ne_true] at k
    rw [if_neg Bool.false_ne_true]
    unfold div1 at k ⊢
    unfold tightR at k ⊢
    split at k
    · rename_i h1
      rw [if_pos h1]
      split at k
      · exact absurd rfl k
      · rename_i h2
        rw [if_neg h2]; exact ⟨rfl, rfl⟩
    · rename_i h1
      rw [if_neg h1]; exact ⟨rfl, rfl⟩
  · rw [if_pos rfl]; exact ⟨rfl, rfl⟩
theorem steep_call {i o d : Res} (h : Dirs i o d) (g : 0 < val (Or.s i o d).hi) (pb : Nat) (v : World) (hv : Has1 v (pb, #[.int .i64 0])) :
    Calls Tryz.prog 47 #[.pointer (some ⟨pb, 0, none⟩), .agg #[.float .f64 (Or.s i o d).lo, .float .f64 (Or.s i o d).hi], .agg #[.float .f64 (Or.top i o).lo, .float .f64 (Or.top i o).hi]] v fun r w' =>
      r = .returned (.agg #[.float .f64 (Or.st i o d).lo, .float .f64 (Or.st i o d).hi]) ∧ Put ⟨pb, 0, none⟩ (.int .i64 (Or.st i o d).e) v w' := by
  have k := slope_fits h
  have P := pos_fit k.s.fit g
  have hd := div_told P k.top.fit pb
  have hm := fun ts t w => (run_less (Or.s i o d).lo 0 k.s.fit.lo (by decide) k.s.fit.rlo (by decide) ts t w).2
  have hg := geq_0 k.s.fit.lo k.s.fit.rlo
  have er : divR (posR (Or.s i o d)) (Or.top i o) = Or.r i o d := rfl
  rw [er, pos_lo, pos_hi] at hd
  by_cases l : 0 ≤ val (Or.s i o d).lo
  · rw [decide_eq_true l] at hg
    have est : Or.st i o d = Or.r i o d := by
      unfold Or.st
      rw [if_pos g, if_pos l]
      split <;> rfl
    rw [est]
    exact steep_pos v (Lib.hid hv) hm (Lib.hid hd) hg
  · rw [decide_eq_false l] at hg
    by_cases e : (Or.r i o d).e = 0
    · have est : Or.st i o d = midR (Or.s i o d) (Or.r i o d) := by
        unfold Or.st
        rw [if_pos g, if_pos e, if_neg l]
      have fr : Fit (Or.r i o d) := quo_fit P k.top.fit e
      rw [est]
      rw [e] at hd
      have c := steep_mid v (Lib.hid hv) hm (Lib.hid fun v hv => kb_of hv (hd v hv)) hg (Lib.hid fun w => hull_any (Or.s i o d).lo 0 (Or.r i o d).lo (Or.r i o d).hi w k.s.fit.lo (by decide) fr.lo fr.hi k.s.fit.rlo (by decide) fr.rlo fr.rhi)
      exact c.mono fun _ _ ⟨h1, h2⟩ => ⟨h1, Put.of_below hv.pc h2⟩
    · have est : Or.st i o d = Or.r i o d := by
        unfold Or.st
        rw [if_pos g, if_neg e]
      rw [est]
      exact steep_err v (Lib.hid hv) hm (Lib.hid hd) hg (by simpa using e)
theorem edge_0 : edgeW 0 = 0 := by decide +kernel
theorem slope_nil {i o d : Res} (he : (Or.st i o d).e ≠ 0) (h : Dirs i o d) : (Or.st i o d).lo = 0 ∧ (Or.st i o d).hi = 0 := by
  have k := slope_fits h
  by_cases g : 0 < val (Or.s i o d).hi
  · by_cases e : (Or.r i o d).e = 0
    · exfalso
      apply he
      unfold Or.st
      rw [if_pos g, if_pos e]
      split
      · exact e
      · rfl
    · have est : Or.st i o d = Or.r i o d := by
        unfold Or.st
        rw [if_pos g, if_neg e]
      rw [est]
      exact quo_zero e
  · exfalso
    apply he
    unfold Or.st
    rw [if_neg g]; exact k.s.fit.e
theorem slope_words {i o d : Res} (h : Dirs i o d) : (Or.st i o d).lo < 18446744073709551616 ∧ (Or.st i o d).hi < 18446744073709551616 ∧ rightB (Or.st i o d).lo = true ∧ rightB (Or.st i o d).hi = true := by
  by_cases he : (Or.st i o d).e = 0
  · have f := st_fit h he
    exact ⟨f.lo, f.hi, f.rlo, f.rhi⟩
  · obtain ⟨h1, h2⟩ := slope_nil he h
    rw [h1, h2]; decide
theorem edge_call2 {i o d : Res} (h : Dirs i o d) (w : World) :
    Calls Tryz.prog 49 #[.agg #[.float .f64 13830554455654793216, .float .f64 4607182418800017408], .agg #[.float .f64 (Or.st i o d).lo, .float .f64 (Or.st i o d).hi]] w fun r w' => r = .returned (.agg #[.float .f64 (Or.slope i o d).lo, .float .f64 (Or.slope i o d).hi]) ∧ Below w.heap.size w w' := by
  obtain ⟨h1, h2, h3, h4⟩ := slope_words h
  show Calls _ _ _ _ fun r w' => r = .returned (.agg #[.float .f64 (edgeR (Or.st i o d)).lo, .float .f64 (edgeR (Or.st i o d)).hi]) ∧ Below w.heap.size w w'
  rw [edgeR_lo, edgeR_hi]
  exact oclamped_walk w (Lib.hid fun w => moved_any m1 u1 _ w (by decide) (by decide) h1 (by decide) (by decide) h3) (Lib.hid fun w => moved_any m1 u1 _ w (by decide) (by decide) h2 (by decide) (by decide) h4)
theorem slope_call {i o d : Res} (h : Dirs i o d) (pb : Nat) (v : World) (hv : Has1 v (pb, #[.int .i64 0])) :
    Calls Tryz.prog 24 #[.pointer (some ⟨pb, 0, none⟩), .agg #[.float .f64 i.lo, .float .f64 i.hi], .agg #[.float .f64 o.lo, .float .f64 o.hi], .agg #[.float .f64 d.lo, .float .f64 d.hi]] v fun r w' =>
      r = .returned (.agg #[.float .f64 (Or.slope i o d).lo, .float .f64 (Or.slope i o d).hi]) ∧ Put ⟨pb, 0, none⟩ (.int .i64 (Or.st i o d).e) v w' := by
  have k := slope_fits h
  have gt := order_gt (Or.s i o d).hi 0 k.s.fit.hi (by decide) k.s.fit.rhi (by decide)
  rw [Or.v0] at gt
  have d1 := kc2 (calc_mul h.i.fit h.o.fit k.p.fit pb)
  have d2 := kc2 (calc_sub h.d.fit k.p.fit k.s.fit pb)
  by_cases g : 0 < val (Or.s i o d).hi
  · rw [decide_eq_true g] at gt
    exact oslope_high v (Lib.hid hv) (Lib.hid d1) (Lib.hid d2) gt (Lib.hid (kc2 (calc_max h.i.fit h.o.fit k.top.fit pb))) (Lib.hid fun v hv => steep_call h g pb v hv) (Lib.hid fun w => edge_call2 h w)
  · rw [decide_eq_false g] at gt
    have est : Or.st i o d = Or.s i o d := by
      unfold Or.st
      rw [if_neg g]
    have ee : (Or.st i o d).e = 0 := by rw [est]; exact k.s.fit.e
    have c3 := fun w => edge_call2 h w
    rw [est] at c3
    rw [ee]
    exact (oslope_low v (Lib.hid hv) (Lib.hid d1) (Lib.hid d2) gt (Lib.hid c3)).mono fun _ _ ⟨h1, h2⟩ => ⟨h1, Put.of_below hv.pc h2⟩

theorem pair8 {s : Res} (hs : In s ouI) (w : World) : Calls Tryz.prog 5 #[.agg #[.float .f64 s.lo, .float .f64 s.hi]] w fun r w' =>
    r = .returned (.tuple #[.agg #[.float .f64 (Or.a s).lo, .float .f64 (Or.a s).hi], .agg #[.float .f64 (Or.b s).lo, .float .f64 (Or.b s).hi], .int .i64 0]) ∧ Below w.heap.size w w' :=
  oPair_ok w (Lib.hid fun w => ocheck_ok nil_ou hs nil_ou nil_ou nil_oe w) (Lib.hid fun pb v hv => pair_call hs pb v hv)
theorem slope8 {i o d : Res} (h : Dirs i o d) (w : World) : Calls Tryz.prog 7 #[.agg #[.float .f64 i.lo, .float .f64 i.hi], .agg #[.float .f64 o.lo, .float .f64 o.hi], .agg #[.float .f64 d.lo, .float .f64 d.hi]] w fun r w' =>
    r = .returned (.tuple #[.agg #[.float .f64 (Or.slope i o d).lo, .float .f64 (Or.slope i o d).hi], .int .i64 (Or.st i o d).e]) ∧ Below w.heap.size w w' :=
  oSlope_ok w (Lib.hid fun w => ocheck_ok nil_ou nil_ou h.i h.o h.d w) (Lib.hid fun pb v hv => slope_call h pb v hv)
theorem slope_unit {i o d : Res} (h : Dirs i o d) (he : (Or.st i o d).e = 0) : In (Or.slope i o d) oeI := edge_unit (st_fit h he)
theorem value8 {r s i o d : Res} (hr : In r ouI) (hs : In s ouI) (h : Dirs i o d) (he : (Or.st i o d).e = 0) (w : World) :
    Calls Tryz.prog 28 #[.agg #[.float .f64 r.lo, .float .f64 r.hi], .agg #[.float .f64 s.lo, .float .f64 s.hi], .agg #[.float .f64 i.lo, .float .f64 i.hi], .agg #[.float .f64 o.lo, .float .f64 o.hi], .agg #[.float .f64 d.lo, .float .f64 d.hi]] w fun x w' =>
    x = .returned (.tuple #[.agg #[.float .f64 (Or.val r s (Or.slope i o d)).lo, .float .f64 (Or.val r s (Or.slope i o d)).hi], .int .i64 0]) ∧ Below w.heap.size w w' := by
  have t := slope_unit h he
  have V := val_fits hr hs t
  have P := pair_in hs
  have c := fun pb v hv => slope_call h pb v hv
  rw [he] at c
  exact oValue_ok w (Lib.hid fun w => ocheck_ok hr hs h.i h.o h.d w) (Lib.hid fun pb v hv => pair_call hs pb v hv) (Lib.hid c)
    (Lib.hid fun pb => calc_mul P.b.fit t.fit V.n.fit pb) (Lib.hid fun pb => calc_add P.a.fit V.n.fit V.k.fit pb) (Lib.hid fun pb => calc_mul hr.fit V.k.fit V.l.fit pb) (Lib.hid fun w => unit_call V.l.fit w)
theorem mul_bad {e : Int} (he : (e == 0) = false) (al ah bl bh : Nat) (la : al < 18446744073709551616) (ha : ah < 18446744073709551616) (lb : bl < 18446744073709551616) (hb : bh < 18446744073709551616) (pb : Nat) (v : World) (hv : Has1 v (pb, #[.int .i64 e])) :
    Calls Tryz.prog 38 #[.pointer (some ⟨pb, 0, none⟩), .agg #[.float .f64 al, .float .f64 ah], .agg #[.float .f64 bl, .float .f64 bh]] v fun r w' => r = .returned (.agg #[.float .f64 0, .float .f64 0]) ∧ Put ⟨pb, 0, none⟩ (.int .i64 e) v w' := by
  have c := cMul_any e al ah bl bh pb 0 v la ha lb hb hv.pc hv.pf
  rw [stepI_err _ _ _ he] at c
  exact c
theorem add_bad {e : Int} (he : (e == 0) = false) (al ah bl bh : Nat) (la : al < 18446744073709551616) (ha : ah < 18446744073709551616) (lb : bl < 18446744073709551616) (hb : bh < 18446744073709551616) (pb : Nat) (v : World) (hv : Has1 v (pb, #[.int .i64 e])) :
    Calls Tryz.prog 37 #[.pointer (some ⟨pb, 0, none⟩), .agg #[.float .f64 al, .float .f64 ah], .agg #[.float .f64 bl, .float .f64 bh]] v fun r w' => r = .returned (.agg #[.float .f64 0, .float .f64 0]) ∧ Put ⟨pb, 0, none⟩ (.int .i64 e) v w' := by
  have c := cAdd_any e al ah bl bh pb 0 v la ha lb hb hv.pc hv.pf
  rw [stepI_err _ _ _ he] at c
  exact c
theorem slope_zero {i o d : Res} (he : (Or.st i o d).e ≠ 0) (h : Dirs i o d) : (Or.slope i o d).lo = 0 ∧ (Or.slope i o d).hi = 0 := by
  obtain ⟨h1, h2⟩ := slope_nil he h
  unfold Or.slope
  rw [edgeR_lo, edgeR_hi, h1, h2, edge_0]; exact ⟨rfl, rfl⟩
theorem value8_bad {r s i o d : Res} (hr : In r ouI) (hs : In s ouI) (h : Dirs i o d) (he : (Or.st i o d).e ≠ 0) (w : World) :
    Calls Tryz.prog 28 #[.agg #[.float .f64 r.lo, .float .f64 r.hi], .agg #[.float .f64 s.lo, .float .f64 s.hi], .agg #[.float .f64 i.lo, .float .f64 i.hi], .agg #[.float .f64 o.lo, .float .f64 o.hi], .agg #[.float .f64 d.lo, .float .f64 d.hi]] w fun x w' =>
    x = .returned (.tuple #[.agg #[.float .f64 0, .float .f64 0], .int .i64 (Or.st i o d).e]) ∧ Below w.heap.size w w' := by
  have P := pair_in hs
  have he' : ((Or.st i o d).e == 0) = false := by simpa using he
  have c := fun pb v hv => slope_call h pb v hv
  obtain ⟨z1, z2⟩ := slope_zero he h
  rw [z1, z2] at c
  have u := fun w => unit_call Or.z_fit w
  have e1 : (clampR (oneR 0)).lo = 0 := by decide +kernel
  have e2 : (clampR (oneR 0)).hi = 0 := by decide +kernel
  rw [e1, e2] at u
  exact oValue_ok w (Lib.hid fun w => ocheck_ok hr hs h.i h.o h.d w) (Lib.hid fun pb v hv => pair_call hs pb v hv) (Lib.hid c)
    (Lib.hid fun pb => mul_bad he' _ _ _ _ P.b.fit.lo P.b.fit.hi (by decide) (by decide) pb) (Lib.hid fun pb => add_bad he' _ _ _ _ P.a.fit.lo P.a.fit.hi (by decide) (by decide) pb) (Lib.hid fun pb => mul_bad he' _ _ _ _ hr.fit.lo hr.fit.hi (by decide) (by decide) pb) (Lib.hid u)
end Go.Proofs.YtoiaefgpegiieaaGreat

namespace Go.Proofs.YtoiaefgpegiieaaGreat
open Go.RowKit
attribute [local go_sem] run_store_float

set_option maxRecDepth 100000 in
set_option maxHeartbeats 16000000 in
theorem within8_walk {u0 u1 u2 u3 u4 u5 u6 u7 u8 u9 rl rh sl sh il ih ol oh dl dh : Nat} (w : World)
    (c1 : Hid (∀ w, Calls Tryz.prog 12 #[.float .f64 0, .float .f64 4607182418800017408, .int .u32 u0, .int .u32 u1] w fun r w' => r = .returned (.agg #[.float .f64 rl, .float .f64 rh]) ∧ Below w.heap.size w w'))
    (c2 : Hid (∀ w, Calls Tryz.prog 12 #[.float .f64 0, .float .f64 4607182418800017408, .int .u32 u2, .int .u32 u3] w fun r w' => r = .returned (.agg #[.float .f64 sl, .float .f64 sh]) ∧ Below w.heap.size w w'))
    (c3 : Hid (∀ w, Calls Tryz.prog 12 #[.float .f64 0, .float .f64 4607182418800017408, .int .u32 u4, .int .u32 u5] w fun r w' => r = .returned (.agg #[.float .f64 il, .float .f64 ih]) ∧ Below w.heap.size w w'))
    (c4 : Hid (∀ w, Calls Tryz.prog 12 #[.float .f64 0, .float .f64 4607182418800017408, .int .u32 u6, .int .u32 u7] w fun r w' => r = .returned (.agg #[.float .f64 ol, .float .f64 oh]) ∧ Below w.heap.size w w'))
    (c5 : Hid (∀ w, Calls Tryz.prog 12 #[.float .f64 13830554455654793216, .float .f64 4607182418800017408, .int .u32 u8, .int .u32 u9] w fun r w' => r = .returned (.agg #[.float .f64 dl, .float .f64 dh]) ∧ Below w.heap.size w w')) :
    Calls Tryz.prog 4 #[.agg #[.int .u32 u0, .int .u32 u1, .int .u32 u2, .int .u32 u3, .int .u32 u4, .int .u32 u5, .int .u32 u6, .int .u32 u7, .int .u32 u8, .int .u32 u9]] w fun r w' => r = .returned (.agg #[.float .f64 rl, .float .f64 rh, .float .f64 sl, .float .f64 sh, .float .f64 il, .float .f64 ih, .float .f64 ol, .float .f64 oh, .float .f64 dl, .float .f64 dh]) ∧ Below w.heap.size w w' := by
  have M := Lib.hid (((Own.nil w).made #[.int .u32 u0, .int .u32 u1, .int .u32 u2, .int .u32 u3, .int .u32 u4, .int .u32 u5, .int .u32 u6, .int .u32 u7, .int .u32 u8, .int .u32 u9] 28).made #[.float .f64 0, .float .f64 0, .float .f64 0, .float .f64 0, .float .f64 0, .float .f64 0, .float .f64 0, .float .f64 0, .float .f64 0, .float .f64 0] 26)
  simp only [World.size_alloc] at M
  have eqF := eq_floats
  go_enter Tryz.func4, Tryz.ntmps4
  go_upto_region 1 with fail
  replace M := Lib.hid M.out.drew
  revert M
  generalize ((w.alloc (.cells #[.int .u32 u0, .int .u32 u1, .int .u32 u2, .int .u32 u3, .int .u32 u4, .int .u32 u5, .int .u32 u6, .int .u32 u7, .int .u32 u8, .int .u32 u9] 28)).alloc (.cells #[.float .f64 0, .float .f64 0, .float .f64 0, .float .f64 0, .float .f64 0, .float .f64 0, .float .f64 0, .float .f64 0, .float .f64 0, .float .f64 0] 26)) = W0_
  intro M
  refine wp_region_noPanic ?_
  refine tails_region (S := fun w' => (w'.cell? ⟨w.heap.size, 0, none⟩ = some (.int .u32 u0) ∧ w'.cell? ⟨w.heap.size, 1, none⟩ = some (.int .u32 u1) ∧ w'.cell? ⟨w.heap.size, 2, none⟩ = some (.int .u32 u2) ∧ w'.cell? ⟨w.heap.size, 3, none⟩ = some (.int .u32 u3) ∧ w'.cell? ⟨w.heap.size, 4, none⟩ = some (.int .u32 u4) ∧ w'.cell? ⟨w.heap.size, 5, none⟩ = some (.int .u32 u5) ∧ w'.cell? ⟨w.heap.size, 6, none⟩ = some (.int .u32 u6) ∧ w'.cell? ⟨w.heap.size, 7, none⟩ = some (.int .u32 u7) ∧ w'.cell? ⟨w.heap.size, 8, none⟩ = some (.int .u32 u8) ∧ w'.cell? ⟨w.heap.size, 9, none⟩ = some (.int .u32 u9))) [] (by kernel_rfl) ?_ (fun hS => ?_)
  · exact (M.out.nth 1 rfl).ten
  refine tk (x := ?_) 0 rfl (by kernel_rfl) ⟨by rfl, ?_⟩ (fun _ _ _ h => h) hS ?_
  rotate_left; focus (intro w hSw; (try dsimp only at hSw); go_simp; try with_reducible rfl)
  refine tk (x := ?_) 1 rfl (by kernel_rfl) ⟨by rfl, ?_⟩ (fun _ _ _ h => h) hS ?_
  rotate_left; focus (intro w hSw; (try dsimp only at hSw); go_simp; try with_reducible rfl)
  refine tk (x := ?_) 2 rfl (by kernel_rfl) ⟨by rfl, ?_⟩ (fun _ _ _ h => h) hS ?_
  rotate_left; focus (intro w hSw; (try dsimp only at hSw); go_simp; try with_reducible rfl)
  refine tk (x := ?_) 3 rfl (by kernel_rfl) ⟨by rfl, ?_⟩ (fun _ _ _ h => h) hS ?_
  rotate_left; focus (intro w hSw; (try dsimp only at hSw); go_simp; try with_reducible rfl)
  refine tk (x := ?_) 5 rfl (by kernel_rfl) ⟨by rfl, ?_⟩ (fun _ _ _ h => h) hS ?_
  rotate_left; focus (intro w hSw; (try dsimp only at hSw); go_simp; try with_reducible rfl)
  refine tk (x := ?_) 6 rfl (by kernel_rfl) ⟨by rfl, ?_⟩ (fun _ _ _ h => h) hS ?_
  rotate_left; focus (intro w hSw; (try dsimp only at hSw); go_simp; try with_reducible rfl)
  refine tk (x := ?_) 7 rfl (by kernel_rfl) ⟨by rfl, ?_⟩ (fun _ _ _ h => h) hS ?_
  rotate_left; focus (intro w hSw; (try dsimp only at hSw); go_simp; try with_reducible rfl)
  refine tk (x := ?_) 8 rfl (by kernel_rfl) ⟨by rfl, ?_⟩ (fun _ _ _ h => h) hS ?_
  rotate_left; focus (intro w hSw; (try dsimp only at hSw); go_simp; try with_reducible rfl)
  refine tk (x := ?_) 10 rfl (by kernel_rfl) ⟨by rfl, ?_⟩ (fun _ _ _ h => h) hS ?_
  rotate_left; focus (intro w hSw; (try dsimp only at hSw); go_simp; try with_reducible rfl)
  refine tk (x := ?_) 11 rfl (by kernel_rfl) ⟨by rfl, ?_⟩ (fun _ _ _ h => h) hS ?_
  rotate_left; focus (intro w hSw; (try dsimp only at hSw); go_simp; try with_reducible rfl)
  refine tk (x := ?_) 12 rfl (by kernel_rfl) ⟨by rfl, ?_⟩ (fun _ _ _ h => h) hS ?_
  rotate_left; focus (intro w hSw; (try dsimp only at hSw); go_simp; try with_reducible rfl)
  refine tk (x := ?_) 13 rfl (by kernel_rfl) ⟨by rfl, ?_⟩ (fun _ _ _ h => h) hS ?_
  rotate_left; focus (intro w hSw; (try dsimp only at hSw); go_simp; try with_reducible rfl)
  refine tk (x := ?_) 15 rfl (by kernel_rfl) ⟨by rfl, ?_⟩ (fun _ _ _ h => h) hS ?_
  rotate_left; focus (intro w hSw; (try dsimp only at hSw); go_simp; try with_reducible rfl)
  refine tk (x := ?_) 16 rfl (by kernel_rfl) ⟨by rfl, ?_⟩ (fun _ _ _ h => h) hS ?_
  rotate_left; focus (intro w hSw; (try dsimp only at hSw); go_simp; try with_reducible rfl)
  refine tk (x := ?_) 17 rfl (by kernel_rfl) ⟨by rfl, ?_⟩ (fun _ _ _ h => h) hS ?_
  rotate_left; focus (intro w hSw; (try dsimp only at hSw); go_simp; try with_reducible rfl)
  refine tk (x := ?_) 18 rfl (by kernel_rfl) ⟨by rfl, ?_⟩ (fun _ _ _ h => h) hS ?_
  rotate_left; focus (intro w hSw; (try dsimp only at hSw); go_simp; try with_reducible rfl)
  refine tk (x := ?_) 20 rfl (by kernel_rfl) ⟨by rfl, ?_⟩ (fun _ _ _ h => h) hS ?_
  rotate_left; focus (intro w hSw; (try dsimp only at hSw); go_simp; try with_reducible rfl)
  refine tk (x := ?_) 21 rfl (by kernel_rfl) ⟨by rfl, ?_⟩ (fun _ _ _ h => h) hS ?_
  rotate_left; focus (intro w hSw; (try dsimp only at hSw); go_simp; try with_reducible rfl)
  refine tk (x := ?_) 22 rfl (by kernel_rfl) ⟨by rfl, ?_⟩ (fun _ _ _ h => h) hS ?_
  rotate_left; focus (intro w hSw; (try dsimp only at hSw); go_simp; try with_reducible rfl)
  refine tk (x := ?_) 23 rfl (by kernel_rfl) ⟨by rfl, ?_⟩ (fun _ _ _ h => h) hS ?_
  rotate_left; focus (intro w hSw; (try dsimp only at hSw); go_simp; try with_reducible rfl)
  conv => arg 9; simp only [Act.put, go_sem]
  refine tails_one (T := []) (i := 4) (o := _) rfl (by kernel_rfl) (fun K hK => ?_)
  go_simp
  refine (c1.out _).mono ?_
  rintro rr w1_ ⟨rfl, hb⟩
  replace M := Lib.hid (M.out.below hb)
  clear hb
  try go_wp2_with fail
  refine hK.out _ _ (Or.inr (M.out.nth 1 rfl).ten) (fun hHeld => ?_)
  clear hK K hHeld
  replace hS := (M.out.nth 1 rfl).ten
  refine tails_one (T := []) (i := 9) (o := _) rfl (by kernel_rfl) (fun K hK => ?_)
  go_simp
  refine (c2.out _).mono ?_
  rintro rr w2_ ⟨rfl, hb⟩
  replace M := Lib.hid (M.out.below hb)
  clear hb
  try go_wp2_with fail
  refine hK.out _ _ (Or.inr (M.out.nth 1 rfl).ten) (fun hHeld => ?_)
  clear hK K hHeld
  replace hS := (M.out.nth 1 rfl).ten
  refine tails_one (T := []) (i := 14) (o := _) rfl (by kernel_rfl) (fun K hK => ?_)
  go_simp
  refine (c3.out _).mono ?_
  rintro rr w3_ ⟨rfl, hb⟩
  replace M := Lib.hid (M.out.below hb)
  clear hb
  try go_wp2_with fail
  refine hK.out _ _ (Or.inr (M.out.nth 1 rfl).ten) (fun hHeld => ?_)
  clear hK K hHeld
  replace hS := (M.out.nth 1 rfl).ten
  refine tails_one (T := []) (i := 19) (o := _) rfl (by kernel_rfl) (fun K hK => ?_)
  go_simp
  refine (c4.out _).mono ?_
  rintro rr w4_ ⟨rfl, hb⟩
  replace M := Lib.hid (M.out.below hb)
  clear hb
  try go_wp2_with fail
  refine hK.out _ _ (Or.inr (M.out.nth 1 rfl).ten) (fun hHeld => ?_)
  clear hK K hHeld
  replace hS := (M.out.nth 1 rfl).ten
  refine tails_one (T := []) (i := 24) (o := _) rfl (by kernel_rfl) (fun K hK => ?_)
  go_simp
  refine (c5.out _).mono ?_
  rintro rr w5_ ⟨rfl, hb⟩
  replace M := Lib.hid (M.out.below hb)
  clear hb
  try go_wp2_with fail
  refine hK.out _ _ (Or.inr (M.out.nth 1 rfl).ten) (fun hHeld => ?_)
  clear hK K hHeld
  replace hS := (M.out.nth 1 rfl).ten
  refine tk (x := ?_) 25 rfl (by kernel_rfl) ⟨by rfl, ?_⟩ (fun _ _ _ h => h) hS ?_
  rotate_left; focus (intro w hSw; (try dsimp only at hSw); go_simp; try with_reducible rfl)
  refine tails_one (T := []) (i := 26) (o := _) rfl (by kernel_rfl) (fun K hK => ?_)
  have kc := (M.out.nth 0 rfl).2.1
  have kf := (M.out.nth 0 rfl).2.2
  replace M : Hid (Own w [((w.heap.size + 1), #[.float .f64 rl, .float .f64 0, .float .f64 0, .float .f64 0, .float .f64 0, .float .f64 0, .float .f64 0, .float .f64 0, .float .f64 0, .float .f64 0]), (w.heap.size, #[.int .u32 u0, .int .u32 u1, .int .u32 u2, .int .u32 u3, .int .u32 u4, .int .u32 u5, .int .u32 u6, .int .u32 u7, .int .u32 u8, .int .u32 u9])] _) := Lib.hid ((M.out.setIn 0 rfl 0 (.float .f64 rl)).to (by rfl))
  replace M : Hid (Own w [((w.heap.size + 1), #[.float .f64 rl, .float .f64 rh, .float .f64 0, .float .f64 0, .float .f64 0, .float .f64 0, .float .f64 0, .float .f64 0, .float .f64 0, .float .f64 0]), (w.heap.size, #[.int .u32 u0, .int .u32 u1, .int .u32 u2, .int .u32 u3, .int .u32 u4, .int .u32 u5, .int .u32 u6, .int .u32 u7, .int .u32 u8, .int .u32 u9])] _) := Lib.hid ((M.out.setIn 0 rfl 1 (.float .f64 rh)).to (by rfl))
  replace M : Hid (Own w [((w.heap.size + 1), #[.float .f64 rl, .float .f64 rh, .float .f64 sl, .float .f64 0, .float .f64 0, .float .f64 0, .float .f64 0, .float .f64 0, .float .f64 0, .float .f64 0]), (w.heap.size, #[.int .u32 u0, .int .u32 u1, .int .u32 u2, .int .u32 u3, .int .u32 u4, .int .u32 u5, .int .u32 u6, .int .u32 u7, .int .u32 u8, .int .u32 u9])] _) := Lib.hid ((M.out.setIn 0 rfl 2 (.float .f64 sl)).to (by rfl))
  replace M : Hid (Own w [((w.heap.size + 1), #[.float .f64 rl, .float .f64 rh, .float .f64 sl, .float .f64 sh, .float .f64 0, .float .f64 0, .float .f64 0, .float .f64 0, .float .f64 0, .float .f64 0]), (w.heap.size, #[.int .u32 u0, .int .u32 u1, .int .u32 u2, .int .u32 u3, .int .u32 u4, .int .u32 u5, .int .u32 u6, .int .u32 u7, .int .u32 u8, .int .u32 u9])] _) := Lib.hid ((M.out.setIn 0 rfl 3 (.float .f64 sh)).to (by rfl))
  replace M : Hid (Own w [((w.heap.size + 1), #[.float .f64 rl, .float .f64 rh, .float .f64 sl, .float .f64 sh, .float .f64 il, .float .f64 0, .float .f64 0, .float .f64 0, .float .f64 0, .float .f64 0]), (w.heap.size, #[.int .u32 u0, .int .u32 u1, .int .u32 u2, .int .u32 u3, .int .u32 u4, .int .u32 u5, .int .u32 u6, .int .u32 u7, .int .u32 u8, .int .u32 u9])] _) := Lib.hid ((M.out.setIn 0 rfl 4 (.float .f64 il)).to (by rfl))
  replace M : Hid (Own w [((w.heap.size + 1), #[.float .f64 rl, .float .f64 rh, .float .f64 sl, .float .f64 sh, .float .f64 il, .float .f64 ih, .float .f64 0, .float .f64 0, .float .f64 0, .float .f64 0]), (w.heap.size, #[.int .u32 u0, .int .u32 u1, .int .u32 u2, .int .u32 u3, .int .u32 u4, .int .u32 u5, .int .u32 u6, .int .u32 u7, .int .u32 u8, .int .u32 u9])] _) := Lib.hid ((M.out.setIn 0 rfl 5 (.float .f64 ih)).to (by rfl))
  replace M : Hid (Own w [((w.heap.size + 1), #[.float .f64 rl, .float .f64 rh, .float .f64 sl, .float .f64 sh, .float .f64 il, .float .f64 ih, .float .f64 ol, .float .f64 0, .float .f64 0, .float .f64 0]), (w.heap.size, #[.int .u32 u0, .int .u32 u1, .int .u32 u2, .int .u32 u3, .int .u32 u4, .int .u32 u5, .int .u32 u6, .int .u32 u7, .int .u32 u8, .int .u32 u9])] _) := Lib.hid ((M.out.setIn 0 rfl 6 (.float .f64 ol)).to (by rfl))
  replace M : Hid (Own w [((w.heap.size + 1), #[.float .f64 rl, .float .f64 rh, .float .f64 sl, .float .f64 sh, .float .f64 il, .float .f64 ih, .float .f64 ol, .float .f64 oh, .float .f64 0, .float .f64 0]), (w.heap.size, #[.int .u32 u0, .int .u32 u1, .int .u32 u2, .int .u32 u3, .int .u32 u4, .int .u32 u5, .int .u32 u6, .int .u32 u7, .int .u32 u8, .int .u32 u9])] _) := Lib.hid ((M.out.setIn 0 rfl 7 (.float .f64 oh)).to (by rfl))
  replace M : Hid (Own w [((w.heap.size + 1), #[.float .f64 rl, .float .f64 rh, .float .f64 sl, .float .f64 sh, .float .f64 il, .float .f64 ih, .float .f64 ol, .float .f64 oh, .float .f64 dl, .float .f64 0]), (w.heap.size, #[.int .u32 u0, .int .u32 u1, .int .u32 u2, .int .u32 u3, .int .u32 u4, .int .u32 u5, .int .u32 u6, .int .u32 u7, .int .u32 u8, .int .u32 u9])] _) := Lib.hid ((M.out.setIn 0 rfl 8 (.float .f64 dl)).to (by rfl))
  replace M : Hid (Own w [((w.heap.size + 1), #[.float .f64 rl, .float .f64 rh, .float .f64 sl, .float .f64 sh, .float .f64 il, .float .f64 ih, .float .f64 ol, .float .f64 oh, .float .f64 dl, .float .f64 dh]), (w.heap.size, #[.int .u32 u0, .int .u32 u1, .int .u32 u2, .int .u32 u3, .int .u32 u4, .int .u32 u5, .int .u32 u6, .int .u32 u7, .int .u32 u8, .int .u32 u9])] _) := Lib.hid ((M.out.setIn 0 rfl 9 (.float .f64 dh)).to (by rfl))
  go_simp
  refine hK.out _ _ (Or.inr (M.out.nth 1 rfl).ten) (fun hHeld => ?_)
  clear hK K hHeld kc kf
  refine tails_done (by kernel_rfl) ?_ _
  refine NoPanic.normal ?_
  clear hS
  revert M
  generalize ((((((((((w5_.setCell ⟨(w.heap.size + 1), 0, none⟩ (.float .f64 rl)).setCell ⟨(w.heap.size + 1), 1, none⟩ (.float .f64 rh)).setCell ⟨(w.heap.size + 1), 2, none⟩ (.float .f64 sl)).setCell ⟨(w.heap.size + 1), 3, none⟩ (.float .f64 sh)).setCell ⟨(w.heap.size + 1), 4, none⟩ (.float .f64 il)).setCell ⟨(w.heap.size + 1), 5, none⟩ (.float .f64 ih)).setCell ⟨(w.heap.size + 1), 6, none⟩ (.float .f64 ol)).setCell ⟨(w.heap.size + 1), 7, none⟩ (.float .f64 oh)).setCell ⟨(w.heap.size + 1), 8, none⟩ (.float .f64 dl)).setCell ⟨(w.heap.size + 1), 9, none⟩ (.float .f64 dh)) = W6_
  intro M
  go_wp2
  obtain ⟨f1, f2, f3, f4, f5, f6, f7, f8, f9, f10⟩ := (M.out.nth 0 rfl).ten
  exact bodyPost_ret (v := .agg #[.float .f64 rl, .float .f64 rh, .float .f64 sl, .float .f64 sh, .float .f64 il, .float .f64 ih, .float .f64 ol, .float .f64 oh, .float .f64 dl, .float .f64 dh]) (by simp [results, Tryz.results4, go_sem, f1, f2, f3, f4, f5, f6, f7, f8, f9, f10]) rfl ⟨rfl, M.out.base⟩

set_option maxRecDepth 100000 in
set_option maxHeartbeats 16000000 in
theorem ask_walk {rl rh sl sh il ih ol oh dl dh vl vh : Nat} {e : Int} (w : World)
    (c1 : Hid (∀ w, Calls Tryz.prog 28 #[.agg #[.float .f64 rl, .float .f64 rh], .agg #[.float .f64 sl, .float .f64 sh], .agg #[.float .f64 il, .float .f64 ih], .agg #[.float .f64 ol, .float .f64 oh], .agg #[.float .f64 dl, .float .f64 dh]] w fun r w' => r = .returned (.tuple #[.agg #[.float .f64 vl, .float .f64 vh], .int .i64 e]) ∧ Below w.heap.size w w')) :
    Calls Tryz.prog 9 #[.agg #[.float .f64 rl, .float .f64 rh, .float .f64 sl, .float .f64 sh, .float .f64 il, .float .f64 ih, .float .f64 ol, .float .f64 oh, .float .f64 dl, .float .f64 dh]] w fun r w' => r = .returned (.tuple #[.agg #[.float .f64 vl, .float .f64 vh], .int .i64 e]) ∧ Below w.heap.size w w' := by
  have M := Lib.hid (((Own.nil w).made #[.float .f64 rl, .float .f64 rh, .float .f64 sl, .float .f64 sh, .float .f64 il, .float .f64 ih, .float .f64 ol, .float .f64 oh, .float .f64 dl, .float .f64 dh] 26).made #[.float .f64 0, .float .f64 0] 24)
  simp only [World.size_alloc] at M
  have eqF := eq_floats
  go_enter Tryz.func9, Tryz.ntmps9
  obtain ⟨k1, k2, k3, k4, k5, k6, k7, k8, k9, k10⟩ := (M.out.nth 1 rfl).ten
  go_wp2_with fail
  refine (c1.out _).mono ?_
  rintro r w1_ ⟨rfl, hb⟩
  replace M := Lib.hid (M.out.below hb)
  clear hb
  clear k1 k2 k3 k4 k5 k6 k7 k8 k9 k10
  have kc := (M.out.nth 0 rfl).2.1
  have kf := (M.out.nth 0 rfl).2.2
  replace M : Hid (Own w [((w.heap.size + 1), #[.float .f64 vl, .float .f64 vh]), (w.heap.size, #[.float .f64 rl, .float .f64 rh, .float .f64 sl, .float .f64 sh, .float .f64 il, .float .f64 ih, .float .f64 ol, .float .f64 oh, .float .f64 dl, .float .f64 dh])] _) := Lib.hid (M.out.set2 0 rfl (.float .f64 vl) (.float .f64 vh))
  go_wp2
  obtain ⟨f1, f2⟩ := (M.out.nth 0 rfl).two
  exact bodyPost_ret (v := .tuple #[.agg #[.float .f64 vl, .float .f64 vh], .int .i64 e]) (by simp [results, Tryz.results9, go_sem, f1, f2]) rfl ⟨rfl, M.out.base⟩

set_option maxRecDepth 100000 in
set_option maxHeartbeats 16000000 in
theorem awake8_walk {al ah : Nat} (w : World)
    (c1 : Hid (∀ w, Calls Tryz.prog 29 #[.float .f64 0] w fun r w' => r = .returned (.agg #[.float .f64 0, .float .f64 0]) ∧ Below w.heap.size w w'))
    (c2 : Hid (∀ w, Calls Tryz.prog 5 #[.agg #[.float .f64 0, .float .f64 0]] w fun r w' => r = .returned (.tuple #[.agg #[.float .f64 al, .float .f64 ah], .agg #[.float .f64 0, .float .f64 0], .int .i64 0]) ∧ Below w.heap.size w w'))
    (c3 : Hid (∀ w, Calls Tryz.prog 29 #[.float .f64 4607182418800017408] w fun r w' => r = .returned (.agg #[.float .f64 4607182418800017408, .float .f64 4607182418800017408]) ∧ Below w.heap.size w w'))
    (c6 : Hid (∀ w, Calls Tryz.prog 7 #[.agg #[.float .f64 4607182418800017408, .float .f64 4607182418800017408], .agg #[.float .f64 4607182418800017408, .float .f64 4607182418800017408], .agg #[.float .f64 4607182418800017408, .float .f64 4607182418800017408]] w fun r w' => r = .returned (.tuple #[.agg #[.float .f64 0, .float .f64 0], .int .i64 0]) ∧ Below w.heap.size w w'))
    (c7 : Hid (∀ w, Calls Tryz.prog 29 #[.float .f64 4602678819172646912] w fun r w' => r = .returned (.agg #[.float .f64 4602678819172646912, .float .f64 4602678819172646912]) ∧ Below w.heap.size w w'))
    (c8 : Hid (∀ w, Calls Tryz.prog 29 #[.float .f64 4598175219545276416] w fun r w' => r = .returned (.agg #[.float .f64 4598175219545276416, .float .f64 4598175219545276416]) ∧ Below w.heap.size w w'))
    (c9 : Hid (∀ w, Calls Tryz.prog 29 #[.float .f64 4603804719079489536] w fun r w' => r = .returned (.agg #[.float .f64 4603804719079489536, .float .f64 4603804719079489536]) ∧ Below w.heap.size w w'))
    (c10 : Hid (∀ w, Calls Tryz.prog 7 #[.agg #[.float .f64 4602678819172646912, .float .f64 4602678819172646912], .agg #[.float .f64 4598175219545276416, .float .f64 4598175219545276416], .agg #[.float .f64 4603804719079489536, .float .f64 4603804719079489536]] w fun r w' => r = .returned (.tuple #[.agg #[.float .f64 4607182418800017408, .float .f64 4607182418800017408], .int .i64 0]) ∧ Below w.heap.size w w'))
    (c13 : Hid (∀ w, Calls Tryz.prog 29 #[.float .f64 13821547256400052224] w fun r w' => r = .returned (.agg #[.float .f64 13821547256400052224, .float .f64 13821547256400052224]) ∧ Below w.heap.size w w'))
    (c14 : Hid (∀ w, Calls Tryz.prog 7 #[.agg #[.float .f64 4602678819172646912, .float .f64 4602678819172646912], .agg #[.float .f64 4602678819172646912, .float .f64 4602678819172646912], .agg #[.float .f64 13821547256400052224, .float .f64 13821547256400052224]] w fun r w' => r = .returned (.tuple #[.agg #[.float .f64 13826050856027422720, .float .f64 13826050856027422720], .int .i64 0]) ∧ Below w.heap.size w w'))
    (c18 : Hid (∀ w, Calls Tryz.prog 7 #[.agg #[.float .f64 0, .float .f64 0], .agg #[.float .f64 0, .float .f64 0], .agg #[.float .f64 4602678819172646912, .float .f64 4602678819172646912]] w fun r w' => r = .returned (.tuple #[.agg #[.float .f64 0, .float .f64 0], .int .i64 11]) ∧ Below w.heap.size w w'))
    (c24 : Hid (∀ w, Calls Tryz.prog 28 #[.agg #[.float .f64 0, .float .f64 0], .agg #[.float .f64 4607182418800017408, .float .f64 4607182418800017408], .agg #[.float .f64 4602678819172646912, .float .f64 4602678819172646912], .agg #[.float .f64 4602678819172646912, .float .f64 4602678819172646912], .agg #[.float .f64 4607182418800017408, .float .f64 4607182418800017408]] w fun r w' => r = .returned (.tuple #[.agg #[.float .f64 0, .float .f64 0], .int .i64 0]) ∧ Below w.heap.size w w'))
    (o_geqal_781053817700 : (((FloatKind.f64.format.order al 4599405781053817700 == some Ordering.gt) || (FloatKind.f64.format.order al 4599405781053817700 == some Ordering.eq)) = true))
    (o_leqah_781071832099 : (((FloatKind.f64.format.order ah 4599405781071832099 == some Ordering.lt) || (FloatKind.f64.format.order ah 4599405781071832099 == some Ordering.eq)) = true))
    (e_0_0 : (Op.floatEq .f64 0 0 = true))
    (e_418800017408_418800017408 : (Op.floatEq .f64 4607182418800017408 4607182418800017408 = true))
    (c26 : Hid (∀ w, Calls Tryz.prog 29 #[.float .f64 13826050856027422720] w fun r w' => r = .returned (.agg #[.float .f64 13826050856027422720, .float .f64 13826050856027422720]) ∧ Below w.heap.size w w'))
    (e_856027422720_856027422720 : (Op.floatEq .f64 13826050856027422720 13826050856027422720 = true)) :
    Calls Tryz.prog 11 #[] w fun r w' => r = .returned (.bool true) ∧ Below w.heap.size w w' := by
  have M := Lib.hid (Own.nil w)
  have eqF := eq_floats
  go_enter Tryz.func11, Tryz.ntmps11
  go_wp2_with fail
  refine (c1.out _).mono ?_
  rintro r w1_ ⟨rfl, hb⟩
  replace M := Lib.hid (M.out.below hb)
  clear hb
  go_wp2_with fail
  refine (c2.out _).mono ?_
  rintro r w2_ ⟨rfl, hb⟩
  replace M := Lib.hid (M.out.below hb)
  clear hb
  replace M := Lib.hid (M.out.made #[.float .f64 al, .float .f64 ah] 24)
  replace M := Lib.hid (M.out.made #[.float .f64 0, .float .f64 0] 24)
  simp only [World.size_alloc] at M
  go_wp2_with fail
  refine (c3.out _).mono ?_
  rintro r w3_ ⟨rfl, hb⟩
  replace M := Lib.hid (M.out.below hb)
  clear hb
  go_wp2_with fail
  refine (c3.out _).mono ?_
  rintro r w4_ ⟨rfl, hb⟩
  replace M := Lib.hid (M.out.below hb)
  clear hb
  go_wp2_with fail
  refine (c3.out _).mono ?_
  rintro r w5_ ⟨rfl, hb⟩
  replace M := Lib.hid (M.out.below hb)
  clear hb
  go_wp2_with fail
  refine (c6.out _).mono ?_
  rintro r w6_ ⟨rfl, hb⟩
  replace M := Lib.hid (M.out.below hb)
  clear hb
  replace M := Lib.hid (M.out.made #[.float .f64 0, .float .f64 0] 24)
  go_wp2_with fail
  refine (c7.out _).mono ?_
  rintro r w7_ ⟨rfl, hb⟩
  replace M := Lib.hid (M.out.below hb)
  clear hb
  go_wp2_with fail
  refine (c8.out _).mono ?_
  rintro r w8_ ⟨rfl, hb⟩
  replace M := Lib.hid (M.out.below hb)
  clear hb
  go_wp2_with fail
  refine (c9.out _).mono ?_
  rintro r w9_ ⟨rfl, hb⟩
  replace M := Lib.hid (M.out.below hb)
  clear hb
  go_wp2_with fail
  refine (c10.out _).mono ?_
  rintro r w10_ ⟨rfl, hb⟩
  replace M := Lib.hid (M.out.below hb)
  clear hb
  replace M := Lib.hid (M.out.made #[.float .f64 4607182418800017408, .float .f64 4607182418800017408] 24)
  go_wp2_with fail
  refine (c7.out _).mono ?_
  rintro r w11_ ⟨rfl, hb⟩
  replace M := Lib.hid (M.out.below hb)
  clear hb
  go_wp2_with fail
  refine (c7.out _).mono ?_
  rintro r w12_ ⟨rfl, hb⟩
  replace M := Lib.hid (M.out.below hb)
  clear hb
  go_wp2_with fail
  refine (c13.out _).mono ?_
  rintro r w13_ ⟨rfl, hb⟩
  replace M := Lib.hid (M.out.below hb)
  clear hb
  go_wp2_with fail
  refine (c14.out _).mono ?_
  rintro r w14_ ⟨rfl, hb⟩
  replace M := Lib.hid (M.out.below hb)
  clear hb
  replace M := Lib.hid (M.out.made #[.float .f64 13826050856027422720, .float .f64 13826050856027422720] 24)
  go_wp2_with fail
  refine (c1.out _).mono ?_
  rintro r w15_ ⟨rfl, hb⟩
  replace M := Lib.hid (M.out.below hb)
  clear hb
  go_wp2_with fail
  refine (c1.out _).mono ?_
  rintro r w16_ ⟨rfl, hb⟩
  replace M := Lib.hid (M.out.below hb)
  clear hb
  go_wp2_with fail
  refine (c7.out _).mono ?_
  rintro r w17_ ⟨rfl, hb⟩
  replace M := Lib.hid (M.out.below hb)
  clear hb
  go_wp2_with fail
  refine (c18.out _).mono ?_
  rintro r w18_ ⟨rfl, hb⟩
  replace M := Lib.hid (M.out.below hb)
  clear hb
  replace M := Lib.hid (M.out.made #[.float .f64 0, .float .f64 0] 24)
  go_wp2_with fail
  refine (c1.out _).mono ?_
  rintro r w19_ ⟨rfl, hb⟩
  replace M := Lib.hid (M.out.below hb)
  clear hb
  go_wp2_with fail
  refine (c3.out _).mono ?_
  rintro r w20_ ⟨rfl, hb⟩
  replace M := Lib.hid (M.out.below hb)
  clear hb
  go_wp2_with fail
  refine (c7.out _).mono ?_
  rintro r w21_ ⟨rfl, hb⟩
  replace M := Lib.hid (M.out.below hb)
  clear hb
  go_wp2_with fail
  refine (c7.out _).mono ?_
  rintro r w22_ ⟨rfl, hb⟩
  replace M := Lib.hid (M.out.below hb)
  clear hb
  go_wp2_with fail
  refine (c3.out _).mono ?_
  rintro r w23_ ⟨rfl, hb⟩
  replace M := Lib.hid (M.out.below hb)
  clear hb
  go_wp2_with fail
  refine (c24.out _).mono ?_
  rintro r w24_ ⟨rfl, hb⟩
  replace M := Lib.hid (M.out.below hb)
  clear hb
  replace M := Lib.hid (M.out.made #[.float .f64 0, .float .f64 0] 24)
  go_upto_region 7 with fail
  replace M := Lib.hid M.out.drew
  obtain ⟨k1, k2⟩ := (M.out.nth 6 rfl).two
  obtain ⟨k3, k4⟩ := (M.out.nth 5 rfl).two
  obtain ⟨k5, k6⟩ := (M.out.nth 4 rfl).two
  obtain ⟨k7, k8⟩ := (M.out.nth 3 rfl).two
  obtain ⟨k9, k10⟩ := (M.out.nth 2 rfl).two
  obtain ⟨k11, k12⟩ := (M.out.nth 0 rfl).two
  go_region_held3 (fun w' => (w'.cell? ⟨w2_.heap.size, 0, none⟩ = some (.float .f64 al) ∧ w'.cell? ⟨w2_.heap.size, 1, none⟩ = some (.float .f64 ah)) ∧ (w'.cell? ⟨(w2_.heap.size + 1), 0, none⟩ = some (.float .f64 0) ∧ w'.cell? ⟨(w2_.heap.size + 1), 1, none⟩ = some (.float .f64 0)) ∧ (w'.cell? ⟨w6_.heap.size, 0, none⟩ = some (.float .f64 0) ∧ w'.cell? ⟨w6_.heap.size, 1, none⟩ = some (.float .f64 0)) ∧ (w'.cell? ⟨w10_.heap.size, 0, none⟩ = some (.float .f64 4607182418800017408) ∧ w'.cell? ⟨w10_.heap.size, 1, none⟩ = some (.float .f64 4607182418800017408)) ∧ (w'.cell? ⟨w14_.heap.size, 0, none⟩ = some (.float .f64 13826050856027422720) ∧ w'.cell? ⟨w14_.heap.size, 1, none⟩ = some (.float .f64 13826050856027422720)) ∧ (w'.cell? ⟨w24_.heap.size, 0, none⟩ = some (.float .f64 0) ∧ w'.cell? ⟨w24_.heap.size, 1, none⟩ = some (.float .f64 0))) (((try dsimp only); (repeat' apply And.intro); all_goals (repeat (first | (with_reducible assumption) | ((with_reducible refine keep_undrew ?_); (with_reducible assumption)) | (with_reducible refine keep_drew ?_) | (with_reducible refine keep_alloc _ ?_) | (with_reducible refine keep_set _ (by first | (with_reducible assumption) | omega) ?_)))))
    (first
      | (go_at_call 29; (with_reducible refine (c3.out _).mono ?_); rintro rr w5 ⟨rfl, hb⟩; replace M := Lib.hid (M.out.below hb); clear hb; clear k1 k2 k3 k4 k5 k6 k7 k8 k9 k10 k11 k12; obtain ⟨k1, k2⟩ := (M.out.nth 6 rfl).two; obtain ⟨k3, k4⟩ := (M.out.nth 5 rfl).two; obtain ⟨k5, k6⟩ := (M.out.nth 4 rfl).two; obtain ⟨k7, k8⟩ := (M.out.nth 3 rfl).two; obtain ⟨k9, k10⟩ := (M.out.nth 2 rfl).two; obtain ⟨k11, k12⟩ := (M.out.nth 0 rfl).two)
      | (go_at_call 29; (with_reducible refine (c26.out _).mono ?_); rintro rr w5 ⟨rfl, hb⟩; replace M := Lib.hid (M.out.below hb); clear hb; clear k1 k2 k3 k4 k5 k6 k7 k8 k9 k10 k11 k12; obtain ⟨k1, k2⟩ := (M.out.nth 6 rfl).two; obtain ⟨k3, k4⟩ := (M.out.nth 5 rfl).two; obtain ⟨k5, k6⟩ := (M.out.nth 4 rfl).two; obtain ⟨k7, k8⟩ := (M.out.nth 3 rfl).two; obtain ⟨k9, k10⟩ := (M.out.nth 2 rfl).two; obtain ⟨k11, k12⟩ := (M.out.nth 0 rfl).two))
  clear k1 k2 k3 k4 k5 k6 k7 k8 k9 k10 k11 k12
  go_wp2
  go_ret
  exact ⟨rfl, M.out.base⟩

end Go.Proofs.YtoiaefgpegiieaaGreat

namespace Go.Proofs.YtoiaefgpegiieaaGreat
open Go.RowKit
attribute [local go_sem] run_store_float

end Go.Proofs.YtoiaefgpegiieaaGreat

namespace Go.Proofs.YtoiaefgpegiieaaGreat
open Go.RowKit
attribute [local go_sem] run_store_float

theorem word_neg {r : Nat} (h : val r ≠ 0) (hr : rung r < 9218868437227405312) : rightB r = true := by
  have hn : r ≠ 9223372036854775808 := by
    intro e
    subst e
    exact h (by decide +kernel)
  unfold rightB
  unfold rung at hr
  rw [decide_eq_true hr, decide_eq_false hn]; rfl
theorem sub_all {a b y0 : Nat} (ha : a < 18446744073709551616) (hb : b < 18446744073709551616) (ra : rightB a = true) (rb : rightB b = true) (hab : val b ≤ val a) (ly : y0 < 18446744073709551616) (ry : rightB y0 = true) (hy : val a - val b ≤ val y0) :
    ∃ r, floatBits .sub .f64 a b = some r ∧ r < 18446744073709551616 ∧ rightB r = true ∧ 0 ≤ val r ∧ val r ≤ val y0 := by
  have hst : (sgnB a && !sgnB b) = false := by
    cases sa : sgnB a
    · rfl
    · have n := (val_neg a ha ra).2 sa
      have m := (val_neg b hb rb).1 (by omega)
      rw [m]; rfl
  obtain ⟨r, h1, h2⟩ := sub_beside a b ha hb ra rb
  obtain ⟨n1, n2, n3, n4⟩ := near_between (x0 := 0) (y0 := y0) (by decide) (sub_down a b ra rb) (sub_up a b ra rb) h2 (by decide) (by decide) (by rw [show val 0 = 0 from by decide +kernel]; omega) ly ry (by omega)
  rw [show val 0 = 0 from by decide +kernel] at n3
  have h3 : ((Ieee.double.read a).sum (Ieee.double.read b).opposite).map Ieee.double.write = some r := h1
  rw [read_num a ha (right_rung a ra), read_num b hb (right_rung b rb)] at h3
  exact ⟨r, h1, n1, word_right (sum_plain (sgnB a) (!sgnB b) a b (expo_in a ra).1 (expo_in b rb).1 hst (by rw [neg_sg, ← val_sg, ← val_sg]; omega) r h3) n2, n3, n4⟩
theorem add_all {a b y0 : Nat} (ha : a < 18446744073709551616) (hb : b < 18446744073709551616) (ra : rightB a = true) (rb : rightB b = true) (pb : 0 ≤ val b) (ly : y0 < 18446744073709551616) (ry : rightB y0 = true) (hy : val a + val b ≤ val y0) :
    ∃ r, floatBits .add .f64 a b = some r ∧ r < 18446744073709551616 ∧ rightB r = true ∧ val a ≤ val r ∧ val r ≤ val y0 := by
  have sb := plain_sgn hb rb pb
  obtain ⟨r, h1, h2⟩ := add_beside a b ha hb ra rb
  obtain ⟨n1, n2, n3, n4⟩ := near_between (x0 := a) (y0 := y0) (by decide) (add_down a b ra rb) (add_up a b ra rb) h2 ha ra (by omega) ly ry (by omega)
  by_cases g : 0 ≤ val a + val b
  · have h3 : ((Ieee.double.read a).sum (Ieee.double.read b)).map Ieee.double.write = some r := h1
    rw [read_num a ha (right_rung a ra), read_num b hb (right_rung b rb)] at h3
    exact ⟨r, h1, n1, word_right (sum_plain _ _ a b (expo_in a ra).1 (expo_in b rb).1 (by rw [sb, Bool.and_false]) (by rw [← val_sg, ← val_sg]; omega) r h3) n2, n3, n4⟩
  · have e1 : val 9223372036854775809 = -1 := by decide +kernel
    obtain ⟨_, _, _, k4⟩ := near_between (x0 := a) (y0 := 9223372036854775809) (by decide) (add_down a b ra rb) (add_up a b ra rb) h2 ha ra (by omega) (by decide) (by decide) (by rw [e1]; omega)
    exact ⟨r, h1, n1, word_neg (by rw [e1] at k4; omega) n2, n3, n4⟩
theorem add_self0 {x : Nat} (lx : x < 18446744073709551616) (rx : rightB x = true) : floatBits .add .f64 x 0 = some x := by
  have z0 : val 0 = 0 := by decide +kernel
  obtain ⟨r, h1, h2, h3, h4, h5⟩ := add_all lx (by decide : (0 : Nat) < 18446744073709551616) rx (by decide) (by rw [z0]; exact Int.le_refl _) (y0 := x) lx rx (by rw [z0]; omega)
  rw [h1, val_inj h2 lx h3 rx (Int.le_antisymm h5 h4)]

set_option maxRecDepth 100000 in
theorem p8_any (x : Nat) (lx : x < 18446744073709551616) (rx : rightB x = true) (w : World) :
    Calls Tryz.prog 29 #[.float .f64 x] w fun r w' => r = .returned (.agg #[.float .f64 x, .float .f64 x]) ∧ Below w.heap.size w w' := by
  have cP := Lib.hid fun w => point_walk x w (fun w => run_float_arith w .add 22 .f64 _ _ _ (add_self0 lx rx))
  clear lx rx
  have M := Lib.hid ((Own.nil w).made #[.float .f64 0, .float .f64 0] 24)
  go_enter Tryz.func29, Tryz.ntmps29
  go_wp2_with fail
  refine (cP.out _).mono ?_
  rintro r w1 ⟨rfl, hb⟩
  replace M := Lib.hid (M.out.below hb)
  have kc := (M.out.nth 0 rfl).2.1
  have kf := (M.out.nth 0 rfl).2.2
  replace M := Lib.hid (M.out.set2 0 rfl (.float .f64 x) (.float .f64 x))
  go_wp2
  obtain ⟨f1, f2⟩ := (M.out.nth 0 rfl).two
  exact bodyPost_ret (v := .agg #[.float .f64 x, .float .f64 x]) (by simp [results, Tryz.results29, go_sem, f1, f2]) rfl ⟨rfl, M.out.base⟩
theorem between8_any (lo hi n : Nat) (hl : lo < 18446744073709551616) (hh : hi < 18446744073709551616) (rl : rightB lo = true) (rh : rightB hi = true) (h0 : -SS ≤ val lo) (hle : val lo ≤ val hi) (hs : val hi ≤ SS) (hn : n < 4294967296) :
    ∃ x, Amid lo hi x ∧ ∀ w, Calls Tryz.prog 30 #[.float .f64 lo, .float .f64 hi, .int .u32 n] w fun r w' => r = .returned (.float .f64 x) ∧ w = w' := by
  have v2 : val w2 = 2 * SS := by decide +kernel
  have v3 : val w3 = 3 * SS := by decide +kernel
  obtain ⟨f, f1, f2, f3, f4, f5⟩ := frac_word n hn
  obtain ⟨d, d1, d2, d3, d4, d5⟩ := sub_all hh hl rh rl hle (y0 := w2) (by decide) (by decide) (by rw [v2]; omega)
  have eU : val u1 = ((2 ^ sq : Nat) : Int) := by decide +kernel
  obtain ⟨m, m1', m2, m3, m4, m5⟩ := mul_near d2 f2 d3 f3 d4 f4 d2 d3 (by rw [← eU]; exact Int.mul_le_mul_of_nonneg_left f5 d4)
  obtain ⟨x, x1, x2, x3, x4, x5⟩ := add_all hl m2 rl m3 m4 (y0 := w3) (by decide) (by decide) (by rw [v3]; rw [v2] at d5; omega)
  have o1 : (FloatKind.f64.format.order x lo == some Ordering.lt) = false := by
    rw [order_lt x lo x2 hl x3 rl]; exact decide_eq_false (by omega)
  have cw := fun w => between6_walk lo hi n f d m x _ w (Lib.hid fun w => frac_walk n f w (fun w => run_float_arith w .quo 22 .f64 _ _ _ f1)) (fun w => run_float_arith w .sub 22 .f64 _ _ _ d1) (fun w => run_float_arith w .mul 22 .f64 _ _ _ m1') (fun w => run_float_arith w .add 22 .f64 _ _ _ x1) o1 rfl
  refine ⟨_, ?_, cw⟩
  rw [order_gt x hi x2 hh x3 rh]
  by_cases g : val hi < val x
  · rw [decide_eq_true g, if_pos rfl]; exact ⟨hh, rh, hle, Int.le_refl _⟩
  · rw [decide_eq_false g, if_neg Bool.false_ne_true]; exact ⟨x2, x3, x4, by omega⟩
theorem span8_any (lo hi p q : Nat) (hl : lo < 18446744073709551616) (hh : hi < 18446744073709551616) (rl : rightB lo = true) (rh : rightB hi = true) (h0 : -SS ≤ val lo) (hle : val lo ≤ val hi) (hs : val hi ≤ SS) (hp : p < 4294967296) (hq : q < 4294967296) :
    ∃ a : Res, In a ⟨0, lo, hi⟩ ∧ ∀ w, Calls Tryz.prog 12 #[.float .f64 lo, .float .f64 hi, .int .u32 p, .int .u32 q] w fun r w' => r = .returned (.agg #[.float .f64 a.lo, .float .f64 a.hi]) ∧ Below w.heap.size w w' := by
  obtain ⟨a, a1, a2⟩ := between8_any lo hi p hl hh rl rh h0 hle hs hp
  obtain ⟨b, b1, b2⟩ := between8_any lo hi q hl hh rl rh h0 hle hs hq
  refine ⟨⟨0, if (FloatKind.f64.format.order a b == some Ordering.gt) = true then b else a, if (FloatKind.f64.format.order a b == some Ordering.gt) = true then a else b⟩, ?_, fun w => span_walk lo hi p q a b _ w (Lib.hid a2) (Lib.hid b2) rfl⟩
  have key : ∀ x y, Amid lo hi x → Amid lo hi y → val x ≤ val y → In ⟨0, x, y⟩ ⟨0, lo, hi⟩ := fun x y hx hy hxy =>
    ⟨⟨rfl, hx.lt, hy.lt, by show ivR x y = true; unfold ivR leB; rw [hx.right, hy.right, decide_eq_true hxy]; rfl⟩, hx.lo, hy.hi⟩
  rw [order_gt a b a1.lt b1.lt a1.right b1.right]
  by_cases g : val b < val a
  · rw [decide_eq_true g, if_pos rfl, if_pos rfl]; exact key b a b1 a1 (by omega)
  · rw [decide_eq_false g, if_neg Bool.false_ne_true, if_neg Bool.false_ne_true]; exact key a b a1 b1 (by omega)
theorem span_u (p q : Nat) (hp : p < 4294967296) (hq : q < 4294967296) :
    ∃ a : Res, In a ouI ∧ ∀ w, Calls Tryz.prog 12 #[.float .f64 0, .float .f64 4607182418800017408, .int .u32 p, .int .u32 q] w fun r w' => r = .returned (.agg #[.float .f64 a.lo, .float .f64 a.hi]) ∧ Below w.heap.size w w' :=
  span8_any 0 4607182418800017408 p q (by decide) (by decide) (by decide) (by decide) (by decide +kernel) (by decide +kernel) (by decide +kernel) hp hq
theorem span_e (p q : Nat) (hp : p < 4294967296) (hq : q < 4294967296) :
    ∃ a : Res, In a oeI ∧ ∀ w, Calls Tryz.prog 12 #[.float .f64 13830554455654793216, .float .f64 4607182418800017408, .int .u32 p, .int .u32 q] w fun r w' => r = .returned (.agg #[.float .f64 a.lo, .float .f64 a.hi]) ∧ Below w.heap.size w w' :=
  span8_any 13830554455654793216 4607182418800017408 p q (by decide) (by decide) (by decide) (by decide) (by decide +kernel) (by decide +kernel) (by decide +kernel) hp hq
theorem right_u (x : Nat) (h : (fitB (oneR x) && leB 0 x && leB x u1) = true) : In (oneR x) ouI := by
  simp only [Bool.and_eq_true] at h
  exact ⟨.of h.1.1, of_decide_eq_true h.1.2, of_decide_eq_true h.2⟩
theorem right_e (x : Nat) (h : (fitB (oneR x) && leB m1 x && leB x u1) = true) : In (oneR x) oeI := by
  simp only [Bool.and_eq_true] at h
  exact ⟨.of h.1.1, of_decide_eq_true h.1.2, of_decide_eq_true h.2⟩
def w05 : Nat := 4602678819172646912
def w025 : Nat := 4598175219545276416
def w0625 : Nat := 4603804719079489536
def n025 : Nat := 13821547256400052224
theorem d_of (i o d : Nat) (h : (fitB (oneR i) && leB 0 i && leB i u1 && (fitB (oneR o) && leB 0 o && leB o u1) && (fitB (oneR d) && leB m1 d && leB d u1)) = true) : Dirs (oneR i) (oneR o) (oneR d) := by
  rw [Bool.and_eq_true, Bool.and_eq_true] at h
  exact ⟨right_u _ h.1.1, right_u _ h.1.2, right_e _ h.2⟩
theorem slope_lit (i o d : Nat) (l hh : Nat) (e : Int) (h : Dirs (oneR i) (oneR o) (oneR d)) (h1 : (Or.slope (oneR i) (oneR o) (oneR d)).lo = l) (h2 : (Or.slope (oneR i) (oneR o) (oneR d)).hi = hh) (h3 : (Or.st (oneR i) (oneR o) (oneR d)).e = e) (w : World) :
    Calls Tryz.prog 7 #[.agg #[.float .f64 i, .float .f64 i], .agg #[.float .f64 o, .float .f64 o], .agg #[.float .f64 d, .float .f64 d]] w fun r w' => r = .returned (.tuple #[.agg #[.float .f64 l, .float .f64 hh], .int .i64 e]) ∧ Below w.heap.size w w' := by
  have k := slope8 h w
  rw [h1, h2, h3] at k
  exact k
theorem value_lit (r s i o d : Nat) (l hh : Nat) (hr : In (oneR r) ouI) (hs : In (oneR s) ouI) (h : Dirs (oneR i) (oneR o) (oneR d)) (h3 : (Or.st (oneR i) (oneR o) (oneR d)).e = 0) (h1 : (Or.val (oneR r) (oneR s) (Or.slope (oneR i) (oneR o) (oneR d))).lo = l) (h2 : (Or.val (oneR r) (oneR s) (Or.slope (oneR i) (oneR o) (oneR d))).hi = hh) (w : World) :
    Calls Tryz.prog 28 #[.agg #[.float .f64 r, .float .f64 r], .agg #[.float .f64 s, .float .f64 s], .agg #[.float .f64 i, .float .f64 i], .agg #[.float .f64 o, .float .f64 o], .agg #[.float .f64 d, .float .f64 d]] w fun x w' => x = .returned (.tuple #[.agg #[.float .f64 l, .float .f64 hh], .int .i64 0]) ∧ Below w.heap.size w w' := by
  have k := value8 hr hs h h3 w
  rw [h1, h2] at k
  exact k
theorem pair_lit (l hh : Nat) (h1 : (Or.b (oneR 0)).lo = l) (h2 : (Or.b (oneR 0)).hi = hh) (w : World) :
    Calls Tryz.prog 5 #[.agg #[.float .f64 0, .float .f64 0]] w fun r w' => r = .returned (.tuple #[.agg #[.float .f64 (Or.a (oneR 0)).lo, .float .f64 (Or.a (oneR 0)).hi], .agg #[.float .f64 l, .float .f64 hh], .int .i64 0]) ∧ Below w.heap.size w w' := by
  have k := pair8 nil_ou w
  rw [h1, h2] at k
  exact k
theorem p8_lit (x : Nat) (h : (decide (x < 18446744073709551616) && rightB x) = true) (w : World) :
    Calls Tryz.prog 29 #[.float .f64 x] w fun r w' => r = .returned (.agg #[.float .f64 x, .float .f64 x]) ∧ Below w.heap.size w w' := by
  simp only [Bool.and_eq_true, decide_eq_true_eq] at h
  exact p8_any x h.1 h.2 w
theorem awake8_any (w : World) : Calls Tryz.prog 11 #[] w fun r w' => r = .returned (.bool true) ∧ Below w.heap.size w w' :=
  awake8_walk w (Lib.hid (p8_lit _ (by decide +kernel))) (Lib.hid (pair_lit _ _ (by decide +kernel) (by decide +kernel))) (Lib.hid (p8_lit _ (by decide +kernel))) (Lib.hid (slope_lit u1 u1 u1 _ _ _ (d_of u1 u1 u1 (by decide +kernel)) (by decide +kernel) (by decide +kernel) (by decide +kernel))) (Lib.hid (p8_lit _ (by decide +kernel))) (Lib.hid (p8_lit _ (by decide +kernel))) (Lib.hid (p8_lit _ (by decide +kernel))) (Lib.hid (slope_lit w05 w025 w0625 _ _ _ (d_of w05 w025 w0625 (by decide +kernel)) (by decide +kernel) (by decide +kernel) (by decide +kernel))) (Lib.hid (p8_lit _ (by decide +kernel))) (Lib.hid (slope_lit w05 w05 n025 _ _ _ (d_of w05 w05 n025 (by decide +kernel)) (by decide +kernel) (by decide +kernel) (by decide +kernel))) (Lib.hid (slope_lit 0 0 w05 _ _ _ (d_of 0 0 w05 (by decide +kernel)) (by decide +kernel) (by decide +kernel) (by decide +kernel))) (Lib.hid (value_lit 0 u1 w05 w05 u1 _ _ nil_ou (right_u _ (by decide +kernel)) (d_of w05 w05 u1 (by decide +kernel)) (by decide +kernel) (by decide +kernel) (by decide +kernel))) (by decide +kernel) (by decide +kernel) (by decide +kernel) (by decide +kernel) (Lib.hid (p8_lit _ (by decide +kernel))) (by decide +kernel)
theorem asks8 (u0 u1' u2 u3 u4 u5 u6 u7 u8 u9 : Nat) (g0 : u0 < 4294967296) (g1 : u1' < 4294967296) (g2 : u2 < 4294967296) (g3 : u3 < 4294967296) (g4 : u4 < 4294967296) (g5 : u5 < 4294967296) (g6 : u6 < 4294967296) (g7 : u7 < 4294967296) (g8 : u8 < 4294967296) (g9 : u9 < 4294967296) :
    ∃ r s i o d : Res, In r ouI ∧ In s ouI ∧ Dirs i o d ∧ ∀ w, Calls Tryz.prog 4 #[.agg #[.int .u32 u0, .int .u32 u1', .int .u32 u2, .int .u32 u3, .int .u32 u4, .int .u32 u5, .int .u32 u6, .int .u32 u7, .int .u32 u8, .int .u32 u9]] w fun x w' =>
      x = .returned (.agg #[.float .f64 r.lo, .float .f64 r.hi, .float .f64 s.lo, .float .f64 s.hi, .float .f64 i.lo, .float .f64 i.hi, .float .f64 o.lo, .float .f64 o.hi, .float .f64 d.lo, .float .f64 d.hi]) ∧ Below w.heap.size w w' := by
  obtain ⟨r, ir, cr⟩ := span_u u0 u1' g0 g1
  obtain ⟨s, is, cs⟩ := span_u u2 u3 g2 g3
  obtain ⟨i, ii, ci⟩ := span_u u4 u5 g4 g5
  obtain ⟨o, io, co⟩ := span_u u6 u7 g6 g7
  obtain ⟨d, id', cd⟩ := span_e u8 u9 g8 g9
  exact ⟨r, s, i, o, d, ir, is, ⟨ii, io, id'⟩, fun w => within8_walk w (Lib.hid cr) (Lib.hid cs) (Lib.hid ci) (Lib.hid co) (Lib.hid cd)⟩
end Go.Proofs.YtoiaefgpegiieaaGreat
