/- What the claim stands on, part 20: QVt, QVu, MiS, GgM. -/
import Derived.Test.YthefgkgdadkgbaaGreatPA12
import Derived.Deep.RegionHeld3
import Derived.Test.YthefgkgdadkgbaaGreatPA13
import Derived.Test.YthefgkgdadkgbaaGreatPA14
namespace Go.Proofs.YthefgkgdadkgbaaGreat
open Go.RowKit

theorem nil_wd {r : Res} (h : Nil0 r) (he : r.e ≠ 0) : Wd r := by
  obtain ⟨h1, h2⟩ := h he
  exact ⟨by rw [h1]; decide, by rw [h2]; decide⟩
theorem st2_wd {j : Nat} (hj : j < 6) (e : Int) {a b : Res} (ha : Wd a) (hb : Wd b) : Wd (stepI e (ivR a.lo a.hi && ivR b.lo b.hi) (askI a.lo a.hi b.lo b.hi j)) := by
  by_cases h : (stepI e (ivR a.lo a.hi && ivR b.lo b.hi) (askI a.lo a.hi b.lo b.hi j)).e = 0
  · obtain ⟨_, h2, h3⟩ := st_none h
    rw [Bool.and_eq_true] at h2
    rw [h3] at h ⊢
    obtain ⟨n1, _, n3, _⟩ := ask_nums a.lo a.hi b.lo b.hi j (by omega) ha.lo ha.hi hb.lo hb.hi h2.1 h2.2 h
    exact ⟨n1, n3⟩
  · refine nil_wd ?_ h
    have hn := ask_nil e a.lo a.hi b.lo b.hi j (by omega)
    rcases (show j = 0 ∨ j = 1 ∨ j = 2 ∨ j = 3 ∨ j = 4 ∨ j = 5 by omega) with rfl | rfl | rfl | rfl | rfl | rfl <;> exact hn
theorem st1_wd {j : Nat} (hj : j = 6 ∨ j = 7 ∨ j = 8) (e : Int) {a : Res} (ha : Wd a) : Wd (stepI e (ivR a.lo a.hi) (askI a.lo a.hi a.lo a.hi j)) := by
  by_cases h : (stepI e (ivR a.lo a.hi) (askI a.lo a.hi a.lo a.hi j)).e = 0
  · obtain ⟨_, h2, h3⟩ := st_none h
    rw [h3] at h ⊢
    obtain ⟨n1, _, n3, _⟩ := ask_nums a.lo a.hi a.lo a.hi j (by omega) ha.lo ha.hi ha.lo ha.hi h2 h2 h
    exact ⟨n1, n3⟩
  · refine nil_wd ?_ h
    have hn := ask_nil e a.lo a.hi a.lo a.hi j (by omega)
    rcases hj with rfl | rfl | rfl <;> exact hn

section
variable {a b p q r s k : Res} (e : Int) (ha : Wd a) (hb : Wd b)
include ha hb in
theorem stA_wd : Wd (stA e a b) := st2_wd (j := 0) (by decide) e ha hb
include ha in
theorem stQ_wd : Wd (stQ e a) := st1_wd (j := 6) (by decide) e ha
end

structure WdV (a : V3) : Prop where
  x : Wd a.x
  y : Wd a.y
  z : Wd a.z
theorem FitV.wd {a : V3} (h : FitV a) : WdV a := ⟨h.x.wd, h.y.wd, h.z.wd⟩

section
variable {a b : V3} {k : Res} (e : Int) (ha : WdV a) (hb : WdV b) (hk : Wd k)
include ha in
theorem norm_any (pb : Nat) (v : World) (hC : Has1 v (pb, #[.int .i64 e])) :
    Calls Tryz.prog 30 #[.pointer (some ⟨pb, 0, none⟩), .agg #[.float .f64 a.x.lo, .float .f64 a.x.hi, .float .f64 a.y.lo, .float .f64 a.y.hi, .float .f64 a.z.lo, .float .f64 a.z.hi]] v
      fun r w' => r = .returned (.agg #[.float .f64 (normV e a).lo, .float .f64 (normV e a).hi]) ∧ Put ⟨pb, 0, none⟩ (.int .i64 (normV e a).e) v w' := by
  have m1 := stQ_wd e ha.x
  have m2 := stQ_wd (nrm1 e a).e ha.y
  have m3 := stA_wd (nrm2 e a).e m1 m2
  have m4 := stQ_wd (nrm3 e a).e ha.z
  have m5 := stA_wd (nrm4 e a).e m3 m4
  exact norm_walk _ _ _ _ _ _ _ _ _ _ _ _ _ _ _ _ _ _ e _ _ _ _ _ _ pb v hC (Lib.hid (ce_sqr e ha.x pb)) (Lib.hid (ce_sqr _ ha.y pb)) (Lib.hid (ce_add _ m1 m2 pb)) (Lib.hid (ce_sqr _ ha.z pb)) (Lib.hid (ce_add _ m3 m4 pb)) (Lib.hid (ce_sqrt _ m5 pb))

include ha hb in
theorem vadd_any (pb : Nat) (v : World) (hC : Has1 v (pb, #[.int .i64 e])) :
    Calls Tryz.prog 37 #[.pointer (some ⟨pb, 0, none⟩), .agg #[.float .f64 a.x.lo, .float .f64 a.x.hi, .float .f64 a.y.lo, .float .f64 a.y.hi, .float .f64 a.z.lo, .float .f64 a.z.hi], .agg #[.float .f64 b.x.lo, .float .f64 b.x.hi, .float .f64 b.y.lo, .float .f64 b.y.hi, .float .f64 b.z.lo, .float .f64 b.z.hi]] v
      fun r w' => r = .returned (.agg #[.float .f64 (addV e a b).x.lo, .float .f64 (addV e a b).x.hi, .float .f64 (addV e a b).y.lo, .float .f64 (addV e a b).y.hi, .float .f64 (addV e a b).z.lo, .float .f64 (addV e a b).z.hi]) ∧ Put ⟨pb, 0, none⟩ (.int .i64 (addV e a b).z.e) v w' :=
  addV_walk _ _ _ _ _ _ _ _ _ _ _ _ _ _ _ _ _ _ e _ pb v hC (Lib.hid fun v hC => both_add _ _ _ _ _ _ _ _ _ _ _ _ _ _ _ _ _ _ e _ _ _ pb v hC (Lib.hid (ce_add e ha.x hb.x pb)) (Lib.hid (ce_add _ ha.y hb.y pb)) (Lib.hid (ce_add _ ha.z hb.z pb)))

end

end Go.Proofs.YthefgkgdadkgbaaGreat

namespace Go.Proofs.YthefgkgdadkgbaaGreat
open Go.RowKit
attribute [local go_sem] run_store_float

set_option maxRecDepth 100000 in
set_option maxHeartbeats 4000000 in
theorem unitLit_walk (xl xh ll lh ql qh ml mh : Nat) (b : Bool) (e e1 : Int) (pb lp : Nat) (w : World) (hC : Has1 w (pb, #[.int .i64 e])) (hL : Has1 w (lp, #[.float .f64 ll, .float .f64 lh])) (n1 : pb ≠ lp)
    (cD : Hid (CE2 22 pb e e1 xl xh ll lh ql qh))
    (cM : Hid (∀ w, Calls Tryz.prog 33 #[.agg #[.float .f64 ql, .float .f64 qh], .agg #[.float .f64 13830554455654793216, .float .f64 4607182418800017408]] w fun r w' => r = .returned (.tuple #[.agg #[.float .f64 ml, .float .f64 mh], .bool b]) ∧ Below w.heap.size w w')) :
    Calls Tryz.prog 32 #[.agg #[.float .f64 xl, .float .f64 xh], .pointer (some ⟨pb, 0, none⟩), .pointer (some ⟨lp, 0, none⟩)] w fun r w' => r = .returned (.agg #[.float .f64 ml, .float .f64 mh]) ∧ Put ⟨pb, 0, none⟩ (.int .i64 e1) w w' := by
  have E := Lib.hid ((((EnvE.start hC).add hL n1).made #[.float .f64 xl, .float .f64 xh] 27).made #[.float .f64 0, .float .f64 0] 27)
  simp only [World.size_alloc] at E
  obtain ⟨k1, k2⟩ := (E.out.nth 1 rfl).two
  obtain ⟨k3, k4⟩ := (E.out.nth 2 rfl).two
  clear hC hL n1
  go_enter Tryz.func32, Tryz.ntmps32
  go_wp2_with fail
  refine (cD.out _ E.out.cal).mono ?_
  rintro r w1 ⟨rfl, hp⟩
  have E1 := Lib.hid (E.out.putc hp)
  clear E hp k1 k2 k3 k4
  go_wp2_with fail
  refine (cM.out _).mono ?_
  rintro r w2 ⟨rfl, hb⟩
  have E2 := Lib.hid ((E1.out.below hb).made #[.float .f64 ml, .float .f64 mh] 27)
  clear E1 hb
  obtain ⟨k1, k2⟩ := (E2.out.nth 0 rfl).two
  have kc := (E2.out.nth 1 rfl).2.1
  have kf := (E2.out.nth 1 rfl).2.2
  have F := Lib.hid (E2.out.set2 (E2.out.nth 1 rfl) (E2.out.ne 1 rfl) (by omega) (.float .f64 ml) (.float .f64 mh))
  go_wp2
  obtain ⟨f1, f2⟩ := (F.out.nth 0 rfl).two
  exact bodyPost_ret (v := .agg #[.float .f64 ml, .float .f64 mh]) (by simp [results, Tryz.results32, go_sem, f1, f2]) rfl ⟨rfl, F.out.put⟩

set_option maxRecDepth 100000 in
set_option maxHeartbeats 4000000 in
theorem each_unit (axl axh ayl ayh azl azh rxl rxh ryl ryh rzl rzh ll lh : Nat) (e e1 e2 e3 : Int) (pb lp : Nat) (w : World) (hC : Has1 w (pb, #[.int .i64 e])) (hP : Has1 w (lp, #[.float .f64 ll, .float .f64 lh])) (n1 : pb ≠ lp)
    (d1 : Hid (∀ v : World, Has1 v (pb, #[.int .i64 e]) → Has1 v (lp, #[.float .f64 ll, .float .f64 lh]) → pb ≠ lp → Calls Tryz.prog 32 #[.agg #[.float .f64 axl, .float .f64 axh], .pointer (some ⟨pb, 0, none⟩), .pointer (some ⟨lp, 0, none⟩)] v fun r w' => r = .returned (.agg #[.float .f64 rxl, .float .f64 rxh]) ∧ Put ⟨pb, 0, none⟩ (.int .i64 e1) v w')) (d2 : Hid (∀ v : World, Has1 v (pb, #[.int .i64 e1]) → Has1 v (lp, #[.float .f64 ll, .float .f64 lh]) → pb ≠ lp → Calls Tryz.prog 32 #[.agg #[.float .f64 ayl, .float .f64 ayh], .pointer (some ⟨pb, 0, none⟩), .pointer (some ⟨lp, 0, none⟩)] v fun r w' => r = .returned (.agg #[.float .f64 ryl, .float .f64 ryh]) ∧ Put ⟨pb, 0, none⟩ (.int .i64 e2) v w')) (d3 : Hid (∀ v : World, Has1 v (pb, #[.int .i64 e2]) → Has1 v (lp, #[.float .f64 ll, .float .f64 lh]) → pb ≠ lp → Calls Tryz.prog 32 #[.agg #[.float .f64 azl, .float .f64 azh], .pointer (some ⟨pb, 0, none⟩), .pointer (some ⟨lp, 0, none⟩)] v fun r w' => r = .returned (.agg #[.float .f64 rzl, .float .f64 rzh]) ∧ Put ⟨pb, 0, none⟩ (.int .i64 e3) v w')) :
    Calls Tryz.prog 31 #[.agg #[.float .f64 axl, .float .f64 axh, .float .f64 ayl, .float .f64 ayh, .float .f64 azl, .float .f64 azh], .func (.func 32) #[] #[.pointer (some ⟨pb, 0, none⟩), .pointer (some ⟨lp, 0, none⟩)]] w fun r w' => r = .returned (.agg #[.float .f64 rxl, .float .f64 rxh, .float .f64 ryl, .float .f64 ryh, .float .f64 rzl, .float .f64 rzh]) ∧ Put ⟨pb, 0, none⟩ (.int .i64 e3) w w' := by
  have E := Lib.hid (((((EnvE.start hC).add hP n1)).made #[.float .f64 axl, .float .f64 axh, .float .f64 ayl, .float .f64 ayh, .float .f64 azl, .float .f64 azh] 29).made #[.float .f64 0, .float .f64 0, .float .f64 0, .float .f64 0, .float .f64 0, .float .f64 0] 29)
  simp only [World.size_alloc] at E
  
  go_enter Tryz.func31, Tryz.ntmps31
  go_upto_region 1 with fail
  revert E
  generalize ((w.alloc (.cells #[.float .f64 axl, .float .f64 axh, .float .f64 ayl, .float .f64 ayh, .float .f64 azl, .float .f64 azh] 29)).alloc (.cells #[.float .f64 0, .float .f64 0, .float .f64 0, .float .f64 0, .float .f64 0, .float .f64 0] 29)) = W
  intro E
  obtain ⟨k1, k2, k3, k4, k5, k6⟩ := (E.out.nth 1 rfl).six; have kc := (E.out.nth 0 rfl).2.1; have kf := (E.out.nth 0 rfl).2.2
  go_region_held3 (fun w' => w'.cell? ⟨w.heap.size, 0, none⟩ = some (.float .f64 axl) ∧ w'.cell? ⟨w.heap.size, 1, none⟩ = some (.float .f64 axh) ∧ w'.cell? ⟨w.heap.size, 2, none⟩ = some (.float .f64 ayl) ∧ w'.cell? ⟨w.heap.size, 3, none⟩ = some (.float .f64 ayh) ∧ w'.cell? ⟨w.heap.size, 4, none⟩ = some (.float .f64 azl) ∧ w'.cell? ⟨w.heap.size, 5, none⟩ = some (.float .f64 azh)) (((try dsimp only); (repeat' apply And.intro); all_goals (repeat (first | (with_reducible assumption) | ((with_reducible refine keep_undrew ?_); (with_reducible assumption)) | (with_reducible refine keep_drew ?_) | (with_reducible refine keep_alloc _ ?_) | (with_reducible refine keep_set _ (by first | (with_reducible assumption) | omega) ?_)))))
    (first
      | (go_at_call 32; (with_reducible refine (d1.out _ E.out.drew.cal (E.out.drew.nth 2 rfl) (E.out.drew.ne 2 rfl)).mono ?_); rintro rr w5 ⟨rfl, hp⟩; have E' := Lib.hid (E.out.drew.putc hp); clear E hp k1 k2 k3 k4 k5 k6 kc kf; have E := E'; clear E'; obtain ⟨k1, k2, k3, k4, k5, k6⟩ := (E.out.nth 1 rfl).six; have kc := (E.out.nth 0 rfl).2.1; have kf := (E.out.nth 0 rfl).2.2)
      | (go_at_call 32; (with_reducible refine (d2.out _ E.out.cal (E.out.nth 2 rfl) (E.out.ne 2 rfl)).mono ?_); rintro rr w5 ⟨rfl, hp⟩; have E' := Lib.hid (E.out.putc hp); clear E hp k1 k2 k3 k4 k5 k6 kc kf; have E := E'; clear E'; obtain ⟨k1, k2, k3, k4, k5, k6⟩ := (E.out.nth 1 rfl).six; have kc := (E.out.nth 0 rfl).2.1; have kf := (E.out.nth 0 rfl).2.2)
      | (go_at_call 32; (with_reducible refine (d3.out _ E.out.cal (E.out.nth 2 rfl) (E.out.ne 2 rfl)).mono ?_); rintro rr w5 ⟨rfl, hp⟩; have E' := Lib.hid (E.out.putc hp); clear E hp k1 k2 k3 k4 k5 k6 kc kf; have E := E'; clear E'; obtain ⟨k1, k2, k3, k4, k5, k6⟩ := (E.out.nth 1 rfl).six; have kc := (E.out.nth 0 rfl).2.1; have kf := (E.out.nth 0 rfl).2.2))
  have F := Lib.hid (E.out.set6 (E.out.nth 0 rfl) (E.out.ne 0 rfl) (by omega) (.float .f64 rxl) (.float .f64 rxh) (.float .f64 ryl) (.float .f64 ryh) (.float .f64 rzl) (.float .f64 rzh))
  go_wp2
  obtain ⟨f1, f2, f3, f4, f5, f6⟩ := (F.out.nth 0 rfl).six
  exact bodyPost_ret (v := .agg #[.float .f64 rxl, .float .f64 rxh, .float .f64 ryl, .float .f64 ryh, .float .f64 rzl, .float .f64 rzh]) (by simp [results, Tryz.results31, go_sem, f1, f2, f3, f4, f5, f6]) rfl ⟨rfl, F.out.put⟩

section
variable {a : V3} {k : Res} (e : Int) (ha : WdV a) (hk : Wd k)
end

end Go.Proofs.YthefgkgdadkgbaaGreat

namespace Go.Proofs.YthefgkgdadkgbaaGreat
open Go.RowKit
attribute [local go_sem] run_store_float

theorem run_max3 (a b c : Nat) (ha : a < 18446744073709551616) (hb : b < 18446744073709551616) (hc : c < 18446744073709551616) (ra : rightB a = true) (rb : rightB b = true) (rc : rightB c = true) (ts : Array TypeId) (t : TypeId) (w : World) :
    (Builtin.max_ ts t #[.float .f64 a, .float .f64 b, .float .f64 c]).run Tryz.prog w = .ok (.float .f64 (maxW (maxW a b) c)) w := by
  obtain ⟨m1, m2, _⟩ := max_facts a b ha hb ra rb
  have h1 := (run_less a b ha hb ra rb #[] 0 w).2
  have h2 := (run_less (maxW a b) c m1 hc m2 rc #[] 0 w).2
  simp [Builtin.max_] at h1 h2 ⊢
  simp [h1, h2]

theorem Has1.three {v : World} {b : Nat} {x y z : Value} (h : Has1 v (b, #[x, y, z])) : v.cell? ⟨b, 0, none⟩ = some x ∧ v.cell? ⟨b, 1, none⟩ = some y ∧ v.cell? ⟨b, 2, none⟩ = some z := ⟨h.2.1 0, h.2.1 1, h.2.1 2⟩

abbrev CalcR (x : Nat) (b : Bool) : Prop := ∀ w : World, Calls Tryz.prog 57 #[.float .f64 x] w fun r w' => r = .returned (.bool b) ∧ w = w'
abbrev CalcAbs (x r : Nat) : Prop := ∀ w : World, Calls Tryz.prog 58 #[.float .f64 x] w fun e w' => e = .returned (.float .f64 r) ∧ w = w'

set_option maxRecDepth 100000 in
theorem hasUnit_bad (x y z : Nat) (rx ry rz : Bool) (w : World) (h : Hid ((rx && ry && rz) = false)) (c1 : Hid (CalcR x rx)) (c2 : Hid (CalcR y ry)) (c3 : Hid (CalcR z rz)) :
    Calls Tryz.prog 29 #[.agg #[.float .f64 x, .float .f64 y, .float .f64 z]] w fun r w' => r = .returned (.bool false) ∧ Below w.heap.size w w' := by
  have M := Lib.hid ((Own.nil w).made #[.float .f64 x, .float .f64 y, .float .f64 z] 46)
  obtain ⟨k1, k2, k3⟩ := (M.out.nth 0 rfl).three
  cases rx
  · go_enter Tryz.func29, Tryz.ntmps29
    go_wp2_with fail
    refine (c1.out _).mono ?_
    rintro r ww ⟨rfl, rfl⟩
    go_wp2
    go_ret
    exact ⟨rfl, M.out.base⟩
  · cases ry
    · go_enter Tryz.func29, Tryz.ntmps29
      go_wp2_with fail
      refine (c1.out _).mono ?_
      rintro r ww ⟨rfl, rfl⟩
      go_wp2_with fail
      refine (c2.out _).mono ?_
      rintro r ww ⟨rfl, rfl⟩
      go_wp2
      go_ret
      exact ⟨rfl, M.out.base⟩
    · obtain rfl : rz = false := h.out
      go_enter Tryz.func29, Tryz.ntmps29
      go_wp2_with fail
      refine (c1.out _).mono ?_
      rintro r ww ⟨rfl, rfl⟩
      go_wp2_with fail
      refine (c2.out _).mono ?_
      rintro r ww ⟨rfl, rfl⟩
      go_wp2_with fail
      refine (c3.out _).mono ?_
      rintro r ww ⟨rfl, rfl⟩
      go_wp2
      go_ret
      exact ⟨rfl, M.out.base⟩

set_option maxRecDepth 100000 in
set_option maxHeartbeats 4000000 in
theorem hasUnit_walk (x y z p q s m : Nat) (b1 b2 : Bool) (w : World) (c1 : Hid (CalcR x true)) (c2 : Hid (CalcR y true)) (c3 : Hid (CalcR z true))
    (a1 : Hid (CalcAbs x p)) (a2 : Hid (CalcAbs y q)) (a3 : Hid (CalcAbs z s)) (hm : ∀ ts t w, (Builtin.max_ ts t #[.float .f64 p, .float .f64 q, .float .f64 s]).run Tryz.prog w = .ok (.float .f64 m) w)
    (o1 : ((FloatKind.f64.format.order 4318952042648305664 m == some Ordering.lt) || (FloatKind.f64.format.order 4318952042648305664 m == some Ordering.eq)) = b1)
    (o2 : ((FloatKind.f64.format.order m 4895412794951729152 == some Ordering.lt) || (FloatKind.f64.format.order m 4895412794951729152 == some Ordering.eq)) = b2) :
    Calls Tryz.prog 29 #[.agg #[.float .f64 x, .float .f64 y, .float .f64 z]] w fun r w' => r = .returned (.bool (b1 && b2)) ∧ Below w.heap.size w w' := by
  have M := Lib.hid ((Own.nil w).made #[.float .f64 x, .float .f64 y, .float .f64 z] 46)
  obtain ⟨k1, k2, k3⟩ := (M.out.nth 0 rfl).three
  go_enter Tryz.func29, Tryz.ntmps29
  go_wp2_with fail
  refine (c1.out _).mono ?_
  rintro r ww ⟨rfl, rfl⟩
  go_wp2_with fail
  refine (c2.out _).mono ?_
  rintro r ww ⟨rfl, rfl⟩
  go_wp2_with fail
  refine (c3.out _).mono ?_
  rintro r ww ⟨rfl, rfl⟩
  go_upto_region 3 with fail
  clear c1 c2 c3
  revert M k1 k2 k3
  generalize w.alloc (.cells #[.float .f64 x, .float .f64 y, .float .f64 z] 46) = W
  intro M k1 k2 k3
  go_region_held3 (fun w' => w'.cell? ⟨w.heap.size, 0, none⟩ = some (.float .f64 x) ∧ w'.cell? ⟨w.heap.size, 1, none⟩ = some (.float .f64 y) ∧ w'.cell? ⟨w.heap.size, 2, none⟩ = some (.float .f64 z)) (((try dsimp only); (repeat' apply And.intro); all_goals (repeat (first | (with_reducible assumption) | ((with_reducible refine keep_undrew ?_); (with_reducible assumption)) | (with_reducible refine keep_drew ?_)))))
    (first
      | (go_at_call 58; (with_reducible refine (a1.out _).mono ?_); rintro rr w5 ⟨rfl, rfl⟩)
      | (go_at_call 58; (with_reducible refine (a2.out _).mono ?_); rintro rr w5 ⟨rfl, rfl⟩)
      | (go_at_call 58; (with_reducible refine (a3.out _).mono ?_); rintro rr w5 ⟨rfl, rfl⟩))
  cases b1
  · go_wp2
    go_ret
    exact ⟨rfl, M.out.base.drew⟩
  · go_wp2
    go_ret
    exact ⟨by rw [← o2]; rfl, M.out.base.drew⟩

end Go.Proofs.YthefgkgdadkgbaaGreat

namespace Go.Proofs.YthefgkgdadkgbaaGreat
open Go.RowKit
attribute [local go_sem] run_store_float

abbrev CalcV (f : FuncId) (pb : Nat) (a0 a1 a2 a3 a4 a5 nl nh : Nat) : Prop := ∀ v : World, Has1 v (pb, #[.int .i64 0]) → Calls Tryz.prog f #[.pointer (some ⟨pb, 0, none⟩), .agg #[.float .f64 a0, .float .f64 a1, .float .f64 a2, .float .f64 a3, .float .f64 a4, .float .f64 a5]] v fun r w' => r = .returned (.agg #[.float .f64 nl, .float .f64 nh]) ∧ Put ⟨pb, 0, none⟩ (.int .i64 0) v w'

def UnitJ (w : World) (x y z pb : Nat) (a0 : Act) (k : Nat) (p : List (Option Nat)) (a : Act) (v : World) : Prop :=
  ∃ y1 y2 y3 y4 z1 : Value, a = (((((a0.put (some 13) y1).put (some 16) y2).put (some 19) y3).put (some 20) y4).put (some 5) z1) ∧
    (0 < k → y1 = .agg #[.float .f64 x, .float .f64 x]) ∧
    (1 < k → y2 = .agg #[.float .f64 y, .float .f64 y]) ∧
    (2 < k → y3 = .agg #[.float .f64 z, .float .f64 z]) ∧
    (3 < k → y4 = .agg #[.float .f64 x, .float .f64 x, .float .f64 y, .float .f64 y, .float .f64 z, .float .f64 z]) ∧
    (∀ q, p[0]? = some (some q) → z1 = .pointer (some ⟨q, 0, none⟩)) ∧
    OwnF w [(pb, #[.int .i64 0]), (w.heap.size + 1, #[.float .f64 0, .float .f64 0, .float .f64 0, .float .f64 0, .float .f64 0, .float .f64 0]), (w.heap.size, #[.float .f64 x, .float .f64 y, .float .f64 z])] [#[.float .f64 0, .float .f64 0, .float .f64 0, .float .f64 0, .float .f64 0, .float .f64 0]] p v

theorem UnitJ_0 {w : World} {x y z pb : Nat} {a0 a : Act} {p : List (Option Nat)} {v : World} (h : UnitJ w x y z pb a0 0 p a v) :
    ∃ y1 y2 y3 y4 z1 : Value, a = (((((a0.put (some 13) y1).put (some 16) y2).put (some 19) y3).put (some 20) y4).put (some 5) z1) ∧ (∀ q, p[0]? = some (some q) → z1 = .pointer (some ⟨q, 0, none⟩)) ∧ OwnF w [(pb, #[.int .i64 0]), (w.heap.size + 1, #[.float .f64 0, .float .f64 0, .float .f64 0, .float .f64 0, .float .f64 0, .float .f64 0]), (w.heap.size, #[.float .f64 x, .float .f64 y, .float .f64 z])] [#[.float .f64 0, .float .f64 0, .float .f64 0, .float .f64 0, .float .f64 0, .float .f64 0]] p v := by
  obtain ⟨y1, y2, y3, y4, z1, ha, hhe1, hhe2, hhe3, hhe4, hhg1, h⟩ := h
  exact ⟨y1, y2, y3, y4, z1, ha, hhg1, h⟩
theorem UnitJ_1 {w : World} {x y z pb : Nat} {a0 a : Act} {p : List (Option Nat)} {v : World} (h : UnitJ w x y z pb a0 1 p a v) :
    ∃ y2 y3 y4 z1 : Value, a = (((((a0.put (some 13) (.agg #[.float .f64 x, .float .f64 x])).put (some 16) y2).put (some 19) y3).put (some 20) y4).put (some 5) z1) ∧ (∀ q, p[0]? = some (some q) → z1 = .pointer (some ⟨q, 0, none⟩)) ∧ OwnF w [(pb, #[.int .i64 0]), (w.heap.size + 1, #[.float .f64 0, .float .f64 0, .float .f64 0, .float .f64 0, .float .f64 0, .float .f64 0]), (w.heap.size, #[.float .f64 x, .float .f64 y, .float .f64 z])] [#[.float .f64 0, .float .f64 0, .float .f64 0, .float .f64 0, .float .f64 0, .float .f64 0]] p v := by
  obtain ⟨y1, y2, y3, y4, z1, ha, hhe1, hhe2, hhe3, hhe4, hhg1, h⟩ := h
  obtain rfl := hhe1 (by decide)
  exact ⟨y2, y3, y4, z1, ha, hhg1, h⟩
theorem UnitJ_2 {w : World} {x y z pb : Nat} {a0 a : Act} {p : List (Option Nat)} {v : World} (h : UnitJ w x y z pb a0 2 p a v) :
    ∃ y3 y4 z1 : Value, a = (((((a0.put (some 13) (.agg #[.float .f64 x, .float .f64 x])).put (some 16) (.agg #[.float .f64 y, .float .f64 y])).put (some 19) y3).put (some 20) y4).put (some 5) z1) ∧ (∀ q, p[0]? = some (some q) → z1 = .pointer (some ⟨q, 0, none⟩)) ∧ OwnF w [(pb, #[.int .i64 0]), (w.heap.size + 1, #[.float .f64 0, .float .f64 0, .float .f64 0, .float .f64 0, .float .f64 0, .float .f64 0]), (w.heap.size, #[.float .f64 x, .float .f64 y, .float .f64 z])] [#[.float .f64 0, .float .f64 0, .float .f64 0, .float .f64 0, .float .f64 0, .float .f64 0]] p v := by
  obtain ⟨y1, y2, y3, y4, z1, ha, hhe1, hhe2, hhe3, hhe4, hhg1, h⟩ := h
  obtain rfl := hhe1 (by decide)
  obtain rfl := hhe2 (by decide)
  exact ⟨y3, y4, z1, ha, hhg1, h⟩
theorem UnitJ_3 {w : World} {x y z pb : Nat} {a0 a : Act} {p : List (Option Nat)} {v : World} (h : UnitJ w x y z pb a0 3 p a v) :
    ∃ y4 z1 : Value, a = (((((a0.put (some 13) (.agg #[.float .f64 x, .float .f64 x])).put (some 16) (.agg #[.float .f64 y, .float .f64 y])).put (some 19) (.agg #[.float .f64 z, .float .f64 z])).put (some 20) y4).put (some 5) z1) ∧ (∀ q, p[0]? = some (some q) → z1 = .pointer (some ⟨q, 0, none⟩)) ∧ OwnF w [(pb, #[.int .i64 0]), (w.heap.size + 1, #[.float .f64 0, .float .f64 0, .float .f64 0, .float .f64 0, .float .f64 0, .float .f64 0]), (w.heap.size, #[.float .f64 x, .float .f64 y, .float .f64 z])] [#[.float .f64 0, .float .f64 0, .float .f64 0, .float .f64 0, .float .f64 0, .float .f64 0]] p v := by
  obtain ⟨y1, y2, y3, y4, z1, ha, hhe1, hhe2, hhe3, hhe4, hhg1, h⟩ := h
  obtain rfl := hhe1 (by decide)
  obtain rfl := hhe2 (by decide)
  obtain rfl := hhe3 (by decide)
  exact ⟨y4, z1, ha, hhg1, h⟩
theorem UnitJ_fin {w : World} {x y z pb : Nat} {qq1 : Nat} {a0 a : Act} {v : World} (h : UnitJ w x y z pb a0 4 [some qq1] a v) :
    a = (((((a0.put (some 13) (.agg #[.float .f64 x, .float .f64 x])).put (some 16) (.agg #[.float .f64 y, .float .f64 y])).put (some 19) (.agg #[.float .f64 z, .float .f64 z])).put (some 20) (.agg #[.float .f64 x, .float .f64 x, .float .f64 y, .float .f64 y, .float .f64 z, .float .f64 z])).put (some 5) (.pointer (some ⟨qq1, 0, none⟩))) ∧ OwnF w [(pb, #[.int .i64 0]), (w.heap.size + 1, #[.float .f64 0, .float .f64 0, .float .f64 0, .float .f64 0, .float .f64 0, .float .f64 0]), (w.heap.size, #[.float .f64 x, .float .f64 y, .float .f64 z])] [#[.float .f64 0, .float .f64 0, .float .f64 0, .float .f64 0, .float .f64 0, .float .f64 0]] [some qq1] v := by
  obtain ⟨y1, y2, y3, y4, z1, ha, hhe1, hhe2, hhe3, hhe4, hhg1, h⟩ := h
  obtain rfl := hhe1 (by decide)
  obtain rfl := hhe2 (by decide)
  obtain rfl := hhe3 (by decide)
  obtain rfl := hhe4 (by decide)
  obtain rfl := hhg1 _ rfl
  exact ⟨ha, h⟩

set_option maxRecDepth 100000 in
set_option maxHeartbeats 4000000 in
theorem unit_walk (x y z nl nh ul uh vl vh tl th : Nat) (w : World)
    (cU : Hid (∀ w, Calls Tryz.prog 29 #[.agg #[.float .f64 x, .float .f64 y, .float .f64 z]] w fun r w' => r = .returned (.bool true) ∧ Below w.heap.size w w'))
    (c1 : Hid (∀ pb, CalcN pb x)) (c2 : Hid (∀ pb, CalcN pb y)) (c3 : Hid (∀ pb, CalcN pb z)) (cN : Hid (∀ pb, CalcV 30 pb x x y y z z nl nh))
    (cE : Hid (∀ (pb lp : Nat) (v : World), Has1 v (pb, #[.int .i64 0]) → Has1 v (lp, #[.float .f64 nl, .float .f64 nh]) → pb ≠ lp → Calls Tryz.prog 31 #[.agg #[.float .f64 x, .float .f64 x, .float .f64 y, .float .f64 y, .float .f64 z, .float .f64 z], .func (.func 32) #[] #[.pointer (some ⟨pb, 0, none⟩), .pointer (some ⟨lp, 0, none⟩)]] v fun r w' => r = .returned (.agg #[.float .f64 ul, .float .f64 uh, .float .f64 vl, .float .f64 vh, .float .f64 tl, .float .f64 th]) ∧ Put ⟨pb, 0, none⟩ (.int .i64 0) v w')) :
    Calls Tryz.prog 11 #[.agg #[.float .f64 x, .float .f64 y, .float .f64 z]] w fun r w' => r = .returned (.tuple #[.agg #[.float .f64 ul, .float .f64 uh, .float .f64 vl, .float .f64 vh, .float .f64 tl, .float .f64 th], .int .i64 0]) ∧ Below w.heap.size w w' := by
  have M := Lib.hid (((Own.nil w).made #[.float .f64 x, .float .f64 y, .float .f64 z] 46).made #[.float .f64 0, .float .f64 0, .float .f64 0, .float .f64 0, .float .f64 0, .float .f64 0] 29)
  simp only [World.size_alloc] at M
  obtain ⟨k1, k2, k3⟩ := (M.out.nth 1 rfl).three
  go_enter Tryz.func11, Tryz.ntmps11
  go_wp2_with fail
  refine (cU.out _).mono ?_
  rintro r w1 ⟨rfl, hb⟩
  have M0 := Lib.hid (M.out.below hb)
  clear hb k1 k2 k3 M cU
  go_upto_region 4 with fail
  have M := Lib.hid ((M0.out.made #[.int .i64 0] 60).drew)
  clear M0
  obtain ⟨k1, k2, k3⟩ := (M.out.nth 2 rfl).three
  refine wp_region_noPanic ?_
  refine tails_region (S := fun w' => w'.cell? ⟨w.heap.size, 0, none⟩ = some (.float .f64 x) ∧ w'.cell? ⟨w.heap.size, 1, none⟩ = some (.float .f64 y) ∧ w'.cell? ⟨w.heap.size, 2, none⟩ = some (.float .f64 z)) [11] (by kernel_rfl) ?_ (fun hS => ?_)
  · exact ⟨k1, k2, k3⟩
  refine tails_take (T := [11]) (i := 0) (o := _) (x := ?_) rfl (by kernel_rfl) (by kernel_rfl) (by kernel_rfl) (by kernel_rfl) (fun _ _ _ h => h) (Or.inl ⟨by rfl, ?_⟩) (by assumption) ?_
  rotate_left; focus (intro w hSw; (try dsimp only at hSw); go_simp; first | done | with_reducible rfl)
  refine tails_take (T := [11]) (i := 1) (o := _) (x := ?_) rfl (by kernel_rfl) (by kernel_rfl) (by kernel_rfl) (by kernel_rfl) (fun _ _ _ h => h) (Or.inl ⟨by rfl, ?_⟩) (by assumption) ?_
  rotate_left; focus (intro w hSw; (try dsimp only at hSw); go_simp; first | done | with_reducible rfl)
  refine tails_take (T := [11]) (i := 3) (o := _) (x := ?_) rfl (by kernel_rfl) (by kernel_rfl) (by kernel_rfl) (by kernel_rfl) (fun _ _ _ h => h) (Or.inl ⟨by rfl, ?_⟩) (by assumption) ?_
  rotate_left; focus (intro w hSw; (try dsimp only at hSw); go_simp; first | done | with_reducible rfl)
  refine tails_take (T := [11]) (i := 4) (o := _) (x := ?_) rfl (by kernel_rfl) (by kernel_rfl) (by kernel_rfl) (by kernel_rfl) (fun _ _ _ h => h) (Or.inl ⟨by rfl, ?_⟩) (by assumption) ?_
  rotate_left; focus (intro w hSw; (try dsimp only at hSw); go_simp; first | done | with_reducible rfl)
  refine tails_take (T := [11]) (i := 6) (o := _) (x := ?_) rfl (by kernel_rfl) (by kernel_rfl) (by kernel_rfl) (by kernel_rfl) (fun _ _ _ h => h) (Or.inl ⟨by rfl, ?_⟩) (by assumption) ?_
  rotate_left; focus (intro w hSw; (try dsimp only at hSw); go_simp; first | done | with_reducible rfl)
  refine tails_take (T := [11]) (i := 7) (o := _) (x := ?_) rfl (by kernel_rfl) (by kernel_rfl) (by kernel_rfl) (by kernel_rfl) (fun _ _ _ h => h) (Or.inl ⟨by rfl, ?_⟩) (by assumption) ?_
  rotate_left; focus (intro w hSw; (try dsimp only at hSw); go_simp; first | done | with_reducible rfl)
  conv => arg 9; simp only [Act.put, go_sem]
  refine lat_4_1 (T := [11]) 2 5 8 9 10 [13, 16, 19, 20, 5] 1 (UnitJ w x y z w1.heap.size) (by kernel_rfl) (by kernel_rfl) ?_ ?_ ?_ ?_ ?_ ?_ ?_ ?_
  · intro A hA
    obtain ⟨y1, hq1⟩ := put_ex (hA 13 (by simp))
    obtain ⟨y2, hq2⟩ := put_ex (hA 16 (by simp))
    obtain ⟨y3, hq3⟩ := put_ex (hA 19 (by simp))
    obtain ⟨y4, hq4⟩ := put_ex (hA 20 (by simp))
    obtain ⟨z1, hq5⟩ := put_ex (hA 5 (by simp))
    exact ⟨y1, y2, y3, y4, z1, by rw [hq1, hq2, hq3, hq4, hq5], by omega, by omega, by omega, by omega, by simp, OwnF.start M.out 1⟩
  · rintro k p a v ⟨y1, y2, y3, y4, z1, _, _, _, _, _, _, h⟩
    exact (h.own.nth 2 rfl).three
  · intro p a v hJ
    refine op_step (o := _) rfl (fun K hK => ?_)
    obtain ⟨y1, y2, y3, y4, z1, rfl, gg1, h⟩ := UnitJ_0 hJ
    have h := Lib.hid h
    clear hJ
    go_simp
    refine (c1.out _ _ (h.out.own.nth 0 rfl)).mono ?_
    rintro rr w5 ⟨rfl, hp⟩
    try go_wp2_with fail
    refine hK.out _ _ ⟨.agg #[.float .f64 x, .float .f64 x], y2, y3, y4, z1, ?_, fun _ => rfl, by omega, by omega, by omega, gg1, h.out.putAt 0 rfl hp⟩
    kernel_rfl
  · intro p a v hJ
    refine op_step (o := _) rfl (fun K hK => ?_)
    obtain ⟨y2, y3, y4, z1, rfl, gg1, h⟩ := UnitJ_1 hJ
    have h := Lib.hid h
    clear hJ
    go_simp
    refine (c2.out _ _ (h.out.own.nth 0 rfl)).mono ?_
    rintro rr w5 ⟨rfl, hp⟩
    try go_wp2_with fail
    refine hK.out _ _ ⟨.agg #[.float .f64 x, .float .f64 x], .agg #[.float .f64 y, .float .f64 y], y3, y4, z1, ?_, fun _ => rfl, fun _ => rfl, by omega, by omega, gg1, h.out.putAt 0 rfl hp⟩
    kernel_rfl
  · intro p a v hJ
    refine op_step (o := _) rfl (fun K hK => ?_)
    obtain ⟨y3, y4, z1, rfl, gg1, h⟩ := UnitJ_2 hJ
    have h := Lib.hid h
    clear hJ
    go_simp
    refine (c3.out _ _ (h.out.own.nth 0 rfl)).mono ?_
    rintro rr w5 ⟨rfl, hp⟩
    try go_wp2_with fail
    refine hK.out _ _ ⟨.agg #[.float .f64 x, .float .f64 x], .agg #[.float .f64 y, .float .f64 y], .agg #[.float .f64 z, .float .f64 z], y4, z1, ?_, fun _ => rfl, fun _ => rfl, fun _ => rfl, by omega, gg1, h.out.putAt 0 rfl hp⟩
    kernel_rfl
  · intro p a v hJ
    refine op_step (o := _) rfl (fun K hK => ?_)
    obtain ⟨y4, z1, rfl, gg1, h⟩ := UnitJ_3 hJ
    have h := Lib.hid h
    clear hJ
    go_simp
    refine hK.out _ _ ⟨.agg #[.float .f64 x, .float .f64 x], .agg #[.float .f64 y, .float .f64 y], .agg #[.float .f64 z, .float .f64 z], .agg #[.float .f64 x, .float .f64 x, .float .f64 y, .float .f64 y, .float .f64 z, .float .f64 z], z1, ?_, fun _ => rfl, fun _ => rfl, fun _ => rfl, fun _ => rfl, gg1, h.out⟩
    kernel_rfl
  · intro k p a v hp hJ
    refine op_step (o := _) rfl (fun K hK => ?_)
    obtain ⟨y1, y2, y3, y4, z1, rfl, ee1, ee2, ee3, ee4, gg1, h⟩ := hJ
    have h := Lib.hid h
    go_simp
    refine hK.out _ _ ⟨v.heap.size, y1, y2, y3, y4, .pointer (some ⟨v.heap.size, 0, none⟩), ?_, ee1, ee2, ee3, ee4, fun q hq => ptr_set hq, h.out.alloc hp rfl _⟩
    kernel_rfl
  · intro pq1 a v hJ
    obtain ⟨rfl, h⟩ := UnitJ_fin hJ
    clear hJ
    replace M := Lib.hid h.fin1
    clear h
    refine tails_one (T := [11]) (i := 11) (o := _) rfl (by kernel_rfl) (fun K hK => ?_)
    have kc := (M.out.nth 0 rfl).2.1
    have kf := (M.out.nth 0 rfl).2.2
    replace M := Lib.hid (M.out.set6 0 rfl (.float .f64 x) (.float .f64 x) (.float .f64 y) (.float .f64 y) (.float .f64 z) (.float .f64 z))
    go_simp
    refine hK.out _ _ (Or.inl (by decide)) (fun hHeld => ?_)
    clear hK K hHeld kc kf
    refine tails_done (by kernel_rfl) ?_ _
    refine NoPanic.normal ?_
    obtain ⟨k1, k2, k3, k4, k5, k6⟩ := (M.out.nth 0 rfl).six
    go_wp2_with fail
    refine (cN.out _ _ (M.out.nth 1 rfl)).mono ?_
    rintro r w2 ⟨rfl, hp⟩
    replace M := Lib.hid ((M.out.putAt 1 rfl hp).made #[.float .f64 nl, .float .f64 nh] 27)
    clear hp
    obtain ⟨k1, k2, k3, k4, k5, k6⟩ := (M.out.nth 1 rfl).six
    go_wp2_with fail
    refine (cE.out _ _ _ (M.out.nth 2 rfl) (M.out.nth 0 rfl) (M.out.ne 2 0 rfl rfl (by decide))).mono ?_
    rintro r w3 ⟨rfl, hp⟩
    replace M := Lib.hid (M.out.putAt 2 rfl hp)
    clear hp
    have kc := (M.out.nth 3 rfl).2.1
    have kf := (M.out.nth 3 rfl).2.2
    replace M := Lib.hid (M.out.set6 3 rfl (.float .f64 ul) (.float .f64 uh) (.float .f64 vl) (.float .f64 vh) (.float .f64 tl) (.float .f64 th))
    go_wp2
    obtain ⟨f1, f2, f3, f4, f5, f6⟩ := (M.out.nth 3 rfl).six
    exact bodyPost_ret (v := .tuple #[.agg #[.float .f64 ul, .float .f64 uh, .float .f64 vl, .float .f64 vh, .float .f64 tl, .float .f64 th], .int .i64 0]) (by simp [results, Tryz.results11, go_sem, f1, f2, f3, f4, f5, f6]) rfl ⟨rfl, M.out.base⟩

end Go.Proofs.YthefgkgdadkgbaaGreat

namespace Go.Proofs.YthefgkgdadkgbaaGreat
open Go.RowKit
attribute [local go_sem] run_store_float

def at3 (x y z : Nat) : V3 := ⟨oneR x, oneR y, oneR z⟩
def unitPart (x : Nat) (n : Res) : Res := boundR (divR (oneR x) n)
def unitN (x y z : Nat) : Res := normV 0 (at3 x y z)
def unitV (x y z : Nat) : V3 := ⟨unitPart x (unitN x y z), unitPart y (unitN x y z), unitPart z (unitN x y z)⟩

def mostW (x y z : Nat) : Nat := maxW (maxW (rung x) (rung y)) (rung z)
def hasU (x y z : Nat) : Bool := rightB x && rightB y && rightB z && (leB 4318952042648305664 (mostW x y z) && leB (mostW x y z) 4895412794951729152)

theorem rung_right (x : Nat) (h : rightB x = true) : rung x < 18446744073709551616 ∧ rightB (rung x) = true := by
  have h1 := right_rung x h
  obtain ⟨p1, p2, _⟩ := pos_facts (rung x) h1
  exact ⟨p1, p2⟩
theorem hasUnit_any (x y z : Nat) (w : World) (lx : x < 18446744073709551616) (ly : y < 18446744073709551616) (lz : z < 18446744073709551616) :
    Calls Tryz.prog 29 #[.agg #[.float .f64 x, .float .f64 y, .float .f64 z]] w fun r w' => r = .returned (.bool (hasU x y z)) ∧ Below w.heap.size w w' := by
  have c1 := Lib.hid (fun w => right_any x w lx)
  have c2 := Lib.hid (fun w => right_any y w ly)
  have c3 := Lib.hid (fun w => right_any z w lz)
  cases h : (rightB x && rightB y && rightB z)
  · have e : hasU x y z = false := by unfold hasU; rw [h, Bool.false_and]
    rw [e]
    exact hasUnit_bad x y z _ _ _ w (Lib.hid h) c1 c2 c3
  · have e : hasU x y z = (leB 4318952042648305664 (mostW x y z) && leB (mostW x y z) 4895412794951729152) := by unfold hasU; rw [h, Bool.true_and]
    rw [e]
    rw [Bool.and_eq_true, Bool.and_eq_true] at h
    obtain ⟨⟨h1, h2⟩, h3⟩ := h
    rw [h1] at c1
    rw [h2] at c2
    rw [h3] at c3
    obtain ⟨p1, p2⟩ := rung_right x h1
    obtain ⟨q1, q2⟩ := rung_right y h2
    obtain ⟨s1, s2⟩ := rung_right z h3
    obtain ⟨m1, m2, _⟩ := max_facts _ _ p1 q1 p2 q2
    obtain ⟨n1, n2, _⟩ := max_facts _ _ m1 s1 m2 s2
    exact hasUnit_walk x y z (rung x) (rung y) (rung z) (mostW x y z) _ _ w c1 c2 c3 (Lib.hid fun w => abs_any x w lx) (Lib.hid fun w => abs_any y w ly) (Lib.hid fun w => abs_any z w lz) (fun ts t w => run_max3 _ _ _ p1 q1 s1 p2 q2 s2 ts t w) (order_le _ _ (by decide) n1 (by decide) n2) (order_le _ _ n1 (by decide) n2 (by decide))

theorem one_wd {x : Nat} (lx : x < 18446744073709551616) : Wd (oneR x) := ⟨lx, lx⟩
theorem unit_any (x y z : Nat) (w : World) (lx : x < 18446744073709551616) (ly : y < 18446744073709551616) (lz : z < 18446744073709551616) (hU : hasU x y z = true)
    (fN : Fit (unitN x y z)) (f1 : Fit (divR (oneR x) (unitN x y z))) (f2 : Fit (divR (oneR y) (unitN x y z))) (f3 : Fit (divR (oneR z) (unitN x y z))) :
    Calls Tryz.prog 11 #[.agg #[.float .f64 x, .float .f64 y, .float .f64 z]] w fun r w' => r = .returned (.tuple #[.agg #[.float .f64 (unitV x y z).x.lo, .float .f64 (unitV x y z).x.hi, .float .f64 (unitV x y z).y.lo, .float .f64 (unitV x y z).y.hi, .float .f64 (unitV x y z).z.lo, .float .f64 (unitV x y z).z.hi], .int .i64 0]) ∧ Below w.heap.size w w' := by
  have hR : (rightB x && rightB y && rightB z) = true := by
    unfold hasU at hU
    rw [Bool.and_eq_true] at hU
    exact hU.1
  rw [Bool.and_eq_true, Bool.and_eq_true] at hR
  obtain ⟨⟨h1, h2⟩, h3⟩ := hR
  have cU := fun w => hasUnit_any x y z w lx ly lz
  rw [hU] at cU
  have g1 := one_fit lx h1
  have g2 := one_fit ly h2
  have g3 := one_fit lz h3
  have meet : ∀ {q : Res}, Fit q → ∀ w, Calls Tryz.prog 33 #[.agg #[.float .f64 q.lo, .float .f64 q.hi], .agg #[.float .f64 13830554455654793216, .float .f64 4607182418800017408]] w fun r w' => r = .returned (.tuple #[.agg #[.float .f64 (boundR q).lo, .float .f64 (boundR q).hi], .bool (bothB q.lo q.hi m1 u1)]) ∧ Below w.heap.size w w' := fun fq w =>
    meet_any _ _ m1 u1 w fq.lo fq.hi (by decide) (by decide) fq.rlo fq.rhi (by decide) (by decide)
  have A : ∀ {p : Nat} (pb lp : Nat) (v : World), Fit (oneR p) → Fit (divR (oneR p) (unitN x y z)) → Has1 v (pb, #[.int .i64 0]) → Has1 v (lp, #[.float .f64 (unitN x y z).lo, .float .f64 (unitN x y z).hi]) → pb ≠ lp →
      Calls Tryz.prog 32 #[.agg #[.float .f64 p, .float .f64 p], .pointer (some ⟨pb, 0, none⟩), .pointer (some ⟨lp, 0, none⟩)] v fun r w' => r = .returned (.agg #[.float .f64 (unitPart p (unitN x y z)).lo, .float .f64 (unitPart p (unitN x y z)).hi]) ∧ Put ⟨pb, 0, none⟩ (.int .i64 0) v w' := fun pb lp v fp fd hC hL n1 =>
    unitLit_walk _ _ _ _ _ _ _ _ _ 0 0 pb lp v hC hL n1 (Lib.hid (calc_div fp fN fd pb)) (Lib.hid (meet fd))
  have hN := fun pb => norm_any (a := at3 x y z) 0 ⟨one_wd lx, one_wd ly, one_wd lz⟩ pb
  have eN : (normV 0 (at3 x y z)).e = 0 := fN.e
  rw [eN] at hN
  exact unit_walk x y z (unitN x y z).lo (unitN x y z).hi _ _ _ _ _ _ w (Lib.hid cU) (Lib.hid fun pb => calc_num g1 pb) (Lib.hid fun pb => calc_num g2 pb) (Lib.hid fun pb => calc_num g3 pb) (Lib.hid fun pb => hN pb)
    (Lib.hid fun pb lp v hC hL n1 => each_unit _ _ _ _ _ _ _ _ _ _ _ _ _ _ 0 0 0 0 pb lp v hC hL n1 (Lib.hid fun v hC hL n1 => A pb lp v g1 f1 hC hL n1) (Lib.hid fun v hC hL n1 => A pb lp v g2 f2 hC hL n1) (Lib.hid fun v hC hL n1 => A pb lp v g3 f3 hC hL n1))
end Go.Proofs.YthefgkgdadkgbaaGreat

namespace Go.Proofs.YthefgkgdadkgbaaGreat
open Go.RowKit
attribute [local go_sem] run_store_float

end Go.Proofs.YthefgkgdadkgbaaGreat

namespace Go.Proofs.YthefgkgdadkgbaaGreat
open Go.RowKit

def boxS : Res := ⟨0, 14118784831806504960, 4895412794951729152⟩
def boxP : Res := ⟨0, 4318952042648305664, 4895412794951729152⟩
def boxM : Res := ⟨0, 14118784831806504960, 13542324079503081472⟩
theorem boxS_fit : Fit boxS := .of (by decide +kernel)
theorem boxP_fit : Fit boxP := .of (by decide +kernel)
theorem boxM_fit : Fit boxM := .of (by decide +kernel)
theorem unit_box {A : V3} (fA : FitV A) (h : (normV 0 A).e = 0) (hd : (divR boxS (normV 0 A)).e = 0) {x y z : Nat} (i : InV (at3 x y z) A) (wx : In (oneR x) boxS) (wy : In (oneR y) boxS) (wz : In (oneR z) boxS) :
    Fit (unitN x y z) ∧ Fit (divR (oneR x) (unitN x y z)) ∧ Fit (divR (oneR y) (unitN x y z)) ∧ Fit (divR (oneR z) (unitN x y z)) := by
  obtain ⟨fN, iN⟩ := normV_in h rfl i fA
  exact ⟨iN.fit, (div_in wx boxS_fit iN fN hd).fit, (div_in wy boxS_fit iN fN hd).fit, (div_in wz boxS_fit iN fN hd).fit⟩
theorem val_side {x : Nat} (rx : rightB x = true) : 0 ≤ val (rung x) ∧ (val x = val (rung x) ∨ val x = -val (rung x)) := by
  obtain ⟨_, _, _, _, p5⟩ := pos_facts (rung x) (right_rung x rx)
  rw [p5]
  refine ⟨by omega, ?_⟩
  cases hs : sgnB x
  · exact Or.inl (val_pos hs)
  · exact Or.inr (val_negs hs)
theorem bigs : val 14118784831806504960 = -val 4895412794951729152 ∧ val 13542324079503081472 = -val 4318952042648305664 ∧ 0 < val 4318952042648305664 := by decide +kernel
theorem in_S {x : Nat} (lx : x < 18446744073709551616) (rx : rightB x = true) (h : val (rung x) ≤ val 4895412794951729152) : In (oneR x) boxS := by
  obtain ⟨s1, s2⟩ := val_side rx
  obtain ⟨b1, b2, b3⟩ := bigs
  refine ⟨one_fit lx rx, ?_, ?_⟩
  · show val 14118784831806504960 ≤ val x
    rw [b1]; omega
  · show val x ≤ val 4895412794951729152
    omega
theorem in_PM {x : Nat} (lx : x < 18446744073709551616) (rx : rightB x = true) (h : val (rung x) ≤ val 4895412794951729152) (g : val 4318952042648305664 ≤ val (rung x)) : In (oneR x) boxP ∨ In (oneR x) boxM := by
  obtain ⟨s1, s2⟩ := val_side rx
  obtain ⟨b1, b2, b3⟩ := bigs
  rcases s2 with s | s
  · refine Or.inl ⟨one_fit lx rx, ?_, ?_⟩
    · show val 4318952042648305664 ≤ val x
      omega
    · show val x ≤ val 4895412794951729152
      omega
  · refine Or.inr ⟨one_fit lx rx, ?_, ?_⟩
    · show val 14118784831806504960 ≤ val x
      rw [b1]; omega
    · show val x ≤ val 13542324079503081472
      rw [b2]; omega
theorem most_val {x y z : Nat} (h1 : rightB x = true) (h2 : rightB y = true) (h3 : rightB z = true) : mostW x y z < 18446744073709551616 ∧ rightB (mostW x y z) = true ∧ val (mostW x y z) = max (max (val (rung x)) (val (rung y))) (val (rung z)) := by
  obtain ⟨p1, p2⟩ := rung_right x h1
  obtain ⟨q1, q2⟩ := rung_right y h2
  obtain ⟨s1, s2⟩ := rung_right z h3
  obtain ⟨m1, m2, m3⟩ := max_facts _ _ p1 q1 p2 q2
  obtain ⟨n1, n2, n3⟩ := max_facts _ _ m1 s1 m2 s2
  refine ⟨n1, n2, ?_⟩
  show val (maxW (maxW (rung x) (rung y)) (rung z)) = _
  rw [n3, m3]
theorem unit_fits (x y z : Nat) (lx : x < 18446744073709551616) (ly : y < 18446744073709551616) (lz : z < 18446744073709551616) (hU : hasU x y z = true) :
    Fit (unitN x y z) ∧ Fit (divR (oneR x) (unitN x y z)) ∧ Fit (divR (oneR y) (unitN x y z)) ∧ Fit (divR (oneR z) (unitN x y z)) := by
  unfold hasU leB at hU
  simp only [Bool.and_eq_true, decide_eq_true_eq] at hU
  obtain ⟨⟨⟨h1, h2⟩, h3⟩, g1, g2⟩ := hU
  obtain ⟨_, _, mv⟩ := most_val h1 h2 h3
  rw [mv] at g1 g2
  have wx := in_S lx h1 (by omega)
  have wy := in_S ly h2 (by omega)
  have wz := in_S lz h3 (by omega)
  have big : val 4318952042648305664 ≤ val (rung x) ∨ val 4318952042648305664 ≤ val (rung y) ∨ val 4318952042648305664 ≤ val (rung z) := by omega
  rcases big with g | g | g
  · rcases in_PM lx h1 (by omega) g with i | i
    · exact unit_box (A := ⟨boxP, boxS, boxS⟩) ⟨boxP_fit, boxS_fit, boxS_fit⟩ (by decide +kernel) (by decide +kernel) ⟨i, wy, wz⟩ wx wy wz
    · exact unit_box (A := ⟨boxM, boxS, boxS⟩) ⟨boxM_fit, boxS_fit, boxS_fit⟩ (by decide +kernel) (by decide +kernel) ⟨i, wy, wz⟩ wx wy wz
  · rcases in_PM ly h2 (by omega) g with i | i
    · exact unit_box (A := ⟨boxS, boxP, boxS⟩) ⟨boxS_fit, boxP_fit, boxS_fit⟩ (by decide +kernel) (by decide +kernel) ⟨wx, i, wz⟩ wx wy wz
    · exact unit_box (A := ⟨boxS, boxM, boxS⟩) ⟨boxS_fit, boxM_fit, boxS_fit⟩ (by decide +kernel) (by decide +kernel) ⟨wx, i, wz⟩ wx wy wz
  · rcases in_PM lz h3 (by omega) g with i | i
    · exact unit_box (A := ⟨boxS, boxS, boxP⟩) ⟨boxS_fit, boxS_fit, boxP_fit⟩ (by decide +kernel) (by decide +kernel) ⟨wx, wy, i⟩ wx wy wz
    · exact unit_box (A := ⟨boxS, boxS, boxM⟩) ⟨boxS_fit, boxS_fit, boxM_fit⟩ (by decide +kernel) (by decide +kernel) ⟨wx, wy, i⟩ wx wy wz

end Go.Proofs.YthefgkgdadkgbaaGreat

namespace Go.Proofs.YthefgkgdadkgbaaGreat
open Go.RowKit

theorem norm_parts {A : V3} (h : (normV 0 A).e = 0) :
    (sqrR A.x).e = 0 ∧ (sqrR A.y).e = 0 ∧ (sqrR A.z).e = 0 ∧ (addR (sqrR A.x) (sqrR A.y)).e = 0 ∧ (addR (addR (sqrR A.x) (sqrR A.y)) (sqrR A.z)).e = 0 ∧ (sqrtR (addR (addR (sqrR A.x) (sqrR A.y)) (sqrR A.z))).e = 0 ∧
      normV 0 A = sqrtR (addR (addR (sqrR A.x) (sqrR A.y)) (sqrR A.z)) := by
  obtain ⟨h5, _, q6⟩ := st_none (show (stR (nrm5 0 A).e (nrm5 0 A)).e = 0 from h)
  obtain ⟨h4, _, q5⟩ := st_none (show (stA (nrm4 0 A).e (nrm3 0 A) (nrm4 0 A)).e = 0 from h5)
  obtain ⟨h3, _, q4⟩ := st_none (show (stQ (nrm3 0 A).e A.z).e = 0 from h4)
  obtain ⟨h2, _, q3⟩ := st_none (show (stA (nrm2 0 A).e (nrm1 0 A) (nrm2 0 A)).e = 0 from h3)
  obtain ⟨h1, _, q2⟩ := st_none (show (stQ (nrm1 0 A).e A.y).e = 0 from h2)
  obtain ⟨_, _, q1⟩ := st_none (show (stQ 0 A.x).e = 0 from h1)
  have k1 : nrm1 0 A = sqrR A.x := q1
  have k2 : nrm2 0 A = sqrR A.y := q2
  have k3 : nrm3 0 A = addR (nrm1 0 A) (nrm2 0 A) := q3
  have k4 : nrm4 0 A = sqrR A.z := q4
  have k5 : nrm5 0 A = addR (nrm3 0 A) (nrm4 0 A) := q5
  have k6 : normV 0 A = sqrtR (nrm5 0 A) := q6
  rw [k1, k2] at k3
  rw [k3, k4] at k5
  rw [k5] at k6
  rw [k1] at h1
  rw [k2] at h2
  rw [k3] at h3
  rw [k4] at h4
  rw [k5] at h5
  rw [k6] at h
  exact ⟨h1, h2, h4, h3, h5, h, k6⟩

theorem norm_squares {A : V3} (fA : FitV A) (h : (normV 0 A).e = 0) {a b c a' b' c' : Int} (ha : val (sqrR A.x).lo * SS ≤ a) (hb : val (sqrR A.y).lo * SS ≤ b) (hc : val (sqrR A.z).lo * SS ≤ c)
    (ha' : a' ≤ val (sqrR A.x).hi * SS) (hb' : b' ≤ val (sqrR A.y).hi * SS) (hc' : c' ≤ val (sqrR A.z).hi * SS) :
    0 ≤ val (normV 0 A).lo ∧ val (normV 0 A).lo * val (normV 0 A).lo ≤ a + b + c ∧ a' + b' + c' ≤ val (normV 0 A).hi * val (normV 0 A).hi := by
  obtain ⟨e1, e2, e3, e4, e5, e6, eN⟩ := norm_parts h
  have f1 := sqr_fit fA.x e1
  have f2 := sqr_fit fA.y e2
  have f3 := sqr_fit fA.z e3
  have f4 := add_fit f1 f2 e4
  have f5 := add_fit f4 f3 e5
  obtain ⟨d4, u4⟩ := add_parts f1 f2 e4
  obtain ⟨d5, u5⟩ := add_parts f4 f3 e5
  obtain ⟨_, ⟨n1, n2, _⟩, ⟨_, n5, _⟩⟩ := sqrt_parts f5 e6
  obtain ⟨_, _, d4, _⟩ := d4.ok
  obtain ⟨_, _, u4, _⟩ := u4.ok
  obtain ⟨_, _, d5, _⟩ := d5.ok
  obtain ⟨_, _, u5, _⟩ := u5.ok
  rw [eN]
  refine ⟨n1, Int.le_trans n2 ?_, Int.le_trans ?_ n5⟩
  · have := Int.mul_le_mul_of_nonneg_right (show val (addR (addR (sqrR A.x) (sqrR A.y)) (sqrR A.z)).lo ≤ val (sqrR A.x).lo + val (sqrR A.y).lo + val (sqrR A.z).lo by omega) ss_pos
    rw [Int.add_mul, Int.add_mul] at this
    omega
  · have := Int.mul_le_mul_of_nonneg_right (show val (sqrR A.x).hi + val (sqrR A.y).hi + val (sqrR A.z).hi ≤ val (addR (addR (sqrR A.x) (sqrR A.y)) (sqrR A.z)).hi by omega) ss_pos
    rw [Int.add_mul, Int.add_mul] at this
    omega

theorem norm_wide {x y z : Nat} (lx : x < 18446744073709551616) (ly : y < 18446744073709551616) (lz : z < 18446744073709551616) (rx : rightB x = true) (ry : rightB y = true) (rz : rightB z = true)
    (fN : Fit (unitN x y z)) {j : Nat} {G : Int} (hG : G = ((2 ^ j : Nat) : Int)) (j1 : 600 ≤ j) (j2 : j ≤ 1400) (g1 : 4503599627370496 * G ≤ val (unitN x y z).hi) (g2 : val (unitN x y z).hi < 9007199254740992 * G) :
    val (unitN x y z).hi - val (unitN x y z).lo < 13 * G := by
  have h : (normV 0 (at3 x y z)).e = 0 := fN.e
  obtain ⟨e1, e2, e3, e4, e5, e6, eN⟩ := norm_parts h
  have eN' : unitN x y z = sqrtR (addR (addR (sqrR (oneR x)) (sqrR (oneR y))) (sqrR (oneR z))) := eN
  have fx := one_fit lx rx
  have fy := one_fit ly ry
  have fz := one_fit lz rz
  have e1 : (sqrR (oneR x)).e = 0 := e1
  have e2 : (sqrR (oneR y)).e = 0 := e2
  have e3 : (sqrR (oneR z)).e = 0 := e3
  have e4 : (addR (sqrR (oneR x)) (sqrR (oneR y))).e = 0 := e4
  have e5 : (addR (addR (sqrR (oneR x)) (sqrR (oneR y))) (sqrR (oneR z))).e = 0 := e5
  have e6 : (sqrtR (addR (addR (sqrR (oneR x)) (sqrR (oneR y))) (sqrR (oneR z)))).e = 0 := e6
  clear eN h
  obtain ⟨dx, ux⟩ := sqr_one lx rx e1
  obtain ⟨dy, uy⟩ := sqr_one ly ry e2
  obtain ⟨dz, uz⟩ := sqr_one lz rz e3
  have f1 := sqr_fit fx e1
  have f2 := sqr_fit fy e2
  have f3 := sqr_fit fz e3
  generalize sqrR (oneR x) = q1 at *
  generalize sqrR (oneR y) = q2 at *
  generalize sqrR (oneR z) = q3 at *
  have f4 := add_fit f1 f2 e4
  have f5 := add_fit f4 f3 e5
  obtain ⟨d4, u4⟩ := add_parts f1 f2 e4
  obtain ⟨d5, u5⟩ := add_parts f4 f3 e5
  have fN' := fN
  rw [eN'] at g1 g2 fN' ⊢
  generalize addR q1 q2 = s1 at *
  generalize addR s1 q3 = s at *
  obtain ⟨_, ⟨n1, _, _⟩, ⟨n4, n5, _⟩⟩ := sqrt_parts f5 e6
  have p0 : 0 < G := by rw [hG]; exact Int.natCast_pos.2 (Nat.two_pow_pos j)
  have lN := fN'.le
  obtain ⟨r1, r2⟩ := root_gaps f5 e6 (by omega) (by omega) hG (by omega) g2 (by omega)
  -- the spacing of the squares
  obtain ⟨k, hk⟩ : ∃ k : Nat, k + 1074 = 53 + 2 * j := ⟨53 + 2 * j - 1074, by omega⟩
  obtain ⟨E, hE⟩ : ∃ E : Int, E = ((2 ^ k : Nat) : Int) := ⟨_, rfl⟩
  have ES : E * SS = 9007199254740992 * (G * G) := by
    have hn : 2 ^ k * 2 ^ sq = 9007199254740992 * (2 ^ j * 2 ^ j) := by
      rw [show (9007199254740992 : Nat) = 2 ^ 53 by decide, ← Nat.pow_add, ← Nat.pow_add, ← Nat.pow_add, sq_eq, hk]
      congr 1; omega
    rw [hE, hG]
    show ((2 ^ k : Nat) : Int) * ((2 ^ sq : Nat) : Int) = _
    rw [← Int.natCast_mul, hn, Int.natCast_mul, Int.natCast_mul]
    rfl
  have E0 : 0 < E := by rw [hE]; exact Int.natCast_pos.2 (Nat.two_pow_pos k)
  have S0 : 0 < SS := Int.natCast_pos.2 (Nat.two_pow_pos sq)
  -- nothing is below 0
  have z1 : 0 ≤ val q1.lo := by
    have := dx.ok.2.2.2 0 (by decide) right_0 (by rw [val_nil, Int.zero_mul]; exact self_nonneg _)
    rw [val_nil] at this; exact this
  have z2 : 0 ≤ val q2.lo := by
    have := dy.ok.2.2.2 0 (by decide) right_0 (by rw [val_nil, Int.zero_mul]; exact self_nonneg _)
    rw [val_nil] at this; exact this
  have z3 : 0 ≤ val q3.lo := by
    have := dz.ok.2.2.2 0 (by decide) right_0 (by rw [val_nil, Int.zero_mul]; exact self_nonneg _)
    rw [val_nil] at this; exact this
  have z4 : 0 ≤ val s1.lo := by
    have := d4.ok.2.2.2 0 (by decide) right_0 (by rw [val_nil]; omega)
    rw [val_nil] at this; exact this
  have l1 := f1.le
  have l2 := f2.le
  have l3 := f3.le
  have l4 := f4.le
  have l5 := f5.le
  have o4 := u4.ok.2.2.1
  have o5 := u5.ok.2.2.1
  have z5 : 0 ≤ val s.lo := by
    have := d5.ok.2.2.2 0 (by decide) right_0 (by rw [val_nil]; omega)
    rw [val_nil] at this; exact this
  -- the greatest sum is below 2^53 spacings
  have top : val s.hi < 9007199254740992 * E := by
    refine Int.lt_of_mul_lt_mul_right ?_ (Int.le_of_lt S0)
    refine Int.lt_of_le_of_lt n5 ?_
    rw [Int.mul_assoc, ES]
    have a1 : val (sqrtR s).hi * val (sqrtR s).hi ≤ val (sqrtR s).hi * (9007199254740992 * G) := Int.mul_le_mul_of_nonneg_left (by omega) n4
    have a2 : val (sqrtR s).hi * (9007199254740992 * G) < 9007199254740992 * G * (9007199254740992 * G) := Int.mul_lt_mul_of_pos_right g2 (by omega)
    have a3 : 9007199254740992 * G * (9007199254740992 * G) = 9007199254740992 * (9007199254740992 * (G * G)) := by grind
    omega
  have k1 : 53 ≤ k := by omega
  have k2 : k ≤ 1899 := by omega
  have sp : 0 < 2 ^ sq := Nat.two_pow_pos sq
  have b1 := up_mul ux k1 k2 sp hE (by omega) (by omega)
  have b2 := up_mul uy k1 k2 sp hE (by omega) (by omega)
  have b3 := up_mul uz k1 k2 sp hE (by omega) (by omega)
  have b4 := up_mul u4 k1 k2 (by decide) hE (by omega) (by omega)
  have b5 := up_mul u5 k1 k2 (by decide) hE (by omega) (by omega)
  have c1 := down_mul dx k1 k2 sp hE z1 (by omega)
  have c2 := down_mul dy k1 k2 sp hE z2 (by omega)
  have c3 := down_mul dz k1 k2 sp hE z3 (by omega)
  have c4 := down_mul d4 k1 k2 (by decide) hE z4 (by omega)
  have c5 := down_mul d5 k1 k2 (by decide) hE z5 (by omega)
  have b1 : val q1.hi * SS < val x * val x + E * SS := b1
  have b2 : val q2.hi * SS < val y * val y + E * SS := b2
  have b3 : val q3.hi * SS < val z * val z + E * SS := b3
  have c1 : val x * val x < val q1.lo * SS + E * SS := c1
  have c2 : val y * val y < val q2.lo * SS + E * SS := c2
  have c3 : val z * val z < val q3.lo * SS + E * SS := c3
  have t1 : val s.hi * SS ≤ (val q1.hi + val q2.hi + val q3.hi + 2 * E) * SS := Int.mul_le_mul_of_nonneg_right (by omega) (by omega)
  have t2 : (val q1.lo + val q2.lo + val q3.lo) * SS ≤ (val s.lo + 2 * E) * SS := Int.mul_le_mul_of_nonneg_right (by omega) (by omega)
  rw [Int.add_mul, Int.add_mul, Int.add_mul, Int.mul_assoc] at t1
  rw [Int.add_mul, Int.add_mul, Int.add_mul, Int.mul_assoc] at t2
  have wide : val s.hi * SS < val s.lo * SS + 90071992547409920 * (G * G) := by omega
  have := gap_roots (a := val (sqrtR s).hi - G) (b := val (sqrtR s).lo + G) p0 (by omega) (by omega) (by omega)
  omega

end Go.Proofs.YthefgkgdadkgbaaGreat

namespace Go.Proofs.YthefgkgdadkgbaaGreat
open Go.RowKit

theorem log_size {n t u : Nat} (h1 : 2 ^ t ≤ n) (h2 : n < 2 ^ u) (ht : 52 ≤ t) : ∃ j : Nat, t ≤ j + 52 ∧ j + 52 < u ∧ 4503599627370496 * 2 ^ j ≤ n ∧ n < 9007199254740992 * 2 ^ j := by
  have h0 : n ≠ 0 := by have := Nat.two_pow_pos t; omega
  have l1 : 2 ^ n.log2 ≤ n := Nat.log2_self_le h0
  have l2 : n < 2 ^ (n.log2 + 1) := Nat.lt_log2_self
  have a1 : t < n.log2 + 1 := (Nat.pow_lt_pow_iff_right (by decide : 1 < 2)).1 (by omega)
  have a2 : n.log2 < u := (Nat.pow_lt_pow_iff_right (by decide : 1 < 2)).1 (by omega)
  obtain ⟨j, hj⟩ : ∃ j, n.log2 = j + 52 := ⟨n.log2 - 52, by omega⟩
  rw [hj] at l1 l2 a1 a2
  refine ⟨j, by omega, a2, ?_, ?_⟩
  · rw [Nat.pow_add] at l1; rw [Nat.mul_comm]; exact l1
  · rw [show j + 52 + 1 = j + 53 by omega, Nat.pow_add] at l2; rw [Nat.mul_comm]; exact l2

theorem part_wide {dl dh D G lo hi T : Int} (hD : 0 < D) (hG : 0 < G) (h1 : (dh - D) * lo < T) (h2 : T < (dl + D) * hi) (_d0 : 0 ≤ dl) (d1 : dl ≤ 4503599627370496 * D) (w : hi - lo < 13 * G) (g : 4503599627370496 * G ≤ hi) (l : lo ≤ hi) : dh - dl < 16 * D := by
  rcases Int.lt_or_le (dh - dl) (16 * D) with c | c
  · exact c
  · exfalso
    have a1 : (dl + 15 * D) * lo ≤ (dh - D) * lo := Int.mul_le_mul_of_nonneg_right (by omega) (by omega)
    have a2 : (dl + D) * hi = (dl + D) * lo + (dl + D) * (hi - lo) := by grind
    have a3 : (dl + 15 * D) * lo = (dl + D) * lo + 14 * (D * lo) := by grind
    have a4 : (dl + D) * (hi - lo) ≤ (4503599627370497 * D) * (hi - lo) := Int.mul_le_mul_of_nonneg_right (by omega) (by omega)
    have a5 : (4503599627370497 * D) * (hi - lo) ≤ (4503599627370497 * D) * (13 * G) := Int.mul_le_mul_of_nonneg_left (by omega) (by omega)
    have a6 : (4503599627370497 * D) * (13 * G) = 58546795155816461 * (D * G) := by grind
    have a7 : D * (4503599627370483 * G) ≤ D * lo := Int.mul_le_mul_of_nonneg_left (by omega) (by omega)
    have a8 : D * (4503599627370483 * G) = 4503599627370483 * (D * G) := by grind
    have a9 : 0 < D * G := Int.mul_pos hD hG
    generalize D * G = u at *
    generalize D * lo = v at *
    omega

def DD : Int := ((2 ^ 1022 : Nat) : Int)
theorem dd_pos : 0 < DD := Int.natCast_pos.2 (Nat.two_pow_pos 1022)
theorem ss_pow {k : Nat} (hk : k + 52 = sq) : SS = 4503599627370496 * ((2 ^ k : Nat) : Int) := by
  have h : (2 ^ sq : Nat) = 4503599627370496 * 2 ^ k := by
    rw [← hk, Nat.pow_add, Nat.mul_comm]
  show ((2 ^ sq : Nat) : Int) = _
  rw [h, Int.natCast_mul]; rfl
theorem ss_dd : SS = 4503599627370496 * DD := by
  have h := ss_pow (k := 1022) (by rw [sq_eq])
  unfold DD
  exact h
theorem ones : val u1 = SS ∧ val m1 = -SS ∧ val 4611686018427387904 = 2 * SS ∧ val 13835058055282163712 = -(2 * SS) := by decide +kernel

structure PartOf (x : Nat) (n p : Res) (m M : Int) : Prop where
  low : 0 ≤ m
  le : m ≤ M
  top : M ≤ SS
  under : ∃ a : Int, (a = val x ∨ a = -val x) ∧ 0 ≤ a ∧ m * val n.hi ≤ a * SS ∧ (M = SS ∨ a * SS ≤ M * val n.lo)
  wide : M - m ≤ 16 * DD
  side : (0 ≤ val x ∧ val p.lo = m ∧ val p.hi = M) ∨ (val x ≤ 0 ∧ val p.lo = -M ∧ val p.hi = -m)
  nil : val x = 0 → M = 0

theorem bound_ends {r : Res} (f : Fit r) (h1 : val r.lo ≤ SS) (h2 : -SS ≤ val r.hi) : val (boundR r).lo = max (val r.lo) (-SS) ∧ val (boundR r).hi = min (val r.hi) SS := by
  obtain ⟨x1, x2, x3⟩ := max_facts r.lo m1 f.lo (by decide) f.rlo (by decide)
  obtain ⟨y1, y2, y3⟩ := min_facts r.hi u1 f.hi (by decide) f.rhi (by decide)
  obtain ⟨o1, o2, _, _⟩ := ones
  have l := f.le
  have s0 : 0 ≤ SS := ss_pos
  have hb : bothB r.lo r.hi m1 u1 = true := by
    unfold bothB leB
    refine decide_eq_true ?_
    rw [x3, y3, o1, o2]; omega
  have e1 : (boundR r).lo = maxW r.lo m1 := by
    show (if bothB r.lo r.hi m1 u1 then maxW r.lo m1 else 0) = _
    rw [if_pos hb]
  have e2 : (boundR r).hi = minW r.hi u1 := by
    show (if bothB r.lo r.hi m1 u1 then minW r.hi u1 else 0) = _
    rw [if_pos hb]
  rw [e1, e2, x3, y3, o1, o2]
  exact ⟨rfl, rfl⟩

theorem part_of {x : Nat} {n : Res} (rx : rightB x = true) (fn : Fit n) (hn : 0 < val n.lo) (fd : Fit (divR (oneR x) n)) (h1 : val x ≤ val n.hi) (h2 : -val x ≤ val n.hi) {G : Int} (hG : 0 < G) (w : val n.hi - val n.lo < 13 * G) (g : 4503599627370496 * G ≤ val n.hi) :
    ∃ m M : Int, PartOf x n (unitPart x n) m M := by
  obtain ⟨s, t, s0, t0, es, et, d, u⟩ := div_parts rx fn hn fd.e
  obtain ⟨o1, o2, o3, o4⟩ := ones
  have l := fn.le
  have S0 : 0 ≤ SS := ss_pos
  have hS := ss_dd
  have hD := dd_pos
  have lR := fd.le
  have b1022 : (53 : Nat) ≤ 1022 ∧ (1022 : Nat) ≤ 1899 := by decide
  have dle := d.ok.2.2.1
  have ule := u.ok.2.2.1
  have dbest := d.ok.2.2.2
  have ubest := u.ok.2.2.2
  have ug := fun h1 h2 => up_gap b1022.1 b1022.2 t0 u h1 h2
  have dg := fun h1 h2 => down_gap b1022.1 b1022.2 s0 d h1 h2
  have eD : ((2 ^ 1022 : Nat) : Int) = DD := rfl
  rw [eD] at ug dg
  have sp : (0 : Int) < s := Int.natCast_pos.2 s0
  have tp : (0 : Int) < t := Int.natCast_pos.2 t0
  have be := fun h1 h2 => bound_ends fd h1 h2
  have ep : unitPart x n = boundR (divR (oneR x) n) := rfl
  rw [ep]
  generalize boundR (divR (oneR x) n) = p at *
  generalize divR (oneR x) n = q at *
  clear d u fd ep
  rcases Int.le_total 0 (val x) with c | c
  · rw [if_pos c] at es et
    rw [es] at dle dbest dg sp
    rw [et] at ule ubest ug tp
    have xs : 0 ≤ val x * SS := Int.mul_nonneg c S0
    have q0 : 0 ≤ val q.lo := by
      have := dbest 0 (by decide) right_0 (by rw [val_nil, Int.zero_mul]; exact xs)
      rw [val_nil] at this; exact this
    have q1 : val q.lo ≤ SS := by
      refine Int.le_of_mul_le_mul_right (Int.le_trans dle ?_) sp
      rw [Int.mul_comm SS]; exact Int.mul_le_mul_of_nonneg_right h1 S0
    have q2 : val q.hi ≤ 2 * SS := by
      rw [← o3]
      refine ubest _ (by decide) (by decide) ?_
      rw [o3]
      have k1 : val x * SS ≤ (2 * val n.lo) * SS := Int.mul_le_mul_of_nonneg_right (by omega) S0
      have k2 : 2 * SS * val n.lo = (2 * val n.lo) * SS := by grind
      omega
    have wide := part_wide hD hG (ug (by omega) (by omega)) (dg (by omega) (by omega)) q0 (by omega) w g l
    obtain ⟨p1, p2⟩ := be q1 (by omega)
    have nil : val x = 0 → val q.hi ≤ 0 := fun hx => by
      have := ubest 0 (by decide) right_0 (by rw [hx, val_nil, Int.zero_mul, Int.zero_mul]; exact Int.le_refl _)
      rw [val_nil] at this; exact this
    refine ⟨val q.lo, min (val q.hi) SS, ⟨q0, by omega, by omega, ⟨val x, Or.inl rfl, c, dle, ?_⟩, by omega, Or.inl ⟨c, by omega, p2⟩, fun hx => by have := nil hx; omega⟩⟩
    rcases Int.le_total SS (val q.hi) with g | g
    · exact Or.inl (by omega)
    · right
      rw [Int.min_eq_left g]; exact ule
  · have es' : (s : Int) = val n.lo ∨ val x = 0 := by
      rcases Int.lt_or_le (val x) 0 with k | k
      · rw [if_neg (by omega)] at es; exact Or.inl es
      · exact Or.inr (by omega)
    rcases es' with es' | hx
    · rcases Int.lt_or_le (val x) 0 with k | k
      · rw [if_neg (by omega)] at es et
        rw [es] at dle dbest dg sp
        rw [et] at ule ubest ug tp
        have xs : val x * SS ≤ 0 := Int.mul_nonpos_of_nonpos_of_nonneg c S0
        have q0 : val q.hi ≤ 0 := by
          have := ubest 0 (by decide) right_0 (by rw [val_nil, Int.zero_mul]; exact xs)
          rw [val_nil] at this; exact this
        have nx : -val x * SS = -(val x * SS) := Int.neg_mul _ _
        have q1 : -SS ≤ val q.hi := by
          have k1 : -val x * SS ≤ val n.hi * SS := Int.mul_le_mul_of_nonneg_right h2 S0
          have k2 : -val q.hi * val n.hi ≤ SS * val n.hi := by
            rw [Int.neg_mul, Int.mul_comm SS]; omega
          have := Int.le_of_mul_le_mul_right k2 tp
          omega
        have q2 : -(2 * SS) ≤ val q.lo := by
          rw [← o4]
          refine dbest _ (by decide) (by decide) ?_
          rw [o4]
          have k1 : -val x * SS ≤ (2 * val n.lo) * SS := Int.mul_le_mul_of_nonneg_right (by omega) S0
          have k2 : -(2 * SS) * val n.lo = -((2 * val n.lo) * SS) := by grind
          omega
        have g1 := ug (by omega) (by omega)
        have g2 := dg (by omega) (by omega)
        have k1 : (-val q.lo - DD) * val n.lo < -(val x * SS) := by
          have : (-val q.lo - DD) * val n.lo = -((val q.lo + DD) * val n.lo) := by grind
          omega
        have k2 : -(val x * SS) < (-val q.hi + DD) * val n.hi := by
          have : (-val q.hi + DD) * val n.hi = -((val q.hi - DD) * val n.hi) := by grind
          omega
        have wide := part_wide hD hG k1 k2 (by omega) (by omega) w g l
        obtain ⟨p1, p2⟩ := be (by omega) q1
        have m1 : -val q.hi * val n.hi = -(val q.hi * val n.hi) := Int.neg_mul _ _
        have m2 : -val q.lo * val n.lo = -(val q.lo * val n.lo) := Int.neg_mul _ _
        refine ⟨-val q.hi, min (-val q.lo) SS, ⟨by omega, by omega, by omega, ⟨-val x, Or.inr rfl, by omega, by omega, ?_⟩, by omega, Or.inr ⟨c, by omega, by omega⟩, fun hx => by omega⟩⟩
        rcases Int.le_total SS (-val q.lo) with g | g
        · exact Or.inl (by omega)
        · right
          rw [Int.min_eq_left g]; omega
      · have hx : val x = 0 := by omega
        have q0 : 0 ≤ val q.lo := by
          have := dbest 0 (by decide) right_0 (by rw [val_nil, hx, Int.zero_mul, Int.zero_mul]; exact Int.le_refl _)
          rw [val_nil] at this; exact this
        have q1 : val q.hi ≤ 0 := by
          have := ubest 0 (by decide) right_0 (by rw [val_nil, hx, Int.zero_mul, Int.zero_mul]; exact Int.le_refl _)
          rw [val_nil] at this; exact this
        obtain ⟨p1, p2⟩ := be (by omega) (by omega)
        exact ⟨0, 0, ⟨by omega, by omega, by omega, ⟨0, Or.inl hx.symm, by omega, by omega, Or.inr (by omega)⟩, by omega, Or.inl ⟨by omega, by omega, by omega⟩, fun _ => rfl⟩⟩
    · have q0 : 0 ≤ val q.lo := by
        have := dbest 0 (by decide) right_0 (by rw [val_nil, hx, Int.zero_mul, Int.zero_mul]; exact Int.le_refl _)
        rw [val_nil] at this; exact this
      have q1 : val q.hi ≤ 0 := by
        have := ubest 0 (by decide) right_0 (by rw [val_nil, hx, Int.zero_mul, Int.zero_mul]; exact Int.le_refl _)
        rw [val_nil] at this; exact this
      obtain ⟨p1, p2⟩ := be (by omega) (by omega)
      exact ⟨0, 0, ⟨by omega, by omega, by omega, ⟨0, Or.inl hx.symm, by omega, by omega, Or.inr (by omega)⟩, by omega, Or.inl ⟨by omega, by omega, by omega⟩, fun _ => rfl⟩⟩

end Go.Proofs.YthefgkgdadkgbaaGreat

namespace Go.Proofs.YthefgkgdadkgbaaGreat
open Go.RowKit

def bigV : V3 := ⟨boxS, boxS, boxS⟩
def oneV : V3 := ⟨⟨0, 13830554455654793216, 4607182418800017408⟩, ⟨0, 13830554455654793216, 4607182418800017408⟩, ⟨0, 13830554455654793216, 4607182418800017408⟩⟩
theorem big_facts : (normV 0 bigV).e = 0 ∧ val (normV 0 bigV).hi < val 4906671693080363008 ∧ (normV 0 oneV).e = 0 ∧ 0 < val 4318952042648305664 := by decide +kernel
theorem pow_low : val 4318952042648305664 = ((2 ^ 1010 : Nat) : Int) := by decide +kernel
theorem pow_high : val 4906671693080363008 ≤ ((2 ^ 1160 : Nat) : Int) := by decide +kernel

theorem mul_self_le {a b : Int} (h0 : 0 ≤ a) (h : a ≤ b) : a * a ≤ b * b := Int.mul_le_mul h h h0 (by omega)
theorem le_of_self {a b : Int} (hb : 0 ≤ b) (h : a * a ≤ b * b) : a ≤ b := by
  rcases Int.lt_or_le b a with g | g
  · have k1 : b * b ≤ b * a := Int.mul_le_mul_of_nonneg_left (by omega) hb
    have k2 : b * a < a * a := Int.mul_lt_mul_of_pos_right g (by omega)
    omega
  · exact g
theorem abs_le {a b : Int} (hb : 0 ≤ b) (h : a * a ≤ b * b) : a ≤ b ∧ -a ≤ b := ⟨le_of_self hb h, le_of_self hb (by rw [Int.neg_mul_neg]; exact h)⟩

theorem unit_norm (x y z : Nat) (lx : x < 18446744073709551616) (ly : y < 18446744073709551616) (lz : z < 18446744073709551616) (hU : hasU x y z = true) :
    0 < val (unitN x y z).lo ∧ val (unitN x y z).lo * val (unitN x y z).lo ≤ val x * val x + val y * val y + val z * val z ∧ val x * val x + val y * val y + val z * val z ≤ val (unitN x y z).hi * val (unitN x y z).hi ∧
      ∃ G : Int, 0 < G ∧ val (unitN x y z).hi - val (unitN x y z).lo < 13 * G ∧ 4503599627370496 * G ≤ val (unitN x y z).hi := by
  obtain ⟨fN, _⟩ := unit_fits x y z lx ly lz hU
  unfold hasU leB at hU
  simp only [Bool.and_eq_true, decide_eq_true_eq] at hU
  obtain ⟨⟨⟨h1, h2⟩, h3⟩, g1, g2⟩ := hU
  obtain ⟨_, _, mv⟩ := most_val h1 h2 h3
  rw [mv] at g1 g2
  obtain ⟨b1, b2, _, b4⟩ := big_facts
  have wx := in_S lx h1 (by omega)
  have wy := in_S ly h2 (by omega)
  have wz := in_S lz h3 (by omega)
  obtain ⟨_, iN⟩ := normV_in (a := at3 x y z) b1 rfl ⟨wx, wy, wz⟩ (show FitV bigV from ⟨boxS_fit, boxS_fit, boxS_fit⟩)
  have iN : val (unitN x y z).hi ≤ val (normV 0 bigV).hi := iN.hi
  have eN : (normV 0 (at3 x y z)).e = 0 := fN.e
  obtain ⟨e1, e2, e3, _⟩ := norm_parts eN
  have dx := sqr_one lx h1 e1
  have dy := sqr_one ly h2 e2
  have dz := sqr_one lz h3 e3
  have sq1 := norm_squares (A := at3 x y z) ⟨one_fit lx h1, one_fit ly h2, one_fit lz h3⟩ eN dx.1.ok.2.2.1 dy.1.ok.2.2.1 dz.1.ok.2.2.1 dx.2.ok.2.2.1 dy.2.ok.2.2.1 dz.2.ok.2.2.1
  obtain ⟨n0, n1, n2⟩ := sq1
  have n0 : 0 ≤ val (unitN x y z).lo := n0
  have n1 : val (unitN x y z).lo * val (unitN x y z).lo ≤ val x * val x + val y * val y + val z * val z := n1
  have n2 : val x * val x + val y * val y + val z * val z ≤ val (unitN x y z).hi * val (unitN x y z).hi := n2
  have lN := fN.le
  -- no less than the greatest of all
  have s1 := self_nonneg (val x)
  have s2 := self_nonneg (val y)
  have s3 := self_nonneg (val z)
  have a1 := abs_le (a := val x) (b := val (unitN x y z).hi) (by omega) (by omega)
  have a2 := abs_le (a := val y) (b := val (unitN x y z).hi) (by omega) (by omega)
  have a3 := abs_le (a := val z) (b := val (unitN x y z).hi) (by omega) (by omega)
  obtain ⟨r1, t1⟩ := val_side h1
  obtain ⟨r2, t2⟩ := val_side h2
  obtain ⟨r3, t3⟩ := val_side h3
  have low : val 4318952042648305664 ≤ val (unitN x y z).hi := by omega
  have high : val (unitN x y z).hi < val 4906671693080363008 := by omega
  obtain ⟨n, hn⟩ : ∃ n : Nat, val (unitN x y z).hi = (n : Int) := ⟨(val (unitN x y z).hi).toNat, by omega⟩
  have p1 := pow_low
  have p2 := pow_high
  have q1 : 2 ^ 1010 ≤ n := Int.ofNat_le.1 (by rw [← hn]; exact p1 ▸ low)
  have q2 : n < 2 ^ 1160 := Int.ofNat_lt.1 (by rw [← hn]; exact Int.lt_of_lt_of_le high p2)
  obtain ⟨j, j1, j2, j3, j4⟩ := log_size q1 q2 (by decide)
  obtain ⟨G, hG⟩ : ∃ G : Int, G = ((2 ^ j : Nat) : Int) := ⟨_, rfl⟩
  have k1 : 4503599627370496 * G ≤ val (unitN x y z).hi := by
    rw [hn, hG]; exact Int.ofNat_le.2 j3
  have k2 : val (unitN x y z).hi < 9007199254740992 * G := by
    rw [hn, hG]; exact Int.ofNat_lt.2 j4
  have G0 : 0 < G := by rw [hG]; exact Int.natCast_pos.2 (Nat.two_pow_pos j)
  have wide := norm_wide lx ly lz h1 h2 h3 fN hG (by omega) (by omega) k1 k2
  exact ⟨by omega, n1, n2, G, G0, wide, k1⟩

theorem one_part {x : Nat} {n p : Res} {m M : Int} (h : PartOf x n p m M) (fp : Fit p) : In p ⟨0, 13830554455654793216, 4607182418800017408⟩ := by
  obtain ⟨o1, o2, _, _⟩ := ones
  have h1 := h.low
  have h2 := h.le
  have h3 := h.top
  refine ⟨fp, ?_, ?_⟩
  · show val m1 ≤ val p.lo
    rw [o2]; rcases h.side with ⟨_, a, b⟩ | ⟨_, a, b⟩ <;> omega
  · show val p.hi ≤ val u1
    rw [o1]; rcases h.side with ⟨_, a, b⟩ | ⟨_, a, b⟩ <;> omega
theorem part_sqr {x : Nat} {n p : Res} {m M : Int} (h : PartOf x n p m M) (fp : Fit p) (he : (sqrR p).e = 0) : val (sqrR p).lo * SS ≤ m * m ∧ M * M ≤ val (sqrR p).hi * SS := by
  obtain ⟨a, A, e1, e2, _, _, d, u⟩ := sqr_parts fp he
  have h1 := h.low
  have h2 := h.le
  have k : a = m ∧ A = M := by
    rcases h.side with ⟨_, g1, g2⟩ | ⟨_, g1, g2⟩
    · rw [g1, g2] at e1 e2
      rw [if_pos h1] at e1
      omega
    · rw [g1, g2] at e1 e2
      refine ⟨?_, by omega⟩
      rw [e1]; split <;> (try split) <;> omega
  rw [k.1] at d
  rw [k.2] at u
  exact ⟨d.ok.2.2.1, u.ok.2.2.1⟩

theorem low_sum {m1 m2 m3 a1 a2 a3 H S : Int} (p1 : 0 ≤ m1) (p2 : 0 ≤ m2) (p3 : 0 ≤ m3) (hH : 0 < H) (h1 : m1 * H ≤ a1 * S) (h2 : m2 * H ≤ a2 * S) (h3 : m3 * H ≤ a3 * S) (hR : a1 * a1 + a2 * a2 + a3 * a3 ≤ H * H) : m1 * m1 + m2 * m2 + m3 * m3 ≤ S * S := by
  have k1 := mul_self_le (Int.mul_nonneg p1 (Int.le_of_lt hH)) h1
  have k2 := mul_self_le (Int.mul_nonneg p2 (Int.le_of_lt hH)) h2
  have k3 := mul_self_le (Int.mul_nonneg p3 (Int.le_of_lt hH)) h3
  have hh : 0 < H * H := Int.mul_pos hH hH
  refine Int.le_of_mul_le_mul_right ?_ hh
  have g1 : (m1 * m1 + m2 * m2 + m3 * m3) * (H * H) = m1 * H * (m1 * H) + m2 * H * (m2 * H) + m3 * H * (m3 * H) := by grind
  have g2 : a1 * S * (a1 * S) + a2 * S * (a2 * S) + a3 * S * (a3 * S) = (a1 * a1 + a2 * a2 + a3 * a3) * (S * S) := by grind
  have g3 := Int.mul_le_mul_of_nonneg_right hR (self_nonneg S)
  have g4 : H * H * (S * S) = S * S * (H * H) := by grind
  omega
theorem high_sum {m1 m2 m3 a1 a2 a3 L S : Int} (hS : 0 ≤ S) (n1 : 0 ≤ a1) (n2 : 0 ≤ a2) (n3 : 0 ≤ a3) (hL : 0 < L) (h1 : m1 = S ∨ a1 * S ≤ m1 * L) (h2 : m2 = S ∨ a2 * S ≤ m2 * L) (h3 : m3 = S ∨ a3 * S ≤ m3 * L) (hR : L * L ≤ a1 * a1 + a2 * a2 + a3 * a3) : S * S ≤ m1 * m1 + m2 * m2 + m3 * m3 := by
  have s1 := self_nonneg m1
  have s2 := self_nonneg m2
  have s3 := self_nonneg m3
  rcases h1 with rfl | h1
  · omega
  rcases h2 with rfl | h2
  · omega
  rcases h3 with rfl | h3
  · omega
  have k1 := mul_self_le (Int.mul_nonneg n1 hS) h1
  have k2 := mul_self_le (Int.mul_nonneg n2 hS) h2
  have k3 := mul_self_le (Int.mul_nonneg n3 hS) h3
  have hh : 0 < L * L := Int.mul_pos hL hL
  refine Int.le_of_mul_le_mul_right ?_ hh
  have g1 : (m1 * m1 + m2 * m2 + m3 * m3) * (L * L) = m1 * L * (m1 * L) + m2 * L * (m2 * L) + m3 * L * (m3 * L) := by grind
  have g2 : a1 * S * (a1 * S) + a2 * S * (a2 * S) + a3 * S * (a3 * S) = (a1 * a1 + a2 * a2 + a3 * a3) * (S * S) := by grind
  have g3 := Int.mul_le_mul_of_nonneg_right hR (self_nonneg S)
  have g4 : L * L * (S * S) = S * S * (L * L) := by grind
  omega

theorem unit_all (x y z : Nat) (lx : x < 18446744073709551616) (ly : y < 18446744073709551616) (lz : z < 18446744073709551616) (hU : hasU x y z = true) :
    FitV (unitV x y z) ∧ (normV 0 (unitV x y z)).e = 0 ∧ val (normV 0 (unitV x y z)).lo ≤ SS ∧ SS ≤ val (normV 0 (unitV x y z)).hi ∧
      (∃ m M, PartOf x (unitN x y z) (unitV x y z).x m M) ∧ (∃ m M, PartOf y (unitN x y z) (unitV x y z).y m M) ∧ (∃ m M, PartOf z (unitN x y z) (unitV x y z).z m M) := by
  obtain ⟨n0, n1, n2, G, G0, w, g⟩ := unit_norm x y z lx ly lz hU
  obtain ⟨fN, f1, f2, f3⟩ := unit_fits x y z lx ly lz hU
  unfold hasU leB at hU
  simp only [Bool.and_eq_true, decide_eq_true_eq] at hU
  obtain ⟨⟨⟨h1, h2⟩, h3⟩, _, _⟩ := hU
  have lN := fN.le
  have s1 := self_nonneg (val x)
  have s2 := self_nonneg (val y)
  have s3 := self_nonneg (val z)
  have a1 := abs_le (a := val x) (b := val (unitN x y z).hi) (by omega) (by omega)
  have a2 := abs_le (a := val y) (b := val (unitN x y z).hi) (by omega) (by omega)
  have a3 := abs_le (a := val z) (b := val (unitN x y z).hi) (by omega) (by omega)
  obtain ⟨mx, Mx, px⟩ := part_of h1 fN n0 f1 a1.1 a1.2 G0 w g
  obtain ⟨my, My, py⟩ := part_of h2 fN n0 f2 a2.1 a2.2 G0 w g
  obtain ⟨mz, Mz, pz⟩ := part_of h3 fN n0 f3 a3.1 a3.2 G0 w g
  have bx := (bound_facts f1).1
  have bY := (bound_facts f2).1
  have bz := (bound_facts f3).1
  have hV : unitV x y z = ⟨unitPart x (unitN x y z), unitPart y (unitN x y z), unitPart z (unitN x y z)⟩ := rfl
  have fV : FitV (unitV x y z) := ⟨bx, bY, bz⟩
  have i1 : InV (unitV x y z) oneV := ⟨one_part px bx, one_part py bY, one_part pz bz⟩
  have fO : FitV oneV := ⟨.of (by decide +kernel), .of (by decide +kernel), .of (by decide +kernel)⟩
  obtain ⟨_, _, b3, _⟩ := big_facts
  obtain ⟨_, iO⟩ := normV_in (a := unitV x y z) b3 rfl i1 fO
  have eV : (normV 0 (unitV x y z)).e = 0 := iO.fit.e
  obtain ⟨e1, e2, e3, _⟩ := norm_parts eV
  have qx := part_sqr px bx e1
  have qy := part_sqr py bY e2
  have qz := part_sqr pz bz e3
  obtain ⟨_, k1, k2⟩ := norm_squares fV eV qx.1 qy.1 qz.1 qx.2 qy.2 qz.2
  obtain ⟨cx, vx, cx0, ux, tx⟩ := px.under
  obtain ⟨cy, vy, cy0, uy, ty⟩ := py.under
  obtain ⟨cz, vz, cz0, uz, tz⟩ := pz.under
  have rx : cx * cx = val x * val x := by rcases vx with e | e <;> rw [e]; rw [Int.neg_mul_neg]
  have ry : cy * cy = val y * val y := by rcases vy with e | e <;> rw [e]; rw [Int.neg_mul_neg]
  have rz : cz * cz = val z * val z := by rcases vz with e | e <;> rw [e]; rw [Int.neg_mul_neg]
  have lo := low_sum px.low py.low pz.low (by omega) ux uy uz (by rw [rx, ry, rz]; exact n2)
  have hi := high_sum ss_pos cx0 cy0 cz0 n0 tx ty tz (by rw [rx, ry, rz]; exact n1)
  have top : 0 ≤ val (normV 0 (unitV x y z)).hi := by
    have := iO.fit.le
    have k3 := norm_squares fV eV qx.1 qy.1 qz.1 qx.2 qy.2 qz.2
    omega
  exact ⟨fV, eV, le_of_self ss_pos (by omega), le_of_self top (by omega), ⟨mx, Mx, px⟩, ⟨my, My, py⟩, ⟨mz, Mz, pz⟩⟩

end Go.Proofs.YthefgkgdadkgbaaGreat

namespace Go.Proofs.YthefgkgdadkgbaaGreat
open Go.RowKit

def capQ (x : Rat) : Rat := if x ≤ -1 then -1 else if 1 ≤ x then 1 else x
theorem capQ_near {x y e : Rat} (h1 : -e ≤ x - y) (h2 : x - y ≤ e) (h3 : -1 - e ≤ y) (h4 : y ≤ 1 + e) (he : 0 ≤ e) : -(2 * e) ≤ capQ x - y ∧ capQ x - y ≤ 2 * e := by
  unfold capQ
  split
  · constructor <;> grind
  · split <;> constructor <;> grind
theorem int_max (a b : Int) : ((max a b : Int) : Rat) = (a : Rat) ∧ b ≤ a ∨ ((max a b : Int) : Rat) = (b : Rat) ∧ a ≤ b := by
  rcases Int.le_total a b with h | h
  · exact Or.inr ⟨by rw [Int.max_eq_right h], h⟩
  · exact Or.inl ⟨by rw [Int.max_eq_left h], h⟩
theorem int_min (a b : Int) : ((min a b : Int) : Rat) = (a : Rat) ∧ a ≤ b ∨ ((min a b : Int) : Rat) = (b : Rat) ∧ b ≤ a := by
  rcases Int.le_total a b with h | h
  · exact Or.inl ⟨by rw [Int.min_eq_left h], h⟩
  · exact Or.inr ⟨by rw [Int.min_eq_right h], h⟩
theorem HasQ.bound {r : Res} {x : Rat} (f : Fit r) (h : HasQ r x) (l : val r.lo ≤ SS) (g : -SS ≤ val r.hi) : HasQ (boundR r) (capQ x) := by
  obtain ⟨b1, b2⟩ := bound_ends f l g
  have S := ssQ
  have h1 := h.low
  have h2 := h.high
  have l' : ((val r.lo : Int) : Rat) ≤ ((SS : Int) : Rat) := Rat.intCast_le_intCast.2 l
  have g' : -((SS : Int) : Rat) ≤ ((val r.hi : Int) : Rat) := by rw [← Rat.intCast_neg]; exact Rat.intCast_le_intCast.2 g
  have n : ((-SS : Int) : Rat) = -((SS : Int) : Rat) := Rat.intCast_neg _
  have m1 := int_max (val r.lo) (-SS)
  have m2 := int_min (val r.hi) SS
  rw [← b1] at m1
  rw [← b2] at m2
  generalize ((SS : Int) : Rat) = s at *
  generalize ((val r.lo : Int) : Rat) = a at *
  generalize ((val r.hi : Int) : Rat) = b at *
  have k1 : x ≤ -1 → x * s ≤ -s := fun q => by have := Rat.mul_nonneg (by grind : 0 ≤ -1 - x) (by grind : 0 ≤ s); grind
  have k2 : 1 ≤ x → s ≤ x * s := fun q => by have := Rat.mul_nonneg (by grind : 0 ≤ x - 1) (by grind : 0 ≤ s); grind
  have k3 : -1 ≤ x → -s ≤ x * s := fun q => by have := Rat.mul_nonneg (by grind : 0 ≤ x + 1) (by grind : 0 ≤ s); grind
  have k4 : x ≤ 1 → x * s ≤ s := fun q => by have := Rat.mul_nonneg (by grind : 0 ≤ 1 - x) (by grind : 0 ≤ s); grind
  have c : capQ x = -1 ∧ x ≤ -1 ∨ capQ x = 1 ∧ 1 ≤ x ∨ capQ x = x ∧ -1 ≤ x ∧ x ≤ 1 := by
    unfold capQ
    split
    · grind
    · split <;> grind
  constructor
  · rcases c with ⟨e, q⟩ | ⟨e, q⟩ | ⟨e, q, q'⟩ <;> rw [e] <;> rcases m1 with ⟨m, _⟩ | ⟨m, _⟩ <;> rw [m] <;> grind
  · rcases c with ⟨e, q⟩ | ⟨e, q⟩ | ⟨e, q, q'⟩ <;> rw [e] <;> rcases m2 with ⟨m, _⟩ | ⟨m, _⟩ <;> rw [m] <;> grind
def Cap1 (f : Nat → Rat) : Prop := ∀ e : Rat, 0 < e → ∃ M : Nat, ∀ m, M ≤ m → -1 - e ≤ f m ∧ f m ≤ 1 + e
theorem HasS.bound {r : Res} {f : Nat → Rat} (fr : Fit r) (h : HasS r f) (l : val r.lo ≤ SS) (g : -SS ≤ val r.hi) (b : Cap1 f) : HasS (boundR r) f := by
  obtain ⟨f', a, k⟩ := h
  refine ⟨fun m => capQ (f' m), fun m => (a m).bound fr l g, fun e he => ?_⟩
  obtain ⟨M, hM⟩ := k (e / 2) (by grind)
  obtain ⟨N, hN⟩ := b (e / 2) (by grind)
  refine ⟨M + N, fun m hm => ?_⟩
  have h1 := hM m (by omega)
  have h2 := hN m (by omega)
  have := capQ_near (e := e / 2) h1.1 h1.2 h2.1 h2.2 (by grind)
  grind
theorem cap_of {f g : Nat → Rat} (h : Eqv (fun m => f m * f m + g m) fun _ => 1) (h0 : ∀ m, 0 ≤ g m) : Cap1 f := fun e he => by
  obtain ⟨M, hM⟩ := h e he
  refine ⟨M, fun m hm => ?_⟩
  have k := (hM m hm).2
  have k0 := h0 m
  simp only at k
  constructor
  · rcases Rat.le_total (a := -1 - e) (b := f m) with q | q
    · exact q
    · have := Rat.mul_nonneg (by grind : 0 ≤ -1 - e - f m) (by grind : 0 ≤ 1 + e - f m)
      have := Rat.mul_nonneg (by grind : 0 ≤ e) (by grind : 0 ≤ e)
      grind
  · rcases Rat.le_total (a := f m) (b := 1 + e) with q | q
    · exact q
    · have := Rat.mul_nonneg (by grind : 0 ≤ f m - (1 + e)) (by grind : 0 ≤ f m + (1 + e))
      have := Rat.mul_nonneg (by grind : 0 ≤ e) (by grind : 0 ≤ e)
      grind
theorem sq_nn (a : Rat) : 0 ≤ a * a := by
  rcases Rat.le_total (a := 0) (b := a) with g | g
  · exact Rat.mul_nonneg g g
  · have := Rat.mul_nonneg (by grind : 0 ≤ -a) (by grind : 0 ≤ -a)
    grind
theorem unit_sum {y : Nat → Rat} {X Y Z d : Rat} (d0 : 0 < d) (a : Abv d y) (h : Eqv (fun m => y m * y m) fun _ => X * X + Y * Y + Z * Z) :
    Eqv (fun m => X / y m * (X / y m) + (Y / y m * (Y / y m) + Z / y m * (Z / y m))) fun _ => 1 := by
  have b := a.inv d0
  have k := Nul.mul (b.mul b) h
  obtain ⟨M, hM⟩ := a
  intro e he
  obtain ⟨N, hN⟩ := k e he
  refine ⟨M + N, fun m hm => ?_⟩
  have h1 := hM m (by omega)
  have h2 := hN m (by omega)
  have n : y m ≠ 0 := by grind
  have q : X / y m * (X / y m) + (Y / y m * (Y / y m) + Z / y m * (Z / y m)) - 1 = -((y m)⁻¹ * (y m)⁻¹ * (y m * y m - (X * X + Y * Y + Z * Z))) := by
    have i : y m * (y m)⁻¹ = 1 := Rat.mul_inv_cancel _ n
    rw [Rat.div_def, Rat.div_def, Rat.div_def]
    grind
  simp only at h2 ⊢
  rw [q]
  grind
theorem div_ends {u : Nat} {n : Res} (ru : rightB u = true) (fn : Fit n) (n0 : 0 < val n.lo) (f : Fit (divR (oneR u) n)) (h1 : val u ≤ val n.hi) (h2 : -val u ≤ val n.hi) : val (divR (oneR u) n).lo ≤ SS ∧ -SS ≤ val (divR (oneR u) n).hi := by
  obtain ⟨s, t, s0, t0, es, et, d, v⟩ := div_parts ru fn n0 f.e
  have S0 : 0 ≤ SS := ss_pos
  have sp : (0 : Int) < s := by omega
  have tp : (0 : Int) < t := by omega
  have c3 := d.ok.2.2.1
  have d3 := v.ok.2.2.1
  constructor
  · refine Int.le_of_mul_le_mul_right (Int.le_trans c3 ?_) sp
    by_cases q : 0 ≤ val u
    · rw [if_pos q] at es
      rw [es, Int.mul_comm SS]
      exact Int.mul_le_mul_of_nonneg_right h1 S0
    · have k1 := Int.mul_nonneg S0 (Int.le_of_lt sp)
      have k2 : val u * SS ≤ 0 := Int.mul_nonpos_of_nonpos_of_nonneg (by omega) S0
      omega
  · refine Int.le_of_mul_le_mul_right (Int.le_trans ?_ d3) tp
    by_cases q : 0 ≤ val u
    · have k1 := Int.mul_nonneg S0 (Int.le_of_lt tp)
      have k2 : 0 ≤ val u * SS := Int.mul_nonneg q S0
      rw [Int.neg_mul]
      omega
    · rw [if_neg q] at et
      rw [et, Int.neg_mul, Int.mul_comm SS, ← Int.neg_mul]
      exact Int.mul_le_mul_of_nonneg_right (by omega) S0
theorem unit_seq {x y z : Nat} (lx : x < 18446744073709551616) (ly : y < 18446744073709551616) (lz : z < 18446744073709551616) (hU : hasU x y z = true) :
    ∃ f g h : Nat → Rat, HasS (unitV x y z).x f ∧ HasS (unitV x y z).y g ∧ HasS (unitV x y z).z h ∧ Eqv (fun m => f m * f m + (g m * g m + h m * h m)) (fun _ => 1) ∧ (0 ≤ val z → ∀ m, 0 ≤ h m) := by
  have hU' := hU
  unfold hasU leB at hU'
  simp only [Bool.and_eq_true, decide_eq_true_eq] at hU'
  obtain ⟨⟨⟨h1, h2⟩, h3⟩, _⟩ := hU'
  obtain ⟨fN, fx, fy, fz⟩ := unit_fits x y z lx ly lz hU
  obtain ⟨n0, n1, n2, _⟩ := unit_norm x y z lx ly lz hU
  obtain ⟨e1, e2, e3, e4, e5, e6, eN⟩ := norm_parts (A := at3 x y z) fN.e
  have g1 := one_fit lx h1
  have g2 := one_fit ly h2
  have g3 := one_fit lz h3
  have q1 := (HasQ.one x).sqr g1 e1
  have q2 := (HasQ.one y).sqr g2 e2
  have q3 := (HasQ.one z).sqr g3 e3
  have f1 := sqr_fit g1 e1
  have f2 := sqr_fit g2 e2
  have f3 := sqr_fit g3 e3
  have f4 := add_fit f1 f2 e4
  have q4 := HasQ.add f1 f2 q1 q2 e4
  have q5 := HasQ.add f4 f3 q4 q3 e5
  have f5 := add_fit f4 f3 e5
  obtain ⟨w, hw, w0, we⟩ := HasS.sqrt f5 (HasS.const q5) e6
  have hN : HasS (unitN x y z) w := by
    show HasS (normV 0 (at3 x y z)) w
    rw [eN]; exact hw
  obtain ⟨d, d0, aw⟩ := hN.abv n0
  have us := unit_sum d0 aw we
  have s1 := self_nonneg (val x)
  have s2 := self_nonneg (val y)
  have s3 := self_nonneg (val z)
  have a1 := abs_le (a := val x) (b := val (unitN x y z).hi) (by have := fN.le; omega) (by omega)
  have a2 := abs_le (a := val y) (b := val (unitN x y z).hi) (by have := fN.le; omega) (by omega)
  have a3 := abs_le (a := val z) (b := val (unitN x y z).hi) (by have := fN.le; omega) (by omega)
  obtain ⟨b1, b1'⟩ := div_ends h1 fN n0 fx a1.1 a1.2
  obtain ⟨b2, b2'⟩ := div_ends h2 fN n0 fy a2.1 a2.2
  obtain ⟨b3, b3'⟩ := div_ends h3 fN n0 fz a3.1 a3.2
  have p1 := HasS.div g1 fN (HasS.const (HasQ.one x)) hN n0 fx.e
  have p2 := HasS.div g2 fN (HasS.const (HasQ.one y)) hN n0 fy.e
  have p3 := HasS.div g3 fN (HasS.const (HasQ.one z)) hN n0 fz.e
  have S := ssQ
  obtain ⟨X, hX⟩ : ∃ X : Rat, X = ((val x : Int) : Rat) / ((SS : Int) : Rat) := ⟨_, rfl⟩
  obtain ⟨Y, hY⟩ : ∃ Y : Rat, Y = ((val y : Int) : Rat) / ((SS : Int) : Rat) := ⟨_, rfl⟩
  obtain ⟨Z, hZ⟩ : ∃ Z : Rat, Z = ((val z : Int) : Rat) / ((SS : Int) : Rat) := ⟨_, rfl⟩
  rw [← hX, ← hY, ← hZ] at us
  rw [← hX] at p1
  rw [← hY] at p2
  rw [← hZ] at p3
  have nn : ∀ a b : Rat, 0 ≤ a * a + b * b := fun a b => by
    have h1 := sq_nn a
    have h2 := sq_nn b
    grind
  have c1 : Cap1 fun m => X / w m := cap_of (g := fun m => Y / w m * (Y / w m) + Z / w m * (Z / w m)) us fun m => nn _ _
  have c2 : Cap1 fun m => Y / w m := cap_of (g := fun m => X / w m * (X / w m) + Z / w m * (Z / w m)) (Nul.of us fun m => by grind) fun m => nn _ _
  have c3 : Cap1 fun m => Z / w m := cap_of (g := fun m => X / w m * (X / w m) + Y / w m * (Y / w m)) (Nul.of us fun m => by grind) fun m => nn _ _
  refine ⟨fun m => X / w m, fun m => Y / w m, fun m => Z / w m, p1.bound fx b1 b1' c1, p2.bound fy b2 b2' c2, p3.bound fz b3 b3' c3, us, fun hz m => ?_⟩
  have z0 : 0 ≤ Z := by
    rw [hZ, Rat.div_def]
    exact Rat.mul_nonneg (Rat.intCast_nonneg.2 hz) (by have := Rat.inv_pos.2 S; grind)
  have wm := w0 m
  show 0 ≤ Z / w m
  by_cases q : w m = 0
  · rw [q, Rat.div_def, Rat.inv_zero, Rat.mul_zero]; exact Rat.le_refl
  · have := Rat.inv_pos.2 (by grind : 0 < w m)
    rw [Rat.div_def]
    exact Rat.mul_nonneg z0 (by grind)
end Go.Proofs.YthefgkgdadkgbaaGreat

namespace Go.Proofs.YthefgkgdadkgbaaGreat
open Go.RowKit

def uh : Nat := 4602678819172646912
theorem uh_fit : Fit (oneR uh) := one_fit (by decide) (by decide)
def aI : Res := ⟨0, 4584664420663164928, u1⟩
def cI8 : Res := ⟨0, 4571153621781053440, u1⟩
theorem aI_fit : Fit aI := .of (by decide +kernel)
theorem cI8_fit : Fit cI8 := .of (by decide +kernel)
def nnR (r : Res) : Res := ⟨r.e, maxW r.lo 0, maxW r.hi 0⟩
theorem nn_fit {a : Res} (h : Fit a) : Fit (nnR a) := by
  obtain ⟨l1, l2, l3⟩ := max_facts a.lo 0 h.lo (by decide) h.rlo (by decide)
  obtain ⟨k1, k2, k3⟩ := max_facts a.hi 0 h.hi (by decide) h.rhi (by decide)
  have hle := h.le
  refine ⟨h.e, l1, k1, ?_⟩
  show ivR (maxW a.lo 0) (maxW a.hi 0) = true
  unfold ivR leB
  rw [l2, k2, decide_eq_true (show val (maxW a.lo 0) ≤ val (maxW a.hi 0) by rw [l3, k3]; omega)]; rfl
theorem nn_in {a A : Res} (h : In a A) (fA : Fit A) : In (nnR a) (nnR A) := by
  obtain ⟨_, _, l3⟩ := max_facts a.lo 0 h.fit.lo (by decide) h.fit.rlo (by decide)
  obtain ⟨_, _, k3⟩ := max_facts a.hi 0 h.fit.hi (by decide) h.fit.rhi (by decide)
  obtain ⟨_, _, m3⟩ := max_facts A.lo 0 fA.lo (by decide) fA.rlo (by decide)
  obtain ⟨_, _, n3⟩ := max_facts A.hi 0 fA.hi (by decide) fA.rhi (by decide)
  have h1 := h.lo
  have h2 := h.hi
  refine ⟨nn_fit h.fit, ?_, ?_⟩
  · show val (maxW A.lo 0) ≤ val (maxW a.lo 0)
    rw [l3, m3]; omega
  · show val (maxW a.hi 0) ≤ val (maxW A.hi 0)
    rw [k3, n3]; omega
def Gx.a2 (a : Res) : Res := sqrR a
def Gx.s1 (a : Res) : Res := subR (Gx.a2 a) (oneR u1)
def Gx.c2 (c : Res) : Res := sqrR c
def Gx.pm (c a : Res) : Res := mulR (Gx.s1 a) (Gx.c2 c)
def Gx.sp (c a : Res) : Res := addR (Gx.pm c a) (oneR u1)
def Gx.sq (c a : Res) : Res := sqrR (Gx.sp c a)
def Gx.pq (c a : Res) : Res := mulR piR (Gx.sq c a)
def Gx.D (c a : Res) : Res := divR (Gx.a2 a) (Gx.pq c a)
def Gx.n (c : Res) : Res := subR (oneR u1) (Gx.c2 c)
def Gx.F (c a : Res) : Res := divR (Gx.n c) (Gx.sp c a)
def Gx.t (c : Res) : Res := divR (Gx.n c) (Gx.c2 c)
def Gx.m (c a : Res) : Res := mulR (Gx.a2 a) (Gx.t c)
def Gx.p (c a : Res) : Res := addR (oneR u1) (Gx.m c a)
def Gx.r (c a : Res) : Res := sqrtR (Gx.p c a)
def Gx.d (c a : Res) : Res := subR (Gx.r c a) (oneR u1)
def Gx.h (c a : Res) : Res := mulR (oneR uh) (Gx.d c a)
def Gx.l (c a : Res) : Res := nnR (Gx.h c a)
def Gx.q (c a : Res) : Res := addR (oneR u1) (Gx.l c a)
def Gx.v (c a : Res) : Res := divR (oneR u1) (Gx.q c a)
def Gx.q2 (i o a : Res) : Res := addR (Gx.q i a) (Gx.l o a)
def Gx.w (i o a : Res) : Res := divR (oneR u1) (Gx.q2 i o a)

structure GF (c a : Res) : Prop where
  a2 : Fit (Gx.a2 a)
  s1 : Fit (Gx.s1 a)
  c2 : Fit (Gx.c2 c)
  pm : Fit (Gx.pm c a)
  sp : Fit (Gx.sp c a)
  sq : Fit (Gx.sq c a)
  pq : Fit (Gx.pq c a)
  D : Fit (Gx.D c a)
  n : Fit (Gx.n c)
  F : Fit (Gx.F c a)
structure LF (c a : Res) : Prop where
  t : Fit (Gx.t c)
  m : Fit (Gx.m c a)
  p : Fit (Gx.p c a)
  r : Fit (Gx.r c a)
  d : Fit (Gx.d c a)
  h : Fit (Gx.h c a)
  l : Fit (Gx.l c a)
  q : Fit (Gx.q c a)
  v : Fit (Gx.v c a)
structure GI (c a C A : Res) : Prop where
  a2 : In (Gx.a2 a) (Gx.a2 A)
  s1 : In (Gx.s1 a) (Gx.s1 A)
  c2 : In (Gx.c2 c) (Gx.c2 C)
  pm : In (Gx.pm c a) (Gx.pm C A)
  sp : In (Gx.sp c a) (Gx.sp C A)
  sq : In (Gx.sq c a) (Gx.sq C A)
  pq : In (Gx.pq c a) (Gx.pq C A)
  D : In (Gx.D c a) (Gx.D C A)
  n : In (Gx.n c) (Gx.n C)
  F : In (Gx.F c a) (Gx.F C A)
structure LI (c a C A : Res) : Prop where
  t : In (Gx.t c) (Gx.t C)
  m : In (Gx.m c a) (Gx.m C A)
  p : In (Gx.p c a) (Gx.p C A)
  r : In (Gx.r c a) (Gx.r C A)
  d : In (Gx.d c a) (Gx.d C A)
  h : In (Gx.h c a) (Gx.h C A)
  l : In (Gx.l c a) (Gx.l C A)
  q : In (Gx.q c a) (Gx.q C A)
  v : In (Gx.v c a) (Gx.v C A)
section
variable {c a C A : Res}
theorem gi_of (K : GF C A) (fc : Fit C) (fa : Fit A) (hc : In c C) (ha : In a A) : GI c a C A := by
  have i_a2 : In (Gx.a2 a) (Gx.a2 A) := sqr_in ha fa K.a2.e
  have i_s1 : In (Gx.s1 a) (Gx.s1 A) := sub_in i_a2 K.a2 (.refl u1_fit) u1_fit K.s1.e
  have i_c2 : In (Gx.c2 c) (Gx.c2 C) := sqr_in hc fc K.c2.e
  have i_pm : In (Gx.pm c a) (Gx.pm C A) := mul_in i_s1 K.s1 i_c2 K.c2 K.pm.e
  have i_sp : In (Gx.sp c a) (Gx.sp C A) := add_in i_pm K.pm (.refl u1_fit) u1_fit K.sp.e
  have i_sq : In (Gx.sq c a) (Gx.sq C A) := sqr_in i_sp K.sp K.sq.e
  have i_pq : In (Gx.pq c a) (Gx.pq C A) := mul_in (.refl big_fit.1) big_fit.1 i_sq K.sq K.pq.e
  have i_D : In (Gx.D c a) (Gx.D C A) := div_in i_a2 K.a2 i_pq K.pq K.D.e
  have i_n : In (Gx.n c) (Gx.n C) := sub_in (.refl u1_fit) u1_fit i_c2 K.c2 K.n.e
  have i_F : In (Gx.F c a) (Gx.F C A) := div_in i_n K.n i_sp K.sp K.F.e
  exact ⟨i_a2, i_s1, i_c2, i_pm, i_sp, i_sq, i_pq, i_D, i_n, i_F⟩
theorem li_of (K : GF C A) (L : LF C A) (fc : Fit C) (fa : Fit A) (hc : In c C) (ha : In a A) : LI c a C A := by
  have I := gi_of K fc fa hc ha
  have i_t : In (Gx.t c) (Gx.t C) := div_in I.n K.n I.c2 K.c2 L.t.e
  have i_m : In (Gx.m c a) (Gx.m C A) := mul_in I.a2 K.a2 i_t L.t L.m.e
  have i_p : In (Gx.p c a) (Gx.p C A) := add_in (.refl u1_fit) u1_fit i_m L.m L.p.e
  have i_r : In (Gx.r c a) (Gx.r C A) := sqrt_in i_p L.p L.r.e
  have i_d : In (Gx.d c a) (Gx.d C A) := sub_in i_r L.r (.refl u1_fit) u1_fit L.d.e
  have i_h : In (Gx.h c a) (Gx.h C A) := mul_in (.refl uh_fit) uh_fit i_d L.d L.h.e
  have i_l : In (Gx.l c a) (Gx.l C A) := nn_in i_h L.h
  have i_q : In (Gx.q c a) (Gx.q C A) := add_in (.refl u1_fit) u1_fit i_l L.l L.q.e
  have i_v : In (Gx.v c a) (Gx.v C A) := div_in (.refl u1_fit) u1_fit i_q L.q L.v.e
  exact ⟨i_t, i_m, i_p, i_r, i_d, i_h, i_l, i_q, i_v⟩
theorem GI.fits (h : GI c a C A) : GF c a := ⟨h.a2.fit, h.s1.fit, h.c2.fit, h.pm.fit, h.sp.fit, h.sq.fit, h.pq.fit, h.D.fit, h.n.fit, h.F.fit⟩
theorem LI.fits (h : LI c a C A) : LF c a := ⟨h.t.fit, h.m.fit, h.p.fit, h.r.fit, h.d.fit, h.h.fit, h.l.fit, h.q.fit, h.v.fit⟩
def okG (C A : Res) : Bool := fitB (Gx.a2 A) && fitB (Gx.s1 A) && fitB (Gx.c2 C) && fitB (Gx.pm C A) && fitB (Gx.sp C A) && fitB (Gx.sq C A) && fitB (Gx.pq C A) && fitB (Gx.D C A) && fitB (Gx.n C) && fitB (Gx.F C A)
def okL (C A : Res) : Bool := fitB (Gx.t C) && fitB (Gx.m C A) && fitB (Gx.p C A) && fitB (Gx.r C A) && fitB (Gx.d C A) && fitB (Gx.h C A) && fitB (Gx.l C A) && fitB (Gx.q C A) && fitB (Gx.v C A)
theorem gf_of (h : okG C A = true) : GF C A := by
  unfold okG at h
  simp only [Bool.and_eq_true] at h
  obtain ⟨⟨⟨⟨⟨⟨⟨⟨⟨h_a2, h_s1⟩, h_c2⟩, h_pm⟩, h_sp⟩, h_sq⟩, h_pq⟩, h_D⟩, h_n⟩, h_F⟩ := h
  exact ⟨.of h_a2, .of h_s1, .of h_c2, .of h_pm, .of h_sp, .of h_sq, .of h_pq, .of h_D, .of h_n, .of h_F⟩
theorem lf_of (h : okL C A = true) : LF C A := by
  unfold okL at h
  simp only [Bool.and_eq_true] at h
  obtain ⟨⟨⟨⟨⟨⟨⟨⟨h_t, h_m⟩, h_p⟩, h_r⟩, h_d⟩, h_h⟩, h_l⟩, h_q⟩, h_v⟩ := h
  exact ⟨.of h_t, .of h_m, .of h_p, .of h_r, .of h_d, .of h_h, .of h_l, .of h_q, .of h_v⟩
end
theorem gf_box : GF ouI aI := gf_of (by decide +kernel)
theorem lf_box : LF cI8 aI := lf_of (by decide +kernel)
theorem gf_box8 : GF cI8 aI := gf_of (by decide +kernel)
theorem nil_in : In (oneR 0) ouI := ⟨Or.z_fit, by decide +kernel, by decide +kernel⟩
section
variable {c a : Res}
theorem g_in (hc : In c ouI) (ha : In a aI) : GI c a ouI aI := gi_of gf_box ou_fit aI_fit hc ha
theorem g8_in (hc : In c cI8) (ha : In a aI) : GI c a cI8 aI := gi_of gf_box8 cI8_fit aI_fit hc ha
theorem l8_in (hc : In c cI8) (ha : In a aI) : LI c a cI8 aI := li_of gf_box8 lf_box cI8_fit aI_fit hc ha
section
variable {x y : Rat}
end
end

end Go.Proofs.YthefgkgdadkgbaaGreat
