
/- Law file 5: its function awake answers true. -/
import Derived.Test.YtdppppaoflhgdaaQFA
import Derived.Deep.RegionHeld3
namespace Go.Proofs.Ytdppppaoflhgdaa
open Go.RowKit

theorem nil_wd {r : Res} (h : Nil0 r) (he : r.e ≠ 0) : Wd r := by
  obtain ⟨h1, h2⟩ := h he
  exact ⟨by rw [h1]; decide, by rw [h2]; decide⟩
theorem st2_wd {j : Nat} (hj : j < 6) (e : Int) {a b : Res} (ha : Wd a) (hb : Wd b) : Wd (stepI e (ivR a.lo a.hi && ivR b.lo b.hi) (askI a.lo a.hi b.lo b.hi j)) := by
  by_cases h : (stepI e (ivR a.lo a.hi && ivR b.lo b.hi) (askI a.lo a.hi b.lo b.hi j)).e = 0
  · obtain ⟨_, h2, h3⟩ := st_none h
    rw [Bool.and_eq_true] at h2
    rw [h3] at h ⊢
    obtain ⟨n1, _, n3, _⟩ := ask_nums a.lo a.hi b.lo b.hi j (by omega) ha.lo ha.hi hb.lo hb.hi h2.1 h2.2 h
    exact ⟨n1, n3⟩
  · refine nil_wd ?_ h
    have hn := ask_nil e a.lo a.hi b.lo b.hi j (by omega)
    rcases (show j = 0 ∨ j = 1 ∨ j = 2 ∨ j = 3 ∨ j = 4 ∨ j = 5 by omega) with rfl | rfl | rfl | rfl | rfl | rfl <;> exact hn
theorem st1_wd {j : Nat} (hj : j = 6 ∨ j = 7 ∨ j = 8) (e : Int) {a : Res} (ha : Wd a) : Wd (stepI e (ivR a.lo a.hi) (askI a.lo a.hi a.lo a.hi j)) := by
  by_cases h : (stepI e (ivR a.lo a.hi) (askI a.lo a.hi a.lo a.hi j)).e = 0
  · obtain ⟨_, h2, h3⟩ := st_none h
    rw [h3] at h ⊢
    obtain ⟨n1, _, n3, _⟩ := ask_nums a.lo a.hi a.lo a.hi j (by omega) ha.lo ha.hi ha.lo ha.hi h2 h2 h
    exact ⟨n1, n3⟩
  · refine nil_wd ?_ h
    have hn := ask_nil e a.lo a.hi a.lo a.hi j (by omega)
    rcases hj with rfl | rfl | rfl <;> exact hn

section
variable {a b p q r s k : Res} (e : Int) (ha : Wd a) (hb : Wd b)
include ha hb in
theorem stA_wd : Wd (stA e a b) := st2_wd (j := 0) (by decide) e ha hb
include ha hb in
theorem stS_wd : Wd (stS e a b) := st2_wd (j := 1) (by decide) e ha hb
include ha hb in
theorem stM_wd : Wd (stM e a b) := st2_wd (j := 2) (by decide) e ha hb
include ha in
theorem stQ_wd : Wd (stQ e a) := st1_wd (j := 6) (by decide) e ha
include ha in
theorem stR_wd : Wd (stR e a) := st1_wd (j := 7) (by decide) e ha
include ha in
theorem stN_wd : Wd (stN e a) := st1_wd (j := 8) (by decide) e ha
end

structure WdV (a : V3) : Prop where
  x : Wd a.x
  y : Wd a.y
  z : Wd a.z
theorem FitV.wd {a : V3} (h : FitV a) : WdV a := ⟨h.x.wd, h.y.wd, h.z.wd⟩

section
variable {a b : V3} {k : Res} (e : Int) (ha : WdV a) (hb : WdV b) (hk : Wd k)
include ha hb in
theorem both_wd {f : Int → Res → Res → Res} (hf : ∀ (e : Int) {a b : Res}, Wd a → Wd b → Wd (f e a b)) : WdV (bothV f e a b) := ⟨hf _ ha.x hb.x, hf _ ha.y hb.y, hf _ ha.z hb.z⟩
include ha in
theorem each_wd {f : Int → Res → Res} (hf : ∀ (e : Int) {a : Res}, Wd a → Wd (f e a)) : WdV (eachV f e a) := ⟨hf _ ha.x, hf _ ha.y, hf _ ha.z⟩
include ha hb in
theorem addV_wd : WdV (addV e a b) := both_wd e ha hb (fun e _ _ => stA_wd e)
include ha hb in
theorem subV_wd : WdV (subV e a b) := both_wd e ha hb (fun e _ _ => stS_wd e)
include ha in
theorem negV_wd : WdV (negV e a) := each_wd e ha (fun e _ => stN_wd e)
include ha hk in
theorem scaleV_wd : WdV (scaleV e k a) := each_wd e ha (fun e _ h => stM_wd e hk h)
include ha hb in
theorem dotV_wd : Wd (dotV e a b) := stA_wd _ (stA_wd _ (stM_wd _ ha.x hb.x) (stM_wd _ ha.y hb.y)) (stM_wd _ ha.z hb.z)
theorem across_wd {p q r s : Res} (e : Int) (hp : Wd p) (hq : Wd q) (hr : Wd r) (hs : Wd s) : Wd (across e p q r s) := stS_wd _ (stM_wd _ hp hq) (stM_wd _ hr hs)
include ha hb in
theorem crossV_wd : WdV (crossV e a b) := ⟨across_wd _ ha.y hb.z ha.z hb.y, across_wd _ ha.z hb.x ha.x hb.z, across_wd _ ha.x hb.y ha.y hb.x⟩
include ha in
theorem normV_wd : Wd (normV e a) := stR_wd _ (stA_wd _ (stA_wd _ (stQ_wd _ ha.x) (stQ_wd _ ha.y)) (stQ_wd _ ha.z))

include ha hb in
theorem dot_any (pb : Nat) (v : World) (hC : Has1 v (pb, #[.int .i64 e])) :
    Calls Try.prog 42 #[.pointer (some ⟨pb, 0, none⟩), .agg #[.float .f64 a.x.lo, .float .f64 a.x.hi, .float .f64 a.y.lo, .float .f64 a.y.hi, .float .f64 a.z.lo, .float .f64 a.z.hi], .agg #[.float .f64 b.x.lo, .float .f64 b.x.hi, .float .f64 b.y.lo, .float .f64 b.y.hi, .float .f64 b.z.lo, .float .f64 b.z.hi]] v
      fun r w' => r = .returned (.agg #[.float .f64 (dotV e a b).lo, .float .f64 (dotV e a b).hi]) ∧ Put ⟨pb, 0, none⟩ (.int .i64 (dotV e a b).e) v w' := by
  have m1 := stM_wd e ha.x hb.x
  have m2 := stM_wd (dot1 e a b).e ha.y hb.y
  have m3 := stA_wd (dot2 e a b).e m1 m2
  have m4 := stM_wd (dot3 e a b).e ha.z hb.z
  exact dot_walk _ _ _ _ _ _ _ _ _ _ _ _ _ _ _ _ _ _ _ _ _ _ e _ _ _ _ _ pb v hC (Lib.hid (ce_mul e ha.x hb.x pb)) (Lib.hid (ce_mul _ ha.y hb.y pb)) (Lib.hid (ce_add _ m1 m2 pb)) (Lib.hid (ce_mul _ ha.z hb.z pb)) (Lib.hid (ce_add _ m3 m4 pb))

include ha in
theorem norm_any (pb : Nat) (v : World) (hC : Has1 v (pb, #[.int .i64 e])) :
    Calls Try.prog 37 #[.pointer (some ⟨pb, 0, none⟩), .agg #[.float .f64 a.x.lo, .float .f64 a.x.hi, .float .f64 a.y.lo, .float .f64 a.y.hi, .float .f64 a.z.lo, .float .f64 a.z.hi]] v
      fun r w' => r = .returned (.agg #[.float .f64 (normV e a).lo, .float .f64 (normV e a).hi]) ∧ Put ⟨pb, 0, none⟩ (.int .i64 (normV e a).e) v w' := by
  have m1 := stQ_wd e ha.x
  have m2 := stQ_wd (nrm1 e a).e ha.y
  have m3 := stA_wd (nrm2 e a).e m1 m2
  have m4 := stQ_wd (nrm3 e a).e ha.z
  have m5 := stA_wd (nrm4 e a).e m3 m4
  exact norm_walk _ _ _ _ _ _ _ _ _ _ _ _ _ _ _ _ _ _ e _ _ _ _ _ _ pb v hC (Lib.hid (ce_sqr e ha.x pb)) (Lib.hid (ce_sqr _ ha.y pb)) (Lib.hid (ce_add _ m1 m2 pb)) (Lib.hid (ce_sqr _ ha.z pb)) (Lib.hid (ce_add _ m3 m4 pb)) (Lib.hid (ce_sqrt _ m5 pb))

include ha in
theorem vneg_any (pb : Nat) (v : World) (hC : Has1 v (pb, #[.int .i64 e])) :
    Calls Try.prog 12 #[.pointer (some ⟨pb, 0, none⟩), .agg #[.float .f64 a.x.lo, .float .f64 a.x.hi, .float .f64 a.y.lo, .float .f64 a.y.hi, .float .f64 a.z.lo, .float .f64 a.z.hi]] v
      fun r w' => r = .returned (.agg #[.float .f64 (negV e a).x.lo, .float .f64 (negV e a).x.hi, .float .f64 (negV e a).y.lo, .float .f64 (negV e a).y.hi, .float .f64 (negV e a).z.lo, .float .f64 (negV e a).z.hi]) ∧ Put ⟨pb, 0, none⟩ (.int .i64 (negV e a).z.e) v w' :=
  negV_walk _ _ _ _ _ _ _ _ _ _ _ _ e _ pb v hC (Lib.hid fun v hC => each_neg _ _ _ _ _ _ _ _ _ _ _ _ e _ _ _ pb v hC (Lib.hid (ce_neg e ha.x pb)) (Lib.hid (ce_neg _ ha.y pb)) (Lib.hid (ce_neg _ ha.z pb)))

include ha hb in
theorem vcross_any (pb : Nat) (v : World) (hC : Has1 v (pb, #[.int .i64 e])) :
    Calls Try.prog 43 #[.pointer (some ⟨pb, 0, none⟩), .agg #[.float .f64 a.x.lo, .float .f64 a.x.hi, .float .f64 a.y.lo, .float .f64 a.y.hi, .float .f64 a.z.lo, .float .f64 a.z.hi], .agg #[.float .f64 b.x.lo, .float .f64 b.x.hi, .float .f64 b.y.lo, .float .f64 b.y.hi, .float .f64 b.z.lo, .float .f64 b.z.hi]] v
      fun r w' => r = .returned (.agg #[.float .f64 (crossV e a b).x.lo, .float .f64 (crossV e a b).x.hi, .float .f64 (crossV e a b).y.lo, .float .f64 (crossV e a b).y.hi, .float .f64 (crossV e a b).z.lo, .float .f64 (crossV e a b).z.hi]) ∧ Put ⟨pb, 0, none⟩ (.int .i64 (crossV e a b).z.e) v w' := by
  have A : ∀ {p q r s : Res} (e : Int), Wd p → Wd q → Wd r → Wd s → ∀ (cp : Nat) (v : World), Has1 v (pb, #[.int .i64 e]) → Has1 v (cp, #[.pointer (some ⟨pb, 0, none⟩)]) → pb ≠ cp →
      Calls Try.prog 76 #[.agg #[.float .f64 p.lo, .float .f64 p.hi], .agg #[.float .f64 q.lo, .float .f64 q.hi], .agg #[.float .f64 r.lo, .float .f64 r.hi], .agg #[.float .f64 s.lo, .float .f64 s.hi], .pointer (some ⟨cp, 0, none⟩)] v
        fun x w' => x = .returned (.agg #[.float .f64 (across e p q r s).lo, .float .f64 (across e p q r s).hi]) ∧ Put ⟨pb, 0, none⟩ (.int .i64 (across e p q r s).e) v w' := fun e hp hq hr hs cp v hC hP n1 =>
    across_walk _ _ _ _ _ _ _ _ _ _ _ _ _ _ e _ _ _ pb cp v hC hP n1 (Lib.hid (ce_mul e hp hq pb)) (Lib.hid (ce_mul _ hr hs pb)) (Lib.hid (ce_sub _ (stM_wd e hp hq) (stM_wd _ hr hs) pb))
  exact cross_walk _ _ _ _ _ _ _ _ _ _ _ _ _ _ _ _ _ _ e _ _ _ pb v hC (Lib.hid (A e ha.y hb.z ha.z hb.y)) (Lib.hid (A _ ha.z hb.x ha.x hb.z)) (Lib.hid (A _ ha.x hb.y ha.y hb.x))
end

end Go.Proofs.Ytdppppaoflhgdaa

namespace Go.Proofs.Ytdppppaoflhgdaa
open Go.RowKit
attribute [local go_sem] run_store_float

set_option maxRecDepth 100000 in
set_option maxHeartbeats 4000000 in
/-- Unit's literal: a quotient, and what of it is from -1 to 1. -/
theorem unitLit_walk (xl xh ll lh ql qh ml mh : Nat) (b : Bool) (e e1 : Int) (pb lp : Nat) (w : World) (hC : Has1 w (pb, #[.int .i64 e])) (hL : Has1 w (lp, #[.float .f64 ll, .float .f64 lh])) (n1 : pb ≠ lp)
    (cD : Hid (CE2 33 pb e e1 xl xh ll lh ql qh))
    (cM : Hid (∀ w, Calls Try.prog 40 #[.agg #[.float .f64 ql, .float .f64 qh], .agg #[.float .f64 13830554455654793216, .float .f64 4607182418800017408]] w fun r w' => r = .returned (.tuple #[.agg #[.float .f64 ml, .float .f64 mh], .bool b]) ∧ Below w.heap.size w w')) :
    Calls Try.prog 39 #[.agg #[.float .f64 xl, .float .f64 xh], .pointer (some ⟨pb, 0, none⟩), .pointer (some ⟨lp, 0, none⟩)] w fun r w' => r = .returned (.agg #[.float .f64 ml, .float .f64 mh]) ∧ Put ⟨pb, 0, none⟩ (.int .i64 e1) w w' := by
  have E := Lib.hid ((((EnvE.start hC).add hL n1).made #[.float .f64 xl, .float .f64 xh] 27).made #[.float .f64 0, .float .f64 0] 27)
  simp only [World.size_alloc] at E
  obtain ⟨k1, k2⟩ := (E.out.nth 1 rfl).two
  obtain ⟨k3, k4⟩ := (E.out.nth 2 rfl).two
  clear hC hL n1
  go_enter Try.func39, Try.ntmps39
  go_wp2_with fail
  refine (cD.out _ E.out.cal).mono ?_
  rintro r w1 ⟨rfl, hp⟩
  have E1 := Lib.hid (E.out.putc hp)
  clear E hp k1 k2 k3 k4
  go_wp2_with fail
  refine (cM.out _).mono ?_
  rintro r w2 ⟨rfl, hb⟩
  have E2 := Lib.hid ((E1.out.below hb).made #[.float .f64 ml, .float .f64 mh] 27)
  clear E1 hb
  obtain ⟨k1, k2⟩ := (E2.out.nth 0 rfl).two
  have kc := (E2.out.nth 1 rfl).2.1
  have kf := (E2.out.nth 1 rfl).2.2
  have F := Lib.hid (E2.out.set2 (E2.out.nth 1 rfl) (E2.out.ne 1 rfl) (by omega) (.float .f64 ml) (.float .f64 mh))
  go_wp2
  obtain ⟨f1, f2⟩ := (F.out.nth 0 rfl).two
  exact bodyPost_ret (v := .agg #[.float .f64 ml, .float .f64 mh]) (by simp [results, Try.results39, go_sem, f1, f2]) rfl ⟨rfl, F.out.put⟩

set_option maxRecDepth 100000 in
set_option maxHeartbeats 4000000 in
/-- The parts of a unit vector. -/
theorem each_unit (axl axh ayl ayh azl azh rxl rxh ryl ryh rzl rzh ll lh : Nat) (e e1 e2 e3 : Int) (pb lp : Nat) (w : World) (hC : Has1 w (pb, #[.int .i64 e])) (hP : Has1 w (lp, #[.float .f64 ll, .float .f64 lh])) (n1 : pb ≠ lp)
    (d1 : Hid (∀ v : World, Has1 v (pb, #[.int .i64 e]) → Has1 v (lp, #[.float .f64 ll, .float .f64 lh]) → pb ≠ lp → Calls Try.prog 39 #[.agg #[.float .f64 axl, .float .f64 axh], .pointer (some ⟨pb, 0, none⟩), .pointer (some ⟨lp, 0, none⟩)] v fun r w' => r = .returned (.agg #[.float .f64 rxl, .float .f64 rxh]) ∧ Put ⟨pb, 0, none⟩ (.int .i64 e1) v w')) (d2 : Hid (∀ v : World, Has1 v (pb, #[.int .i64 e1]) → Has1 v (lp, #[.float .f64 ll, .float .f64 lh]) → pb ≠ lp → Calls Try.prog 39 #[.agg #[.float .f64 ayl, .float .f64 ayh], .pointer (some ⟨pb, 0, none⟩), .pointer (some ⟨lp, 0, none⟩)] v fun r w' => r = .returned (.agg #[.float .f64 ryl, .float .f64 ryh]) ∧ Put ⟨pb, 0, none⟩ (.int .i64 e2) v w')) (d3 : Hid (∀ v : World, Has1 v (pb, #[.int .i64 e2]) → Has1 v (lp, #[.float .f64 ll, .float .f64 lh]) → pb ≠ lp → Calls Try.prog 39 #[.agg #[.float .f64 azl, .float .f64 azh], .pointer (some ⟨pb, 0, none⟩), .pointer (some ⟨lp, 0, none⟩)] v fun r w' => r = .returned (.agg #[.float .f64 rzl, .float .f64 rzh]) ∧ Put ⟨pb, 0, none⟩ (.int .i64 e3) v w')) :
    Calls Try.prog 38 #[.agg #[.float .f64 axl, .float .f64 axh, .float .f64 ayl, .float .f64 ayh, .float .f64 azl, .float .f64 azh], .func (.func 39) #[] #[.pointer (some ⟨pb, 0, none⟩), .pointer (some ⟨lp, 0, none⟩)]] w fun r w' => r = .returned (.agg #[.float .f64 rxl, .float .f64 rxh, .float .f64 ryl, .float .f64 ryh, .float .f64 rzl, .float .f64 rzh]) ∧ Put ⟨pb, 0, none⟩ (.int .i64 e3) w w' := by
  have E := Lib.hid (((((EnvE.start hC).add hP n1)).made #[.float .f64 axl, .float .f64 axh, .float .f64 ayl, .float .f64 ayh, .float .f64 azl, .float .f64 azh] 29).made #[.float .f64 0, .float .f64 0, .float .f64 0, .float .f64 0, .float .f64 0, .float .f64 0] 29)
  simp only [World.size_alloc] at E
  
  go_enter Try.func38, Try.ntmps38
  go_upto_region 1 with fail
  revert E
  generalize ((w.alloc (.cells #[.float .f64 axl, .float .f64 axh, .float .f64 ayl, .float .f64 ayh, .float .f64 azl, .float .f64 azh] 29)).alloc (.cells #[.float .f64 0, .float .f64 0, .float .f64 0, .float .f64 0, .float .f64 0, .float .f64 0] 29)) = W
  intro E
  obtain ⟨k1, k2, k3, k4, k5, k6⟩ := (E.out.nth 1 rfl).six; have kc := (E.out.nth 0 rfl).2.1; have kf := (E.out.nth 0 rfl).2.2
  go_region_held3 (fun w' => w'.cell? ⟨w.heap.size, 0, none⟩ = some (.float .f64 axl) ∧ w'.cell? ⟨w.heap.size, 1, none⟩ = some (.float .f64 axh) ∧ w'.cell? ⟨w.heap.size, 2, none⟩ = some (.float .f64 ayl) ∧ w'.cell? ⟨w.heap.size, 3, none⟩ = some (.float .f64 ayh) ∧ w'.cell? ⟨w.heap.size, 4, none⟩ = some (.float .f64 azl) ∧ w'.cell? ⟨w.heap.size, 5, none⟩ = some (.float .f64 azh)) (((try dsimp only); (repeat' apply And.intro); all_goals (repeat (first | (with_reducible assumption) | ((with_reducible refine keep_undrew ?_); (with_reducible assumption)) | (with_reducible refine keep_drew ?_) | (with_reducible refine keep_alloc _ ?_) | (with_reducible refine keep_set _ (by first | (with_reducible assumption) | omega) ?_)))))
    (first
      | (go_at_call 39; (with_reducible refine (d1.out _ E.out.drew.cal (E.out.drew.nth 2 rfl) (E.out.drew.ne 2 rfl)).mono ?_); rintro rr w5 ⟨rfl, hp⟩; have E' := Lib.hid (E.out.drew.putc hp); clear E hp k1 k2 k3 k4 k5 k6 kc kf; have E := E'; clear E'; obtain ⟨k1, k2, k3, k4, k5, k6⟩ := (E.out.nth 1 rfl).six; have kc := (E.out.nth 0 rfl).2.1; have kf := (E.out.nth 0 rfl).2.2)
      | (go_at_call 39; (with_reducible refine (d2.out _ E.out.cal (E.out.nth 2 rfl) (E.out.ne 2 rfl)).mono ?_); rintro rr w5 ⟨rfl, hp⟩; have E' := Lib.hid (E.out.putc hp); clear E hp k1 k2 k3 k4 k5 k6 kc kf; have E := E'; clear E'; obtain ⟨k1, k2, k3, k4, k5, k6⟩ := (E.out.nth 1 rfl).six; have kc := (E.out.nth 0 rfl).2.1; have kf := (E.out.nth 0 rfl).2.2)
      | (go_at_call 39; (with_reducible refine (d3.out _ E.out.cal (E.out.nth 2 rfl) (E.out.ne 2 rfl)).mono ?_); rintro rr w5 ⟨rfl, hp⟩; have E' := Lib.hid (E.out.putc hp); clear E hp k1 k2 k3 k4 k5 k6 kc kf; have E := E'; clear E'; obtain ⟨k1, k2, k3, k4, k5, k6⟩ := (E.out.nth 1 rfl).six; have kc := (E.out.nth 0 rfl).2.1; have kf := (E.out.nth 0 rfl).2.2))
  have F := Lib.hid (E.out.set6 (E.out.nth 0 rfl) (E.out.ne 0 rfl) (by omega) (.float .f64 rxl) (.float .f64 rxh) (.float .f64 ryl) (.float .f64 ryh) (.float .f64 rzl) (.float .f64 rzh))
  go_wp2
  obtain ⟨f1, f2, f3, f4, f5, f6⟩ := (F.out.nth 0 rfl).six
  exact bodyPost_ret (v := .agg #[.float .f64 rxl, .float .f64 rxh, .float .f64 ryl, .float .f64 ryh, .float .f64 rzl, .float .f64 rzh]) (by simp [results, Try.results38, go_sem, f1, f2, f3, f4, f5, f6]) rfl ⟨rfl, F.out.put⟩

end Go.Proofs.Ytdppppaoflhgdaa

namespace Go.Proofs.Ytdppppaoflhgdaa
open Go.RowKit
attribute [local go_sem] run_store_float

theorem run_max3 (a b c : Nat) (ha : a < 18446744073709551616) (hb : b < 18446744073709551616) (hc : c < 18446744073709551616) (ra : rightB a = true) (rb : rightB b = true) (rc : rightB c = true) (ts : Array TypeId) (t : TypeId) (w : World) :
    (Builtin.max_ ts t #[.float .f64 a, .float .f64 b, .float .f64 c]).run Try.prog w = .ok (.float .f64 (maxW (maxW a b) c)) w := by
  obtain ⟨m1, m2, _⟩ := max_facts a b ha hb ra rb
  have h1 := (run_less a b ha hb ra rb #[] 0 w).2
  have h2 := (run_less (maxW a b) c m1 hc m2 rc #[] 0 w).2
  simp [Builtin.max_] at h1 h2 ⊢
  simp [h1, h2]

theorem Has1.three {v : World} {b : Nat} {x y z : Value} (h : Has1 v (b, #[x, y, z])) : v.cell? ⟨b, 0, none⟩ = some x ∧ v.cell? ⟨b, 1, none⟩ = some y ∧ v.cell? ⟨b, 2, none⟩ = some z := ⟨h.2.1 0, h.2.1 1, h.2.1 2⟩

abbrev CalcR (x : Nat) (b : Bool) : Prop := ∀ w : World, Calls Try.prog 75 #[.float .f64 x] w fun r w' => r = .returned (.bool b) ∧ w = w'
abbrev CalcAbs (x r : Nat) : Prop := ∀ w : World, Calls Try.prog 14 #[.float .f64 x] w fun e w' => e = .returned (.float .f64 r) ∧ w = w'

set_option maxRecDepth 100000 in
theorem hasUnit_bad (x y z : Nat) (rx ry rz : Bool) (w : World) (h : Hid ((rx && ry && rz) = false)) (c1 : Hid (CalcR x rx)) (c2 : Hid (CalcR y ry)) (c3 : Hid (CalcR z rz)) :
    Calls Try.prog 36 #[.agg #[.float .f64 x, .float .f64 y, .float .f64 z]] w fun r w' => r = .returned (.bool false) ∧ Below w.heap.size w w' := by
  have M := Lib.hid ((Own.nil w).made #[.float .f64 x, .float .f64 y, .float .f64 z] 24)
  obtain ⟨k1, k2, k3⟩ := (M.out.nth 0 rfl).three
  cases rx
  · go_enter Try.func36, Try.ntmps36
    go_wp2_with fail
    refine (c1.out _).mono ?_
    rintro r ww ⟨rfl, rfl⟩
    go_wp2
    go_ret
    exact ⟨rfl, M.out.base⟩
  · cases ry
    · go_enter Try.func36, Try.ntmps36
      go_wp2_with fail
      refine (c1.out _).mono ?_
      rintro r ww ⟨rfl, rfl⟩
      go_wp2_with fail
      refine (c2.out _).mono ?_
      rintro r ww ⟨rfl, rfl⟩
      go_wp2
      go_ret
      exact ⟨rfl, M.out.base⟩
    · obtain rfl : rz = false := h.out
      go_enter Try.func36, Try.ntmps36
      go_wp2_with fail
      refine (c1.out _).mono ?_
      rintro r ww ⟨rfl, rfl⟩
      go_wp2_with fail
      refine (c2.out _).mono ?_
      rintro r ww ⟨rfl, rfl⟩
      go_wp2_with fail
      refine (c3.out _).mono ?_
      rintro r ww ⟨rfl, rfl⟩
      go_wp2
      go_ret
      exact ⟨rfl, M.out.base⟩

set_option maxRecDepth 100000 in
set_option maxHeartbeats 4000000 in
theorem hasUnit_walk (x y z p q s m : Nat) (b1 b2 : Bool) (w : World) (c1 : Hid (CalcR x true)) (c2 : Hid (CalcR y true)) (c3 : Hid (CalcR z true))
    (a1 : Hid (CalcAbs x p)) (a2 : Hid (CalcAbs y q)) (a3 : Hid (CalcAbs z s)) (hm : ∀ ts t w, (Builtin.max_ ts t #[.float .f64 p, .float .f64 q, .float .f64 s]).run Try.prog w = .ok (.float .f64 m) w)
    (o1 : ((FloatKind.f64.format.order 4318952042648305664 m == some Ordering.lt) || (FloatKind.f64.format.order 4318952042648305664 m == some Ordering.eq)) = b1)
    (o2 : ((FloatKind.f64.format.order m 4895412794951729152 == some Ordering.lt) || (FloatKind.f64.format.order m 4895412794951729152 == some Ordering.eq)) = b2) :
    Calls Try.prog 36 #[.agg #[.float .f64 x, .float .f64 y, .float .f64 z]] w fun r w' => r = .returned (.bool (b1 && b2)) ∧ Below w.heap.size w w' := by
  have M := Lib.hid ((Own.nil w).made #[.float .f64 x, .float .f64 y, .float .f64 z] 24)
  obtain ⟨k1, k2, k3⟩ := (M.out.nth 0 rfl).three
  go_enter Try.func36, Try.ntmps36
  go_wp2_with fail
  refine (c1.out _).mono ?_
  rintro r ww ⟨rfl, rfl⟩
  go_wp2_with fail
  refine (c2.out _).mono ?_
  rintro r ww ⟨rfl, rfl⟩
  go_wp2_with fail
  refine (c3.out _).mono ?_
  rintro r ww ⟨rfl, rfl⟩
  go_upto_region 3 with fail
  clear c1 c2 c3
  revert M k1 k2 k3
  generalize w.alloc (.cells #[.float .f64 x, .float .f64 y, .float .f64 z] 24) = W
  intro M k1 k2 k3
  go_region_held3 (fun w' => w'.cell? ⟨w.heap.size, 0, none⟩ = some (.float .f64 x) ∧ w'.cell? ⟨w.heap.size, 1, none⟩ = some (.float .f64 y) ∧ w'.cell? ⟨w.heap.size, 2, none⟩ = some (.float .f64 z)) (((try dsimp only); (repeat' apply And.intro); all_goals (repeat (first | (with_reducible assumption) | ((with_reducible refine keep_undrew ?_); (with_reducible assumption)) | (with_reducible refine keep_drew ?_)))))
    (first
      | (go_at_call 14; (with_reducible refine (a1.out _).mono ?_); rintro rr w5 ⟨rfl, rfl⟩)
      | (go_at_call 14; (with_reducible refine (a2.out _).mono ?_); rintro rr w5 ⟨rfl, rfl⟩)
      | (go_at_call 14; (with_reducible refine (a3.out _).mono ?_); rintro rr w5 ⟨rfl, rfl⟩))
  cases b1
  · go_wp2
    go_ret
    exact ⟨rfl, M.out.base.drew⟩
  · go_wp2
    go_ret
    exact ⟨by rw [← o2]; rfl, M.out.base.drew⟩

end Go.Proofs.Ytdppppaoflhgdaa

namespace Go.Proofs.Ytdppppaoflhgdaa
open Go.RowKit
attribute [local go_sem] run_store_float

abbrev CalcV (f : FuncId) (pb : Nat) (a0 a1 a2 a3 a4 a5 nl nh : Nat) : Prop := ∀ v : World, Has1 v (pb, #[.int .i64 0]) → Calls Try.prog f #[.pointer (some ⟨pb, 0, none⟩), .agg #[.float .f64 a0, .float .f64 a1, .float .f64 a2, .float .f64 a3, .float .f64 a4, .float .f64 a5]] v fun r w' => r = .returned (.agg #[.float .f64 nl, .float .f64 nh]) ∧ Put ⟨pb, 0, none⟩ (.int .i64 0) v w'

/-- Region 4 of Unit: three numbers, and a block, made at any time. -/
def UnitJ (w : World) (x y z pb : Nat) (a0 : Act) (k : Nat) (p : List (Option Nat)) (a : Act) (v : World) : Prop :=
  ∃ y1 y2 y3 y4 z1 : Value, a = (((((a0.put (some 13) y1).put (some 16) y2).put (some 19) y3).put (some 20) y4).put (some 5) z1) ∧
    (0 < k → y1 = .agg #[.float .f64 x, .float .f64 x]) ∧
    (1 < k → y2 = .agg #[.float .f64 y, .float .f64 y]) ∧
    (2 < k → y3 = .agg #[.float .f64 z, .float .f64 z]) ∧
    (3 < k → y4 = .agg #[.float .f64 x, .float .f64 x, .float .f64 y, .float .f64 y, .float .f64 z, .float .f64 z]) ∧
    (∀ q, p[0]? = some (some q) → z1 = .pointer (some ⟨q, 0, none⟩)) ∧
    OwnF w [(pb, #[.int .i64 0]), (w.heap.size + 1, #[.float .f64 0, .float .f64 0, .float .f64 0, .float .f64 0, .float .f64 0, .float .f64 0]), (w.heap.size, #[.float .f64 x, .float .f64 y, .float .f64 z])] [#[.float .f64 0, .float .f64 0, .float .f64 0, .float .f64 0, .float .f64 0, .float .f64 0]] p v

theorem UnitJ_0 {w : World} {x y z pb : Nat} {a0 a : Act} {p : List (Option Nat)} {v : World} (h : UnitJ w x y z pb a0 0 p a v) :
    ∃ y1 y2 y3 y4 z1 : Value, a = (((((a0.put (some 13) y1).put (some 16) y2).put (some 19) y3).put (some 20) y4).put (some 5) z1) ∧ (∀ q, p[0]? = some (some q) → z1 = .pointer (some ⟨q, 0, none⟩)) ∧ OwnF w [(pb, #[.int .i64 0]), (w.heap.size + 1, #[.float .f64 0, .float .f64 0, .float .f64 0, .float .f64 0, .float .f64 0, .float .f64 0]), (w.heap.size, #[.float .f64 x, .float .f64 y, .float .f64 z])] [#[.float .f64 0, .float .f64 0, .float .f64 0, .float .f64 0, .float .f64 0, .float .f64 0]] p v := by
  obtain ⟨y1, y2, y3, y4, z1, ha, hhe1, hhe2, hhe3, hhe4, hhg1, h⟩ := h
  exact ⟨y1, y2, y3, y4, z1, ha, hhg1, h⟩
theorem UnitJ_1 {w : World} {x y z pb : Nat} {a0 a : Act} {p : List (Option Nat)} {v : World} (h : UnitJ w x y z pb a0 1 p a v) :
    ∃ y2 y3 y4 z1 : Value, a = (((((a0.put (some 13) (.agg #[.float .f64 x, .float .f64 x])).put (some 16) y2).put (some 19) y3).put (some 20) y4).put (some 5) z1) ∧ (∀ q, p[0]? = some (some q) → z1 = .pointer (some ⟨q, 0, none⟩)) ∧ OwnF w [(pb, #[.int .i64 0]), (w.heap.size + 1, #[.float .f64 0, .float .f64 0, .float .f64 0, .float .f64 0, .float .f64 0, .float .f64 0]), (w.heap.size, #[.float .f64 x, .float .f64 y, .float .f64 z])] [#[.float .f64 0, .float .f64 0, .float .f64 0, .float .f64 0, .float .f64 0, .float .f64 0]] p v := by
  obtain ⟨y1, y2, y3, y4, z1, ha, hhe1, hhe2, hhe3, hhe4, hhg1, h⟩ := h
  obtain rfl := hhe1 (by decide)
  exact ⟨y2, y3, y4, z1, ha, hhg1, h⟩
theorem UnitJ_2 {w : World} {x y z pb : Nat} {a0 a : Act} {p : List (Option Nat)} {v : World} (h : UnitJ w x y z pb a0 2 p a v) :
    ∃ y3 y4 z1 : Value, a = (((((a0.put (some 13) (.agg #[.float .f64 x, .float .f64 x])).put (some 16) (.agg #[.float .f64 y, .float .f64 y])).put (some 19) y3).put (some 20) y4).put (some 5) z1) ∧ (∀ q, p[0]? = some (some q) → z1 = .pointer (some ⟨q, 0, none⟩)) ∧ OwnF w [(pb, #[.int .i64 0]), (w.heap.size + 1, #[.float .f64 0, .float .f64 0, .float .f64 0, .float .f64 0, .float .f64 0, .float .f64 0]), (w.heap.size, #[.float .f64 x, .float .f64 y, .float .f64 z])] [#[.float .f64 0, .float .f64 0, .float .f64 0, .float .f64 0, .float .f64 0, .float .f64 0]] p v := by
  obtain ⟨y1, y2, y3, y4, z1, ha, hhe1, hhe2, hhe3, hhe4, hhg1, h⟩ := h
  obtain rfl := hhe1 (by decide)
  obtain rfl := hhe2 (by decide)
  exact ⟨y3, y4, z1, ha, hhg1, h⟩
theorem UnitJ_3 {w : World} {x y z pb : Nat} {a0 a : Act} {p : List (Option Nat)} {v : World} (h : UnitJ w x y z pb a0 3 p a v) :
    ∃ y4 z1 : Value, a = (((((a0.put (some 13) (.agg #[.float .f64 x, .float .f64 x])).put (some 16) (.agg #[.float .f64 y, .float .f64 y])).put (some 19) (.agg #[.float .f64 z, .float .f64 z])).put (some 20) y4).put (some 5) z1) ∧ (∀ q, p[0]? = some (some q) → z1 = .pointer (some ⟨q, 0, none⟩)) ∧ OwnF w [(pb, #[.int .i64 0]), (w.heap.size + 1, #[.float .f64 0, .float .f64 0, .float .f64 0, .float .f64 0, .float .f64 0, .float .f64 0]), (w.heap.size, #[.float .f64 x, .float .f64 y, .float .f64 z])] [#[.float .f64 0, .float .f64 0, .float .f64 0, .float .f64 0, .float .f64 0, .float .f64 0]] p v := by
  obtain ⟨y1, y2, y3, y4, z1, ha, hhe1, hhe2, hhe3, hhe4, hhg1, h⟩ := h
  obtain rfl := hhe1 (by decide)
  obtain rfl := hhe2 (by decide)
  obtain rfl := hhe3 (by decide)
  exact ⟨y4, z1, ha, hhg1, h⟩
theorem UnitJ_fin {w : World} {x y z pb : Nat} {qq1 : Nat} {a0 a : Act} {v : World} (h : UnitJ w x y z pb a0 4 [some qq1] a v) :
    a = (((((a0.put (some 13) (.agg #[.float .f64 x, .float .f64 x])).put (some 16) (.agg #[.float .f64 y, .float .f64 y])).put (some 19) (.agg #[.float .f64 z, .float .f64 z])).put (some 20) (.agg #[.float .f64 x, .float .f64 x, .float .f64 y, .float .f64 y, .float .f64 z, .float .f64 z])).put (some 5) (.pointer (some ⟨qq1, 0, none⟩))) ∧ OwnF w [(pb, #[.int .i64 0]), (w.heap.size + 1, #[.float .f64 0, .float .f64 0, .float .f64 0, .float .f64 0, .float .f64 0, .float .f64 0]), (w.heap.size, #[.float .f64 x, .float .f64 y, .float .f64 z])] [#[.float .f64 0, .float .f64 0, .float .f64 0, .float .f64 0, .float .f64 0, .float .f64 0]] [some qq1] v := by
  obtain ⟨y1, y2, y3, y4, z1, ha, hhe1, hhe2, hhe3, hhe4, hhg1, h⟩ := h
  obtain rfl := hhe1 (by decide)
  obtain rfl := hhe2 (by decide)
  obtain rfl := hhe3 (by decide)
  obtain rfl := hhe4 (by decide)
  obtain rfl := hhg1 _ rfl
  exact ⟨ha, h⟩

set_option maxRecDepth 100000 in
set_option maxHeartbeats 4000000 in
theorem unit_walk (x y z nl nh ul uh vl vh tl th : Nat) (w : World)
    (cU : Hid (∀ w, Calls Try.prog 36 #[.agg #[.float .f64 x, .float .f64 y, .float .f64 z]] w fun r w' => r = .returned (.bool true) ∧ Below w.heap.size w w'))
    (c1 : Hid (∀ pb, CalcN pb x)) (c2 : Hid (∀ pb, CalcN pb y)) (c3 : Hid (∀ pb, CalcN pb z)) (cN : Hid (∀ pb, CalcV 37 pb x x y y z z nl nh))
    (cE : Hid (∀ (pb lp : Nat) (v : World), Has1 v (pb, #[.int .i64 0]) → Has1 v (lp, #[.float .f64 nl, .float .f64 nh]) → pb ≠ lp → Calls Try.prog 38 #[.agg #[.float .f64 x, .float .f64 x, .float .f64 y, .float .f64 y, .float .f64 z, .float .f64 z], .func (.func 39) #[] #[.pointer (some ⟨pb, 0, none⟩), .pointer (some ⟨lp, 0, none⟩)]] v fun r w' => r = .returned (.agg #[.float .f64 ul, .float .f64 uh, .float .f64 vl, .float .f64 vh, .float .f64 tl, .float .f64 th]) ∧ Put ⟨pb, 0, none⟩ (.int .i64 0) v w')) :
    Calls Try.prog 8 #[.agg #[.float .f64 x, .float .f64 y, .float .f64 z]] w fun r w' => r = .returned (.tuple #[.agg #[.float .f64 ul, .float .f64 uh, .float .f64 vl, .float .f64 vh, .float .f64 tl, .float .f64 th], .int .i64 0]) ∧ Below w.heap.size w w' := by
  have M := Lib.hid (((Own.nil w).made #[.float .f64 x, .float .f64 y, .float .f64 z] 24).made #[.float .f64 0, .float .f64 0, .float .f64 0, .float .f64 0, .float .f64 0, .float .f64 0] 29)
  simp only [World.size_alloc] at M
  obtain ⟨k1, k2, k3⟩ := (M.out.nth 1 rfl).three
  go_enter Try.func8, Try.ntmps8
  go_wp2_with fail
  refine (cU.out _).mono ?_
  rintro r w1 ⟨rfl, hb⟩
  have M0 := Lib.hid (M.out.below hb)
  clear hb k1 k2 k3 M cU
  go_upto_region 4 with fail
  have M := Lib.hid ((M0.out.made #[.int .i64 0] 38).drew)
  clear M0
  obtain ⟨k1, k2, k3⟩ := (M.out.nth 2 rfl).three
  refine wp_region_noPanic ?_
  refine tails_region (S := fun w' => w'.cell? ⟨w.heap.size, 0, none⟩ = some (.float .f64 x) ∧ w'.cell? ⟨w.heap.size, 1, none⟩ = some (.float .f64 y) ∧ w'.cell? ⟨w.heap.size, 2, none⟩ = some (.float .f64 z)) [11] (by kernel_rfl) ?_ (fun hS => ?_)
  · exact ⟨k1, k2, k3⟩
  refine tails_take (T := [11]) (i := 0) (o := _) (x := ?_) rfl (by kernel_rfl) (by kernel_rfl) (by kernel_rfl) (by kernel_rfl) (fun _ _ _ h => h) (Or.inl ⟨by rfl, ?_⟩) (by assumption) ?_
  rotate_left; focus (intro w hSw; (try dsimp only at hSw); go_simp; first | done | with_reducible rfl)
  refine tails_take (T := [11]) (i := 1) (o := _) (x := ?_) rfl (by kernel_rfl) (by kernel_rfl) (by kernel_rfl) (by kernel_rfl) (fun _ _ _ h => h) (Or.inl ⟨by rfl, ?_⟩) (by assumption) ?_
  rotate_left; focus (intro w hSw; (try dsimp only at hSw); go_simp; first | done | with_reducible rfl)
  refine tails_take (T := [11]) (i := 3) (o := _) (x := ?_) rfl (by kernel_rfl) (by kernel_rfl) (by kernel_rfl) (by kernel_rfl) (fun _ _ _ h => h) (Or.inl ⟨by rfl, ?_⟩) (by assumption) ?_
  rotate_left; focus (intro w hSw; (try dsimp only at hSw); go_simp; first | done | with_reducible rfl)
  refine tails_take (T := [11]) (i := 4) (o := _) (x := ?_) rfl (by kernel_rfl) (by kernel_rfl) (by kernel_rfl) (by kernel_rfl) (fun _ _ _ h => h) (Or.inl ⟨by rfl, ?_⟩) (by assumption) ?_
  rotate_left; focus (intro w hSw; (try dsimp only at hSw); go_simp; first | done | with_reducible rfl)
  refine tails_take (T := [11]) (i := 6) (o := _) (x := ?_) rfl (by kernel_rfl) (by kernel_rfl) (by kernel_rfl) (by kernel_rfl) (fun _ _ _ h => h) (Or.inl ⟨by rfl, ?_⟩) (by assumption) ?_
  rotate_left; focus (intro w hSw; (try dsimp only at hSw); go_simp; first | done | with_reducible rfl)
  refine tails_take (T := [11]) (i := 7) (o := _) (x := ?_) rfl (by kernel_rfl) (by kernel_rfl) (by kernel_rfl) (by kernel_rfl) (fun _ _ _ h => h) (Or.inl ⟨by rfl, ?_⟩) (by assumption) ?_
  rotate_left; focus (intro w hSw; (try dsimp only at hSw); go_simp; first | done | with_reducible rfl)
  conv => arg 9; simp only [Act.put, go_sem]
  refine lat_4_1 (T := [11]) 2 5 8 9 10 [13, 16, 19, 20, 5] 1 (UnitJ w x y z w1.heap.size) (by kernel_rfl) (by kernel_rfl) ?_ ?_ ?_ ?_ ?_ ?_ ?_ ?_
  · intro A hA
    obtain ⟨y1, hq1⟩ := put_ex (hA 13 (by simp))
    obtain ⟨y2, hq2⟩ := put_ex (hA 16 (by simp))
    obtain ⟨y3, hq3⟩ := put_ex (hA 19 (by simp))
    obtain ⟨y4, hq4⟩ := put_ex (hA 20 (by simp))
    obtain ⟨z1, hq5⟩ := put_ex (hA 5 (by simp))
    exact ⟨y1, y2, y3, y4, z1, by rw [hq1, hq2, hq3, hq4, hq5], by omega, by omega, by omega, by omega, by simp, OwnF.start M.out 1⟩
  · rintro k p a v ⟨y1, y2, y3, y4, z1, _, _, _, _, _, _, h⟩
    exact (h.own.nth 2 rfl).three
  · intro p a v hJ
    refine op_step (o := _) rfl (fun K hK => ?_)
    obtain ⟨y1, y2, y3, y4, z1, rfl, gg1, h⟩ := UnitJ_0 hJ
    have h := Lib.hid h
    clear hJ
    go_simp
    refine (c1.out _ _ (h.out.own.nth 0 rfl)).mono ?_
    rintro rr w5 ⟨rfl, hp⟩
    try go_wp2_with fail
    refine hK.out _ _ ⟨.agg #[.float .f64 x, .float .f64 x], y2, y3, y4, z1, ?_, fun _ => rfl, by omega, by omega, by omega, gg1, h.out.putAt 0 rfl hp⟩
    kernel_rfl
  · intro p a v hJ
    refine op_step (o := _) rfl (fun K hK => ?_)
    obtain ⟨y2, y3, y4, z1, rfl, gg1, h⟩ := UnitJ_1 hJ
    have h := Lib.hid h
    clear hJ
    go_simp
    refine (c2.out _ _ (h.out.own.nth 0 rfl)).mono ?_
    rintro rr w5 ⟨rfl, hp⟩
    try go_wp2_with fail
    refine hK.out _ _ ⟨.agg #[.float .f64 x, .float .f64 x], .agg #[.float .f64 y, .float .f64 y], y3, y4, z1, ?_, fun _ => rfl, fun _ => rfl, by omega, by omega, gg1, h.out.putAt 0 rfl hp⟩
    kernel_rfl
  · intro p a v hJ
    refine op_step (o := _) rfl (fun K hK => ?_)
    obtain ⟨y3, y4, z1, rfl, gg1, h⟩ := UnitJ_2 hJ
    have h := Lib.hid h
    clear hJ
    go_simp
    refine (c3.out _ _ (h.out.own.nth 0 rfl)).mono ?_
    rintro rr w5 ⟨rfl, hp⟩
    try go_wp2_with fail
    refine hK.out _ _ ⟨.agg #[.float .f64 x, .float .f64 x], .agg #[.float .f64 y, .float .f64 y], .agg #[.float .f64 z, .float .f64 z], y4, z1, ?_, fun _ => rfl, fun _ => rfl, fun _ => rfl, by omega, gg1, h.out.putAt 0 rfl hp⟩
    kernel_rfl
  · intro p a v hJ
    refine op_step (o := _) rfl (fun K hK => ?_)
    obtain ⟨y4, z1, rfl, gg1, h⟩ := UnitJ_3 hJ
    have h := Lib.hid h
    clear hJ
    go_simp
    refine hK.out _ _ ⟨.agg #[.float .f64 x, .float .f64 x], .agg #[.float .f64 y, .float .f64 y], .agg #[.float .f64 z, .float .f64 z], .agg #[.float .f64 x, .float .f64 x, .float .f64 y, .float .f64 y, .float .f64 z, .float .f64 z], z1, ?_, fun _ => rfl, fun _ => rfl, fun _ => rfl, fun _ => rfl, gg1, h.out⟩
    kernel_rfl
  · intro k p a v hp hJ
    refine op_step (o := _) rfl (fun K hK => ?_)
    obtain ⟨y1, y2, y3, y4, z1, rfl, ee1, ee2, ee3, ee4, gg1, h⟩ := hJ
    have h := Lib.hid h
    go_simp
    refine hK.out _ _ ⟨v.heap.size, y1, y2, y3, y4, .pointer (some ⟨v.heap.size, 0, none⟩), ?_, ee1, ee2, ee3, ee4, fun q hq => ptr_set hq, h.out.alloc hp rfl _⟩
    kernel_rfl
  · intro pq1 a v hJ
    obtain ⟨rfl, h⟩ := UnitJ_fin hJ
    clear hJ
    replace M := Lib.hid h.fin1
    clear h
    refine tails_one (T := [11]) (i := 11) (o := _) rfl (by kernel_rfl) (fun K hK => ?_)
    have kc := (M.out.nth 0 rfl).2.1
    have kf := (M.out.nth 0 rfl).2.2
    replace M := Lib.hid (M.out.set6 0 rfl (.float .f64 x) (.float .f64 x) (.float .f64 y) (.float .f64 y) (.float .f64 z) (.float .f64 z))
    go_simp
    refine hK.out _ _ (Or.inl (by decide)) (fun hHeld => ?_)
    clear hK K hHeld kc kf
    refine tails_done (by kernel_rfl) ?_ _
    refine NoPanic.normal ?_
    obtain ⟨k1, k2, k3, k4, k5, k6⟩ := (M.out.nth 0 rfl).six
    go_wp2_with fail
    refine (cN.out _ _ (M.out.nth 1 rfl)).mono ?_
    rintro r w2 ⟨rfl, hp⟩
    replace M := Lib.hid ((M.out.putAt 1 rfl hp).made #[.float .f64 nl, .float .f64 nh] 27)
    clear hp
    obtain ⟨k1, k2, k3, k4, k5, k6⟩ := (M.out.nth 1 rfl).six
    go_wp2_with fail
    refine (cE.out _ _ _ (M.out.nth 2 rfl) (M.out.nth 0 rfl) (M.out.ne 2 0 rfl rfl (by decide))).mono ?_
    rintro r w3 ⟨rfl, hp⟩
    replace M := Lib.hid (M.out.putAt 2 rfl hp)
    clear hp
    have kc := (M.out.nth 3 rfl).2.1
    have kf := (M.out.nth 3 rfl).2.2
    replace M := Lib.hid (M.out.set6 3 rfl (.float .f64 ul) (.float .f64 uh) (.float .f64 vl) (.float .f64 vh) (.float .f64 tl) (.float .f64 th))
    go_wp2
    obtain ⟨f1, f2, f3, f4, f5, f6⟩ := (M.out.nth 3 rfl).six
    exact bodyPost_ret (v := .tuple #[.agg #[.float .f64 ul, .float .f64 uh, .float .f64 vl, .float .f64 vh, .float .f64 tl, .float .f64 th], .int .i64 0]) (by simp [results, Try.results8, go_sem, f1, f2, f3, f4, f5, f6]) rfl ⟨rfl, M.out.base⟩

set_option maxRecDepth 100000 in
set_option maxHeartbeats 1000000 in
theorem unit_none (x y z : Nat) (w : World)
    (cU : Hid (∀ w, Calls Try.prog 36 #[.agg #[.float .f64 x, .float .f64 y, .float .f64 z]] w fun r w' => r = .returned (.bool false) ∧ Below w.heap.size w w')) :
    Calls Try.prog 8 #[.agg #[.float .f64 x, .float .f64 y, .float .f64 z]] w fun r w' => r = .returned (.tuple #[.agg #[.float .f64 0, .float .f64 0, .float .f64 0, .float .f64 0, .float .f64 0, .float .f64 0], .int .i64 50]) ∧ Below w.heap.size w w' := by
  have M := Lib.hid (((Own.nil w).made #[.float .f64 x, .float .f64 y, .float .f64 z] 24).made #[.float .f64 0, .float .f64 0, .float .f64 0, .float .f64 0, .float .f64 0, .float .f64 0] 29)
  simp only [World.size_alloc] at M
  obtain ⟨k1, k2, k3⟩ := (M.out.nth 1 rfl).three
  go_enter Try.func8, Try.ntmps8
  go_wp2_with fail
  refine (cU.out _).mono ?_
  rintro r w1 ⟨rfl, hb⟩
  replace M := Lib.hid (M.out.below hb)
  clear hb k1 k2 k3 cU
  have kc := (M.out.nth 0 rfl).2.1
  have kf := (M.out.nth 0 rfl).2.2
  replace M := Lib.hid (M.out.set6 0 rfl (.float .f64 0) (.float .f64 0) (.float .f64 0) (.float .f64 0) (.float .f64 0) (.float .f64 0))
  go_wp2
  obtain ⟨f1, f2, f3, f4, f5, f6⟩ := (M.out.nth 0 rfl).six
  exact bodyPost_ret (v := .tuple #[.agg #[.float .f64 0, .float .f64 0, .float .f64 0, .float .f64 0, .float .f64 0, .float .f64 0], .int .i64 50]) (by simp [results, Try.results8, go_sem, f1, f2, f3, f4, f5, f6]) rfl ⟨rfl, M.out.base⟩

end Go.Proofs.Ytdppppaoflhgdaa

namespace Go.Proofs.Ytdppppaoflhgdaa
open Go.RowKit
attribute [local go_sem] run_store_float

set_option maxRecDepth 100000 in
/-- Intervals are compared end by end. -/
theorem run_eq_iv (a b c d : Nat) (w : World) : (Op.equalIn 10000 27 (.agg #[.float .f64 a, .float .f64 b]) (.agg #[.float .f64 c, .float .f64 d])).run Try.prog w = .ok (Op.floatEq .f64 a c && Op.floatEq .f64 b d) w := by
  have hu := run_underlying Try.underlying27 (w := w)
  show (Op.equalIn (9999 + 1) 27 _ _).run Try.prog w = _
  rw [Op.equalIn]
  simp only [Sem.run_bind, hu, Result.andThen]
  have hf := run_underlying Try.underlying22 (w := w)
  have e : ∀ (x y : Nat), (Op.equalIn 9999 22 (.float .f64 x) (.float .f64 y)).run Try.prog w = .ok (Op.floatEq .f64 x y) w := fun x y => by
    show (Op.equalIn (9998 + 1) 22 _ _).run Try.prog w = _
    rw [Op.equalIn]
    simp only [Sem.run_bind, hf, Result.andThen]
    simp [go_sem]
  have hs : Try.prog.stoodInHeld 27 = false := by kernel_rfl
  simp [hs, Result.andThen, go_sem, e, part]
  cases Op.floatEq .f64 a c <;> simp [go_sem, e]
  cases Op.floatEq .f64 b d <;> simp [go_sem]

set_option maxRecDepth 100000 in
set_option maxHeartbeats 400000 in
theorem at_any (x y z : Nat) (w : World) : Calls Try.prog 41 #[.float .f64 x, .float .f64 y, .float .f64 z] w fun r w' => r = .returned (.agg #[.float .f64 x, .float .f64 x, .float .f64 y, .float .f64 y, .float .f64 z, .float .f64 z]) ∧ Below w.heap.size w w' := by
  have M := Lib.hid ((Own.nil w).made #[.float .f64 x, .float .f64 x, .float .f64 y, .float .f64 y, .float .f64 z, .float .f64 z] 29)
  go_enter Try.func41, Try.ntmps41
  go_wp2
  obtain ⟨f1, f2, f3, f4, f5, f6⟩ := (M.out.nth 0 rfl).six
  exact bodyPost_ret (v := .agg #[.float .f64 x, .float .f64 x, .float .f64 y, .float .f64 y, .float .f64 z, .float .f64 z]) (by simp [results, Try.results41, go_sem, f1, f2, f3, f4, f5, f6]) rfl ⟨rfl, M.out.base⟩

set_option maxRecDepth 100000 in
set_option maxHeartbeats 1000000 in
/-- A vector is the same as itself. -/
theorem sameV_any (a b c d e f : Nat) (w : World) : Calls Try.prog 11 #[.agg #[.float .f64 a, .float .f64 b, .float .f64 c, .float .f64 d, .float .f64 e, .float .f64 f], .agg #[.float .f64 a, .float .f64 b, .float .f64 c, .float .f64 d, .float .f64 e, .float .f64 f]] w fun r w' => r = .returned (.bool true) ∧ Below w.heap.size w w' := by
  have M := Lib.hid (((Own.nil w).made #[.float .f64 a, .float .f64 b, .float .f64 c, .float .f64 d, .float .f64 e, .float .f64 f] 29).made #[.float .f64 a, .float .f64 b, .float .f64 c, .float .f64 d, .float .f64 e, .float .f64 f] 29)
  simp only [World.size_alloc] at M
  obtain ⟨k1, k2, k3, k4, k5, k6⟩ := (M.out.nth 0 rfl).six
  obtain ⟨k7, k8, k9, k10, k11, k12⟩ := (M.out.nth 1 rfl).six
  go_enter Try.func11, Try.ntmps11
  go_wp2_with fail
  refine (l_same _ _ _).mono ?_
  rintro r w1 ⟨rfl, hb⟩
  replace M := Lib.hid (M.out.below hb)
  clear hb k1 k2 k3 k4 k5 k6 k7 k8 k9 k10 k11 k12
  obtain ⟨k1, k2, k3, k4, k5, k6⟩ := (M.out.nth 0 rfl).six
  obtain ⟨k7, k8, k9, k10, k11, k12⟩ := (M.out.nth 1 rfl).six
  go_wp2_with fail
  refine (l_same _ _ _).mono ?_
  rintro r w2 ⟨rfl, hb⟩
  replace M := Lib.hid (M.out.below hb)
  clear hb k1 k2 k3 k4 k5 k6 k7 k8 k9 k10 k11 k12
  obtain ⟨k1, k2, k3, k4, k5, k6⟩ := (M.out.nth 0 rfl).six
  obtain ⟨k7, k8, k9, k10, k11, k12⟩ := (M.out.nth 1 rfl).six
  go_wp2_with fail
  refine (l_same _ _ _).mono ?_
  rintro r w3 ⟨rfl, hb⟩
  go_wp2
  go_ret
  exact ⟨rfl, M.out.base.trans (hb.mono M.out.base.size)⟩

def at3 (x y z : Nat) : V3 := ⟨oneR x, oneR y, oneR z⟩
def unitPart (x : Nat) (n : Res) : Res := boundR (divR (oneR x) n)
def unitN (x y z : Nat) : Res := normV 0 (at3 x y z)
def unitV (x y z : Nat) : V3 := ⟨unitPart x (unitN x y z), unitPart y (unitN x y z), unitPart z (unitN x y z)⟩

def mostW (x y z : Nat) : Nat := maxW (maxW (rung x) (rung y)) (rung z)
def hasU (x y z : Nat) : Bool := rightB x && rightB y && rightB z && (leB 4318952042648305664 (mostW x y z) && leB (mostW x y z) 4895412794951729152)

theorem rung_right (x : Nat) (h : rightB x = true) : rung x < 18446744073709551616 ∧ rightB (rung x) = true := by
  have h1 := right_rung x h
  obtain ⟨p1, p2, _⟩ := pos_facts (rung x) h1
  exact ⟨p1, p2⟩
theorem hasUnit_any (x y z : Nat) (w : World) (lx : x < 18446744073709551616) (ly : y < 18446744073709551616) (lz : z < 18446744073709551616) :
    Calls Try.prog 36 #[.agg #[.float .f64 x, .float .f64 y, .float .f64 z]] w fun r w' => r = .returned (.bool (hasU x y z)) ∧ Below w.heap.size w w' := by
  have c1 := Lib.hid (fun w => right_any x w lx)
  have c2 := Lib.hid (fun w => right_any y w ly)
  have c3 := Lib.hid (fun w => right_any z w lz)
  cases h : (rightB x && rightB y && rightB z)
  · have e : hasU x y z = false := by unfold hasU; rw [h, Bool.false_and]
    rw [e]
    exact hasUnit_bad x y z _ _ _ w (Lib.hid h) c1 c2 c3
  · have e : hasU x y z = (leB 4318952042648305664 (mostW x y z) && leB (mostW x y z) 4895412794951729152) := by unfold hasU; rw [h, Bool.true_and]
    rw [e]
    rw [Bool.and_eq_true, Bool.and_eq_true] at h
    obtain ⟨⟨h1, h2⟩, h3⟩ := h
    rw [h1] at c1
    rw [h2] at c2
    rw [h3] at c3
    obtain ⟨p1, p2⟩ := rung_right x h1
    obtain ⟨q1, q2⟩ := rung_right y h2
    obtain ⟨s1, s2⟩ := rung_right z h3
    obtain ⟨m1, m2, _⟩ := max_facts _ _ p1 q1 p2 q2
    obtain ⟨n1, n2, _⟩ := max_facts _ _ m1 s1 m2 s2
    exact hasUnit_walk x y z (rung x) (rung y) (rung z) (mostW x y z) _ _ w c1 c2 c3 (Lib.hid fun w => abs_any x w lx) (Lib.hid fun w => abs_any y w ly) (Lib.hid fun w => abs_any z w lz) (fun ts t w => run_max3 _ _ _ p1 q1 s1 p2 q2 s2 ts t w) (order_le _ _ (by decide) n1 (by decide) n2) (order_le _ _ n1 (by decide) n2 (by decide))

theorem one_wd {x : Nat} (lx : x < 18446744073709551616) : Wd (oneR x) := ⟨lx, lx⟩
/-- What Unit answers, where no step has an error. -/
theorem unit_any (x y z : Nat) (w : World) (lx : x < 18446744073709551616) (ly : y < 18446744073709551616) (lz : z < 18446744073709551616) (hU : hasU x y z = true)
    (fN : Fit (unitN x y z)) (f1 : Fit (divR (oneR x) (unitN x y z))) (f2 : Fit (divR (oneR y) (unitN x y z))) (f3 : Fit (divR (oneR z) (unitN x y z))) :
    Calls Try.prog 8 #[.agg #[.float .f64 x, .float .f64 y, .float .f64 z]] w fun r w' => r = .returned (.tuple #[.agg #[.float .f64 (unitV x y z).x.lo, .float .f64 (unitV x y z).x.hi, .float .f64 (unitV x y z).y.lo, .float .f64 (unitV x y z).y.hi, .float .f64 (unitV x y z).z.lo, .float .f64 (unitV x y z).z.hi], .int .i64 0]) ∧ Below w.heap.size w w' := by
  have hR : (rightB x && rightB y && rightB z) = true := by
    unfold hasU at hU
    rw [Bool.and_eq_true] at hU
    exact hU.1
  rw [Bool.and_eq_true, Bool.and_eq_true] at hR
  obtain ⟨⟨h1, h2⟩, h3⟩ := hR
  have cU := fun w => hasUnit_any x y z w lx ly lz
  rw [hU] at cU
  have g1 := one_fit lx h1
  have g2 := one_fit ly h2
  have g3 := one_fit lz h3
  have meet : ∀ {q : Res}, Fit q → ∀ w, Calls Try.prog 40 #[.agg #[.float .f64 q.lo, .float .f64 q.hi], .agg #[.float .f64 13830554455654793216, .float .f64 4607182418800017408]] w fun r w' => r = .returned (.tuple #[.agg #[.float .f64 (boundR q).lo, .float .f64 (boundR q).hi], .bool (bothB q.lo q.hi m1 u1)]) ∧ Below w.heap.size w w' := fun fq w =>
    meet_any _ _ m1 u1 w fq.lo fq.hi (by decide) (by decide) fq.rlo fq.rhi (by decide) (by decide)
  have A : ∀ {p : Nat} (pb lp : Nat) (v : World), Fit (oneR p) → Fit (divR (oneR p) (unitN x y z)) → Has1 v (pb, #[.int .i64 0]) → Has1 v (lp, #[.float .f64 (unitN x y z).lo, .float .f64 (unitN x y z).hi]) → pb ≠ lp →
      Calls Try.prog 39 #[.agg #[.float .f64 p, .float .f64 p], .pointer (some ⟨pb, 0, none⟩), .pointer (some ⟨lp, 0, none⟩)] v fun r w' => r = .returned (.agg #[.float .f64 (unitPart p (unitN x y z)).lo, .float .f64 (unitPart p (unitN x y z)).hi]) ∧ Put ⟨pb, 0, none⟩ (.int .i64 0) v w' := fun pb lp v fp fd hC hL n1 =>
    unitLit_walk _ _ _ _ _ _ _ _ _ 0 0 pb lp v hC hL n1 (Lib.hid (calc_div fp fN fd pb)) (Lib.hid (meet fd))
  have hN := fun pb => norm_any (a := at3 x y z) 0 ⟨one_wd lx, one_wd ly, one_wd lz⟩ pb
  have eN : (normV 0 (at3 x y z)).e = 0 := fN.e
  rw [eN] at hN
  exact unit_walk x y z (unitN x y z).lo (unitN x y z).hi _ _ _ _ _ _ w (Lib.hid cU) (Lib.hid fun pb => calc_num g1 pb) (Lib.hid fun pb => calc_num g2 pb) (Lib.hid fun pb => calc_num g3 pb) (Lib.hid fun pb => hN pb)
    (Lib.hid fun pb lp v hC hL n1 => each_unit _ _ _ _ _ _ _ _ _ _ _ _ _ _ 0 0 0 0 pb lp v hC hL n1 (Lib.hid fun v hC hL n1 => A pb lp v g1 f1 hC hL n1) (Lib.hid fun v hC hL n1 => A pb lp v g2 f2 hC hL n1) (Lib.hid fun v hC hL n1 => A pb lp v g3 f3 hC hL n1))
/-- A triple without one. -/
theorem unit_bad (x y z : Nat) (w : World) (lx : x < 18446744073709551616) (ly : y < 18446744073709551616) (lz : z < 18446744073709551616) (hU : hasU x y z = false) :
    Calls Try.prog 8 #[.agg #[.float .f64 x, .float .f64 y, .float .f64 z]] w fun r w' => r = .returned (.tuple #[.agg #[.float .f64 0, .float .f64 0, .float .f64 0, .float .f64 0, .float .f64 0, .float .f64 0], .int .i64 50]) ∧ Below w.heap.size w w' := by
  have cU := fun w => hasUnit_any x y z w lx ly lz
  rw [hU] at cU
  exact unit_none x y z w (Lib.hid cU)

theorem u304 (w : World) : Calls Try.prog 8 #[.agg #[.float .f64 4613937818241073152, .float .f64 0, .float .f64 4616189618054758400]] w fun r w' => r = .returned (.tuple #[.agg #[.float .f64 4603579539098121011, .float .f64 4603579539098121012, .float .f64 0, .float .f64 0, .float .f64 4605380978949069209, .float .f64 4605380978949069210], .int .i64 0]) ∧ Below w.heap.size w w' := by
  have h := unit_any 4613937818241073152 0 4616189618054758400 w (by decide) (by decide) (by decide) (by decide +kernel) (.of (by decide +kernel)) (.of (by decide +kernel)) (.of (by decide +kernel)) (.of (by decide +kernel))
  have e : (unitV 4613937818241073152 0 4616189618054758400).x.lo = 4603579539098121011 ∧ (unitV 4613937818241073152 0 4616189618054758400).x.hi = 4603579539098121012 ∧ (unitV 4613937818241073152 0 4616189618054758400).y.lo = 0 ∧ (unitV 4613937818241073152 0 4616189618054758400).y.hi = 0 ∧ (unitV 4613937818241073152 0 4616189618054758400).z.lo = 4605380978949069209 ∧ (unitV 4613937818241073152 0 4616189618054758400).z.hi = 4605380978949069210 := by decide +kernel
  obtain ⟨e1, e2, e3, e4, e5, e6⟩ := e
  rw [e1, e2, e3, e4, e5, e6] at h
  exact h
theorem u007 (w : World) : Calls Try.prog 8 #[.agg #[.float .f64 0, .float .f64 0, .float .f64 4619567317775286272]] w fun r w' => r = .returned (.tuple #[.agg #[.float .f64 0, .float .f64 0, .float .f64 0, .float .f64 0, .float .f64 4607182418800017408, .float .f64 4607182418800017408], .int .i64 0]) ∧ Below w.heap.size w w' := by
  have h := unit_any 0 0 4619567317775286272 w (by decide) (by decide) (by decide) (by decide +kernel) (.of (by decide +kernel)) (.of (by decide +kernel)) (.of (by decide +kernel)) (.of (by decide +kernel))
  have e : (unitV 0 0 4619567317775286272).x.lo = 0 ∧ (unitV 0 0 4619567317775286272).x.hi = 0 ∧ (unitV 0 0 4619567317775286272).y.lo = 0 ∧ (unitV 0 0 4619567317775286272).y.hi = 0 ∧ (unitV 0 0 4619567317775286272).z.lo = 4607182418800017408 ∧ (unitV 0 0 4619567317775286272).z.hi = 4607182418800017408 := by decide +kernel
  obtain ⟨e1, e2, e3, e4, e5, e6⟩ := e
  rw [e1, e2, e3, e4, e5, e6] at h
  exact h
theorem u000 (w : World) : Calls Try.prog 8 #[.agg #[.float .f64 0, .float .f64 0, .float .f64 0]] w fun r w' => r = .returned (.tuple #[.agg #[.float .f64 0, .float .f64 0, .float .f64 0, .float .f64 0, .float .f64 0, .float .f64 0], .int .i64 50]) ∧ Below w.heap.size w w' :=
  unit_bad 0 0 0 w (by decide) (by decide) (by decide) (by decide +kernel)

end Go.Proofs.Ytdppppaoflhgdaa

namespace Go.Proofs.Ytdppppaoflhgdaa
open Go.RowKit
attribute [local go_sem] run_store_float

theorem at_wd {x y z : Nat} (lx : x < 18446744073709551616) (ly : y < 18446744073709551616) (lz : z < 18446744073709551616) : WdV (at3 x y z) := ⟨one_wd lx, one_wd ly, one_wd lz⟩
theorem l_dot (pb : Nat) (v : World) (hC : Has1 v (pb, #[.int .i64 0])) : Calls Try.prog 42 #[.pointer (some ⟨pb, 0, none⟩), .agg #[.float .f64 4607182418800017408, .float .f64 4607182418800017408, .float .f64 4611686018427387904, .float .f64 4611686018427387904, .float .f64 4613937818241073152, .float .f64 4613937818241073152], .agg #[.float .f64 4616189618054758400, .float .f64 4616189618054758400, .float .f64 4617315517961601024, .float .f64 4617315517961601024, .float .f64 4618441417868443648, .float .f64 4618441417868443648]] v fun r w' => r = .returned (.agg #[.float .f64 4629700416936869888, .float .f64 4629700416936869888]) ∧ Put ⟨pb, 0, none⟩ (.int .i64 0) v w' := by
  have h := dot_any (a := (at3 4607182418800017408 4611686018427387904 4613937818241073152)) (b := (at3 4616189618054758400 4617315517961601024 4618441417868443648)) 0 (at_wd (by decide) (by decide) (by decide)) (at_wd (by decide) (by decide) (by decide)) pb v hC
  have e : (dotV 0 (at3 4607182418800017408 4611686018427387904 4613937818241073152) (at3 4616189618054758400 4617315517961601024 4618441417868443648)).lo = 4629700416936869888 ∧ (dotV 0 (at3 4607182418800017408 4611686018427387904 4613937818241073152) (at3 4616189618054758400 4617315517961601024 4618441417868443648)).hi = 4629700416936869888 ∧ (dotV 0 (at3 4607182418800017408 4611686018427387904 4613937818241073152) (at3 4616189618054758400 4617315517961601024 4618441417868443648)).e = 0 := by decide +kernel
  obtain ⟨e1, e2, e3⟩ := e
  rw [e1, e2, e3] at h
  exact h
theorem l_cross (pb : Nat) (v : World) (hC : Has1 v (pb, #[.int .i64 0])) : Calls Try.prog 43 #[.pointer (some ⟨pb, 0, none⟩), .agg #[.float .f64 4607182418800017408, .float .f64 4607182418800017408, .float .f64 4611686018427387904, .float .f64 4611686018427387904, .float .f64 4613937818241073152, .float .f64 4613937818241073152], .agg #[.float .f64 4616189618054758400, .float .f64 4616189618054758400, .float .f64 4617315517961601024, .float .f64 4617315517961601024, .float .f64 4618441417868443648, .float .f64 4618441417868443648]] v fun r w' => r = .returned (.agg #[.float .f64 13837309855095848960, .float .f64 13837309855095848960, .float .f64 4618441417868443648, .float .f64 4618441417868443648, .float .f64 13837309855095848960, .float .f64 13837309855095848960]) ∧ Put ⟨pb, 0, none⟩ (.int .i64 0) v w' := by
  have h := vcross_any (a := (at3 4607182418800017408 4611686018427387904 4613937818241073152)) (b := (at3 4616189618054758400 4617315517961601024 4618441417868443648)) 0 (at_wd (by decide) (by decide) (by decide)) (at_wd (by decide) (by decide) (by decide)) pb v hC
  have e : (crossV 0 (at3 4607182418800017408 4611686018427387904 4613937818241073152) (at3 4616189618054758400 4617315517961601024 4618441417868443648)).x.lo = 13837309855095848960 ∧ (crossV 0 (at3 4607182418800017408 4611686018427387904 4613937818241073152) (at3 4616189618054758400 4617315517961601024 4618441417868443648)).x.hi = 13837309855095848960 ∧ (crossV 0 (at3 4607182418800017408 4611686018427387904 4613937818241073152) (at3 4616189618054758400 4617315517961601024 4618441417868443648)).y.lo = 4618441417868443648 ∧ (crossV 0 (at3 4607182418800017408 4611686018427387904 4613937818241073152) (at3 4616189618054758400 4617315517961601024 4618441417868443648)).y.hi = 4618441417868443648 ∧ (crossV 0 (at3 4607182418800017408 4611686018427387904 4613937818241073152) (at3 4616189618054758400 4617315517961601024 4618441417868443648)).z.lo = 13837309855095848960 ∧ (crossV 0 (at3 4607182418800017408 4611686018427387904 4613937818241073152) (at3 4616189618054758400 4617315517961601024 4618441417868443648)).z.hi = 13837309855095848960 ∧ (crossV 0 (at3 4607182418800017408 4611686018427387904 4613937818241073152) (at3 4616189618054758400 4617315517961601024 4618441417868443648)).z.e = 0 := by decide +kernel
  obtain ⟨e1, e2, e3, e4, e5, e6, e7⟩ := e
  rw [e1, e2, e3, e4, e5, e6, e7] at h
  exact h
theorem l_norm (pb : Nat) (v : World) (hC : Has1 v (pb, #[.int .i64 0])) : Calls Try.prog 37 #[.pointer (some ⟨pb, 0, none⟩), .agg #[.float .f64 4611686018427387904, .float .f64 4611686018427387904, .float .f64 4613937818241073152, .float .f64 4613937818241073152, .float .f64 4618441417868443648, .float .f64 4618441417868443648]] v fun r w' => r = .returned (.agg #[.float .f64 4619567317775286272, .float .f64 4619567317775286272]) ∧ Put ⟨pb, 0, none⟩ (.int .i64 0) v w' := by
  have h := norm_any (a := (at3 4611686018427387904 4613937818241073152 4618441417868443648)) 0 (at_wd (by decide) (by decide) (by decide)) pb v hC
  have e : (normV 0 (at3 4611686018427387904 4613937818241073152 4618441417868443648)).lo = 4619567317775286272 ∧ (normV 0 (at3 4611686018427387904 4613937818241073152 4618441417868443648)).hi = 4619567317775286272 ∧ (normV 0 (at3 4611686018427387904 4613937818241073152 4618441417868443648)).e = 0 := by decide +kernel
  obtain ⟨e1, e2, e3⟩ := e
  rw [e1, e2, e3] at h
  exact h
theorem l_has1 (w : World) : Calls Try.prog 44 #[.agg #[.float .f64 4603579539098121011, .float .f64 4603579539098121012], .float .f64 4603579539098121011] w fun r w' => r = .returned (.bool true) ∧ Below w.heap.size w w' := by
  have h := has_any 4603579539098121011 4603579539098121012 4603579539098121011 w (by decide) (by decide)
  have e : hasB 4603579539098121011 4603579539098121012 4603579539098121011 = true := by decide +kernel
  rw [e] at h
  exact h
theorem l_has2 (w : World) : Calls Try.prog 44 #[.agg #[.float .f64 4605380978949069209, .float .f64 4605380978949069210], .float .f64 4605380978949069210] w fun r w' => r = .returned (.bool true) ∧ Below w.heap.size w w' := by
  have h := has_any 4605380978949069209 4605380978949069210 4605380978949069210 w (by decide) (by decide)
  have e : hasB 4605380978949069209 4605380978949069210 4605380978949069210 = true := by decide +kernel
  rw [e] at h
  exact h

/-- Region 6 of awake: dot, cross and length, and their blocks, made at any time. -/
def AwJ (w : World) (q1 q2 q3 q4 q5 pb : Nat) (a0 : Act) (k : Nat) (p : List (Option Nat)) (a : Act) (v : World) : Prop :=
  ∃ y1 y2 y3 y4 z1 z2 z3 : Value, a = (((((((a0.put (some 32) y1).put (some 35) y2).put (some 36) y3).put (some 37) y4).put (some 10) z1).put (some 11) z2).put (some 12) z3) ∧
    (0 < k → y1 = .agg #[.float .f64 4629700416936869888, .float .f64 4629700416936869888]) ∧
    (1 < k → y2 = .agg #[.float .f64 13837309855095848960, .float .f64 13837309855095848960, .float .f64 4618441417868443648, .float .f64 4618441417868443648, .float .f64 13837309855095848960, .float .f64 13837309855095848960]) ∧
    (2 < k → y3 = .agg #[.float .f64 4611686018427387904, .float .f64 4611686018427387904, .float .f64 4613937818241073152, .float .f64 4613937818241073152, .float .f64 4618441417868443648, .float .f64 4618441417868443648]) ∧
    (3 < k → y4 = .agg #[.float .f64 4619567317775286272, .float .f64 4619567317775286272]) ∧
    (∀ q, p[0]? = some (some q) → z1 = .pointer (some ⟨q, 0, none⟩)) ∧
    (∀ q, p[1]? = some (some q) → z2 = .pointer (some ⟨q, 0, none⟩)) ∧
    (∀ q, p[2]? = some (some q) → z3 = .pointer (some ⟨q, 0, none⟩)) ∧
    OwnF w [(q5, #[.float .f64 0, .float .f64 0, .float .f64 0, .float .f64 0, .float .f64 0, .float .f64 0]), (q4, #[.float .f64 0, .float .f64 0, .float .f64 0, .float .f64 0, .float .f64 4607182418800017408, .float .f64 4607182418800017408]), (q3, #[.float .f64 4603579539098121011, .float .f64 4603579539098121012, .float .f64 0, .float .f64 0, .float .f64 4605380978949069209, .float .f64 4605380978949069210]), (q2, #[.float .f64 4616189618054758400, .float .f64 4616189618054758400, .float .f64 4617315517961601024, .float .f64 4617315517961601024, .float .f64 4618441417868443648, .float .f64 4618441417868443648]), (q1, #[.float .f64 4607182418800017408, .float .f64 4607182418800017408, .float .f64 4611686018427387904, .float .f64 4611686018427387904, .float .f64 4613937818241073152, .float .f64 4613937818241073152]), (pb, #[.int .i64 0])] [#[.float .f64 0, .float .f64 0], #[.float .f64 0, .float .f64 0, .float .f64 0, .float .f64 0, .float .f64 0, .float .f64 0], #[.float .f64 0, .float .f64 0]] p v

theorem AwJ_0 {w : World} {q1 q2 q3 q4 q5 pb : Nat} {a0 a : Act} {p : List (Option Nat)} {v : World} (h : AwJ w q1 q2 q3 q4 q5 pb a0 0 p a v) :
    ∃ y1 y2 y3 y4 z1 z2 z3 : Value, a = (((((((a0.put (some 32) y1).put (some 35) y2).put (some 36) y3).put (some 37) y4).put (some 10) z1).put (some 11) z2).put (some 12) z3) ∧ (∀ q, p[0]? = some (some q) → z1 = .pointer (some ⟨q, 0, none⟩)) ∧ (∀ q, p[1]? = some (some q) → z2 = .pointer (some ⟨q, 0, none⟩)) ∧ (∀ q, p[2]? = some (some q) → z3 = .pointer (some ⟨q, 0, none⟩)) ∧ OwnF w [(q5, #[.float .f64 0, .float .f64 0, .float .f64 0, .float .f64 0, .float .f64 0, .float .f64 0]), (q4, #[.float .f64 0, .float .f64 0, .float .f64 0, .float .f64 0, .float .f64 4607182418800017408, .float .f64 4607182418800017408]), (q3, #[.float .f64 4603579539098121011, .float .f64 4603579539098121012, .float .f64 0, .float .f64 0, .float .f64 4605380978949069209, .float .f64 4605380978949069210]), (q2, #[.float .f64 4616189618054758400, .float .f64 4616189618054758400, .float .f64 4617315517961601024, .float .f64 4617315517961601024, .float .f64 4618441417868443648, .float .f64 4618441417868443648]), (q1, #[.float .f64 4607182418800017408, .float .f64 4607182418800017408, .float .f64 4611686018427387904, .float .f64 4611686018427387904, .float .f64 4613937818241073152, .float .f64 4613937818241073152]), (pb, #[.int .i64 0])] [#[.float .f64 0, .float .f64 0], #[.float .f64 0, .float .f64 0, .float .f64 0, .float .f64 0, .float .f64 0, .float .f64 0], #[.float .f64 0, .float .f64 0]] p v := by
  obtain ⟨y1, y2, y3, y4, z1, z2, z3, ha, hhe1, hhe2, hhe3, hhe4, hhg1, hhg2, hhg3, h⟩ := h
  exact ⟨y1, y2, y3, y4, z1, z2, z3, ha, hhg1, hhg2, hhg3, h⟩
theorem AwJ_1 {w : World} {q1 q2 q3 q4 q5 pb : Nat} {a0 a : Act} {p : List (Option Nat)} {v : World} (h : AwJ w q1 q2 q3 q4 q5 pb a0 1 p a v) :
    ∃ y2 y3 y4 z1 z2 z3 : Value, a = (((((((a0.put (some 32) (.agg #[.float .f64 4629700416936869888, .float .f64 4629700416936869888])).put (some 35) y2).put (some 36) y3).put (some 37) y4).put (some 10) z1).put (some 11) z2).put (some 12) z3) ∧ (∀ q, p[0]? = some (some q) → z1 = .pointer (some ⟨q, 0, none⟩)) ∧ (∀ q, p[1]? = some (some q) → z2 = .pointer (some ⟨q, 0, none⟩)) ∧ (∀ q, p[2]? = some (some q) → z3 = .pointer (some ⟨q, 0, none⟩)) ∧ OwnF w [(q5, #[.float .f64 0, .float .f64 0, .float .f64 0, .float .f64 0, .float .f64 0, .float .f64 0]), (q4, #[.float .f64 0, .float .f64 0, .float .f64 0, .float .f64 0, .float .f64 4607182418800017408, .float .f64 4607182418800017408]), (q3, #[.float .f64 4603579539098121011, .float .f64 4603579539098121012, .float .f64 0, .float .f64 0, .float .f64 4605380978949069209, .float .f64 4605380978949069210]), (q2, #[.float .f64 4616189618054758400, .float .f64 4616189618054758400, .float .f64 4617315517961601024, .float .f64 4617315517961601024, .float .f64 4618441417868443648, .float .f64 4618441417868443648]), (q1, #[.float .f64 4607182418800017408, .float .f64 4607182418800017408, .float .f64 4611686018427387904, .float .f64 4611686018427387904, .float .f64 4613937818241073152, .float .f64 4613937818241073152]), (pb, #[.int .i64 0])] [#[.float .f64 0, .float .f64 0], #[.float .f64 0, .float .f64 0, .float .f64 0, .float .f64 0, .float .f64 0, .float .f64 0], #[.float .f64 0, .float .f64 0]] p v := by
  obtain ⟨y1, y2, y3, y4, z1, z2, z3, ha, hhe1, hhe2, hhe3, hhe4, hhg1, hhg2, hhg3, h⟩ := h
  obtain rfl := hhe1 (by decide)
  exact ⟨y2, y3, y4, z1, z2, z3, ha, hhg1, hhg2, hhg3, h⟩
theorem AwJ_2 {w : World} {q1 q2 q3 q4 q5 pb : Nat} {a0 a : Act} {p : List (Option Nat)} {v : World} (h : AwJ w q1 q2 q3 q4 q5 pb a0 2 p a v) :
    ∃ y3 y4 z1 z2 z3 : Value, a = (((((((a0.put (some 32) (.agg #[.float .f64 4629700416936869888, .float .f64 4629700416936869888])).put (some 35) (.agg #[.float .f64 13837309855095848960, .float .f64 13837309855095848960, .float .f64 4618441417868443648, .float .f64 4618441417868443648, .float .f64 13837309855095848960, .float .f64 13837309855095848960])).put (some 36) y3).put (some 37) y4).put (some 10) z1).put (some 11) z2).put (some 12) z3) ∧ (∀ q, p[0]? = some (some q) → z1 = .pointer (some ⟨q, 0, none⟩)) ∧ (∀ q, p[1]? = some (some q) → z2 = .pointer (some ⟨q, 0, none⟩)) ∧ (∀ q, p[2]? = some (some q) → z3 = .pointer (some ⟨q, 0, none⟩)) ∧ OwnF w [(q5, #[.float .f64 0, .float .f64 0, .float .f64 0, .float .f64 0, .float .f64 0, .float .f64 0]), (q4, #[.float .f64 0, .float .f64 0, .float .f64 0, .float .f64 0, .float .f64 4607182418800017408, .float .f64 4607182418800017408]), (q3, #[.float .f64 4603579539098121011, .float .f64 4603579539098121012, .float .f64 0, .float .f64 0, .float .f64 4605380978949069209, .float .f64 4605380978949069210]), (q2, #[.float .f64 4616189618054758400, .float .f64 4616189618054758400, .float .f64 4617315517961601024, .float .f64 4617315517961601024, .float .f64 4618441417868443648, .float .f64 4618441417868443648]), (q1, #[.float .f64 4607182418800017408, .float .f64 4607182418800017408, .float .f64 4611686018427387904, .float .f64 4611686018427387904, .float .f64 4613937818241073152, .float .f64 4613937818241073152]), (pb, #[.int .i64 0])] [#[.float .f64 0, .float .f64 0], #[.float .f64 0, .float .f64 0, .float .f64 0, .float .f64 0, .float .f64 0, .float .f64 0], #[.float .f64 0, .float .f64 0]] p v := by
  obtain ⟨y1, y2, y3, y4, z1, z2, z3, ha, hhe1, hhe2, hhe3, hhe4, hhg1, hhg2, hhg3, h⟩ := h
  obtain rfl := hhe1 (by decide)
  obtain rfl := hhe2 (by decide)
  exact ⟨y3, y4, z1, z2, z3, ha, hhg1, hhg2, hhg3, h⟩
theorem AwJ_3 {w : World} {q1 q2 q3 q4 q5 pb : Nat} {a0 a : Act} {p : List (Option Nat)} {v : World} (h : AwJ w q1 q2 q3 q4 q5 pb a0 3 p a v) :
    ∃ y4 z1 z2 z3 : Value, a = (((((((a0.put (some 32) (.agg #[.float .f64 4629700416936869888, .float .f64 4629700416936869888])).put (some 35) (.agg #[.float .f64 13837309855095848960, .float .f64 13837309855095848960, .float .f64 4618441417868443648, .float .f64 4618441417868443648, .float .f64 13837309855095848960, .float .f64 13837309855095848960])).put (some 36) (.agg #[.float .f64 4611686018427387904, .float .f64 4611686018427387904, .float .f64 4613937818241073152, .float .f64 4613937818241073152, .float .f64 4618441417868443648, .float .f64 4618441417868443648])).put (some 37) y4).put (some 10) z1).put (some 11) z2).put (some 12) z3) ∧ (∀ q, p[0]? = some (some q) → z1 = .pointer (some ⟨q, 0, none⟩)) ∧ (∀ q, p[1]? = some (some q) → z2 = .pointer (some ⟨q, 0, none⟩)) ∧ (∀ q, p[2]? = some (some q) → z3 = .pointer (some ⟨q, 0, none⟩)) ∧ OwnF w [(q5, #[.float .f64 0, .float .f64 0, .float .f64 0, .float .f64 0, .float .f64 0, .float .f64 0]), (q4, #[.float .f64 0, .float .f64 0, .float .f64 0, .float .f64 0, .float .f64 4607182418800017408, .float .f64 4607182418800017408]), (q3, #[.float .f64 4603579539098121011, .float .f64 4603579539098121012, .float .f64 0, .float .f64 0, .float .f64 4605380978949069209, .float .f64 4605380978949069210]), (q2, #[.float .f64 4616189618054758400, .float .f64 4616189618054758400, .float .f64 4617315517961601024, .float .f64 4617315517961601024, .float .f64 4618441417868443648, .float .f64 4618441417868443648]), (q1, #[.float .f64 4607182418800017408, .float .f64 4607182418800017408, .float .f64 4611686018427387904, .float .f64 4611686018427387904, .float .f64 4613937818241073152, .float .f64 4613937818241073152]), (pb, #[.int .i64 0])] [#[.float .f64 0, .float .f64 0], #[.float .f64 0, .float .f64 0, .float .f64 0, .float .f64 0, .float .f64 0, .float .f64 0], #[.float .f64 0, .float .f64 0]] p v := by
  obtain ⟨y1, y2, y3, y4, z1, z2, z3, ha, hhe1, hhe2, hhe3, hhe4, hhg1, hhg2, hhg3, h⟩ := h
  obtain rfl := hhe1 (by decide)
  obtain rfl := hhe2 (by decide)
  obtain rfl := hhe3 (by decide)
  exact ⟨y4, z1, z2, z3, ha, hhg1, hhg2, hhg3, h⟩
theorem AwJ_fin {w : World} {q1 q2 q3 q4 q5 pb : Nat} {qq1 qq2 qq3 : Nat} {a0 a : Act} {v : World} (h : AwJ w q1 q2 q3 q4 q5 pb a0 4 [some qq1, some qq2, some qq3] a v) :
    a = (((((((a0.put (some 32) (.agg #[.float .f64 4629700416936869888, .float .f64 4629700416936869888])).put (some 35) (.agg #[.float .f64 13837309855095848960, .float .f64 13837309855095848960, .float .f64 4618441417868443648, .float .f64 4618441417868443648, .float .f64 13837309855095848960, .float .f64 13837309855095848960])).put (some 36) (.agg #[.float .f64 4611686018427387904, .float .f64 4611686018427387904, .float .f64 4613937818241073152, .float .f64 4613937818241073152, .float .f64 4618441417868443648, .float .f64 4618441417868443648])).put (some 37) (.agg #[.float .f64 4619567317775286272, .float .f64 4619567317775286272])).put (some 10) (.pointer (some ⟨qq1, 0, none⟩))).put (some 11) (.pointer (some ⟨qq2, 0, none⟩))).put (some 12) (.pointer (some ⟨qq3, 0, none⟩))) ∧ OwnF w [(q5, #[.float .f64 0, .float .f64 0, .float .f64 0, .float .f64 0, .float .f64 0, .float .f64 0]), (q4, #[.float .f64 0, .float .f64 0, .float .f64 0, .float .f64 0, .float .f64 4607182418800017408, .float .f64 4607182418800017408]), (q3, #[.float .f64 4603579539098121011, .float .f64 4603579539098121012, .float .f64 0, .float .f64 0, .float .f64 4605380978949069209, .float .f64 4605380978949069210]), (q2, #[.float .f64 4616189618054758400, .float .f64 4616189618054758400, .float .f64 4617315517961601024, .float .f64 4617315517961601024, .float .f64 4618441417868443648, .float .f64 4618441417868443648]), (q1, #[.float .f64 4607182418800017408, .float .f64 4607182418800017408, .float .f64 4611686018427387904, .float .f64 4611686018427387904, .float .f64 4613937818241073152, .float .f64 4613937818241073152]), (pb, #[.int .i64 0])] [#[.float .f64 0, .float .f64 0], #[.float .f64 0, .float .f64 0, .float .f64 0, .float .f64 0, .float .f64 0, .float .f64 0], #[.float .f64 0, .float .f64 0]] [some qq1, some qq2, some qq3] v := by
  obtain ⟨y1, y2, y3, y4, z1, z2, z3, ha, hhe1, hhe2, hhe3, hhe4, hhg1, hhg2, hhg3, h⟩ := h
  obtain rfl := hhe1 (by decide)
  obtain rfl := hhe2 (by decide)
  obtain rfl := hhe3 (by decide)
  obtain rfl := hhe4 (by decide)
  obtain rfl := hhg1 _ rfl
  obtain rfl := hhg2 _ rfl
  obtain rfl := hhg3 _ rfl
  exact ⟨ha, h⟩

set_option maxRecDepth 100000 in
set_option maxHeartbeats 8000000 in
theorem awake5_any (w : World) : Calls Try.prog 9 #[] w fun r w' => r = .returned (.bool true) ∧ Below w.heap.size w w' := by
  have M := Lib.hid ((Own.nil w).made #[.int .i64 0] 38)
  go_enter Try.func9, Try.ntmps9
  go_wp2_with fail
  refine (at_any _ _ _ _).mono ?_
  rintro r w1 ⟨rfl, hb⟩
  replace M := Lib.hid (M.out.below hb)
  clear hb
  go_wp2_with fail
  refine (at_any _ _ _ _).mono ?_
  rintro r w2 ⟨rfl, hb⟩
  have M0 := Lib.hid (((M.out.below hb).made #[.float .f64 4607182418800017408, .float .f64 4607182418800017408, .float .f64 4611686018427387904, .float .f64 4611686018427387904, .float .f64 4613937818241073152, .float .f64 4613937818241073152] 29).made #[.float .f64 4616189618054758400, .float .f64 4616189618054758400, .float .f64 4617315517961601024, .float .f64 4617315517961601024, .float .f64 4618441417868443648, .float .f64 4618441417868443648] 29)
  simp only [World.size_alloc] at M0
  clear hb M
  have M := M0
  clear M0
  go_wp2_with fail
  refine (u304 _).mono ?_
  rintro r w3 ⟨rfl, hb⟩
  replace M := Lib.hid ((M.out.below hb).made #[.float .f64 4603579539098121011, .float .f64 4603579539098121012, .float .f64 0, .float .f64 0, .float .f64 4605380978949069209, .float .f64 4605380978949069210] 29)
  clear hb
  go_wp2_with fail
  refine (u007 _).mono ?_
  rintro r w4 ⟨rfl, hb⟩
  replace M := Lib.hid ((M.out.below hb).made #[.float .f64 0, .float .f64 0, .float .f64 0, .float .f64 0, .float .f64 4607182418800017408, .float .f64 4607182418800017408] 29)
  clear hb
  go_wp2_with fail
  refine (u000 _).mono ?_
  rintro r w5 ⟨rfl, hb⟩
  replace M := Lib.hid ((M.out.below hb).made #[.float .f64 0, .float .f64 0, .float .f64 0, .float .f64 0, .float .f64 0, .float .f64 0] 29)
  clear hb
  go_upto_region 6 with fail
  replace M := Lib.hid M.out.drew
  obtain ⟨k1, k2, k3, k4, k5, k6⟩ := (M.out.nth 4 rfl).six
  obtain ⟨k7, k8, k9, k10, k11, k12⟩ := (M.out.nth 3 rfl).six
  refine wp_region_noPanic ?_
  refine tails_region (S := fun w' => w'.cell? ⟨w2.heap.size, 0, none⟩ = some (.float .f64 4607182418800017408) ∧ w'.cell? ⟨w2.heap.size, 1, none⟩ = some (.float .f64 4607182418800017408) ∧ w'.cell? ⟨w2.heap.size, 2, none⟩ = some (.float .f64 4611686018427387904) ∧ w'.cell? ⟨w2.heap.size, 3, none⟩ = some (.float .f64 4611686018427387904) ∧ w'.cell? ⟨w2.heap.size, 4, none⟩ = some (.float .f64 4613937818241073152) ∧ w'.cell? ⟨w2.heap.size, 5, none⟩ = some (.float .f64 4613937818241073152) ∧ w'.cell? ⟨(w2.heap.size + 1), 0, none⟩ = some (.float .f64 4616189618054758400) ∧ w'.cell? ⟨(w2.heap.size + 1), 1, none⟩ = some (.float .f64 4616189618054758400) ∧ w'.cell? ⟨(w2.heap.size + 1), 2, none⟩ = some (.float .f64 4617315517961601024) ∧ w'.cell? ⟨(w2.heap.size + 1), 3, none⟩ = some (.float .f64 4617315517961601024) ∧ w'.cell? ⟨(w2.heap.size + 1), 4, none⟩ = some (.float .f64 4618441417868443648) ∧ w'.cell? ⟨(w2.heap.size + 1), 5, none⟩ = some (.float .f64 4618441417868443648)) [] (by kernel_rfl) ?_ (fun hS => ?_)
  · exact ⟨k1, k2, k3, k4, k5, k6, k7, k8, k9, k10, k11, k12⟩
  refine tails_take (T := []) (i := 0) (o := _) (x := ?_) rfl (by kernel_rfl) (by kernel_rfl) (by kernel_rfl) (by kernel_rfl) (fun _ _ _ h => h) (Or.inl ⟨by rfl, ?_⟩) (by assumption) ?_
  rotate_left; focus (intro w hSw; (try dsimp only at hSw); go_simp; first | done | with_reducible rfl)
  refine tails_take (T := []) (i := 1) (o := _) (x := ?_) rfl (by kernel_rfl) (by kernel_rfl) (by kernel_rfl) (by kernel_rfl) (fun _ _ _ h => h) (Or.inl ⟨by rfl, ?_⟩) (by assumption) ?_
  rotate_left; focus (intro w hSw; (try dsimp only at hSw); go_simp; first | done | with_reducible rfl)
  refine tails_take (T := []) (i := 3) (o := _) (x := ?_) rfl (by kernel_rfl) (by kernel_rfl) (by kernel_rfl) (by kernel_rfl) (fun _ _ _ h => h) (Or.inl ⟨by rfl, ?_⟩) (by assumption) ?_
  rotate_left; focus (intro w hSw; (try dsimp only at hSw); go_simp; first | done | with_reducible rfl)
  refine tails_take (T := []) (i := 4) (o := _) (x := ?_) rfl (by kernel_rfl) (by kernel_rfl) (by kernel_rfl) (by kernel_rfl) (fun _ _ _ h => h) (Or.inl ⟨by rfl, ?_⟩) (by assumption) ?_
  rotate_left; focus (intro w hSw; (try dsimp only at hSw); go_simp; first | done | with_reducible rfl)
  conv => arg 9; simp only [Act.put, go_sem]
  refine lat_4_3 (T := []) 2 5 6 7 8 9 10 [32, 35, 36, 37, 10, 11, 12] 3 (AwJ w w2.heap.size (w2.heap.size + 1) w3.heap.size w4.heap.size w5.heap.size w.heap.size) (by kernel_rfl) (by kernel_rfl) ?_ ?_ ?_ ?_ ?_ ?_ ?_ ?_ ?_ ?_
  · intro A hA
    obtain ⟨y1, hq1⟩ := put_ex (hA 32 (by simp))
    obtain ⟨y2, hq2⟩ := put_ex (hA 35 (by simp))
    obtain ⟨y3, hq3⟩ := put_ex (hA 36 (by simp))
    obtain ⟨y4, hq4⟩ := put_ex (hA 37 (by simp))
    obtain ⟨z1, hq5⟩ := put_ex (hA 10 (by simp))
    obtain ⟨z2, hq6⟩ := put_ex (hA 11 (by simp))
    obtain ⟨z3, hq7⟩ := put_ex (hA 12 (by simp))
    exact ⟨y1, y2, y3, y4, z1, z2, z3, by rw [hq1, hq2, hq3, hq4, hq5, hq6, hq7], by omega, by omega, by omega, by omega, by simp, by simp, by simp, OwnF.start M.out 3⟩
  · rintro k p a v ⟨y1, y2, y3, y4, z1, z2, z3, _, _, _, _, _, _, _, _, h⟩
    exact ⟨((h.own.nth 4 rfl).six).1, ((h.own.nth 4 rfl).six).2.1, ((h.own.nth 4 rfl).six).2.2.1, ((h.own.nth 4 rfl).six).2.2.2.1, ((h.own.nth 4 rfl).six).2.2.2.2.1, ((h.own.nth 4 rfl).six).2.2.2.2.2, (h.own.nth 3 rfl).six⟩
  · intro p a v hJ
    refine op_step (o := _) rfl (fun K hK => ?_)
    obtain ⟨y1, y2, y3, y4, z1, z2, z3, rfl, gg1, gg2, gg3, h⟩ := AwJ_0 hJ
    have h := Lib.hid h
    clear hJ
    go_simp
    refine (l_dot _ _ (h.out.own.nth 5 rfl)).mono ?_
    rintro rr w5 ⟨rfl, hp⟩
    try go_wp2_with fail
    refine hK.out _ _ ⟨.agg #[.float .f64 4629700416936869888, .float .f64 4629700416936869888], y2, y3, y4, z1, z2, z3, ?_, fun _ => rfl, by omega, by omega, by omega, gg1, gg2, gg3, h.out.putAt 5 rfl hp⟩
    kernel_rfl
  · intro p a v hJ
    refine op_step (o := _) rfl (fun K hK => ?_)
    obtain ⟨y2, y3, y4, z1, z2, z3, rfl, gg1, gg2, gg3, h⟩ := AwJ_1 hJ
    have h := Lib.hid h
    clear hJ
    go_simp
    refine (l_cross _ _ (h.out.own.nth 5 rfl)).mono ?_
    rintro rr w5 ⟨rfl, hp⟩
    try go_wp2_with fail
    refine hK.out _ _ ⟨.agg #[.float .f64 4629700416936869888, .float .f64 4629700416936869888], .agg #[.float .f64 13837309855095848960, .float .f64 13837309855095848960, .float .f64 4618441417868443648, .float .f64 4618441417868443648, .float .f64 13837309855095848960, .float .f64 13837309855095848960], y3, y4, z1, z2, z3, ?_, fun _ => rfl, fun _ => rfl, by omega, by omega, gg1, gg2, gg3, h.out.putAt 5 rfl hp⟩
    kernel_rfl
  · intro p a v hJ
    refine op_step (o := _) rfl (fun K hK => ?_)
    obtain ⟨y3, y4, z1, z2, z3, rfl, gg1, gg2, gg3, h⟩ := AwJ_2 hJ
    have h := Lib.hid h
    clear hJ
    go_simp
    refine (at_any _ _ _ _).mono ?_
    rintro rr w5 ⟨rfl, hp⟩
    try go_wp2_with fail
    refine hK.out _ _ ⟨.agg #[.float .f64 4629700416936869888, .float .f64 4629700416936869888], .agg #[.float .f64 13837309855095848960, .float .f64 13837309855095848960, .float .f64 4618441417868443648, .float .f64 4618441417868443648, .float .f64 13837309855095848960, .float .f64 13837309855095848960], .agg #[.float .f64 4611686018427387904, .float .f64 4611686018427387904, .float .f64 4613937818241073152, .float .f64 4613937818241073152, .float .f64 4618441417868443648, .float .f64 4618441417868443648], y4, z1, z2, z3, ?_, fun _ => rfl, fun _ => rfl, fun _ => rfl, by omega, gg1, gg2, gg3, h.out.below hp⟩
    kernel_rfl
  · intro p a v hJ
    refine op_step (o := _) rfl (fun K hK => ?_)
    obtain ⟨y4, z1, z2, z3, rfl, gg1, gg2, gg3, h⟩ := AwJ_3 hJ
    have h := Lib.hid h
    clear hJ
    go_simp
    refine (l_norm _ _ (h.out.own.nth 5 rfl)).mono ?_
    rintro rr w5 ⟨rfl, hp⟩
    try go_wp2_with fail
    refine hK.out _ _ ⟨.agg #[.float .f64 4629700416936869888, .float .f64 4629700416936869888], .agg #[.float .f64 13837309855095848960, .float .f64 13837309855095848960, .float .f64 4618441417868443648, .float .f64 4618441417868443648, .float .f64 13837309855095848960, .float .f64 13837309855095848960], .agg #[.float .f64 4611686018427387904, .float .f64 4611686018427387904, .float .f64 4613937818241073152, .float .f64 4613937818241073152, .float .f64 4618441417868443648, .float .f64 4618441417868443648], .agg #[.float .f64 4619567317775286272, .float .f64 4619567317775286272], z1, z2, z3, ?_, fun _ => rfl, fun _ => rfl, fun _ => rfl, fun _ => rfl, gg1, gg2, gg3, h.out.putAt 5 rfl hp⟩
    kernel_rfl
  · intro k p a v hp hJ
    refine op_step (o := _) rfl (fun K hK => ?_)
    obtain ⟨y1, y2, y3, y4, z1, z2, z3, rfl, ee1, ee2, ee3, ee4, gg1, gg2, gg3, h⟩ := hJ
    have h := Lib.hid h
    go_simp
    refine hK.out _ _ ⟨v.heap.size, y1, y2, y3, y4, .pointer (some ⟨v.heap.size, 0, none⟩), z2, z3, ?_, ee1, ee2, ee3, ee4, fun q hq => ptr_set hq, ptr_keep 1 (by decide) gg2, ptr_keep 2 (by decide) gg3, h.out.alloc hp rfl _⟩
    kernel_rfl
  · intro k p a v hp hJ
    refine op_step (o := _) rfl (fun K hK => ?_)
    obtain ⟨y1, y2, y3, y4, z1, z2, z3, rfl, ee1, ee2, ee3, ee4, gg1, gg2, gg3, h⟩ := hJ
    have h := Lib.hid h
    go_simp
    refine hK.out _ _ ⟨v.heap.size, y1, y2, y3, y4, z1, .pointer (some ⟨v.heap.size, 0, none⟩), z3, ?_, ee1, ee2, ee3, ee4, ptr_keep 0 (by decide) gg1, fun q hq => ptr_set hq, ptr_keep 2 (by decide) gg3, h.out.alloc hp rfl _⟩
    kernel_rfl
  · intro k p a v hp hJ
    refine op_step (o := _) rfl (fun K hK => ?_)
    obtain ⟨y1, y2, y3, y4, z1, z2, z3, rfl, ee1, ee2, ee3, ee4, gg1, gg2, gg3, h⟩ := hJ
    have h := Lib.hid h
    go_simp
    refine hK.out _ _ ⟨v.heap.size, y1, y2, y3, y4, z1, z2, .pointer (some ⟨v.heap.size, 0, none⟩), ?_, ee1, ee2, ee3, ee4, ptr_keep 0 (by decide) gg1, ptr_keep 1 (by decide) gg2, fun q hq => ptr_set hq, h.out.alloc hp rfl _⟩
    kernel_rfl
  · intro pq1 pq2 pq3 a v hJ
    obtain ⟨rfl, h⟩ := AwJ_fin hJ
    clear hJ
    replace M := Lib.hid h.fin3
    clear h
    refine tails_one (T := []) (i := 11) (o := _) rfl (by kernel_rfl) (fun K hK => ?_)
    have kc := (M.out.nth 0 rfl).2.1
    have kf := (M.out.nth 0 rfl).2.2
    replace M := Lib.hid (M.out.set2 0 rfl (.float .f64 4629700416936869888) (.float .f64 4629700416936869888))
    go_simp
    refine hK.out _ _ (Or.inr ⟨((M.out.nth 7 rfl).six).1, ((M.out.nth 7 rfl).six).2.1, ((M.out.nth 7 rfl).six).2.2.1, ((M.out.nth 7 rfl).six).2.2.2.1, ((M.out.nth 7 rfl).six).2.2.2.2.1, ((M.out.nth 7 rfl).six).2.2.2.2.2, (M.out.nth 6 rfl).six⟩) (fun hHeld => ?_)
    clear hK K hHeld kc kf
    refine tails_one (T := []) (i := 12) (o := _) rfl (by kernel_rfl) (fun K hK => ?_)
    have kc := (M.out.nth 1 rfl).2.1
    have kf := (M.out.nth 1 rfl).2.2
    replace M := Lib.hid (M.out.set6 1 rfl (.float .f64 13837309855095848960) (.float .f64 13837309855095848960) (.float .f64 4618441417868443648) (.float .f64 4618441417868443648) (.float .f64 13837309855095848960) (.float .f64 13837309855095848960))
    go_simp
    refine hK.out _ _ (Or.inr ⟨((M.out.nth 7 rfl).six).1, ((M.out.nth 7 rfl).six).2.1, ((M.out.nth 7 rfl).six).2.2.1, ((M.out.nth 7 rfl).six).2.2.2.1, ((M.out.nth 7 rfl).six).2.2.2.2.1, ((M.out.nth 7 rfl).six).2.2.2.2.2, (M.out.nth 6 rfl).six⟩) (fun hHeld => ?_)
    clear hK K hHeld kc kf
    refine tails_one (T := []) (i := 13) (o := _) rfl (by kernel_rfl) (fun K hK => ?_)
    have kc := (M.out.nth 2 rfl).2.1
    have kf := (M.out.nth 2 rfl).2.2
    replace M := Lib.hid (M.out.set2 2 rfl (.float .f64 4619567317775286272) (.float .f64 4619567317775286272))
    go_simp
    refine hK.out _ _ (Or.inr ⟨((M.out.nth 7 rfl).six).1, ((M.out.nth 7 rfl).six).2.1, ((M.out.nth 7 rfl).six).2.2.1, ((M.out.nth 7 rfl).six).2.2.2.1, ((M.out.nth 7 rfl).six).2.2.2.2.1, ((M.out.nth 7 rfl).six).2.2.2.2.2, (M.out.nth 6 rfl).six⟩) (fun hHeld => ?_)
    clear hK K hHeld kc kf
    refine tails_done (by kernel_rfl) ?_ _
    refine NoPanic.normal ?_
    revert M
    generalize ((((((((((v.setCell ⟨pq1, 0, none⟩ (.float .f64 4629700416936869888)).setCell ⟨pq1, 1, none⟩ (.float .f64 4629700416936869888)).setCell ⟨pq2, 0, none⟩ (.float .f64 13837309855095848960)).setCell ⟨pq2, 1, none⟩ (.float .f64 13837309855095848960)).setCell ⟨pq2, 2, none⟩ (.float .f64 4618441417868443648)).setCell ⟨pq2, 3, none⟩ (.float .f64 4618441417868443648)).setCell ⟨pq2, 4, none⟩ (.float .f64 13837309855095848960)).setCell ⟨pq2, 5, none⟩ (.float .f64 13837309855095848960)).setCell ⟨pq3, 0, none⟩ (.float .f64 4619567317775286272)).setCell ⟨pq3, 1, none⟩ (.float .f64 4619567317775286272)) = W
    intro M
    clear k1 k2 k3 k4 k5 k6 k7 k8 k9 k10 k11 k12
    go_upto_region 7 with fail
    replace M := Lib.hid M.out.drew
    obtain ⟨k1, k2⟩ := (M.out.nth 0 rfl).two
    obtain ⟨k3, k4, k5, k6, k7, k8⟩ := (M.out.nth 1 rfl).six
    obtain ⟨k9, k10⟩ := (M.out.nth 2 rfl).two
    obtain ⟨k11, k12, k13, k14, k15, k16⟩ := (M.out.nth 4 rfl).six
    obtain ⟨k17, k18, k19, k20, k21, k22⟩ := (M.out.nth 5 rfl).six
    have hq := run_eq_iv
    have t0 : Op.floatEq .f64 0 0 = true := by decide +kernel
    have t1 : Op.floatEq .f64 4629700416936869888 4629700416936869888 = true := by decide +kernel
    have t2 : Op.floatEq .f64 4619567317775286272 4619567317775286272 = true := by decide +kernel
    go_region_held3 (fun w' => w'.cell? ⟨pq1, 0, none⟩ = some (.float .f64 4629700416936869888) ∧ w'.cell? ⟨pq1, 1, none⟩ = some (.float .f64 4629700416936869888) ∧ w'.cell? ⟨pq2, 0, none⟩ = some (.float .f64 13837309855095848960) ∧ w'.cell? ⟨pq2, 1, none⟩ = some (.float .f64 13837309855095848960) ∧ w'.cell? ⟨pq2, 2, none⟩ = some (.float .f64 4618441417868443648) ∧ w'.cell? ⟨pq2, 3, none⟩ = some (.float .f64 4618441417868443648) ∧ w'.cell? ⟨pq2, 4, none⟩ = some (.float .f64 13837309855095848960) ∧ w'.cell? ⟨pq2, 5, none⟩ = some (.float .f64 13837309855095848960) ∧ w'.cell? ⟨pq3, 0, none⟩ = some (.float .f64 4619567317775286272) ∧ w'.cell? ⟨pq3, 1, none⟩ = some (.float .f64 4619567317775286272) ∧ w'.cell? ⟨w4.heap.size, 0, none⟩ = some (.float .f64 0) ∧ w'.cell? ⟨w4.heap.size, 1, none⟩ = some (.float .f64 0) ∧ w'.cell? ⟨w4.heap.size, 2, none⟩ = some (.float .f64 0) ∧ w'.cell? ⟨w4.heap.size, 3, none⟩ = some (.float .f64 0) ∧ w'.cell? ⟨w4.heap.size, 4, none⟩ = some (.float .f64 4607182418800017408) ∧ w'.cell? ⟨w4.heap.size, 5, none⟩ = some (.float .f64 4607182418800017408) ∧ w'.cell? ⟨w3.heap.size, 0, none⟩ = some (.float .f64 4603579539098121011) ∧ w'.cell? ⟨w3.heap.size, 1, none⟩ = some (.float .f64 4603579539098121012) ∧ w'.cell? ⟨w3.heap.size, 2, none⟩ = some (.float .f64 0) ∧ w'.cell? ⟨w3.heap.size, 3, none⟩ = some (.float .f64 0) ∧ w'.cell? ⟨w3.heap.size, 4, none⟩ = some (.float .f64 4605380978949069209) ∧ w'.cell? ⟨w3.heap.size, 5, none⟩ = some (.float .f64 4605380978949069210)) (((try dsimp only); (repeat' apply And.intro); all_goals (repeat (first | (with_reducible assumption) | ((with_reducible refine keep_undrew ?_); (with_reducible assumption)) | (with_reducible refine keep_drew ?_)))))
      (first
      | (go_at_call 44; (with_reducible refine (l_has1 _).mono ?_); rintro rr w7 ⟨rfl, hb⟩; replace M := Lib.hid (M.out.below hb); clear hb k1 k2 k3 k4 k5 k6 k7 k8 k9 k10 k11 k12 k13 k14 k15 k16 k17 k18 k19 k20 k21 k22; obtain ⟨k1, k2⟩ := (M.out.nth 0 rfl).two; obtain ⟨k3, k4, k5, k6, k7, k8⟩ := (M.out.nth 1 rfl).six; obtain ⟨k9, k10⟩ := (M.out.nth 2 rfl).two; obtain ⟨k11, k12, k13, k14, k15, k16⟩ := (M.out.nth 4 rfl).six; obtain ⟨k17, k18, k19, k20, k21, k22⟩ := (M.out.nth 5 rfl).six)
      | (go_at_call 44; (with_reducible refine (l_has2 _).mono ?_); rintro rr w7 ⟨rfl, hb⟩; replace M := Lib.hid (M.out.below hb); clear hb k1 k2 k3 k4 k5 k6 k7 k8 k9 k10 k11 k12 k13 k14 k15 k16 k17 k18 k19 k20 k21 k22; obtain ⟨k1, k2⟩ := (M.out.nth 0 rfl).two; obtain ⟨k3, k4, k5, k6, k7, k8⟩ := (M.out.nth 1 rfl).six; obtain ⟨k9, k10⟩ := (M.out.nth 2 rfl).two; obtain ⟨k11, k12, k13, k14, k15, k16⟩ := (M.out.nth 4 rfl).six; obtain ⟨k17, k18, k19, k20, k21, k22⟩ := (M.out.nth 5 rfl).six)
      | (go_at_call 41; (with_reducible refine (at_any _ _ _ _).mono ?_); rintro rr w7 ⟨rfl, hb⟩; replace M := Lib.hid (M.out.below hb); clear hb k1 k2 k3 k4 k5 k6 k7 k8 k9 k10 k11 k12 k13 k14 k15 k16 k17 k18 k19 k20 k21 k22; obtain ⟨k1, k2⟩ := (M.out.nth 0 rfl).two; obtain ⟨k3, k4, k5, k6, k7, k8⟩ := (M.out.nth 1 rfl).six; obtain ⟨k9, k10⟩ := (M.out.nth 2 rfl).two; obtain ⟨k11, k12, k13, k14, k15, k16⟩ := (M.out.nth 4 rfl).six; obtain ⟨k17, k18, k19, k20, k21, k22⟩ := (M.out.nth 5 rfl).six)
      | (go_at_call 11; (with_reducible refine (sameV_any _ _ _ _ _ _ _).mono ?_); rintro rr w7 ⟨rfl, hb⟩; replace M := Lib.hid (M.out.below hb); clear hb k1 k2 k3 k4 k5 k6 k7 k8 k9 k10 k11 k12 k13 k14 k15 k16 k17 k18 k19 k20 k21 k22; obtain ⟨k1, k2⟩ := (M.out.nth 0 rfl).two; obtain ⟨k3, k4, k5, k6, k7, k8⟩ := (M.out.nth 1 rfl).six; obtain ⟨k9, k10⟩ := (M.out.nth 2 rfl).two; obtain ⟨k11, k12, k13, k14, k15, k16⟩ := (M.out.nth 4 rfl).six; obtain ⟨k17, k18, k19, k20, k21, k22⟩ := (M.out.nth 5 rfl).six)
      | (go_at_call 13; (with_reducible refine (err_any 0 w.heap.size 0 _ (M.out.nth 8 rfl).pc).mono ?_); rintro rr w7 ⟨rfl, rfl⟩))
    go_wp2
    go_ret
    exact ⟨rfl, M.out.base⟩

end Go.Proofs.Ytdppppaoflhgdaa
