
/- VecHolds holds for any two vectors, any interval, of any floats, and any six parts: the law answers true, and its arguments read as before. No conditions. -/
import Derived.Test.YtmcecchcbfhfcaaVecAll
import Derived.Test.YtmcecchcbfhfcaaBase
import Derived.ProofKit
import Derived.Lib.SmallJoins
import Derived.Laws.Cover2
import Derived.OpenShut
import Derived.Deep.Strs
import Derived.Carry
namespace Go.Proofs.Ytmcecchcbfhfcaa
open Go.RowKit
attribute [local go_sem] run_store_float

section
variable {B v : World} {pb : Nat} {e : Int} {l : List (Nat × Array Value)}
theorem EnvE.set62 (h : EnvE B pb e l v) {q r : Nat} {z0 z1 z2 z3 z4 z5 u0 u1 : Value} (hx : Has1 v (q, #[z0, z1, z2, z3, z4, z5])) (hr : Has1 v (r, #[u0, u1])) (nq : pb ≠ q) (nr : pb ≠ r) (qr : q ≠ r) (hq : B.heap.size ≤ q) (hr' : B.heap.size ≤ r) (y0 y1 y2 y3 y4 y5 x0 x1 : Value) :
    EnvE B pb e [(q, #[y0, y1, y2, y3, y4, y5]), (r, #[x0, x1])] ((((((((v.setCell ⟨q, 0, none⟩ y0).setCell ⟨q, 1, none⟩ y1).setCell ⟨q, 2, none⟩ y2).setCell ⟨q, 3, none⟩ y3).setCell ⟨q, 4, none⟩ y4).setCell ⟨q, 5, none⟩ y5).setCell ⟨r, 0, none⟩ x0).setCell ⟨r, 1, none⟩ x1) := by
  have h6 := h.set6 hx nq hq y0 y1 y2 y3 y4 y5
  have hr6 : Has1 ((((((v.setCell ⟨q, 0, none⟩ y0).setCell ⟨q, 1, none⟩ y1).setCell ⟨q, 2, none⟩ y2).setCell ⟨q, 3, none⟩ y3).setCell ⟨q, 4, none⟩ y4).setCell ⟨q, 5, none⟩ y5) (r, #[u0, u1]) := (((((hr.set qr).set qr).set qr).set qr).set qr).set qr
  have h2 := h6.set2 hr6 nr hr' x0 x1
  exact h2.add (((h6.nth 0 rfl).set (Ne.symm qr)).set (Ne.symm qr)) nq
end

set_option maxRecDepth 100000 in
set_option maxHeartbeats 4000000 in
theorem made_0 (a1 a2 a3 a4 a5 a6 b1 b2 b3 b4 b5 b6 kl kh r1 r2 r3 r4 r5 r6 : Nat) (e e1 : Int) (pb : Nat) (w : World) (hC : Has1 w (pb, #[.int .i64 e]))
    (cF : Hid (∀ v : World, Has1 v (pb, #[.int .i64 e]) → Calls Try.prog 72 #[.pointer (some ⟨pb, 0, none⟩), .agg #[.float .f64 a1, .float .f64 a2, .float .f64 a3, .float .f64 a4, .float .f64 a5, .float .f64 a6], .agg #[.float .f64 b1, .float .f64 b2, .float .f64 b3, .float .f64 b4, .float .f64 b5, .float .f64 b6]] v fun r w' => r = .returned (.agg #[.float .f64 r1, .float .f64 r2, .float .f64 r3, .float .f64 r4, .float .f64 r5, .float .f64 r6]) ∧ Put ⟨pb, 0, none⟩ (.int .i64 e1) v w')) :
    Calls Try.prog 69 #[.int .i64 0, .pointer (some ⟨pb, 0, none⟩), .agg #[.float .f64 a1, .float .f64 a2, .float .f64 a3, .float .f64 a4, .float .f64 a5, .float .f64 a6], .agg #[.float .f64 b1, .float .f64 b2, .float .f64 b3, .float .f64 b4, .float .f64 b5, .float .f64 b6], .agg #[.float .f64 kl, .float .f64 kh]] w fun r w' => r = .returned (.tuple #[.agg #[.float .f64 r1, .float .f64 r2, .float .f64 r3, .float .f64 r4, .float .f64 r5, .float .f64 r6], .agg #[.float .f64 0, .float .f64 0]]) ∧ Put ⟨pb, 0, none⟩ (.int .i64 e1) w w' := by
  have E := Lib.hid (((((EnvE.start hC).made #[.float .f64 a1, .float .f64 a2, .float .f64 a3, .float .f64 a4, .float .f64 a5, .float .f64 a6] 60).made #[.float .f64 b1, .float .f64 b2, .float .f64 b3, .float .f64 b4, .float .f64 b5, .float .f64 b6] 60).made #[.float .f64 kl, .float .f64 kh] 39).made #[.float .f64 0, .float .f64 0, .float .f64 0, .float .f64 0, .float .f64 0, .float .f64 0] 60)
  have E := Lib.hid (E.out.made #[.float .f64 0, .float .f64 0] 39)
  simp only [World.size_alloc] at E
  have lp : pb < w.heap.size := hC.1
  obtain ⟨k1, k2, k3, k4, k5, k6⟩ := (E.out.nth 4 rfl).six
  obtain ⟨k7, k8, k9, k10, k11, k12⟩ := (E.out.nth 3 rfl).six
  obtain ⟨k13, k14⟩ := (E.out.nth 2 rfl).two
  clear hC
  go_enter Try.func69, Try.ntmps69
  go_wp2_with fail
  refine (cF.out _ E.out.cal).mono ?_
  rintro r w1 ⟨rfl, hp⟩
  have E1 := Lib.hid (E.out.putc hp)
  clear E hp k1 k2 k3 k4 k5 k6 k7 k8 k9 k10 k11 k12 k13 k14
  have kc := (E1.out.nth 1 rfl).2.1
  have kf := (E1.out.nth 1 rfl).2.2
  have kd := (E1.out.nth 0 rfl).2.1
  have kg := (E1.out.nth 0 rfl).2.2
  have F := Lib.hid (E1.out.set62 (E1.out.nth 1 rfl) (E1.out.nth 0 rfl) (E1.out.ne 1 rfl) (E1.out.ne 0 rfl) (by omega) (by omega) (by omega) (.float .f64 r1) (.float .f64 r2) (.float .f64 r3) (.float .f64 r4) (.float .f64 r5) (.float .f64 r6) (.float .f64 0) (.float .f64 0))
  go_wp2
  obtain ⟨f1, f2, f3, f4, f5, f6⟩ := (F.out.nth 0 rfl).six
  obtain ⟨f7, f8⟩ := (F.out.nth 1 rfl).two
  exact bodyPost_ret (v := .tuple #[.agg #[.float .f64 r1, .float .f64 r2, .float .f64 r3, .float .f64 r4, .float .f64 r5, .float .f64 r6], .agg #[.float .f64 0, .float .f64 0]]) (by simp [results, Try.results69, go_sem, f1, f2, f3, f4, f5, f6, f7, f8]) rfl ⟨rfl, F.out.put⟩

set_option maxRecDepth 100000 in
set_option maxHeartbeats 4000000 in
theorem made_1 (a1 a2 a3 a4 a5 a6 b1 b2 b3 b4 b5 b6 kl kh r1 r2 r3 r4 r5 r6 : Nat) (e e1 : Int) (pb : Nat) (w : World) (hC : Has1 w (pb, #[.int .i64 e]))
    (cF : Hid (∀ v : World, Has1 v (pb, #[.int .i64 e]) → Calls Try.prog 71 #[.pointer (some ⟨pb, 0, none⟩), .agg #[.float .f64 a1, .float .f64 a2, .float .f64 a3, .float .f64 a4, .float .f64 a5, .float .f64 a6], .agg #[.float .f64 b1, .float .f64 b2, .float .f64 b3, .float .f64 b4, .float .f64 b5, .float .f64 b6]] v fun r w' => r = .returned (.agg #[.float .f64 r1, .float .f64 r2, .float .f64 r3, .float .f64 r4, .float .f64 r5, .float .f64 r6]) ∧ Put ⟨pb, 0, none⟩ (.int .i64 e1) v w')) :
    Calls Try.prog 69 #[.int .i64 1, .pointer (some ⟨pb, 0, none⟩), .agg #[.float .f64 a1, .float .f64 a2, .float .f64 a3, .float .f64 a4, .float .f64 a5, .float .f64 a6], .agg #[.float .f64 b1, .float .f64 b2, .float .f64 b3, .float .f64 b4, .float .f64 b5, .float .f64 b6], .agg #[.float .f64 kl, .float .f64 kh]] w fun r w' => r = .returned (.tuple #[.agg #[.float .f64 r1, .float .f64 r2, .float .f64 r3, .float .f64 r4, .float .f64 r5, .float .f64 r6], .agg #[.float .f64 0, .float .f64 0]]) ∧ Put ⟨pb, 0, none⟩ (.int .i64 e1) w w' := by
  have E := Lib.hid (((((EnvE.start hC).made #[.float .f64 a1, .float .f64 a2, .float .f64 a3, .float .f64 a4, .float .f64 a5, .float .f64 a6] 60).made #[.float .f64 b1, .float .f64 b2, .float .f64 b3, .float .f64 b4, .float .f64 b5, .float .f64 b6] 60).made #[.float .f64 kl, .float .f64 kh] 39).made #[.float .f64 0, .float .f64 0, .float .f64 0, .float .f64 0, .float .f64 0, .float .f64 0] 60)
  have E := Lib.hid (E.out.made #[.float .f64 0, .float .f64 0] 39)
  simp only [World.size_alloc] at E
  have lp : pb < w.heap.size := hC.1
  obtain ⟨k1, k2, k3, k4, k5, k6⟩ := (E.out.nth 4 rfl).six
  obtain ⟨k7, k8, k9, k10, k11, k12⟩ := (E.out.nth 3 rfl).six
  obtain ⟨k13, k14⟩ := (E.out.nth 2 rfl).two
  clear hC
  go_enter Try.func69, Try.ntmps69
  go_wp2_with fail
  refine (cF.out _ E.out.cal).mono ?_
  rintro r w1 ⟨rfl, hp⟩
  have E1 := Lib.hid (E.out.putc hp)
  clear E hp k1 k2 k3 k4 k5 k6 k7 k8 k9 k10 k11 k12 k13 k14
  have kc := (E1.out.nth 1 rfl).2.1
  have kf := (E1.out.nth 1 rfl).2.2
  have kd := (E1.out.nth 0 rfl).2.1
  have kg := (E1.out.nth 0 rfl).2.2
  have F := Lib.hid (E1.out.set62 (E1.out.nth 1 rfl) (E1.out.nth 0 rfl) (E1.out.ne 1 rfl) (E1.out.ne 0 rfl) (by omega) (by omega) (by omega) (.float .f64 r1) (.float .f64 r2) (.float .f64 r3) (.float .f64 r4) (.float .f64 r5) (.float .f64 r6) (.float .f64 0) (.float .f64 0))
  go_wp2
  obtain ⟨f1, f2, f3, f4, f5, f6⟩ := (F.out.nth 0 rfl).six
  obtain ⟨f7, f8⟩ := (F.out.nth 1 rfl).two
  exact bodyPost_ret (v := .tuple #[.agg #[.float .f64 r1, .float .f64 r2, .float .f64 r3, .float .f64 r4, .float .f64 r5, .float .f64 r6], .agg #[.float .f64 0, .float .f64 0]]) (by simp [results, Try.results69, go_sem, f1, f2, f3, f4, f5, f6, f7, f8]) rfl ⟨rfl, F.out.put⟩

set_option maxRecDepth 100000 in
set_option maxHeartbeats 4000000 in
theorem made_2 (a1 a2 a3 a4 a5 a6 b1 b2 b3 b4 b5 b6 kl kh r1 r2 r3 r4 r5 r6 : Nat) (e e1 : Int) (pb : Nat) (w : World) (hC : Has1 w (pb, #[.int .i64 e]))
    (cF : Hid (∀ v : World, Has1 v (pb, #[.int .i64 e]) → Calls Try.prog 64 #[.pointer (some ⟨pb, 0, none⟩), .agg #[.float .f64 a1, .float .f64 a2, .float .f64 a3, .float .f64 a4, .float .f64 a5, .float .f64 a6]] v fun r w' => r = .returned (.agg #[.float .f64 r1, .float .f64 r2, .float .f64 r3, .float .f64 r4, .float .f64 r5, .float .f64 r6]) ∧ Put ⟨pb, 0, none⟩ (.int .i64 e1) v w')) :
    Calls Try.prog 69 #[.int .i64 2, .pointer (some ⟨pb, 0, none⟩), .agg #[.float .f64 a1, .float .f64 a2, .float .f64 a3, .float .f64 a4, .float .f64 a5, .float .f64 a6], .agg #[.float .f64 b1, .float .f64 b2, .float .f64 b3, .float .f64 b4, .float .f64 b5, .float .f64 b6], .agg #[.float .f64 kl, .float .f64 kh]] w fun r w' => r = .returned (.tuple #[.agg #[.float .f64 r1, .float .f64 r2, .float .f64 r3, .float .f64 r4, .float .f64 r5, .float .f64 r6], .agg #[.float .f64 0, .float .f64 0]]) ∧ Put ⟨pb, 0, none⟩ (.int .i64 e1) w w' := by
  have E := Lib.hid (((((EnvE.start hC).made #[.float .f64 a1, .float .f64 a2, .float .f64 a3, .float .f64 a4, .float .f64 a5, .float .f64 a6] 60).made #[.float .f64 b1, .float .f64 b2, .float .f64 b3, .float .f64 b4, .float .f64 b5, .float .f64 b6] 60).made #[.float .f64 kl, .float .f64 kh] 39).made #[.float .f64 0, .float .f64 0, .float .f64 0, .float .f64 0, .float .f64 0, .float .f64 0] 60)
  have E := Lib.hid (E.out.made #[.float .f64 0, .float .f64 0] 39)
  simp only [World.size_alloc] at E
  have lp : pb < w.heap.size := hC.1
  obtain ⟨k1, k2, k3, k4, k5, k6⟩ := (E.out.nth 4 rfl).six
  obtain ⟨k7, k8, k9, k10, k11, k12⟩ := (E.out.nth 3 rfl).six
  obtain ⟨k13, k14⟩ := (E.out.nth 2 rfl).two
  clear hC
  go_enter Try.func69, Try.ntmps69
  go_wp2_with fail
  refine (cF.out _ E.out.cal).mono ?_
  rintro r w1 ⟨rfl, hp⟩
  have E1 := Lib.hid (E.out.putc hp)
  clear E hp k1 k2 k3 k4 k5 k6 k7 k8 k9 k10 k11 k12 k13 k14
  have kc := (E1.out.nth 1 rfl).2.1
  have kf := (E1.out.nth 1 rfl).2.2
  have kd := (E1.out.nth 0 rfl).2.1
  have kg := (E1.out.nth 0 rfl).2.2
  have F := Lib.hid (E1.out.set62 (E1.out.nth 1 rfl) (E1.out.nth 0 rfl) (E1.out.ne 1 rfl) (E1.out.ne 0 rfl) (by omega) (by omega) (by omega) (.float .f64 r1) (.float .f64 r2) (.float .f64 r3) (.float .f64 r4) (.float .f64 r5) (.float .f64 r6) (.float .f64 0) (.float .f64 0))
  go_wp2
  obtain ⟨f1, f2, f3, f4, f5, f6⟩ := (F.out.nth 0 rfl).six
  obtain ⟨f7, f8⟩ := (F.out.nth 1 rfl).two
  exact bodyPost_ret (v := .tuple #[.agg #[.float .f64 r1, .float .f64 r2, .float .f64 r3, .float .f64 r4, .float .f64 r5, .float .f64 r6], .agg #[.float .f64 0, .float .f64 0]]) (by simp [results, Try.results69, go_sem, f1, f2, f3, f4, f5, f6, f7, f8]) rfl ⟨rfl, F.out.put⟩

set_option maxRecDepth 100000 in
set_option maxHeartbeats 4000000 in
theorem made_3 (a1 a2 a3 a4 a5 a6 b1 b2 b3 b4 b5 b6 kl kh r1 r2 r3 r4 r5 r6 : Nat) (e e1 : Int) (pb : Nat) (w : World) (hC : Has1 w (pb, #[.int .i64 e]))
    (cF : Hid (∀ v : World, Has1 v (pb, #[.int .i64 e]) → Calls Try.prog 126 #[.pointer (some ⟨pb, 0, none⟩), .agg #[.float .f64 kl, .float .f64 kh], .agg #[.float .f64 a1, .float .f64 a2, .float .f64 a3, .float .f64 a4, .float .f64 a5, .float .f64 a6]] v fun r w' => r = .returned (.agg #[.float .f64 r1, .float .f64 r2, .float .f64 r3, .float .f64 r4, .float .f64 r5, .float .f64 r6]) ∧ Put ⟨pb, 0, none⟩ (.int .i64 e1) v w')) :
    Calls Try.prog 69 #[.int .i64 3, .pointer (some ⟨pb, 0, none⟩), .agg #[.float .f64 a1, .float .f64 a2, .float .f64 a3, .float .f64 a4, .float .f64 a5, .float .f64 a6], .agg #[.float .f64 b1, .float .f64 b2, .float .f64 b3, .float .f64 b4, .float .f64 b5, .float .f64 b6], .agg #[.float .f64 kl, .float .f64 kh]] w fun r w' => r = .returned (.tuple #[.agg #[.float .f64 r1, .float .f64 r2, .float .f64 r3, .float .f64 r4, .float .f64 r5, .float .f64 r6], .agg #[.float .f64 0, .float .f64 0]]) ∧ Put ⟨pb, 0, none⟩ (.int .i64 e1) w w' := by
  have E := Lib.hid (((((EnvE.start hC).made #[.float .f64 a1, .float .f64 a2, .float .f64 a3, .float .f64 a4, .float .f64 a5, .float .f64 a6] 60).made #[.float .f64 b1, .float .f64 b2, .float .f64 b3, .float .f64 b4, .float .f64 b5, .float .f64 b6] 60).made #[.float .f64 kl, .float .f64 kh] 39).made #[.float .f64 0, .float .f64 0, .float .f64 0, .float .f64 0, .float .f64 0, .float .f64 0] 60)
  have E := Lib.hid (E.out.made #[.float .f64 0, .float .f64 0] 39)
  simp only [World.size_alloc] at E
  have lp : pb < w.heap.size := hC.1
  obtain ⟨k1, k2, k3, k4, k5, k6⟩ := (E.out.nth 4 rfl).six
  obtain ⟨k7, k8, k9, k10, k11, k12⟩ := (E.out.nth 3 rfl).six
  obtain ⟨k13, k14⟩ := (E.out.nth 2 rfl).two
  clear hC
  go_enter Try.func69, Try.ntmps69
  go_wp2_with fail
  refine (cF.out _ E.out.cal).mono ?_
  rintro r w1 ⟨rfl, hp⟩
  have E1 := Lib.hid (E.out.putc hp)
  clear E hp k1 k2 k3 k4 k5 k6 k7 k8 k9 k10 k11 k12 k13 k14
  have kc := (E1.out.nth 1 rfl).2.1
  have kf := (E1.out.nth 1 rfl).2.2
  have kd := (E1.out.nth 0 rfl).2.1
  have kg := (E1.out.nth 0 rfl).2.2
  have F := Lib.hid (E1.out.set62 (E1.out.nth 1 rfl) (E1.out.nth 0 rfl) (E1.out.ne 1 rfl) (E1.out.ne 0 rfl) (by omega) (by omega) (by omega) (.float .f64 r1) (.float .f64 r2) (.float .f64 r3) (.float .f64 r4) (.float .f64 r5) (.float .f64 r6) (.float .f64 0) (.float .f64 0))
  go_wp2
  obtain ⟨f1, f2, f3, f4, f5, f6⟩ := (F.out.nth 0 rfl).six
  obtain ⟨f7, f8⟩ := (F.out.nth 1 rfl).two
  exact bodyPost_ret (v := .tuple #[.agg #[.float .f64 r1, .float .f64 r2, .float .f64 r3, .float .f64 r4, .float .f64 r5, .float .f64 r6], .agg #[.float .f64 0, .float .f64 0]]) (by simp [results, Try.results69, go_sem, f1, f2, f3, f4, f5, f6, f7, f8]) rfl ⟨rfl, F.out.put⟩

set_option maxRecDepth 100000 in
set_option maxHeartbeats 4000000 in
theorem made_4 (a1 a2 a3 a4 a5 a6 b1 b2 b3 b4 b5 b6 kl kh r1 r2 r3 r4 r5 r6 : Nat) (e e1 : Int) (pb : Nat) (w : World) (hC : Has1 w (pb, #[.int .i64 e]))
    (cF : Hid (∀ v : World, Has1 v (pb, #[.int .i64 e]) → Calls Try.prog 66 #[.pointer (some ⟨pb, 0, none⟩), .agg #[.float .f64 a1, .float .f64 a2, .float .f64 a3, .float .f64 a4, .float .f64 a5, .float .f64 a6], .agg #[.float .f64 b1, .float .f64 b2, .float .f64 b3, .float .f64 b4, .float .f64 b5, .float .f64 b6]] v fun r w' => r = .returned (.agg #[.float .f64 r1, .float .f64 r2, .float .f64 r3, .float .f64 r4, .float .f64 r5, .float .f64 r6]) ∧ Put ⟨pb, 0, none⟩ (.int .i64 e1) v w')) :
    Calls Try.prog 69 #[.int .i64 4, .pointer (some ⟨pb, 0, none⟩), .agg #[.float .f64 a1, .float .f64 a2, .float .f64 a3, .float .f64 a4, .float .f64 a5, .float .f64 a6], .agg #[.float .f64 b1, .float .f64 b2, .float .f64 b3, .float .f64 b4, .float .f64 b5, .float .f64 b6], .agg #[.float .f64 kl, .float .f64 kh]] w fun r w' => r = .returned (.tuple #[.agg #[.float .f64 r1, .float .f64 r2, .float .f64 r3, .float .f64 r4, .float .f64 r5, .float .f64 r6], .agg #[.float .f64 0, .float .f64 0]]) ∧ Put ⟨pb, 0, none⟩ (.int .i64 e1) w w' := by
  have E := Lib.hid (((((EnvE.start hC).made #[.float .f64 a1, .float .f64 a2, .float .f64 a3, .float .f64 a4, .float .f64 a5, .float .f64 a6] 60).made #[.float .f64 b1, .float .f64 b2, .float .f64 b3, .float .f64 b4, .float .f64 b5, .float .f64 b6] 60).made #[.float .f64 kl, .float .f64 kh] 39).made #[.float .f64 0, .float .f64 0, .float .f64 0, .float .f64 0, .float .f64 0, .float .f64 0] 60)
  have E := Lib.hid (E.out.made #[.float .f64 0, .float .f64 0] 39)
  simp only [World.size_alloc] at E
  have lp : pb < w.heap.size := hC.1
  obtain ⟨k1, k2, k3, k4, k5, k6⟩ := (E.out.nth 4 rfl).six
  obtain ⟨k7, k8, k9, k10, k11, k12⟩ := (E.out.nth 3 rfl).six
  obtain ⟨k13, k14⟩ := (E.out.nth 2 rfl).two
  clear hC
  go_enter Try.func69, Try.ntmps69
  go_wp2_with fail
  refine (cF.out _ E.out.cal).mono ?_
  rintro r w1 ⟨rfl, hp⟩
  have E1 := Lib.hid (E.out.putc hp)
  clear E hp k1 k2 k3 k4 k5 k6 k7 k8 k9 k10 k11 k12 k13 k14
  have kc := (E1.out.nth 1 rfl).2.1
  have kf := (E1.out.nth 1 rfl).2.2
  have kd := (E1.out.nth 0 rfl).2.1
  have kg := (E1.out.nth 0 rfl).2.2
  have F := Lib.hid (E1.out.set62 (E1.out.nth 1 rfl) (E1.out.nth 0 rfl) (E1.out.ne 1 rfl) (E1.out.ne 0 rfl) (by omega) (by omega) (by omega) (.float .f64 r1) (.float .f64 r2) (.float .f64 r3) (.float .f64 r4) (.float .f64 r5) (.float .f64 r6) (.float .f64 0) (.float .f64 0))
  go_wp2
  obtain ⟨f1, f2, f3, f4, f5, f6⟩ := (F.out.nth 0 rfl).six
  obtain ⟨f7, f8⟩ := (F.out.nth 1 rfl).two
  exact bodyPost_ret (v := .tuple #[.agg #[.float .f64 r1, .float .f64 r2, .float .f64 r3, .float .f64 r4, .float .f64 r5, .float .f64 r6], .agg #[.float .f64 0, .float .f64 0]]) (by simp [results, Try.results69, go_sem, f1, f2, f3, f4, f5, f6, f7, f8]) rfl ⟨rfl, F.out.put⟩

set_option maxRecDepth 100000 in
set_option maxHeartbeats 4000000 in
theorem made_5 (a1 a2 a3 a4 a5 a6 b1 b2 b3 b4 b5 b6 kl kh x1 x2 : Nat) (e e1 : Int) (pb : Nat) (w : World) (hC : Has1 w (pb, #[.int .i64 e]))
    (cF : Hid (∀ v : World, Has1 v (pb, #[.int .i64 e]) → Calls Try.prog 67 #[.pointer (some ⟨pb, 0, none⟩), .agg #[.float .f64 a1, .float .f64 a2, .float .f64 a3, .float .f64 a4, .float .f64 a5, .float .f64 a6], .agg #[.float .f64 b1, .float .f64 b2, .float .f64 b3, .float .f64 b4, .float .f64 b5, .float .f64 b6]] v fun r w' => r = .returned (.agg #[.float .f64 x1, .float .f64 x2]) ∧ Put ⟨pb, 0, none⟩ (.int .i64 e1) v w')) :
    Calls Try.prog 69 #[.int .i64 5, .pointer (some ⟨pb, 0, none⟩), .agg #[.float .f64 a1, .float .f64 a2, .float .f64 a3, .float .f64 a4, .float .f64 a5, .float .f64 a6], .agg #[.float .f64 b1, .float .f64 b2, .float .f64 b3, .float .f64 b4, .float .f64 b5, .float .f64 b6], .agg #[.float .f64 kl, .float .f64 kh]] w fun r w' => r = .returned (.tuple #[.agg #[.float .f64 0, .float .f64 0, .float .f64 0, .float .f64 0, .float .f64 0, .float .f64 0], .agg #[.float .f64 x1, .float .f64 x2]]) ∧ Put ⟨pb, 0, none⟩ (.int .i64 e1) w w' := by
  have E := Lib.hid (((((EnvE.start hC).made #[.float .f64 a1, .float .f64 a2, .float .f64 a3, .float .f64 a4, .float .f64 a5, .float .f64 a6] 60).made #[.float .f64 b1, .float .f64 b2, .float .f64 b3, .float .f64 b4, .float .f64 b5, .float .f64 b6] 60).made #[.float .f64 kl, .float .f64 kh] 39).made #[.float .f64 0, .float .f64 0, .float .f64 0, .float .f64 0, .float .f64 0, .float .f64 0] 60)
  have E := Lib.hid (E.out.made #[.float .f64 0, .float .f64 0] 39)
  simp only [World.size_alloc] at E
  have lp : pb < w.heap.size := hC.1
  obtain ⟨k1, k2, k3, k4, k5, k6⟩ := (E.out.nth 4 rfl).six
  obtain ⟨k7, k8, k9, k10, k11, k12⟩ := (E.out.nth 3 rfl).six
  obtain ⟨k13, k14⟩ := (E.out.nth 2 rfl).two
  clear hC
  go_enter Try.func69, Try.ntmps69
  go_wp2_with fail
  refine (cF.out _ E.out.cal).mono ?_
  rintro r w1 ⟨rfl, hp⟩
  have E1 := Lib.hid (E.out.putc hp)
  clear E hp k1 k2 k3 k4 k5 k6 k7 k8 k9 k10 k11 k12 k13 k14
  have kc := (E1.out.nth 1 rfl).2.1
  have kf := (E1.out.nth 1 rfl).2.2
  have kd := (E1.out.nth 0 rfl).2.1
  have kg := (E1.out.nth 0 rfl).2.2
  have F := Lib.hid (E1.out.set62 (E1.out.nth 1 rfl) (E1.out.nth 0 rfl) (E1.out.ne 1 rfl) (E1.out.ne 0 rfl) (by omega) (by omega) (by omega) (.float .f64 0) (.float .f64 0) (.float .f64 0) (.float .f64 0) (.float .f64 0) (.float .f64 0) (.float .f64 x1) (.float .f64 x2))
  go_wp2
  obtain ⟨f1, f2, f3, f4, f5, f6⟩ := (F.out.nth 0 rfl).six
  obtain ⟨f7, f8⟩ := (F.out.nth 1 rfl).two
  exact bodyPost_ret (v := .tuple #[.agg #[.float .f64 0, .float .f64 0, .float .f64 0, .float .f64 0, .float .f64 0, .float .f64 0], .agg #[.float .f64 x1, .float .f64 x2]]) (by simp [results, Try.results69, go_sem, f1, f2, f3, f4, f5, f6, f7, f8]) rfl ⟨rfl, F.out.put⟩

set_option maxRecDepth 100000 in
set_option maxHeartbeats 4000000 in
theorem made_6 (a1 a2 a3 a4 a5 a6 b1 b2 b3 b4 b5 b6 kl kh x1 x2 : Nat) (e e1 : Int) (pb : Nat) (w : World) (hC : Has1 w (pb, #[.int .i64 e]))
    (cF : Hid (∀ v : World, Has1 v (pb, #[.int .i64 e]) → Calls Try.prog 62 #[.pointer (some ⟨pb, 0, none⟩), .agg #[.float .f64 a1, .float .f64 a2, .float .f64 a3, .float .f64 a4, .float .f64 a5, .float .f64 a6]] v fun r w' => r = .returned (.agg #[.float .f64 x1, .float .f64 x2]) ∧ Put ⟨pb, 0, none⟩ (.int .i64 e1) v w')) :
    Calls Try.prog 69 #[.int .i64 6, .pointer (some ⟨pb, 0, none⟩), .agg #[.float .f64 a1, .float .f64 a2, .float .f64 a3, .float .f64 a4, .float .f64 a5, .float .f64 a6], .agg #[.float .f64 b1, .float .f64 b2, .float .f64 b3, .float .f64 b4, .float .f64 b5, .float .f64 b6], .agg #[.float .f64 kl, .float .f64 kh]] w fun r w' => r = .returned (.tuple #[.agg #[.float .f64 0, .float .f64 0, .float .f64 0, .float .f64 0, .float .f64 0, .float .f64 0], .agg #[.float .f64 x1, .float .f64 x2]]) ∧ Put ⟨pb, 0, none⟩ (.int .i64 e1) w w' := by
  have E := Lib.hid (((((EnvE.start hC).made #[.float .f64 a1, .float .f64 a2, .float .f64 a3, .float .f64 a4, .float .f64 a5, .float .f64 a6] 60).made #[.float .f64 b1, .float .f64 b2, .float .f64 b3, .float .f64 b4, .float .f64 b5, .float .f64 b6] 60).made #[.float .f64 kl, .float .f64 kh] 39).made #[.float .f64 0, .float .f64 0, .float .f64 0, .float .f64 0, .float .f64 0, .float .f64 0] 60)
  have E := Lib.hid (E.out.made #[.float .f64 0, .float .f64 0] 39)
  simp only [World.size_alloc] at E
  have lp : pb < w.heap.size := hC.1
  obtain ⟨k1, k2, k3, k4, k5, k6⟩ := (E.out.nth 4 rfl).six
  obtain ⟨k7, k8, k9, k10, k11, k12⟩ := (E.out.nth 3 rfl).six
  obtain ⟨k13, k14⟩ := (E.out.nth 2 rfl).two
  clear hC
  go_enter Try.func69, Try.ntmps69
  go_wp2_with fail
  refine (cF.out _ E.out.cal).mono ?_
  rintro r w1 ⟨rfl, hp⟩
  have E1 := Lib.hid (E.out.putc hp)
  clear E hp k1 k2 k3 k4 k5 k6 k7 k8 k9 k10 k11 k12 k13 k14
  have kc := (E1.out.nth 1 rfl).2.1
  have kf := (E1.out.nth 1 rfl).2.2
  have kd := (E1.out.nth 0 rfl).2.1
  have kg := (E1.out.nth 0 rfl).2.2
  have F := Lib.hid (E1.out.set62 (E1.out.nth 1 rfl) (E1.out.nth 0 rfl) (E1.out.ne 1 rfl) (E1.out.ne 0 rfl) (by omega) (by omega) (by omega) (.float .f64 0) (.float .f64 0) (.float .f64 0) (.float .f64 0) (.float .f64 0) (.float .f64 0) (.float .f64 x1) (.float .f64 x2))
  go_wp2
  obtain ⟨f1, f2, f3, f4, f5, f6⟩ := (F.out.nth 0 rfl).six
  obtain ⟨f7, f8⟩ := (F.out.nth 1 rfl).two
  exact bodyPost_ret (v := .tuple #[.agg #[.float .f64 0, .float .f64 0, .float .f64 0, .float .f64 0, .float .f64 0, .float .f64 0], .agg #[.float .f64 x1, .float .f64 x2]]) (by simp [results, Try.results69, go_sem, f1, f2, f3, f4, f5, f6, f7, f8]) rfl ⟨rfl, F.out.put⟩

def zeroR : Res := ⟨0, 0, 0⟩
def zeroV : V3 := ⟨zeroR, zeroR, zeroR⟩
/-- One of seven calls: the vector, the interval, the error behind. -/
def madeV (e : Int) (a b : V3) (k : Res) : Nat → V3
  | 0 => addV e a b | 1 => subV e a b | 2 => negV e a | 3 => scaleV e k a | 4 => crossV e a b | _ => zeroV
def madeR (e : Int) (a b : V3) : Nat → Res
  | 5 => dotV e a b | 6 => normV e a | _ => zeroR
def madeE (e : Int) (a b : V3) (k : Res) : Nat → Int
  | 0 => (addV e a b).z.e | 1 => (subV e a b).z.e | 2 => (negV e a).z.e | 3 => (scaleV e k a).z.e | 4 => (crossV e a b).z.e | 5 => (dotV e a b).e | _ => (normV e a).e

section
variable (e : Int) (a b : V3) (k : Res)
theorem mV0 : madeV e a b k 0 = addV e a b := rfl
theorem mV1 : madeV e a b k 1 = subV e a b := rfl
theorem mV2 : madeV e a b k 2 = negV e a := rfl
theorem mV3 : madeV e a b k 3 = scaleV e k a := rfl
theorem mV4 : madeV e a b k 4 = crossV e a b := rfl
theorem mV5 : madeV e a b k 5 = zeroV := rfl
theorem mV6 : madeV e a b k 6 = zeroV := rfl
theorem mR0 : madeR e a b 0 = zeroR := rfl
theorem mR1 : madeR e a b 1 = zeroR := rfl
theorem mR2 : madeR e a b 2 = zeroR := rfl
theorem mR3 : madeR e a b 3 = zeroR := rfl
theorem mR4 : madeR e a b 4 = zeroR := rfl
theorem mR5 : madeR e a b 5 = dotV e a b := rfl
theorem mR6 : madeR e a b 6 = normV e a := rfl
theorem mE0 : madeE e a b k 0 = (addV e a b).z.e := rfl
theorem mE1 : madeE e a b k 1 = (subV e a b).z.e := rfl
theorem mE2 : madeE e a b k 2 = (negV e a).z.e := rfl
theorem mE3 : madeE e a b k 3 = (scaleV e k a).z.e := rfl
theorem mE4 : madeE e a b k 4 = (crossV e a b).z.e := rfl
theorem mE5 : madeE e a b k 5 = (dotV e a b).e := rfl
theorem mE6 : madeE e a b k 6 = (normV e a).e := rfl
end

set_option maxRecDepth 100000 in
theorem made_any (i : Nat) (hi : i < 7) (e : Int) {a b : V3} {k : Res} (ha : WdV a) (hb : WdV b) (hk : Wd k) (pb : Nat) (v : World) (hC : Has1 v (pb, #[.int .i64 e])) :
    Calls Try.prog 69 #[.int .i64 i, .pointer (some ⟨pb, 0, none⟩), .agg #[.float .f64 a.x.lo, .float .f64 a.x.hi, .float .f64 a.y.lo, .float .f64 a.y.hi, .float .f64 a.z.lo, .float .f64 a.z.hi], .agg #[.float .f64 b.x.lo, .float .f64 b.x.hi, .float .f64 b.y.lo, .float .f64 b.y.hi, .float .f64 b.z.lo, .float .f64 b.z.hi], .agg #[.float .f64 k.lo, .float .f64 k.hi]] v
      fun r w' => r = .returned (.tuple #[.agg #[.float .f64 (madeV e a b k i).x.lo, .float .f64 (madeV e a b k i).x.hi, .float .f64 (madeV e a b k i).y.lo, .float .f64 (madeV e a b k i).y.hi, .float .f64 (madeV e a b k i).z.lo, .float .f64 (madeV e a b k i).z.hi], .agg #[.float .f64 (madeR e a b i).lo, .float .f64 (madeR e a b i).hi]]) ∧ Put ⟨pb, 0, none⟩ (.int .i64 (madeE e a b k i)) v w' := by
  rcases (show i = 0 ∨ i = 1 ∨ i = 2 ∨ i = 3 ∨ i = 4 ∨ i = 5 ∨ i = 6 by omega) with rfl | rfl | rfl | rfl | rfl | rfl | rfl
  · rw [mV0, mR0, mE0]
    exact made_0 _ _ _ _ _ _ _ _ _ _ _ _ _ _ _ _ _ _ _ _ e _ pb v hC (Lib.hid fun v hC => vadd_any e ha hb pb v hC)
  · rw [mV1, mR1, mE1]
    exact made_1 _ _ _ _ _ _ _ _ _ _ _ _ _ _ _ _ _ _ _ _ e _ pb v hC (Lib.hid fun v hC => vsub_any e ha hb pb v hC)
  · rw [mV2, mR2, mE2]
    exact made_2 _ _ _ _ _ _ _ _ _ _ _ _ _ _ _ _ _ _ _ _ e _ pb v hC (Lib.hid fun v hC => vneg_any e ha pb v hC)
  · rw [mV3, mR3, mE3]
    exact made_3 _ _ _ _ _ _ _ _ _ _ _ _ _ _ _ _ _ _ _ _ e _ pb v hC (Lib.hid fun v hC => vscale_any e ha hk pb v hC)
  · rw [mV4, mR4, mE4]
    exact made_4 _ _ _ _ _ _ _ _ _ _ _ _ _ _ _ _ _ _ _ _ e _ pb v hC (Lib.hid fun v hC => vcross_any e ha hb pb v hC)
  · rw [mV5, mR5, mE5]
    exact made_5 _ _ _ _ _ _ _ _ _ _ _ _ _ _ _ _ e _ pb v hC (Lib.hid fun v hC => dot_any e ha hb pb v hC)
  · rw [mV6, mR6, mE6]
    exact made_6 _ _ _ _ _ _ _ _ _ _ _ _ _ _ _ _ e _ pb v hC (Lib.hid fun v hC => norm_any e ha pb v hC)

/-- What is worked out of parts is a part of what is worked out of the whole. -/
theorem made_in (i : Nat) (hi : i < 7) {a A b B : V3} {k : Res} (h : madeE 0 A B k i = 0) (ia : InV a A) (fA : FitV A) (ib : InV b B) (fB : FitV B) (fk : Fit k) :
    madeE 0 a b k i = 0 ∧ InV (madeV 0 a b k i) (madeV 0 A B k i) ∧ FitV (madeV 0 A B k i) ∧ In (madeR 0 a b i) (madeR 0 A B i) ∧ Fit (madeR 0 A B i) := by
  have z : Fit zeroR := .of (by decide)
  have zv : FitV zeroV := ⟨z, z, z⟩
  rcases (show i = 0 ∨ i = 1 ∨ i = 2 ∨ i = 3 ∨ i = 4 ∨ i = 5 ∨ i = 6 by omega) with rfl | rfl | rfl | rfl | rfl | rfl | rfl
  · rw [mE0] at h
    rw [mE0, mV0, mV0, mR0, mR0]
    obtain ⟨f, g⟩ := addV_in (e := 0) (e' := 0) h rfl ia fA ib fB
    exact ⟨g.z.fit.e, g, f, .refl z, z⟩
  · rw [mE1] at h
    rw [mE1, mV1, mV1, mR1, mR1]
    obtain ⟨f, g⟩ := subV_in (e := 0) (e' := 0) h rfl ia fA ib fB
    exact ⟨g.z.fit.e, g, f, .refl z, z⟩
  · rw [mE2] at h
    rw [mE2, mV2, mV2, mR2, mR2]
    obtain ⟨f, g⟩ := negV_in (e := 0) (e' := 0) h rfl ia fA
    exact ⟨g.z.fit.e, g, f, .refl z, z⟩
  · rw [mE3] at h
    rw [mE3, mV3, mV3, mR3, mR3]
    obtain ⟨f, g⟩ := scaleV_in (e := 0) (e' := 0) h rfl (.refl fk) fk ia fA
    exact ⟨g.z.fit.e, g, f, .refl z, z⟩
  · rw [mE4] at h
    rw [mE4, mV4, mV4, mR4, mR4]
    obtain ⟨f, g⟩ := crossV_in (e := 0) (e' := 0) h rfl ia fA ib fB
    exact ⟨g.z.fit.e, g, f, .refl z, z⟩
  · rw [mE5] at h
    rw [mE5, mV5, mV5, mR5, mR5]
    obtain ⟨f, g⟩ := dotV_in (e := 0) (e' := 0) h rfl ia fA ib fB
    exact ⟨g.fit.e, .refl zv, zv, g, f⟩
  · rw [mE6] at h
    rw [mE6, mV6, mV6, mR6, mR6]
    obtain ⟨f, g⟩ := normV_in (e := 0) (e' := 0) h rfl ia fA
    exact ⟨g.fit.e, .refl zv, zv, g, f⟩

set_option maxRecDepth 100000 in
set_option maxHeartbeats 1000000 in
/-- One interval has another one. -/
theorem within_walk (al ah bl bh : Nat) (w : World)
    (o1 : ((FloatKind.f64.format.order al bl == some Ordering.lt) || (FloatKind.f64.format.order al bl == some Ordering.eq)) = true) (o2 : ((FloatKind.f64.format.order bh ah == some Ordering.lt) || (FloatKind.f64.format.order bh ah == some Ordering.eq)) = true) :
    Calls Try.prog 70 #[.agg #[.float .f64 al, .float .f64 ah], .agg #[.float .f64 bl, .float .f64 bh]] w fun r w' => r = .returned (.bool true) ∧ Below w.heap.size w w' := by
  have M := Lib.hid (((Own.nil w).made #[.float .f64 al, .float .f64 ah] 39).made #[.float .f64 bl, .float .f64 bh] 39)
  simp only [World.size_alloc] at M
  obtain ⟨k1, k2⟩ := (M.out.nth 1 rfl).two
  obtain ⟨k3, k4⟩ := (M.out.nth 0 rfl).two
  go_enter Try.func70, Try.ntmps70
  go_wp2
  go_ret
  exact ⟨by rw [← o2]; rfl, M.out.base⟩
theorem within_any {a b : Res} (fa : Fit a) (fb : Fit b) (h1 : val a.lo ≤ val b.lo) (h2 : val b.hi ≤ val a.hi) (w : World) :
    Calls Try.prog 70 #[.agg #[.float .f64 a.lo, .float .f64 a.hi], .agg #[.float .f64 b.lo, .float .f64 b.hi]] w fun r w' => r = .returned (.bool true) ∧ Below w.heap.size w w' := by
  have o1 := order_le a.lo b.lo fa.lo fb.lo fa.rlo fb.rlo
  have o2 := order_le b.hi a.hi fb.hi fa.hi fb.rhi fa.rhi
  unfold leB at o1 o2
  rw [decide_eq_true h1] at o1
  rw [decide_eq_true h2] at o2
  exact within_walk _ _ _ _ w o1 o2

end Go.Proofs.Ytmcecchcbfhfcaa

namespace Go.Proofs.Ytmcecchcbfhfcaa
open Go.RowKit
attribute [local go_sem] run_store_float

/-- The numbers that are chosen, as far as k. -/
def XA (T : Nat → Nat) (k : Nat) : Array Value := #[.float .f64 (if 0 < k then T 0 else 0), .float .f64 (if 1 < k then T 1 else 0), .float .f64 (if 2 < k then T 2 else 0), .float .f64 (if 3 < k then T 3 else 0), .float .f64 (if 4 < k then T 4 else 0), .float .f64 (if 5 < k then T 5 else 0)]
theorem XA_set (T : Nat → Nat) (k : Nat) (hk : k < 6) : (XA T k).setIfInBounds k (.float .f64 (T k)) = XA T (k + 1) := by
  rcases (show k = 0 ∨ k = 1 ∨ k = 2 ∨ k = 3 ∨ k = 4 ∨ k = 5 by omega) with rfl | rfl | rfl | rfl | rfl | rfl <;> rfl
theorem Own.setX {w v : World} {l : List (Nat × Array Value)} (h : Own w l v) (i : Nat) {xb k : Nat} {T : Nat → Nat} (hk : k < 6) (hi : l[i]? = some (xb, XA T k)) : Own w (l.set i (xb, XA T (k + 1))) (v.setCell ⟨xb, k, none⟩ (.float .f64 (T k))) :=
  h.at i hi (h.base.setCell (h.lowest i hi) _) (by have := (h.nth i hi).setIn k (.float .f64 (T k)); rw [XA_set T k hk] at this; exact this) (fun _ hx hne => hx.set hne)
theorem own_re {w v : World} {q : Nat} {l : List (Nat × Array Value)} {e : Int} (h : e = 0) (M : Own w ((q, #[.int .i64 0]) :: l) v) : Own w ((q, #[.int .i64 e]) :: l) v := by rw [h]; exact M
theorem Has1.atc {v : World} {b : Nat} {c : Array Value} {x : Value} (h : Has1 v (b, c)) (i : Nat) (hx : c[i]? = some x) : v.cell? ⟨b, i, none⟩ = some x := (h.2.1 i).trans hx
theorem Own.drop {w v : World} {l : List (Nat × Array Value)} (h : Own w l v) (n : Nat) : Own w (l.drop n) v := ⟨h.base, fun x hx => h.blocks x (List.mem_of_mem_drop hx), h.apart.sublist (List.drop_sublist n l)⟩

/-- The first loop. -/
def HvRel (w : World) (T : Nat → Nat) (r : Nat → Bool) (xb : Nat) (row : List (Nat × Array Value)) (i : Value) (wr : World) : Prop := ∃ k : Nat, k ≤ 7 ∧ i = .int .i64 k ∧ (∀ j, j < k → r j = true) ∧ Own w ((xb, XA T k) :: row) wr
/-- The second loop. -/
def HvRel2 (w : World) (row : List (Nat × Array Value)) (i : Value) (wr : World) : Prop := ∃ k : Nat, k ≤ 7 ∧ i = .int .i64 k ∧ Own w row wr

/-- The two vectors of numbers. -/
def HvJa (w : World) (L H T : Nat → Nat) (pn : Nat → Int) (hx h14 hp hkk hb ha : Nat) (a0 : Act) (k : Nat) (p : List (Option Nat)) (a : Act) (v : World) : Prop :=
  ∃ y1 y2 z1 z2 : Value, a = ((((a0.put (some 63) y1).put (some 70) y2).put (some 13) z1).put (some 14) z2) ∧
    (0 < k → y1 = .agg #[.float .f64 (T 0), .float .f64 (T 0), .float .f64 (T 1), .float .f64 (T 1), .float .f64 (T 2), .float .f64 (T 2)]) ∧
    (1 < k → y2 = .agg #[.float .f64 (T 3), .float .f64 (T 3), .float .f64 (T 4), .float .f64 (T 4), .float .f64 (T 5), .float .f64 (T 5)]) ∧
    (∀ q, p[0]? = some (some q) → z1 = .pointer (some ⟨q, 0, none⟩)) ∧
    (∀ q, p[1]? = some (some q) → z2 = .pointer (some ⟨q, 0, none⟩)) ∧
    OwnF w [(hx, #[.float .f64 (T 0), .float .f64 (T 1), .float .f64 (T 2), .float .f64 (T 3), .float .f64 (T 4), .float .f64 (T 5)]), (h14, #[.float .f64 (L 0), .float .f64 (H 0), .float .f64 (L 1), .float .f64 (H 1), .float .f64 (L 2), .float .f64 (H 2), .float .f64 (L 3), .float .f64 (H 3), .float .f64 (L 4), .float .f64 (H 4), .float .f64 (L 5), .float .f64 (H 5), .float .f64 (L 6), .float .f64 (H 6)]), (hp, #[.int .u16 (pn 0), .int .u16 (pn 1), .int .u16 (pn 2), .int .u16 (pn 3), .int .u16 (pn 4), .int .u16 (pn 5)]), (hkk, #[.float .f64 (L 6), .float .f64 (H 6)]), (hb, #[.float .f64 (L 3), .float .f64 (H 3), .float .f64 (L 4), .float .f64 (H 4), .float .f64 (L 5), .float .f64 (H 5)]), (ha, #[.float .f64 (L 0), .float .f64 (H 0), .float .f64 (L 1), .float .f64 (H 1), .float .f64 (L 2), .float .f64 (H 2)])] [#[.float .f64 0, .float .f64 0, .float .f64 0, .float .f64 0, .float .f64 0, .float .f64 0], #[.float .f64 0, .float .f64 0, .float .f64 0, .float .f64 0, .float .f64 0, .float .f64 0]] p v

theorem HvJa_0 {w : World} {L H T : Nat → Nat} {pn : Nat → Int} {hx h14 hp hkk hb ha : Nat} {a0 a : Act} {p : List (Option Nat)} {v : World} (h : HvJa w L H T pn hx h14 hp hkk hb ha a0 0 p a v) :
    ∃ y1 y2 z1 z2 : Value, a = ((((a0.put (some 63) y1).put (some 70) y2).put (some 13) z1).put (some 14) z2) ∧ (∀ q, p[0]? = some (some q) → z1 = .pointer (some ⟨q, 0, none⟩)) ∧ (∀ q, p[1]? = some (some q) → z2 = .pointer (some ⟨q, 0, none⟩)) ∧ OwnF w [(hx, #[.float .f64 (T 0), .float .f64 (T 1), .float .f64 (T 2), .float .f64 (T 3), .float .f64 (T 4), .float .f64 (T 5)]), (h14, #[.float .f64 (L 0), .float .f64 (H 0), .float .f64 (L 1), .float .f64 (H 1), .float .f64 (L 2), .float .f64 (H 2), .float .f64 (L 3), .float .f64 (H 3), .float .f64 (L 4), .float .f64 (H 4), .float .f64 (L 5), .float .f64 (H 5), .float .f64 (L 6), .float .f64 (H 6)]), (hp, #[.int .u16 (pn 0), .int .u16 (pn 1), .int .u16 (pn 2), .int .u16 (pn 3), .int .u16 (pn 4), .int .u16 (pn 5)]), (hkk, #[.float .f64 (L 6), .float .f64 (H 6)]), (hb, #[.float .f64 (L 3), .float .f64 (H 3), .float .f64 (L 4), .float .f64 (H 4), .float .f64 (L 5), .float .f64 (H 5)]), (ha, #[.float .f64 (L 0), .float .f64 (H 0), .float .f64 (L 1), .float .f64 (H 1), .float .f64 (L 2), .float .f64 (H 2)])] [#[.float .f64 0, .float .f64 0, .float .f64 0, .float .f64 0, .float .f64 0, .float .f64 0], #[.float .f64 0, .float .f64 0, .float .f64 0, .float .f64 0, .float .f64 0, .float .f64 0]] p v := by
  obtain ⟨y1, y2, z1, z2, ha, hhe1, hhe2, hhg1, hhg2, h⟩ := h
  exact ⟨y1, y2, z1, z2, ha, hhg1, hhg2, h⟩
theorem HvJa_1 {w : World} {L H T : Nat → Nat} {pn : Nat → Int} {hx h14 hp hkk hb ha : Nat} {a0 a : Act} {p : List (Option Nat)} {v : World} (h : HvJa w L H T pn hx h14 hp hkk hb ha a0 1 p a v) :
    ∃ y2 z1 z2 : Value, a = ((((a0.put (some 63) (.agg #[.float .f64 (T 0), .float .f64 (T 0), .float .f64 (T 1), .float .f64 (T 1), .float .f64 (T 2), .float .f64 (T 2)])).put (some 70) y2).put (some 13) z1).put (some 14) z2) ∧ (∀ q, p[0]? = some (some q) → z1 = .pointer (some ⟨q, 0, none⟩)) ∧ (∀ q, p[1]? = some (some q) → z2 = .pointer (some ⟨q, 0, none⟩)) ∧ OwnF w [(hx, #[.float .f64 (T 0), .float .f64 (T 1), .float .f64 (T 2), .float .f64 (T 3), .float .f64 (T 4), .float .f64 (T 5)]), (h14, #[.float .f64 (L 0), .float .f64 (H 0), .float .f64 (L 1), .float .f64 (H 1), .float .f64 (L 2), .float .f64 (H 2), .float .f64 (L 3), .float .f64 (H 3), .float .f64 (L 4), .float .f64 (H 4), .float .f64 (L 5), .float .f64 (H 5), .float .f64 (L 6), .float .f64 (H 6)]), (hp, #[.int .u16 (pn 0), .int .u16 (pn 1), .int .u16 (pn 2), .int .u16 (pn 3), .int .u16 (pn 4), .int .u16 (pn 5)]), (hkk, #[.float .f64 (L 6), .float .f64 (H 6)]), (hb, #[.float .f64 (L 3), .float .f64 (H 3), .float .f64 (L 4), .float .f64 (H 4), .float .f64 (L 5), .float .f64 (H 5)]), (ha, #[.float .f64 (L 0), .float .f64 (H 0), .float .f64 (L 1), .float .f64 (H 1), .float .f64 (L 2), .float .f64 (H 2)])] [#[.float .f64 0, .float .f64 0, .float .f64 0, .float .f64 0, .float .f64 0, .float .f64 0], #[.float .f64 0, .float .f64 0, .float .f64 0, .float .f64 0, .float .f64 0, .float .f64 0]] p v := by
  obtain ⟨y1, y2, z1, z2, ha, hhe1, hhe2, hhg1, hhg2, h⟩ := h
  obtain rfl := hhe1 (by decide)
  exact ⟨y2, z1, z2, ha, hhg1, hhg2, h⟩
theorem HvJa_fin {w : World} {L H T : Nat → Nat} {pn : Nat → Int} {hx h14 hp hkk hb ha : Nat} {qq1 qq2 : Nat} {a0 a : Act} {v : World} (h : HvJa w L H T pn hx h14 hp hkk hb ha a0 2 [some qq1, some qq2] a v) :
    a = ((((a0.put (some 63) (.agg #[.float .f64 (T 0), .float .f64 (T 0), .float .f64 (T 1), .float .f64 (T 1), .float .f64 (T 2), .float .f64 (T 2)])).put (some 70) (.agg #[.float .f64 (T 3), .float .f64 (T 3), .float .f64 (T 4), .float .f64 (T 4), .float .f64 (T 5), .float .f64 (T 5)])).put (some 13) (.pointer (some ⟨qq1, 0, none⟩))).put (some 14) (.pointer (some ⟨qq2, 0, none⟩))) ∧ OwnF w [(hx, #[.float .f64 (T 0), .float .f64 (T 1), .float .f64 (T 2), .float .f64 (T 3), .float .f64 (T 4), .float .f64 (T 5)]), (h14, #[.float .f64 (L 0), .float .f64 (H 0), .float .f64 (L 1), .float .f64 (H 1), .float .f64 (L 2), .float .f64 (H 2), .float .f64 (L 3), .float .f64 (H 3), .float .f64 (L 4), .float .f64 (H 4), .float .f64 (L 5), .float .f64 (H 5), .float .f64 (L 6), .float .f64 (H 6)]), (hp, #[.int .u16 (pn 0), .int .u16 (pn 1), .int .u16 (pn 2), .int .u16 (pn 3), .int .u16 (pn 4), .int .u16 (pn 5)]), (hkk, #[.float .f64 (L 6), .float .f64 (H 6)]), (hb, #[.float .f64 (L 3), .float .f64 (H 3), .float .f64 (L 4), .float .f64 (H 4), .float .f64 (L 5), .float .f64 (H 5)]), (ha, #[.float .f64 (L 0), .float .f64 (H 0), .float .f64 (L 1), .float .f64 (H 1), .float .f64 (L 2), .float .f64 (H 2)])] [#[.float .f64 0, .float .f64 0, .float .f64 0, .float .f64 0, .float .f64 0, .float .f64 0], #[.float .f64 0, .float .f64 0, .float .f64 0, .float .f64 0, .float .f64 0, .float .f64 0]] [some qq1, some qq2] v := by
  obtain ⟨y1, y2, z1, z2, ha, hhe1, hhe2, hhg1, hhg2, h⟩ := h
  obtain rfl := hhe1 (by decide)
  obtain rfl := hhe2 (by decide)
  obtain rfl := hhg1 _ rfl
  obtain rfl := hhg2 _ rfl
  exact ⟨ha, h⟩

/-- The sum, and what it is less the second one. -/
def HvJb (w : World) (L H T : Nat → Nat) (pn : Nat → Int) (S G : V3) (ek : Nat → Int) (hs hu hv hx h14 hp hkk hb ha : Nat) (a0 : Act) (k : Nat) (p : List (Option Nat)) (a : Act) (v : World) : Prop :=
  ∃ y1 y2 z1 : Value, a = (((a0.put (some 127) y1).put (some 129) y2).put (some 23) z1) ∧
    (0 < k → y1 = .agg #[.float .f64 (S).x.lo, .float .f64 (S).x.hi, .float .f64 (S).y.lo, .float .f64 (S).y.hi, .float .f64 (S).z.lo, .float .f64 (S).z.hi]) ∧
    (1 < k → y2 = .agg #[.float .f64 (G).x.lo, .float .f64 (G).x.hi, .float .f64 (G).y.lo, .float .f64 (G).y.hi, .float .f64 (G).z.lo, .float .f64 (G).z.hi]) ∧
    (∀ q, p[0]? = some (some q) → z1 = .pointer (some ⟨q, 0, none⟩)) ∧
    OwnF w [(hs, #[.int .i64 (ek k)]), (hu, #[.float .f64 (T 0), .float .f64 (T 0), .float .f64 (T 1), .float .f64 (T 1), .float .f64 (T 2), .float .f64 (T 2)]), (hv, #[.float .f64 (T 3), .float .f64 (T 3), .float .f64 (T 4), .float .f64 (T 4), .float .f64 (T 5), .float .f64 (T 5)]), (hx, #[.float .f64 (T 0), .float .f64 (T 1), .float .f64 (T 2), .float .f64 (T 3), .float .f64 (T 4), .float .f64 (T 5)]), (h14, #[.float .f64 (L 0), .float .f64 (H 0), .float .f64 (L 1), .float .f64 (H 1), .float .f64 (L 2), .float .f64 (H 2), .float .f64 (L 3), .float .f64 (H 3), .float .f64 (L 4), .float .f64 (H 4), .float .f64 (L 5), .float .f64 (H 5), .float .f64 (L 6), .float .f64 (H 6)]), (hp, #[.int .u16 (pn 0), .int .u16 (pn 1), .int .u16 (pn 2), .int .u16 (pn 3), .int .u16 (pn 4), .int .u16 (pn 5)]), (hkk, #[.float .f64 (L 6), .float .f64 (H 6)]), (hb, #[.float .f64 (L 3), .float .f64 (H 3), .float .f64 (L 4), .float .f64 (H 4), .float .f64 (L 5), .float .f64 (H 5)]), (ha, #[.float .f64 (L 0), .float .f64 (H 0), .float .f64 (L 1), .float .f64 (H 1), .float .f64 (L 2), .float .f64 (H 2)])] [#[.float .f64 0, .float .f64 0, .float .f64 0, .float .f64 0, .float .f64 0, .float .f64 0]] p v

theorem HvJb_0 {w : World} {L H T : Nat → Nat} {pn : Nat → Int} {S G : V3} {ek : Nat → Int} {hs hu hv hx h14 hp hkk hb ha : Nat} {a0 a : Act} {p : List (Option Nat)} {v : World} (h : HvJb w L H T pn S G ek hs hu hv hx h14 hp hkk hb ha a0 0 p a v) :
    ∃ y1 y2 z1 : Value, a = (((a0.put (some 127) y1).put (some 129) y2).put (some 23) z1) ∧ (∀ q, p[0]? = some (some q) → z1 = .pointer (some ⟨q, 0, none⟩)) ∧ OwnF w [(hs, #[.int .i64 (ek 0)]), (hu, #[.float .f64 (T 0), .float .f64 (T 0), .float .f64 (T 1), .float .f64 (T 1), .float .f64 (T 2), .float .f64 (T 2)]), (hv, #[.float .f64 (T 3), .float .f64 (T 3), .float .f64 (T 4), .float .f64 (T 4), .float .f64 (T 5), .float .f64 (T 5)]), (hx, #[.float .f64 (T 0), .float .f64 (T 1), .float .f64 (T 2), .float .f64 (T 3), .float .f64 (T 4), .float .f64 (T 5)]), (h14, #[.float .f64 (L 0), .float .f64 (H 0), .float .f64 (L 1), .float .f64 (H 1), .float .f64 (L 2), .float .f64 (H 2), .float .f64 (L 3), .float .f64 (H 3), .float .f64 (L 4), .float .f64 (H 4), .float .f64 (L 5), .float .f64 (H 5), .float .f64 (L 6), .float .f64 (H 6)]), (hp, #[.int .u16 (pn 0), .int .u16 (pn 1), .int .u16 (pn 2), .int .u16 (pn 3), .int .u16 (pn 4), .int .u16 (pn 5)]), (hkk, #[.float .f64 (L 6), .float .f64 (H 6)]), (hb, #[.float .f64 (L 3), .float .f64 (H 3), .float .f64 (L 4), .float .f64 (H 4), .float .f64 (L 5), .float .f64 (H 5)]), (ha, #[.float .f64 (L 0), .float .f64 (H 0), .float .f64 (L 1), .float .f64 (H 1), .float .f64 (L 2), .float .f64 (H 2)])] [#[.float .f64 0, .float .f64 0, .float .f64 0, .float .f64 0, .float .f64 0, .float .f64 0]] p v := by
  obtain ⟨y1, y2, z1, ha, hhe1, hhe2, hhg1, h⟩ := h
  exact ⟨y1, y2, z1, ha, hhg1, h⟩
theorem HvJb_1 {w : World} {L H T : Nat → Nat} {pn : Nat → Int} {S G : V3} {ek : Nat → Int} {hs hu hv hx h14 hp hkk hb ha : Nat} {a0 a : Act} {p : List (Option Nat)} {v : World} (h : HvJb w L H T pn S G ek hs hu hv hx h14 hp hkk hb ha a0 1 p a v) :
    ∃ y2 z1 : Value, a = (((a0.put (some 127) (.agg #[.float .f64 (S).x.lo, .float .f64 (S).x.hi, .float .f64 (S).y.lo, .float .f64 (S).y.hi, .float .f64 (S).z.lo, .float .f64 (S).z.hi])).put (some 129) y2).put (some 23) z1) ∧ (∀ q, p[0]? = some (some q) → z1 = .pointer (some ⟨q, 0, none⟩)) ∧ OwnF w [(hs, #[.int .i64 (ek 1)]), (hu, #[.float .f64 (T 0), .float .f64 (T 0), .float .f64 (T 1), .float .f64 (T 1), .float .f64 (T 2), .float .f64 (T 2)]), (hv, #[.float .f64 (T 3), .float .f64 (T 3), .float .f64 (T 4), .float .f64 (T 4), .float .f64 (T 5), .float .f64 (T 5)]), (hx, #[.float .f64 (T 0), .float .f64 (T 1), .float .f64 (T 2), .float .f64 (T 3), .float .f64 (T 4), .float .f64 (T 5)]), (h14, #[.float .f64 (L 0), .float .f64 (H 0), .float .f64 (L 1), .float .f64 (H 1), .float .f64 (L 2), .float .f64 (H 2), .float .f64 (L 3), .float .f64 (H 3), .float .f64 (L 4), .float .f64 (H 4), .float .f64 (L 5), .float .f64 (H 5), .float .f64 (L 6), .float .f64 (H 6)]), (hp, #[.int .u16 (pn 0), .int .u16 (pn 1), .int .u16 (pn 2), .int .u16 (pn 3), .int .u16 (pn 4), .int .u16 (pn 5)]), (hkk, #[.float .f64 (L 6), .float .f64 (H 6)]), (hb, #[.float .f64 (L 3), .float .f64 (H 3), .float .f64 (L 4), .float .f64 (H 4), .float .f64 (L 5), .float .f64 (H 5)]), (ha, #[.float .f64 (L 0), .float .f64 (H 0), .float .f64 (L 1), .float .f64 (H 1), .float .f64 (L 2), .float .f64 (H 2)])] [#[.float .f64 0, .float .f64 0, .float .f64 0, .float .f64 0, .float .f64 0, .float .f64 0]] p v := by
  obtain ⟨y1, y2, z1, ha, hhe1, hhe2, hhg1, h⟩ := h
  obtain rfl := hhe1 (by decide)
  exact ⟨y2, z1, ha, hhg1, h⟩
theorem HvJb_fin {w : World} {L H T : Nat → Nat} {pn : Nat → Int} {S G : V3} {ek : Nat → Int} {hs hu hv hx h14 hp hkk hb ha : Nat} {qq1 : Nat} {a0 a : Act} {v : World} (h : HvJb w L H T pn S G ek hs hu hv hx h14 hp hkk hb ha a0 2 [some qq1] a v) :
    a = (((a0.put (some 127) (.agg #[.float .f64 (S).x.lo, .float .f64 (S).x.hi, .float .f64 (S).y.lo, .float .f64 (S).y.hi, .float .f64 (S).z.lo, .float .f64 (S).z.hi])).put (some 129) (.agg #[.float .f64 (G).x.lo, .float .f64 (G).x.hi, .float .f64 (G).y.lo, .float .f64 (G).y.hi, .float .f64 (G).z.lo, .float .f64 (G).z.hi])).put (some 23) (.pointer (some ⟨qq1, 0, none⟩))) ∧ OwnF w [(hs, #[.int .i64 (ek 2)]), (hu, #[.float .f64 (T 0), .float .f64 (T 0), .float .f64 (T 1), .float .f64 (T 1), .float .f64 (T 2), .float .f64 (T 2)]), (hv, #[.float .f64 (T 3), .float .f64 (T 3), .float .f64 (T 4), .float .f64 (T 4), .float .f64 (T 5), .float .f64 (T 5)]), (hx, #[.float .f64 (T 0), .float .f64 (T 1), .float .f64 (T 2), .float .f64 (T 3), .float .f64 (T 4), .float .f64 (T 5)]), (h14, #[.float .f64 (L 0), .float .f64 (H 0), .float .f64 (L 1), .float .f64 (H 1), .float .f64 (L 2), .float .f64 (H 2), .float .f64 (L 3), .float .f64 (H 3), .float .f64 (L 4), .float .f64 (H 4), .float .f64 (L 5), .float .f64 (H 5), .float .f64 (L 6), .float .f64 (H 6)]), (hp, #[.int .u16 (pn 0), .int .u16 (pn 1), .int .u16 (pn 2), .int .u16 (pn 3), .int .u16 (pn 4), .int .u16 (pn 5)]), (hkk, #[.float .f64 (L 6), .float .f64 (H 6)]), (hb, #[.float .f64 (L 3), .float .f64 (H 3), .float .f64 (L 4), .float .f64 (H 4), .float .f64 (L 5), .float .f64 (H 5)]), (ha, #[.float .f64 (L 0), .float .f64 (H 0), .float .f64 (L 1), .float .f64 (H 1), .float .f64 (L 2), .float .f64 (H 2)])] [#[.float .f64 0, .float .f64 0, .float .f64 0, .float .f64 0, .float .f64 0, .float .f64 0]] [some qq1] v := by
  obtain ⟨y1, y2, z1, ha, hhe1, hhe2, hhg1, h⟩ := h
  obtain rfl := hhe1 (by decide)
  obtain rfl := hhe2 (by decide)
  obtain rfl := hhg1 _ rfl
  exact ⟨ha, h⟩

set_option maxRecDepth 100000 in
set_option maxHeartbeats 8000000 in
theorem vecHolds_walk (L H T : Nat → Nat) (pn : Nat → Int) (okk : Nat → Bool) (V vs : Nat → V3) (R rr : Nat → Res) (E e : Nat → Int) (S G : V3) (ek : Nat → Int) (w : World)
    (cR : Hid (∀ k : Nat, k < 7 → ∀ w : World, Calls Try.prog 43 #[.agg #[.float .f64 (L k), .float .f64 (H k)]] w fun r w' => r = .returned (.bool (okk k)) ∧ Below w.heap.size w w'))
    (cB : Hid ((∀ j : Nat, j < 7 → okk j = true) ∨ True → ∀ k : Nat, k < 6 → okk k = true → ∀ w : World, Calls Try.prog 48 #[.agg #[.float .f64 (L k), .float .f64 (H k)], .int .u16 (pn k)] w fun r w' => r = .returned (.float .f64 (T k)) ∧ Below w.heap.size w w'))
    (cA : Hid (∀ k : Nat, k < 7 → ∀ (pb : Nat) (v : World), Has1 v (pb, #[.int .i64 0]) → Calls Try.prog 69 #[.int .i64 k, .pointer (some ⟨pb, 0, none⟩), .agg #[.float .f64 (L 0), .float .f64 (H 0), .float .f64 (L 1), .float .f64 (H 1), .float .f64 (L 2), .float .f64 (H 2)], .agg #[.float .f64 (L 3), .float .f64 (H 3), .float .f64 (L 4), .float .f64 (H 4), .float .f64 (L 5), .float .f64 (H 5)], .agg #[.float .f64 (L 6), .float .f64 (H 6)]] v fun r w' => r = .returned (.tuple #[.agg #[.float .f64 (V k).x.lo, .float .f64 (V k).x.hi, .float .f64 (V k).y.lo, .float .f64 (V k).y.hi, .float .f64 (V k).z.lo, .float .f64 (V k).z.hi], .agg #[.float .f64 (R k).lo, .float .f64 (R k).hi]]) ∧ Put ⟨pb, 0, none⟩ (.int .i64 (E k)) v w'))
    (cD : Hid ((∀ j : Nat, j < 7 → okk j = true) → ∀ k : Nat, k < 7 → ∀ (pb : Nat) (v : World), Has1 v (pb, #[.int .i64 0]) → Calls Try.prog 69 #[.int .i64 k, .pointer (some ⟨pb, 0, none⟩), .agg #[.float .f64 (T 0), .float .f64 (T 0), .float .f64 (T 1), .float .f64 (T 1), .float .f64 (T 2), .float .f64 (T 2)], .agg #[.float .f64 (T 3), .float .f64 (T 3), .float .f64 (T 4), .float .f64 (T 4), .float .f64 (T 5), .float .f64 (T 5)], .agg #[.float .f64 (L 6), .float .f64 (H 6)]] v fun r w' => r = .returned (.tuple #[.agg #[.float .f64 (vs k).x.lo, .float .f64 (vs k).x.hi, .float .f64 (vs k).y.lo, .float .f64 (vs k).y.hi, .float .f64 (vs k).z.lo, .float .f64 (vs k).z.hi], .agg #[.float .f64 (rr k).lo, .float .f64 (rr k).hi]]) ∧ Put ⟨pb, 0, none⟩ (.int .i64 (e k)) v w'))
    (cZ : Hid ((∀ j : Nat, j < 7 → okk j = true) → ∀ k : Nat, k < 7 → E k = 0 → e k = 0))
    (cW1 : Hid ((∀ j : Nat, j < 7 → okk j = true) → ∀ k : Nat, k < 7 → E k = 0 → ∀ w : World, Calls Try.prog 70 #[.agg #[.float .f64 (V k).x.lo, .float .f64 (V k).x.hi], .agg #[.float .f64 (vs k).x.lo, .float .f64 (vs k).x.hi]] w fun r w' => r = .returned (.bool true) ∧ Below w.heap.size w w'))
    (cW2 : Hid ((∀ j : Nat, j < 7 → okk j = true) → ∀ k : Nat, k < 7 → E k = 0 → ∀ w : World, Calls Try.prog 70 #[.agg #[.float .f64 (V k).y.lo, .float .f64 (V k).y.hi], .agg #[.float .f64 (vs k).y.lo, .float .f64 (vs k).y.hi]] w fun r w' => r = .returned (.bool true) ∧ Below w.heap.size w w'))
    (cW3 : Hid ((∀ j : Nat, j < 7 → okk j = true) → ∀ k : Nat, k < 7 → E k = 0 → ∀ w : World, Calls Try.prog 70 #[.agg #[.float .f64 (V k).z.lo, .float .f64 (V k).z.hi], .agg #[.float .f64 (vs k).z.lo, .float .f64 (vs k).z.hi]] w fun r w' => r = .returned (.bool true) ∧ Below w.heap.size w w'))
    (cW4 : Hid ((∀ j : Nat, j < 7 → okk j = true) → ∀ k : Nat, k < 7 → E k = 0 → ∀ w : World, Calls Try.prog 70 #[.agg #[.float .f64 (R k).lo, .float .f64 (R k).hi], .agg #[.float .f64 (rr k).lo, .float .f64 (rr k).hi]] w fun r w' => r = .returned (.bool true) ∧ Below w.heap.size w w'))
    (hz : Hid (ek 0 = 0))
    (cAdd : Hid (∀ (pb : Nat) (v : World), Has1 v (pb, #[.int .i64 (ek 0)]) → Calls Try.prog 72 #[.pointer (some ⟨pb, 0, none⟩), .agg #[.float .f64 (L 0), .float .f64 (H 0), .float .f64 (L 1), .float .f64 (H 1), .float .f64 (L 2), .float .f64 (H 2)], .agg #[.float .f64 (L 3), .float .f64 (H 3), .float .f64 (L 4), .float .f64 (H 4), .float .f64 (L 5), .float .f64 (H 5)]] v fun r w' => r = .returned (.agg #[.float .f64 (S).x.lo, .float .f64 (S).x.hi, .float .f64 (S).y.lo, .float .f64 (S).y.hi, .float .f64 (S).z.lo, .float .f64 (S).z.hi]) ∧ Put ⟨pb, 0, none⟩ (.int .i64 (ek 1)) v w'))
    (cSub : Hid (∀ (pb : Nat) (v : World), Has1 v (pb, #[.int .i64 (ek 1)]) → Calls Try.prog 71 #[.pointer (some ⟨pb, 0, none⟩), .agg #[.float .f64 (S).x.lo, .float .f64 (S).x.hi, .float .f64 (S).y.lo, .float .f64 (S).y.hi, .float .f64 (S).z.lo, .float .f64 (S).z.hi], .agg #[.float .f64 (L 3), .float .f64 (H 3), .float .f64 (L 4), .float .f64 (H 4), .float .f64 (L 5), .float .f64 (H 5)]] v fun r w' => r = .returned (.agg #[.float .f64 (G).x.lo, .float .f64 (G).x.hi, .float .f64 (G).y.lo, .float .f64 (G).y.hi, .float .f64 (G).z.lo, .float .f64 (G).z.hi]) ∧ Put ⟨pb, 0, none⟩ (.int .i64 (ek 2)) v w'))
    (cG1 : Hid ((∀ j : Nat, j < 7 → okk j = true) → ek 2 = 0 → ∀ w : World, Calls Try.prog 70 #[.agg #[.float .f64 (G).x.lo, .float .f64 (G).x.hi], .agg #[.float .f64 (L 0), .float .f64 (H 0)]] w fun r w' => r = .returned (.bool true) ∧ Below w.heap.size w w'))
    (cG2 : Hid ((∀ j : Nat, j < 7 → okk j = true) → ek 2 = 0 → ∀ w : World, Calls Try.prog 70 #[.agg #[.float .f64 (G).y.lo, .float .f64 (G).y.hi], .agg #[.float .f64 (L 1), .float .f64 (H 1)]] w fun r w' => r = .returned (.bool true) ∧ Below w.heap.size w w'))
    (cG3 : Hid ((∀ j : Nat, j < 7 → okk j = true) → ek 2 = 0 → ∀ w : World, Calls Try.prog 70 #[.agg #[.float .f64 (G).z.lo, .float .f64 (G).z.hi], .agg #[.float .f64 (L 2), .float .f64 (H 2)]] w fun r w' => r = .returned (.bool true) ∧ Below w.heap.size w w')) :
    Calls Try.prog 11 #[.agg #[.float .f64 (L 0), .float .f64 (H 0), .float .f64 (L 1), .float .f64 (H 1), .float .f64 (L 2), .float .f64 (H 2)], .agg #[.float .f64 (L 3), .float .f64 (H 3), .float .f64 (L 4), .float .f64 (H 4), .float .f64 (L 5), .float .f64 (H 5)], .agg #[.float .f64 (L 6), .float .f64 (H 6)], .agg #[.int .u16 (pn 0), .int .u16 (pn 1), .int .u16 (pn 2), .int .u16 (pn 3), .int .u16 (pn 4), .int .u16 (pn 5)]] w fun r w' => r = .returned (.bool true) ∧ Below w.heap.size w w' := by
  have M0 := Lib.hid (((((Own.nil w).made #[.float .f64 (L 0), .float .f64 (H 0), .float .f64 (L 1), .float .f64 (H 1), .float .f64 (L 2), .float .f64 (H 2)] 60).made #[.float .f64 (L 3), .float .f64 (H 3), .float .f64 (L 4), .float .f64 (H 4), .float .f64 (L 5), .float .f64 (H 5)] 60).made #[.float .f64 (L 6), .float .f64 (H 6)] 39).made #[.int .u16 (pn 0), .int .u16 (pn 1), .int .u16 (pn 2), .int .u16 (pn 3), .int .u16 (pn 4), .int .u16 (pn 5)] 80)
  have M := Lib.hid ((M0.out.made #[.float .f64 (L 0), .float .f64 (H 0), .float .f64 (L 1), .float .f64 (H 1), .float .f64 (L 2), .float .f64 (H 2), .float .f64 (L 3), .float .f64 (H 3), .float .f64 (L 4), .float .f64 (H 4), .float .f64 (L 5), .float .f64 (H 5), .float .f64 (L 6), .float .f64 (H 6)] 81).made #[.float .f64 0, .float .f64 0, .float .f64 0, .float .f64 0, .float .f64 0, .float .f64 0] 82)
  simp only [World.size_alloc] at M0 M
  obtain ⟨k1, k2, k3, k4, k5, k6⟩ := (M0.out.nth 3 rfl).six
  obtain ⟨k7, k8, k9, k10, k11, k12⟩ := (M0.out.nth 2 rfl).six
  obtain ⟨k13, k14⟩ := (M0.out.nth 1 rfl).two
  have i0 := (M.out.nth 1 rfl).2.1 0
  have i1 := (M.out.nth 1 rfl).2.1 1
  have i2 := (M.out.nth 1 rfl).2.1 2
  have i3 := (M.out.nth 1 rfl).2.1 3
  have i4 := (M.out.nth 1 rfl).2.1 4
  have i5 := (M.out.nth 1 rfl).2.1 5
  have i6 := (M.out.nth 1 rfl).2.1 6
  have i7 := (M.out.nth 1 rfl).2.1 7
  have i8 := (M.out.nth 1 rfl).2.1 8
  have i9 := (M.out.nth 1 rfl).2.1 9
  have i10 := (M.out.nth 1 rfl).2.1 10
  have i11 := (M.out.nth 1 rfl).2.1 11
  have i12 := (M.out.nth 1 rfl).2.1 12
  have i13 := (M.out.nth 1 rfl).2.1 13
  have j0 : ∀ w, (Instr.index 81 (.agg #[.float .f64 (L 0), .float .f64 (H 0), .float .f64 (L 1), .float .f64 (H 1), .float .f64 (L 2), .float .f64 (H 2), .float .f64 (L 3), .float .f64 (H 3), .float .f64 (L 4), .float .f64 (H 4), .float .f64 (L 5), .float .f64 (H 5), .float .f64 (L 6), .float .f64 (H 6)]) (.int .i64 0)).run Try.prog w = .ok (.agg #[.float .f64 (L 0), .float .f64 (H 0)]) w := fun _ => by kernel_rfl
  have j1 : ∀ w, (Instr.index 81 (.agg #[.float .f64 (L 0), .float .f64 (H 0), .float .f64 (L 1), .float .f64 (H 1), .float .f64 (L 2), .float .f64 (H 2), .float .f64 (L 3), .float .f64 (H 3), .float .f64 (L 4), .float .f64 (H 4), .float .f64 (L 5), .float .f64 (H 5), .float .f64 (L 6), .float .f64 (H 6)]) (.int .i64 1)).run Try.prog w = .ok (.agg #[.float .f64 (L 1), .float .f64 (H 1)]) w := fun _ => by kernel_rfl
  have j2 : ∀ w, (Instr.index 81 (.agg #[.float .f64 (L 0), .float .f64 (H 0), .float .f64 (L 1), .float .f64 (H 1), .float .f64 (L 2), .float .f64 (H 2), .float .f64 (L 3), .float .f64 (H 3), .float .f64 (L 4), .float .f64 (H 4), .float .f64 (L 5), .float .f64 (H 5), .float .f64 (L 6), .float .f64 (H 6)]) (.int .i64 2)).run Try.prog w = .ok (.agg #[.float .f64 (L 2), .float .f64 (H 2)]) w := fun _ => by kernel_rfl
  have j3 : ∀ w, (Instr.index 81 (.agg #[.float .f64 (L 0), .float .f64 (H 0), .float .f64 (L 1), .float .f64 (H 1), .float .f64 (L 2), .float .f64 (H 2), .float .f64 (L 3), .float .f64 (H 3), .float .f64 (L 4), .float .f64 (H 4), .float .f64 (L 5), .float .f64 (H 5), .float .f64 (L 6), .float .f64 (H 6)]) (.int .i64 3)).run Try.prog w = .ok (.agg #[.float .f64 (L 3), .float .f64 (H 3)]) w := fun _ => by kernel_rfl
  have j4 : ∀ w, (Instr.index 81 (.agg #[.float .f64 (L 0), .float .f64 (H 0), .float .f64 (L 1), .float .f64 (H 1), .float .f64 (L 2), .float .f64 (H 2), .float .f64 (L 3), .float .f64 (H 3), .float .f64 (L 4), .float .f64 (H 4), .float .f64 (L 5), .float .f64 (H 5), .float .f64 (L 6), .float .f64 (H 6)]) (.int .i64 4)).run Try.prog w = .ok (.agg #[.float .f64 (L 4), .float .f64 (H 4)]) w := fun _ => by kernel_rfl
  have j5 : ∀ w, (Instr.index 81 (.agg #[.float .f64 (L 0), .float .f64 (H 0), .float .f64 (L 1), .float .f64 (H 1), .float .f64 (L 2), .float .f64 (H 2), .float .f64 (L 3), .float .f64 (H 3), .float .f64 (L 4), .float .f64 (H 4), .float .f64 (L 5), .float .f64 (H 5), .float .f64 (L 6), .float .f64 (H 6)]) (.int .i64 5)).run Try.prog w = .ok (.agg #[.float .f64 (L 5), .float .f64 (H 5)]) w := fun _ => by kernel_rfl
  have j6 : ∀ w, (Instr.index 81 (.agg #[.float .f64 (L 0), .float .f64 (H 0), .float .f64 (L 1), .float .f64 (H 1), .float .f64 (L 2), .float .f64 (H 2), .float .f64 (L 3), .float .f64 (H 3), .float .f64 (L 4), .float .f64 (H 4), .float .f64 (L 5), .float .f64 (H 5), .float .f64 (L 6), .float .f64 (H 6)]) (.int .i64 6)).run Try.prog w = .ok (.agg #[.float .f64 (L 6), .float .f64 (H 6)]) w := fun _ => by kernel_rfl
  go_enter Try.func11, Try.ntmps11
  go_wp2_with fail
  clear k1 k2 k3 k4 k5 k6 k7 k8 k9 k10 k11 k12 k13 k14 i0 i1 i2 i3 i4 i5 i6 i7 i8 i9 i10 i11 i12 i13 M0
  go_loopw [39] (HvRel w T okk (w.heap.size + 1 + 1 + 1 + 1 + 1) [(w.heap.size + 1 + 1 + 1 + 1, #[.float .f64 (L 0), .float .f64 (H 0), .float .f64 (L 1), .float .f64 (H 1), .float .f64 (L 2), .float .f64 (H 2), .float .f64 (L 3), .float .f64 (H 3), .float .f64 (L 4), .float .f64 (H 4), .float .f64 (L 5), .float .f64 (H 5), .float .f64 (L 6), .float .f64 (H 6)]), (w.heap.size + 1 + 1 + 1, #[.int .u16 (pn 0), .int .u16 (pn 1), .int .u16 (pn 2), .int .u16 (pn 3), .int .u16 (pn 4), .int .u16 (pn 5)]), (w.heap.size + 1 + 1, #[.float .f64 (L 6), .float .f64 (H 6)]), (w.heap.size + 1, #[.float .f64 (L 3), .float .f64 (H 3), .float .f64 (L 4), .float .f64 (H 4), .float .f64 (L 5), .float .f64 (H 5)]), (w.heap.size, #[.float .f64 (L 0), .float .f64 (H 0), .float .f64 (L 1), .float .f64 (H 1), .float .f64 (L 2), .float .f64 (H 2)])]) (fun i _ => 8 - (intOf i).toNat)
  case atStart => exact ⟨0, by omega, rfl, by omega, M.out⟩
  case round =>
    clear M
    obtain ⟨k, hk, rfl, hr, hM⟩ := hrel
    have M := Lib.hid hM
    have hr := Lib.hid hr
    clear hM
    rcases (show k = 0 ∨ k = 1 ∨ k = 2 ∨ k = 3 ∨ k = 4 ∨ k = 5 ∨ k = 6 ∨ k = 7 by omega) with rfl | rfl | rfl | rfl | rfl | rfl | rfl | rfl
    · clear hk j1 j2 j3 j4 j5 j6
      have zx : w.heap.size + 1 + 1 + 1 + 1 + 1 < wr.heap.size := M.out.size 0 rfl
      have M1 := Lib.hid (M.out.made #[.float .f64 (L 0), .float .f64 (H 0)] 39)
      clear M
      obtain ⟨k1, k2⟩ := (M1.out.nth 0 rfl).two
      go_wp2_with fail
      refine (cR.out 0 (by decide) _).mono ?_
      rintro rq w1 ⟨rfl, hb⟩
      have M := Lib.hid (M1.out.below hb)
      clear hb M1 k1 k2
      cases hrk : okk 0
      · go_wp2_with fail
        refine (awake5_any _).mono ?_
        rintro rq w2 ⟨rfl, hb⟩
        replace M := Lib.hid (M.out.below hb)
        go_wp2
        go_ret
        exact ⟨rfl, M.out.base⟩
      · go_upto_region 9 with fail
        replace M := Lib.hid M.out.drew
        obtain ⟨k1, k2⟩ := (M.out.nth 0 rfl).two
        have k3 := (M.out.nth 3 rfl).atc (x := .int .u16 (pn 0)) 0 rfl
        have kc := (M.out.nth 1 rfl).2.1
        have kf := (M.out.nth 1 rfl).2.2
        go_region_held3 (fun w' => w'.cell? ⟨wr.heap.size, 0, none⟩ = some (.float .f64 (L 0)) ∧ w'.cell? ⟨wr.heap.size, 1, none⟩ = some (.float .f64 (H 0)) ∧ w'.cell? ⟨w.heap.size + 1 + 1 + 1, 0, none⟩ = some (.int .u16 (pn 0))) (((try dsimp only); (repeat' apply And.intro); all_goals (repeat (first | (with_reducible assumption) | ((with_reducible refine keep_undrew ?_); (with_reducible assumption)) | (with_reducible refine keep_drew ?_) | (with_reducible refine keep_alloc _ ?_) | (with_reducible refine keep_set _ (by first | (with_reducible assumption) | omega) ?_)))))
          (first
          | (go_at_call 48; (with_reducible refine (cB.out (Or.inr trivial) 0 (by decide) hrk _).mono ?_); rintro rq w2 ⟨rfl, hb⟩; replace M := Lib.hid (M.out.below hb); clear hb k1 k2 k3 kc kf; obtain ⟨k1, k2⟩ := (M.out.nth 0 rfl).two; have k3 := (M.out.nth 3 rfl).atc (x := .int .u16 (pn 0)) 0 rfl; have kc := (M.out.nth 1 rfl).2.1; have kf := (M.out.nth 1 rfl).2.2))
        replace M := Lib.hid (M.out.setX 1 (k := 0) (by decide) rfl)
        go_wp2
        go_round
        case rel => exact ⟨1, by omega, rfl, fun j hj => by (rcases (show j < 0 ∨ j = 0 by omega) with g | g; exact hr.out j g; rw [g]; exact hrk), M.out.drop 1⟩
        case measure => decide
    · clear hk j0 j2 j3 j4 j5 j6
      have zx : w.heap.size + 1 + 1 + 1 + 1 + 1 < wr.heap.size := M.out.size 0 rfl
      have M1 := Lib.hid (M.out.made #[.float .f64 (L 1), .float .f64 (H 1)] 39)
      clear M
      obtain ⟨k1, k2⟩ := (M1.out.nth 0 rfl).two
      go_wp2_with fail
      refine (cR.out 1 (by decide) _).mono ?_
      rintro rq w1 ⟨rfl, hb⟩
      have M := Lib.hid (M1.out.below hb)
      clear hb M1 k1 k2
      cases hrk : okk 1
      · go_wp2_with fail
        refine (awake5_any _).mono ?_
        rintro rq w2 ⟨rfl, hb⟩
        replace M := Lib.hid (M.out.below hb)
        go_wp2
        go_ret
        exact ⟨rfl, M.out.base⟩
      · go_upto_region 9 with fail
        replace M := Lib.hid M.out.drew
        obtain ⟨k1, k2⟩ := (M.out.nth 0 rfl).two
        have k3 := (M.out.nth 3 rfl).atc (x := .int .u16 (pn 1)) 1 rfl
        have kc := (M.out.nth 1 rfl).2.1
        have kf := (M.out.nth 1 rfl).2.2
        go_region_held3 (fun w' => w'.cell? ⟨wr.heap.size, 0, none⟩ = some (.float .f64 (L 1)) ∧ w'.cell? ⟨wr.heap.size, 1, none⟩ = some (.float .f64 (H 1)) ∧ w'.cell? ⟨w.heap.size + 1 + 1 + 1, 1, none⟩ = some (.int .u16 (pn 1))) (((try dsimp only); (repeat' apply And.intro); all_goals (repeat (first | (with_reducible assumption) | ((with_reducible refine keep_undrew ?_); (with_reducible assumption)) | (with_reducible refine keep_drew ?_) | (with_reducible refine keep_alloc _ ?_) | (with_reducible refine keep_set _ (by first | (with_reducible assumption) | omega) ?_)))))
          (first
          | (go_at_call 48; (with_reducible refine (cB.out (Or.inr trivial) 1 (by decide) hrk _).mono ?_); rintro rq w2 ⟨rfl, hb⟩; replace M := Lib.hid (M.out.below hb); clear hb k1 k2 k3 kc kf; obtain ⟨k1, k2⟩ := (M.out.nth 0 rfl).two; have k3 := (M.out.nth 3 rfl).atc (x := .int .u16 (pn 1)) 1 rfl; have kc := (M.out.nth 1 rfl).2.1; have kf := (M.out.nth 1 rfl).2.2))
        replace M := Lib.hid (M.out.setX 1 (k := 1) (by decide) rfl)
        go_wp2
        go_round
        case rel => exact ⟨2, by omega, rfl, fun j hj => by (rcases (show j < 1 ∨ j = 1 by omega) with g | g; exact hr.out j g; rw [g]; exact hrk), M.out.drop 1⟩
        case measure => decide
    · clear hk j0 j1 j3 j4 j5 j6
      have zx : w.heap.size + 1 + 1 + 1 + 1 + 1 < wr.heap.size := M.out.size 0 rfl
      have M1 := Lib.hid (M.out.made #[.float .f64 (L 2), .float .f64 (H 2)] 39)
      clear M
      obtain ⟨k1, k2⟩ := (M1.out.nth 0 rfl).two
      go_wp2_with fail
      refine (cR.out 2 (by decide) _).mono ?_
      rintro rq w1 ⟨rfl, hb⟩
      have M := Lib.hid (M1.out.below hb)
      clear hb M1 k1 k2
      cases hrk : okk 2
      · go_wp2_with fail
        refine (awake5_any _).mono ?_
        rintro rq w2 ⟨rfl, hb⟩
        replace M := Lib.hid (M.out.below hb)
        go_wp2
        go_ret
        exact ⟨rfl, M.out.base⟩
      · go_upto_region 9 with fail
        replace M := Lib.hid M.out.drew
        obtain ⟨k1, k2⟩ := (M.out.nth 0 rfl).two
        have k3 := (M.out.nth 3 rfl).atc (x := .int .u16 (pn 2)) 2 rfl
        have kc := (M.out.nth 1 rfl).2.1
        have kf := (M.out.nth 1 rfl).2.2
        go_region_held3 (fun w' => w'.cell? ⟨wr.heap.size, 0, none⟩ = some (.float .f64 (L 2)) ∧ w'.cell? ⟨wr.heap.size, 1, none⟩ = some (.float .f64 (H 2)) ∧ w'.cell? ⟨w.heap.size + 1 + 1 + 1, 2, none⟩ = some (.int .u16 (pn 2))) (((try dsimp only); (repeat' apply And.intro); all_goals (repeat (first | (with_reducible assumption) | ((with_reducible refine keep_undrew ?_); (with_reducible assumption)) | (with_reducible refine keep_drew ?_) | (with_reducible refine keep_alloc _ ?_) | (with_reducible refine keep_set _ (by first | (with_reducible assumption) | omega) ?_)))))
          (first
          | (go_at_call 48; (with_reducible refine (cB.out (Or.inr trivial) 2 (by decide) hrk _).mono ?_); rintro rq w2 ⟨rfl, hb⟩; replace M := Lib.hid (M.out.below hb); clear hb k1 k2 k3 kc kf; obtain ⟨k1, k2⟩ := (M.out.nth 0 rfl).two; have k3 := (M.out.nth 3 rfl).atc (x := .int .u16 (pn 2)) 2 rfl; have kc := (M.out.nth 1 rfl).2.1; have kf := (M.out.nth 1 rfl).2.2))
        replace M := Lib.hid (M.out.setX 1 (k := 2) (by decide) rfl)
        go_wp2
        go_round
        case rel => exact ⟨3, by omega, rfl, fun j hj => by (rcases (show j < 2 ∨ j = 2 by omega) with g | g; exact hr.out j g; rw [g]; exact hrk), M.out.drop 1⟩
        case measure => decide
    · clear hk j0 j1 j2 j4 j5 j6
      have zx : w.heap.size + 1 + 1 + 1 + 1 + 1 < wr.heap.size := M.out.size 0 rfl
      have M1 := Lib.hid (M.out.made #[.float .f64 (L 3), .float .f64 (H 3)] 39)
      clear M
      obtain ⟨k1, k2⟩ := (M1.out.nth 0 rfl).two
      go_wp2_with fail
      refine (cR.out 3 (by decide) _).mono ?_
      rintro rq w1 ⟨rfl, hb⟩
      have M := Lib.hid (M1.out.below hb)
      clear hb M1 k1 k2
      cases hrk : okk 3
      · go_wp2_with fail
        refine (awake5_any _).mono ?_
        rintro rq w2 ⟨rfl, hb⟩
        replace M := Lib.hid (M.out.below hb)
        go_wp2
        go_ret
        exact ⟨rfl, M.out.base⟩
      · go_upto_region 9 with fail
        replace M := Lib.hid M.out.drew
        obtain ⟨k1, k2⟩ := (M.out.nth 0 rfl).two
        have k3 := (M.out.nth 3 rfl).atc (x := .int .u16 (pn 3)) 3 rfl
        have kc := (M.out.nth 1 rfl).2.1
        have kf := (M.out.nth 1 rfl).2.2
        go_region_held3 (fun w' => w'.cell? ⟨wr.heap.size, 0, none⟩ = some (.float .f64 (L 3)) ∧ w'.cell? ⟨wr.heap.size, 1, none⟩ = some (.float .f64 (H 3)) ∧ w'.cell? ⟨w.heap.size + 1 + 1 + 1, 3, none⟩ = some (.int .u16 (pn 3))) (((try dsimp only); (repeat' apply And.intro); all_goals (repeat (first | (with_reducible assumption) | ((with_reducible refine keep_undrew ?_); (with_reducible assumption)) | (with_reducible refine keep_drew ?_) | (with_reducible refine keep_alloc _ ?_) | (with_reducible refine keep_set _ (by first | (with_reducible assumption) | omega) ?_)))))
          (first
          | (go_at_call 48; (with_reducible refine (cB.out (Or.inr trivial) 3 (by decide) hrk _).mono ?_); rintro rq w2 ⟨rfl, hb⟩; replace M := Lib.hid (M.out.below hb); clear hb k1 k2 k3 kc kf; obtain ⟨k1, k2⟩ := (M.out.nth 0 rfl).two; have k3 := (M.out.nth 3 rfl).atc (x := .int .u16 (pn 3)) 3 rfl; have kc := (M.out.nth 1 rfl).2.1; have kf := (M.out.nth 1 rfl).2.2))
        replace M := Lib.hid (M.out.setX 1 (k := 3) (by decide) rfl)
        go_wp2
        go_round
        case rel => exact ⟨4, by omega, rfl, fun j hj => by (rcases (show j < 3 ∨ j = 3 by omega) with g | g; exact hr.out j g; rw [g]; exact hrk), M.out.drop 1⟩
        case measure => decide
    · clear hk j0 j1 j2 j3 j5 j6
      have zx : w.heap.size + 1 + 1 + 1 + 1 + 1 < wr.heap.size := M.out.size 0 rfl
      have M1 := Lib.hid (M.out.made #[.float .f64 (L 4), .float .f64 (H 4)] 39)
      clear M
      obtain ⟨k1, k2⟩ := (M1.out.nth 0 rfl).two
      go_wp2_with fail
      refine (cR.out 4 (by decide) _).mono ?_
      rintro rq w1 ⟨rfl, hb⟩
      have M := Lib.hid (M1.out.below hb)
      clear hb M1 k1 k2
      cases hrk : okk 4
      · go_wp2_with fail
        refine (awake5_any _).mono ?_
        rintro rq w2 ⟨rfl, hb⟩
        replace M := Lib.hid (M.out.below hb)
        go_wp2
        go_ret
        exact ⟨rfl, M.out.base⟩
      · go_upto_region 9 with fail
        replace M := Lib.hid M.out.drew
        obtain ⟨k1, k2⟩ := (M.out.nth 0 rfl).two
        have k3 := (M.out.nth 3 rfl).atc (x := .int .u16 (pn 4)) 4 rfl
        have kc := (M.out.nth 1 rfl).2.1
        have kf := (M.out.nth 1 rfl).2.2
        go_region_held3 (fun w' => w'.cell? ⟨wr.heap.size, 0, none⟩ = some (.float .f64 (L 4)) ∧ w'.cell? ⟨wr.heap.size, 1, none⟩ = some (.float .f64 (H 4)) ∧ w'.cell? ⟨w.heap.size + 1 + 1 + 1, 4, none⟩ = some (.int .u16 (pn 4))) (((try dsimp only); (repeat' apply And.intro); all_goals (repeat (first | (with_reducible assumption) | ((with_reducible refine keep_undrew ?_); (with_reducible assumption)) | (with_reducible refine keep_drew ?_) | (with_reducible refine keep_alloc _ ?_) | (with_reducible refine keep_set _ (by first | (with_reducible assumption) | omega) ?_)))))
          (first
          | (go_at_call 48; (with_reducible refine (cB.out (Or.inr trivial) 4 (by decide) hrk _).mono ?_); rintro rq w2 ⟨rfl, hb⟩; replace M := Lib.hid (M.out.below hb); clear hb k1 k2 k3 kc kf; obtain ⟨k1, k2⟩ := (M.out.nth 0 rfl).two; have k3 := (M.out.nth 3 rfl).atc (x := .int .u16 (pn 4)) 4 rfl; have kc := (M.out.nth 1 rfl).2.1; have kf := (M.out.nth 1 rfl).2.2))
        replace M := Lib.hid (M.out.setX 1 (k := 4) (by decide) rfl)
        go_wp2
        go_round
        case rel => exact ⟨5, by omega, rfl, fun j hj => by (rcases (show j < 4 ∨ j = 4 by omega) with g | g; exact hr.out j g; rw [g]; exact hrk), M.out.drop 1⟩
        case measure => decide
    · clear hk j0 j1 j2 j3 j4 j6
      have zx : w.heap.size + 1 + 1 + 1 + 1 + 1 < wr.heap.size := M.out.size 0 rfl
      have M1 := Lib.hid (M.out.made #[.float .f64 (L 5), .float .f64 (H 5)] 39)
      clear M
      obtain ⟨k1, k2⟩ := (M1.out.nth 0 rfl).two
      go_wp2_with fail
      refine (cR.out 5 (by decide) _).mono ?_
      rintro rq w1 ⟨rfl, hb⟩
      have M := Lib.hid (M1.out.below hb)
      clear hb M1 k1 k2
      cases hrk : okk 5
      · go_wp2_with fail
        refine (awake5_any _).mono ?_
        rintro rq w2 ⟨rfl, hb⟩
        replace M := Lib.hid (M.out.below hb)
        go_wp2
        go_ret
        exact ⟨rfl, M.out.base⟩
      · go_upto_region 9 with fail
        replace M := Lib.hid M.out.drew
        obtain ⟨k1, k2⟩ := (M.out.nth 0 rfl).two
        have k3 := (M.out.nth 3 rfl).atc (x := .int .u16 (pn 5)) 5 rfl
        have kc := (M.out.nth 1 rfl).2.1
        have kf := (M.out.nth 1 rfl).2.2
        go_region_held3 (fun w' => w'.cell? ⟨wr.heap.size, 0, none⟩ = some (.float .f64 (L 5)) ∧ w'.cell? ⟨wr.heap.size, 1, none⟩ = some (.float .f64 (H 5)) ∧ w'.cell? ⟨w.heap.size + 1 + 1 + 1, 5, none⟩ = some (.int .u16 (pn 5))) (((try dsimp only); (repeat' apply And.intro); all_goals (repeat (first | (with_reducible assumption) | ((with_reducible refine keep_undrew ?_); (with_reducible assumption)) | (with_reducible refine keep_drew ?_) | (with_reducible refine keep_alloc _ ?_) | (with_reducible refine keep_set _ (by first | (with_reducible assumption) | omega) ?_)))))
          (first
          | (go_at_call 48; (with_reducible refine (cB.out (Or.inr trivial) 5 (by decide) hrk _).mono ?_); rintro rq w2 ⟨rfl, hb⟩; replace M := Lib.hid (M.out.below hb); clear hb k1 k2 k3 kc kf; obtain ⟨k1, k2⟩ := (M.out.nth 0 rfl).two; have k3 := (M.out.nth 3 rfl).atc (x := .int .u16 (pn 5)) 5 rfl; have kc := (M.out.nth 1 rfl).2.1; have kf := (M.out.nth 1 rfl).2.2))
        replace M := Lib.hid (M.out.setX 1 (k := 5) (by decide) rfl)
        go_wp2
        go_round
        case rel => exact ⟨6, by omega, rfl, fun j hj => by (rcases (show j < 5 ∨ j = 5 by omega) with g | g; exact hr.out j g; rw [g]; exact hrk), M.out.drop 1⟩
        case measure => decide
    · clear hk j0 j1 j2 j3 j4 j5
      have zx : w.heap.size + 1 + 1 + 1 + 1 + 1 < wr.heap.size := M.out.size 0 rfl
      have M1 := Lib.hid (M.out.made #[.float .f64 (L 6), .float .f64 (H 6)] 39)
      clear M
      obtain ⟨k1, k2⟩ := (M1.out.nth 0 rfl).two
      go_wp2_with fail
      refine (cR.out 6 (by decide) _).mono ?_
      rintro rq w1 ⟨rfl, hb⟩
      have M := Lib.hid (M1.out.below hb)
      clear hb M1 k1 k2
      cases hrk : okk 6
      · go_wp2_with fail
        refine (awake5_any _).mono ?_
        rintro rq w2 ⟨rfl, hb⟩
        replace M := Lib.hid (M.out.below hb)
        go_wp2
        go_ret
        exact ⟨rfl, M.out.base⟩
      · go_wp2
        go_round
        case rel => exact ⟨7, by omega, rfl, fun j hj => by (rcases (show j < 6 ∨ j = 6 by omega) with g | g; exact hr.out j g; rw [g]; exact hrk), M.out.drop 1⟩
        case measure => decide
    · clear hk j0 j1 j2 j3 j4 j5 j6
      have hall := Lib.hid hr.out
      clear hr
      replace M : Hid (Own w (((w.heap.size + 1 + 1 + 1 + 1 + 1), #[.float .f64 (T 0), .float .f64 (T 1), .float .f64 (T 2), .float .f64 (T 3), .float .f64 (T 4), .float .f64 (T 5)]) :: [(w.heap.size + 1 + 1 + 1 + 1, #[.float .f64 (L 0), .float .f64 (H 0), .float .f64 (L 1), .float .f64 (H 1), .float .f64 (L 2), .float .f64 (H 2), .float .f64 (L 3), .float .f64 (H 3), .float .f64 (L 4), .float .f64 (H 4), .float .f64 (L 5), .float .f64 (H 5), .float .f64 (L 6), .float .f64 (H 6)]), (w.heap.size + 1 + 1 + 1, #[.int .u16 (pn 0), .int .u16 (pn 1), .int .u16 (pn 2), .int .u16 (pn 3), .int .u16 (pn 4), .int .u16 (pn 5)]), (w.heap.size + 1 + 1, #[.float .f64 (L 6), .float .f64 (H 6)]), (w.heap.size + 1, #[.float .f64 (L 3), .float .f64 (H 3), .float .f64 (L 4), .float .f64 (H 4), .float .f64 (L 5), .float .f64 (H 5)]), (w.heap.size, #[.float .f64 (L 0), .float .f64 (H 0), .float .f64 (L 1), .float .f64 (H 1), .float .f64 (L 2), .float .f64 (H 2)])]) wr) := M
      go_upto_region 11 with fail
      replace M := Lib.hid M.out.drew
      obtain ⟨k1, k2, k3, k4, k5, k6⟩ := (M.out.nth 0 rfl).six
      refine wp_region_noPanic ?_
      refine tails_region (S := fun w' => w'.cell? ⟨(w.heap.size + 1 + 1 + 1 + 1 + 1), 0, none⟩ = some (.float .f64 (T 0)) ∧ w'.cell? ⟨(w.heap.size + 1 + 1 + 1 + 1 + 1), 1, none⟩ = some (.float .f64 (T 1)) ∧ w'.cell? ⟨(w.heap.size + 1 + 1 + 1 + 1 + 1), 2, none⟩ = some (.float .f64 (T 2)) ∧ w'.cell? ⟨(w.heap.size + 1 + 1 + 1 + 1 + 1), 3, none⟩ = some (.float .f64 (T 3)) ∧ w'.cell? ⟨(w.heap.size + 1 + 1 + 1 + 1 + 1), 4, none⟩ = some (.float .f64 (T 4)) ∧ w'.cell? ⟨(w.heap.size + 1 + 1 + 1 + 1 + 1), 5, none⟩ = some (.float .f64 (T 5))) [] (by kernel_rfl) ?_ (fun hS => ?_)
      · exact ⟨k1, k2, k3, k4, k5, k6⟩
      refine tails_take (T := []) (i := 0) (o := _) (x := ?_) rfl (by kernel_rfl) (by kernel_rfl) (by kernel_rfl) (by kernel_rfl) (fun _ _ _ h => h) (Or.inl ⟨by rfl, ?_⟩) (by assumption) ?_
      rotate_left; focus (intro w hSw; (try dsimp only at hSw); go_simp; first | done | with_reducible rfl)
      refine tails_take (T := []) (i := 1) (o := _) (x := ?_) rfl (by kernel_rfl) (by kernel_rfl) (by kernel_rfl) (by kernel_rfl) (fun _ _ _ h => h) (Or.inl ⟨by rfl, ?_⟩) (by assumption) ?_
      rotate_left; focus (intro w hSw; (try dsimp only at hSw); go_simp; first | done | with_reducible rfl)
      refine tails_take (T := []) (i := 2) (o := _) (x := ?_) rfl (by kernel_rfl) (by kernel_rfl) (by kernel_rfl) (by kernel_rfl) (fun _ _ _ h => h) (Or.inl ⟨by rfl, ?_⟩) (by assumption) ?_
      rotate_left; focus (intro w hSw; (try dsimp only at hSw); go_simp; first | done | with_reducible rfl)
      refine tails_take (T := []) (i := 3) (o := _) (x := ?_) rfl (by kernel_rfl) (by kernel_rfl) (by kernel_rfl) (by kernel_rfl) (fun _ _ _ h => h) (Or.inl ⟨by rfl, ?_⟩) (by assumption) ?_
      rotate_left; focus (intro w hSw; (try dsimp only at hSw); go_simp; first | done | with_reducible rfl)
      refine tails_take (T := []) (i := 4) (o := _) (x := ?_) rfl (by kernel_rfl) (by kernel_rfl) (by kernel_rfl) (by kernel_rfl) (fun _ _ _ h => h) (Or.inl ⟨by rfl, ?_⟩) (by assumption) ?_
      rotate_left; focus (intro w hSw; (try dsimp only at hSw); go_simp; first | done | with_reducible rfl)
      refine tails_take (T := []) (i := 5) (o := _) (x := ?_) rfl (by kernel_rfl) (by kernel_rfl) (by kernel_rfl) (by kernel_rfl) (fun _ _ _ h => h) (Or.inl ⟨by rfl, ?_⟩) (by assumption) ?_
      rotate_left; focus (intro w hSw; (try dsimp only at hSw); go_simp; first | done | with_reducible rfl)
      refine tails_take (T := []) (i := 7) (o := _) (x := ?_) rfl (by kernel_rfl) (by kernel_rfl) (by kernel_rfl) (by kernel_rfl) (fun _ _ _ h => h) (Or.inl ⟨by rfl, ?_⟩) (by assumption) ?_
      rotate_left; focus (intro w hSw; (try dsimp only at hSw); go_simp; first | done | with_reducible rfl)
      refine tails_take (T := []) (i := 8) (o := _) (x := ?_) rfl (by kernel_rfl) (by kernel_rfl) (by kernel_rfl) (by kernel_rfl) (fun _ _ _ h => h) (Or.inl ⟨by rfl, ?_⟩) (by assumption) ?_
      rotate_left; focus (intro w hSw; (try dsimp only at hSw); go_simp; first | done | with_reducible rfl)
      refine tails_take (T := []) (i := 9) (o := _) (x := ?_) rfl (by kernel_rfl) (by kernel_rfl) (by kernel_rfl) (by kernel_rfl) (fun _ _ _ h => h) (Or.inl ⟨by rfl, ?_⟩) (by assumption) ?_
      rotate_left; focus (intro w hSw; (try dsimp only at hSw); go_simp; first | done | with_reducible rfl)
      refine tails_take (T := []) (i := 10) (o := _) (x := ?_) rfl (by kernel_rfl) (by kernel_rfl) (by kernel_rfl) (by kernel_rfl) (fun _ _ _ h => h) (Or.inl ⟨by rfl, ?_⟩) (by assumption) ?_
      rotate_left; focus (intro w hSw; (try dsimp only at hSw); go_simp; first | done | with_reducible rfl)
      refine tails_take (T := []) (i := 11) (o := _) (x := ?_) rfl (by kernel_rfl) (by kernel_rfl) (by kernel_rfl) (by kernel_rfl) (fun _ _ _ h => h) (Or.inl ⟨by rfl, ?_⟩) (by assumption) ?_
      rotate_left; focus (intro w hSw; (try dsimp only at hSw); go_simp; first | done | with_reducible rfl)
      refine tails_take (T := []) (i := 12) (o := _) (x := ?_) rfl (by kernel_rfl) (by kernel_rfl) (by kernel_rfl) (by kernel_rfl) (fun _ _ _ h => h) (Or.inl ⟨by rfl, ?_⟩) (by assumption) ?_
      rotate_left; focus (intro w hSw; (try dsimp only at hSw); go_simp; first | done | with_reducible rfl)
      conv => arg 9; simp only [Act.put, go_sem]
      refine lat_2_2 (T := []) 6 13 14 15 [63, 70, 13, 14] 2 (HvJa w L H T pn (w.heap.size + 1 + 1 + 1 + 1 + 1) (w.heap.size + 1 + 1 + 1 + 1) (w.heap.size + 1 + 1 + 1) (w.heap.size + 1 + 1) (w.heap.size + 1) w.heap.size) (by kernel_rfl) (by kernel_rfl) ?_ ?_ ?_ ?_ ?_ ?_ ?_
      · intro A hA
        obtain ⟨y1, hq1⟩ := put_ex (hA 63 (by simp))
        obtain ⟨y2, hq2⟩ := put_ex (hA 70 (by simp))
        obtain ⟨z1, hq3⟩ := put_ex (hA 13 (by simp))
        obtain ⟨z2, hq4⟩ := put_ex (hA 14 (by simp))
        exact ⟨y1, y2, z1, z2, by rw [hq1, hq2, hq3, hq4], by omega, by omega, by simp, by simp, OwnF.start M.out 2⟩
      · rintro k p a v ⟨y1, y2, z1, z2, _, _, _, _, _, h⟩
        exact ⟨((h.own.nth 0 rfl).six).1, ((h.own.nth 0 rfl).six).2.1, ((h.own.nth 0 rfl).six).2.2.1, ((h.own.nth 0 rfl).six).2.2.2.1, ((h.own.nth 0 rfl).six).2.2.2.2.1, ((h.own.nth 0 rfl).six).2.2.2.2.2⟩
      · intro p a v hJ
        refine op_step (o := _) rfl (fun K hK => ?_)
        obtain ⟨y1, y2, z1, z2, rfl, gg1, gg2, h⟩ := HvJa_0 hJ
        have h := Lib.hid h
        clear hJ
        go_simp
        refine (at_any _ _ _ _).mono ?_
        rintro rr w5 ⟨rfl, hp⟩
        try go_wp2_with fail
        refine hK.out _ _ ⟨.agg #[.float .f64 (T 0), .float .f64 (T 0), .float .f64 (T 1), .float .f64 (T 1), .float .f64 (T 2), .float .f64 (T 2)], y2, z1, z2, ?_, fun _ => rfl, by omega, gg1, gg2, h.out.below hp⟩
        kernel_rfl
      · intro p a v hJ
        refine op_step (o := _) rfl (fun K hK => ?_)
        obtain ⟨y2, z1, z2, rfl, gg1, gg2, h⟩ := HvJa_1 hJ
        have h := Lib.hid h
        clear hJ
        go_simp
        refine (at_any _ _ _ _).mono ?_
        rintro rr w5 ⟨rfl, hp⟩
        try go_wp2_with fail
        refine hK.out _ _ ⟨.agg #[.float .f64 (T 0), .float .f64 (T 0), .float .f64 (T 1), .float .f64 (T 1), .float .f64 (T 2), .float .f64 (T 2)], .agg #[.float .f64 (T 3), .float .f64 (T 3), .float .f64 (T 4), .float .f64 (T 4), .float .f64 (T 5), .float .f64 (T 5)], z1, z2, ?_, fun _ => rfl, fun _ => rfl, gg1, gg2, h.out.below hp⟩
        kernel_rfl
      · intro k p a v hp hJ
        refine op_step (o := _) rfl (fun K hK => ?_)
        obtain ⟨y1, y2, z1, z2, rfl, ee1, ee2, gg1, gg2, h⟩ := hJ
        have h := Lib.hid h
        go_simp
        refine hK.out _ _ ⟨v.heap.size, y1, y2, .pointer (some ⟨v.heap.size, 0, none⟩), z2, ?_, ee1, ee2, fun q hq => ptr_set hq, ptr_keep 1 (by decide) gg2, h.out.alloc hp rfl _⟩
        kernel_rfl
      · intro k p a v hp hJ
        refine op_step (o := _) rfl (fun K hK => ?_)
        obtain ⟨y1, y2, z1, z2, rfl, ee1, ee2, gg1, gg2, h⟩ := hJ
        have h := Lib.hid h
        go_simp
        refine hK.out _ _ ⟨v.heap.size, y1, y2, z1, .pointer (some ⟨v.heap.size, 0, none⟩), ?_, ee1, ee2, ptr_keep 0 (by decide) gg1, fun q hq => ptr_set hq, h.out.alloc hp rfl _⟩
        kernel_rfl
      · intro u1 u2 a v hJ
        obtain ⟨rfl, h⟩ := HvJa_fin hJ
        clear hJ
        replace M := Lib.hid h.fin2
        clear h
        refine tails_one (T := []) (i := 16) (o := _) rfl (by kernel_rfl) (fun K hK => ?_)
        have kc := (M.out.nth 0 rfl).2.1
        have kf := (M.out.nth 0 rfl).2.2
        replace M := Lib.hid (M.out.set6 0 rfl (.float .f64 (T 0)) (.float .f64 (T 0)) (.float .f64 (T 1)) (.float .f64 (T 1)) (.float .f64 (T 2)) (.float .f64 (T 2)))
        go_simp
        refine hK.out _ _ (Or.inr ⟨((M.out.nth 2 rfl).six).1, ((M.out.nth 2 rfl).six).2.1, ((M.out.nth 2 rfl).six).2.2.1, ((M.out.nth 2 rfl).six).2.2.2.1, ((M.out.nth 2 rfl).six).2.2.2.2.1, ((M.out.nth 2 rfl).six).2.2.2.2.2⟩) (fun hHeld => ?_)
        clear hK K hHeld kc kf
        refine tails_one (T := []) (i := 17) (o := _) rfl (by kernel_rfl) (fun K hK => ?_)
        have kc := (M.out.nth 1 rfl).2.1
        have kf := (M.out.nth 1 rfl).2.2
        replace M := Lib.hid (M.out.set6 1 rfl (.float .f64 (T 3)) (.float .f64 (T 3)) (.float .f64 (T 4)) (.float .f64 (T 4)) (.float .f64 (T 5)) (.float .f64 (T 5)))
        go_simp
        refine hK.out _ _ (Or.inr ⟨((M.out.nth 2 rfl).six).1, ((M.out.nth 2 rfl).six).2.1, ((M.out.nth 2 rfl).six).2.2.1, ((M.out.nth 2 rfl).six).2.2.2.1, ((M.out.nth 2 rfl).six).2.2.2.2.1, ((M.out.nth 2 rfl).six).2.2.2.2.2⟩) (fun hHeld => ?_)
        clear hK K hHeld kc kf
        refine tails_done (by kernel_rfl) ?_ _
        refine NoPanic.normal ?_
        revert M
        generalize ((((((((((((v.setCell ⟨u1, 0, none⟩ (.float .f64 (T 0))).setCell ⟨u1, 1, none⟩ (.float .f64 (T 0))).setCell ⟨u1, 2, none⟩ (.float .f64 (T 1))).setCell ⟨u1, 3, none⟩ (.float .f64 (T 1))).setCell ⟨u1, 4, none⟩ (.float .f64 (T 2))).setCell ⟨u1, 5, none⟩ (.float .f64 (T 2))).setCell ⟨u2, 0, none⟩ (.float .f64 (T 3))).setCell ⟨u2, 1, none⟩ (.float .f64 (T 3))).setCell ⟨u2, 2, none⟩ (.float .f64 (T 4))).setCell ⟨u2, 3, none⟩ (.float .f64 (T 4))).setCell ⟨u2, 4, none⟩ (.float .f64 (T 5))).setCell ⟨u2, 5, none⟩ (.float .f64 (T 5))) = W
        intro M
        clear k1 k2 k3 k4 k5 k6
        go_wp2_with fail
        go_loopw [71] (HvRel2 w [(u1, #[.float .f64 (T 0), .float .f64 (T 0), .float .f64 (T 1), .float .f64 (T 1), .float .f64 (T 2), .float .f64 (T 2)]), (u2, #[.float .f64 (T 3), .float .f64 (T 3), .float .f64 (T 4), .float .f64 (T 4), .float .f64 (T 5), .float .f64 (T 5)]), ((w.heap.size + 1 + 1 + 1 + 1 + 1), #[.float .f64 (T 0), .float .f64 (T 1), .float .f64 (T 2), .float .f64 (T 3), .float .f64 (T 4), .float .f64 (T 5)]), (w.heap.size + 1 + 1 + 1 + 1, #[.float .f64 (L 0), .float .f64 (H 0), .float .f64 (L 1), .float .f64 (H 1), .float .f64 (L 2), .float .f64 (H 2), .float .f64 (L 3), .float .f64 (H 3), .float .f64 (L 4), .float .f64 (H 4), .float .f64 (L 5), .float .f64 (H 5), .float .f64 (L 6), .float .f64 (H 6)]), (w.heap.size + 1 + 1 + 1, #[.int .u16 (pn 0), .int .u16 (pn 1), .int .u16 (pn 2), .int .u16 (pn 3), .int .u16 (pn 4), .int .u16 (pn 5)]), (w.heap.size + 1 + 1, #[.float .f64 (L 6), .float .f64 (H 6)]), (w.heap.size + 1, #[.float .f64 (L 3), .float .f64 (H 3), .float .f64 (L 4), .float .f64 (H 4), .float .f64 (L 5), .float .f64 (H 5)]), (w.heap.size, #[.float .f64 (L 0), .float .f64 (H 0), .float .f64 (L 1), .float .f64 (H 1), .float .f64 (L 2), .float .f64 (H 2)])]) (fun i _ => 8 - (intOf i).toNat)
        case atStart => exact ⟨0, by omega, rfl, M.out⟩
        case round =>
          clear M
          obtain ⟨k, hk, rfl, hM⟩ := hrel
          have M := Lib.hid hM
          clear hM
          by_cases hlt : k < 7
          · have e9 : wrap64 ((k : Int) + 1) = (k : Int) + 1 := wrap64_in _ (by omega) (by omega)
            have M1 := Lib.hid ((M.out.made #[.int .i64 0] 45).made #[.int .i64 0] 45)
            simp only [World.size_alloc] at M1
            clear M
            obtain ⟨k1, k2, k3, k4, k5, k6⟩ := (M1.out.nth 9 rfl).six
            obtain ⟨k7, k8, k9, k10, k11, k12⟩ := (M1.out.nth 8 rfl).six
            obtain ⟨k13, k14⟩ := (M1.out.nth 7 rfl).two
            go_wp2_with fail
            refine (cA.out k hlt _ _ (M1.out.nth 1 rfl)).mono ?_
            rintro rq w2 ⟨rfl, hp⟩
            have M := Lib.hid (((M1.out.putAt 1 rfl hp).made #[.float .f64 (V k).x.lo, .float .f64 (V k).x.hi, .float .f64 (V k).y.lo, .float .f64 (V k).y.hi, .float .f64 (V k).z.lo, .float .f64 (V k).z.hi] 60).made #[.float .f64 (R k).lo, .float .f64 (R k).hi] 39)
            simp only [World.size_alloc] at M
            clear hp M1 k1 k2 k3 k4 k5 k6 k7 k8 k9 k10 k11 k12 k13 k14
            obtain ⟨k1, k2, k3, k4, k5, k6⟩ := (M.out.nth 4 rfl).six
            obtain ⟨k7, k8, k9, k10, k11, k12⟩ := (M.out.nth 5 rfl).six
            obtain ⟨k13, k14⟩ := (M.out.nth 9 rfl).two
            go_wp2_with fail
            refine (cD.out hall.out k hlt _ _ (M.out.nth 2 rfl)).mono ?_
            rintro rq w3 ⟨rfl, hp⟩
            have M1 := Lib.hid (((M.out.putAt 2 rfl hp).made #[.float .f64 (vs k).x.lo, .float .f64 (vs k).x.hi, .float .f64 (vs k).y.lo, .float .f64 (vs k).y.hi, .float .f64 (vs k).z.lo, .float .f64 (vs k).z.hi] 60).made #[.float .f64 (rr k).lo, .float .f64 (rr k).hi] 39)
            simp only [World.size_alloc] at M1
            clear hp M k1 k2 k3 k4 k5 k6 k7 k8 k9 k10 k11 k12 k13 k14
            have M := M1
            clear M1
            go_wp2_with fail
            refine (err_any (E k) _ 0 _ (M.out.nth 5 rfl).pc).mono ?_
            rintro rq ww ⟨rfl, rfl⟩
            by_cases he : E k = 0
            · have hne : (E k != 0) = false := by rw [he]; rfl
              have hn2 : (e k != 0) = false := by rw [cZ.out hall.out k hlt he]; rfl
              have he := Lib.hid he
              go_wp2_with fail
              refine (err_any (e k) _ 0 _ (M.out.nth 4 rfl).pc).mono ?_
              rintro rq ww ⟨rfl, rfl⟩
              obtain ⟨k1, k2, k3, k4, k5, k6⟩ := (M.out.nth 3 rfl).six
              obtain ⟨k7, k8, k9, k10, k11, k12⟩ := (M.out.nth 1 rfl).six
              obtain ⟨k13, k14⟩ := (M.out.nth 2 rfl).two
              obtain ⟨k15, k16⟩ := (M.out.nth 0 rfl).two
              go_wp2_with fail
              refine (cW1.out hall.out k hlt he.out _).mono ?_
              rintro rq y1 ⟨rfl, hb⟩
              replace M := Lib.hid (M.out.below hb)
              clear hb k1 k2 k3 k4 k5 k6 k7 k8 k9 k10 k11 k12 k13 k14 k15 k16
              obtain ⟨k1, k2, k3, k4, k5, k6⟩ := (M.out.nth 3 rfl).six
              obtain ⟨k7, k8, k9, k10, k11, k12⟩ := (M.out.nth 1 rfl).six
              obtain ⟨k13, k14⟩ := (M.out.nth 2 rfl).two
              obtain ⟨k15, k16⟩ := (M.out.nth 0 rfl).two
              go_wp2_with fail
              refine (cW2.out hall.out k hlt he.out _).mono ?_
              rintro rq y2 ⟨rfl, hb⟩
              replace M := Lib.hid (M.out.below hb)
              clear hb k1 k2 k3 k4 k5 k6 k7 k8 k9 k10 k11 k12 k13 k14 k15 k16
              obtain ⟨k1, k2, k3, k4, k5, k6⟩ := (M.out.nth 3 rfl).six
              obtain ⟨k7, k8, k9, k10, k11, k12⟩ := (M.out.nth 1 rfl).six
              obtain ⟨k13, k14⟩ := (M.out.nth 2 rfl).two
              obtain ⟨k15, k16⟩ := (M.out.nth 0 rfl).two
              go_wp2_with fail
              refine (cW3.out hall.out k hlt he.out _).mono ?_
              rintro rq y3 ⟨rfl, hb⟩
              replace M := Lib.hid (M.out.below hb)
              clear hb k1 k2 k3 k4 k5 k6 k7 k8 k9 k10 k11 k12 k13 k14 k15 k16
              obtain ⟨k1, k2, k3, k4, k5, k6⟩ := (M.out.nth 3 rfl).six
              obtain ⟨k7, k8, k9, k10, k11, k12⟩ := (M.out.nth 1 rfl).six
              obtain ⟨k13, k14⟩ := (M.out.nth 2 rfl).two
              obtain ⟨k15, k16⟩ := (M.out.nth 0 rfl).two
              go_wp2_with fail
              refine (cW4.out hall.out k hlt he.out _).mono ?_
              rintro rq y4 ⟨rfl, hb⟩
              replace M := Lib.hid (M.out.below hb)
              clear hb k1 k2 k3 k4 k5 k6 k7 k8 k9 k10 k11 k12 k13 k14 k15 k16
              obtain ⟨k1, k2, k3, k4, k5, k6⟩ := (M.out.nth 3 rfl).six
              obtain ⟨k7, k8, k9, k10, k11, k12⟩ := (M.out.nth 1 rfl).six
              obtain ⟨k13, k14⟩ := (M.out.nth 2 rfl).two
              obtain ⟨k15, k16⟩ := (M.out.nth 0 rfl).two
              go_wp2
              go_round
              case rel => exact ⟨k + 1, by omega, by go_num, M.out.drop 6⟩
              case measure => simp [intOf]; omega
            · have hne : (E k != 0) = true := by simpa using he
              go_wp2
              go_round
              case rel => exact ⟨k + 1, by omega, by go_num, M.out.drop 6⟩
              case measure => simp [intOf]; omega
          · obtain rfl : k = 7 := by omega
            clear hk hlt
            go_upto_region 23 with fail
            have M1 := Lib.hid ((M.out.made #[.int .i64 0] 45).drew)
            clear M
            have M := Lib.hid (own_re hz.out M1.out)
            clear M1
            obtain ⟨k1, k2, k3, k4, k5, k6⟩ := (M.out.nth 8 rfl).six
            obtain ⟨k7, k8, k9, k10, k11, k12⟩ := (M.out.nth 7 rfl).six
            refine wp_region_noPanic ?_
            refine tails_region (S := fun w' => w'.cell? ⟨w.heap.size, 0, none⟩ = some (.float .f64 (L 0)) ∧ w'.cell? ⟨w.heap.size, 1, none⟩ = some (.float .f64 (H 0)) ∧ w'.cell? ⟨w.heap.size, 2, none⟩ = some (.float .f64 (L 1)) ∧ w'.cell? ⟨w.heap.size, 3, none⟩ = some (.float .f64 (H 1)) ∧ w'.cell? ⟨w.heap.size, 4, none⟩ = some (.float .f64 (L 2)) ∧ w'.cell? ⟨w.heap.size, 5, none⟩ = some (.float .f64 (H 2)) ∧ w'.cell? ⟨(w.heap.size + 1), 0, none⟩ = some (.float .f64 (L 3)) ∧ w'.cell? ⟨(w.heap.size + 1), 1, none⟩ = some (.float .f64 (H 3)) ∧ w'.cell? ⟨(w.heap.size + 1), 2, none⟩ = some (.float .f64 (L 4)) ∧ w'.cell? ⟨(w.heap.size + 1), 3, none⟩ = some (.float .f64 (H 4)) ∧ w'.cell? ⟨(w.heap.size + 1), 4, none⟩ = some (.float .f64 (L 5)) ∧ w'.cell? ⟨(w.heap.size + 1), 5, none⟩ = some (.float .f64 (H 5))) [] (by kernel_rfl) ?_ (fun hS => ?_)
            · exact ⟨k1, k2, k3, k4, k5, k6, k7, k8, k9, k10, k11, k12⟩
            refine tails_take (T := []) (i := 0) (o := _) (x := ?_) rfl (by kernel_rfl) (by kernel_rfl) (by kernel_rfl) (by kernel_rfl) (fun _ _ _ h => h) (Or.inl ⟨by rfl, ?_⟩) (by assumption) ?_
            rotate_left; focus (intro w hSw; (try dsimp only at hSw); go_simp; first | done | with_reducible rfl)
            refine tails_take (T := []) (i := 1) (o := _) (x := ?_) rfl (by kernel_rfl) (by kernel_rfl) (by kernel_rfl) (by kernel_rfl) (fun _ _ _ h => h) (Or.inl ⟨by rfl, ?_⟩) (by assumption) ?_
            rotate_left; focus (intro w hSw; (try dsimp only at hSw); go_simp; first | done | with_reducible rfl)
            refine tails_take (T := []) (i := 3) (o := _) (x := ?_) rfl (by kernel_rfl) (by kernel_rfl) (by kernel_rfl) (by kernel_rfl) (fun _ _ _ h => h) (Or.inl ⟨by rfl, ?_⟩) (by assumption) ?_
            rotate_left; focus (intro w hSw; (try dsimp only at hSw); go_simp; first | done | with_reducible rfl)
            conv => arg 9; simp only [Act.put, go_sem]
            refine lat_2_1 (T := []) 2 4 5 [127, 129, 23] 1 (HvJb w L H T pn S G ek wr.heap.size u1 u2 (w.heap.size + 1 + 1 + 1 + 1 + 1) (w.heap.size + 1 + 1 + 1 + 1) (w.heap.size + 1 + 1 + 1) (w.heap.size + 1 + 1) (w.heap.size + 1) w.heap.size) (by kernel_rfl) (by kernel_rfl) ?_ ?_ ?_ ?_ ?_ ?_
            · intro A hA
              obtain ⟨y1, hq1⟩ := put_ex (hA 127 (by simp))
              obtain ⟨y2, hq2⟩ := put_ex (hA 129 (by simp))
              obtain ⟨z1, hq3⟩ := put_ex (hA 23 (by simp))
              exact ⟨y1, y2, z1, by rw [hq1, hq2, hq3], by omega, by omega, by simp, OwnF.start M.out 1⟩
            · rintro k p a v ⟨y1, y2, z1, _, _, _, _, h⟩
              exact ⟨((h.own.nth 8 rfl).six).1, ((h.own.nth 8 rfl).six).2.1, ((h.own.nth 8 rfl).six).2.2.1, ((h.own.nth 8 rfl).six).2.2.2.1, ((h.own.nth 8 rfl).six).2.2.2.2.1, ((h.own.nth 8 rfl).six).2.2.2.2.2, ((h.own.nth 7 rfl).six).1, ((h.own.nth 7 rfl).six).2.1, ((h.own.nth 7 rfl).six).2.2.1, ((h.own.nth 7 rfl).six).2.2.2.1, ((h.own.nth 7 rfl).six).2.2.2.2.1, ((h.own.nth 7 rfl).six).2.2.2.2.2⟩
            · intro p a v hJ
              refine op_step (o := _) rfl (fun K hK => ?_)
              obtain ⟨y1, y2, z1, rfl, gg1, h⟩ := HvJb_0 hJ
              have h := Lib.hid h
              clear hJ
              go_simp
              refine (cAdd.out _ _ (h.out.own.nth 0 rfl)).mono ?_
              rintro rr w5 ⟨rfl, hp⟩
              try go_wp2_with fail
              refine hK.out _ _ ⟨.agg #[.float .f64 (S).x.lo, .float .f64 (S).x.hi, .float .f64 (S).y.lo, .float .f64 (S).y.hi, .float .f64 (S).z.lo, .float .f64 (S).z.hi], y2, z1, ?_, fun _ => rfl, by omega, gg1, h.out.putAt 0 rfl hp⟩
              kernel_rfl
            · intro p a v hJ
              refine op_step (o := _) rfl (fun K hK => ?_)
              obtain ⟨y2, z1, rfl, gg1, h⟩ := HvJb_1 hJ
              have h := Lib.hid h
              clear hJ
              go_simp
              refine (cSub.out _ _ (h.out.own.nth 0 rfl)).mono ?_
              rintro rr w5 ⟨rfl, hp⟩
              try go_wp2_with fail
              refine hK.out _ _ ⟨.agg #[.float .f64 (S).x.lo, .float .f64 (S).x.hi, .float .f64 (S).y.lo, .float .f64 (S).y.hi, .float .f64 (S).z.lo, .float .f64 (S).z.hi], .agg #[.float .f64 (G).x.lo, .float .f64 (G).x.hi, .float .f64 (G).y.lo, .float .f64 (G).y.hi, .float .f64 (G).z.lo, .float .f64 (G).z.hi], z1, ?_, fun _ => rfl, fun _ => rfl, gg1, h.out.putAt 0 rfl hp⟩
              kernel_rfl
            · intro k p a v hp hJ
              refine op_step (o := _) rfl (fun K hK => ?_)
              obtain ⟨y1, y2, z1, rfl, ee1, ee2, gg1, h⟩ := hJ
              have h := Lib.hid h
              go_simp
              refine hK.out _ _ ⟨v.heap.size, y1, y2, .pointer (some ⟨v.heap.size, 0, none⟩), ?_, ee1, ee2, fun q hq => ptr_set hq, h.out.alloc hp rfl _⟩
              kernel_rfl
            · intro z1 a v hJ
              obtain ⟨rfl, h⟩ := HvJb_fin hJ
              clear hJ
              replace M := Lib.hid h.fin1
              clear h
              refine tails_one (T := []) (i := 6) (o := _) rfl (by kernel_rfl) (fun K hK => ?_)
              have kc := (M.out.nth 0 rfl).2.1
              have kf := (M.out.nth 0 rfl).2.2
              replace M := Lib.hid (M.out.set6 0 rfl (.float .f64 (G).x.lo) (.float .f64 (G).x.hi) (.float .f64 (G).y.lo) (.float .f64 (G).y.hi) (.float .f64 (G).z.lo) (.float .f64 (G).z.hi))
              go_simp
              refine hK.out _ _ (Or.inr ⟨((M.out.nth 9 rfl).six).1, ((M.out.nth 9 rfl).six).2.1, ((M.out.nth 9 rfl).six).2.2.1, ((M.out.nth 9 rfl).six).2.2.2.1, ((M.out.nth 9 rfl).six).2.2.2.2.1, ((M.out.nth 9 rfl).six).2.2.2.2.2, ((M.out.nth 8 rfl).six).1, ((M.out.nth 8 rfl).six).2.1, ((M.out.nth 8 rfl).six).2.2.1, ((M.out.nth 8 rfl).six).2.2.2.1, ((M.out.nth 8 rfl).six).2.2.2.2.1, ((M.out.nth 8 rfl).six).2.2.2.2.2⟩) (fun hHeld => ?_)
              clear hK K hHeld kc kf
              refine tails_done (by kernel_rfl) ?_ _
              refine NoPanic.normal ?_
              revert M
              generalize ((((((v.setCell ⟨z1, 0, none⟩ (.float .f64 (G).x.lo)).setCell ⟨z1, 1, none⟩ (.float .f64 (G).x.hi)).setCell ⟨z1, 2, none⟩ (.float .f64 (G).y.lo)).setCell ⟨z1, 3, none⟩ (.float .f64 (G).y.hi)).setCell ⟨z1, 4, none⟩ (.float .f64 (G).z.lo)).setCell ⟨z1, 5, none⟩ (.float .f64 (G).z.hi)) = W
              intro M
              clear k1 k2 k3 k4 k5 k6 k7 k8 k9 k10 k11 k12
              go_wp2_with fail
              refine (err_any (ek 2) _ 0 _ (M.out.nth 1 rfl).pc).mono ?_
              rintro rq ww ⟨rfl, rfl⟩
              by_cases he : ek 2 = 0
              · have hne : (ek 2 != 0) = false := by rw [he]; rfl
                have he := Lib.hid he
                obtain ⟨k1, k2, k3, k4, k5, k6⟩ := (M.out.nth 0 rfl).six
                obtain ⟨k7, k8, k9, k10, k11, k12⟩ := (M.out.nth 9 rfl).six
                go_wp2_with fail
                refine (cG1.out hall.out he.out _).mono ?_
                rintro rq y1 ⟨rfl, hb⟩
                replace M := Lib.hid (M.out.below hb)
                clear hb k1 k2 k3 k4 k5 k6 k7 k8 k9 k10 k11 k12
                obtain ⟨k1, k2, k3, k4, k5, k6⟩ := (M.out.nth 0 rfl).six
                obtain ⟨k7, k8, k9, k10, k11, k12⟩ := (M.out.nth 9 rfl).six
                go_wp2_with fail
                refine (cG2.out hall.out he.out _).mono ?_
                rintro rq y2 ⟨rfl, hb⟩
                replace M := Lib.hid (M.out.below hb)
                clear hb k1 k2 k3 k4 k5 k6 k7 k8 k9 k10 k11 k12
                obtain ⟨k1, k2, k3, k4, k5, k6⟩ := (M.out.nth 0 rfl).six
                obtain ⟨k7, k8, k9, k10, k11, k12⟩ := (M.out.nth 9 rfl).six
                go_wp2_with fail
                refine (cG3.out hall.out he.out _).mono ?_
                rintro rq y3 ⟨rfl, hb⟩
                replace M := Lib.hid (M.out.below hb)
                clear hb k1 k2 k3 k4 k5 k6 k7 k8 k9 k10 k11 k12
                obtain ⟨k1, k2, k3, k4, k5, k6⟩ := (M.out.nth 0 rfl).six
                obtain ⟨k7, k8, k9, k10, k11, k12⟩ := (M.out.nth 9 rfl).six
                go_wp2_with fail
                refine (awake5_any _).mono ?_
                rintro rq y5 ⟨rfl, hb⟩
                replace M := Lib.hid (M.out.below hb)
                go_wp2
                go_ret
                exact ⟨rfl, M.out.base⟩
              · have hne : (ek 2 != 0) = true := by simpa using he
                go_wp2_with fail
                refine (awake5_any _).mono ?_
                rintro rq y5 ⟨rfl, hb⟩
                replace M := Lib.hid (M.out.below hb)
                go_wp2
                go_ret
                exact ⟨rfl, M.out.base⟩

end Go.Proofs.Ytmcecchcbfhfcaa

namespace Go.Proofs.Ytmcecchcbfhfcaa
open Go.RowKit

/-- What of seven pairs of words. -/
def LHof (x0 x1 x2 x3 x4 x5 x6 : Nat) : Nat → Nat
  | 0 => x0 | 1 => x1 | 2 => x2 | 3 => x3 | 4 => x4 | 5 => x5 | _ => x6
def PNof (x0 x1 x2 x3 x4 x5 : Nat) : Nat → Nat
  | 0 => x0 | 1 => x1 | 2 => x2 | 3 => x3 | 4 => x4 | _ => x5
theorem seven {P : Nat → Prop} (h0 : P 0) (h1 : P 1) (h2 : P 2) (h3 : P 3) (h4 : P 4) (h5 : P 5) (h6 : P 6) : ∀ k, k < 7 → P k := fun k hk => by
  rcases (show k = 0 ∨ k = 1 ∨ k = 2 ∨ k = 3 ∨ k = 4 ∨ k = 5 ∨ k = 6 by omega) with rfl | rfl | rfl | rfl | rfl | rfl | rfl <;> assumption

def ivK (L H : Nat → Nat) (k : Nat) : Res := ⟨0, L k, H k⟩
def vec3 (L H : Nat → Nat) (k : Nat) : V3 := ⟨ivK L H k, ivK L H (k + 1), ivK L H (k + 2)⟩
def point3 (T : Nat → Nat) (k : Nat) : V3 := ⟨oneR (T k), oneR (T (k + 1)), oneR (T (k + 2))⟩

theorem vecHolds_core (L H pn : Nat → Nat) (w : World) (hL : ∀ k, k < 7 → L k < 18446744073709551616) (hH : ∀ k, k < 7 → H k < 18446744073709551616) (hp : ∀ k, k < 6 → pn k < 65536) :
    Calls Try.prog 11 #[.agg #[.float .f64 (L 0), .float .f64 (H 0), .float .f64 (L 1), .float .f64 (H 1), .float .f64 (L 2), .float .f64 (H 2)], .agg #[.float .f64 (L 3), .float .f64 (H 3), .float .f64 (L 4), .float .f64 (H 4), .float .f64 (L 5), .float .f64 (H 5)], .agg #[.float .f64 (L 6), .float .f64 (H 6)],
      .agg #[.int .u16 (pn 0), .int .u16 (pn 1), .int .u16 (pn 2), .int .u16 (pn 3), .int .u16 (pn 4), .int .u16 (pn 5)]] w fun r w' => r = .returned (.bool true) ∧ Below w.heap.size w w' := by
  obtain ⟨T, hT⟩ : ∃ T : Nat → Nat, T = fun k => btwW (L k) (H k) (pn k) := ⟨_, rfl⟩
  have wdk : ∀ k, k < 7 → Wd (ivK L H k) := fun k hk => ⟨hL k hk, hH k hk⟩
  have wa : WdV (vec3 L H 0) := ⟨wdk 0 (by decide), wdk 1 (by decide), wdk 2 (by decide)⟩
  have wb : WdV (vec3 L H 3) := ⟨wdk 3 (by decide), wdk 4 (by decide), wdk 5 (by decide)⟩
  have wk := wdk 6 (by decide)
  -- where all are right
  have fit : ∀ k, k < 7 → ivR (L k) (H k) = true → Fit (ivK L H k) := fun k hk h => ⟨rfl, hL k hk, hH k hk, h⟩
  have pt : ∀ k, k < 7 → ivR (L k) (H k) = true → In (oneR (T k)) (ivK L H k) := fun k hk h => by
    obtain ⟨x1, x2, x3, x4⟩ := btw_in (L k) (H k) (pn k) (hL k hk) (hH k hk) h
    rw [hT]
    exact ⟨one_fit x1 x2, x3, x4⟩
  have all : (∀ j : Nat, j < 7 → ivR (L j) (H j) = true) → FitV (vec3 L H 0) ∧ FitV (vec3 L H 3) ∧ Fit (ivK L H 6) ∧ InV (point3 T 0) (vec3 L H 0) ∧ InV (point3 T 3) (vec3 L H 3) := fun h =>
    ⟨⟨fit 0 (by decide) (h 0 (by decide)), fit 1 (by decide) (h 1 (by decide)), fit 2 (by decide) (h 2 (by decide))⟩, ⟨fit 3 (by decide) (h 3 (by decide)), fit 4 (by decide) (h 4 (by decide)), fit 5 (by decide) (h 5 (by decide))⟩, fit 6 (by decide) (h 6 (by decide)),
     ⟨pt 0 (by decide) (h 0 (by decide)), pt 1 (by decide) (h 1 (by decide)), pt 2 (by decide) (h 2 (by decide))⟩, ⟨pt 3 (by decide) (h 3 (by decide)), pt 4 (by decide) (h 4 (by decide)), pt 5 (by decide) (h 5 (by decide))⟩⟩
  have part : (∀ j : Nat, j < 7 → ivR (L j) (H j) = true) → ∀ k : Nat, k < 7 → madeE 0 (vec3 L H 0) (vec3 L H 3) (ivK L H 6) k = 0 →
      madeE 0 (point3 T 0) (point3 T 3) (ivK L H 6) k = 0 ∧ InV (madeV 0 (point3 T 0) (point3 T 3) (ivK L H 6) k) (madeV 0 (vec3 L H 0) (vec3 L H 3) (ivK L H 6) k) ∧ FitV (madeV 0 (vec3 L H 0) (vec3 L H 3) (ivK L H 6) k) ∧ In (madeR 0 (point3 T 0) (point3 T 3) k) (madeR 0 (vec3 L H 0) (vec3 L H 3) k) ∧ Fit (madeR 0 (vec3 L H 0) (vec3 L H 3) k) := fun h k hk he => by
    obtain ⟨f1, f2, f3, i1, i2⟩ := all h
    exact made_in k hk he i1 f1 i2 f2 f3
  obtain ⟨S, hS⟩ : ∃ S, S = addV 0 (vec3 L H 0) (vec3 L H 3) := ⟨_, rfl⟩
  obtain ⟨G, hG⟩ : ∃ G, G = subV S.z.e S (vec3 L H 3) := ⟨_, rfl⟩
  obtain ⟨ek, hek⟩ : ∃ ek : Nat → Int, ek = fun n => match n with | 0 => 0 | 1 => S.z.e | _ => G.z.e := ⟨_, rfl⟩
  have e0 : ek 0 = 0 := by rw [hek]; rfl
  have e1 : ek 1 = S.z.e := by rw [hek]; rfl
  have e2 : ek 2 = G.z.e := by rw [hek]; rfl
  -- the sum, less the second one
  have again : (∀ j : Nat, j < 7 → ivR (L j) (H j) = true) → ek 2 = 0 → FitV G ∧ (val G.x.lo ≤ val (L 0) ∧ val (H 0) ≤ val G.x.hi) ∧ (val G.y.lo ≤ val (L 1) ∧ val (H 1) ≤ val G.y.hi) ∧ (val G.z.lo ≤ val (L 2) ∧ val (H 2) ≤ val G.z.hi) := fun h he => by
    obtain ⟨f1, f2, f3, i1, i2⟩ := all h
    rw [e2, hG] at he
    have g3 : (stS (stS (stS S.z.e S.x (vec3 L H 3).x).e S.y (vec3 L H 3).y).e S.z (vec3 L H 3).z).e = 0 := he
    have g2 := stS_e g3
    have g1 := stS_e g2
    have s3 : S.z.e = 0 := stS_e g1
    have s3' : (addV 0 (vec3 L H 0) (vec3 L H 3)).z.e = 0 := by rw [← hS]; exact s3
    have fS : FitV S := by rw [hS]; exact (addV_in s3' rfl (.refl f1) f1 (.refl f2) f2).1
    have fG : FitV G := by rw [hG]; exact (subV_in he rfl (.refl fS) fS (.refl f2) f2).1
    have t3 : (stA (stA (stA 0 (vec3 L H 0).x (vec3 L H 3).x).e (vec3 L H 0).y (vec3 L H 3).y).e (vec3 L H 0).z (vec3 L H 3).z).e = 0 := s3'
    have t2 := stA_e t3
    have t1 := stA_e t2
    rw [hS] at g1 g2 g3
    have a1 := again_in f1.x f2.x t1 g1
    have a2 := again_in f1.y f2.y t2 g2
    have a3 := again_in f1.z f2.z t3 g3
    refine ⟨fG, ?_, ?_, ?_⟩
    · rw [hG, hS]; exact a1
    · rw [hG, hS]; exact a2
    · rw [hG, hS]; exact a3
  have wS : WdV S := by rw [hS]; exact addV_wd 0 wa wb
  refine vecHolds_walk L H T (fun k => ((pn k : Nat) : Int)) (fun k => ivR (L k) (H k)) (madeV 0 (vec3 L H 0) (vec3 L H 3) (ivK L H 6)) (madeV 0 (point3 T 0) (point3 T 3) (ivK L H 6)) (madeR 0 (vec3 L H 0) (vec3 L H 3)) (madeR 0 (point3 T 0) (point3 T 3))
    (madeE 0 (vec3 L H 0) (vec3 L H 3) (ivK L H 6)) (madeE 0 (point3 T 0) (point3 T 3) (ivK L H 6)) S G ek w (Lib.hid fun k hk w => ivRight_any _ _ w (hL k hk) (hH k hk)) (Lib.hid fun _ k hk hr w => ?_)
    (Lib.hid fun k hk pb v hC => made_any k hk 0 wa wb wk pb v hC) (Lib.hid fun h k hk pb v hC => ?_) (Lib.hid fun h k hk he => (part h k hk he).1) (Lib.hid fun h k hk he w => ?_) (Lib.hid fun h k hk he w => ?_) (Lib.hid fun h k hk he w => ?_) (Lib.hid fun h k hk he w => ?_)
    (Lib.hid e0) (Lib.hid fun pb v hC => ?_) (Lib.hid fun pb v hC => ?_) (Lib.hid fun h he w => ?_) (Lib.hid fun h he w => ?_) (Lib.hid fun h he w => ?_)
  · rw [hT]; exact between_any (L k) (H k) (pn k) w (hL k (by omega)) (hH k (by omega)) (hp k hk)
  · obtain ⟨_, _, _, i1, i2⟩ := all h
    exact made_any k hk 0 i1.fit.wd i2.fit.wd wk pb v hC
  · obtain ⟨_, g1, g2, _, _⟩ := part h k hk he
    exact within_any g2.x g1.x.fit g1.x.lo g1.x.hi w
  · obtain ⟨_, g1, g2, _, _⟩ := part h k hk he
    exact within_any g2.y g1.y.fit g1.y.lo g1.y.hi w
  · obtain ⟨_, g1, g2, _, _⟩ := part h k hk he
    exact within_any g2.z g1.z.fit g1.z.lo g1.z.hi w
  · obtain ⟨_, _, _, g3, g4⟩ := part h k hk he
    exact within_any g4 g3.fit g3.lo g3.hi w
  · rw [e1, hS]
    rw [e0] at hC
    exact vadd_any 0 wa wb pb v hC
  · rw [e2, hG]
    rw [e1] at hC
    exact vsub_any S.z.e wS wb pb v hC
  · obtain ⟨fG, a, _, _⟩ := again h he
    exact within_any fG.x (fit 0 (by decide) (h 0 (by decide))) a.1 a.2 w
  · obtain ⟨fG, _, a, _⟩ := again h he
    exact within_any fG.y (fit 1 (by decide) (h 1 (by decide))) a.1 a.2 w
  · obtain ⟨fG, _, _, a⟩ := again h he
    exact within_any fG.z (fit 2 (by decide) (h 2 (by decide))) a.1 a.2 w

theorem vecHolds_any (l0 h0 l1 h1 l2 h2 l3 h3 l4 h4 l5 h5 l6 h6 p0 p1 p2 p3 p4 p5 : Nat) (w : World) (a0 : l0 < 18446744073709551616) (b0 : h0 < 18446744073709551616) (a1 : l1 < 18446744073709551616) (b1 : h1 < 18446744073709551616) (a2 : l2 < 18446744073709551616) (b2 : h2 < 18446744073709551616) (a3 : l3 < 18446744073709551616) (b3 : h3 < 18446744073709551616) (a4 : l4 < 18446744073709551616) (b4 : h4 < 18446744073709551616) (a5 : l5 < 18446744073709551616) (b5 : h5 < 18446744073709551616) (a6 : l6 < 18446744073709551616) (b6 : h6 < 18446744073709551616)
    (c0 : p0 < 65536) (c1 : p1 < 65536) (c2 : p2 < 65536) (c3 : p3 < 65536) (c4 : p4 < 65536) (c5 : p5 < 65536) :
    Calls Try.prog 11 #[.agg #[.float .f64 l0, .float .f64 h0, .float .f64 l1, .float .f64 h1, .float .f64 l2, .float .f64 h2], .agg #[.float .f64 l3, .float .f64 h3, .float .f64 l4, .float .f64 h4, .float .f64 l5, .float .f64 h5], .agg #[.float .f64 l6, .float .f64 h6],
      .agg #[.int .u16 p0, .int .u16 p1, .int .u16 p2, .int .u16 p3, .int .u16 p4, .int .u16 p5]] w fun r w' => r = .returned (.bool true) ∧ Below w.heap.size w w' :=
  vecHolds_core (LHof l0 l1 l2 l3 l4 l5 l6) (LHof h0 h1 h2 h3 h4 h5 h6) (PNof p0 p1 p2 p3 p4 p5) w (seven a0 a1 a2 a3 a4 a5 a6) (seven b0 b1 b2 b3 b4 b5 b6)
    (fun k hk => by rcases (show k = 0 ∨ k = 1 ∨ k = 2 ∨ k = 3 ∨ k = 4 ∨ k = 5 by omega) with rfl | rfl | rfl | rfl | rfl | rfl <;> assumption)

end Go.Proofs.Ytmcecchcbfhfcaa

namespace Go.Proofs.Ytmcecchcbfhfcaa
open Go.ChangeShapes Go.WideShapes Go.ChangeAt Go.RowKit Go.Joins

theorem Try.own : ownKnob Try.prog.godebug = none := by kernel_rfl
theorem Try.cellsIv : Try.prog.cellsOf 39 = 2 := by kernel_rfl

theorem trod_float {H : Type} {enc : TypeId × Value → H} {P : Program} {w : World} {base : Nat} {spare : Nat → Bool} {held : Bool} {fuel : Nat} {t : TypeId} {k : FloatKind} {v : Value} {x : DataW H × List MemPlace} (ht : P.underlying t = some (.float k)) (h : DataW.trod enc P w base spare held fuel t [v] = some x) :
    ∃ n, v = .float k n ∧ x = (.lit (.float k n), []) ∧ (Lit.float k n).wf = true := by
  cases fuel with
  | zero => simp [DataW.trod] at h
  | succ n =>
    unfold DataW.trod at h
    rw [ht] at h
    split at h <;> simp_all

set_option maxRecDepth 100000 in
theorem open_iv {H : Type} {enc : TypeId × Value → H} {W : World} {base : Nat} {spare : Nat → Bool} {held : Bool} {r : Reach} {b0 : Nat} {v : Value} {d : DataW H} {p : List MemPlace} (hv : Value.okWide Try.prog W r b0 39 v) (h : DataW.Trod enc Try.prog W base spare held 39 v d p) :
    ∃ lo hi, v = .agg #[.float .f64 lo, .float .f64 hi] ∧ d = .agg [.lit (.float .f64 lo), .lit (.float .f64 hi)] ∧ p = [] ∧ (Lit.float .f64 lo).wf = true ∧ (Lit.float .f64 hi).wf = true := by
  obtain ⟨c0, c1, y0, y1, m, rfl, rfl, rfl, hy0, hy1⟩ := open_agg2 Try.underlying39 (by kernel_rfl) Try.cellsIv hv h
  obtain ⟨lo, rfl, rfl, w0⟩ := trod_float Try.underlying22 hy0
  obtain ⟨hi, rfl, rfl, w1⟩ := trod_float Try.underlying22 hy1
  exact ⟨lo, hi, rfl, rfl, rfl, w0, w1⟩

set_option maxRecDepth 100000 in
theorem shut_iv {H : Type} {enc : TypeId × Value → H} {W : World} {base : Nat} {spare : Nat → Bool} {held : Bool} {lo hi : Nat} (w0 : (Lit.float .f64 lo).wf = true) (w1 : (Lit.float .f64 hi).wf = true) :
    DataW.Trod enc Try.prog W base spare held 39 (.agg #[.float .f64 lo, .float .f64 hi]) (.agg [.lit (.float .f64 lo), .lit (.float .f64 hi)]) [] :=
  shut_agg2 (y0 := (.lit (.float .f64 lo), [])) (y1 := (.lit (.float .f64 hi), [])) Try.underlying39 (by kernel_rfl) Try.cellsIv ⟨1, by simp [DataW.trod, Try.underlying22, w0]⟩ ⟨1, by simp [DataW.trod, Try.underlying22, w1]⟩

end Go.Proofs.Ytmcecchcbfhfcaa

namespace Go.Proofs.Ytmcecchcbfhfcaa
open Go.ChangeShapes Go.WideShapes Go.ChangeAt Go.RowKit Go.Joins Go.Deep

theorem Try.cellsVec : Try.prog.cellsOf 60 = 6 := by kernel_rfl
theorem Try.cellsSix : Try.prog.cellsOf 80 = 6 := by kernel_rfl
theorem Try.cellsU16 : Try.prog.cellsOf 53 = 1 := by kernel_rfl

theorem array6 {α : Type} {cs : Array α} (h : cs.size = 6) : ∃ c0 c1 c2 c3 c4 c5, cs = #[c0, c1, c2, c3, c4, c5] := by
  obtain ⟨l⟩ := cs
  match l, h with
  | [c0, c1, c2, c3, c4, c5], _ => exact ⟨c0, c1, c2, c3, c4, c5, rfl⟩

/-- The two cells of an interval. -/
theorem trod_iv2 {H : Type} {enc : TypeId × Value → H} {w : World} {base : Nat} {spare : Nat → Bool} {held : Bool} {fuel : Nat} {v0 v1 : Value} {x : DataW H × List MemPlace} (h : DataW.trod enc Try.prog w base spare held fuel 39 [v0, v1] = some x) :
    ∃ lo hi, v0 = .float .f64 lo ∧ v1 = .float .f64 hi ∧ x = (.agg [.lit (.float .f64 lo), .lit (.float .f64 hi)], []) ∧ (Lit.float .f64 lo).wf = true ∧ (Lit.float .f64 hi).wf = true := by
  obtain ⟨y0, y1, n, hx, _, h0, h1⟩ := trod_struct2 Try.underlying39 h
  have k : Try.prog.cellsOf 22 = 1 := by kernel_rfl
  have h0' : DataW.trod enc Try.prog w base spare held n 22 [v0] = some y0 := by rw [k] at h0; exact h0
  have h1' : DataW.trod enc Try.prog w base spare held n 22 [v1] = some y1 := by rw [k] at h1; exact h1
  obtain ⟨lo, rfl, rfl, w0⟩ := trod_float Try.underlying22 h0'
  obtain ⟨hi, rfl, rfl, w1⟩ := trod_float Try.underlying22 h1'
  exact ⟨lo, hi, rfl, rfl, hx, w0, w1⟩

set_option maxRecDepth 100000 in
theorem open_vec {H : Type} {enc : TypeId × Value → H} {W : World} {base : Nat} {spare : Nat → Bool} {held : Bool} {r : Reach} {b0 : Nat} {v : Value} {d : DataW H} {p : List MemPlace} (hv : Value.okWide Try.prog W r b0 60 v) (h : DataW.Trod enc Try.prog W base spare held 60 v d p) :
    ∃ a b c e f g, v = .agg #[.float .f64 a, .float .f64 b, .float .f64 c, .float .f64 e, .float .f64 f, .float .f64 g] ∧
      d = .agg [.agg [.lit (.float .f64 a), .lit (.float .f64 b)], .agg [.lit (.float .f64 c), .lit (.float .f64 e)], .agg [.lit (.float .f64 f), .lit (.float .f64 g)]] ∧ p = [] ∧
      (Lit.float .f64 a).wf = true ∧ (Lit.float .f64 b).wf = true ∧ (Lit.float .f64 c).wf = true ∧ (Lit.float .f64 e).wf = true ∧ (Lit.float .f64 f).wf = true ∧ (Lit.float .f64 g).wf = true := by
  obtain ⟨cs, rfl, hsz⟩ := okWide_struct Try.underlying60 hv
  obtain ⟨c0, c1, c2, c3, c4, c5, rfl⟩ := array6 (hsz.trans Try.cellsVec)
  obtain ⟨fuel, hf⟩ := h
  have hf' : DataW.trod enc Try.prog W base spare held fuel 60 [c0, c1, c2, c3, c4, c5] = some (d, p) := hf
  obtain ⟨y0, y1, y2, n, hx, _, h0, h1, h2⟩ := trod_struct3 Try.underlying60 hf'
  have h0' : DataW.trod enc Try.prog W base spare held n 39 [c0, c1] = some y0 := by rw [Try.cellsIv] at h0; exact h0
  have h1' : DataW.trod enc Try.prog W base spare held n 39 [c2, c3] = some y1 := by rw [Try.cellsIv] at h1; exact h1
  have h2' : DataW.trod enc Try.prog W base spare held n 39 [c4, c5] = some y2 := by rw [Try.cellsIv] at h2; exact h2
  obtain ⟨a, b, rfl, rfl, rfl, w0, w1⟩ := trod_iv2 h0'
  obtain ⟨c, e, rfl, rfl, rfl, w2, w3⟩ := trod_iv2 h1'
  obtain ⟨f, g, rfl, rfl, rfl, w4, w5⟩ := trod_iv2 h2'
  simp only [Prod.mk.injEq] at hx
  exact ⟨a, b, c, e, f, g, rfl, hx.1, hx.2, w0, w1, w2, w3, w4, w5⟩

theorem trod_float_one {H : Type} {enc : TypeId × Value → H} {P : Program} {w : World} {base : Nat} {spare : Nat → Bool} {held : Bool} {t : TypeId} {k : FloatKind} {n : Nat} (m : Nat) (ht : P.underlying t = some (.float k)) (hw : (Lit.float k n).wf = true) : DataW.trod enc P w base spare held (m + 1) t [.float k n] = some (.lit (.float k n), []) := by
  simp [DataW.trod, ht, hw]

set_option maxRecDepth 100000 in
theorem trod_iv2_mk {H : Type} {enc : TypeId × Value → H} {w : World} {base : Nat} {spare : Nat → Bool} {held : Bool} {lo hi : Nat} (w0 : (Lit.float .f64 lo).wf = true) (w1 : (Lit.float .f64 hi).wf = true) :
    DataW.trod enc Try.prog w base spare held 2 39 [.float .f64 lo, .float .f64 hi] = some (.agg [.lit (.float .f64 lo), .lit (.float .f64 hi)], []) := by
  have k : Try.prog.cellsOf 22 = 1 := by kernel_rfl
  have h0 : DataW.trod enc Try.prog w base spare held 1 22 (([.float .f64 lo, .float .f64 hi].drop 0).take (Try.prog.cellsOf 22)) = some (.lit (.float .f64 lo), []) := by rw [k]; exact trod_float_one 0 Try.underlying22 w0
  have h1 : DataW.trod enc Try.prog w base spare held 1 22 (([.float .f64 lo, .float .f64 hi].drop 1).take (Try.prog.cellsOf 22)) = some (.lit (.float .f64 hi), []) := by rw [k]; exact trod_float_one 0 Try.underlying22 w1
  exact trod_struct2_mk Try.underlying39 (by rw [Try.cellsIv]; rfl) h0 h1

set_option maxRecDepth 100000 in
theorem shut_vec {H : Type} {enc : TypeId × Value → H} {W : World} {base : Nat} {spare : Nat → Bool} {held : Bool} {a b c e f g : Nat} (w0 : (Lit.float .f64 a).wf = true) (w1 : (Lit.float .f64 b).wf = true) (w2 : (Lit.float .f64 c).wf = true) (w3 : (Lit.float .f64 e).wf = true) (w4 : (Lit.float .f64 f).wf = true) (w5 : (Lit.float .f64 g).wf = true) :
    DataW.Trod enc Try.prog W base spare held 60 (.agg #[.float .f64 a, .float .f64 b, .float .f64 c, .float .f64 e, .float .f64 f, .float .f64 g]) (.agg [.agg [.lit (.float .f64 a), .lit (.float .f64 b)], .agg [.lit (.float .f64 c), .lit (.float .f64 e)], .agg [.lit (.float .f64 f), .lit (.float .f64 g)]]) [] := by
  have h0 : DataW.trod enc Try.prog W base spare held 2 39 (([.float .f64 a, .float .f64 b, .float .f64 c, .float .f64 e, .float .f64 f, .float .f64 g].drop 0).take (Try.prog.cellsOf 39)) = some (.agg [.lit (.float .f64 a), .lit (.float .f64 b)], []) := by rw [Try.cellsIv]; exact trod_iv2_mk w0 w1
  have h1 : DataW.trod enc Try.prog W base spare held 2 39 (([.float .f64 a, .float .f64 b, .float .f64 c, .float .f64 e, .float .f64 f, .float .f64 g].drop 2).take (Try.prog.cellsOf 39)) = some (.agg [.lit (.float .f64 c), .lit (.float .f64 e)], []) := by rw [Try.cellsIv]; exact trod_iv2_mk w2 w3
  have h2 : DataW.trod enc Try.prog W base spare held 2 39 (([.float .f64 a, .float .f64 b, .float .f64 c, .float .f64 e, .float .f64 f, .float .f64 g].drop 4).take (Try.prog.cellsOf 39)) = some (.agg [.lit (.float .f64 f), .lit (.float .f64 g)], []) := by rw [Try.cellsIv]; exact trod_iv2_mk w4 w5
  exact ⟨3, trod_struct3_mk Try.underlying60 (by rw [Try.cellsVec]; rfl) h0 h1 h2⟩

set_option maxRecDepth 100000 in
theorem open_six {H : Type} {enc : TypeId × Value → H} {W : World} {base : Nat} {spare : Nat → Bool} {held : Bool} {r : Reach} {b0 : Nat} {v : Value} {d : DataW H} {p : List MemPlace} (hv : Value.okWide Try.prog W r b0 80 v) (h : DataW.Trod enc Try.prog W base spare held 80 v d p) :
    ∃ a b c e f g : Int, v = .agg #[.int .u16 a, .int .u16 b, .int .u16 c, .int .u16 e, .int .u16 f, .int .u16 g] ∧
      d = .agg [.lit (.int .u16 a), .lit (.int .u16 b), .lit (.int .u16 c), .lit (.int .u16 e), .lit (.int .u16 f), .lit (.int .u16 g)] ∧ p = [] ∧
      (Lit.int .u16 a).wf = true ∧ (Lit.int .u16 b).wf = true ∧ (Lit.int .u16 c).wf = true ∧ (Lit.int .u16 e).wf = true ∧ (Lit.int .u16 f).wf = true ∧ (Lit.int .u16 g).wf = true := by
  obtain ⟨cs, rfl, hsz, _⟩ : ∃ cs, v = .agg cs ∧ cs.size = Try.prog.cellsOf 80 ∧ Row.okWide Try.prog W r b0 80 cs := by
    simpa [Value.okWide, Try.underlying80] using hv
  obtain ⟨c0, c1, c2, c3, c4, c5, rfl⟩ := array6 (hsz.trans Try.cellsSix)
  obtain ⟨fuel, hf⟩ := h
  have hf' : DataW.trod enc Try.prog W base spare held fuel 80 [c0, c1, c2, c3, c4, c5] = some (d, p) := hf
  obtain ⟨xs, m, rfl, hx, _, hl, hel⟩ := DataW.trod_array Try.underlying80 hf'
  match xs, hl with
  | [y0, y1, y2, y3, y4, y5], _ =>
    have g0 := hel 0 (by decide)
    have g1 := hel 1 (by decide)
    have g2 := hel 2 (by decide)
    have g3 := hel 3 (by decide)
    have g4 := hel 4 (by decide)
    have g5 := hel 5 (by decide)
    rw [Try.cellsU16] at g0 g1 g2 g3 g4 g5
    obtain ⟨x0, e0, rfl, w0⟩ := DataW.trod_int Try.underlying53 g0
    obtain ⟨x1, e1, rfl, w1⟩ := DataW.trod_int Try.underlying53 g1
    obtain ⟨x2, e2, rfl, w2⟩ := DataW.trod_int Try.underlying53 g2
    obtain ⟨x3, e3, rfl, w3⟩ := DataW.trod_int Try.underlying53 g3
    obtain ⟨x4, e4, rfl, w4⟩ := DataW.trod_int Try.underlying53 g4
    obtain ⟨x5, e5, rfl, w5⟩ := DataW.trod_int Try.underlying53 g5
    simp at e0 e1 e2 e3 e4 e5
    subst e0 e1 e2 e3 e4 e5
    simp only [Prod.mk.injEq] at hx
    exact ⟨x0, x1, x2, x3, x4, x5, rfl, hx.1, hx.2, w0, w1, w2, w3, w4, w5⟩

set_option maxRecDepth 100000 in
theorem shut_six {H : Type} {enc : TypeId × Value → H} {W : World} {base : Nat} {spare : Nat → Bool} {held : Bool} {a b c e f g : Int} (w0 : (Lit.int .u16 a).wf = true) (w1 : (Lit.int .u16 b).wf = true) (w2 : (Lit.int .u16 c).wf = true) (w3 : (Lit.int .u16 e).wf = true) (w4 : (Lit.int .u16 f).wf = true) (w5 : (Lit.int .u16 g).wf = true) :
    DataW.Trod enc Try.prog W base spare held 80 (.agg #[.int .u16 a, .int .u16 b, .int .u16 c, .int .u16 e, .int .u16 f, .int .u16 g]) (.agg [.lit (.int .u16 a), .lit (.int .u16 b), .lit (.int .u16 c), .lit (.int .u16 e), .lit (.int .u16 f), .lit (.int .u16 g)]) [] :=
  ⟨2, by simp [DataW.trod, Value.cells, Try.underlying80, Try.underlying53, Try.cellsSix, Try.cellsU16, w0, w1, w2, w3, w4, w5, show List.range 6 = [0, 1, 2, 3, 4, 5] from rfl]⟩

end Go.Proofs.Ytmcecchcbfhfcaa

namespace Go.Proofs.Ytmcecchcbfhfcaa
open Go.ChangeShapes Go.WideShapes Go.ChangeAt Go.RowKit

theorem u16_nat {y : Int} (wf : (Lit.int .u16 y).wf = true) : ∃ x : Nat, y = (x : Int) ∧ x < 65536 := by
  have h := wf
  simp [Lit.wf] at h
  have e1 : IntKind.u16.min = 0 := by decide
  have e2 : IntKind.u16.max = 65535 := by decide
  obtain ⟨x, rfl⟩ := Int.eq_ofNat_of_zero_le (by omega : 0 ≤ y)
  exact ⟨x, rfl, by omega⟩

set_option maxRecDepth 100000 in
theorem vecHolds_lifted (os : Os) (started : os.Started) (H : Type) (enc : TypeId × Value → H) :
    ReturnsInHanded {} Try.checked os 11 .any (Rows.vecHoldsSpec.pre6 enc Try.prog Try.f11 Rows.vecHoldsRow.domain false) (Rows.vecHoldsSpec.post enc Try.prog Try.f11 false true false false) := by
  refine returnsInHanded_of_change (C := Try.checked) Try.own started (by kernel_rfl) Try.func11
    (ChangeSpec.witness6 (enc := enc) (C := Try.checked) false ⟨#[], #[.agg #[.float .f64 0, .float .f64 0, .float .f64 0, .float .f64 0, .float .f64 0, .float .f64 0], .agg #[.float .f64 0, .float .f64 0, .float .f64 0, .float .f64 0, .float .f64 0, .float .f64 0], .agg #[.float .f64 0, .float .f64 0], .agg #[.int .u16 0, .int .u16 0, .int .u16 0, .int .u16 0, .int .u16 0, .int .u16 0]], []⟩ 8 (by kernel_rfl) (by kernel_rfl) (by kernel_rfl) (by kernel_rfl)) ?_
  intro W base args ds gs before hval0 hW hcnd _
  have hval : ∀ (j : Nat) t v, Try.f11.params[j]? = some t → args[j]? = some v → Value.okWide Try.prog W .any base t v := hval0
  have hW' := hW
  obtain ⟨p, q, hA0, hV, rfl, hfz, hnd⟩ := hW
  have hA : DataW.TrodAll enc Try.prog W 0 (fun _ => true) true Try.f11.params.toList args.toList ds p := hA0
  rw [Try.params11] at hA hval
  obtain ⟨v0, v1, v2, v3, d0, d1, d2, d3, p0, p1, p2, p3, rfl, rfl, rfl, h0, h1, h2, h3⟩ := trodAll_four hA
  obtain ⟨rfl, rfl⟩ := trodVars_none hV
  obtain ⟨l0, u0, l1, u1, l2, u2, rfl, rfl, rfl, w0, w1, w2, w3, w4, w5⟩ := open_vec (hval 0 60 v0 rfl rfl) h0
  obtain ⟨l3, u3, l4, u4, l5, u5, rfl, rfl, rfl, w6, w7, w8, w9, w10, w11⟩ := open_vec (hval 1 60 v1 rfl rfl) h1
  obtain ⟨l6, u6, rfl, rfl, rfl, w12, w13⟩ := open_iv (hval 2 39 v2 rfl rfl) h2
  obtain ⟨y0, y1, y2, y3, y4, y5, rfl, rfl, rfl, z0, z1, z2, z3, z4, z5⟩ := open_six (hval 3 80 v3 rfl rfl) h3
  clear hA0 hval0
  simp only [List.append_nil] at hW'
  obtain ⟨x0, rfl, c0⟩ := u16_nat z0
  obtain ⟨x1, rfl, c1⟩ := u16_nat z1
  obtain ⟨x2, rfl, c2⟩ := u16_nat z2
  obtain ⟨x3, rfl, c3⟩ := u16_nat z3
  obtain ⟨x4, rfl, c4⟩ := u16_nat z4
  obtain ⟨x5, rfl, c5⟩ := u16_nat z5
  have lt : ∀ {x : Nat}, (Lit.float .f64 x).wf = true → x < 18446744073709551616 := fun h => by simpa [Lit.wf] using h
  refine (vecHolds_any l0 u0 l1 u1 l2 u2 l3 u3 l4 u4 l5 u5 l6 u6 x0 x1 x2 x3 x4 x5 W (lt w0) (lt w1) (lt w2) (lt w3) (lt w4) (lt w5) (lt w6) (lt w7) (lt w8) (lt w9) (lt w10) (lt w11) (lt w12) (lt w13) c0 c1 c2 c3 c4 c5).mono fun e W' ⟨he, hw⟩ => ?_
  subst he
  refine ⟨_, rfl, _, _, _, [], [], [], hW', trodAll_mk1 (shut_bool Try.underlying4 _), trodAll_mk4 (shut_vec w0 w1 w2 w3 w4 w5) (shut_vec w6 w7 w8 w9 w10 w11) (shut_iv w12 w13) (shut_six z0 z1 z2 z3 z4 z5), rfl, hw.frame _, fun h => by cases h⟩

theorem vecHolds_holds : Rows.VecHoldsSaid :=
  OpenClaim.holds_of_wide 11 Try.f11 rfl rfl rfl rfl rfl rfl rfl ⟨rfl, rfl, rfl, rfl, rfl⟩ rfl rfl rfl rfl rfl (by kernel_rfl) Try.func11 (by kernel_rfl)
    (of_decide_eq_true (by kernel_rfl)) (by unfold Func.isWrapper; first | (rw [if_pos (by decide +kernel)]; kernel_rfl) | (rw [if_neg (by decide +kernel)]; exact ⟨rfl, rfl⟩))
    (fun os started H enc _ => vecHolds_lifted os started H enc)

end Go.Proofs.Ytmcecchcbfhfcaa
