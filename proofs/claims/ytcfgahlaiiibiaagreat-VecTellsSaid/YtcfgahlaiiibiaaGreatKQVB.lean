/- VecTells: the law's walk. -/
import Derived.Test.YtcfgahlaiiibiaaGreatKQVA
import Derived.Test.YtcfgahlaiiibiaaGreatKQRcZ
import Derived.Deep.RegionHeld3
namespace Go.Proofs.YtcfgahlaiiibiaaGreat
open Go.RowKit
attribute [local go_sem] run_store_float

section
variable {B v : World} {pb : Nat} {e : Int} {l : List (Nat × Array Value)}
theorem EnvE.set62 (h : EnvE B pb e l v) {q r : Nat} {z0 z1 z2 z3 z4 z5 u0 u1 : Value} (hx : Has1 v (q, #[z0, z1, z2, z3, z4, z5])) (hr : Has1 v (r, #[u0, u1])) (nq : pb ≠ q) (nr : pb ≠ r) (qr : q ≠ r) (hq : B.heap.size ≤ q) (hr' : B.heap.size ≤ r) (y0 y1 y2 y3 y4 y5 x0 x1 : Value) :
    EnvE B pb e [(q, #[y0, y1, y2, y3, y4, y5]), (r, #[x0, x1])] ((((((((v.setCell ⟨q, 0, none⟩ y0).setCell ⟨q, 1, none⟩ y1).setCell ⟨q, 2, none⟩ y2).setCell ⟨q, 3, none⟩ y3).setCell ⟨q, 4, none⟩ y4).setCell ⟨q, 5, none⟩ y5).setCell ⟨r, 0, none⟩ x0).setCell ⟨r, 1, none⟩ x1) := by
  have h6 := h.set6 hx nq hq y0 y1 y2 y3 y4 y5
  have hr6 : Has1 ((((((v.setCell ⟨q, 0, none⟩ y0).setCell ⟨q, 1, none⟩ y1).setCell ⟨q, 2, none⟩ y2).setCell ⟨q, 3, none⟩ y3).setCell ⟨q, 4, none⟩ y4).setCell ⟨q, 5, none⟩ y5) (r, #[u0, u1]) := (((((hr.set qr).set qr).set qr).set qr).set qr).set qr
  have h2 := h6.set2 hr6 nr hr' x0 x1
  exact h2.add (((h6.nth 0 rfl).set (Ne.symm qr)).set (Ne.symm qr)) nq
end

set_option maxRecDepth 100000 in
set_option maxHeartbeats 4000000 in
theorem made_0 (a1 a2 a3 a4 a5 a6 b1 b2 b3 b4 b5 b6 kl kh r1 r2 r3 r4 r5 r6 : Nat) (e e1 : Int) (pb : Nat) (w : World) (hC : Has1 w (pb, #[.int .i64 e]))
    (cF : Hid (∀ v : World, Has1 v (pb, #[.int .i64 e]) → Calls Tryz.prog 48 #[.pointer (some ⟨pb, 0, none⟩), .agg #[.float .f64 a1, .float .f64 a2, .float .f64 a3, .float .f64 a4, .float .f64 a5, .float .f64 a6], .agg #[.float .f64 b1, .float .f64 b2, .float .f64 b3, .float .f64 b4, .float .f64 b5, .float .f64 b6]] v fun r w' => r = .returned (.agg #[.float .f64 r1, .float .f64 r2, .float .f64 r3, .float .f64 r4, .float .f64 r5, .float .f64 r6]) ∧ Put ⟨pb, 0, none⟩ (.int .i64 e1) v w')) :
    Calls Tryz.prog 13 #[.int .i64 0, .pointer (some ⟨pb, 0, none⟩), .agg #[.float .f64 a1, .float .f64 a2, .float .f64 a3, .float .f64 a4, .float .f64 a5, .float .f64 a6], .agg #[.float .f64 b1, .float .f64 b2, .float .f64 b3, .float .f64 b4, .float .f64 b5, .float .f64 b6], .agg #[.float .f64 kl, .float .f64 kh]] w fun r w' => r = .returned (.tuple #[.agg #[.float .f64 r1, .float .f64 r2, .float .f64 r3, .float .f64 r4, .float .f64 r5, .float .f64 r6], .agg #[.float .f64 0, .float .f64 0]]) ∧ Put ⟨pb, 0, none⟩ (.int .i64 e1) w w' := by
  have E := Lib.hid (((((EnvE.start hC).made #[.float .f64 a1, .float .f64 a2, .float .f64 a3, .float .f64 a4, .float .f64 a5, .float .f64 a6] 34).made #[.float .f64 b1, .float .f64 b2, .float .f64 b3, .float .f64 b4, .float .f64 b5, .float .f64 b6] 34).made #[.float .f64 kl, .float .f64 kh] 24).made #[.float .f64 0, .float .f64 0, .float .f64 0, .float .f64 0, .float .f64 0, .float .f64 0] 34)
  have E := Lib.hid (E.out.made #[.float .f64 0, .float .f64 0] 24)
  simp only [World.size_alloc] at E
  have lp : pb < w.heap.size := hC.1
  obtain ⟨k1, k2, k3, k4, k5, k6⟩ := (E.out.nth 4 rfl).six
  obtain ⟨k7, k8, k9, k10, k11, k12⟩ := (E.out.nth 3 rfl).six
  obtain ⟨k13, k14⟩ := (E.out.nth 2 rfl).two
  clear hC
  go_enter Tryz.func13, Tryz.ntmps13
  go_wp2_with fail
  refine (cF.out _ E.out.cal).mono ?_
  rintro r w1 ⟨rfl, hp⟩
  have E1 := Lib.hid (E.out.putc hp)
  clear E hp k1 k2 k3 k4 k5 k6 k7 k8 k9 k10 k11 k12 k13 k14
  have kc := (E1.out.nth 1 rfl).2.1
  have kf := (E1.out.nth 1 rfl).2.2
  have kd := (E1.out.nth 0 rfl).2.1
  have kg := (E1.out.nth 0 rfl).2.2
  have F := Lib.hid (E1.out.set62 (E1.out.nth 1 rfl) (E1.out.nth 0 rfl) (E1.out.ne 1 rfl) (E1.out.ne 0 rfl) (by omega) (by omega) (by omega) (.float .f64 r1) (.float .f64 r2) (.float .f64 r3) (.float .f64 r4) (.float .f64 r5) (.float .f64 r6) (.float .f64 0) (.float .f64 0))
  go_wp2
  obtain ⟨f1, f2, f3, f4, f5, f6⟩ := (F.out.nth 0 rfl).six
  obtain ⟨f7, f8⟩ := (F.out.nth 1 rfl).two
  exact bodyPost_ret (v := .tuple #[.agg #[.float .f64 r1, .float .f64 r2, .float .f64 r3, .float .f64 r4, .float .f64 r5, .float .f64 r6], .agg #[.float .f64 0, .float .f64 0]]) (by simp [results, Tryz.results13, go_sem, f1, f2, f3, f4, f5, f6, f7, f8]) rfl ⟨rfl, F.out.put⟩

set_option maxRecDepth 100000 in
set_option maxHeartbeats 4000000 in
theorem made_1 (a1 a2 a3 a4 a5 a6 b1 b2 b3 b4 b5 b6 kl kh r1 r2 r3 r4 r5 r6 : Nat) (e e1 : Int) (pb : Nat) (w : World) (hC : Has1 w (pb, #[.int .i64 e]))
    (cF : Hid (∀ v : World, Has1 v (pb, #[.int .i64 e]) → Calls Tryz.prog 49 #[.pointer (some ⟨pb, 0, none⟩), .agg #[.float .f64 a1, .float .f64 a2, .float .f64 a3, .float .f64 a4, .float .f64 a5, .float .f64 a6], .agg #[.float .f64 b1, .float .f64 b2, .float .f64 b3, .float .f64 b4, .float .f64 b5, .float .f64 b6]] v fun r w' => r = .returned (.agg #[.float .f64 r1, .float .f64 r2, .float .f64 r3, .float .f64 r4, .float .f64 r5, .float .f64 r6]) ∧ Put ⟨pb, 0, none⟩ (.int .i64 e1) v w')) :
    Calls Tryz.prog 13 #[.int .i64 1, .pointer (some ⟨pb, 0, none⟩), .agg #[.float .f64 a1, .float .f64 a2, .float .f64 a3, .float .f64 a4, .float .f64 a5, .float .f64 a6], .agg #[.float .f64 b1, .float .f64 b2, .float .f64 b3, .float .f64 b4, .float .f64 b5, .float .f64 b6], .agg #[.float .f64 kl, .float .f64 kh]] w fun r w' => r = .returned (.tuple #[.agg #[.float .f64 r1, .float .f64 r2, .float .f64 r3, .float .f64 r4, .float .f64 r5, .float .f64 r6], .agg #[.float .f64 0, .float .f64 0]]) ∧ Put ⟨pb, 0, none⟩ (.int .i64 e1) w w' := by
  have E := Lib.hid (((((EnvE.start hC).made #[.float .f64 a1, .float .f64 a2, .float .f64 a3, .float .f64 a4, .float .f64 a5, .float .f64 a6] 34).made #[.float .f64 b1, .float .f64 b2, .float .f64 b3, .float .f64 b4, .float .f64 b5, .float .f64 b6] 34).made #[.float .f64 kl, .float .f64 kh] 24).made #[.float .f64 0, .float .f64 0, .float .f64 0, .float .f64 0, .float .f64 0, .float .f64 0] 34)
  have E := Lib.hid (E.out.made #[.float .f64 0, .float .f64 0] 24)
  simp only [World.size_alloc] at E
  have lp : pb < w.heap.size := hC.1
  obtain ⟨k1, k2, k3, k4, k5, k6⟩ := (E.out.nth 4 rfl).six
  obtain ⟨k7, k8, k9, k10, k11, k12⟩ := (E.out.nth 3 rfl).six
  obtain ⟨k13, k14⟩ := (E.out.nth 2 rfl).two
  clear hC
  go_enter Tryz.func13, Tryz.ntmps13
  go_wp2_with fail
  refine (cF.out _ E.out.cal).mono ?_
  rintro r w1 ⟨rfl, hp⟩
  have E1 := Lib.hid (E.out.putc hp)
  clear E hp k1 k2 k3 k4 k5 k6 k7 k8 k9 k10 k11 k12 k13 k14
  have kc := (E1.out.nth 1 rfl).2.1
  have kf := (E1.out.nth 1 rfl).2.2
  have kd := (E1.out.nth 0 rfl).2.1
  have kg := (E1.out.nth 0 rfl).2.2
  have F := Lib.hid (E1.out.set62 (E1.out.nth 1 rfl) (E1.out.nth 0 rfl) (E1.out.ne 1 rfl) (E1.out.ne 0 rfl) (by omega) (by omega) (by omega) (.float .f64 r1) (.float .f64 r2) (.float .f64 r3) (.float .f64 r4) (.float .f64 r5) (.float .f64 r6) (.float .f64 0) (.float .f64 0))
  go_wp2
  obtain ⟨f1, f2, f3, f4, f5, f6⟩ := (F.out.nth 0 rfl).six
  obtain ⟨f7, f8⟩ := (F.out.nth 1 rfl).two
  exact bodyPost_ret (v := .tuple #[.agg #[.float .f64 r1, .float .f64 r2, .float .f64 r3, .float .f64 r4, .float .f64 r5, .float .f64 r6], .agg #[.float .f64 0, .float .f64 0]]) (by simp [results, Tryz.results13, go_sem, f1, f2, f3, f4, f5, f6, f7, f8]) rfl ⟨rfl, F.out.put⟩

set_option maxRecDepth 100000 in
set_option maxHeartbeats 4000000 in
theorem made_2 (a1 a2 a3 a4 a5 a6 b1 b2 b3 b4 b5 b6 kl kh r1 r2 r3 r4 r5 r6 : Nat) (e e1 : Int) (pb : Nat) (w : World) (hC : Has1 w (pb, #[.int .i64 e]))
    (cF : Hid (∀ v : World, Has1 v (pb, #[.int .i64 e]) → Calls Tryz.prog 50 #[.pointer (some ⟨pb, 0, none⟩), .agg #[.float .f64 a1, .float .f64 a2, .float .f64 a3, .float .f64 a4, .float .f64 a5, .float .f64 a6]] v fun r w' => r = .returned (.agg #[.float .f64 r1, .float .f64 r2, .float .f64 r3, .float .f64 r4, .float .f64 r5, .float .f64 r6]) ∧ Put ⟨pb, 0, none⟩ (.int .i64 e1) v w')) :
    Calls Tryz.prog 13 #[.int .i64 2, .pointer (some ⟨pb, 0, none⟩), .agg #[.float .f64 a1, .float .f64 a2, .float .f64 a3, .float .f64 a4, .float .f64 a5, .float .f64 a6], .agg #[.float .f64 b1, .float .f64 b2, .float .f64 b3, .float .f64 b4, .float .f64 b5, .float .f64 b6], .agg #[.float .f64 kl, .float .f64 kh]] w fun r w' => r = .returned (.tuple #[.agg #[.float .f64 r1, .float .f64 r2, .float .f64 r3, .float .f64 r4, .float .f64 r5, .float .f64 r6], .agg #[.float .f64 0, .float .f64 0]]) ∧ Put ⟨pb, 0, none⟩ (.int .i64 e1) w w' := by
  have E := Lib.hid (((((EnvE.start hC).made #[.float .f64 a1, .float .f64 a2, .float .f64 a3, .float .f64 a4, .float .f64 a5, .float .f64 a6] 34).made #[.float .f64 b1, .float .f64 b2, .float .f64 b3, .float .f64 b4, .float .f64 b5, .float .f64 b6] 34).made #[.float .f64 kl, .float .f64 kh] 24).made #[.float .f64 0, .float .f64 0, .float .f64 0, .float .f64 0, .float .f64 0, .float .f64 0] 34)
  have E := Lib.hid (E.out.made #[.float .f64 0, .float .f64 0] 24)
  simp only [World.size_alloc] at E
  have lp : pb < w.heap.size := hC.1
  obtain ⟨k1, k2, k3, k4, k5, k6⟩ := (E.out.nth 4 rfl).six
  obtain ⟨k7, k8, k9, k10, k11, k12⟩ := (E.out.nth 3 rfl).six
  obtain ⟨k13, k14⟩ := (E.out.nth 2 rfl).two
  clear hC
  go_enter Tryz.func13, Tryz.ntmps13
  go_wp2_with fail
  refine (cF.out _ E.out.cal).mono ?_
  rintro r w1 ⟨rfl, hp⟩
  have E1 := Lib.hid (E.out.putc hp)
  clear E hp k1 k2 k3 k4 k5 k6 k7 k8 k9 k10 k11 k12 k13 k14
  have kc := (E1.out.nth 1 rfl).2.1
  have kf := (E1.out.nth 1 rfl).2.2
  have kd := (E1.out.nth 0 rfl).2.1
  have kg := (E1.out.nth 0 rfl).2.2
  have F := Lib.hid (E1.out.set62 (E1.out.nth 1 rfl) (E1.out.nth 0 rfl) (E1.out.ne 1 rfl) (E1.out.ne 0 rfl) (by omega) (by omega) (by omega) (.float .f64 r1) (.float .f64 r2) (.float .f64 r3) (.float .f64 r4) (.float .f64 r5) (.float .f64 r6) (.float .f64 0) (.float .f64 0))
  go_wp2
  obtain ⟨f1, f2, f3, f4, f5, f6⟩ := (F.out.nth 0 rfl).six
  obtain ⟨f7, f8⟩ := (F.out.nth 1 rfl).two
  exact bodyPost_ret (v := .tuple #[.agg #[.float .f64 r1, .float .f64 r2, .float .f64 r3, .float .f64 r4, .float .f64 r5, .float .f64 r6], .agg #[.float .f64 0, .float .f64 0]]) (by simp [results, Tryz.results13, go_sem, f1, f2, f3, f4, f5, f6, f7, f8]) rfl ⟨rfl, F.out.put⟩

set_option maxRecDepth 100000 in
set_option maxHeartbeats 4000000 in
theorem made_3 (a1 a2 a3 a4 a5 a6 b1 b2 b3 b4 b5 b6 kl kh r1 r2 r3 r4 r5 r6 : Nat) (e e1 : Int) (pb : Nat) (w : World) (hC : Has1 w (pb, #[.int .i64 e]))
    (cF : Hid (∀ v : World, Has1 v (pb, #[.int .i64 e]) → Calls Tryz.prog 51 #[.pointer (some ⟨pb, 0, none⟩), .agg #[.float .f64 kl, .float .f64 kh], .agg #[.float .f64 a1, .float .f64 a2, .float .f64 a3, .float .f64 a4, .float .f64 a5, .float .f64 a6]] v fun r w' => r = .returned (.agg #[.float .f64 r1, .float .f64 r2, .float .f64 r3, .float .f64 r4, .float .f64 r5, .float .f64 r6]) ∧ Put ⟨pb, 0, none⟩ (.int .i64 e1) v w')) :
    Calls Tryz.prog 13 #[.int .i64 3, .pointer (some ⟨pb, 0, none⟩), .agg #[.float .f64 a1, .float .f64 a2, .float .f64 a3, .float .f64 a4, .float .f64 a5, .float .f64 a6], .agg #[.float .f64 b1, .float .f64 b2, .float .f64 b3, .float .f64 b4, .float .f64 b5, .float .f64 b6], .agg #[.float .f64 kl, .float .f64 kh]] w fun r w' => r = .returned (.tuple #[.agg #[.float .f64 r1, .float .f64 r2, .float .f64 r3, .float .f64 r4, .float .f64 r5, .float .f64 r6], .agg #[.float .f64 0, .float .f64 0]]) ∧ Put ⟨pb, 0, none⟩ (.int .i64 e1) w w' := by
  have E := Lib.hid (((((EnvE.start hC).made #[.float .f64 a1, .float .f64 a2, .float .f64 a3, .float .f64 a4, .float .f64 a5, .float .f64 a6] 34).made #[.float .f64 b1, .float .f64 b2, .float .f64 b3, .float .f64 b4, .float .f64 b5, .float .f64 b6] 34).made #[.float .f64 kl, .float .f64 kh] 24).made #[.float .f64 0, .float .f64 0, .float .f64 0, .float .f64 0, .float .f64 0, .float .f64 0] 34)
  have E := Lib.hid (E.out.made #[.float .f64 0, .float .f64 0] 24)
  simp only [World.size_alloc] at E
  have lp : pb < w.heap.size := hC.1
  obtain ⟨k1, k2, k3, k4, k5, k6⟩ := (E.out.nth 4 rfl).six
  obtain ⟨k7, k8, k9, k10, k11, k12⟩ := (E.out.nth 3 rfl).six
  obtain ⟨k13, k14⟩ := (E.out.nth 2 rfl).two
  clear hC
  go_enter Tryz.func13, Tryz.ntmps13
  go_wp2_with fail
  refine (cF.out _ E.out.cal).mono ?_
  rintro r w1 ⟨rfl, hp⟩
  have E1 := Lib.hid (E.out.putc hp)
  clear E hp k1 k2 k3 k4 k5 k6 k7 k8 k9 k10 k11 k12 k13 k14
  have kc := (E1.out.nth 1 rfl).2.1
  have kf := (E1.out.nth 1 rfl).2.2
  have kd := (E1.out.nth 0 rfl).2.1
  have kg := (E1.out.nth 0 rfl).2.2
  have F := Lib.hid (E1.out.set62 (E1.out.nth 1 rfl) (E1.out.nth 0 rfl) (E1.out.ne 1 rfl) (E1.out.ne 0 rfl) (by omega) (by omega) (by omega) (.float .f64 r1) (.float .f64 r2) (.float .f64 r3) (.float .f64 r4) (.float .f64 r5) (.float .f64 r6) (.float .f64 0) (.float .f64 0))
  go_wp2
  obtain ⟨f1, f2, f3, f4, f5, f6⟩ := (F.out.nth 0 rfl).six
  obtain ⟨f7, f8⟩ := (F.out.nth 1 rfl).two
  exact bodyPost_ret (v := .tuple #[.agg #[.float .f64 r1, .float .f64 r2, .float .f64 r3, .float .f64 r4, .float .f64 r5, .float .f64 r6], .agg #[.float .f64 0, .float .f64 0]]) (by simp [results, Tryz.results13, go_sem, f1, f2, f3, f4, f5, f6, f7, f8]) rfl ⟨rfl, F.out.put⟩

set_option maxRecDepth 100000 in
set_option maxHeartbeats 4000000 in
theorem made_4 (a1 a2 a3 a4 a5 a6 b1 b2 b3 b4 b5 b6 kl kh r1 r2 r3 r4 r5 r6 : Nat) (e e1 : Int) (pb : Nat) (w : World) (hC : Has1 w (pb, #[.int .i64 e]))
    (cF : Hid (∀ v : World, Has1 v (pb, #[.int .i64 e]) → Calls Tryz.prog 52 #[.pointer (some ⟨pb, 0, none⟩), .agg #[.float .f64 a1, .float .f64 a2, .float .f64 a3, .float .f64 a4, .float .f64 a5, .float .f64 a6], .agg #[.float .f64 b1, .float .f64 b2, .float .f64 b3, .float .f64 b4, .float .f64 b5, .float .f64 b6]] v fun r w' => r = .returned (.agg #[.float .f64 r1, .float .f64 r2, .float .f64 r3, .float .f64 r4, .float .f64 r5, .float .f64 r6]) ∧ Put ⟨pb, 0, none⟩ (.int .i64 e1) v w')) :
    Calls Tryz.prog 13 #[.int .i64 4, .pointer (some ⟨pb, 0, none⟩), .agg #[.float .f64 a1, .float .f64 a2, .float .f64 a3, .float .f64 a4, .float .f64 a5, .float .f64 a6], .agg #[.float .f64 b1, .float .f64 b2, .float .f64 b3, .float .f64 b4, .float .f64 b5, .float .f64 b6], .agg #[.float .f64 kl, .float .f64 kh]] w fun r w' => r = .returned (.tuple #[.agg #[.float .f64 r1, .float .f64 r2, .float .f64 r3, .float .f64 r4, .float .f64 r5, .float .f64 r6], .agg #[.float .f64 0, .float .f64 0]]) ∧ Put ⟨pb, 0, none⟩ (.int .i64 e1) w w' := by
  have E := Lib.hid (((((EnvE.start hC).made #[.float .f64 a1, .float .f64 a2, .float .f64 a3, .float .f64 a4, .float .f64 a5, .float .f64 a6] 34).made #[.float .f64 b1, .float .f64 b2, .float .f64 b3, .float .f64 b4, .float .f64 b5, .float .f64 b6] 34).made #[.float .f64 kl, .float .f64 kh] 24).made #[.float .f64 0, .float .f64 0, .float .f64 0, .float .f64 0, .float .f64 0, .float .f64 0] 34)
  have E := Lib.hid (E.out.made #[.float .f64 0, .float .f64 0] 24)
  simp only [World.size_alloc] at E
  have lp : pb < w.heap.size := hC.1
  obtain ⟨k1, k2, k3, k4, k5, k6⟩ := (E.out.nth 4 rfl).six
  obtain ⟨k7, k8, k9, k10, k11, k12⟩ := (E.out.nth 3 rfl).six
  obtain ⟨k13, k14⟩ := (E.out.nth 2 rfl).two
  clear hC
  go_enter Tryz.func13, Tryz.ntmps13
  go_wp2_with fail
  refine (cF.out _ E.out.cal).mono ?_
  rintro r w1 ⟨rfl, hp⟩
  have E1 := Lib.hid (E.out.putc hp)
  clear E hp k1 k2 k3 k4 k5 k6 k7 k8 k9 k10 k11 k12 k13 k14
  have kc := (E1.out.nth 1 rfl).2.1
  have kf := (E1.out.nth 1 rfl).2.2
  have kd := (E1.out.nth 0 rfl).2.1
  have kg := (E1.out.nth 0 rfl).2.2
  have F := Lib.hid (E1.out.set62 (E1.out.nth 1 rfl) (E1.out.nth 0 rfl) (E1.out.ne 1 rfl) (E1.out.ne 0 rfl) (by omega) (by omega) (by omega) (.float .f64 r1) (.float .f64 r2) (.float .f64 r3) (.float .f64 r4) (.float .f64 r5) (.float .f64 r6) (.float .f64 0) (.float .f64 0))
  go_wp2
  obtain ⟨f1, f2, f3, f4, f5, f6⟩ := (F.out.nth 0 rfl).six
  obtain ⟨f7, f8⟩ := (F.out.nth 1 rfl).two
  exact bodyPost_ret (v := .tuple #[.agg #[.float .f64 r1, .float .f64 r2, .float .f64 r3, .float .f64 r4, .float .f64 r5, .float .f64 r6], .agg #[.float .f64 0, .float .f64 0]]) (by simp [results, Tryz.results13, go_sem, f1, f2, f3, f4, f5, f6, f7, f8]) rfl ⟨rfl, F.out.put⟩

set_option maxRecDepth 100000 in
set_option maxHeartbeats 4000000 in
theorem made_5 (a1 a2 a3 a4 a5 a6 b1 b2 b3 b4 b5 b6 kl kh x1 x2 : Nat) (e e1 : Int) (pb : Nat) (w : World) (hC : Has1 w (pb, #[.int .i64 e]))
    (cF : Hid (∀ v : World, Has1 v (pb, #[.int .i64 e]) → Calls Tryz.prog 53 #[.pointer (some ⟨pb, 0, none⟩), .agg #[.float .f64 a1, .float .f64 a2, .float .f64 a3, .float .f64 a4, .float .f64 a5, .float .f64 a6], .agg #[.float .f64 b1, .float .f64 b2, .float .f64 b3, .float .f64 b4, .float .f64 b5, .float .f64 b6]] v fun r w' => r = .returned (.agg #[.float .f64 x1, .float .f64 x2]) ∧ Put ⟨pb, 0, none⟩ (.int .i64 e1) v w')) :
    Calls Tryz.prog 13 #[.int .i64 5, .pointer (some ⟨pb, 0, none⟩), .agg #[.float .f64 a1, .float .f64 a2, .float .f64 a3, .float .f64 a4, .float .f64 a5, .float .f64 a6], .agg #[.float .f64 b1, .float .f64 b2, .float .f64 b3, .float .f64 b4, .float .f64 b5, .float .f64 b6], .agg #[.float .f64 kl, .float .f64 kh]] w fun r w' => r = .returned (.tuple #[.agg #[.float .f64 0, .float .f64 0, .float .f64 0, .float .f64 0, .float .f64 0, .float .f64 0], .agg #[.float .f64 x1, .float .f64 x2]]) ∧ Put ⟨pb, 0, none⟩ (.int .i64 e1) w w' := by
  have E := Lib.hid (((((EnvE.start hC).made #[.float .f64 a1, .float .f64 a2, .float .f64 a3, .float .f64 a4, .float .f64 a5, .float .f64 a6] 34).made #[.float .f64 b1, .float .f64 b2, .float .f64 b3, .float .f64 b4, .float .f64 b5, .float .f64 b6] 34).made #[.float .f64 kl, .float .f64 kh] 24).made #[.float .f64 0, .float .f64 0, .float .f64 0, .float .f64 0, .float .f64 0, .float .f64 0] 34)
  have E := Lib.hid (E.out.made #[.float .f64 0, .float .f64 0] 24)
  simp only [World.size_alloc] at E
  have lp : pb < w.heap.size := hC.1
  obtain ⟨k1, k2, k3, k4, k5, k6⟩ := (E.out.nth 4 rfl).six
  obtain ⟨k7, k8, k9, k10, k11, k12⟩ := (E.out.nth 3 rfl).six
  obtain ⟨k13, k14⟩ := (E.out.nth 2 rfl).two
  clear hC
  go_enter Tryz.func13, Tryz.ntmps13
  go_wp2_with fail
  refine (cF.out _ E.out.cal).mono ?_
  rintro r w1 ⟨rfl, hp⟩
  have E1 := Lib.hid (E.out.putc hp)
  clear E hp k1 k2 k3 k4 k5 k6 k7 k8 k9 k10 k11 k12 k13 k14
  have kc := (E1.out.nth 1 rfl).2.1
  have kf := (E1.out.nth 1 rfl).2.2
  have kd := (E1.out.nth 0 rfl).2.1
  have kg := (E1.out.nth 0 rfl).2.2
  have F := Lib.hid (E1.out.set62 (E1.out.nth 1 rfl) (E1.out.nth 0 rfl) (E1.out.ne 1 rfl) (E1.out.ne 0 rfl) (by omega) (by omega) (by omega) (.float .f64 0) (.float .f64 0) (.float .f64 0) (.float .f64 0) (.float .f64 0) (.float .f64 0) (.float .f64 x1) (.float .f64 x2))
  go_wp2
  obtain ⟨f1, f2, f3, f4, f5, f6⟩ := (F.out.nth 0 rfl).six
  obtain ⟨f7, f8⟩ := (F.out.nth 1 rfl).two
  exact bodyPost_ret (v := .tuple #[.agg #[.float .f64 0, .float .f64 0, .float .f64 0, .float .f64 0, .float .f64 0, .float .f64 0], .agg #[.float .f64 x1, .float .f64 x2]]) (by simp [results, Tryz.results13, go_sem, f1, f2, f3, f4, f5, f6, f7, f8]) rfl ⟨rfl, F.out.put⟩

set_option maxRecDepth 100000 in
set_option maxHeartbeats 4000000 in
theorem made_6 (a1 a2 a3 a4 a5 a6 b1 b2 b3 b4 b5 b6 kl kh x1 x2 : Nat) (e e1 : Int) (pb : Nat) (w : World) (hC : Has1 w (pb, #[.int .i64 e]))
    (cF : Hid (∀ v : World, Has1 v (pb, #[.int .i64 e]) → Calls Tryz.prog 36 #[.pointer (some ⟨pb, 0, none⟩), .agg #[.float .f64 a1, .float .f64 a2, .float .f64 a3, .float .f64 a4, .float .f64 a5, .float .f64 a6]] v fun r w' => r = .returned (.agg #[.float .f64 x1, .float .f64 x2]) ∧ Put ⟨pb, 0, none⟩ (.int .i64 e1) v w')) :
    Calls Tryz.prog 13 #[.int .i64 6, .pointer (some ⟨pb, 0, none⟩), .agg #[.float .f64 a1, .float .f64 a2, .float .f64 a3, .float .f64 a4, .float .f64 a5, .float .f64 a6], .agg #[.float .f64 b1, .float .f64 b2, .float .f64 b3, .float .f64 b4, .float .f64 b5, .float .f64 b6], .agg #[.float .f64 kl, .float .f64 kh]] w fun r w' => r = .returned (.tuple #[.agg #[.float .f64 0, .float .f64 0, .float .f64 0, .float .f64 0, .float .f64 0, .float .f64 0], .agg #[.float .f64 x1, .float .f64 x2]]) ∧ Put ⟨pb, 0, none⟩ (.int .i64 e1) w w' := by
  have E := Lib.hid (((((EnvE.start hC).made #[.float .f64 a1, .float .f64 a2, .float .f64 a3, .float .f64 a4, .float .f64 a5, .float .f64 a6] 34).made #[.float .f64 b1, .float .f64 b2, .float .f64 b3, .float .f64 b4, .float .f64 b5, .float .f64 b6] 34).made #[.float .f64 kl, .float .f64 kh] 24).made #[.float .f64 0, .float .f64 0, .float .f64 0, .float .f64 0, .float .f64 0, .float .f64 0] 34)
  have E := Lib.hid (E.out.made #[.float .f64 0, .float .f64 0] 24)
  simp only [World.size_alloc] at E
  have lp : pb < w.heap.size := hC.1
  obtain ⟨k1, k2, k3, k4, k5, k6⟩ := (E.out.nth 4 rfl).six
  obtain ⟨k7, k8, k9, k10, k11, k12⟩ := (E.out.nth 3 rfl).six
  obtain ⟨k13, k14⟩ := (E.out.nth 2 rfl).two
  clear hC
  go_enter Tryz.func13, Tryz.ntmps13
  go_wp2_with fail
  refine (cF.out _ E.out.cal).mono ?_
  rintro r w1 ⟨rfl, hp⟩
  have E1 := Lib.hid (E.out.putc hp)
  clear E hp k1 k2 k3 k4 k5 k6 k7 k8 k9 k10 k11 k12 k13 k14
  have kc := (E1.out.nth 1 rfl).2.1
  have kf := (E1.out.nth 1 rfl).2.2
  have kd := (E1.out.nth 0 rfl).2.1
  have kg := (E1.out.nth 0 rfl).2.2
  have F := Lib.hid (E1.out.set62 (E1.out.nth 1 rfl) (E1.out.nth 0 rfl) (E1.out.ne 1 rfl) (E1.out.ne 0 rfl) (by omega) (by omega) (by omega) (.float .f64 0) (.float .f64 0) (.float .f64 0) (.float .f64 0) (.float .f64 0) (.float .f64 0) (.float .f64 x1) (.float .f64 x2))
  go_wp2
  obtain ⟨f1, f2, f3, f4, f5, f6⟩ := (F.out.nth 0 rfl).six
  obtain ⟨f7, f8⟩ := (F.out.nth 1 rfl).two
  exact bodyPost_ret (v := .tuple #[.agg #[.float .f64 0, .float .f64 0, .float .f64 0, .float .f64 0, .float .f64 0, .float .f64 0], .agg #[.float .f64 x1, .float .f64 x2]]) (by simp [results, Tryz.results13, go_sem, f1, f2, f3, f4, f5, f6, f7, f8]) rfl ⟨rfl, F.out.put⟩

def zeroR : Res := ⟨0, 0, 0⟩
def zeroV : V3 := ⟨zeroR, zeroR, zeroR⟩
def madeV (e : Int) (a b : V3) (k : Res) : Nat → V3
  | 0 => addV e a b | 1 => subV e a b | 2 => negV e a | 3 => scaleV e k a | 4 => crossV e a b | _ => zeroV
def madeR (e : Int) (a b : V3) : Nat → Res
  | 5 => dotV e a b | 6 => normV e a | _ => zeroR
def madeE (e : Int) (a b : V3) (k : Res) : Nat → Int
  | 0 => (addV e a b).z.e | 1 => (subV e a b).z.e | 2 => (negV e a).z.e | 3 => (scaleV e k a).z.e | 4 => (crossV e a b).z.e | 5 => (dotV e a b).e | _ => (normV e a).e

section
variable (e : Int) (a b : V3) (k : Res)
theorem mV0 : madeV e a b k 0 = addV e a b := rfl
theorem mV1 : madeV e a b k 1 = subV e a b := rfl
theorem mV2 : madeV e a b k 2 = negV e a := rfl
theorem mV3 : madeV e a b k 3 = scaleV e k a := rfl
theorem mV4 : madeV e a b k 4 = crossV e a b := rfl
theorem mV5 : madeV e a b k 5 = zeroV := rfl
theorem mV6 : madeV e a b k 6 = zeroV := rfl
theorem mR0 : madeR e a b 0 = zeroR := rfl
theorem mR1 : madeR e a b 1 = zeroR := rfl
theorem mR2 : madeR e a b 2 = zeroR := rfl
theorem mR3 : madeR e a b 3 = zeroR := rfl
theorem mR4 : madeR e a b 4 = zeroR := rfl
theorem mR5 : madeR e a b 5 = dotV e a b := rfl
theorem mR6 : madeR e a b 6 = normV e a := rfl
theorem mE0 : madeE e a b k 0 = (addV e a b).z.e := rfl
theorem mE1 : madeE e a b k 1 = (subV e a b).z.e := rfl
theorem mE2 : madeE e a b k 2 = (negV e a).z.e := rfl
theorem mE3 : madeE e a b k 3 = (scaleV e k a).z.e := rfl
theorem mE4 : madeE e a b k 4 = (crossV e a b).z.e := rfl
theorem mE5 : madeE e a b k 5 = (dotV e a b).e := rfl
theorem mE6 : madeE e a b k 6 = (normV e a).e := rfl
end

set_option maxRecDepth 100000 in
theorem made_any (i : Nat) (hi : i < 7) (e : Int) {a b : V3} {k : Res} (ha : WdV a) (hb : WdV b) (hk : Wd k) (pb : Nat) (v : World) (hC : Has1 v (pb, #[.int .i64 e])) :
    Calls Tryz.prog 13 #[.int .i64 i, .pointer (some ⟨pb, 0, none⟩), .agg #[.float .f64 a.x.lo, .float .f64 a.x.hi, .float .f64 a.y.lo, .float .f64 a.y.hi, .float .f64 a.z.lo, .float .f64 a.z.hi], .agg #[.float .f64 b.x.lo, .float .f64 b.x.hi, .float .f64 b.y.lo, .float .f64 b.y.hi, .float .f64 b.z.lo, .float .f64 b.z.hi], .agg #[.float .f64 k.lo, .float .f64 k.hi]] v
      fun r w' => r = .returned (.tuple #[.agg #[.float .f64 (madeV e a b k i).x.lo, .float .f64 (madeV e a b k i).x.hi, .float .f64 (madeV e a b k i).y.lo, .float .f64 (madeV e a b k i).y.hi, .float .f64 (madeV e a b k i).z.lo, .float .f64 (madeV e a b k i).z.hi], .agg #[.float .f64 (madeR e a b i).lo, .float .f64 (madeR e a b i).hi]]) ∧ Put ⟨pb, 0, none⟩ (.int .i64 (madeE e a b k i)) v w' := by
  rcases (show i = 0 ∨ i = 1 ∨ i = 2 ∨ i = 3 ∨ i = 4 ∨ i = 5 ∨ i = 6 by omega) with rfl | rfl | rfl | rfl | rfl | rfl | rfl
  · rw [mV0, mR0, mE0]
    exact made_0 _ _ _ _ _ _ _ _ _ _ _ _ _ _ _ _ _ _ _ _ e _ pb v hC (Lib.hid fun v hC => vadd_any e ha hb pb v hC)
  · rw [mV1, mR1, mE1]
    exact made_1 _ _ _ _ _ _ _ _ _ _ _ _ _ _ _ _ _ _ _ _ e _ pb v hC (Lib.hid fun v hC => vsub_any e ha hb pb v hC)
  · rw [mV2, mR2, mE2]
    exact made_2 _ _ _ _ _ _ _ _ _ _ _ _ _ _ _ _ _ _ _ _ e _ pb v hC (Lib.hid fun v hC => vneg_any e ha pb v hC)
  · rw [mV3, mR3, mE3]
    exact made_3 _ _ _ _ _ _ _ _ _ _ _ _ _ _ _ _ _ _ _ _ e _ pb v hC (Lib.hid fun v hC => vscale_any e ha hk pb v hC)
  · rw [mV4, mR4, mE4]
    exact made_4 _ _ _ _ _ _ _ _ _ _ _ _ _ _ _ _ _ _ _ _ e _ pb v hC (Lib.hid fun v hC => vcross_any e ha hb pb v hC)
  · rw [mV5, mR5, mE5]
    exact made_5 _ _ _ _ _ _ _ _ _ _ _ _ _ _ _ _ e _ pb v hC (Lib.hid fun v hC => dot_any e ha hb pb v hC)
  · rw [mV6, mR6, mE6]
    exact made_6 _ _ _ _ _ _ _ _ _ _ _ _ _ _ _ _ e _ pb v hC (Lib.hid fun v hC => norm_any e ha pb v hC)

end Go.Proofs.YtcfgahlaiiibiaaGreat

namespace Go.Proofs.YtcfgahlaiiibiaaGreat
open Go.RowKit
attribute [local go_sem] run_store_float

theorem rce_add (e : Int) {a b : Res} (ha : Wd a) (hb : Wd b) (pb : Nat) : CE2 70 pb e (stA e a b).e a.lo a.hi b.lo b.hi (stA e a b).lo (stA e a b).hi := fun v h => told_e (rAdd_any e a.lo a.hi b.lo b.hi pb v ha.lo ha.hi hb.lo hb.hi h)
theorem rce_sub (e : Int) {a b : Res} (ha : Wd a) (hb : Wd b) (pb : Nat) : CE2 71 pb e (stS e a b).e a.lo a.hi b.lo b.hi (stS e a b).lo (stS e a b).hi := fun v h => told_e (rSub_any e a.lo a.hi b.lo b.hi pb v ha.lo ha.hi hb.lo hb.hi h)
theorem rce_mul (e : Int) {a b : Res} (ha : Wd a) (hb : Wd b) (pb : Nat) : CE2 74 pb e (stM e a b).e a.lo a.hi b.lo b.hi (stM e a b).lo (stM e a b).hi := fun v h => told_e (rMul_any e a.lo a.hi b.lo b.hi pb v ha.lo ha.hi hb.lo hb.hi h)
theorem rce_neg (e : Int) {a : Res} (ha : Wd a) (pb : Nat) : CE1 95 pb e (stN e a).e a.lo a.hi (stN e a).lo (stN e a).hi := fun v h => told_e (rNeg_any e a.lo a.hi pb v ha.lo ha.hi h)
theorem rce_sqr (e : Int) {a : Res} (ha : Wd a) (pb : Nat) : CE1 72 pb e (stQ e a).e a.lo a.hi (stQ e a).lo (stQ e a).hi := fun v h => told_e (rSqr_any e a.lo a.hi pb v ha.lo ha.hi h)
theorem rce_sqrt (e : Int) {a : Res} (ha : Wd a) (pb : Nat) : CE1 73 pb e (stR e a).e a.lo a.hi (stR e a).lo (stR e a).hi := fun v h => told_e (rSqrt_any e a.lo a.hi pb v ha.lo ha.hi h)
abbrev CE4 (f : FuncId) (pb : Nat) (e e' : Int) (al ah bl bh cl ch dl dh rl rh : Nat) : Prop := ∀ v : World, Has1 v (pb, #[.int .i64 e]) → Calls Tryz.prog f #[.pointer (some ⟨pb, 0, none⟩), .agg #[.float .f64 al, .float .f64 ah], .agg #[.float .f64 bl, .float .f64 bh], .agg #[.float .f64 cl, .float .f64 ch], .agg #[.float .f64 dl, .float .f64 dh]] v fun r w' => r = .returned (.agg #[.float .f64 rl, .float .f64 rh]) ∧ Put ⟨pb, 0, none⟩ (.int .i64 e') v w'

set_option maxRecDepth 100000 in
set_option maxHeartbeats 4000000 in
theorem rvadd_walk (axl axh ayl ayh azl azh bxl bxh byl byh bzl bzh m0l m0h m1l m1h m2l m2h : Nat) (e e1 e2 e3 : Int) (pb : Nat) (w : World) (hC : Has1 w (pb, #[.int .i64 e]))
    (d0 : Hid (CE2 70 pb e e1 axl axh bxl bxh m0l m0h))
    (d1 : Hid (CE2 70 pb e1 e2 ayl ayh byl byh m1l m1h))
    (d2 : Hid (CE2 70 pb e2 e3 azl azh bzl bzh m2l m2h)) :
    Calls Tryz.prog 54 #[.pointer (some ⟨pb, 0, none⟩), .agg #[.float .f64 axl, .float .f64 axh, .float .f64 ayl, .float .f64 ayh, .float .f64 azl, .float .f64 azh], .agg #[.float .f64 bxl, .float .f64 bxh, .float .f64 byl, .float .f64 byh, .float .f64 bzl, .float .f64 bzh]] w fun r w' => r = .returned (.agg #[.float .f64 m0l, .float .f64 m0h, .float .f64 m1l, .float .f64 m1h, .float .f64 m2l, .float .f64 m2h]) ∧ Put ⟨pb, 0, none⟩ (.int .i64 e3) w w' := by
  have lp : pb < w.heap.size := hC.1
  have E := Lib.hid ((((EnvE.start hC).made #[.float .f64 axl, .float .f64 axh, .float .f64 ayl, .float .f64 ayh, .float .f64 azl, .float .f64 azh] 34).made #[.float .f64 bxl, .float .f64 bxh, .float .f64 byl, .float .f64 byh, .float .f64 bzl, .float .f64 bzh] 34).made #[.float .f64 0, .float .f64 0, .float .f64 0, .float .f64 0, .float .f64 0, .float .f64 0] 34)
  simp only [World.size_alloc] at E
  clear hC
  obtain ⟨k1, k2, k3, k4, k5, k6⟩ := (E.out.nth 2 rfl).six
  obtain ⟨k7, k8, k9, k10, k11, k12⟩ := (E.out.nth 1 rfl).six
  go_enter Tryz.func54, Tryz.ntmps54
  go_wp2_with fail
  refine (d0.out _ E.out.cal).mono ?_
  rintro r u0 ⟨rfl, hp⟩
  have E' := Lib.hid ((E.out.putc hp).made #[.float .f64 m0l, .float .f64 m0h] 24)
  clear E hp k1 k2 k3 k4 k5 k6 k7 k8 k9 k10 k11 k12
  have E := E'
  clear E'
  obtain ⟨k1, k2, k3, k4, k5, k6⟩ := (E.out.nth 3 rfl).six
  obtain ⟨k7, k8, k9, k10, k11, k12⟩ := (E.out.nth 2 rfl).six
  go_wp2_with fail
  refine (d1.out _ E.out.cal).mono ?_
  rintro r u1 ⟨rfl, hp⟩
  have E' := Lib.hid ((E.out.putc hp).made #[.float .f64 m1l, .float .f64 m1h] 24)
  clear E hp k1 k2 k3 k4 k5 k6 k7 k8 k9 k10 k11 k12
  have E := E'
  clear E'
  obtain ⟨k1, k2, k3, k4, k5, k6⟩ := (E.out.nth 4 rfl).six
  obtain ⟨k7, k8, k9, k10, k11, k12⟩ := (E.out.nth 3 rfl).six
  go_wp2_with fail
  refine (d2.out _ E.out.cal).mono ?_
  rintro r u2 ⟨rfl, hp⟩
  have E' := Lib.hid ((E.out.putc hp).made #[.float .f64 m2l, .float .f64 m2h] 24)
  clear E hp k1 k2 k3 k4 k5 k6 k7 k8 k9 k10 k11 k12
  have E := E'
  clear E'
  obtain ⟨k1, k2⟩ := (E.out.nth 2 rfl).two
  obtain ⟨k3, k4⟩ := (E.out.nth 1 rfl).two
  obtain ⟨k5, k6⟩ := (E.out.nth 0 rfl).two
  have kc := (E.out.nth 3 rfl).2.1
  have kf := (E.out.nth 3 rfl).2.2
  have F := Lib.hid (E.out.set6 (E.out.nth 3 rfl) (E.out.ne 3 rfl) (by omega) (.float .f64 m0l) (.float .f64 m0h) (.float .f64 m1l) (.float .f64 m1h) (.float .f64 m2l) (.float .f64 m2h))
  go_wp2
  obtain ⟨f1, f2, f3, f4, f5, f6⟩ := (F.out.nth 0 rfl).six
  exact bodyPost_ret (v := .agg #[.float .f64 m0l, .float .f64 m0h, .float .f64 m1l, .float .f64 m1h, .float .f64 m2l, .float .f64 m2h]) (by simp [results, Tryz.results54, go_sem, f1, f2, f3, f4, f5, f6]) rfl ⟨rfl, F.out.put⟩

set_option maxRecDepth 100000 in
set_option maxHeartbeats 4000000 in
theorem rvsub_walk (axl axh ayl ayh azl azh bxl bxh byl byh bzl bzh m0l m0h m1l m1h m2l m2h : Nat) (e e1 e2 e3 : Int) (pb : Nat) (w : World) (hC : Has1 w (pb, #[.int .i64 e]))
    (d0 : Hid (CE2 71 pb e e1 axl axh bxl bxh m0l m0h))
    (d1 : Hid (CE2 71 pb e1 e2 ayl ayh byl byh m1l m1h))
    (d2 : Hid (CE2 71 pb e2 e3 azl azh bzl bzh m2l m2h)) :
    Calls Tryz.prog 55 #[.pointer (some ⟨pb, 0, none⟩), .agg #[.float .f64 axl, .float .f64 axh, .float .f64 ayl, .float .f64 ayh, .float .f64 azl, .float .f64 azh], .agg #[.float .f64 bxl, .float .f64 bxh, .float .f64 byl, .float .f64 byh, .float .f64 bzl, .float .f64 bzh]] w fun r w' => r = .returned (.agg #[.float .f64 m0l, .float .f64 m0h, .float .f64 m1l, .float .f64 m1h, .float .f64 m2l, .float .f64 m2h]) ∧ Put ⟨pb, 0, none⟩ (.int .i64 e3) w w' := by
  have lp : pb < w.heap.size := hC.1
  have E := Lib.hid ((((EnvE.start hC).made #[.float .f64 axl, .float .f64 axh, .float .f64 ayl, .float .f64 ayh, .float .f64 azl, .float .f64 azh] 34).made #[.float .f64 bxl, .float .f64 bxh, .float .f64 byl, .float .f64 byh, .float .f64 bzl, .float .f64 bzh] 34).made #[.float .f64 0, .float .f64 0, .float .f64 0, .float .f64 0, .float .f64 0, .float .f64 0] 34)
  simp only [World.size_alloc] at E
  clear hC
  obtain ⟨k1, k2, k3, k4, k5, k6⟩ := (E.out.nth 2 rfl).six
  obtain ⟨k7, k8, k9, k10, k11, k12⟩ := (E.out.nth 1 rfl).six
  go_enter Tryz.func55, Tryz.ntmps55
  go_wp2_with fail
  refine (d0.out _ E.out.cal).mono ?_
  rintro r u0 ⟨rfl, hp⟩
  have E' := Lib.hid ((E.out.putc hp).made #[.float .f64 m0l, .float .f64 m0h] 24)
  clear E hp k1 k2 k3 k4 k5 k6 k7 k8 k9 k10 k11 k12
  have E := E'
  clear E'
  obtain ⟨k1, k2, k3, k4, k5, k6⟩ := (E.out.nth 3 rfl).six
  obtain ⟨k7, k8, k9, k10, k11, k12⟩ := (E.out.nth 2 rfl).six
  go_wp2_with fail
  refine (d1.out _ E.out.cal).mono ?_
  rintro r u1 ⟨rfl, hp⟩
  have E' := Lib.hid ((E.out.putc hp).made #[.float .f64 m1l, .float .f64 m1h] 24)
  clear E hp k1 k2 k3 k4 k5 k6 k7 k8 k9 k10 k11 k12
  have E := E'
  clear E'
  obtain ⟨k1, k2, k3, k4, k5, k6⟩ := (E.out.nth 4 rfl).six
  obtain ⟨k7, k8, k9, k10, k11, k12⟩ := (E.out.nth 3 rfl).six
  go_wp2_with fail
  refine (d2.out _ E.out.cal).mono ?_
  rintro r u2 ⟨rfl, hp⟩
  have E' := Lib.hid ((E.out.putc hp).made #[.float .f64 m2l, .float .f64 m2h] 24)
  clear E hp k1 k2 k3 k4 k5 k6 k7 k8 k9 k10 k11 k12
  have E := E'
  clear E'
  obtain ⟨k1, k2⟩ := (E.out.nth 2 rfl).two
  obtain ⟨k3, k4⟩ := (E.out.nth 1 rfl).two
  obtain ⟨k5, k6⟩ := (E.out.nth 0 rfl).two
  have kc := (E.out.nth 3 rfl).2.1
  have kf := (E.out.nth 3 rfl).2.2
  have F := Lib.hid (E.out.set6 (E.out.nth 3 rfl) (E.out.ne 3 rfl) (by omega) (.float .f64 m0l) (.float .f64 m0h) (.float .f64 m1l) (.float .f64 m1h) (.float .f64 m2l) (.float .f64 m2h))
  go_wp2
  obtain ⟨f1, f2, f3, f4, f5, f6⟩ := (F.out.nth 0 rfl).six
  exact bodyPost_ret (v := .agg #[.float .f64 m0l, .float .f64 m0h, .float .f64 m1l, .float .f64 m1h, .float .f64 m2l, .float .f64 m2h]) (by simp [results, Tryz.results55, go_sem, f1, f2, f3, f4, f5, f6]) rfl ⟨rfl, F.out.put⟩

set_option maxRecDepth 100000 in
set_option maxHeartbeats 4000000 in
theorem rvneg_walk (axl axh ayl ayh azl azh m0l m0h m1l m1h m2l m2h : Nat) (e e1 e2 e3 : Int) (pb : Nat) (w : World) (hC : Has1 w (pb, #[.int .i64 e]))
    (d0 : Hid (CE1 95 pb e e1 axl axh m0l m0h))
    (d1 : Hid (CE1 95 pb e1 e2 ayl ayh m1l m1h))
    (d2 : Hid (CE1 95 pb e2 e3 azl azh m2l m2h)) :
    Calls Tryz.prog 56 #[.pointer (some ⟨pb, 0, none⟩), .agg #[.float .f64 axl, .float .f64 axh, .float .f64 ayl, .float .f64 ayh, .float .f64 azl, .float .f64 azh]] w fun r w' => r = .returned (.agg #[.float .f64 m0l, .float .f64 m0h, .float .f64 m1l, .float .f64 m1h, .float .f64 m2l, .float .f64 m2h]) ∧ Put ⟨pb, 0, none⟩ (.int .i64 e3) w w' := by
  have lp : pb < w.heap.size := hC.1
  have E := Lib.hid (((EnvE.start hC).made #[.float .f64 axl, .float .f64 axh, .float .f64 ayl, .float .f64 ayh, .float .f64 azl, .float .f64 azh] 34).made #[.float .f64 0, .float .f64 0, .float .f64 0, .float .f64 0, .float .f64 0, .float .f64 0] 34)
  simp only [World.size_alloc] at E
  clear hC
  obtain ⟨k1, k2, k3, k4, k5, k6⟩ := (E.out.nth 1 rfl).six
  go_enter Tryz.func56, Tryz.ntmps56
  go_wp2_with fail
  refine (d0.out _ E.out.cal).mono ?_
  rintro r u0 ⟨rfl, hp⟩
  have E' := Lib.hid ((E.out.putc hp).made #[.float .f64 m0l, .float .f64 m0h] 24)
  clear E hp k1 k2 k3 k4 k5 k6
  have E := E'
  clear E'
  obtain ⟨k1, k2, k3, k4, k5, k6⟩ := (E.out.nth 2 rfl).six
  go_wp2_with fail
  refine (d1.out _ E.out.cal).mono ?_
  rintro r u1 ⟨rfl, hp⟩
  have E' := Lib.hid ((E.out.putc hp).made #[.float .f64 m1l, .float .f64 m1h] 24)
  clear E hp k1 k2 k3 k4 k5 k6
  have E := E'
  clear E'
  obtain ⟨k1, k2, k3, k4, k5, k6⟩ := (E.out.nth 3 rfl).six
  go_wp2_with fail
  refine (d2.out _ E.out.cal).mono ?_
  rintro r u2 ⟨rfl, hp⟩
  have E' := Lib.hid ((E.out.putc hp).made #[.float .f64 m2l, .float .f64 m2h] 24)
  clear E hp k1 k2 k3 k4 k5 k6
  have E := E'
  clear E'
  obtain ⟨k1, k2⟩ := (E.out.nth 2 rfl).two
  obtain ⟨k3, k4⟩ := (E.out.nth 1 rfl).two
  obtain ⟨k5, k6⟩ := (E.out.nth 0 rfl).two
  have kc := (E.out.nth 3 rfl).2.1
  have kf := (E.out.nth 3 rfl).2.2
  have F := Lib.hid (E.out.set6 (E.out.nth 3 rfl) (E.out.ne 3 rfl) (by omega) (.float .f64 m0l) (.float .f64 m0h) (.float .f64 m1l) (.float .f64 m1h) (.float .f64 m2l) (.float .f64 m2h))
  go_wp2
  obtain ⟨f1, f2, f3, f4, f5, f6⟩ := (F.out.nth 0 rfl).six
  exact bodyPost_ret (v := .agg #[.float .f64 m0l, .float .f64 m0h, .float .f64 m1l, .float .f64 m1h, .float .f64 m2l, .float .f64 m2h]) (by simp [results, Tryz.results56, go_sem, f1, f2, f3, f4, f5, f6]) rfl ⟨rfl, F.out.put⟩

set_option maxRecDepth 100000 in
set_option maxHeartbeats 4000000 in
theorem rvscale_walk (kl kh axl axh ayl ayh azl azh m0l m0h m1l m1h m2l m2h : Nat) (e e1 e2 e3 : Int) (pb : Nat) (w : World) (hC : Has1 w (pb, #[.int .i64 e]))
    (d0 : Hid (CE2 74 pb e e1 kl kh axl axh m0l m0h))
    (d1 : Hid (CE2 74 pb e1 e2 kl kh ayl ayh m1l m1h))
    (d2 : Hid (CE2 74 pb e2 e3 kl kh azl azh m2l m2h)) :
    Calls Tryz.prog 57 #[.pointer (some ⟨pb, 0, none⟩), .agg #[.float .f64 kl, .float .f64 kh], .agg #[.float .f64 axl, .float .f64 axh, .float .f64 ayl, .float .f64 ayh, .float .f64 azl, .float .f64 azh]] w fun r w' => r = .returned (.agg #[.float .f64 m0l, .float .f64 m0h, .float .f64 m1l, .float .f64 m1h, .float .f64 m2l, .float .f64 m2h]) ∧ Put ⟨pb, 0, none⟩ (.int .i64 e3) w w' := by
  have lp : pb < w.heap.size := hC.1
  have E := Lib.hid ((((EnvE.start hC).made #[.float .f64 kl, .float .f64 kh] 24).made #[.float .f64 axl, .float .f64 axh, .float .f64 ayl, .float .f64 ayh, .float .f64 azl, .float .f64 azh] 34).made #[.float .f64 0, .float .f64 0, .float .f64 0, .float .f64 0, .float .f64 0, .float .f64 0] 34)
  simp only [World.size_alloc] at E
  clear hC
  obtain ⟨k1, k2⟩ := (E.out.nth 2 rfl).two
  obtain ⟨k3, k4, k5, k6, k7, k8⟩ := (E.out.nth 1 rfl).six
  go_enter Tryz.func57, Tryz.ntmps57
  go_wp2_with fail
  refine (d0.out _ E.out.cal).mono ?_
  rintro r u0 ⟨rfl, hp⟩
  have E' := Lib.hid ((E.out.putc hp).made #[.float .f64 m0l, .float .f64 m0h] 24)
  clear E hp k1 k2 k3 k4 k5 k6 k7 k8
  have E := E'
  clear E'
  obtain ⟨k1, k2⟩ := (E.out.nth 3 rfl).two
  obtain ⟨k3, k4, k5, k6, k7, k8⟩ := (E.out.nth 2 rfl).six
  go_wp2_with fail
  refine (d1.out _ E.out.cal).mono ?_
  rintro r u1 ⟨rfl, hp⟩
  have E' := Lib.hid ((E.out.putc hp).made #[.float .f64 m1l, .float .f64 m1h] 24)
  clear E hp k1 k2 k3 k4 k5 k6 k7 k8
  have E := E'
  clear E'
  obtain ⟨k1, k2⟩ := (E.out.nth 4 rfl).two
  obtain ⟨k3, k4, k5, k6, k7, k8⟩ := (E.out.nth 3 rfl).six
  go_wp2_with fail
  refine (d2.out _ E.out.cal).mono ?_
  rintro r u2 ⟨rfl, hp⟩
  have E' := Lib.hid ((E.out.putc hp).made #[.float .f64 m2l, .float .f64 m2h] 24)
  clear E hp k1 k2 k3 k4 k5 k6 k7 k8
  have E := E'
  clear E'
  obtain ⟨k1, k2⟩ := (E.out.nth 2 rfl).two
  obtain ⟨k3, k4⟩ := (E.out.nth 1 rfl).two
  obtain ⟨k5, k6⟩ := (E.out.nth 0 rfl).two
  have kc := (E.out.nth 3 rfl).2.1
  have kf := (E.out.nth 3 rfl).2.2
  have F := Lib.hid (E.out.set6 (E.out.nth 3 rfl) (E.out.ne 3 rfl) (by omega) (.float .f64 m0l) (.float .f64 m0h) (.float .f64 m1l) (.float .f64 m1h) (.float .f64 m2l) (.float .f64 m2h))
  go_wp2
  obtain ⟨f1, f2, f3, f4, f5, f6⟩ := (F.out.nth 0 rfl).six
  exact bodyPost_ret (v := .agg #[.float .f64 m0l, .float .f64 m0h, .float .f64 m1l, .float .f64 m1h, .float .f64 m2l, .float .f64 m2h]) (by simp [results, Tryz.results57, go_sem, f1, f2, f3, f4, f5, f6]) rfl ⟨rfl, F.out.put⟩

set_option maxRecDepth 100000 in
set_option maxHeartbeats 4000000 in
theorem rvdot_walk (axl axh ayl ayh azl azh bxl bxh byl byh bzl bzh m0l m0h m1l m1h m2l m2h m3l m3h m4l m4h : Nat) (e e1 e2 e3 e4 e5 : Int) (pb : Nat) (w : World) (hC : Has1 w (pb, #[.int .i64 e]))
    (d0 : Hid (CE2 74 pb e e1 axl axh bxl bxh m0l m0h))
    (d1 : Hid (CE2 74 pb e1 e2 ayl ayh byl byh m1l m1h))
    (d2 : Hid (CE2 70 pb e2 e3 m0l m0h m1l m1h m2l m2h))
    (d3 : Hid (CE2 74 pb e3 e4 azl azh bzl bzh m3l m3h))
    (d4 : Hid (CE2 70 pb e4 e5 m2l m2h m3l m3h m4l m4h)) :
    Calls Tryz.prog 59 #[.pointer (some ⟨pb, 0, none⟩), .agg #[.float .f64 axl, .float .f64 axh, .float .f64 ayl, .float .f64 ayh, .float .f64 azl, .float .f64 azh], .agg #[.float .f64 bxl, .float .f64 bxh, .float .f64 byl, .float .f64 byh, .float .f64 bzl, .float .f64 bzh]] w fun r w' => r = .returned (.agg #[.float .f64 m4l, .float .f64 m4h]) ∧ Put ⟨pb, 0, none⟩ (.int .i64 e5) w w' := by
  have lp : pb < w.heap.size := hC.1
  have E := Lib.hid ((((EnvE.start hC).made #[.float .f64 axl, .float .f64 axh, .float .f64 ayl, .float .f64 ayh, .float .f64 azl, .float .f64 azh] 34).made #[.float .f64 bxl, .float .f64 bxh, .float .f64 byl, .float .f64 byh, .float .f64 bzl, .float .f64 bzh] 34).made #[.float .f64 0, .float .f64 0] 24)
  simp only [World.size_alloc] at E
  clear hC
  obtain ⟨k1, k2, k3, k4, k5, k6⟩ := (E.out.nth 2 rfl).six
  obtain ⟨k7, k8, k9, k10, k11, k12⟩ := (E.out.nth 1 rfl).six
  go_enter Tryz.func59, Tryz.ntmps59
  go_wp2_with fail
  refine (d0.out _ E.out.cal).mono ?_
  rintro r u0 ⟨rfl, hp⟩
  have E' := Lib.hid ((E.out.putc hp).made #[.float .f64 m0l, .float .f64 m0h] 24)
  clear E hp k1 k2 k3 k4 k5 k6 k7 k8 k9 k10 k11 k12
  have E := E'
  clear E'
  obtain ⟨k1, k2, k3, k4, k5, k6⟩ := (E.out.nth 3 rfl).six
  obtain ⟨k7, k8, k9, k10, k11, k12⟩ := (E.out.nth 2 rfl).six
  go_wp2_with fail
  refine (d1.out _ E.out.cal).mono ?_
  rintro r u1 ⟨rfl, hp⟩
  have E' := Lib.hid ((E.out.putc hp).made #[.float .f64 m1l, .float .f64 m1h] 24)
  clear E hp k1 k2 k3 k4 k5 k6 k7 k8 k9 k10 k11 k12
  have E := E'
  clear E'
  obtain ⟨k1, k2⟩ := (E.out.nth 1 rfl).two
  obtain ⟨k3, k4⟩ := (E.out.nth 0 rfl).two
  go_wp2_with fail
  refine (d2.out _ E.out.cal).mono ?_
  rintro r u2 ⟨rfl, hp⟩
  have E' := Lib.hid ((E.out.putc hp).made #[.float .f64 m2l, .float .f64 m2h] 24)
  clear E hp k1 k2 k3 k4
  have E := E'
  clear E'
  obtain ⟨k1, k2, k3, k4, k5, k6⟩ := (E.out.nth 5 rfl).six
  obtain ⟨k7, k8, k9, k10, k11, k12⟩ := (E.out.nth 4 rfl).six
  go_wp2_with fail
  refine (d3.out _ E.out.cal).mono ?_
  rintro r u3 ⟨rfl, hp⟩
  have E' := Lib.hid ((E.out.putc hp).made #[.float .f64 m3l, .float .f64 m3h] 24)
  clear E hp k1 k2 k3 k4 k5 k6 k7 k8 k9 k10 k11 k12
  have E := E'
  clear E'
  obtain ⟨k1, k2⟩ := (E.out.nth 1 rfl).two
  obtain ⟨k3, k4⟩ := (E.out.nth 0 rfl).two
  go_wp2_with fail
  refine (d4.out _ E.out.cal).mono ?_
  rintro r u4 ⟨rfl, hp⟩
  have E' := Lib.hid (E.out.putc hp)
  clear E hp k1 k2 k3 k4
  have E := E'
  clear E'
  have kc := (E.out.nth 4 rfl).2.1
  have kf := (E.out.nth 4 rfl).2.2
  have F := Lib.hid (E.out.set2 (E.out.nth 4 rfl) (E.out.ne 4 rfl) (by omega) (.float .f64 m4l) (.float .f64 m4h))
  go_wp2
  obtain ⟨f1, f2⟩ := (F.out.nth 0 rfl).two
  exact bodyPost_ret (v := .agg #[.float .f64 m4l, .float .f64 m4h]) (by simp [results, Tryz.results59, go_sem, f1, f2]) rfl ⟨rfl, F.out.put⟩

set_option maxRecDepth 100000 in
set_option maxHeartbeats 4000000 in
theorem rvless_walk (pl ph ql qh sl sh ul uh m0l m0h m1l m1h m2l m2h : Nat) (e e1 e2 e3 : Int) (pb : Nat) (w : World) (hC : Has1 w (pb, #[.int .i64 e]))
    (d0 : Hid (CE2 74 pb e e1 pl ph ql qh m0l m0h))
    (d1 : Hid (CE2 74 pb e1 e2 sl sh ul uh m1l m1h))
    (d2 : Hid (CE2 71 pb e2 e3 m0l m0h m1l m1h m2l m2h)) :
    Calls Tryz.prog 118 #[.pointer (some ⟨pb, 0, none⟩), .agg #[.float .f64 pl, .float .f64 ph], .agg #[.float .f64 ql, .float .f64 qh], .agg #[.float .f64 sl, .float .f64 sh], .agg #[.float .f64 ul, .float .f64 uh]] w fun r w' => r = .returned (.agg #[.float .f64 m2l, .float .f64 m2h]) ∧ Put ⟨pb, 0, none⟩ (.int .i64 e3) w w' := by
  have lp : pb < w.heap.size := hC.1
  have E := Lib.hid ((((((EnvE.start hC).made #[.float .f64 pl, .float .f64 ph] 24).made #[.float .f64 ql, .float .f64 qh] 24).made #[.float .f64 sl, .float .f64 sh] 24).made #[.float .f64 ul, .float .f64 uh] 24).made #[.float .f64 0, .float .f64 0] 24)
  simp only [World.size_alloc] at E
  clear hC
  obtain ⟨k1, k2⟩ := (E.out.nth 4 rfl).two
  obtain ⟨k3, k4⟩ := (E.out.nth 3 rfl).two
  go_enter Tryz.func118, Tryz.ntmps118
  go_wp2_with fail
  refine (d0.out _ E.out.cal).mono ?_
  rintro r u0 ⟨rfl, hp⟩
  have E' := Lib.hid ((E.out.putc hp).made #[.float .f64 m0l, .float .f64 m0h] 24)
  clear E hp k1 k2 k3 k4
  have E := E'
  clear E'
  obtain ⟨k1, k2⟩ := (E.out.nth 3 rfl).two
  obtain ⟨k3, k4⟩ := (E.out.nth 2 rfl).two
  go_wp2_with fail
  refine (d1.out _ E.out.cal).mono ?_
  rintro r u1 ⟨rfl, hp⟩
  have E' := Lib.hid ((E.out.putc hp).made #[.float .f64 m1l, .float .f64 m1h] 24)
  clear E hp k1 k2 k3 k4
  have E := E'
  clear E'
  obtain ⟨k1, k2⟩ := (E.out.nth 1 rfl).two
  obtain ⟨k3, k4⟩ := (E.out.nth 0 rfl).two
  go_wp2_with fail
  refine (d2.out _ E.out.cal).mono ?_
  rintro r u2 ⟨rfl, hp⟩
  have E' := Lib.hid (E.out.putc hp)
  clear E hp k1 k2 k3 k4
  have E := E'
  clear E'
  have kc := (E.out.nth 2 rfl).2.1
  have kf := (E.out.nth 2 rfl).2.2
  have F := Lib.hid (E.out.set2 (E.out.nth 2 rfl) (E.out.ne 2 rfl) (by omega) (.float .f64 m2l) (.float .f64 m2h))
  go_wp2
  obtain ⟨f1, f2⟩ := (F.out.nth 0 rfl).two
  exact bodyPost_ret (v := .agg #[.float .f64 m2l, .float .f64 m2h]) (by simp [results, Tryz.results118, go_sem, f1, f2]) rfl ⟨rfl, F.out.put⟩

set_option maxRecDepth 100000 in
set_option maxHeartbeats 4000000 in
theorem rvcross_walk (axl axh ayl ayh azl azh bxl bxh byl byh bzl bzh m0l m0h m1l m1h m2l m2h : Nat) (e e1 e2 e3 : Int) (pb : Nat) (w : World) (hC : Has1 w (pb, #[.int .i64 e]))
    (d0 : Hid (CE4 118 pb e e1 ayl ayh bzl bzh azl azh byl byh m0l m0h))
    (d1 : Hid (CE4 118 pb e1 e2 azl azh bxl bxh axl axh bzl bzh m1l m1h))
    (d2 : Hid (CE4 118 pb e2 e3 axl axh byl byh ayl ayh bxl bxh m2l m2h)) :
    Calls Tryz.prog 58 #[.pointer (some ⟨pb, 0, none⟩), .agg #[.float .f64 axl, .float .f64 axh, .float .f64 ayl, .float .f64 ayh, .float .f64 azl, .float .f64 azh], .agg #[.float .f64 bxl, .float .f64 bxh, .float .f64 byl, .float .f64 byh, .float .f64 bzl, .float .f64 bzh]] w fun r w' => r = .returned (.agg #[.float .f64 m0l, .float .f64 m0h, .float .f64 m1l, .float .f64 m1h, .float .f64 m2l, .float .f64 m2h]) ∧ Put ⟨pb, 0, none⟩ (.int .i64 e3) w w' := by
  have lp : pb < w.heap.size := hC.1
  have E := Lib.hid ((((EnvE.start hC).made #[.float .f64 axl, .float .f64 axh, .float .f64 ayl, .float .f64 ayh, .float .f64 azl, .float .f64 azh] 34).made #[.float .f64 bxl, .float .f64 bxh, .float .f64 byl, .float .f64 byh, .float .f64 bzl, .float .f64 bzh] 34).made #[.float .f64 0, .float .f64 0, .float .f64 0, .float .f64 0, .float .f64 0, .float .f64 0] 34)
  simp only [World.size_alloc] at E
  clear hC
  obtain ⟨k1, k2, k3, k4, k5, k6⟩ := (E.out.nth 2 rfl).six
  obtain ⟨k7, k8, k9, k10, k11, k12⟩ := (E.out.nth 1 rfl).six
  go_enter Tryz.func58, Tryz.ntmps58
  go_wp2_with fail
  refine (d0.out _ E.out.cal).mono ?_
  rintro r u0 ⟨rfl, hp⟩
  have E' := Lib.hid ((E.out.putc hp).made #[.float .f64 m0l, .float .f64 m0h] 24)
  clear E hp k1 k2 k3 k4 k5 k6 k7 k8 k9 k10 k11 k12
  have E := E'
  clear E'
  obtain ⟨k1, k2, k3, k4, k5, k6⟩ := (E.out.nth 3 rfl).six
  obtain ⟨k7, k8, k9, k10, k11, k12⟩ := (E.out.nth 2 rfl).six
  go_wp2_with fail
  refine (d1.out _ E.out.cal).mono ?_
  rintro r u1 ⟨rfl, hp⟩
  have E' := Lib.hid ((E.out.putc hp).made #[.float .f64 m1l, .float .f64 m1h] 24)
  clear E hp k1 k2 k3 k4 k5 k6 k7 k8 k9 k10 k11 k12
  have E := E'
  clear E'
  obtain ⟨k1, k2, k3, k4, k5, k6⟩ := (E.out.nth 4 rfl).six
  obtain ⟨k7, k8, k9, k10, k11, k12⟩ := (E.out.nth 3 rfl).six
  go_wp2_with fail
  refine (d2.out _ E.out.cal).mono ?_
  rintro r u2 ⟨rfl, hp⟩
  have E' := Lib.hid ((E.out.putc hp).made #[.float .f64 m2l, .float .f64 m2h] 24)
  clear E hp k1 k2 k3 k4 k5 k6 k7 k8 k9 k10 k11 k12
  have E := E'
  clear E'
  obtain ⟨k1, k2⟩ := (E.out.nth 2 rfl).two
  obtain ⟨k3, k4⟩ := (E.out.nth 1 rfl).two
  obtain ⟨k5, k6⟩ := (E.out.nth 0 rfl).two
  have kc := (E.out.nth 3 rfl).2.1
  have kf := (E.out.nth 3 rfl).2.2
  have F := Lib.hid (E.out.set6 (E.out.nth 3 rfl) (E.out.ne 3 rfl) (by omega) (.float .f64 m0l) (.float .f64 m0h) (.float .f64 m1l) (.float .f64 m1h) (.float .f64 m2l) (.float .f64 m2h))
  go_wp2
  obtain ⟨f1, f2, f3, f4, f5, f6⟩ := (F.out.nth 0 rfl).six
  exact bodyPost_ret (v := .agg #[.float .f64 m0l, .float .f64 m0h, .float .f64 m1l, .float .f64 m1h, .float .f64 m2l, .float .f64 m2h]) (by simp [results, Tryz.results58, go_sem, f1, f2, f3, f4, f5, f6]) rfl ⟨rfl, F.out.put⟩

set_option maxRecDepth 100000 in
set_option maxHeartbeats 4000000 in
theorem rvnorm_walk (axl axh ayl ayh azl azh m0l m0h m1l m1h m2l m2h m3l m3h m4l m4h m5l m5h : Nat) (e e1 e2 e3 e4 e5 e6 : Int) (pb : Nat) (w : World) (hC : Has1 w (pb, #[.int .i64 e]))
    (d0 : Hid (CE1 72 pb e e1 axl axh m0l m0h))
    (d1 : Hid (CE1 72 pb e1 e2 ayl ayh m1l m1h))
    (d2 : Hid (CE2 70 pb e2 e3 m0l m0h m1l m1h m2l m2h))
    (d3 : Hid (CE1 72 pb e3 e4 azl azh m3l m3h))
    (d4 : Hid (CE2 70 pb e4 e5 m2l m2h m3l m3h m4l m4h))
    (d5 : Hid (CE1 73 pb e5 e6 m4l m4h m5l m5h)) :
    Calls Tryz.prog 45 #[.pointer (some ⟨pb, 0, none⟩), .agg #[.float .f64 axl, .float .f64 axh, .float .f64 ayl, .float .f64 ayh, .float .f64 azl, .float .f64 azh]] w fun r w' => r = .returned (.agg #[.float .f64 m5l, .float .f64 m5h]) ∧ Put ⟨pb, 0, none⟩ (.int .i64 e6) w w' := by
  have lp : pb < w.heap.size := hC.1
  have E := Lib.hid (((EnvE.start hC).made #[.float .f64 axl, .float .f64 axh, .float .f64 ayl, .float .f64 ayh, .float .f64 azl, .float .f64 azh] 34).made #[.float .f64 0, .float .f64 0] 24)
  simp only [World.size_alloc] at E
  clear hC
  obtain ⟨k1, k2, k3, k4, k5, k6⟩ := (E.out.nth 1 rfl).six
  go_enter Tryz.func45, Tryz.ntmps45
  go_wp2_with fail
  refine (d0.out _ E.out.cal).mono ?_
  rintro r u0 ⟨rfl, hp⟩
  have E' := Lib.hid ((E.out.putc hp).made #[.float .f64 m0l, .float .f64 m0h] 24)
  clear E hp k1 k2 k3 k4 k5 k6
  have E := E'
  clear E'
  obtain ⟨k1, k2, k3, k4, k5, k6⟩ := (E.out.nth 2 rfl).six
  go_wp2_with fail
  refine (d1.out _ E.out.cal).mono ?_
  rintro r u1 ⟨rfl, hp⟩
  have E' := Lib.hid ((E.out.putc hp).made #[.float .f64 m1l, .float .f64 m1h] 24)
  clear E hp k1 k2 k3 k4 k5 k6
  have E := E'
  clear E'
  obtain ⟨k1, k2⟩ := (E.out.nth 1 rfl).two
  obtain ⟨k3, k4⟩ := (E.out.nth 0 rfl).two
  go_wp2_with fail
  refine (d2.out _ E.out.cal).mono ?_
  rintro r u2 ⟨rfl, hp⟩
  have E' := Lib.hid ((E.out.putc hp).made #[.float .f64 m2l, .float .f64 m2h] 24)
  clear E hp k1 k2 k3 k4
  have E := E'
  clear E'
  obtain ⟨k1, k2, k3, k4, k5, k6⟩ := (E.out.nth 4 rfl).six
  go_wp2_with fail
  refine (d3.out _ E.out.cal).mono ?_
  rintro r u3 ⟨rfl, hp⟩
  have E' := Lib.hid ((E.out.putc hp).made #[.float .f64 m3l, .float .f64 m3h] 24)
  clear E hp k1 k2 k3 k4 k5 k6
  have E := E'
  clear E'
  obtain ⟨k1, k2⟩ := (E.out.nth 1 rfl).two
  obtain ⟨k3, k4⟩ := (E.out.nth 0 rfl).two
  go_wp2_with fail
  refine (d4.out _ E.out.cal).mono ?_
  rintro r u4 ⟨rfl, hp⟩
  have E' := Lib.hid (E.out.putc hp)
  clear E hp k1 k2 k3 k4
  have E := E'
  clear E'
  go_wp2_with fail
  refine (d5.out _ E.out.cal).mono ?_
  rintro r u5 ⟨rfl, hp⟩
  have E' := Lib.hid (E.out.putc hp)
  clear E hp 
  have E := E'
  clear E'
  have kc := (E.out.nth 4 rfl).2.1
  have kf := (E.out.nth 4 rfl).2.2
  have F := Lib.hid (E.out.set2 (E.out.nth 4 rfl) (E.out.ne 4 rfl) (by omega) (.float .f64 m5l) (.float .f64 m5h))
  go_wp2
  obtain ⟨f1, f2⟩ := (F.out.nth 0 rfl).two
  exact bodyPost_ret (v := .agg #[.float .f64 m5l, .float .f64 m5h]) (by simp [results, Tryz.results45, go_sem, f1, f2]) rfl ⟨rfl, F.out.put⟩

section
variable {a b : V3} {k : Res} (e : Int) (ha : WdV a) (hb : WdV b) (hk : Wd k)
include ha hb in
theorem rvadd_any (pb : Nat) (v : World) (hC : Has1 v (pb, #[.int .i64 e])) :
    Calls Tryz.prog 54 #[.pointer (some ⟨pb, 0, none⟩), .agg #[.float .f64 a.x.lo, .float .f64 a.x.hi, .float .f64 a.y.lo, .float .f64 a.y.hi, .float .f64 a.z.lo, .float .f64 a.z.hi], .agg #[.float .f64 b.x.lo, .float .f64 b.x.hi, .float .f64 b.y.lo, .float .f64 b.y.hi, .float .f64 b.z.lo, .float .f64 b.z.hi]] v
      fun r w' => r = .returned (.agg #[.float .f64 (addV e a b).x.lo, .float .f64 (addV e a b).x.hi, .float .f64 (addV e a b).y.lo, .float .f64 (addV e a b).y.hi, .float .f64 (addV e a b).z.lo, .float .f64 (addV e a b).z.hi]) ∧ Put ⟨pb, 0, none⟩ (.int .i64 (addV e a b).z.e) v w' := by
  exact rvadd_walk _ _ _ _ _ _ _ _ _ _ _ _ _ _ _ _ _ _ e _ _ _ pb v hC (Lib.hid (rce_add e ha.x hb.x pb)) (Lib.hid (rce_add _ ha.y hb.y pb)) (Lib.hid (rce_add _ ha.z hb.z pb))
include ha hb in
theorem rvsub_any (pb : Nat) (v : World) (hC : Has1 v (pb, #[.int .i64 e])) :
    Calls Tryz.prog 55 #[.pointer (some ⟨pb, 0, none⟩), .agg #[.float .f64 a.x.lo, .float .f64 a.x.hi, .float .f64 a.y.lo, .float .f64 a.y.hi, .float .f64 a.z.lo, .float .f64 a.z.hi], .agg #[.float .f64 b.x.lo, .float .f64 b.x.hi, .float .f64 b.y.lo, .float .f64 b.y.hi, .float .f64 b.z.lo, .float .f64 b.z.hi]] v
      fun r w' => r = .returned (.agg #[.float .f64 (subV e a b).x.lo, .float .f64 (subV e a b).x.hi, .float .f64 (subV e a b).y.lo, .float .f64 (subV e a b).y.hi, .float .f64 (subV e a b).z.lo, .float .f64 (subV e a b).z.hi]) ∧ Put ⟨pb, 0, none⟩ (.int .i64 (subV e a b).z.e) v w' := by
  exact rvsub_walk _ _ _ _ _ _ _ _ _ _ _ _ _ _ _ _ _ _ e _ _ _ pb v hC (Lib.hid (rce_sub e ha.x hb.x pb)) (Lib.hid (rce_sub _ ha.y hb.y pb)) (Lib.hid (rce_sub _ ha.z hb.z pb))
include ha in
theorem rvneg_any (pb : Nat) (v : World) (hC : Has1 v (pb, #[.int .i64 e])) :
    Calls Tryz.prog 56 #[.pointer (some ⟨pb, 0, none⟩), .agg #[.float .f64 a.x.lo, .float .f64 a.x.hi, .float .f64 a.y.lo, .float .f64 a.y.hi, .float .f64 a.z.lo, .float .f64 a.z.hi]] v
      fun r w' => r = .returned (.agg #[.float .f64 (negV e a).x.lo, .float .f64 (negV e a).x.hi, .float .f64 (negV e a).y.lo, .float .f64 (negV e a).y.hi, .float .f64 (negV e a).z.lo, .float .f64 (negV e a).z.hi]) ∧ Put ⟨pb, 0, none⟩ (.int .i64 (negV e a).z.e) v w' := by
  exact rvneg_walk _ _ _ _ _ _ _ _ _ _ _ _ e _ _ _ pb v hC (Lib.hid (rce_neg e ha.x pb)) (Lib.hid (rce_neg _ ha.y pb)) (Lib.hid (rce_neg _ ha.z pb))
include ha hk in
theorem rvscale_any (pb : Nat) (v : World) (hC : Has1 v (pb, #[.int .i64 e])) :
    Calls Tryz.prog 57 #[.pointer (some ⟨pb, 0, none⟩), .agg #[.float .f64 k.lo, .float .f64 k.hi], .agg #[.float .f64 a.x.lo, .float .f64 a.x.hi, .float .f64 a.y.lo, .float .f64 a.y.hi, .float .f64 a.z.lo, .float .f64 a.z.hi]] v
      fun r w' => r = .returned (.agg #[.float .f64 (scaleV e k a).x.lo, .float .f64 (scaleV e k a).x.hi, .float .f64 (scaleV e k a).y.lo, .float .f64 (scaleV e k a).y.hi, .float .f64 (scaleV e k a).z.lo, .float .f64 (scaleV e k a).z.hi]) ∧ Put ⟨pb, 0, none⟩ (.int .i64 (scaleV e k a).z.e) v w' := by
  exact rvscale_walk _ _ _ _ _ _ _ _ _ _ _ _ _ _ e _ _ _ pb v hC (Lib.hid (rce_mul e hk ha.x pb)) (Lib.hid (rce_mul _ hk ha.y pb)) (Lib.hid (rce_mul _ hk ha.z pb))
include ha hb in
theorem rvdot_any (pb : Nat) (v : World) (hC : Has1 v (pb, #[.int .i64 e])) :
    Calls Tryz.prog 59 #[.pointer (some ⟨pb, 0, none⟩), .agg #[.float .f64 a.x.lo, .float .f64 a.x.hi, .float .f64 a.y.lo, .float .f64 a.y.hi, .float .f64 a.z.lo, .float .f64 a.z.hi], .agg #[.float .f64 b.x.lo, .float .f64 b.x.hi, .float .f64 b.y.lo, .float .f64 b.y.hi, .float .f64 b.z.lo, .float .f64 b.z.hi]] v
      fun r w' => r = .returned (.agg #[.float .f64 (dotV e a b).lo, .float .f64 (dotV e a b).hi]) ∧ Put ⟨pb, 0, none⟩ (.int .i64 (dotV e a b).e) v w' := by
  have m1 := stM_wd e ha.x hb.x
  have m2 := stM_wd (dot1 e a b).e ha.y hb.y
  have m3 := stA_wd (dot2 e a b).e m1 m2
  have m4 := stM_wd (dot3 e a b).e ha.z hb.z
  exact rvdot_walk _ _ _ _ _ _ _ _ _ _ _ _ _ _ _ _ _ _ _ _ _ _ e _ _ _ _ _ pb v hC (Lib.hid (rce_mul e ha.x hb.x pb)) (Lib.hid (rce_mul _ ha.y hb.y pb)) (Lib.hid (rce_add _ m1 m2 pb)) (Lib.hid (rce_mul _ ha.z hb.z pb)) (Lib.hid (rce_add _ m3 m4 pb))
include ha in
theorem rvnorm_any (pb : Nat) (v : World) (hC : Has1 v (pb, #[.int .i64 e])) :
    Calls Tryz.prog 45 #[.pointer (some ⟨pb, 0, none⟩), .agg #[.float .f64 a.x.lo, .float .f64 a.x.hi, .float .f64 a.y.lo, .float .f64 a.y.hi, .float .f64 a.z.lo, .float .f64 a.z.hi]] v
      fun r w' => r = .returned (.agg #[.float .f64 (normV e a).lo, .float .f64 (normV e a).hi]) ∧ Put ⟨pb, 0, none⟩ (.int .i64 (normV e a).e) v w' := by
  have m1 := stQ_wd e ha.x
  have m2 := stQ_wd (nrm1 e a).e ha.y
  have m3 := stA_wd (nrm2 e a).e m1 m2
  have m4 := stQ_wd (nrm3 e a).e ha.z
  have m5 := stA_wd (nrm4 e a).e m3 m4
  exact rvnorm_walk _ _ _ _ _ _ _ _ _ _ _ _ _ _ _ _ _ _ e _ _ _ _ _ _ pb v hC (Lib.hid (rce_sqr e ha.x pb)) (Lib.hid (rce_sqr _ ha.y pb)) (Lib.hid (rce_add _ m1 m2 pb)) (Lib.hid (rce_sqr _ ha.z pb)) (Lib.hid (rce_add _ m3 m4 pb)) (Lib.hid (rce_sqrt _ m5 pb))
end
theorem rless_any (e : Int) {p q s u : Res} (hp : Wd p) (hq : Wd q) (hs : Wd s) (hu : Wd u) (pb : Nat) : CE4 118 pb e (across e p q s u).e p.lo p.hi q.lo q.hi s.lo s.hi u.lo u.hi (across e p q s u).lo (across e p q s u).hi := fun v hC =>
  rvless_walk _ _ _ _ _ _ _ _ _ _ _ _ _ _ e _ _ _ pb v hC (Lib.hid (rce_mul e hp hq pb)) (Lib.hid (rce_mul _ hs hu pb)) (Lib.hid (rce_sub _ (stM_wd e hp hq) (stM_wd _ hs hu) pb))
theorem rvcross_any {a b : V3} (e : Int) (ha : WdV a) (hb : WdV b) (pb : Nat) (v : World) (hC : Has1 v (pb, #[.int .i64 e])) :
    Calls Tryz.prog 58 #[.pointer (some ⟨pb, 0, none⟩), .agg #[.float .f64 a.x.lo, .float .f64 a.x.hi, .float .f64 a.y.lo, .float .f64 a.y.hi, .float .f64 a.z.lo, .float .f64 a.z.hi], .agg #[.float .f64 b.x.lo, .float .f64 b.x.hi, .float .f64 b.y.lo, .float .f64 b.y.hi, .float .f64 b.z.lo, .float .f64 b.z.hi]] v fun r w' => r = .returned (.agg #[.float .f64 (crossV e a b).x.lo, .float .f64 (crossV e a b).x.hi, .float .f64 (crossV e a b).y.lo, .float .f64 (crossV e a b).y.hi, .float .f64 (crossV e a b).z.lo, .float .f64 (crossV e a b).z.hi]) ∧ Put ⟨pb, 0, none⟩ (.int .i64 (crossV e a b).z.e) v w' :=
  rvcross_walk _ _ _ _ _ _ _ _ _ _ _ _ _ _ _ _ _ _ e _ _ _ pb v hC (Lib.hid (rless_any e ha.y hb.z ha.z hb.y pb)) (Lib.hid (rless_any _ ha.z hb.x ha.x hb.z pb)) (Lib.hid (rless_any _ ha.x hb.y ha.y hb.x pb))

end Go.Proofs.YtcfgahlaiiibiaaGreat

namespace Go.Proofs.YtcfgahlaiiibiaaGreat
open Go.RowKit
attribute [local go_sem] run_store_float

set_option maxRecDepth 100000 in
set_option maxHeartbeats 4000000 in
theorem told_0 (a1 a2 a3 a4 a5 a6 b1 b2 b3 b4 b5 b6 kl kh r1 r2 r3 r4 r5 r6 : Nat) (e e1 : Int) (pb : Nat) (w : World) (hC : Has1 w (pb, #[.int .i64 e]))
    (cF : Hid (∀ v : World, Has1 v (pb, #[.int .i64 e]) → Calls Tryz.prog 54 #[.pointer (some ⟨pb, 0, none⟩), .agg #[.float .f64 a1, .float .f64 a2, .float .f64 a3, .float .f64 a4, .float .f64 a5, .float .f64 a6], .agg #[.float .f64 b1, .float .f64 b2, .float .f64 b3, .float .f64 b4, .float .f64 b5, .float .f64 b6]] v fun r w' => r = .returned (.agg #[.float .f64 r1, .float .f64 r2, .float .f64 r3, .float .f64 r4, .float .f64 r5, .float .f64 r6]) ∧ Put ⟨pb, 0, none⟩ (.int .i64 e1) v w')) :
    Calls Tryz.prog 14 #[.int .i64 0, .pointer (some ⟨pb, 0, none⟩), .agg #[.float .f64 a1, .float .f64 a2, .float .f64 a3, .float .f64 a4, .float .f64 a5, .float .f64 a6], .agg #[.float .f64 b1, .float .f64 b2, .float .f64 b3, .float .f64 b4, .float .f64 b5, .float .f64 b6], .agg #[.float .f64 kl, .float .f64 kh]] w fun r w' => r = .returned (.tuple #[.agg #[.float .f64 r1, .float .f64 r2, .float .f64 r3, .float .f64 r4, .float .f64 r5, .float .f64 r6], .agg #[.float .f64 0, .float .f64 0]]) ∧ Put ⟨pb, 0, none⟩ (.int .i64 e1) w w' := by
  have E := Lib.hid (((((EnvE.start hC).made #[.float .f64 a1, .float .f64 a2, .float .f64 a3, .float .f64 a4, .float .f64 a5, .float .f64 a6] 34).made #[.float .f64 b1, .float .f64 b2, .float .f64 b3, .float .f64 b4, .float .f64 b5, .float .f64 b6] 34).made #[.float .f64 kl, .float .f64 kh] 24).made #[.float .f64 0, .float .f64 0, .float .f64 0, .float .f64 0, .float .f64 0, .float .f64 0] 34)
  have E := Lib.hid (E.out.made #[.float .f64 0, .float .f64 0] 24)
  simp only [World.size_alloc] at E
  have lp : pb < w.heap.size := hC.1
  obtain ⟨k1, k2, k3, k4, k5, k6⟩ := (E.out.nth 4 rfl).six
  obtain ⟨k7, k8, k9, k10, k11, k12⟩ := (E.out.nth 3 rfl).six
  obtain ⟨k13, k14⟩ := (E.out.nth 2 rfl).two
  clear hC
  go_enter Tryz.func14, Tryz.ntmps14
  go_wp2_with fail
  refine (cF.out _ E.out.cal).mono ?_
  rintro r w1 ⟨rfl, hp⟩
  have E1 := Lib.hid (E.out.putc hp)
  clear E hp k1 k2 k3 k4 k5 k6 k7 k8 k9 k10 k11 k12 k13 k14
  have kc := (E1.out.nth 1 rfl).2.1
  have kf := (E1.out.nth 1 rfl).2.2
  have kd := (E1.out.nth 0 rfl).2.1
  have kg := (E1.out.nth 0 rfl).2.2
  have F := Lib.hid (E1.out.set62 (E1.out.nth 1 rfl) (E1.out.nth 0 rfl) (E1.out.ne 1 rfl) (E1.out.ne 0 rfl) (by omega) (by omega) (by omega) (.float .f64 r1) (.float .f64 r2) (.float .f64 r3) (.float .f64 r4) (.float .f64 r5) (.float .f64 r6) (.float .f64 0) (.float .f64 0))
  go_wp2
  obtain ⟨f1, f2, f3, f4, f5, f6⟩ := (F.out.nth 0 rfl).six
  obtain ⟨f7, f8⟩ := (F.out.nth 1 rfl).two
  exact bodyPost_ret (v := .tuple #[.agg #[.float .f64 r1, .float .f64 r2, .float .f64 r3, .float .f64 r4, .float .f64 r5, .float .f64 r6], .agg #[.float .f64 0, .float .f64 0]]) (by simp [results, Tryz.results14, go_sem, f1, f2, f3, f4, f5, f6, f7, f8]) rfl ⟨rfl, F.out.put⟩

set_option maxRecDepth 100000 in
set_option maxHeartbeats 4000000 in
theorem told_1 (a1 a2 a3 a4 a5 a6 b1 b2 b3 b4 b5 b6 kl kh r1 r2 r3 r4 r5 r6 : Nat) (e e1 : Int) (pb : Nat) (w : World) (hC : Has1 w (pb, #[.int .i64 e]))
    (cF : Hid (∀ v : World, Has1 v (pb, #[.int .i64 e]) → Calls Tryz.prog 55 #[.pointer (some ⟨pb, 0, none⟩), .agg #[.float .f64 a1, .float .f64 a2, .float .f64 a3, .float .f64 a4, .float .f64 a5, .float .f64 a6], .agg #[.float .f64 b1, .float .f64 b2, .float .f64 b3, .float .f64 b4, .float .f64 b5, .float .f64 b6]] v fun r w' => r = .returned (.agg #[.float .f64 r1, .float .f64 r2, .float .f64 r3, .float .f64 r4, .float .f64 r5, .float .f64 r6]) ∧ Put ⟨pb, 0, none⟩ (.int .i64 e1) v w')) :
    Calls Tryz.prog 14 #[.int .i64 1, .pointer (some ⟨pb, 0, none⟩), .agg #[.float .f64 a1, .float .f64 a2, .float .f64 a3, .float .f64 a4, .float .f64 a5, .float .f64 a6], .agg #[.float .f64 b1, .float .f64 b2, .float .f64 b3, .float .f64 b4, .float .f64 b5, .float .f64 b6], .agg #[.float .f64 kl, .float .f64 kh]] w fun r w' => r = .returned (.tuple #[.agg #[.float .f64 r1, .float .f64 r2, .float .f64 r3, .float .f64 r4, .float .f64 r5, .float .f64 r6], .agg #[.float .f64 0, .float .f64 0]]) ∧ Put ⟨pb, 0, none⟩ (.int .i64 e1) w w' := by
  have E := Lib.hid (((((EnvE.start hC).made #[.float .f64 a1, .float .f64 a2, .float .f64 a3, .float .f64 a4, .float .f64 a5, .float .f64 a6] 34).made #[.float .f64 b1, .float .f64 b2, .float .f64 b3, .float .f64 b4, .float .f64 b5, .float .f64 b6] 34).made #[.float .f64 kl, .float .f64 kh] 24).made #[.float .f64 0, .float .f64 0, .float .f64 0, .float .f64 0, .float .f64 0, .float .f64 0] 34)
  have E := Lib.hid (E.out.made #[.float .f64 0, .float .f64 0] 24)
  simp only [World.size_alloc] at E
  have lp : pb < w.heap.size := hC.1
  obtain ⟨k1, k2, k3, k4, k5, k6⟩ := (E.out.nth 4 rfl).six
  obtain ⟨k7, k8, k9, k10, k11, k12⟩ := (E.out.nth 3 rfl).six
  obtain ⟨k13, k14⟩ := (E.out.nth 2 rfl).two
  clear hC
  go_enter Tryz.func14, Tryz.ntmps14
  go_wp2_with fail
  refine (cF.out _ E.out.cal).mono ?_
  rintro r w1 ⟨rfl, hp⟩
  have E1 := Lib.hid (E.out.putc hp)
  clear E hp k1 k2 k3 k4 k5 k6 k7 k8 k9 k10 k11 k12 k13 k14
  have kc := (E1.out.nth 1 rfl).2.1
  have kf := (E1.out.nth 1 rfl).2.2
  have kd := (E1.out.nth 0 rfl).2.1
  have kg := (E1.out.nth 0 rfl).2.2
  have F := Lib.hid (E1.out.set62 (E1.out.nth 1 rfl) (E1.out.nth 0 rfl) (E1.out.ne 1 rfl) (E1.out.ne 0 rfl) (by omega) (by omega) (by omega) (.float .f64 r1) (.float .f64 r2) (.float .f64 r3) (.float .f64 r4) (.float .f64 r5) (.float .f64 r6) (.float .f64 0) (.float .f64 0))
  go_wp2
  obtain ⟨f1, f2, f3, f4, f5, f6⟩ := (F.out.nth 0 rfl).six
  obtain ⟨f7, f8⟩ := (F.out.nth 1 rfl).two
  exact bodyPost_ret (v := .tuple #[.agg #[.float .f64 r1, .float .f64 r2, .float .f64 r3, .float .f64 r4, .float .f64 r5, .float .f64 r6], .agg #[.float .f64 0, .float .f64 0]]) (by simp [results, Tryz.results14, go_sem, f1, f2, f3, f4, f5, f6, f7, f8]) rfl ⟨rfl, F.out.put⟩

set_option maxRecDepth 100000 in
set_option maxHeartbeats 4000000 in
theorem told_2 (a1 a2 a3 a4 a5 a6 b1 b2 b3 b4 b5 b6 kl kh r1 r2 r3 r4 r5 r6 : Nat) (e e1 : Int) (pb : Nat) (w : World) (hC : Has1 w (pb, #[.int .i64 e]))
    (cF : Hid (∀ v : World, Has1 v (pb, #[.int .i64 e]) → Calls Tryz.prog 56 #[.pointer (some ⟨pb, 0, none⟩), .agg #[.float .f64 a1, .float .f64 a2, .float .f64 a3, .float .f64 a4, .float .f64 a5, .float .f64 a6]] v fun r w' => r = .returned (.agg #[.float .f64 r1, .float .f64 r2, .float .f64 r3, .float .f64 r4, .float .f64 r5, .float .f64 r6]) ∧ Put ⟨pb, 0, none⟩ (.int .i64 e1) v w')) :
    Calls Tryz.prog 14 #[.int .i64 2, .pointer (some ⟨pb, 0, none⟩), .agg #[.float .f64 a1, .float .f64 a2, .float .f64 a3, .float .f64 a4, .float .f64 a5, .float .f64 a6], .agg #[.float .f64 b1, .float .f64 b2, .float .f64 b3, .float .f64 b4, .float .f64 b5, .float .f64 b6], .agg #[.float .f64 kl, .float .f64 kh]] w fun r w' => r = .returned (.tuple #[.agg #[.float .f64 r1, .float .f64 r2, .float .f64 r3, .float .f64 r4, .float .f64 r5, .float .f64 r6], .agg #[.float .f64 0, .float .f64 0]]) ∧ Put ⟨pb, 0, none⟩ (.int .i64 e1) w w' := by
  have E := Lib.hid (((((EnvE.start hC).made #[.float .f64 a1, .float .f64 a2, .float .f64 a3, .float .f64 a4, .float .f64 a5, .float .f64 a6] 34).made #[.float .f64 b1, .float .f64 b2, .float .f64 b3, .float .f64 b4, .float .f64 b5, .float .f64 b6] 34).made #[.float .f64 kl, .float .f64 kh] 24).made #[.float .f64 0, .float .f64 0, .float .f64 0, .float .f64 0, .float .f64 0, .float .f64 0] 34)
  have E := Lib.hid (E.out.made #[.float .f64 0, .float .f64 0] 24)
  simp only [World.size_alloc] at E
  have lp : pb < w.heap.size := hC.1
  obtain ⟨k1, k2, k3, k4, k5, k6⟩ := (E.out.nth 4 rfl).six
  obtain ⟨k7, k8, k9, k10, k11, k12⟩ := (E.out.nth 3 rfl).six
  obtain ⟨k13, k14⟩ := (E.out.nth 2 rfl).two
  clear hC
  go_enter Tryz.func14, Tryz.ntmps14
  go_wp2_with fail
  refine (cF.out _ E.out.cal).mono ?_
  rintro r w1 ⟨rfl, hp⟩
  have E1 := Lib.hid (E.out.putc hp)
  clear E hp k1 k2 k3 k4 k5 k6 k7 k8 k9 k10 k11 k12 k13 k14
  have kc := (E1.out.nth 1 rfl).2.1
  have kf := (E1.out.nth 1 rfl).2.2
  have kd := (E1.out.nth 0 rfl).2.1
  have kg := (E1.out.nth 0 rfl).2.2
  have F := Lib.hid (E1.out.set62 (E1.out.nth 1 rfl) (E1.out.nth 0 rfl) (E1.out.ne 1 rfl) (E1.out.ne 0 rfl) (by omega) (by omega) (by omega) (.float .f64 r1) (.float .f64 r2) (.float .f64 r3) (.float .f64 r4) (.float .f64 r5) (.float .f64 r6) (.float .f64 0) (.float .f64 0))
  go_wp2
  obtain ⟨f1, f2, f3, f4, f5, f6⟩ := (F.out.nth 0 rfl).six
  obtain ⟨f7, f8⟩ := (F.out.nth 1 rfl).two
  exact bodyPost_ret (v := .tuple #[.agg #[.float .f64 r1, .float .f64 r2, .float .f64 r3, .float .f64 r4, .float .f64 r5, .float .f64 r6], .agg #[.float .f64 0, .float .f64 0]]) (by simp [results, Tryz.results14, go_sem, f1, f2, f3, f4, f5, f6, f7, f8]) rfl ⟨rfl, F.out.put⟩

set_option maxRecDepth 100000 in
set_option maxHeartbeats 4000000 in
theorem told_3 (a1 a2 a3 a4 a5 a6 b1 b2 b3 b4 b5 b6 kl kh r1 r2 r3 r4 r5 r6 : Nat) (e e1 : Int) (pb : Nat) (w : World) (hC : Has1 w (pb, #[.int .i64 e]))
    (cF : Hid (∀ v : World, Has1 v (pb, #[.int .i64 e]) → Calls Tryz.prog 57 #[.pointer (some ⟨pb, 0, none⟩), .agg #[.float .f64 kl, .float .f64 kh], .agg #[.float .f64 a1, .float .f64 a2, .float .f64 a3, .float .f64 a4, .float .f64 a5, .float .f64 a6]] v fun r w' => r = .returned (.agg #[.float .f64 r1, .float .f64 r2, .float .f64 r3, .float .f64 r4, .float .f64 r5, .float .f64 r6]) ∧ Put ⟨pb, 0, none⟩ (.int .i64 e1) v w')) :
    Calls Tryz.prog 14 #[.int .i64 3, .pointer (some ⟨pb, 0, none⟩), .agg #[.float .f64 a1, .float .f64 a2, .float .f64 a3, .float .f64 a4, .float .f64 a5, .float .f64 a6], .agg #[.float .f64 b1, .float .f64 b2, .float .f64 b3, .float .f64 b4, .float .f64 b5, .float .f64 b6], .agg #[.float .f64 kl, .float .f64 kh]] w fun r w' => r = .returned (.tuple #[.agg #[.float .f64 r1, .float .f64 r2, .float .f64 r3, .float .f64 r4, .float .f64 r5, .float .f64 r6], .agg #[.float .f64 0, .float .f64 0]]) ∧ Put ⟨pb, 0, none⟩ (.int .i64 e1) w w' := by
  have E := Lib.hid (((((EnvE.start hC).made #[.float .f64 a1, .float .f64 a2, .float .f64 a3, .float .f64 a4, .float .f64 a5, .float .f64 a6] 34).made #[.float .f64 b1, .float .f64 b2, .float .f64 b3, .float .f64 b4, .float .f64 b5, .float .f64 b6] 34).made #[.float .f64 kl, .float .f64 kh] 24).made #[.float .f64 0, .float .f64 0, .float .f64 0, .float .f64 0, .float .f64 0, .float .f64 0] 34)
  have E := Lib.hid (E.out.made #[.float .f64 0, .float .f64 0] 24)
  simp only [World.size_alloc] at E
  have lp : pb < w.heap.size := hC.1
  obtain ⟨k1, k2, k3, k4, k5, k6⟩ := (E.out.nth 4 rfl).six
  obtain ⟨k7, k8, k9, k10, k11, k12⟩ := (E.out.nth 3 rfl).six
  obtain ⟨k13, k14⟩ := (E.out.nth 2 rfl).two
  clear hC
  go_enter Tryz.func14, Tryz.ntmps14
  go_wp2_with fail
  refine (cF.out _ E.out.cal).mono ?_
  rintro r w1 ⟨rfl, hp⟩
  have E1 := Lib.hid (E.out.putc hp)
  clear E hp k1 k2 k3 k4 k5 k6 k7 k8 k9 k10 k11 k12 k13 k14
  have kc := (E1.out.nth 1 rfl).2.1
  have kf := (E1.out.nth 1 rfl).2.2
  have kd := (E1.out.nth 0 rfl).2.1
  have kg := (E1.out.nth 0 rfl).2.2
  have F := Lib.hid (E1.out.set62 (E1.out.nth 1 rfl) (E1.out.nth 0 rfl) (E1.out.ne 1 rfl) (E1.out.ne 0 rfl) (by omega) (by omega) (by omega) (.float .f64 r1) (.float .f64 r2) (.float .f64 r3) (.float .f64 r4) (.float .f64 r5) (.float .f64 r6) (.float .f64 0) (.float .f64 0))
  go_wp2
  obtain ⟨f1, f2, f3, f4, f5, f6⟩ := (F.out.nth 0 rfl).six
  obtain ⟨f7, f8⟩ := (F.out.nth 1 rfl).two
  exact bodyPost_ret (v := .tuple #[.agg #[.float .f64 r1, .float .f64 r2, .float .f64 r3, .float .f64 r4, .float .f64 r5, .float .f64 r6], .agg #[.float .f64 0, .float .f64 0]]) (by simp [results, Tryz.results14, go_sem, f1, f2, f3, f4, f5, f6, f7, f8]) rfl ⟨rfl, F.out.put⟩

set_option maxRecDepth 100000 in
set_option maxHeartbeats 4000000 in
theorem told_4 (a1 a2 a3 a4 a5 a6 b1 b2 b3 b4 b5 b6 kl kh r1 r2 r3 r4 r5 r6 : Nat) (e e1 : Int) (pb : Nat) (w : World) (hC : Has1 w (pb, #[.int .i64 e]))
    (cF : Hid (∀ v : World, Has1 v (pb, #[.int .i64 e]) → Calls Tryz.prog 58 #[.pointer (some ⟨pb, 0, none⟩), .agg #[.float .f64 a1, .float .f64 a2, .float .f64 a3, .float .f64 a4, .float .f64 a5, .float .f64 a6], .agg #[.float .f64 b1, .float .f64 b2, .float .f64 b3, .float .f64 b4, .float .f64 b5, .float .f64 b6]] v fun r w' => r = .returned (.agg #[.float .f64 r1, .float .f64 r2, .float .f64 r3, .float .f64 r4, .float .f64 r5, .float .f64 r6]) ∧ Put ⟨pb, 0, none⟩ (.int .i64 e1) v w')) :
    Calls Tryz.prog 14 #[.int .i64 4, .pointer (some ⟨pb, 0, none⟩), .agg #[.float .f64 a1, .float .f64 a2, .float .f64 a3, .float .f64 a4, .float .f64 a5, .float .f64 a6], .agg #[.float .f64 b1, .float .f64 b2, .float .f64 b3, .float .f64 b4, .float .f64 b5, .float .f64 b6], .agg #[.float .f64 kl, .float .f64 kh]] w fun r w' => r = .returned (.tuple #[.agg #[.float .f64 r1, .float .f64 r2, .float .f64 r3, .float .f64 r4, .float .f64 r5, .float .f64 r6], .agg #[.float .f64 0, .float .f64 0]]) ∧ Put ⟨pb, 0, none⟩ (.int .i64 e1) w w' := by
  have E := Lib.hid (((((EnvE.start hC).made #[.float .f64 a1, .float .f64 a2, .float .f64 a3, .float .f64 a4, .float .f64 a5, .float .f64 a6] 34).made #[.float .f64 b1, .float .f64 b2, .float .f64 b3, .float .f64 b4, .float .f64 b5, .float .f64 b6] 34).made #[.float .f64 kl, .float .f64 kh] 24).made #[.float .f64 0, .float .f64 0, .float .f64 0, .float .f64 0, .float .f64 0, .float .f64 0] 34)
  have E := Lib.hid (E.out.made #[.float .f64 0, .float .f64 0] 24)
  simp only [World.size_alloc] at E
  have lp : pb < w.heap.size := hC.1
  obtain ⟨k1, k2, k3, k4, k5, k6⟩ := (E.out.nth 4 rfl).six
  obtain ⟨k7, k8, k9, k10, k11, k12⟩ := (E.out.nth 3 rfl).six
  obtain ⟨k13, k14⟩ := (E.out.nth 2 rfl).two
  clear hC
  go_enter Tryz.func14, Tryz.ntmps14
  go_wp2_with fail
  refine (cF.out _ E.out.cal).mono ?_
  rintro r w1 ⟨rfl, hp⟩
  have E1 := Lib.hid (E.out.putc hp)
  clear E hp k1 k2 k3 k4 k5 k6 k7 k8 k9 k10 k11 k12 k13 k14
  have kc := (E1.out.nth 1 rfl).2.1
  have kf := (E1.out.nth 1 rfl).2.2
  have kd := (E1.out.nth 0 rfl).2.1
  have kg := (E1.out.nth 0 rfl).2.2
  have F := Lib.hid (E1.out.set62 (E1.out.nth 1 rfl) (E1.out.nth 0 rfl) (E1.out.ne 1 rfl) (E1.out.ne 0 rfl) (by omega) (by omega) (by omega) (.float .f64 r1) (.float .f64 r2) (.float .f64 r3) (.float .f64 r4) (.float .f64 r5) (.float .f64 r6) (.float .f64 0) (.float .f64 0))
  go_wp2
  obtain ⟨f1, f2, f3, f4, f5, f6⟩ := (F.out.nth 0 rfl).six
  obtain ⟨f7, f8⟩ := (F.out.nth 1 rfl).two
  exact bodyPost_ret (v := .tuple #[.agg #[.float .f64 r1, .float .f64 r2, .float .f64 r3, .float .f64 r4, .float .f64 r5, .float .f64 r6], .agg #[.float .f64 0, .float .f64 0]]) (by simp [results, Tryz.results14, go_sem, f1, f2, f3, f4, f5, f6, f7, f8]) rfl ⟨rfl, F.out.put⟩

set_option maxRecDepth 100000 in
set_option maxHeartbeats 4000000 in
theorem told_5 (a1 a2 a3 a4 a5 a6 b1 b2 b3 b4 b5 b6 kl kh x1 x2 : Nat) (e e1 : Int) (pb : Nat) (w : World) (hC : Has1 w (pb, #[.int .i64 e]))
    (cF : Hid (∀ v : World, Has1 v (pb, #[.int .i64 e]) → Calls Tryz.prog 59 #[.pointer (some ⟨pb, 0, none⟩), .agg #[.float .f64 a1, .float .f64 a2, .float .f64 a3, .float .f64 a4, .float .f64 a5, .float .f64 a6], .agg #[.float .f64 b1, .float .f64 b2, .float .f64 b3, .float .f64 b4, .float .f64 b5, .float .f64 b6]] v fun r w' => r = .returned (.agg #[.float .f64 x1, .float .f64 x2]) ∧ Put ⟨pb, 0, none⟩ (.int .i64 e1) v w')) :
    Calls Tryz.prog 14 #[.int .i64 5, .pointer (some ⟨pb, 0, none⟩), .agg #[.float .f64 a1, .float .f64 a2, .float .f64 a3, .float .f64 a4, .float .f64 a5, .float .f64 a6], .agg #[.float .f64 b1, .float .f64 b2, .float .f64 b3, .float .f64 b4, .float .f64 b5, .float .f64 b6], .agg #[.float .f64 kl, .float .f64 kh]] w fun r w' => r = .returned (.tuple #[.agg #[.float .f64 0, .float .f64 0, .float .f64 0, .float .f64 0, .float .f64 0, .float .f64 0], .agg #[.float .f64 x1, .float .f64 x2]]) ∧ Put ⟨pb, 0, none⟩ (.int .i64 e1) w w' := by
  have E := Lib.hid (((((EnvE.start hC).made #[.float .f64 a1, .float .f64 a2, .float .f64 a3, .float .f64 a4, .float .f64 a5, .float .f64 a6] 34).made #[.float .f64 b1, .float .f64 b2, .float .f64 b3, .float .f64 b4, .float .f64 b5, .float .f64 b6] 34).made #[.float .f64 kl, .float .f64 kh] 24).made #[.float .f64 0, .float .f64 0, .float .f64 0, .float .f64 0, .float .f64 0, .float .f64 0] 34)
  have E := Lib.hid (E.out.made #[.float .f64 0, .float .f64 0] 24)
  simp only [World.size_alloc] at E
  have lp : pb < w.heap.size := hC.1
  obtain ⟨k1, k2, k3, k4, k5, k6⟩ := (E.out.nth 4 rfl).six
  obtain ⟨k7, k8, k9, k10, k11, k12⟩ := (E.out.nth 3 rfl).six
  obtain ⟨k13, k14⟩ := (E.out.nth 2 rfl).two
  clear hC
  go_enter Tryz.func14, Tryz.ntmps14
  go_wp2_with fail
  refine (cF.out _ E.out.cal).mono ?_
  rintro r w1 ⟨rfl, hp⟩
  have E1 := Lib.hid (E.out.putc hp)
  clear E hp k1 k2 k3 k4 k5 k6 k7 k8 k9 k10 k11 k12 k13 k14
  have kc := (E1.out.nth 1 rfl).2.1
  have kf := (E1.out.nth 1 rfl).2.2
  have kd := (E1.out.nth 0 rfl).2.1
  have kg := (E1.out.nth 0 rfl).2.2
  have F := Lib.hid (E1.out.set62 (E1.out.nth 1 rfl) (E1.out.nth 0 rfl) (E1.out.ne 1 rfl) (E1.out.ne 0 rfl) (by omega) (by omega) (by omega) (.float .f64 0) (.float .f64 0) (.float .f64 0) (.float .f64 0) (.float .f64 0) (.float .f64 0) (.float .f64 x1) (.float .f64 x2))
  go_wp2
  obtain ⟨f1, f2, f3, f4, f5, f6⟩ := (F.out.nth 0 rfl).six
  obtain ⟨f7, f8⟩ := (F.out.nth 1 rfl).two
  exact bodyPost_ret (v := .tuple #[.agg #[.float .f64 0, .float .f64 0, .float .f64 0, .float .f64 0, .float .f64 0, .float .f64 0], .agg #[.float .f64 x1, .float .f64 x2]]) (by simp [results, Tryz.results14, go_sem, f1, f2, f3, f4, f5, f6, f7, f8]) rfl ⟨rfl, F.out.put⟩

set_option maxRecDepth 100000 in
set_option maxHeartbeats 4000000 in
theorem told_6 (a1 a2 a3 a4 a5 a6 b1 b2 b3 b4 b5 b6 kl kh x1 x2 : Nat) (e e1 : Int) (pb : Nat) (w : World) (hC : Has1 w (pb, #[.int .i64 e]))
    (cF : Hid (∀ v : World, Has1 v (pb, #[.int .i64 e]) → Calls Tryz.prog 45 #[.pointer (some ⟨pb, 0, none⟩), .agg #[.float .f64 a1, .float .f64 a2, .float .f64 a3, .float .f64 a4, .float .f64 a5, .float .f64 a6]] v fun r w' => r = .returned (.agg #[.float .f64 x1, .float .f64 x2]) ∧ Put ⟨pb, 0, none⟩ (.int .i64 e1) v w')) :
    Calls Tryz.prog 14 #[.int .i64 6, .pointer (some ⟨pb, 0, none⟩), .agg #[.float .f64 a1, .float .f64 a2, .float .f64 a3, .float .f64 a4, .float .f64 a5, .float .f64 a6], .agg #[.float .f64 b1, .float .f64 b2, .float .f64 b3, .float .f64 b4, .float .f64 b5, .float .f64 b6], .agg #[.float .f64 kl, .float .f64 kh]] w fun r w' => r = .returned (.tuple #[.agg #[.float .f64 0, .float .f64 0, .float .f64 0, .float .f64 0, .float .f64 0, .float .f64 0], .agg #[.float .f64 x1, .float .f64 x2]]) ∧ Put ⟨pb, 0, none⟩ (.int .i64 e1) w w' := by
  have E := Lib.hid (((((EnvE.start hC).made #[.float .f64 a1, .float .f64 a2, .float .f64 a3, .float .f64 a4, .float .f64 a5, .float .f64 a6] 34).made #[.float .f64 b1, .float .f64 b2, .float .f64 b3, .float .f64 b4, .float .f64 b5, .float .f64 b6] 34).made #[.float .f64 kl, .float .f64 kh] 24).made #[.float .f64 0, .float .f64 0, .float .f64 0, .float .f64 0, .float .f64 0, .float .f64 0] 34)
  have E := Lib.hid (E.out.made #[.float .f64 0, .float .f64 0] 24)
  simp only [World.size_alloc] at E
  have lp : pb < w.heap.size := hC.1
  obtain ⟨k1, k2, k3, k4, k5, k6⟩ := (E.out.nth 4 rfl).six
  obtain ⟨k7, k8, k9, k10, k11, k12⟩ := (E.out.nth 3 rfl).six
  obtain ⟨k13, k14⟩ := (E.out.nth 2 rfl).two
  clear hC
  go_enter Tryz.func14, Tryz.ntmps14
  go_wp2_with fail
  refine (cF.out _ E.out.cal).mono ?_
  rintro r w1 ⟨rfl, hp⟩
  have E1 := Lib.hid (E.out.putc hp)
  clear E hp k1 k2 k3 k4 k5 k6 k7 k8 k9 k10 k11 k12 k13 k14
  have kc := (E1.out.nth 1 rfl).2.1
  have kf := (E1.out.nth 1 rfl).2.2
  have kd := (E1.out.nth 0 rfl).2.1
  have kg := (E1.out.nth 0 rfl).2.2
  have F := Lib.hid (E1.out.set62 (E1.out.nth 1 rfl) (E1.out.nth 0 rfl) (E1.out.ne 1 rfl) (E1.out.ne 0 rfl) (by omega) (by omega) (by omega) (.float .f64 0) (.float .f64 0) (.float .f64 0) (.float .f64 0) (.float .f64 0) (.float .f64 0) (.float .f64 x1) (.float .f64 x2))
  go_wp2
  obtain ⟨f1, f2, f3, f4, f5, f6⟩ := (F.out.nth 0 rfl).six
  obtain ⟨f7, f8⟩ := (F.out.nth 1 rfl).two
  exact bodyPost_ret (v := .tuple #[.agg #[.float .f64 0, .float .f64 0, .float .f64 0, .float .f64 0, .float .f64 0, .float .f64 0], .agg #[.float .f64 x1, .float .f64 x2]]) (by simp [results, Tryz.results14, go_sem, f1, f2, f3, f4, f5, f6, f7, f8]) rfl ⟨rfl, F.out.put⟩

set_option maxRecDepth 100000 in
theorem told_any (i : Nat) (hi : i < 7) (e : Int) {a b : V3} {k : Res} (ha : WdV a) (hb : WdV b) (hk : Wd k) (pb : Nat) (v : World) (hC : Has1 v (pb, #[.int .i64 e])) :
    Calls Tryz.prog 14 #[.int .i64 i, .pointer (some ⟨pb, 0, none⟩), .agg #[.float .f64 a.x.lo, .float .f64 a.x.hi, .float .f64 a.y.lo, .float .f64 a.y.hi, .float .f64 a.z.lo, .float .f64 a.z.hi], .agg #[.float .f64 b.x.lo, .float .f64 b.x.hi, .float .f64 b.y.lo, .float .f64 b.y.hi, .float .f64 b.z.lo, .float .f64 b.z.hi], .agg #[.float .f64 k.lo, .float .f64 k.hi]] v
      fun r w' => r = .returned (.tuple #[.agg #[.float .f64 (madeV e a b k i).x.lo, .float .f64 (madeV e a b k i).x.hi, .float .f64 (madeV e a b k i).y.lo, .float .f64 (madeV e a b k i).y.hi, .float .f64 (madeV e a b k i).z.lo, .float .f64 (madeV e a b k i).z.hi], .agg #[.float .f64 (madeR e a b i).lo, .float .f64 (madeR e a b i).hi]]) ∧ Put ⟨pb, 0, none⟩ (.int .i64 (madeE e a b k i)) v w' := by
  rcases (show i = 0 ∨ i = 1 ∨ i = 2 ∨ i = 3 ∨ i = 4 ∨ i = 5 ∨ i = 6 by omega) with rfl | rfl | rfl | rfl | rfl | rfl | rfl
  · rw [mV0, mR0, mE0]
    exact told_0 _ _ _ _ _ _ _ _ _ _ _ _ _ _ _ _ _ _ _ _ e _ pb v hC (Lib.hid fun v hC => rvadd_any e ha hb pb v hC)
  · rw [mV1, mR1, mE1]
    exact told_1 _ _ _ _ _ _ _ _ _ _ _ _ _ _ _ _ _ _ _ _ e _ pb v hC (Lib.hid fun v hC => rvsub_any e ha hb pb v hC)
  · rw [mV2, mR2, mE2]
    exact told_2 _ _ _ _ _ _ _ _ _ _ _ _ _ _ _ _ _ _ _ _ e _ pb v hC (Lib.hid fun v hC => rvneg_any e ha pb v hC)
  · rw [mV3, mR3, mE3]
    exact told_3 _ _ _ _ _ _ _ _ _ _ _ _ _ _ _ _ _ _ _ _ e _ pb v hC (Lib.hid fun v hC => rvscale_any e ha hk pb v hC)
  · rw [mV4, mR4, mE4]
    exact told_4 _ _ _ _ _ _ _ _ _ _ _ _ _ _ _ _ _ _ _ _ e _ pb v hC (Lib.hid fun v hC => rvcross_any e ha hb pb v hC)
  · rw [mV5, mR5, mE5]
    exact told_5 _ _ _ _ _ _ _ _ _ _ _ _ _ _ _ _ e _ pb v hC (Lib.hid fun v hC => rvdot_any e ha hb pb v hC)
  · rw [mV6, mR6, mE6]
    exact told_6 _ _ _ _ _ _ _ _ _ _ _ _ _ _ _ _ e _ pb v hC (Lib.hid fun v hC => rvnorm_any e ha pb v hC)

end Go.Proofs.YtcfgahlaiiibiaaGreat

namespace Go.Proofs.YtcfgahlaiiibiaaGreat
open Go.RowKit
attribute [local go_sem] run_store_float

def boxS : Res := ⟨0, 14118784831806504960, 4895412794951729152⟩
def boxP : Res := ⟨0, 4318952042648305664, 4895412794951729152⟩
def boxM : Res := ⟨0, 14118784831806504960, 13542324079503081472⟩
theorem boxS_fit : Fit boxS := .of (by decide +kernel)
theorem boxP_fit : Fit boxP := .of (by decide +kernel)
theorem boxM_fit : Fit boxM := .of (by decide +kernel)
theorem unit_box {A : V3} (fA : FitV A) (h : (normV 0 A).e = 0) (hd : (divR boxS (normV 0 A)).e = 0) {x y z : Nat} (i : InV (at3 x y z) A) (wx : In (oneR x) boxS) (wy : In (oneR y) boxS) (wz : In (oneR z) boxS) :
    Fit (unitN x y z) ∧ Fit (divR (oneR x) (unitN x y z)) ∧ Fit (divR (oneR y) (unitN x y z)) ∧ Fit (divR (oneR z) (unitN x y z)) := by
  obtain ⟨fN, iN⟩ := normV_in h rfl i fA
  exact ⟨iN.fit, (div_in wx boxS_fit iN fN hd).fit, (div_in wy boxS_fit iN fN hd).fit, (div_in wz boxS_fit iN fN hd).fit⟩
theorem val_side {x : Nat} (rx : rightB x = true) : 0 ≤ val (rung x) ∧ (val x = val (rung x) ∨ val x = -val (rung x)) := by
  obtain ⟨_, _, _, _, p5⟩ := pos_facts (rung x) (right_rung x rx)
  rw [p5]
  refine ⟨by omega, ?_⟩
  cases hs : sgnB x
  · exact Or.inl (val_pos hs)
  · exact Or.inr (val_negs hs)
theorem bigs : val 14118784831806504960 = -val 4895412794951729152 ∧ val 13542324079503081472 = -val 4318952042648305664 ∧ 0 < val 4318952042648305664 := by decide +kernel
theorem in_S {x : Nat} (lx : x < 18446744073709551616) (rx : rightB x = true) (h : val (rung x) ≤ val 4895412794951729152) : In (oneR x) boxS := by
  obtain ⟨s1, s2⟩ := val_side rx
  obtain ⟨b1, b2, b3⟩ := bigs
  refine ⟨one_fit lx rx, ?_, ?_⟩
  · show val 14118784831806504960 ≤ val x
    rw [b1]; omega
  · show val x ≤ val 4895412794951729152
    omega
theorem in_PM {x : Nat} (lx : x < 18446744073709551616) (rx : rightB x = true) (h : val (rung x) ≤ val 4895412794951729152) (g : val 4318952042648305664 ≤ val (rung x)) : In (oneR x) boxP ∨ In (oneR x) boxM := by
  obtain ⟨s1, s2⟩ := val_side rx
  obtain ⟨b1, b2, b3⟩ := bigs
  rcases s2 with s | s
  · refine Or.inl ⟨one_fit lx rx, ?_, ?_⟩
    · show val 4318952042648305664 ≤ val x
      omega
    · show val x ≤ val 4895412794951729152
      omega
  · refine Or.inr ⟨one_fit lx rx, ?_, ?_⟩
    · show val 14118784831806504960 ≤ val x
      rw [b1]; omega
    · show val x ≤ val 13542324079503081472
      rw [b2]; omega
theorem most_val {x y z : Nat} (h1 : rightB x = true) (h2 : rightB y = true) (h3 : rightB z = true) : mostW x y z < 18446744073709551616 ∧ rightB (mostW x y z) = true ∧ val (mostW x y z) = max (max (val (rung x)) (val (rung y))) (val (rung z)) := by
  obtain ⟨p1, p2⟩ := rung_right x h1
  obtain ⟨q1, q2⟩ := rung_right y h2
  obtain ⟨s1, s2⟩ := rung_right z h3
  obtain ⟨m1, m2, m3⟩ := max_facts _ _ p1 q1 p2 q2
  obtain ⟨n1, n2, n3⟩ := max_facts _ _ m1 s1 m2 s2
  refine ⟨n1, n2, ?_⟩
  show val (maxW (maxW (rung x) (rung y)) (rung z)) = _
  rw [n3, m3]
theorem unit_fits (x y z : Nat) (lx : x < 18446744073709551616) (ly : y < 18446744073709551616) (lz : z < 18446744073709551616) (hU : hasU x y z = true) :
    Fit (unitN x y z) ∧ Fit (divR (oneR x) (unitN x y z)) ∧ Fit (divR (oneR y) (unitN x y z)) ∧ Fit (divR (oneR z) (unitN x y z)) := by
  unfold hasU leB at hU
  simp only [Bool.and_eq_true, decide_eq_true_eq] at hU
  obtain ⟨⟨⟨h1, h2⟩, h3⟩, g1, g2⟩ := hU
  obtain ⟨_, _, mv⟩ := most_val h1 h2 h3
  rw [mv] at g1 g2
  have wx := in_S lx h1 (by omega)
  have wy := in_S ly h2 (by omega)
  have wz := in_S lz h3 (by omega)
  have big : val 4318952042648305664 ≤ val (rung x) ∨ val 4318952042648305664 ≤ val (rung y) ∨ val 4318952042648305664 ≤ val (rung z) := by omega
  rcases big with g | g | g
  · rcases in_PM lx h1 (by omega) g with i | i
    · exact unit_box (A := ⟨boxP, boxS, boxS⟩) ⟨boxP_fit, boxS_fit, boxS_fit⟩ (by decide +kernel) (by decide +kernel) ⟨i, wy, wz⟩ wx wy wz
    · exact unit_box (A := ⟨boxM, boxS, boxS⟩) ⟨boxM_fit, boxS_fit, boxS_fit⟩ (by decide +kernel) (by decide +kernel) ⟨i, wy, wz⟩ wx wy wz
  · rcases in_PM ly h2 (by omega) g with i | i
    · exact unit_box (A := ⟨boxS, boxP, boxS⟩) ⟨boxS_fit, boxP_fit, boxS_fit⟩ (by decide +kernel) (by decide +kernel) ⟨wx, i, wz⟩ wx wy wz
    · exact unit_box (A := ⟨boxS, boxM, boxS⟩) ⟨boxS_fit, boxM_fit, boxS_fit⟩ (by decide +kernel) (by decide +kernel) ⟨wx, i, wz⟩ wx wy wz
  · rcases in_PM lz h3 (by omega) g with i | i
    · exact unit_box (A := ⟨boxS, boxS, boxP⟩) ⟨boxS_fit, boxS_fit, boxP_fit⟩ (by decide +kernel) (by decide +kernel) ⟨wx, wy, i⟩ wx wy wz
    · exact unit_box (A := ⟨boxS, boxS, boxM⟩) ⟨boxS_fit, boxS_fit, boxM_fit⟩ (by decide +kernel) (by decide +kernel) ⟨wx, wy, i⟩ wx wy wz

set_option maxRecDepth 100000 in
theorem rwithin_walk (al ah ml mh : Nat) (b : Bool) (w : World)
    (cM : Hid (∀ w, Calls Tryz.prog 112 #[.agg #[.float .f64 al, .float .f64 ah], .agg #[.float .f64 13830554455654793216, .float .f64 4607182418800017408]] w fun r w' => r = .returned (.tuple #[.agg #[.float .f64 ml, .float .f64 mh], .bool b]) ∧ Below w.heap.size w w')) :
    Calls Tryz.prog 46 #[.agg #[.float .f64 al, .float .f64 ah]] w fun r w' => r = .returned (.agg #[.float .f64 ml, .float .f64 mh]) ∧ Below w.heap.size w w' := by
  have M := Lib.hid (((Own.nil w).made #[.float .f64 al, .float .f64 ah] 24).made #[.float .f64 0, .float .f64 0] 24)
  simp only [World.size_alloc] at M
  obtain ⟨k1, k2⟩ := (M.out.nth 1 rfl).two
  go_enter Tryz.func46, Tryz.ntmps46
  go_wp2_with fail
  refine (cM.out _).mono ?_
  rintro r w1 ⟨rfl, hb⟩
  replace M := Lib.hid ((M.out.below hb).made #[.float .f64 ml, .float .f64 mh] 24)
  clear hb k1 k2
  obtain ⟨k1, k2⟩ := (M.out.nth 0 rfl).two
  have kc := (M.out.nth 1 rfl).2.1
  have kf := (M.out.nth 1 rfl).2.2
  replace M := Lib.hid (M.out.set2 1 rfl (.float .f64 ml) (.float .f64 mh))
  go_wp2
  obtain ⟨f1, f2⟩ := (M.out.nth 1 rfl).two
  exact bodyPost_ret (v := .agg #[.float .f64 ml, .float .f64 mh]) (by simp [results, Tryz.results46, go_sem, f1, f2]) rfl ⟨rfl, M.out.base⟩
theorem rwithin_any {q : Res} (fq : Fit q) (w : World) : Calls Tryz.prog 46 #[.agg #[.float .f64 q.lo, .float .f64 q.hi]] w fun r w' => r = .returned (.agg #[.float .f64 (boundR q).lo, .float .f64 (boundR q).hi]) ∧ Below w.heap.size w w' :=
  rwithin_walk q.lo q.hi _ _ _ w (Lib.hid fun w => rMeet_any q.lo q.hi m1 u1 w fq.lo fq.hi (by decide) (by decide) fq.rlo fq.rhi (by decide) (by decide))
theorem rnum_ok {x : Nat} (f : Fit (oneR x)) (pb : Nat) (v : World) (h : Has1 v (pb, #[.int .i64 0])) : Calls Tryz.prog 44 #[.pointer (some ⟨pb, 0, none⟩), .float .f64 x] v fun r w' => r = .returned (.agg #[.float .f64 x, .float .f64 x]) ∧ Put ⟨pb, 0, none⟩ (.int .i64 0) v w' := by
  have c := rNum_any 0 x pb v f.lo h
  have e : stepI 0 true (ofI x) = ⟨0, x, x⟩ := by
    unfold stepI ofI
    rw [if_pos rfl, if_pos rfl, if_pos (show rightB x = true from f.rlo)]
  rw [e] at c
  exact told_none rfl c
theorem rdiv_ok {a b : Res} (fa : Fit a) (fb : Fit b) (fr : Fit (divR a b)) (pb : Nat) (v : World) (h : Has1 v (pb, #[.int .i64 0])) : Calls Tryz.prog 47 #[.pointer (some ⟨pb, 0, none⟩), .agg #[.float .f64 a.lo, .float .f64 a.hi], .agg #[.float .f64 b.lo, .float .f64 b.hi]] v fun r w' => r = .returned (.agg #[.float .f64 (divR a b).lo, .float .f64 (divR a b).hi]) ∧ Put ⟨pb, 0, none⟩ (.int .i64 0) v w' := by
  have c := rDiv_any 0 a.lo a.hi b.lo b.hi pb v fa.lo fa.hi fb.lo fb.hi h
  rw [step_two fa fb] at c
  exact told_none fr.e c
theorem ldexp_down (w : World) : Calls Tryz.prog 43 #[.float .f64 4607182418800017408, .int .i64 (-64)] w fun r w' => r = .returned (.float .f64 4318952042648305664) ∧ w = w' :=
  ldexp_exact 0 1023 0 959 (-64) w (by decide) (by decide) (by decide) (by decide) (by decide) (by decide) (by decide)
theorem ldexp_upp (w : World) : Calls Tryz.prog 43 #[.float .f64 4607182418800017408, .int .i64 64] w fun r w' => r = .returned (.float .f64 4895412794951729152) ∧ w = w' :=
  ldexp_exact 0 1023 0 1087 64 w (by decide) (by decide) (by decide) (by decide) (by decide) (by decide) (by decide)

end Go.Proofs.YtcfgahlaiiibiaaGreat

namespace Go.Proofs.YtcfgahlaiiibiaaGreat
open Go.RowKit
attribute [local go_sem] run_store_float

section
variable {P : Program} {ops : Array Oper} {Q : Exit → Act → World → Prop} {md : Region.Mode} {S : World → Prop} {T : List Nat}
theorem lan_4_1 {a0 : Act} {B v : World} {l : List (Nat × Array Value)} (_ : Hid (Own B l v)) {w0 : World} {L0 : Array Bool} (c1 c2 c3 c4 m1 : Nat) (slots : List Nat) (N : Nat) (J : List (Nat × Array Value) → Act → Nat → List (Option Nat) → Act → World → Prop) (hok : latOk md ops L0 [c1, c2, c3, c4] [m1] = true)
    (hsl : (slots.all fun s => decide (s < a0.tmps.size)) = true) (h0 : ∀ A : Act, (∀ s, s ∈ slots → s < A.tmps.size) → J l A 0 (List.replicate 1 none) A w0)
    (hS : ∀ k p a w, J l a0 k p a w → S w)
    (k1 : ∀ p a w, J l a0 0 p a w → wpOp P ops Q c1 (fun b v => J l a0 1 p b v) a w)
    (k2 : ∀ p a w, J l a0 1 p a w → wpOp P ops Q c2 (fun b v => J l a0 2 p b v) a w)
    (k3 : ∀ p a w, J l a0 2 p a w → wpOp P ops Q c3 (fun b v => J l a0 3 p b v) a w)
    (k4 : ∀ p a w, J l a0 3 p a w → wpOp P ops Q c4 (fun b v => J l a0 4 p b v) a w)
    (n1 : ∀ k p a w, p[0]? = some none → J l a0 k p a w → wpOp P ops Q m1 (fun b v => ∃ q, J l a0 k (p.set 0 (some q)) b v) a w)
    (fin : ∀ q1 a w, J l a0 4 [some q1] a w → wpAnyV P md ops Q S T N (lstOf L0 [c1, c2, c3, c4] [m1] 4 [true]) a w) :
    wpAnyV P md ops Q S T (N + 5) L0 a0 w0 :=
  lat_4_1 c1 c2 c3 c4 m1 slots N (J l) hok hsl h0 hS k1 k2 k3 k4 n1 fin
end

section
variable {P : Program} {ops : Array Oper} {Q : Exit → Act → World → Prop} {md : Region.Mode} {S : World → Prop} {T : List Nat}
theorem lan_7_0 {a0 : Act} {B v : World} {l : List (Nat × Array Value)} (_ : Hid (Own B l v)) {w0 : World} {L0 : Array Bool} (c1 c2 c3 c4 c5 c6 c7 : Nat) (slots : List Nat) (N : Nat) (J : List (Nat × Array Value) → Act → Nat → List (Option Nat) → Act → World → Prop) (hok : latOk md ops L0 [c1, c2, c3, c4, c5, c6, c7] [] = true)
    (hsl : (slots.all fun s => decide (s < a0.tmps.size)) = true) (h0 : ∀ A : Act, (∀ s, s ∈ slots → s < A.tmps.size) → J l A 0 (List.replicate 0 none) A w0)
    (hS : ∀ k p a w, J l a0 k p a w → S w)
    (k1 : ∀ p a w, J l a0 0 p a w → wpOp P ops Q c1 (fun b v => J l a0 1 p b v) a w)
    (k2 : ∀ p a w, J l a0 1 p a w → wpOp P ops Q c2 (fun b v => J l a0 2 p b v) a w)
    (k3 : ∀ p a w, J l a0 2 p a w → wpOp P ops Q c3 (fun b v => J l a0 3 p b v) a w)
    (k4 : ∀ p a w, J l a0 3 p a w → wpOp P ops Q c4 (fun b v => J l a0 4 p b v) a w)
    (k5 : ∀ p a w, J l a0 4 p a w → wpOp P ops Q c5 (fun b v => J l a0 5 p b v) a w)
    (k6 : ∀ p a w, J l a0 5 p a w → wpOp P ops Q c6 (fun b v => J l a0 6 p b v) a w)
    (k7 : ∀ p a w, J l a0 6 p a w → wpOp P ops Q c7 (fun b v => J l a0 7 p b v) a w)
    (fin : ∀ a w, J l a0 7 [] a w → wpAnyV P md ops Q S T N (lstOf L0 [c1, c2, c3, c4, c5, c6, c7] [] 7 []) a w) :
    wpAnyV P md ops Q S T (N + 7) L0 a0 w0 :=
  lat_7_0 c1 c2 c3 c4 c5 c6 c7 slots N (J l) hok hsl h0 hS k1 k2 k3 k4 k5 k6 k7 fin
end

set_option maxRecDepth 100000 in
set_option maxHeartbeats 16000000 in
theorem unit05_no (x y z : Nat) (R1 R2 R3 : Bool) (w : World) (hR : Hid ((R1 && R2 && R3) = false))
    (r1 : Hid (∀ w, Calls Tryz.prog 41 #[.float .f64 x] w fun r w' => r = .returned (.bool R1) ∧ w = w'))
    (r2 : Hid (∀ w, Calls Tryz.prog 41 #[.float .f64 y] w fun r w' => r = .returned (.bool R2) ∧ w = w'))
    (r3 : Hid (∀ w, Calls Tryz.prog 41 #[.float .f64 z] w fun r w' => r = .returned (.bool R3) ∧ w = w')) :
    Calls Tryz.prog 11 #[.agg #[.float .f64 x, .float .f64 y, .float .f64 z]] w fun r w' => r = .returned (.tuple #[.agg #[.float .f64 0, .float .f64 0, .float .f64 0, .float .f64 0, .float .f64 0, .float .f64 0], .int .i64 50]) ∧ Below w.heap.size w w' := by
  have M := Lib.hid (((Own.nil w).made #[.float .f64 x, .float .f64 y, .float .f64 z] 32).made #[.float .f64 0, .float .f64 0, .float .f64 0, .float .f64 0, .float .f64 0, .float .f64 0] 34)
  simp only [World.size_alloc] at M
  obtain ⟨k1, k2, k3⟩ := (M.out.nth 1 rfl).three
  go_enter Tryz.func11, Tryz.ntmps11
  go_wp2_with fail
  refine (r1.out _).mono ?_
  rintro r w1 ⟨rfl, rfl⟩
  cases R1
  · have kc := (M.out.nth 0 rfl).2.1
    have kf := (M.out.nth 0 rfl).2.2
    go_wp2
    obtain ⟨f1, f2, f3, f4, f5, f6⟩ := (M.out.nth 0 rfl).six
    exact bodyPost_ret (v := .tuple #[.agg #[.float .f64 0, .float .f64 0, .float .f64 0, .float .f64 0, .float .f64 0, .float .f64 0], .int .i64 50]) (by simp [results, Tryz.results11, go_sem, f1, f2, f3, f4, f5, f6]) rfl ⟨rfl, M.out.base⟩
  · go_wp2_with fail
    refine (r2.out _).mono ?_
    rintro r w1 ⟨rfl, rfl⟩
    cases R2
    · have kc := (M.out.nth 0 rfl).2.1
      have kf := (M.out.nth 0 rfl).2.2
      go_wp2
      obtain ⟨f1, f2, f3, f4, f5, f6⟩ := (M.out.nth 0 rfl).six
      exact bodyPost_ret (v := .tuple #[.agg #[.float .f64 0, .float .f64 0, .float .f64 0, .float .f64 0, .float .f64 0, .float .f64 0], .int .i64 50]) (by simp [results, Tryz.results11, go_sem, f1, f2, f3, f4, f5, f6]) rfl ⟨rfl, M.out.base⟩
    · go_wp2_with fail
      refine (r3.out _).mono ?_
      rintro r w1 ⟨rfl, rfl⟩
      cases R3
      · have kc := (M.out.nth 0 rfl).2.1
        have kf := (M.out.nth 0 rfl).2.2
        go_wp2
        obtain ⟨f1, f2, f3, f4, f5, f6⟩ := (M.out.nth 0 rfl).six
        exact bodyPost_ret (v := .tuple #[.agg #[.float .f64 0, .float .f64 0, .float .f64 0, .float .f64 0, .float .f64 0, .float .f64 0], .int .i64 50]) (by simp [results, Tryz.results11, go_sem, f1, f2, f3, f4, f5, f6]) rfl ⟨rfl, M.out.base⟩
      · exact absurd hR.out (by decide)

set_option maxRecDepth 100000 in
set_option maxHeartbeats 16000000 in
theorem unit05_off (x y z X Y Z : Nat) (b1 b2 b3 b4 : Bool) (w : World) (hb : Hid ((b3 || b4) = true))
    (r1 : Hid (∀ w, Calls Tryz.prog 41 #[.float .f64 x] w fun r w' => r = .returned (.bool true) ∧ w = w'))
    (r2 : Hid (∀ w, Calls Tryz.prog 41 #[.float .f64 y] w fun r w' => r = .returned (.bool true) ∧ w = w'))
    (r3 : Hid (∀ w, Calls Tryz.prog 41 #[.float .f64 z] w fun r w' => r = .returned (.bool true) ∧ w = w'))
    (a1 : Hid (∀ w, Calls Tryz.prog 42 #[.float .f64 x] w fun r w' => r = .returned (.float .f64 X) ∧ w = w'))
    (a2 : Hid (∀ w, Calls Tryz.prog 42 #[.float .f64 y] w fun r w' => r = .returned (.float .f64 Y) ∧ w = w'))
    (a3 : Hid (∀ w, Calls Tryz.prog 42 #[.float .f64 z] w fun r w' => r = .returned (.float .f64 Z) ∧ w = w'))
    (cD : Hid (∀ w, Calls Tryz.prog 43 #[.float .f64 4607182418800017408, .int .i64 (-64)] w fun r w' => r = .returned (.float .f64 4318952042648305664) ∧ w = w'))
    (cP : Hid (∀ w, Calls Tryz.prog 43 #[.float .f64 4607182418800017408, .int .i64 64] w fun r w' => r = .returned (.float .f64 4895412794951729152) ∧ w = w'))
    (o1 : (FloatKind.f64.format.order Y X == some Ordering.gt) = b1)
    (o2 : (FloatKind.f64.format.order Z (if b1 = true then Y else X) == some Ordering.gt) = b2)
    (o3 : (FloatKind.f64.format.order (if b2 = true then Z else if b1 = true then Y else X) 4318952042648305664 == some Ordering.lt) = b3)
    (o4 : (FloatKind.f64.format.order (if b2 = true then Z else if b1 = true then Y else X) 4895412794951729152 == some Ordering.gt) = b4) :
    Calls Tryz.prog 11 #[.agg #[.float .f64 x, .float .f64 y, .float .f64 z]] w fun r w' => r = .returned (.tuple #[.agg #[.float .f64 0, .float .f64 0, .float .f64 0, .float .f64 0, .float .f64 0, .float .f64 0], .int .i64 50]) ∧ Below w.heap.size w w' := by
  have M := Lib.hid (((Own.nil w).made #[.float .f64 x, .float .f64 y, .float .f64 z] 32).made #[.float .f64 0, .float .f64 0, .float .f64 0, .float .f64 0, .float .f64 0, .float .f64 0] 34)
  simp only [World.size_alloc] at M
  obtain ⟨k1, k2, k3⟩ := (M.out.nth 1 rfl).three
  go_enter Tryz.func11, Tryz.ntmps11
  cases b1 <;> cases b2 <;> simp only [Bool.false_eq_true, if_false, if_true] at o1 o2 o3 o4
  · go_wp2_with fail
    refine (r1.out _).mono ?_
    rintro r w1 ⟨rfl, rfl⟩
    go_wp2_with fail
    refine (r2.out _).mono ?_
    rintro r w1 ⟨rfl, rfl⟩
    go_wp2_with fail
    refine (r3.out _).mono ?_
    rintro r w1 ⟨rfl, rfl⟩
    go_wp2_with fail
    refine (a1.out _).mono ?_
    rintro r w1 ⟨rfl, rfl⟩
    go_wp2_with fail
    refine (a2.out _).mono ?_
    rintro r w1 ⟨rfl, rfl⟩
    go_wp2_with fail
    refine (a3.out _).mono ?_
    rintro r w1 ⟨rfl, rfl⟩
    go_wp2_with fail
    refine (cD.out _).mono ?_
    rintro r w1 ⟨rfl, rfl⟩
    cases b3
    · go_wp2_with fail
      refine (cP.out _).mono ?_
      rintro r w1 ⟨rfl, rfl⟩
      obtain rfl : b4 = true := by simpa using hb.out
      have kc := (M.out.nth 0 rfl).2.1
      have kf := (M.out.nth 0 rfl).2.2
      go_wp2
      obtain ⟨f1, f2, f3, f4, f5, f6⟩ := (M.out.nth 0 rfl).six
      exact bodyPost_ret (v := .tuple #[.agg #[.float .f64 0, .float .f64 0, .float .f64 0, .float .f64 0, .float .f64 0, .float .f64 0], .int .i64 50]) (by simp [results, Tryz.results11, go_sem, f1, f2, f3, f4, f5, f6]) rfl ⟨rfl, M.out.base⟩
    · have kc := (M.out.nth 0 rfl).2.1
      have kf := (M.out.nth 0 rfl).2.2
      go_wp2
      obtain ⟨f1, f2, f3, f4, f5, f6⟩ := (M.out.nth 0 rfl).six
      exact bodyPost_ret (v := .tuple #[.agg #[.float .f64 0, .float .f64 0, .float .f64 0, .float .f64 0, .float .f64 0, .float .f64 0], .int .i64 50]) (by simp [results, Tryz.results11, go_sem, f1, f2, f3, f4, f5, f6]) rfl ⟨rfl, M.out.base⟩
  · go_wp2_with fail
    refine (r1.out _).mono ?_
    rintro r w1 ⟨rfl, rfl⟩
    go_wp2_with fail
    refine (r2.out _).mono ?_
    rintro r w1 ⟨rfl, rfl⟩
    go_wp2_with fail
    refine (r3.out _).mono ?_
    rintro r w1 ⟨rfl, rfl⟩
    go_wp2_with fail
    refine (a1.out _).mono ?_
    rintro r w1 ⟨rfl, rfl⟩
    go_wp2_with fail
    refine (a2.out _).mono ?_
    rintro r w1 ⟨rfl, rfl⟩
    go_wp2_with fail
    refine (a3.out _).mono ?_
    rintro r w1 ⟨rfl, rfl⟩
    go_wp2_with fail
    refine (a3.out _).mono ?_
    rintro r w1 ⟨rfl, rfl⟩
    go_wp2_with fail
    refine (cD.out _).mono ?_
    rintro r w1 ⟨rfl, rfl⟩
    cases b3
    · go_wp2_with fail
      refine (cP.out _).mono ?_
      rintro r w1 ⟨rfl, rfl⟩
      obtain rfl : b4 = true := by simpa using hb.out
      have kc := (M.out.nth 0 rfl).2.1
      have kf := (M.out.nth 0 rfl).2.2
      go_wp2
      obtain ⟨f1, f2, f3, f4, f5, f6⟩ := (M.out.nth 0 rfl).six
      exact bodyPost_ret (v := .tuple #[.agg #[.float .f64 0, .float .f64 0, .float .f64 0, .float .f64 0, .float .f64 0, .float .f64 0], .int .i64 50]) (by simp [results, Tryz.results11, go_sem, f1, f2, f3, f4, f5, f6]) rfl ⟨rfl, M.out.base⟩
    · have kc := (M.out.nth 0 rfl).2.1
      have kf := (M.out.nth 0 rfl).2.2
      go_wp2
      obtain ⟨f1, f2, f3, f4, f5, f6⟩ := (M.out.nth 0 rfl).six
      exact bodyPost_ret (v := .tuple #[.agg #[.float .f64 0, .float .f64 0, .float .f64 0, .float .f64 0, .float .f64 0, .float .f64 0], .int .i64 50]) (by simp [results, Tryz.results11, go_sem, f1, f2, f3, f4, f5, f6]) rfl ⟨rfl, M.out.base⟩
  · go_wp2_with fail
    refine (r1.out _).mono ?_
    rintro r w1 ⟨rfl, rfl⟩
    go_wp2_with fail
    refine (r2.out _).mono ?_
    rintro r w1 ⟨rfl, rfl⟩
    go_wp2_with fail
    refine (r3.out _).mono ?_
    rintro r w1 ⟨rfl, rfl⟩
    go_wp2_with fail
    refine (a1.out _).mono ?_
    rintro r w1 ⟨rfl, rfl⟩
    go_wp2_with fail
    refine (a2.out _).mono ?_
    rintro r w1 ⟨rfl, rfl⟩
    go_wp2_with fail
    refine (a2.out _).mono ?_
    rintro r w1 ⟨rfl, rfl⟩
    go_wp2_with fail
    refine (a3.out _).mono ?_
    rintro r w1 ⟨rfl, rfl⟩
    go_wp2_with fail
    refine (cD.out _).mono ?_
    rintro r w1 ⟨rfl, rfl⟩
    cases b3
    · go_wp2_with fail
      refine (cP.out _).mono ?_
      rintro r w1 ⟨rfl, rfl⟩
      obtain rfl : b4 = true := by simpa using hb.out
      have kc := (M.out.nth 0 rfl).2.1
      have kf := (M.out.nth 0 rfl).2.2
      go_wp2
      obtain ⟨f1, f2, f3, f4, f5, f6⟩ := (M.out.nth 0 rfl).six
      exact bodyPost_ret (v := .tuple #[.agg #[.float .f64 0, .float .f64 0, .float .f64 0, .float .f64 0, .float .f64 0, .float .f64 0], .int .i64 50]) (by simp [results, Tryz.results11, go_sem, f1, f2, f3, f4, f5, f6]) rfl ⟨rfl, M.out.base⟩
    · have kc := (M.out.nth 0 rfl).2.1
      have kf := (M.out.nth 0 rfl).2.2
      go_wp2
      obtain ⟨f1, f2, f3, f4, f5, f6⟩ := (M.out.nth 0 rfl).six
      exact bodyPost_ret (v := .tuple #[.agg #[.float .f64 0, .float .f64 0, .float .f64 0, .float .f64 0, .float .f64 0, .float .f64 0], .int .i64 50]) (by simp [results, Tryz.results11, go_sem, f1, f2, f3, f4, f5, f6]) rfl ⟨rfl, M.out.base⟩
  · go_wp2_with fail
    refine (r1.out _).mono ?_
    rintro r w1 ⟨rfl, rfl⟩
    go_wp2_with fail
    refine (r2.out _).mono ?_
    rintro r w1 ⟨rfl, rfl⟩
    go_wp2_with fail
    refine (r3.out _).mono ?_
    rintro r w1 ⟨rfl, rfl⟩
    go_wp2_with fail
    refine (a1.out _).mono ?_
    rintro r w1 ⟨rfl, rfl⟩
    go_wp2_with fail
    refine (a2.out _).mono ?_
    rintro r w1 ⟨rfl, rfl⟩
    go_wp2_with fail
    refine (a2.out _).mono ?_
    rintro r w1 ⟨rfl, rfl⟩
    go_wp2_with fail
    refine (a3.out _).mono ?_
    rintro r w1 ⟨rfl, rfl⟩
    go_wp2_with fail
    refine (a3.out _).mono ?_
    rintro r w1 ⟨rfl, rfl⟩
    go_wp2_with fail
    refine (cD.out _).mono ?_
    rintro r w1 ⟨rfl, rfl⟩
    cases b3
    · go_wp2_with fail
      refine (cP.out _).mono ?_
      rintro r w1 ⟨rfl, rfl⟩
      obtain rfl : b4 = true := by simpa using hb.out
      have kc := (M.out.nth 0 rfl).2.1
      have kf := (M.out.nth 0 rfl).2.2
      go_wp2
      obtain ⟨f1, f2, f3, f4, f5, f6⟩ := (M.out.nth 0 rfl).six
      exact bodyPost_ret (v := .tuple #[.agg #[.float .f64 0, .float .f64 0, .float .f64 0, .float .f64 0, .float .f64 0, .float .f64 0], .int .i64 50]) (by simp [results, Tryz.results11, go_sem, f1, f2, f3, f4, f5, f6]) rfl ⟨rfl, M.out.base⟩
    · have kc := (M.out.nth 0 rfl).2.1
      have kf := (M.out.nth 0 rfl).2.2
      go_wp2
      obtain ⟨f1, f2, f3, f4, f5, f6⟩ := (M.out.nth 0 rfl).six
      exact bodyPost_ret (v := .tuple #[.agg #[.float .f64 0, .float .f64 0, .float .f64 0, .float .f64 0, .float .f64 0, .float .f64 0], .int .i64 50]) (by simp [results, Tryz.results11, go_sem, f1, f2, f3, f4, f5, f6]) rfl ⟨rfl, M.out.base⟩

def u5J11 (w : World) (x y z : Nat) (l : RowL) (a0 : Act) (k : Nat) (p : List (Option Nat)) (a : Act) (v : World) : Prop :=
  ∃ y1 y2 y3 y4 z1 : Value, a = (((((a0.put (some 58) y1).put (some 62) y2).put (some 66) y3).put (some 67) y4).put (some 6) z1) ∧ (0 < k → y1 = .agg #[.float .f64 x, .float .f64 x]) ∧ (1 < k → y2 = .agg #[.float .f64 y, .float .f64 y]) ∧ (2 < k → y3 = .agg #[.float .f64 z, .float .f64 z]) ∧ (3 < k → y4 = .agg #[.float .f64 x, .float .f64 x, .float .f64 y, .float .f64 y, .float .f64 z, .float .f64 z]) ∧ (∀ q, p[0]? = some (some q) → z1 = .pointer (some ⟨q, 0, none⟩)) ∧ OwnF w l [#[.float .f64 0, .float .f64 0, .float .f64 0, .float .f64 0, .float .f64 0, .float .f64 0]] p v
section
variable {w v : World} {x y z : Nat} {l : RowL} {a0 a : Act} {p : List (Option Nat)}
theorem u5J11_0 (h : u5J11 w x y z l a0 0 p a v) : ∃ y1 y2 y3 y4 z1 : Value, a = (((((a0.put (some 58) y1).put (some 62) y2).put (some 66) y3).put (some 67) y4).put (some 6) z1) ∧ (∀ q, p[0]? = some (some q) → z1 = .pointer (some ⟨q, 0, none⟩)) ∧ OwnF w l [#[.float .f64 0, .float .f64 0, .float .f64 0, .float .f64 0, .float .f64 0, .float .f64 0]] p v := by
  obtain ⟨y1, y2, y3, y4, z1, ha, E1, E2, E3, E4, G1, h⟩ := h
  exact ⟨y1, y2, y3, y4, z1, ha, G1, h⟩
theorem u5J11_1 (h : u5J11 w x y z l a0 1 p a v) : ∃ y2 y3 y4 z1 : Value, a = (((((a0.put (some 58) (.agg #[.float .f64 x, .float .f64 x])).put (some 62) y2).put (some 66) y3).put (some 67) y4).put (some 6) z1) ∧ (∀ q, p[0]? = some (some q) → z1 = .pointer (some ⟨q, 0, none⟩)) ∧ OwnF w l [#[.float .f64 0, .float .f64 0, .float .f64 0, .float .f64 0, .float .f64 0, .float .f64 0]] p v := by
  obtain ⟨y1, y2, y3, y4, z1, ha, E1, E2, E3, E4, G1, h⟩ := h
  obtain rfl := E1 (by decide)
  exact ⟨y2, y3, y4, z1, ha, G1, h⟩
theorem u5J11_2 (h : u5J11 w x y z l a0 2 p a v) : ∃ y3 y4 z1 : Value, a = (((((a0.put (some 58) (.agg #[.float .f64 x, .float .f64 x])).put (some 62) (.agg #[.float .f64 y, .float .f64 y])).put (some 66) y3).put (some 67) y4).put (some 6) z1) ∧ (∀ q, p[0]? = some (some q) → z1 = .pointer (some ⟨q, 0, none⟩)) ∧ OwnF w l [#[.float .f64 0, .float .f64 0, .float .f64 0, .float .f64 0, .float .f64 0, .float .f64 0]] p v := by
  obtain ⟨y1, y2, y3, y4, z1, ha, E1, E2, E3, E4, G1, h⟩ := h
  obtain rfl := E1 (by decide)
  obtain rfl := E2 (by decide)
  exact ⟨y3, y4, z1, ha, G1, h⟩
theorem u5J11_3 (h : u5J11 w x y z l a0 3 p a v) : ∃ y4 z1 : Value, a = (((((a0.put (some 58) (.agg #[.float .f64 x, .float .f64 x])).put (some 62) (.agg #[.float .f64 y, .float .f64 y])).put (some 66) (.agg #[.float .f64 z, .float .f64 z])).put (some 67) y4).put (some 6) z1) ∧ (∀ q, p[0]? = some (some q) → z1 = .pointer (some ⟨q, 0, none⟩)) ∧ OwnF w l [#[.float .f64 0, .float .f64 0, .float .f64 0, .float .f64 0, .float .f64 0, .float .f64 0]] p v := by
  obtain ⟨y1, y2, y3, y4, z1, ha, E1, E2, E3, E4, G1, h⟩ := h
  obtain rfl := E1 (by decide)
  obtain rfl := E2 (by decide)
  obtain rfl := E3 (by decide)
  exact ⟨y4, z1, ha, G1, h⟩
theorem u5J11_fin {q1 : Nat} (h : u5J11 w x y z l a0 4 [some q1] a v) : a = (((((a0.put (some 58) (.agg #[.float .f64 x, .float .f64 x])).put (some 62) (.agg #[.float .f64 y, .float .f64 y])).put (some 66) (.agg #[.float .f64 z, .float .f64 z])).put (some 67) (.agg #[.float .f64 x, .float .f64 x, .float .f64 y, .float .f64 y, .float .f64 z, .float .f64 z])).put (some 6) (.pointer (some ⟨q1, 0, none⟩))) ∧ OwnF w l [#[.float .f64 0, .float .f64 0, .float .f64 0, .float .f64 0, .float .f64 0, .float .f64 0]] [some q1] v := by
  obtain ⟨y1, y2, y3, y4, z1, ha, E1, E2, E3, E4, G1, h⟩ := h
  obtain rfl := E1 (by decide)
  obtain rfl := E2 (by decide)
  obtain rfl := E3 (by decide)
  obtain rfl := E4 (by decide)
  obtain rfl := G1 _ rfl
  exact ⟨ha, h⟩
end

def u5J13 (w : World) (sl sh tl th ul uh al ah bl bh cl ch : Nat) (l : RowL) (a0 : Act) (k : Nat) (p : List (Option Nat)) (a : Act) (v : World) : Prop :=
  ∃ y1 y2 y3 y4 y5 y6 y7 : Value, a = (((((((a0.put (some 75) y1).put (some 76) y2).put (some 81) y3).put (some 82) y4).put (some 87) y5).put (some 88) y6).put (some 89) y7) ∧ (0 < k → y1 = .agg #[.float .f64 sl, .float .f64 sh]) ∧ (1 < k → y2 = .agg #[.float .f64 al, .float .f64 ah]) ∧ (2 < k → y3 = .agg #[.float .f64 tl, .float .f64 th]) ∧ (3 < k → y4 = .agg #[.float .f64 bl, .float .f64 bh]) ∧ (4 < k → y5 = .agg #[.float .f64 ul, .float .f64 uh]) ∧ (5 < k → y6 = .agg #[.float .f64 cl, .float .f64 ch]) ∧ (6 < k → y7 = .agg #[.float .f64 al, .float .f64 ah, .float .f64 bl, .float .f64 bh, .float .f64 cl, .float .f64 ch]) ∧ OwnF w l [] p v
section
variable {w v : World} {sl sh tl th ul uh al ah bl bh cl ch : Nat} {l : RowL} {a0 a : Act} {p : List (Option Nat)}
theorem u5J13_0 (h : u5J13 w sl sh tl th ul uh al ah bl bh cl ch l a0 0 p a v) : ∃ y1 y2 y3 y4 y5 y6 y7 : Value, a = (((((((a0.put (some 75) y1).put (some 76) y2).put (some 81) y3).put (some 82) y4).put (some 87) y5).put (some 88) y6).put (some 89) y7) ∧ OwnF w l [] p v := by
  obtain ⟨y1, y2, y3, y4, y5, y6, y7, ha, E1, E2, E3, E4, E5, E6, E7, h⟩ := h
  exact ⟨y1, y2, y3, y4, y5, y6, y7, ha, h⟩
theorem u5J13_1 (h : u5J13 w sl sh tl th ul uh al ah bl bh cl ch l a0 1 p a v) : ∃ y2 y3 y4 y5 y6 y7 : Value, a = (((((((a0.put (some 75) (.agg #[.float .f64 sl, .float .f64 sh])).put (some 76) y2).put (some 81) y3).put (some 82) y4).put (some 87) y5).put (some 88) y6).put (some 89) y7) ∧ OwnF w l [] p v := by
  obtain ⟨y1, y2, y3, y4, y5, y6, y7, ha, E1, E2, E3, E4, E5, E6, E7, h⟩ := h
  obtain rfl := E1 (by decide)
  exact ⟨y2, y3, y4, y5, y6, y7, ha, h⟩
theorem u5J13_2 (h : u5J13 w sl sh tl th ul uh al ah bl bh cl ch l a0 2 p a v) : ∃ y3 y4 y5 y6 y7 : Value, a = (((((((a0.put (some 75) (.agg #[.float .f64 sl, .float .f64 sh])).put (some 76) (.agg #[.float .f64 al, .float .f64 ah])).put (some 81) y3).put (some 82) y4).put (some 87) y5).put (some 88) y6).put (some 89) y7) ∧ OwnF w l [] p v := by
  obtain ⟨y1, y2, y3, y4, y5, y6, y7, ha, E1, E2, E3, E4, E5, E6, E7, h⟩ := h
  obtain rfl := E1 (by decide)
  obtain rfl := E2 (by decide)
  exact ⟨y3, y4, y5, y6, y7, ha, h⟩
theorem u5J13_3 (h : u5J13 w sl sh tl th ul uh al ah bl bh cl ch l a0 3 p a v) : ∃ y4 y5 y6 y7 : Value, a = (((((((a0.put (some 75) (.agg #[.float .f64 sl, .float .f64 sh])).put (some 76) (.agg #[.float .f64 al, .float .f64 ah])).put (some 81) (.agg #[.float .f64 tl, .float .f64 th])).put (some 82) y4).put (some 87) y5).put (some 88) y6).put (some 89) y7) ∧ OwnF w l [] p v := by
  obtain ⟨y1, y2, y3, y4, y5, y6, y7, ha, E1, E2, E3, E4, E5, E6, E7, h⟩ := h
  obtain rfl := E1 (by decide)
  obtain rfl := E2 (by decide)
  obtain rfl := E3 (by decide)
  exact ⟨y4, y5, y6, y7, ha, h⟩
theorem u5J13_4 (h : u5J13 w sl sh tl th ul uh al ah bl bh cl ch l a0 4 p a v) : ∃ y5 y6 y7 : Value, a = (((((((a0.put (some 75) (.agg #[.float .f64 sl, .float .f64 sh])).put (some 76) (.agg #[.float .f64 al, .float .f64 ah])).put (some 81) (.agg #[.float .f64 tl, .float .f64 th])).put (some 82) (.agg #[.float .f64 bl, .float .f64 bh])).put (some 87) y5).put (some 88) y6).put (some 89) y7) ∧ OwnF w l [] p v := by
  obtain ⟨y1, y2, y3, y4, y5, y6, y7, ha, E1, E2, E3, E4, E5, E6, E7, h⟩ := h
  obtain rfl := E1 (by decide)
  obtain rfl := E2 (by decide)
  obtain rfl := E3 (by decide)
  obtain rfl := E4 (by decide)
  exact ⟨y5, y6, y7, ha, h⟩
theorem u5J13_5 (h : u5J13 w sl sh tl th ul uh al ah bl bh cl ch l a0 5 p a v) : ∃ y6 y7 : Value, a = (((((((a0.put (some 75) (.agg #[.float .f64 sl, .float .f64 sh])).put (some 76) (.agg #[.float .f64 al, .float .f64 ah])).put (some 81) (.agg #[.float .f64 tl, .float .f64 th])).put (some 82) (.agg #[.float .f64 bl, .float .f64 bh])).put (some 87) (.agg #[.float .f64 ul, .float .f64 uh])).put (some 88) y6).put (some 89) y7) ∧ OwnF w l [] p v := by
  obtain ⟨y1, y2, y3, y4, y5, y6, y7, ha, E1, E2, E3, E4, E5, E6, E7, h⟩ := h
  obtain rfl := E1 (by decide)
  obtain rfl := E2 (by decide)
  obtain rfl := E3 (by decide)
  obtain rfl := E4 (by decide)
  obtain rfl := E5 (by decide)
  exact ⟨y6, y7, ha, h⟩
theorem u5J13_6 (h : u5J13 w sl sh tl th ul uh al ah bl bh cl ch l a0 6 p a v) : ∃ y7 : Value, a = (((((((a0.put (some 75) (.agg #[.float .f64 sl, .float .f64 sh])).put (some 76) (.agg #[.float .f64 al, .float .f64 ah])).put (some 81) (.agg #[.float .f64 tl, .float .f64 th])).put (some 82) (.agg #[.float .f64 bl, .float .f64 bh])).put (some 87) (.agg #[.float .f64 ul, .float .f64 uh])).put (some 88) (.agg #[.float .f64 cl, .float .f64 ch])).put (some 89) y7) ∧ OwnF w l [] p v := by
  obtain ⟨y1, y2, y3, y4, y5, y6, y7, ha, E1, E2, E3, E4, E5, E6, E7, h⟩ := h
  obtain rfl := E1 (by decide)
  obtain rfl := E2 (by decide)
  obtain rfl := E3 (by decide)
  obtain rfl := E4 (by decide)
  obtain rfl := E5 (by decide)
  obtain rfl := E6 (by decide)
  exact ⟨y7, ha, h⟩
theorem u5J13_fin (h : u5J13 w sl sh tl th ul uh al ah bl bh cl ch l a0 7 [] a v) : a = (((((((a0.put (some 75) (.agg #[.float .f64 sl, .float .f64 sh])).put (some 76) (.agg #[.float .f64 al, .float .f64 ah])).put (some 81) (.agg #[.float .f64 tl, .float .f64 th])).put (some 82) (.agg #[.float .f64 bl, .float .f64 bh])).put (some 87) (.agg #[.float .f64 ul, .float .f64 uh])).put (some 88) (.agg #[.float .f64 cl, .float .f64 ch])).put (some 89) (.agg #[.float .f64 al, .float .f64 ah, .float .f64 bl, .float .f64 bh, .float .f64 cl, .float .f64 ch])) ∧ OwnF w l [] [] v := by
  obtain ⟨y1, y2, y3, y4, y5, y6, y7, ha, E1, E2, E3, E4, E5, E6, E7, h⟩ := h
  obtain rfl := E1 (by decide)
  obtain rfl := E2 (by decide)
  obtain rfl := E3 (by decide)
  obtain rfl := E4 (by decide)
  obtain rfl := E5 (by decide)
  obtain rfl := E6 (by decide)
  obtain rfl := E7 (by decide)
  exact ⟨ha, h⟩
end

set_option maxRecDepth 100000 in
set_option maxHeartbeats 64000000 in
theorem unit05_good (x y z X Y Z nl nh sl sh tl th ul uh al ah bl bh cl ch : Nat) (b1 b2 : Bool) (w : World)
    (r1 : Hid (∀ w, Calls Tryz.prog 41 #[.float .f64 x] w fun r w' => r = .returned (.bool true) ∧ w = w'))
    (r2 : Hid (∀ w, Calls Tryz.prog 41 #[.float .f64 y] w fun r w' => r = .returned (.bool true) ∧ w = w'))
    (r3 : Hid (∀ w, Calls Tryz.prog 41 #[.float .f64 z] w fun r w' => r = .returned (.bool true) ∧ w = w'))
    (a1 : Hid (∀ w, Calls Tryz.prog 42 #[.float .f64 x] w fun r w' => r = .returned (.float .f64 X) ∧ w = w'))
    (a2 : Hid (∀ w, Calls Tryz.prog 42 #[.float .f64 y] w fun r w' => r = .returned (.float .f64 Y) ∧ w = w'))
    (a3 : Hid (∀ w, Calls Tryz.prog 42 #[.float .f64 z] w fun r w' => r = .returned (.float .f64 Z) ∧ w = w'))
    (cD : Hid (∀ w, Calls Tryz.prog 43 #[.float .f64 4607182418800017408, .int .i64 (-64)] w fun r w' => r = .returned (.float .f64 4318952042648305664) ∧ w = w'))
    (cP : Hid (∀ w, Calls Tryz.prog 43 #[.float .f64 4607182418800017408, .int .i64 64] w fun r w' => r = .returned (.float .f64 4895412794951729152) ∧ w = w'))
    (o1 : (FloatKind.f64.format.order Y X == some Ordering.gt) = b1)
    (o2 : (FloatKind.f64.format.order Z (if b1 = true then Y else X) == some Ordering.gt) = b2)
    (o3 : (FloatKind.f64.format.order (if b2 = true then Z else if b1 = true then Y else X) 4318952042648305664 == some Ordering.lt) = false)
    (o4 : (FloatKind.f64.format.order (if b2 = true then Z else if b1 = true then Y else X) 4895412794951729152 == some Ordering.gt) = false)
    (n1 : Hid (∀ (pb : Nat) (v : World), Has1 v (pb, #[.int .i64 0]) → Calls Tryz.prog 44 #[.pointer (some ⟨pb, 0, none⟩), .float .f64 x] v fun r w' => r = .returned (.agg #[.float .f64 x, .float .f64 x]) ∧ Put ⟨pb, 0, none⟩ (.int .i64 0) v w'))
    (n2 : Hid (∀ (pb : Nat) (v : World), Has1 v (pb, #[.int .i64 0]) → Calls Tryz.prog 44 #[.pointer (some ⟨pb, 0, none⟩), .float .f64 y] v fun r w' => r = .returned (.agg #[.float .f64 y, .float .f64 y]) ∧ Put ⟨pb, 0, none⟩ (.int .i64 0) v w'))
    (n3 : Hid (∀ (pb : Nat) (v : World), Has1 v (pb, #[.int .i64 0]) → Calls Tryz.prog 44 #[.pointer (some ⟨pb, 0, none⟩), .float .f64 z] v fun r w' => r = .returned (.agg #[.float .f64 z, .float .f64 z]) ∧ Put ⟨pb, 0, none⟩ (.int .i64 0) v w'))
    (cN : Hid (∀ (pb : Nat) (v : World), Has1 v (pb, #[.int .i64 0]) → Calls Tryz.prog 45 #[.pointer (some ⟨pb, 0, none⟩), .agg #[.float .f64 x, .float .f64 x, .float .f64 y, .float .f64 y, .float .f64 z, .float .f64 z]] v fun r w' => r = .returned (.agg #[.float .f64 nl, .float .f64 nh]) ∧ Put ⟨pb, 0, none⟩ (.int .i64 0) v w'))
    (v1 : Hid (∀ (pb : Nat) (v : World), Has1 v (pb, #[.int .i64 0]) → Calls Tryz.prog 47 #[.pointer (some ⟨pb, 0, none⟩), .agg #[.float .f64 x, .float .f64 x], .agg #[.float .f64 nl, .float .f64 nh]] v fun r w' => r = .returned (.agg #[.float .f64 sl, .float .f64 sh]) ∧ Put ⟨pb, 0, none⟩ (.int .i64 0) v w'))
    (t1 : Hid (∀ w, Calls Tryz.prog 46 #[.agg #[.float .f64 sl, .float .f64 sh]] w fun r w' => r = .returned (.agg #[.float .f64 al, .float .f64 ah]) ∧ Below w.heap.size w w'))
    (v2 : Hid (∀ (pb : Nat) (v : World), Has1 v (pb, #[.int .i64 0]) → Calls Tryz.prog 47 #[.pointer (some ⟨pb, 0, none⟩), .agg #[.float .f64 y, .float .f64 y], .agg #[.float .f64 nl, .float .f64 nh]] v fun r w' => r = .returned (.agg #[.float .f64 tl, .float .f64 th]) ∧ Put ⟨pb, 0, none⟩ (.int .i64 0) v w'))
    (t2 : Hid (∀ w, Calls Tryz.prog 46 #[.agg #[.float .f64 tl, .float .f64 th]] w fun r w' => r = .returned (.agg #[.float .f64 bl, .float .f64 bh]) ∧ Below w.heap.size w w'))
    (v3 : Hid (∀ (pb : Nat) (v : World), Has1 v (pb, #[.int .i64 0]) → Calls Tryz.prog 47 #[.pointer (some ⟨pb, 0, none⟩), .agg #[.float .f64 z, .float .f64 z], .agg #[.float .f64 nl, .float .f64 nh]] v fun r w' => r = .returned (.agg #[.float .f64 ul, .float .f64 uh]) ∧ Put ⟨pb, 0, none⟩ (.int .i64 0) v w'))
    (t3 : Hid (∀ w, Calls Tryz.prog 46 #[.agg #[.float .f64 ul, .float .f64 uh]] w fun r w' => r = .returned (.agg #[.float .f64 cl, .float .f64 ch]) ∧ Below w.heap.size w w')) :
    Calls Tryz.prog 11 #[.agg #[.float .f64 x, .float .f64 y, .float .f64 z]] w fun r w' => r = .returned (.tuple #[.agg #[.float .f64 al, .float .f64 ah, .float .f64 bl, .float .f64 bh, .float .f64 cl, .float .f64 ch], .int .i64 0]) ∧ Below w.heap.size w w' := by
  have M := Lib.hid (((Own.nil w).made #[.float .f64 x, .float .f64 y, .float .f64 z] 32).made #[.float .f64 0, .float .f64 0, .float .f64 0, .float .f64 0, .float .f64 0, .float .f64 0] 34)
  simp only [World.size_alloc] at M
  obtain ⟨k1, k2, k3⟩ := (M.out.nth 1 rfl).three
  go_enter Tryz.func11, Tryz.ntmps11
  cases b1 <;> cases b2 <;> simp only [Bool.false_eq_true, if_false, if_true] at o1 o2 o3 o4
  case' false.false =>
    go_wp2_with fail
    refine (r1.out _).mono ?_
    rintro r w1 ⟨rfl, rfl⟩
    go_wp2_with fail
    refine (r2.out _).mono ?_
    rintro r w1 ⟨rfl, rfl⟩
    go_wp2_with fail
    refine (r3.out _).mono ?_
    rintro r w1 ⟨rfl, rfl⟩
    go_wp2_with fail
    refine (a1.out _).mono ?_
    rintro r w1 ⟨rfl, rfl⟩
    go_wp2_with fail
    refine (a2.out _).mono ?_
    rintro r w1 ⟨rfl, rfl⟩
    go_wp2_with fail
    refine (a3.out _).mono ?_
    rintro r w1 ⟨rfl, rfl⟩
    go_wp2_with fail
    refine (cD.out _).mono ?_
    rintro r w1 ⟨rfl, rfl⟩
    go_wp2_with fail
    refine (cP.out _).mono ?_
    rintro r w1 ⟨rfl, rfl⟩
    clear k1 k2 k3
    go_upto_region 11 with fail
    replace M := Lib.hid (M.out.made #[.int .i64 0] 42).drew
    simp only [World.size_alloc] at M
  case' false.true =>
    go_wp2_with fail
    refine (r1.out _).mono ?_
    rintro r w1 ⟨rfl, rfl⟩
    go_wp2_with fail
    refine (r2.out _).mono ?_
    rintro r w1 ⟨rfl, rfl⟩
    go_wp2_with fail
    refine (r3.out _).mono ?_
    rintro r w1 ⟨rfl, rfl⟩
    go_wp2_with fail
    refine (a1.out _).mono ?_
    rintro r w1 ⟨rfl, rfl⟩
    go_wp2_with fail
    refine (a2.out _).mono ?_
    rintro r w1 ⟨rfl, rfl⟩
    go_wp2_with fail
    refine (a3.out _).mono ?_
    rintro r w1 ⟨rfl, rfl⟩
    go_wp2_with fail
    refine (a3.out _).mono ?_
    rintro r w1 ⟨rfl, rfl⟩
    go_wp2_with fail
    refine (cD.out _).mono ?_
    rintro r w1 ⟨rfl, rfl⟩
    go_wp2_with fail
    refine (cP.out _).mono ?_
    rintro r w1 ⟨rfl, rfl⟩
    clear k1 k2 k3
    go_upto_region 11 with fail
    replace M := Lib.hid (M.out.made #[.int .i64 0] 42).drew
    simp only [World.size_alloc] at M
  case' true.false =>
    go_wp2_with fail
    refine (r1.out _).mono ?_
    rintro r w1 ⟨rfl, rfl⟩
    go_wp2_with fail
    refine (r2.out _).mono ?_
    rintro r w1 ⟨rfl, rfl⟩
    go_wp2_with fail
    refine (r3.out _).mono ?_
    rintro r w1 ⟨rfl, rfl⟩
    go_wp2_with fail
    refine (a1.out _).mono ?_
    rintro r w1 ⟨rfl, rfl⟩
    go_wp2_with fail
    refine (a2.out _).mono ?_
    rintro r w1 ⟨rfl, rfl⟩
    go_wp2_with fail
    refine (a2.out _).mono ?_
    rintro r w1 ⟨rfl, rfl⟩
    go_wp2_with fail
    refine (a3.out _).mono ?_
    rintro r w1 ⟨rfl, rfl⟩
    go_wp2_with fail
    refine (cD.out _).mono ?_
    rintro r w1 ⟨rfl, rfl⟩
    go_wp2_with fail
    refine (cP.out _).mono ?_
    rintro r w1 ⟨rfl, rfl⟩
    clear k1 k2 k3
    go_upto_region 11 with fail
    replace M := Lib.hid (M.out.made #[.int .i64 0] 42).drew
    simp only [World.size_alloc] at M
  case' true.true =>
    go_wp2_with fail
    refine (r1.out _).mono ?_
    rintro r w1 ⟨rfl, rfl⟩
    go_wp2_with fail
    refine (r2.out _).mono ?_
    rintro r w1 ⟨rfl, rfl⟩
    go_wp2_with fail
    refine (r3.out _).mono ?_
    rintro r w1 ⟨rfl, rfl⟩
    go_wp2_with fail
    refine (a1.out _).mono ?_
    rintro r w1 ⟨rfl, rfl⟩
    go_wp2_with fail
    refine (a2.out _).mono ?_
    rintro r w1 ⟨rfl, rfl⟩
    go_wp2_with fail
    refine (a2.out _).mono ?_
    rintro r w1 ⟨rfl, rfl⟩
    go_wp2_with fail
    refine (a3.out _).mono ?_
    rintro r w1 ⟨rfl, rfl⟩
    go_wp2_with fail
    refine (a3.out _).mono ?_
    rintro r w1 ⟨rfl, rfl⟩
    go_wp2_with fail
    refine (cD.out _).mono ?_
    rintro r w1 ⟨rfl, rfl⟩
    go_wp2_with fail
    refine (cP.out _).mono ?_
    rintro r w1 ⟨rfl, rfl⟩
    clear k1 k2 k3
    go_upto_region 11 with fail
    replace M := Lib.hid (M.out.made #[.int .i64 0] 42).drew
    simp only [World.size_alloc] at M
  all_goals
    refine wp_region_noPanic ?_
    refine tails_region (S := fun w' => w'.cell? ⟨w.heap.size, 0, none⟩ = some (.float .f64 x) ∧ w'.cell? ⟨w.heap.size, 1, none⟩ = some (.float .f64 y) ∧ w'.cell? ⟨w.heap.size, 2, none⟩ = some (.float .f64 z)) [] (by kernel_rfl) ?_ (fun hS => ?_)
    · exact (M.out.nth 2 rfl).three
    refine tk (x := ?_) 0 rfl (by kernel_rfl) ⟨by rfl, ?_⟩ (fun _ _ _ h => h) hS ?_
    rotate_left; focus (intro w hSw; (try dsimp only at hSw); go_simp; try with_reducible rfl)
    refine tk (x := ?_) 1 rfl (by kernel_rfl) ⟨by rfl, ?_⟩ (fun _ _ _ h => h) hS ?_
    rotate_left; focus (intro w hSw; (try dsimp only at hSw); go_simp; try with_reducible rfl)
    refine tk (x := ?_) 2 rfl (by kernel_rfl) ⟨by rfl, ?_⟩ (fun _ _ _ h => h) hS ?_
    rotate_left; focus (intro w hSw; (try dsimp only at hSw); go_simp; try with_reducible rfl)
    refine tk (x := ?_) 4 rfl (by kernel_rfl) ⟨by rfl, ?_⟩ (fun _ _ _ h => h) hS ?_
    rotate_left; focus (intro w hSw; (try dsimp only at hSw); go_simp; try with_reducible rfl)
    refine tk (x := ?_) 5 rfl (by kernel_rfl) ⟨by rfl, ?_⟩ (fun _ _ _ h => h) hS ?_
    rotate_left; focus (intro w hSw; (try dsimp only at hSw); go_simp; try with_reducible rfl)
    refine tk (x := ?_) 6 rfl (by kernel_rfl) ⟨by rfl, ?_⟩ (fun _ _ _ h => h) hS ?_
    rotate_left; focus (intro w hSw; (try dsimp only at hSw); go_simp; try with_reducible rfl)
    refine tk (x := ?_) 8 rfl (by kernel_rfl) ⟨by rfl, ?_⟩ (fun _ _ _ h => h) hS ?_
    rotate_left; focus (intro w hSw; (try dsimp only at hSw); go_simp; try with_reducible rfl)
    refine tk (x := ?_) 9 rfl (by kernel_rfl) ⟨by rfl, ?_⟩ (fun _ _ _ h => h) hS ?_
    rotate_left; focus (intro w hSw; (try dsimp only at hSw); go_simp; try with_reducible rfl)
    refine tk (x := ?_) 10 rfl (by kernel_rfl) ⟨by rfl, ?_⟩ (fun _ _ _ h => h) hS ?_
    rotate_left; focus (intro w hSw; (try dsimp only at hSw); go_simp; try with_reducible rfl)
    conv => arg 9; simp only [Act.put, go_sem]
    refine lan_4_1 M (T := []) 3 7 11 12 13 [58, 62, 66, 67, 6] 1 (u5J11 w x y z) (by kernel_rfl) (by kernel_rfl) ?_ ?_ ?_ ?_ ?_ ?_ ?_ ?_
    · intro A hA
      obtain ⟨y1, hq1⟩ := put_ex (hA 58 (by simp))
      obtain ⟨y2, hq2⟩ := put_ex (hA 62 (by simp))
      obtain ⟨y3, hq3⟩ := put_ex (hA 66 (by simp))
      obtain ⟨y4, hq4⟩ := put_ex (hA 67 (by simp))
      obtain ⟨z1, hq5⟩ := put_ex (hA 6 (by simp))
      exact ⟨y1, y2, y3, y4, z1, by rw [hq1, hq2, hq3, hq4, hq5], by omega, by omega, by omega, by omega, by simp, OwnF.start M.out 1⟩
    · rintro k p a v ⟨y1, y2, y3, y4, z1, _, _, _, _, _, _, h⟩
      exact (h.own.nth 2 rfl).three
    · intro p a v hJ
      refine op_step (o := _) rfl (fun K hK => ?_)
      obtain ⟨y1, y2, y3, y4, z1, ha, gg1, h⟩ := u5J11_0 hJ
      have h := Lib.hid h
      clear hJ
      subst ha
      go_simp
      refine (n1.out _ _ (h.out.own.nth 0 rfl)).mono ?_
      rintro rr w5 ⟨rfl, hp⟩
      try go_wp2_with fail
      refine hK.out _ _ ⟨_, y2, y3, y4, z1, ?_, fun _ => rfl, by omega, by omega, by omega, gg1, h.out.putAt 0 rfl hp⟩
      kernel_rfl
    · intro p a v hJ
      refine op_step (o := _) rfl (fun K hK => ?_)
      obtain ⟨y2, y3, y4, z1, ha, gg1, h⟩ := u5J11_1 hJ
      have h := Lib.hid h
      clear hJ
      subst ha
      go_simp
      refine (n2.out _ _ (h.out.own.nth 0 rfl)).mono ?_
      rintro rr w5 ⟨rfl, hp⟩
      try go_wp2_with fail
      refine hK.out _ _ ⟨_, _, y3, y4, z1, ?_, fun _ => rfl, fun _ => rfl, by omega, by omega, gg1, h.out.putAt 0 rfl hp⟩
      kernel_rfl
    · intro p a v hJ
      refine op_step (o := _) rfl (fun K hK => ?_)
      obtain ⟨y3, y4, z1, ha, gg1, h⟩ := u5J11_2 hJ
      have h := Lib.hid h
      clear hJ
      subst ha
      go_simp
      refine (n3.out _ _ (h.out.own.nth 0 rfl)).mono ?_
      rintro rr w5 ⟨rfl, hp⟩
      try go_wp2_with fail
      refine hK.out _ _ ⟨_, _, _, y4, z1, ?_, fun _ => rfl, fun _ => rfl, fun _ => rfl, by omega, gg1, h.out.putAt 0 rfl hp⟩
      kernel_rfl
    · intro p a v hJ
      refine op_step (o := _) rfl (fun K hK => ?_)
      obtain ⟨y4, z1, ha, gg1, h⟩ := u5J11_3 hJ
      have h := Lib.hid h
      clear hJ
      subst ha
      go_simp
      refine hK.out _ _ ⟨_, _, _, _, z1, ?_, fun _ => rfl, fun _ => rfl, fun _ => rfl, fun _ => rfl, gg1, h.out⟩
      kernel_rfl
    · intro k p a v hp hJ
      refine op_step (o := _) rfl (fun K hK => ?_)
      obtain ⟨y1, y2, y3, y4, z1, ha, ee1, ee2, ee3, ee4, gg1, h⟩ := hJ
      have h := Lib.hid h
      subst ha
      go_simp
      refine hK.out _ _ ⟨v.heap.size, y1, y2, y3, y4, .pointer (some ⟨v.heap.size, 0, none⟩), ?_, ee1, ee2, ee3, ee4, fun q hq => ptr_set hq, h.out.alloc hp rfl _⟩
      kernel_rfl
    intro p11_1 a v hJ
    obtain ⟨rfl, h⟩ := u5J11_fin hJ
    clear hJ
    replace M := Lib.hid h.fin1
    clear h
    refine tails_one (T := []) (i := 14) (o := _) rfl (by kernel_rfl) (fun K hK => ?_)
    have kc := (M.out.nth 0 rfl).2.1
    have kf := (M.out.nth 0 rfl).2.2
    replace M := Lib.hid (M.out.set6 0 rfl (.float .f64 x) (.float .f64 x) (.float .f64 y) (.float .f64 y) (.float .f64 z) (.float .f64 z))
    go_simp
    refine hK.out _ _ (Or.inr (M.out.nth 3 rfl).three) (fun hHeld => ?_)
    clear hK K hHeld kc kf
    refine tails_done (by kernel_rfl) ?_ _
    refine NoPanic.normal ?_
    clear hS
    revert M
    generalize ((((((v.setCell ⟨p11_1, 0, none⟩ (.float .f64 x)).setCell ⟨p11_1, 1, none⟩ (.float .f64 x)).setCell ⟨p11_1, 2, none⟩ (.float .f64 y)).setCell ⟨p11_1, 3, none⟩ (.float .f64 y)).setCell ⟨p11_1, 4, none⟩ (.float .f64 z)).setCell ⟨p11_1, 5, none⟩ (.float .f64 z)) = W11
    intro M
    obtain ⟨k1, k2, k3, k4, k5, k6⟩ := (M.out.nth 0 rfl).six
    go_wp2_with fail
    refine (cN.out _ _ (M.out.nth 1 rfl)).mono ?_
    rintro r w2 ⟨rfl, hp⟩
    replace M := Lib.hid ((M.out.putAt 1 rfl hp).made #[.float .f64 nl, .float .f64 nh] 24)
    clear hp k1 k2 k3 k4 k5 k6
    go_upto_region 13 with fail
    replace M := Lib.hid M.out.drew
    refine wp_region_noPanic ?_
    refine tails_region (S := fun w' => (w'.cell? ⟨p11_1, 0, none⟩ = some (.float .f64 x) ∧ w'.cell? ⟨p11_1, 1, none⟩ = some (.float .f64 x) ∧ w'.cell? ⟨p11_1, 2, none⟩ = some (.float .f64 y) ∧ w'.cell? ⟨p11_1, 3, none⟩ = some (.float .f64 y) ∧ w'.cell? ⟨p11_1, 4, none⟩ = some (.float .f64 z) ∧ w'.cell? ⟨p11_1, 5, none⟩ = some (.float .f64 z)) ∧ (w'.cell? ⟨w2.heap.size, 0, none⟩ = some (.float .f64 nl) ∧ w'.cell? ⟨w2.heap.size, 1, none⟩ = some (.float .f64 nh))) [] (by kernel_rfl) ?_ (fun hS => ?_)
    · exact ⟨(M.out.nth 1 rfl).six, (M.out.nth 0 rfl).two⟩
    refine tk (x := ?_) 0 rfl (by kernel_rfl) ⟨by rfl, ?_⟩ (fun _ _ _ h => h) hS ?_
    rotate_left; focus (intro w hSw; (try dsimp only at hSw); go_simp; try with_reducible rfl)
    refine tk (x := ?_) 1 rfl (by kernel_rfl) ⟨by rfl, ?_⟩ (fun _ _ _ h => h) hS ?_
    rotate_left; focus (intro w hSw; (try dsimp only at hSw); go_simp; try with_reducible rfl)
    refine tk (x := ?_) 2 rfl (by kernel_rfl) ⟨by rfl, ?_⟩ (fun _ _ _ h => h) hS ?_
    rotate_left; focus (intro w hSw; (try dsimp only at hSw); go_simp; try with_reducible rfl)
    refine tk (x := ?_) 3 rfl (by kernel_rfl) ⟨by rfl, ?_⟩ (fun _ _ _ h => h) hS ?_
    rotate_left; focus (intro w hSw; (try dsimp only at hSw); go_simp; try with_reducible rfl)
    refine tk (x := ?_) 6 rfl (by kernel_rfl) ⟨by rfl, ?_⟩ (fun _ _ _ h => h) hS ?_
    rotate_left; focus (intro w hSw; (try dsimp only at hSw); go_simp; try with_reducible rfl)
    refine tk (x := ?_) 7 rfl (by kernel_rfl) ⟨by rfl, ?_⟩ (fun _ _ _ h => h) hS ?_
    rotate_left; focus (intro w hSw; (try dsimp only at hSw); go_simp; try with_reducible rfl)
    refine tk (x := ?_) 8 rfl (by kernel_rfl) ⟨by rfl, ?_⟩ (fun _ _ _ h => h) hS ?_
    rotate_left; focus (intro w hSw; (try dsimp only at hSw); go_simp; try with_reducible rfl)
    refine tk (x := ?_) 9 rfl (by kernel_rfl) ⟨by rfl, ?_⟩ (fun _ _ _ h => h) hS ?_
    rotate_left; focus (intro w hSw; (try dsimp only at hSw); go_simp; try with_reducible rfl)
    refine tk (x := ?_) 12 rfl (by kernel_rfl) ⟨by rfl, ?_⟩ (fun _ _ _ h => h) hS ?_
    rotate_left; focus (intro w hSw; (try dsimp only at hSw); go_simp; try with_reducible rfl)
    refine tk (x := ?_) 13 rfl (by kernel_rfl) ⟨by rfl, ?_⟩ (fun _ _ _ h => h) hS ?_
    rotate_left; focus (intro w hSw; (try dsimp only at hSw); go_simp; try with_reducible rfl)
    refine tk (x := ?_) 14 rfl (by kernel_rfl) ⟨by rfl, ?_⟩ (fun _ _ _ h => h) hS ?_
    rotate_left; focus (intro w hSw; (try dsimp only at hSw); go_simp; try with_reducible rfl)
    refine tk (x := ?_) 15 rfl (by kernel_rfl) ⟨by rfl, ?_⟩ (fun _ _ _ h => h) hS ?_
    rotate_left; focus (intro w hSw; (try dsimp only at hSw); go_simp; try with_reducible rfl)
    conv => arg 9; simp only [Act.put, go_sem]
    refine lan_7_0 M (T := []) 4 5 10 11 16 17 18 [75, 76, 81, 82, 87, 88, 89] 2 (u5J13 w sl sh tl th ul uh al ah bl bh cl ch) (by kernel_rfl) (by kernel_rfl) ?_ ?_ ?_ ?_ ?_ ?_ ?_ ?_ ?_ ?_
    · intro A hA
      obtain ⟨y1, hq1⟩ := put_ex (hA 75 (by simp))
      obtain ⟨y2, hq2⟩ := put_ex (hA 76 (by simp))
      obtain ⟨y3, hq3⟩ := put_ex (hA 81 (by simp))
      obtain ⟨y4, hq4⟩ := put_ex (hA 82 (by simp))
      obtain ⟨y5, hq5⟩ := put_ex (hA 87 (by simp))
      obtain ⟨y6, hq6⟩ := put_ex (hA 88 (by simp))
      obtain ⟨y7, hq7⟩ := put_ex (hA 89 (by simp))
      exact ⟨y1, y2, y3, y4, y5, y6, y7, by rw [hq1, hq2, hq3, hq4, hq5, hq6, hq7], by omega, by omega, by omega, by omega, by omega, by omega, by omega, OwnF.start M.out 0⟩
    · rintro k p a v ⟨y1, y2, y3, y4, y5, y6, y7, _, _, _, _, _, _, _, _, h⟩
      exact ⟨(h.own.nth 1 rfl).six, (h.own.nth 0 rfl).two⟩
    · intro p a v hJ
      refine op_step (o := _) rfl (fun K hK => ?_)
      obtain ⟨y1, y2, y3, y4, y5, y6, y7, ha, h⟩ := u5J13_0 hJ
      have h := Lib.hid h
      clear hJ
      subst ha
      go_simp
      refine (v1.out _ _ (h.out.own.nth 2 rfl)).mono ?_
      rintro rr w5 ⟨rfl, hp⟩
      try go_wp2_with fail
      refine hK.out _ _ ⟨_, y2, y3, y4, y5, y6, y7, ?_, fun _ => rfl, by omega, by omega, by omega, by omega, by omega, by omega, h.out.putAt 2 rfl hp⟩
      kernel_rfl
    · intro p a v hJ
      refine op_step (o := _) rfl (fun K hK => ?_)
      obtain ⟨y2, y3, y4, y5, y6, y7, ha, h⟩ := u5J13_1 hJ
      have h := Lib.hid h
      clear hJ
      subst ha
      go_simp
      refine (t1.out _).mono ?_
      rintro rr w5 ⟨rfl, hp⟩
      try go_wp2_with fail
      refine hK.out _ _ ⟨_, _, y3, y4, y5, y6, y7, ?_, fun _ => rfl, fun _ => rfl, by omega, by omega, by omega, by omega, by omega, h.out.below hp⟩
      kernel_rfl
    · intro p a v hJ
      refine op_step (o := _) rfl (fun K hK => ?_)
      obtain ⟨y3, y4, y5, y6, y7, ha, h⟩ := u5J13_2 hJ
      have h := Lib.hid h
      clear hJ
      subst ha
      go_simp
      refine (v2.out _ _ (h.out.own.nth 2 rfl)).mono ?_
      rintro rr w5 ⟨rfl, hp⟩
      try go_wp2_with fail
      refine hK.out _ _ ⟨_, _, _, y4, y5, y6, y7, ?_, fun _ => rfl, fun _ => rfl, fun _ => rfl, by omega, by omega, by omega, by omega, h.out.putAt 2 rfl hp⟩
      kernel_rfl
    · intro p a v hJ
      refine op_step (o := _) rfl (fun K hK => ?_)
      obtain ⟨y4, y5, y6, y7, ha, h⟩ := u5J13_3 hJ
      have h := Lib.hid h
      clear hJ
      subst ha
      go_simp
      refine (t2.out _).mono ?_
      rintro rr w5 ⟨rfl, hp⟩
      try go_wp2_with fail
      refine hK.out _ _ ⟨_, _, _, _, y5, y6, y7, ?_, fun _ => rfl, fun _ => rfl, fun _ => rfl, fun _ => rfl, by omega, by omega, by omega, h.out.below hp⟩
      kernel_rfl
    · intro p a v hJ
      refine op_step (o := _) rfl (fun K hK => ?_)
      obtain ⟨y5, y6, y7, ha, h⟩ := u5J13_4 hJ
      have h := Lib.hid h
      clear hJ
      subst ha
      go_simp
      refine (v3.out _ _ (h.out.own.nth 2 rfl)).mono ?_
      rintro rr w5 ⟨rfl, hp⟩
      try go_wp2_with fail
      refine hK.out _ _ ⟨_, _, _, _, _, y6, y7, ?_, fun _ => rfl, fun _ => rfl, fun _ => rfl, fun _ => rfl, fun _ => rfl, by omega, by omega, h.out.putAt 2 rfl hp⟩
      kernel_rfl
    · intro p a v hJ
      refine op_step (o := _) rfl (fun K hK => ?_)
      obtain ⟨y6, y7, ha, h⟩ := u5J13_5 hJ
      have h := Lib.hid h
      clear hJ
      subst ha
      go_simp
      refine (t3.out _).mono ?_
      rintro rr w5 ⟨rfl, hp⟩
      try go_wp2_with fail
      refine hK.out _ _ ⟨_, _, _, _, _, _, y7, ?_, fun _ => rfl, fun _ => rfl, fun _ => rfl, fun _ => rfl, fun _ => rfl, fun _ => rfl, by omega, h.out.below hp⟩
      kernel_rfl
    · intro p a v hJ
      refine op_step (o := _) rfl (fun K hK => ?_)
      obtain ⟨y7, ha, h⟩ := u5J13_6 hJ
      have h := Lib.hid h
      clear hJ
      subst ha
      go_simp
      refine hK.out _ _ ⟨_, _, _, _, _, _, _, ?_, fun _ => rfl, fun _ => rfl, fun _ => rfl, fun _ => rfl, fun _ => rfl, fun _ => rfl, fun _ => rfl, h.out⟩
      kernel_rfl
    intro a v hJ
    obtain ⟨rfl, h⟩ := u5J13_fin hJ
    clear hJ
    replace M := Lib.hid h.own
    clear h
    refine tails_one (T := []) (i := 19) (o := _) rfl (by kernel_rfl) (fun K hK => ?_)
    have kc := (M.out.nth 3 rfl).2.1
    have kf := (M.out.nth 3 rfl).2.2
    replace M := Lib.hid (M.out.set6 3 rfl (.float .f64 al) (.float .f64 ah) (.float .f64 bl) (.float .f64 bh) (.float .f64 cl) (.float .f64 ch))
    go_simp
    refine hK.out _ _ (Or.inr ⟨(M.out.nth 1 rfl).six, (M.out.nth 0 rfl).two⟩) (fun hHeld => ?_)
    clear hK K hHeld kc kf
    refine tails_one (T := []) (i := 20) (o := _) rfl (by kernel_rfl) (fun K hK => ?_)
    go_simp
    refine hK.out _ _ (Or.inr ⟨(M.out.nth 1 rfl).six, (M.out.nth 0 rfl).two⟩) (fun hHeld => ?_)
    clear hK K hHeld
    refine tails_done (by kernel_rfl) ?_ _
    refine NoPanic.normal ?_
    clear hS
    revert M
    generalize ((((((v.setCell ⟨w.heap.size + 1, 0, none⟩ (.float .f64 al)).setCell ⟨w.heap.size + 1, 1, none⟩ (.float .f64 ah)).setCell ⟨w.heap.size + 1, 2, none⟩ (.float .f64 bl)).setCell ⟨w.heap.size + 1, 3, none⟩ (.float .f64 bh)).setCell ⟨w.heap.size + 1, 4, none⟩ (.float .f64 cl)).setCell ⟨w.heap.size + 1, 5, none⟩ (.float .f64 ch)) = W13
    intro M
    go_wp2
    obtain ⟨f1, f2, f3, f4, f5, f6⟩ := (M.out.nth 3 rfl).six
    exact bodyPost_ret (v := .tuple #[.agg #[.float .f64 al, .float .f64 ah, .float .f64 bl, .float .f64 bh, .float .f64 cl, .float .f64 ch], .int .i64 0]) (by simp [results, Tryz.results11, go_sem, f1, f2, f3, f4, f5, f6]) rfl ⟨rfl, M.out.base⟩

end Go.Proofs.YtcfgahlaiiibiaaGreat

namespace Go.Proofs.YtcfgahlaiiibiaaGreat
open Go.RowKit

theorem gt_max {a b : Nat} (la : a < 18446744073709551616) (lb : b < 18446744073709551616) (ra : rightB a = true) (rb : rightB b = true) :
    ∃ t : Bool, (FloatKind.f64.format.order b a == some Ordering.gt) = t ∧ maxW a b = (if t = true then b else a) := by
  refine ⟨decide (val a < val b), order_gt b a lb la rb ra, ?_⟩
  unfold maxW
  by_cases h : val a < val b <;> simp [h]

theorem runit_bad (x y z : Nat) (w : World) (lx : x < 18446744073709551616) (ly : y < 18446744073709551616) (lz : z < 18446744073709551616) (hU : hasU x y z = false) :
    Calls Tryz.prog 11 #[.agg #[.float .f64 x, .float .f64 y, .float .f64 z]] w fun r w' => r = .returned (.tuple #[.agg #[.float .f64 0, .float .f64 0, .float .f64 0, .float .f64 0, .float .f64 0, .float .f64 0], .int .i64 50]) ∧ Below w.heap.size w w' := by
  have c1 := Lib.hid (fun w => refRight_any x w lx)
  have c2 := Lib.hid (fun w => refRight_any y w ly)
  have c3 := Lib.hid (fun w => refRight_any z w lz)
  cases h : (rightB x && rightB y && rightB z)
  · exact unit05_no x y z _ _ _ w (Lib.hid h) c1 c2 c3
  · have hm : (leB 4318952042648305664 (mostW x y z) && leB (mostW x y z) 4895412794951729152) = false := by
      unfold hasU at hU
      rw [h, Bool.true_and] at hU
      exact hU
    rw [Bool.and_eq_true, Bool.and_eq_true] at h
    obtain ⟨⟨h1, h2⟩, h3⟩ := h
    rw [h1] at c1
    rw [h2] at c2
    rw [h3] at c3
    obtain ⟨p1, p2⟩ := rung_right x h1
    obtain ⟨q1, q2⟩ := rung_right y h2
    obtain ⟨s1, s2⟩ := rung_right z h3
    obtain ⟨m1, m2, _⟩ := max_facts _ _ p1 q1 p2 q2
    obtain ⟨n1, n2, _⟩ := max_facts _ _ m1 s1 m2 s2
    obtain ⟨b1, o1, e1⟩ := gt_max p1 q1 p2 q2
    obtain ⟨b2, o2, e2⟩ := gt_max m1 s1 m2 s2
    have hw : mostW x y z = (if b2 = true then rung z else if b1 = true then rung y else rung x) := by
      show maxW (maxW (rung x) (rung y)) (rung z) = _
      rw [e2, e1]
    have o3 := order_lt (mostW x y z) 4318952042648305664 n1 (by decide) n2 (by decide)
    have o4 := order_gt (mostW x y z) 4895412794951729152 n1 (by decide) n2 (by decide)
    rw [hw] at o3 o4
    rw [e1] at o2
    refine unit05_off x y z (rung x) (rung y) (rung z) b1 b2 _ _ w (Lib.hid ?_) c1 c2 c3 (Lib.hid fun w => abs_any x w lx) (Lib.hid fun w => abs_any y w ly) (Lib.hid fun w => abs_any z w lz) (Lib.hid ldexp_down) (Lib.hid ldexp_upp) o1 o2 o3 o4
    rw [← hw]
    unfold leB at hm
    rcases Int.lt_or_le (val (mostW x y z)) (val 4318952042648305664) with g | g
    · rw [decide_eq_true g, Bool.true_or]
    · rw [decide_eq_true g, Bool.true_and] at hm
      have g2 := of_decide_eq_false hm
      rw [decide_eq_true (show val 4895412794951729152 < val (mostW x y z) by omega), Bool.or_true]

set_option maxRecDepth 100000 in
theorem runit_any (x y z : Nat) (w : World) (lx : x < 18446744073709551616) (ly : y < 18446744073709551616) (lz : z < 18446744073709551616) (hU : hasU x y z = true) :
    Calls Tryz.prog 11 #[.agg #[.float .f64 x, .float .f64 y, .float .f64 z]] w fun r w' => r = .returned (.tuple #[.agg #[.float .f64 (unitV x y z).x.lo, .float .f64 (unitV x y z).x.hi, .float .f64 (unitV x y z).y.lo, .float .f64 (unitV x y z).y.hi, .float .f64 (unitV x y z).z.lo, .float .f64 (unitV x y z).z.hi], .int .i64 0]) ∧ Below w.heap.size w w' := by
  obtain ⟨fN, f1, f2, f3⟩ := unit_fits x y z lx ly lz hU
  unfold hasU leB at hU
  simp only [Bool.and_eq_true, decide_eq_true_eq] at hU
  obtain ⟨⟨⟨h1, h2⟩, h3⟩, g1, g2⟩ := hU
  have c1 := Lib.hid (fun w => refRight_any x w lx)
  have c2 := Lib.hid (fun w => refRight_any y w ly)
  have c3 := Lib.hid (fun w => refRight_any z w lz)
  rw [h1] at c1
  rw [h2] at c2
  rw [h3] at c3
  have k1 := one_fit lx h1
  have k2 := one_fit ly h2
  have k3 := one_fit lz h3
  obtain ⟨p1, p2⟩ := rung_right x h1
  obtain ⟨q1, q2⟩ := rung_right y h2
  obtain ⟨s1, s2⟩ := rung_right z h3
  obtain ⟨m1, m2, _⟩ := max_facts _ _ p1 q1 p2 q2
  obtain ⟨n1, n2, _⟩ := max_facts _ _ m1 s1 m2 s2
  obtain ⟨b1, o1, e1⟩ := gt_max p1 q1 p2 q2
  obtain ⟨b2, o2, e2⟩ := gt_max m1 s1 m2 s2
  have o3 := order_lt (mostW x y z) 4318952042648305664 n1 (by decide) n2 (by decide)
  have o4 := order_gt (mostW x y z) 4895412794951729152 n1 (by decide) n2 (by decide)
  rw [decide_eq_false (by omega)] at o3 o4
  have hw : mostW x y z = (if b2 = true then rung z else if b1 = true then rung y else rung x) := by
    show maxW (maxW (rung x) (rung y)) (rung z) = _
    rw [e2, e1]
  rw [hw] at o3 o4
  rw [e1] at o2
  have hN : Hid (∀ (pb : Nat) (v : World), Has1 v (pb, #[.int .i64 0]) → Calls Tryz.prog 45 #[.pointer (some ⟨pb, 0, none⟩), .agg #[.float .f64 x, .float .f64 x, .float .f64 y, .float .f64 y, .float .f64 z, .float .f64 z]] v fun r w' => r = .returned (.agg #[.float .f64 (unitN x y z).lo, .float .f64 (unitN x y z).hi]) ∧ Put ⟨pb, 0, none⟩ (.int .i64 0) v w') := by
    have h := fun pb v hC => rvnorm_any (a := at3 x y z) 0 ⟨one_wd lx, one_wd ly, one_wd lz⟩ pb v hC
    have eN : (normV 0 (at3 x y z)).e = 0 := fN.e
    rw [eN] at h
    exact Lib.hid h
  have a1 := Lib.hid (fun w => abs_any x w lx)
  have a2 := Lib.hid (fun w => abs_any y w ly)
  have a3 := Lib.hid (fun w => abs_any z w lz)
  have d1 : Hid (∀ (pb : Nat) (v : World), Has1 v (pb, #[.int .i64 0]) → Calls Tryz.prog 47 #[.pointer (some ⟨pb, 0, none⟩), .agg #[.float .f64 x, .float .f64 x], .agg #[.float .f64 (unitN x y z).lo, .float .f64 (unitN x y z).hi]] v fun r w' => r = .returned (.agg #[.float .f64 (divR (oneR x) (unitN x y z)).lo, .float .f64 (divR (oneR x) (unitN x y z)).hi]) ∧ Put ⟨pb, 0, none⟩ (.int .i64 0) v w') := Lib.hid (rdiv_ok k1 fN f1)
  have q1 : Hid (∀ w, Calls Tryz.prog 46 #[.agg #[.float .f64 (divR (oneR x) (unitN x y z)).lo, .float .f64 (divR (oneR x) (unitN x y z)).hi]] w fun r w' => r = .returned (.agg #[.float .f64 (unitV x y z).x.lo, .float .f64 (unitV x y z).x.hi]) ∧ Below w.heap.size w w') := Lib.hid (rwithin_any f1)
  have d2 : Hid (∀ (pb : Nat) (v : World), Has1 v (pb, #[.int .i64 0]) → Calls Tryz.prog 47 #[.pointer (some ⟨pb, 0, none⟩), .agg #[.float .f64 y, .float .f64 y], .agg #[.float .f64 (unitN x y z).lo, .float .f64 (unitN x y z).hi]] v fun r w' => r = .returned (.agg #[.float .f64 (divR (oneR y) (unitN x y z)).lo, .float .f64 (divR (oneR y) (unitN x y z)).hi]) ∧ Put ⟨pb, 0, none⟩ (.int .i64 0) v w') := Lib.hid (rdiv_ok k2 fN f2)
  have q2 : Hid (∀ w, Calls Tryz.prog 46 #[.agg #[.float .f64 (divR (oneR y) (unitN x y z)).lo, .float .f64 (divR (oneR y) (unitN x y z)).hi]] w fun r w' => r = .returned (.agg #[.float .f64 (unitV x y z).y.lo, .float .f64 (unitV x y z).y.hi]) ∧ Below w.heap.size w w') := Lib.hid (rwithin_any f2)
  have d3 : Hid (∀ (pb : Nat) (v : World), Has1 v (pb, #[.int .i64 0]) → Calls Tryz.prog 47 #[.pointer (some ⟨pb, 0, none⟩), .agg #[.float .f64 z, .float .f64 z], .agg #[.float .f64 (unitN x y z).lo, .float .f64 (unitN x y z).hi]] v fun r w' => r = .returned (.agg #[.float .f64 (divR (oneR z) (unitN x y z)).lo, .float .f64 (divR (oneR z) (unitN x y z)).hi]) ∧ Put ⟨pb, 0, none⟩ (.int .i64 0) v w') := Lib.hid (rdiv_ok k3 fN f3)
  have q3 : Hid (∀ w, Calls Tryz.prog 46 #[.agg #[.float .f64 (divR (oneR z) (unitN x y z)).lo, .float .f64 (divR (oneR z) (unitN x y z)).hi]] w fun r w' => r = .returned (.agg #[.float .f64 (unitV x y z).z.lo, .float .f64 (unitV x y z).z.hi]) ∧ Below w.heap.size w w') := Lib.hid (rwithin_any f3)
  exact unit05_good x y z _ _ _ (unitN x y z).lo (unitN x y z).hi (divR (oneR x) (unitN x y z)).lo (divR (oneR x) (unitN x y z)).hi (divR (oneR y) (unitN x y z)).lo (divR (oneR y) (unitN x y z)).hi (divR (oneR z) (unitN x y z)).lo (divR (oneR z) (unitN x y z)).hi (unitV x y z).x.lo (unitV x y z).x.hi (unitV x y z).y.lo (unitV x y z).y.hi (unitV x y z).z.lo (unitV x y z).z.hi b1 b2 w c1 c2 c3 a1 a2 a3 (Lib.hid ldexp_down) (Lib.hid ldexp_upp) o1 o2 o3 o4 (Lib.hid (rnum_ok k1)) (Lib.hid (rnum_ok k2)) (Lib.hid (rnum_ok k3)) hN d1 q1 d2 q2 d3 q3

theorem units_same (x y z : Nat) (lx : x < 18446744073709551616) (ly : y < 18446744073709551616) (lz : z < 18446744073709551616) :
    ∃ (x1 x2 x3 x4 x5 x6 : Nat) (e : Int), (∀ w, Calls Tryz.prog 10 #[.agg #[.float .f64 x, .float .f64 y, .float .f64 z]] w fun r w' => r = .returned (.tuple #[.agg #[.float .f64 x1, .float .f64 x2, .float .f64 x3, .float .f64 x4, .float .f64 x5, .float .f64 x6], .int .i64 e]) ∧ Below w.heap.size w w') ∧
      (∀ w, Calls Tryz.prog 11 #[.agg #[.float .f64 x, .float .f64 y, .float .f64 z]] w fun r w' => r = .returned (.tuple #[.agg #[.float .f64 x1, .float .f64 x2, .float .f64 x3, .float .f64 x4, .float .f64 x5, .float .f64 x6], .int .i64 e]) ∧ Below w.heap.size w w') := by
  cases hU : hasU x y z
  · exact ⟨0, 0, 0, 0, 0, 0, 50, fun w => unit_bad x y z w lx ly lz hU, fun w => runit_bad x y z w lx ly lz hU⟩
  · obtain ⟨fN, f1, f2, f3⟩ := unit_fits x y z lx ly lz hU
    exact ⟨_, _, _, _, _, _, 0, fun w => unit_any x y z w lx ly lz hU fN f1 f2 f3, fun w => runit_any x y z w lx ly lz hU⟩

end Go.Proofs.YtcfgahlaiiibiaaGreat

namespace Go.Proofs.YtcfgahlaiiibiaaGreat
open Go.RowKit
attribute [local go_sem] run_store_float

def VtRel (w : World) (po pa : Nat) (l : RowL) (i : Value) (v : World) : Prop := ∃ (k : Nat) (e : Int), k ≤ 14 ∧ i = .int .i64 k ∧ Own w ((po, #[.int .i64 e]) :: (pa, #[.int .i64 e]) :: l) v

set_option maxRecDepth 100000 in
set_option maxHeartbeats 16000000 in
theorem vtells_law (t1 t2 t3 a1 a2 a3 a4 a5 a6 b1 b2 b3 b4 b5 b6 kl kh x1 x2 x3 x4 x5 x6 : Nat) (er : Int) (P1 P2 P3 P4 P5 P6 Q1 Q2 : Int → Nat → Nat) (EE : Int → Nat → Int) (w : World)
    (u1 : Hid (∀ w, Calls Tryz.prog 10 #[.agg #[.float .f64 t1, .float .f64 t2, .float .f64 t3]] w fun r w' => r = .returned (.tuple #[.agg #[.float .f64 x1, .float .f64 x2, .float .f64 x3, .float .f64 x4, .float .f64 x5, .float .f64 x6], .int .i64 er]) ∧ Below w.heap.size w w'))
    (u2 : Hid (∀ w, Calls Tryz.prog 11 #[.agg #[.float .f64 t1, .float .f64 t2, .float .f64 t3]] w fun r w' => r = .returned (.tuple #[.agg #[.float .f64 x1, .float .f64 x2, .float .f64 x3, .float .f64 x4, .float .f64 x5, .float .f64 x6], .int .i64 er]) ∧ Below w.heap.size w w'))
    (cM : Hid (∀ (i : Nat), i < 7 → ∀ (e : Int) (pb : Nat) (v : World), Has1 v (pb, #[.int .i64 e]) → Calls Tryz.prog 13 #[.int .i64 i, .pointer (some ⟨pb, 0, none⟩), .agg #[.float .f64 a1, .float .f64 a2, .float .f64 a3, .float .f64 a4, .float .f64 a5, .float .f64 a6], .agg #[.float .f64 b1, .float .f64 b2, .float .f64 b3, .float .f64 b4, .float .f64 b5, .float .f64 b6], .agg #[.float .f64 kl, .float .f64 kh]] v fun r w' => r = .returned (.tuple #[.agg #[.float .f64 (P1 e i), .float .f64 (P2 e i), .float .f64 (P3 e i), .float .f64 (P4 e i), .float .f64 (P5 e i), .float .f64 (P6 e i)], .agg #[.float .f64 (Q1 e i), .float .f64 (Q2 e i)]]) ∧ Put ⟨pb, 0, none⟩ (.int .i64 (EE e i)) v w'))
    (cT : Hid (∀ (i : Nat), i < 7 → ∀ (e : Int) (pb : Nat) (v : World), Has1 v (pb, #[.int .i64 e]) → Calls Tryz.prog 14 #[.int .i64 i, .pointer (some ⟨pb, 0, none⟩), .agg #[.float .f64 a1, .float .f64 a2, .float .f64 a3, .float .f64 a4, .float .f64 a5, .float .f64 a6], .agg #[.float .f64 b1, .float .f64 b2, .float .f64 b3, .float .f64 b4, .float .f64 b5, .float .f64 b6], .agg #[.float .f64 kl, .float .f64 kh]] v fun r w' => r = .returned (.tuple #[.agg #[.float .f64 (P1 e i), .float .f64 (P2 e i), .float .f64 (P3 e i), .float .f64 (P4 e i), .float .f64 (P5 e i), .float .f64 (P6 e i)], .agg #[.float .f64 (Q1 e i), .float .f64 (Q2 e i)]]) ∧ Put ⟨pb, 0, none⟩ (.int .i64 (EE e i)) v w')) :
    Calls Tryz.prog 4 #[.agg #[.float .f64 t1, .float .f64 t2, .float .f64 t3], .agg #[.float .f64 a1, .float .f64 a2, .float .f64 a3, .float .f64 a4, .float .f64 a5, .float .f64 a6], .agg #[.float .f64 b1, .float .f64 b2, .float .f64 b3, .float .f64 b4, .float .f64 b5, .float .f64 b6], .agg #[.float .f64 kl, .float .f64 kh]] w fun r w' => r = .returned (.bool true) ∧ Below w.heap.size w w' := by
  have M := Lib.hid (((((Own.nil w).made #[.float .f64 t1, .float .f64 t2, .float .f64 t3] 32).made #[.float .f64 a1, .float .f64 a2, .float .f64 a3, .float .f64 a4, .float .f64 a5, .float .f64 a6] 34).made #[.float .f64 b1, .float .f64 b2, .float .f64 b3, .float .f64 b4, .float .f64 b5, .float .f64 b6] 34).made #[.float .f64 kl, .float .f64 kh] 24)
  simp only [World.size_alloc] at M
  obtain ⟨k1, k2, k3⟩ := (M.out.nth 3 rfl).three
  go_enter Tryz.func4, Tryz.ntmps4
  go_wp2_with fail
  refine (u1.out _).mono ?_
  rintro r w1 ⟨rfl, hb⟩
  clear k1 k2 k3
  replace M := Lib.hid ((M.out.below hb).made #[.float .f64 x1, .float .f64 x2, .float .f64 x3, .float .f64 x4, .float .f64 x5, .float .f64 x6] 34)
  clear hb
  obtain ⟨k1, k2, k3⟩ := (M.out.nth 4 rfl).three
  go_wp2_with fail
  refine (u2.out _).mono ?_
  rintro r w2 ⟨rfl, hb⟩
  clear k1 k2 k3
  replace M := Lib.hid ((M.out.below hb).made #[.float .f64 x1, .float .f64 x2, .float .f64 x3, .float .f64 x4, .float .f64 x5, .float .f64 x6] 34)
  clear hb
  obtain ⟨k1, k2, k3, k4, k5, k6⟩ := (M.out.nth 0 rfl).six
  obtain ⟨k7, k8, k9, k10, k11, k12⟩ := (M.out.nth 1 rfl).six
  go_wp2_with fail
  refine (sameV_any _ _ _ _ _ _ _).mono ?_
  rintro r w3 ⟨rfl, hb⟩
  replace M := Lib.hid (((M.out.below hb).tail.tail.made #[.int .i64 0] 39).made #[.int .i64 0] 42)
  simp only [World.size_alloc] at M
  clear hb k1 k2 k3 k4 k5 k6 k7 k8 k9 k10 k11 k12
  go_wp2_with fail
  go_loopw [44] (VtRel w (w3.heap.size + 1) w3.heap.size [(w.heap.size + 1 + 1 + 1, #[.float .f64 kl, .float .f64 kh]), (w.heap.size + 1 + 1, #[.float .f64 b1, .float .f64 b2, .float .f64 b3, .float .f64 b4, .float .f64 b5, .float .f64 b6]), (w.heap.size + 1, #[.float .f64 a1, .float .f64 a2, .float .f64 a3, .float .f64 a4, .float .f64 a5, .float .f64 a6]), (w.heap.size, #[.float .f64 t1, .float .f64 t2, .float .f64 t3])]) (fun i _ => 14 - (intOf i).toNat)
  case atStart => exact ⟨0, 0, Nat.zero_le _, rfl, M.out⟩
  case round =>
    clear M u1 u2
    obtain ⟨k, e, hk, rfl, hM⟩ := hrel
    have M := Lib.hid hM
    clear hM
    by_cases hlt : k < 14
    · by_cases h7 : k < 7
      · replace M := Lib.hid ((M.out.made #[.int .i64 0] 39).made #[.int .i64 0] 42)
        simp only [World.size_alloc] at M
        obtain ⟨k1, k2, k3, k4, k5, k6⟩ := (M.out.nth 6 rfl).six
        obtain ⟨k7, k8, k9, k10, k11, k12⟩ := (M.out.nth 5 rfl).six
        obtain ⟨k13, k14⟩ := (M.out.nth 4 rfl).two
        go_wp2_with fail
        refine (cM.out (k % 7) (Nat.mod_lt _ (by decide)) 0 _ _ (M.out.nth 1 rfl)).mono ?_
        rintro r w5 ⟨rfl, hp⟩
        clear k1 k2 k3 k4 k5 k6 k7 k8 k9 k10 k11 k12 k13 k14
        replace M := Lib.hid (((M.out.putAt 1 rfl hp).made #[.float .f64 (P1 0 (k % 7)), .float .f64 (P2 0 (k % 7)), .float .f64 (P3 0 (k % 7)), .float .f64 (P4 0 (k % 7)), .float .f64 (P5 0 (k % 7)), .float .f64 (P6 0 (k % 7))] 34).made #[.float .f64 (Q1 0 (k % 7)), .float .f64 (Q2 0 (k % 7))] 24)
        simp only [World.size_alloc] at M
        clear hp
        obtain ⟨k1, k2, k3, k4, k5, k6⟩ := (M.out.nth 8 rfl).six
        obtain ⟨k7, k8, k9, k10, k11, k12⟩ := (M.out.nth 7 rfl).six
        obtain ⟨k13, k14⟩ := (M.out.nth 6 rfl).two
        go_wp2_with fail
        refine (cT.out (k % 7) (Nat.mod_lt _ (by decide)) 0 _ _ (M.out.nth 2 rfl)).mono ?_
        rintro r w6 ⟨rfl, hp⟩
        clear k1 k2 k3 k4 k5 k6 k7 k8 k9 k10 k11 k12 k13 k14
        replace M := Lib.hid (((M.out.putAt 2 rfl hp).made #[.float .f64 (P1 0 (k % 7)), .float .f64 (P2 0 (k % 7)), .float .f64 (P3 0 (k % 7)), .float .f64 (P4 0 (k % 7)), .float .f64 (P5 0 (k % 7)), .float .f64 (P6 0 (k % 7))] 34).made #[.float .f64 (Q1 0 (k % 7)), .float .f64 (Q2 0 (k % 7))] 24)
        simp only [World.size_alloc] at M
        clear hp
        go_upto_region 16 with fail
        replace M := Lib.hid M.out.drew
        revert M
        generalize ((w6.alloc (.cells #[.float .f64 (P1 0 (k % 7)), .float .f64 (P2 0 (k % 7)), .float .f64 (P3 0 (k % 7)), .float .f64 (P4 0 (k % 7)), .float .f64 (P5 0 (k % 7)), .float .f64 (P6 0 (k % 7))] 34)).alloc (.cells #[.float .f64 (Q1 0 (k % 7)), .float .f64 (Q2 0 (k % 7))] 24)) = W6
        intro M
        obtain ⟨k1, k2, k3, k4, k5, k6⟩ := (M.out.nth 3 rfl).six
        obtain ⟨j1, j2, j3, j4, j5, j6⟩ := (M.out.nth 1 rfl).six
        obtain ⟨q1, q2⟩ := (M.out.nth 2 rfl).two
        obtain ⟨s1, s2⟩ := (M.out.nth 0 rfl).two
        have kd := (M.out.nth 4 rfl).pc
        go_region_held3 (fun w' => w'.cell? ⟨w5.heap.size, 0, none⟩ = some (.float .f64 (P1 0 (k % 7))) ∧ w'.cell? ⟨w5.heap.size, 1, none⟩ = some (.float .f64 (P2 0 (k % 7))) ∧ w'.cell? ⟨w5.heap.size, 2, none⟩ = some (.float .f64 (P3 0 (k % 7))) ∧ w'.cell? ⟨w5.heap.size, 3, none⟩ = some (.float .f64 (P4 0 (k % 7))) ∧ w'.cell? ⟨w5.heap.size, 4, none⟩ = some (.float .f64 (P5 0 (k % 7))) ∧ w'.cell? ⟨w5.heap.size, 5, none⟩ = some (.float .f64 (P6 0 (k % 7))) ∧ w'.cell? ⟨w6.heap.size, 0, none⟩ = some (.float .f64 (P1 0 (k % 7))) ∧ w'.cell? ⟨w6.heap.size, 1, none⟩ = some (.float .f64 (P2 0 (k % 7))) ∧ w'.cell? ⟨w6.heap.size, 2, none⟩ = some (.float .f64 (P3 0 (k % 7))) ∧ w'.cell? ⟨w6.heap.size, 3, none⟩ = some (.float .f64 (P4 0 (k % 7))) ∧ w'.cell? ⟨w6.heap.size, 4, none⟩ = some (.float .f64 (P5 0 (k % 7))) ∧ w'.cell? ⟨w6.heap.size, 5, none⟩ = some (.float .f64 (P6 0 (k % 7))) ∧ w'.cell? ⟨w5.heap.size + 1, 0, none⟩ = some (.float .f64 (Q1 0 (k % 7))) ∧ w'.cell? ⟨w5.heap.size + 1, 1, none⟩ = some (.float .f64 (Q2 0 (k % 7))) ∧ w'.cell? ⟨w6.heap.size + 1, 0, none⟩ = some (.float .f64 (Q1 0 (k % 7))) ∧ w'.cell? ⟨w6.heap.size + 1, 1, none⟩ = some (.float .f64 (Q2 0 (k % 7))) ∧ w'.cell? ⟨wr.heap.size + 1, 0, none⟩ = some (.int .i64 (EE 0 (k % 7)))) (((try dsimp only); (repeat' apply And.intro); all_goals (repeat (first | (with_reducible assumption) | ((with_reducible refine keep_undrew ?_); (with_reducible assumption)) | (with_reducible refine keep_drew ?_) | (with_reducible refine keep_set _ (by first | (with_reducible assumption) | omega) ?_)))))
        (first
          | (go_at_call 12; (with_reducible refine (sameV_any _ _ _ _ _ _ _).mono ?_); rintro rr w7 ⟨rfl, hb⟩; replace M := Lib.hid (M.out.below hb); clear hb k1 k2 k3 k4 k5 k6 j1 j2 j3 j4 j5 j6 q1 q2 s1 s2 kd; obtain ⟨k1, k2, k3, k4, k5, k6⟩ := (M.out.nth 3 rfl).six; obtain ⟨j1, j2, j3, j4, j5, j6⟩ := (M.out.nth 1 rfl).six; obtain ⟨q1, q2⟩ := (M.out.nth 2 rfl).two; obtain ⟨s1, s2⟩ := (M.out.nth 0 rfl).two; have kd := (M.out.nth 4 rfl).pc)
          | (go_at_call 8; (with_reducible refine (l_same _ _ _).mono ?_); rintro rr w7 ⟨rfl, hb⟩; replace M := Lib.hid (M.out.below hb); clear hb k1 k2 k3 k4 k5 k6 j1 j2 j3 j4 j5 j6 q1 q2 s1 s2 kd; obtain ⟨k1, k2, k3, k4, k5, k6⟩ := (M.out.nth 3 rfl).six; obtain ⟨j1, j2, j3, j4, j5, j6⟩ := (M.out.nth 1 rfl).six; obtain ⟨q1, q2⟩ := (M.out.nth 2 rfl).two; obtain ⟨s1, s2⟩ := (M.out.nth 0 rfl).two; have kd := (M.out.nth 4 rfl).pc)
          | (go_at_call 15; (with_reducible refine (err_any (EE 0 (k % 7)) _ 0 _ (M.out.nth 5 rfl).pc).mono ?_); rintro rr w7 ⟨rfl, rfl⟩))
        clear k1 k2 k3 k4 k5 k6 j1 j2 j3 j4 j5 j6 q1 q2 s1 s2 kd
        go_wp2
        go_roundw
        case rel => exact ⟨k + 1, e, by omega, by go_num, M.out.tail.tail.tail.tail.tail.tail⟩
        case measure => simp [intOf]; omega
      · replace M := Lib.hid ((M.out.made #[.int .i64 0] 39).made #[.int .i64 0] 42)
        simp only [World.size_alloc] at M
        obtain ⟨k1, k2, k3, k4, k5, k6⟩ := (M.out.nth 6 rfl).six
        obtain ⟨k7, k8, k9, k10, k11, k12⟩ := (M.out.nth 5 rfl).six
        obtain ⟨k13, k14⟩ := (M.out.nth 4 rfl).two
        go_wp2_with fail
        refine (cM.out (k % 7) (Nat.mod_lt _ (by decide)) e _ _ (M.out.nth 3 rfl)).mono ?_
        rintro r w5 ⟨rfl, hp⟩
        clear k1 k2 k3 k4 k5 k6 k7 k8 k9 k10 k11 k12 k13 k14
        replace M := Lib.hid (((M.out.putAt 3 rfl hp).made #[.float .f64 (P1 e (k % 7)), .float .f64 (P2 e (k % 7)), .float .f64 (P3 e (k % 7)), .float .f64 (P4 e (k % 7)), .float .f64 (P5 e (k % 7)), .float .f64 (P6 e (k % 7))] 34).made #[.float .f64 (Q1 e (k % 7)), .float .f64 (Q2 e (k % 7))] 24)
        simp only [World.size_alloc] at M
        clear hp
        obtain ⟨k1, k2, k3, k4, k5, k6⟩ := (M.out.nth 8 rfl).six
        obtain ⟨k7, k8, k9, k10, k11, k12⟩ := (M.out.nth 7 rfl).six
        obtain ⟨k13, k14⟩ := (M.out.nth 6 rfl).two
        go_wp2_with fail
        refine (cT.out (k % 7) (Nat.mod_lt _ (by decide)) e _ _ (M.out.nth 4 rfl)).mono ?_
        rintro r w6 ⟨rfl, hp⟩
        clear k1 k2 k3 k4 k5 k6 k7 k8 k9 k10 k11 k12 k13 k14
        replace M := Lib.hid (((M.out.putAt 4 rfl hp).made #[.float .f64 (P1 e (k % 7)), .float .f64 (P2 e (k % 7)), .float .f64 (P3 e (k % 7)), .float .f64 (P4 e (k % 7)), .float .f64 (P5 e (k % 7)), .float .f64 (P6 e (k % 7))] 34).made #[.float .f64 (Q1 e (k % 7)), .float .f64 (Q2 e (k % 7))] 24)
        simp only [World.size_alloc] at M
        clear hp
        go_upto_region 16 with fail
        replace M := Lib.hid M.out.drew
        revert M
        generalize ((w6.alloc (.cells #[.float .f64 (P1 e (k % 7)), .float .f64 (P2 e (k % 7)), .float .f64 (P3 e (k % 7)), .float .f64 (P4 e (k % 7)), .float .f64 (P5 e (k % 7)), .float .f64 (P6 e (k % 7))] 34)).alloc (.cells #[.float .f64 (Q1 e (k % 7)), .float .f64 (Q2 e (k % 7))] 24)) = W6
        intro M
        obtain ⟨k1, k2, k3, k4, k5, k6⟩ := (M.out.nth 3 rfl).six
        obtain ⟨j1, j2, j3, j4, j5, j6⟩ := (M.out.nth 1 rfl).six
        obtain ⟨q1, q2⟩ := (M.out.nth 2 rfl).two
        obtain ⟨s1, s2⟩ := (M.out.nth 0 rfl).two
        have kd := (M.out.nth 6 rfl).pc
        go_region_held3 (fun w' => w'.cell? ⟨w5.heap.size, 0, none⟩ = some (.float .f64 (P1 e (k % 7))) ∧ w'.cell? ⟨w5.heap.size, 1, none⟩ = some (.float .f64 (P2 e (k % 7))) ∧ w'.cell? ⟨w5.heap.size, 2, none⟩ = some (.float .f64 (P3 e (k % 7))) ∧ w'.cell? ⟨w5.heap.size, 3, none⟩ = some (.float .f64 (P4 e (k % 7))) ∧ w'.cell? ⟨w5.heap.size, 4, none⟩ = some (.float .f64 (P5 e (k % 7))) ∧ w'.cell? ⟨w5.heap.size, 5, none⟩ = some (.float .f64 (P6 e (k % 7))) ∧ w'.cell? ⟨w6.heap.size, 0, none⟩ = some (.float .f64 (P1 e (k % 7))) ∧ w'.cell? ⟨w6.heap.size, 1, none⟩ = some (.float .f64 (P2 e (k % 7))) ∧ w'.cell? ⟨w6.heap.size, 2, none⟩ = some (.float .f64 (P3 e (k % 7))) ∧ w'.cell? ⟨w6.heap.size, 3, none⟩ = some (.float .f64 (P4 e (k % 7))) ∧ w'.cell? ⟨w6.heap.size, 4, none⟩ = some (.float .f64 (P5 e (k % 7))) ∧ w'.cell? ⟨w6.heap.size, 5, none⟩ = some (.float .f64 (P6 e (k % 7))) ∧ w'.cell? ⟨w5.heap.size + 1, 0, none⟩ = some (.float .f64 (Q1 e (k % 7))) ∧ w'.cell? ⟨w5.heap.size + 1, 1, none⟩ = some (.float .f64 (Q2 e (k % 7))) ∧ w'.cell? ⟨w6.heap.size + 1, 0, none⟩ = some (.float .f64 (Q1 e (k % 7))) ∧ w'.cell? ⟨w6.heap.size + 1, 1, none⟩ = some (.float .f64 (Q2 e (k % 7))) ∧ w'.cell? ⟨w3.heap.size + 1, 0, none⟩ = some (.int .i64 (EE e (k % 7)))) (((try dsimp only); (repeat' apply And.intro); all_goals (repeat (first | (with_reducible assumption) | ((with_reducible refine keep_undrew ?_); (with_reducible assumption)) | (with_reducible refine keep_drew ?_) | (with_reducible refine keep_set _ (by first | (with_reducible assumption) | omega) ?_)))))
        (first
          | (go_at_call 12; (with_reducible refine (sameV_any _ _ _ _ _ _ _).mono ?_); rintro rr w7 ⟨rfl, hb⟩; replace M := Lib.hid (M.out.below hb); clear hb k1 k2 k3 k4 k5 k6 j1 j2 j3 j4 j5 j6 q1 q2 s1 s2 kd; obtain ⟨k1, k2, k3, k4, k5, k6⟩ := (M.out.nth 3 rfl).six; obtain ⟨j1, j2, j3, j4, j5, j6⟩ := (M.out.nth 1 rfl).six; obtain ⟨q1, q2⟩ := (M.out.nth 2 rfl).two; obtain ⟨s1, s2⟩ := (M.out.nth 0 rfl).two; have kd := (M.out.nth 6 rfl).pc)
          | (go_at_call 8; (with_reducible refine (l_same _ _ _).mono ?_); rintro rr w7 ⟨rfl, hb⟩; replace M := Lib.hid (M.out.below hb); clear hb k1 k2 k3 k4 k5 k6 j1 j2 j3 j4 j5 j6 q1 q2 s1 s2 kd; obtain ⟨k1, k2, k3, k4, k5, k6⟩ := (M.out.nth 3 rfl).six; obtain ⟨j1, j2, j3, j4, j5, j6⟩ := (M.out.nth 1 rfl).six; obtain ⟨q1, q2⟩ := (M.out.nth 2 rfl).two; obtain ⟨s1, s2⟩ := (M.out.nth 0 rfl).two; have kd := (M.out.nth 6 rfl).pc)
          | (go_at_call 15; (with_reducible refine (err_any (EE e (k % 7)) _ 0 _ (M.out.nth 7 rfl).pc).mono ?_); rintro rr w7 ⟨rfl, rfl⟩))
        clear k1 k2 k3 k4 k5 k6 j1 j2 j3 j4 j5 j6 q1 q2 s1 s2 kd
        go_wp2
        go_roundw
        case rel => exact ⟨k + 1, (EE e (k % 7)), by omega, by go_num, M.out.tail.tail.tail.tail.tail.tail⟩
        case measure => simp [intOf]; omega
    · obtain rfl : k = 14 := by omega
      go_wp2_with fail
      refine (awake5_any _).mono ?_
      rintro r w8 ⟨rfl, hb⟩
      replace M := Lib.hid (M.out.below hb)
      go_wp2
      go_ret
      exact ⟨rfl, M.out.base⟩

end Go.Proofs.YtcfgahlaiiibiaaGreat
