
/- What wholeRoot and root of package dir answer, and Sqrt. -/
import Derived.Test.YtdppppaoflhgdaaDirF
import Derived.Test.YtdppppaoflhgdaaRootM
import Derived.Test.YtdppppaoflhgdaaFloat
namespace Go.Proofs.Ytdppppaoflhgdaa
open Go.RowKit

/-- What wholeRoot answers: the whole root. -/
def SomeRoot (W : Nat) (w : World) (e : Ending) (w' : World) : Prop := ∃ r : Nat, e = .returned (.int .u64 r) ∧ Above W r ∧ r * r ≤ W ∧ Below w.heap.size w w'

set_option maxRecDepth 100000 in
set_option maxHeartbeats 1000000 in
theorem wholeRoot_any (x : Nat) (w : World) (h1 : 1152921504606846976 ≤ x) (h2 : x < 4611686018427387904) :
    Calls Try.prog 115 #[.agg #[.int .u64 x, .int .u64 0]] w (SomeRoot (x * 18446744073709551616) w) := by
  have cD := Lib.hid (fun (r : Nat) (w : World) (h : x < r) (hr : r < 18446744073709551616) => div64_some x 0 r w (by omega) h (by decide) hr)
  have hA := Above.start (x * 18446744073709551616) (by omega) (by omega)
  have HA := Lib.hid hA
  clear h1 hA
  go_enter Try.func115, Try.ntmps115
  go_wp2_with fail
  go_loop [3] (fun a => ∃ r : Nat, a = .int .u64 r ∧ Above (x * 18446744073709551616) r) (fun a => (intOf a).toNat)
  case atStart => exact ⟨9223372036854775808, rfl, HA.out⟩
  case round =>
    obtain ⟨r, rfl, g⟩ := hrel
    have hs := g.sum
    have hlo := g.lo
    have hhi := g.hi
    have G := Lib.hid g
    clear g
    go_wp2_with fail
    refine (cD.out r _ (by omega) (by omega)).mono ?_
    rintro e w1 ⟨rfl, rfl⟩
    rw [Nat.add_zero]
    obtain ⟨Q, hQ⟩ : ∃ Q, Q = x * 18446744073709551616 / r := ⟨_, rfl⟩
    obtain ⟨P, hP⟩ : ∃ P, P = x * 18446744073709551616 % r := ⟨_, rfl⟩
    rw [← hQ, ← hP]
    rw [← hQ] at hs
    have HQ := Lib.hid hQ
    clear hQ hP
    by_cases c : r ≤ (r + Q) / 2
    · have c1 : decide ((r : Int) ≤ ((r : Int) + (Q : Int)) / 2) = true := by simp; omega
      have c2 : decide (r ≤ (r + Q) / 2) = true := by simp; omega
      have HS := Lib.hid (G.out.stop (by rw [← HQ.out]; exact c))
      go_wp2
      go_ret
      exact ⟨r, rfl, G.out, HS.out, bel1 _ _⟩
    · have c1 : decide ((r : Int) ≤ ((r : Int) + (Q : Int)) / 2) = false := by simp; omega
      have c2 : decide (r ≤ (r + Q) / 2) = false := by simp; omega
      have HS := Lib.hid (G.out.next (by rw [← HQ.out]; omega))
      rw [← HQ.out] at HS
      go_wp2_with fail
      exact ⟨⟨(r + Q) / 2, by go_num, HS.out⟩, by simp [intOf]; omega⟩

/-- Is something left of a root? -/
def restR (W : Nat) : Nat := if Nat.sqrt W * Nat.sqrt W = W then 0 else 1

theorem root_is {x r : Nat} (h : Above (x * 18446744073709551616) r) (hsq : r * r ≤ x * 18446744073709551616) :
    r = Nat.sqrt (x * 18446744073709551616) ∧ ((hiW (r * r) : Int) == (x : Int) && (loW (r * r) : Int) == 0) = decide (restR (x * 18446744073709551616) = 0) ∧ r < 18446744073709551616 := by
  have e1 := Nat.sqrt_le (x * 18446744073709551616)
  have e2 := Nat.lt_succ_sqrt (x * 18446744073709551616)
  have e3 := h.above
  have h3 := h.hi
  have a1 : r < Nat.sqrt (x * 18446744073709551616) + 1 := sq_lt (Nat.lt_of_le_of_lt hsq e2)
  have a2 : Nat.sqrt (x * 18446744073709551616) < r + 1 := sq_lt (Nat.lt_of_le_of_lt e1 e3)
  have hr : r = Nat.sqrt (x * 18446744073709551616) := by omega
  refine ⟨hr, ?_, by omega⟩
  unfold restR
  rw [← hr]
  have hl := hi_lo (r * r)
  have hlt := lo_lt (r * r)
  by_cases c : r * r = x * 18446744073709551616
  · rw [if_pos c]
    have : hiW (r * r) = x ∧ loW (r * r) = 0 := by omega
    simp [this.1, this.2]
  · rw [if_neg c]
    rw [show decide (1 = 0) = false from rfl, Bool.and_eq_false_iff, beq_eq_false_iff_ne, beq_eq_false_iff_ne]
    omega

set_option maxRecDepth 100000 in
set_option maxHeartbeats 2000000 in
theorem root_even (s : Bool) (m la x : Nat) (e X : Int) (w : World) (he0 : -3000 ≤ e) (he1 : e ≤ 3000) (hm : ((m : Int) == 0) = false) (hla : (la : Int) ≤ 63) (hla1 : 4 ≤ (la : Int))
    (cA : Hid (∀ w, Calls Try.prog 113 #[.int .u64 m] w fun e w' => e = .returned (.int .i64 la) ∧ w = w'))
    (hp : ((e - ((la : Int) - 2)).tmod 2 != 0) = false) (hx : IntKind.u64.wrap ((m : Int) * 2 ^ (la - 2)) = x) (h1 : 1152921504606846976 ≤ x) (h2 : x < 4611686018427387904)
    (hX : (e - ((la : Int) - 2) - 64).tdiv 2 = X) (hX0 : -3000 ≤ X) (hX1 : X ≤ 3000) :
    Calls Try.prog 105 #[.agg #[.bool s, .int .u64 m, .int .i64 e]] w fun r' w' => r' = .returned (.agg #[.bool false, .int .u64 (Nat.sqrt (x * 18446744073709551616)), .int .u64 (restR (x * 18446744073709551616)), .int .i64 (X - 64)]) ∧ Below w.heap.size w w' := by
  have cW := Lib.hid (fun w => wholeRoot_any x w h1 h2)
  have hq := run_eq_words
  clear h1 h2
  go_enter Try.func105, Try.ntmps105
  go_wp2_with fail
  refine (cA.out _).mono ?_
  rintro e1 w1 ⟨rfl, rfl⟩
  go_wp2_with fail
  refine (cW.out _).mono ?_
  rintro e1 w1 ⟨r, rfl, hab, hsq, hb⟩
  obtain ⟨hr1, hr2, hr3⟩ := root_is hab hsq
  have Hr1 := Lib.hid hr1
  have Hr2 := Lib.hid hr2
  have cT := Lib.hid (fun w => times_any r r w hr3 hr3)
  obtain ⟨g1, g2, g3, HB⟩ := holds3 hb
  have HH := Lib.hid (And.intro g1 (And.intro g2 (And.intro g3 HB)))
  have s1 := g3.2.1 0
  have s2 := g3.2.1 1
  clear g1 g2 g3 HB hb hab hsq hr1 hr2 hr3
  go_upto_region 9 with fail
  go_region_held3 (fun w' => w'.cell? ⟨w.heap.size + 1 + 1, 0, none⟩ = some (.int .u64 x) ∧ w'.cell? ⟨w.heap.size + 1 + 1, 1, none⟩ = some (.int .u64 0)) (go_keep)
    (first | (refine (cT.out _).mono ?_; rintro r w2 ⟨rfl, hb0⟩; have hb := undrew hb0; clear hb0; have t1 := (HH.out.2.2.1.below hb).2.1 0; have t2 := (HH.out.2.2.1.below hb).2.1 1; have Hb := Lib.hid hb; clear hb))
  obtain ⟨z1, c1, f1⟩ := HH.out.1.below Hb.out
  obtain ⟨z2, c2, f2⟩ := HH.out.2.1.below Hb.out
  have ne1 : ¬ w.heap.size + 1 = w.heap.size := by omega
  clear s1 s2 t1 t2
  by_cases hz : restR (x * 18446744073709551616) = 0
  · have hc : (!((hiW (r * r) : Int) == (x : Int)) || !((loW (r * r) : Int) == 0)) = false := by
      have := Hr2.out
      rw [decide_eq_true hz] at this
      rw [← Bool.not_and, this]; rfl
    have HZ := Lib.hid hz; clear hz
    have HC := Lib.hid hc; clear hc
    go_upto_if 34 with fail
    rw [HC.out]
    go_wp2
    refine bodyPost_ret (v := .agg #[.bool false, .int .u64 r, .int .u64 0, .int .i64 (X - 64)]) (by simp [results, Try.results105, go_sem, c2]) rfl ⟨by rw [HZ.out, Hr1.out]; rfl, ?_⟩
    exact bset4 (HH.out.2.2.2.trans (Hb.out.mono (Nat.le_of_lt HH.out.1.1))) (w.heap.size + 1) (by omega) _ _ _ _
  · have hz1 : restR (x * 18446744073709551616) = 1 := by unfold restR at hz ⊢; split <;> simp_all
    have hc : (!((hiW (r * r) : Int) == (x : Int)) || !((loW (r * r) : Int) == 0)) = true := by
      have := Hr2.out
      rw [decide_eq_false hz] at this
      rw [← Bool.not_and, this]; rfl
    have HZ := Lib.hid hz1; clear hz hz1
    have HC := Lib.hid hc; clear hc
    go_upto_if 34 with fail
    rw [HC.out]
    go_wp2
    refine bodyPost_ret (v := .agg #[.bool false, .int .u64 r, .int .u64 1, .int .i64 (X - 64)]) (by simp [results, Try.results105, go_sem, c2]) rfl ⟨by rw [HZ.out, Hr1.out]; rfl, ?_⟩
    exact bset4 (HH.out.2.2.2.trans (Hb.out.mono (Nat.le_of_lt HH.out.1.1))) (w.heap.size + 1) (by omega) _ _ _ _

set_option maxRecDepth 100000 in
set_option maxHeartbeats 2000000 in
theorem root_odd (s : Bool) (m la x : Nat) (e X : Int) (w : World) (he0 : -3000 ≤ e) (he1 : e ≤ 3000) (hm : ((m : Int) == 0) = false) (hla : (la : Int) ≤ 63) (hla1 : 4 ≤ (la : Int))
    (cA : Hid (∀ w, Calls Try.prog 113 #[.int .u64 m] w fun e w' => e = .returned (.int .i64 la) ∧ w = w'))
    (hp : ((e - ((la : Int) - 2)).tmod 2 != 0) = true) (hx : IntKind.u64.wrap ((m : Int) * 2 ^ (la - 2 - 1)) = x) (h1 : 1152921504606846976 ≤ x) (h2 : x < 4611686018427387904)
    (hX : (e - ((la : Int) - 2 - 1) - 64).tdiv 2 = X) (hX0 : -3000 ≤ X) (hX1 : X ≤ 3000) :
    Calls Try.prog 105 #[.agg #[.bool s, .int .u64 m, .int .i64 e]] w fun r' w' => r' = .returned (.agg #[.bool false, .int .u64 (Nat.sqrt (x * 18446744073709551616)), .int .u64 (restR (x * 18446744073709551616)), .int .i64 (X - 64)]) ∧ Below w.heap.size w w' := by
  have cW := Lib.hid (fun w => wholeRoot_any x w h1 h2)
  have hq := run_eq_words
  clear h1 h2
  go_enter Try.func105, Try.ntmps105
  go_wp2_with fail
  refine (cA.out _).mono ?_
  rintro e1 w1 ⟨rfl, rfl⟩
  go_wp2_with fail
  refine (cW.out _).mono ?_
  rintro e1 w1 ⟨r, rfl, hab, hsq, hb⟩
  obtain ⟨hr1, hr2, hr3⟩ := root_is hab hsq
  have Hr1 := Lib.hid hr1
  have Hr2 := Lib.hid hr2
  have cT := Lib.hid (fun w => times_any r r w hr3 hr3)
  obtain ⟨g1, g2, g3, HB⟩ := holds3 hb
  have HH := Lib.hid (And.intro g1 (And.intro g2 (And.intro g3 HB)))
  have s1 := g3.2.1 0
  have s2 := g3.2.1 1
  clear g1 g2 g3 HB hb hab hsq hr1 hr2 hr3
  go_upto_region 9 with fail
  go_region_held3 (fun w' => w'.cell? ⟨w.heap.size + 1 + 1, 0, none⟩ = some (.int .u64 x) ∧ w'.cell? ⟨w.heap.size + 1 + 1, 1, none⟩ = some (.int .u64 0)) (go_keep)
    (first | (refine (cT.out _).mono ?_; rintro r w2 ⟨rfl, hb0⟩; have hb := undrew hb0; clear hb0; have t1 := (HH.out.2.2.1.below hb).2.1 0; have t2 := (HH.out.2.2.1.below hb).2.1 1; have Hb := Lib.hid hb; clear hb))
  obtain ⟨z1, c1, f1⟩ := HH.out.1.below Hb.out
  obtain ⟨z2, c2, f2⟩ := HH.out.2.1.below Hb.out
  have ne1 : ¬ w.heap.size + 1 = w.heap.size := by omega
  clear s1 s2 t1 t2
  by_cases hz : restR (x * 18446744073709551616) = 0
  · have hc : (!((hiW (r * r) : Int) == (x : Int)) || !((loW (r * r) : Int) == 0)) = false := by
      have := Hr2.out
      rw [decide_eq_true hz] at this
      rw [← Bool.not_and, this]; rfl
    have HZ := Lib.hid hz; clear hz
    have HC := Lib.hid hc; clear hc
    go_upto_if 34 with fail
    rw [HC.out]
    go_wp2
    refine bodyPost_ret (v := .agg #[.bool false, .int .u64 r, .int .u64 0, .int .i64 (X - 64)]) (by simp [results, Try.results105, go_sem, c2]) rfl ⟨by rw [HZ.out, Hr1.out]; rfl, ?_⟩
    exact bset4 (HH.out.2.2.2.trans (Hb.out.mono (Nat.le_of_lt HH.out.1.1))) (w.heap.size + 1) (by omega) _ _ _ _
  · have hz1 : restR (x * 18446744073709551616) = 1 := by unfold restR at hz ⊢; split <;> simp_all
    have hc : (!((hiW (r * r) : Int) == (x : Int)) || !((loW (r * r) : Int) == 0)) = true := by
      have := Hr2.out
      rw [decide_eq_false hz] at this
      rw [← Bool.not_and, this]; rfl
    have HZ := Lib.hid hz1; clear hz hz1
    have HC := Lib.hid hc; clear hc
    go_upto_if 34 with fail
    rw [HC.out]
    go_wp2
    refine bodyPost_ret (v := .agg #[.bool false, .int .u64 r, .int .u64 1, .int .i64 (X - 64)]) (by simp [results, Try.results105, go_sem, c2]) rfl ⟨by rw [HZ.out, Hr1.out]; rfl, ?_⟩
    exact bset4 (HH.out.2.2.2.trans (Hb.out.mono (Nat.le_of_lt HH.out.1.1))) (w.heap.size + 1) (by omega) _ _ _ _

end Go.Proofs.Ytdppppaoflhgdaa
